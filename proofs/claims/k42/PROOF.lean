import PyProof.Rows.All
import Wide.All
import OpenK.AllK
import Wide.FinOn
import Lean
import PyProof.EqAt
import PyProof.EqKinds
import PyProof.TupleCall
import PyProof.NeKinds
import PyProof.Draws
import PyProof.ZipIter
import PyProof.DictUpdate
import PyProof.AutoSeq1
import PyProof.ListRange
import PyProof.ListMulRoad
import PyProof.FactsAll.tuple_2
import PyProof.Rows.SortShell
import PyProof.EnumFor
import PyProof.EnumMake
import PyProof.EnumStmt
import PyProof.Rows.SortWalk
import KE.KDictList
import PyProof.SumAny
import PyProof.ConsumeWalk
import PyProof.WalksMore
import PyProof.Rows.TupAssign
import PyProof.ExcArgsOwn
import PySem.Challenge.RW_kindleweb_k42_whole_orders_counted
set_option Elab.async false
set_option linter.all false
set_option maxRecDepth 100000
set_option maxHeartbeats 4000000
section
open PySem PySem.Spec PyProof.Rows
def aI7:=@wpAny_bind
def aI8:=@Heap.get?_push_of_some
def aI9:=@List.size_toArray
def aJ0:=@Nat.le_refl
def aJ1:=@wpAny_pure
def aJ2:=@List.getElem?_eq_getElem
def aJ3:=@List.length_map
def aJ4:=@List.length_append
def aJ5:=@List.mem_singleton
def aJ6:=@List.getElem?_map
def aJ7:=@Nat.lt_of_lt_of_le
def aJ8:=@List.getElem?_eq_some_iff
def aJ9:=@Heap.get?_push_size
def aK0:=@List.mem_cons
def aK1:=@List.mem_cons_self
def aK2:=@Heap.lt_size
def aK3:=@Bool.false_eq_true
def aK4:=@List.getElem?_set_ne
def aK5:=@decide_eq_false
def aK6:=@List.mem_append_right
def aK7:=@Bool.false_ne_true
def aL0:=@List.mem_cons_of_mem
def aL1:=@List.mem_of_getElem?
def aL2:=@List.getD_eq_getElem?_getD
def aL4:=@List.not_mem_nil
def aL5:=@Option.some.inj
def aL7:=@decide_eq_true
def aL8:=@List.pairwise_singleton
def aL9:=@List.mem_append
def aM0:=@List.getElem?_cons_succ
def aM2:=@Bool.and_eq_true
def aM3:=@List.getElem?_set_self
def aM4:=@Nat.ne_of_lt
def aM5:=@List.take_length
def aM7:=@List.length_set
def aM8:=@Nat.le_trans
def aM9:=@List.map_cons
def aN0:=@Nat.zero_le
def aN1:=@PySem.mem_of_lookup
def aN2:=@Nat.lt_irrefl
def aN3:=@List.append_nil
def aN4:=@List.nodup_append
def aN5:=@if_false
def aN6:=@List.length_singleton
def aN9:=@PySem.W.kia_one
def aO0:=@List.length_cons
def aO1:=@List.lookup_cons
def aO2:=@List.take_add_one
def aO3:=@wpAny_mono
def aO4:=@PyProof.Rows.callWith_type1
def aO5:=@List.map_append
def aO9:=@List.mem_map
def aP0:=@List.mem_filter
def aP1:=@beq_self_eq_true
def aP3:=@Nat.le_of_lt
def aP4:=@wpAny_newObj_type
def aP5:=@wpAny_callSpecial?_slot
def aP7:=@List.mem_append_left
def aP9:=@wpAny_call_entry
def aQ0:=@Nat.le_add_right
def aQ1:=@List.getElem?_append_left
def aQ2:=@or_false
def aQ3:=@List.replicate_succ
def aQ5:=@wpAny_field
def aQ6:=@wpAny_holding
def aQ9:=@List.find?_cons
def aR1:=@List.all_eq_true
def aR2:=@wpAny_truthy_bool
def aR4:=@List.getElem?_append_right
def aR7:=@Bool.eq_false_iff
def aR8:=@List.pairwise_map
def aR9:=@List.map_map
def aS0:=@beq_eq_false_iff_ne
def aS1:=@PyProof.Rows.slot_tuple_getitem
def aS3:=@List.length_drop
def aS4:=@Nat.ne_of_gt
def aS8:=@of_decide_eq_true
def aS9:=@Bool.eq_iff_iff
def aT0:=@Int.emod_nonneg
def aT2:=@Array.getD_eq_getD_getElem?
def aT3:=@List.all_cons
def aT5:=@List.length_take
def aT6:=@List.mem_range
def aT8:=@of_decide_eq_false
def aT9:=@wpAny_seqItems
def aU0:=@wpAny_setField_rec
def aU1:=@wpAny_passesOwn
def aU4:=@Int.toNat_natCast
def aU5:=@List.flatten_cons
def aU6:=@List.append_assoc
def aU8:=@decide_eq_true_eq
def aU9:=@List.pairwise_append
def aV1:=@Heap.size_push
def aV2:=@True.intro
end
namespace L2
open PySem PySem.Spec PyProof.Rows
abbrev aD:=Sum Int Str
def jC:aD->Value->Bool
 | .inl k,v=>Value.isInt k v
 | .inr x,v=>Value.isStrOf x v
def P0 (w:World):aD->Int
 | .inl k=>hashInt k
 | .inr x=>hashStr w x
theorem gG:∀ {k:aD}{v:Value},jC k v=true->(∃ i t,k=Sum.inl i/\v=Value.int i t) ∨ (∃ x t,k=Sum.inr x/\v=Value.str x t)
 | .inl i,v,h=>by
  obtain ⟨t,e⟩:=Value.isInt_shape (k:=i) (v:=v) h
  exact .inl ⟨i,t,rfl,e⟩
 | .inr x,v,h=>by
  obtain ⟨t,e⟩:=Value.isStrOf_shape (x:=x) (v:=v) h
  exact .inr ⟨x,t,rfl,e⟩
theorem P3 (i:Int) (t:Tok):jC (.inl i) (.int i t)=true:=by simp [jC,Value.isInt]
theorem P4 (x:Str) (t:Tok):jC (.inr x) (.str x t)=true:=by simp [jC,Value.isStrOf]
theorem P5 (a b:Int):decide ((Sum.inl a:aD)=Sum.inl b)=(a == b):=by
 by_cases e:a=b
 ·subst e; simp
 ·have h : ¬ (Sum.inl a:aD)=Sum.inl b:=fun q=>e (Sum.inl.inj q)
  rw [aK5 h]
  exact (aS0.mpr e).symm
theorem P6 (a b:Str):decide ((Sum.inr a:aD)=Sum.inr b)=decide (a=b):=by
 by_cases e:a=b
 ·subst e; simp
 ·have h : ¬ (Sum.inr a:aD)=Sum.inr b:=fun q=>e (Sum.inr.inj q)
  rw [aK5 h,aK5 e]
theorem P7 (a:Int) (b:Str):decide ((Sum.inl a:aD)=Sum.inr b)=false:=aK5 (fun q=>nomatch q)
theorem P8 (a:Str) (b:Int):decide ((Sum.inr a:aD)=Sum.inl b)=false:=aK5 (fun q=>nomatch q)
def dM (prog:Program) (w:World):PySem.KeyKind prog w aD where
 is:=jC
 hash:=P0 w
 inj:=fun v a b ha hb=>by
  rcases gG ha with ⟨i,t,rfl,rfl⟩ | ⟨x,t,rfl,rfl⟩
  ·rcases gG hb with ⟨j,u,rfl,e⟩ | ⟨y,u,rfl,e⟩
   ·injection e with e1 _; rw [e1]
   ·exact nomatch e
  ·rcases gG hb with ⟨j,u,rfl,e⟩ | ⟨y,u,rfl,e⟩
   ·exact nomatch e
   ·injection e with e1 _; rw [e1]
 byValue:=fun k v h=>by
  rcases gG h with ⟨i,t,rfl,rfl⟩ | ⟨x,t,rfl,rfl⟩ <;> rfl
 pyHash:=fun hv h=>by
  rcases gG hv with ⟨i,t,rfl,rfl⟩ | ⟨x,t,rfl,rfl⟩
  ·exact wpAny_pyHash_int h
  ·exact wpAny_pyHash_str h
 eqBool:=fun hu hv h=>by
  rcases gG hu with ⟨i,t,rfl,rfl⟩ | ⟨x,t,rfl,rfl⟩
  ·rcases gG hv with ⟨j,u,rfl,rfl⟩ | ⟨y,u,rfl,rfl⟩
   ·rw [P5] at h; exact wpAny_eqBool_int h
   ·rw [P7] at h; exact SeqAt.EqAt.int_str i t y u _ _ _ _ h
  ·rcases gG hv with ⟨j,u,rfl,rfl⟩ | ⟨y,u,rfl,rfl⟩
   ·rw [P8] at h; exact SeqAt.EqAt.str_int x t j u _ _ _ _ h
   ·rw [P6] at h; exact wpAny_eqBool_str h
 «strs»:=fun k x t v h=>by
  rcases gG h with ⟨i,u,rfl,e⟩ | ⟨y,u,rfl,e⟩
  ·exact nomatch e
  ·injection e with e1 _
   subst e1
   cases v <;> rfl
theorem P9 (prog:Program) (w:World) (i:Int) (t:Tok):(dM prog w).is (.inl i) (.int i t)=true:=P3 i t
theorem Q0 (prog:Program) (w:World) (x:Str) (t:Tok):(dM prog w).is (.inr x) (.str x t)=true:=P4 x t
inductive V where
 | non | bl (b:Bool) | int (i:Int) | str (x:Str) | byt (b:Array UInt8) | flt (b:UInt64) | ref (a:Addr) | ty (n:String)
 deriving DecidableEq
def aO:V->Value->Prop
 | .non,u=>u=Value.none
 | .bl b,u=>u=Value.bool b
 | .int i,u=>∃ t,u=Value.int i t
 | .str x,u=>∃ t,u=Value.str x t
 | .byt b,u=>∃ t,u=Value.bytes b t
 | .flt b,u=>∃ t,u=Value.float b t
 | .ref a,u=>u=Value.ref a
 | .ty n,u=>u=Value.type n
abbrev aG:List V->List Value->Prop:=Paired aO
theorem aG.length {xs:List V}{us:List Value} (r:aG xs us):xs.length=us.length:=Paired.length r
theorem aG.get:∀ {xs:List V}{us:List Value}{i:Nat}{x:V},aG xs us->xs[i]? = some x->∃ u,us[i]? = some u/\aO x u
 | _,_,_,_,.nil,e=>by simp at e
 | _,_,0,_,.cons r _,e=>by simp at e; subst e; exact⟨_,rfl,r⟩
 | _,_,i+1,x,.cons _ t,e=>by
  obtain ⟨u,h1,h2⟩:=aG.get (i:=i) (x:=x) t (by simpa using e)
  exact⟨u,by simpa using h1,h2⟩
theorem aG.set {x:V}{u:Value} (r:aO x u):∀ {xs:List V}{us:List Value} (i:Nat),aG xs us->aG (xs.set i x) (us.set i u)
 | _,_,_,.nil=>.nil
 | _,_,0,.cons _ t=>.cons r t
 | _,_,i+1,.cons q t=>.cons q (aG.set r i t)
theorem aG.append:∀ {xs ys:List V}{us ws:List Value},aG xs us->aG ys ws->aG (xs ++ ys) (us ++ ws)
 | _,_,_,_,.nil,s=>s
 | _,_,_,_,.cons r t,s=>.cons r (aG.append t s)
theorem aG.take:∀ {xs:List V}{us:List Value} (n:Nat),aG xs us->aG (xs.take n) (us.take n)
 | _,_,0,_=>.nil
 | _,_,_+1,.nil=>.nil
 | _,_,n+1,.cons r t=>.cons r (aG.take n t)
theorem aG.drop:∀ {xs:List V}{us:List Value} (n:Nat),aG xs us->aG (xs.drop n) (us.drop n)
 | _,_,0,r=>r
 | _,_,_+1,.nil=>.nil
 | _,_,n+1,.cons _ t=>aG.drop n t
def fD:Option V->Option Value->Prop
 | some v,some u=>aO v u
 | none,none=>True
 | _,_=>False
def KV {κ:Type}:List (κ × V)->List (κ × Value)->Prop:=Paired fun (p:κ × V) (q:κ × Value)=>p.1=q.1/\aO p.2 q.2
def kV:aD->V
 | .inl i=>.int i
 | .inr x=>.str x
inductive HO where
 | lst (xs:List V)
 | tup (xs:List V)
 | dK (kvs:List (aD × V)) | dT (kvs:List (List aD × V))
 | set (S:Int->Bool) (n:Nat)
 | ins (C dx:Addr) (fs:List (Str × V))
 | own (x:Addr)
 | xd (fs:List (Str × V))
 | met (f x:Addr)
 | rng (lo hi:Int)
 | frz (o:Obj) (u:HO)
 | tbl (ps:Array Value)
 | ext (φ:Heap->Prop)
abbrev Hp:=Addr->Option HO
def upd (H:Hp) (a:Addr) (o:HO):Hp:=fun b=>if b=a then some o else H b
theorem aV {H:Hp}{a:Addr}{o:HO}:upd H a o a=some o:=by unfold upd; rw [if_pos rfl]
theorem aJ {H:Hp}{a b:Addr}{o:HO} (h:b ≠ a):upd H a o b=H b:=by unfold upd; rw [if_neg h]
theorem uP {H:Hp}{a b:Addr}{o u:HO} (h:H a=some o) (h':H b=some u) (d:o ≠ u):a ≠ b:=by
 intro e; subst e; rw [h] at h'; exact d (aL5 h')
theorem cQ {H:Hp}{a b:Addr}{o:HO} (h:H a=some o) (h':H b=none):a ≠ b:=by
 intro e; subst e; rw [h] at h'; cases h'
section
variable (P : Program) (w : World)
def b8 (H:Hp) (h:Heap) (a:Addr):HO->Prop
 | .lst xs=>xs.length<=sizeLine/\∃ (its:List Value) (n:Nat),aG xs its/\h.get? a=some { cls:=.type "list",data:=.seq its.toArray n }
 | .tup xs=>xs.length<=sizeLine/\∃ its:List Value,aG xs its/\IsTup h a its.toArray
 | .dK kvs=>kvs.length<=sizeLine/\(a == sysModules)=false/\∃ vs,KV kvs vs/\h.DictOf (dM P w) a vs
 | .dT kvs=>kvs.length<=sizeLine/\(a == sysModules)=false/\∃ xs:List (List aD × Addr × Value),
   Paired (fun (p:List aD × V) (q:List aD × Addr × Value)=>p.1=q.1/\H q.2.1=some (.tup (p.1.map kV))/\aO p.2 q.2.2) kvs xs/\
   ∃ o es ep,h.get? a=some o/\o.ExactDict/\o.data = .dict es ep/\es.toList=xs.map (entryOfKey (tupleKind (dM P w)))/\(xs.map (·.1)).Nodup
 | .set S n=>h.SetOf (intKind P w) a S n
 | .ins C dx fs=>H dx=some (.own a)/\fs.length<=1000/\dx ≠ a/\h.get? a=some (PySem.W.instObj C dx)/\
   ∃ mA,h.Ns1 dx mA/\(∀ f,fD (fs.lookup f) (mA f))/\PySem.Within mA (fs.map (·.1))
 | .own _=>∃ o,h.get? a=some o
 | .xd fs=>∃ mA,h.Ns1 a mA/\∀ f,fD (fs.lookup f) (mA f)
 | .rng lo hi=>∃ t u v,h.get? a=some { cls:=.type "range",data:=.fields #[.int lo t,.int hi u,.int 1 v] }
 | .frz o u=>h.get? a=some o/\b8 H h a u
 | .tbl ps=>h.get? a=some { cls:=.none,data:=.fields ps }
 | .met f x=>h.get? a=some (PySem.W.methodObj (.ref f) (.ref x))
 | .ext φ=>φ h/\(∃ o,h.get? a=some o)/\∀ h1 h2:Heap,φ h1->(∀ o,h1.get? a=some o->h2.get? a=some o)->φ h2
def bD (H:Hp) (h:Heap):Prop:=∀ a o,H a=some o->b8 P w H h a o
end
section
variable {P : Program} {w : World} {H H' : Hp} {h h' : Heap} {a : Addr} {o : HO}
theorem b8.lt (x:b8 P w H h a o):a < h.objs.size:=by
 cases o with
 | lst xs=>obtain ⟨_,_,_,_,e⟩:=x; exact aK2 e
 | tup xs=>obtain ⟨_,_,_,p⟩:=x; exact p.lt
 | dK kvs=>obtain ⟨_,_,_,_,o,_,_,e,_⟩:=x; exact aK2 e
 | dT kvs=>obtain ⟨_,_,_,_,o,_,_,e,_⟩:=x; exact aK2 e
 | set S n=>obtain ⟨o,_,_,_,e,_⟩:=x; exact aK2 e
 | ins C dx fs=>obtain ⟨_,_,_,e,_⟩:=x; exact aK2 e
 | own y=>obtain ⟨_,e⟩:=x; exact aK2 e
 | xd fs=>obtain ⟨_,⟨_,_,_,e,_⟩,_⟩:=x; exact aK2 e
 | rng lo hi=>obtain ⟨_,_,_,e⟩:=x; exact aK2 e
 | frz ob u=>obtain ⟨e,_⟩:=x; exact aK2 e
 | tbl ps=>exact aK2 (show h.get? a=some _ from x)
 | met f y=>exact aK2 (show h.get? a=some _ from x)
 | ext φ=>obtain ⟨_,⟨_,e⟩,_⟩:=x; exact aK2 e
theorem Paired.mapP {α β:Type}{F G:α->β->Prop}:∀ {l₁:List α}{l₂:List β},Paired F l₁ l₂->(∀ a b,F a b->G a b)->Paired G l₁ l₂
 | _,_,.nil,_=>.nil
 | _,_,.cons r t,f=>.cons (f _ _ r) (Paired.mapP t f)
theorem b8.stay (x:b8 P w H h a o) (k:∀ b u,(b=a ∨ H b=some (.own a))->h.get? b=some u->h'.get? b=some u)
  (ho:∀ b,H b=some (.own a)->H' b=some (.own a)) (ht:∀ b xs,H b=some (.tup xs)->H' b=some (.tup xs)):b8 P w H' h' a o:=by
 induction o with
 | lst xs=>obtain ⟨z,its,n,r,e⟩:=x; exact⟨z,its,n,r,k _ _ (.inl rfl) e⟩
 | tup xs=>obtain ⟨z,its,r,ob,e,c⟩:=x; exact⟨z,its,r,ob,k _ _ (.inl rfl) e,c⟩
 | dK kvs=>obtain ⟨z,y,vs,r,ob,es,ep,e,c⟩:=x; exact⟨z,y,vs,r,ob,es,ep,k _ _ (.inl rfl) e,c⟩
 | dT kvs=>
  obtain ⟨z,y,xs,r,ob,es,ep,e,c⟩:=x
  exact⟨z,y,xs,Paired.mapP r fun p q z=>⟨z.1,ht _ _ z.2.1,z.2.2⟩,ob,es,ep,k _ _ (.inl rfl) e,c⟩
 | set S n=>obtain ⟨ob,es,ep,t,e,c⟩:=x; exact⟨ob,es,ep,t,k _ _ (.inl rfl) e,c⟩
 | ins C dx fs=>
  obtain ⟨d,z,ne,e,mA,⟨od,es,ep,e2,c⟩,r⟩:=x
  exact⟨ho _ d,z,ne,k _ _ (.inl rfl) e,mA,⟨od,es,ep,k _ _ (.inr d) e2,c⟩,r⟩
 | own y=>obtain ⟨ob,e⟩:=x; exact⟨ob,k _ _ (.inl rfl) e⟩
 | xd fs=>obtain ⟨mA,⟨od,es,ep,e,c⟩,r⟩:=x; exact⟨mA,⟨od,es,ep,k _ _ (.inl rfl) e,c⟩,r⟩
 | rng lo hi=>obtain ⟨t,u,v,e⟩:=x; exact⟨t,u,v,k _ _ (.inl rfl) e⟩
 | frz ob u ih=>obtain ⟨e,q⟩:=x; exact⟨k _ _ (.inl rfl) e,ih q⟩
 | tbl ps=>
  have e:h.get? a=some { cls:=.none,data:=.fields ps }:=x
  show h'.get? a=some { cls:=.none,data:=.fields ps }
  exact k a _ (.inl rfl) e
 | met f y=>
  have e:h.get? a=some (PySem.W.methodObj (.ref f) (.ref y)):=x
  show h'.get? a=some (PySem.W.methodObj (.ref f) (.ref y))
  exact k a _ (.inl rfl) e
 | ext φ=>obtain ⟨p,⟨o,e⟩,st⟩:=x; exact⟨st _ _ p fun o q=>k _ _ (.inl rfl) q,⟨o,k _ _ (.inl rfl) e⟩,st⟩
theorem bD.lt (x:bD P w H h) (e:H a=some o):a < h.objs.size:=(x a o e).lt
theorem bD.fresh (x:bD P w H h) (e:h.objs.size<=a):H a=none:=by
 cases q:H a with
 | none=>rfl
 | some u=>exact absurd (aJ7 (x.lt q) e) (aN2 _)
theorem bD.kept (x:bD P w H h) (k:∀ b u,h.get? b=some u->h'.get? b=some u):bD P w H h':=fun a o e=>
 (x a o e).stay (fun b u _ q=>k b u q) (fun _ q=>q) fun _ _ q=>q
theorem bD.laid (x:bD P w H h) (k:∀ b u,h.get? b=some u->h'.get? b=some u) (hp:h.objs.size<=a) (new:b8 P w (upd H a o) h' a o):bD P w (upd H a o) h':=fun b u e=>by
 have hn:=x.fresh hp
 by_cases hb:b=a
 ·subst hb; rw [aV] at e; cases e; exact new
 ·rw [aJ hb] at e
  exact (x b u e).stay (fun c v _ q=>k c v q) (fun c q=>by rw [aJ (cQ q hn)]; exact q) fun c xs q=>by rw [aJ (cQ q hn)]; exact q
end
def Rd (H:Hp) (a:Addr) (u:HO):Prop:=H a=some u ∨ ∃ o,H a=some (.frz o u)
theorem Rd.ok {P:Program}{w:World}{H:Hp}{h:Heap}{a:Addr}{u:HO} (r:Rd H a u) (x:bD P w H h):b8 P w H h a u:=by
 rcases r with r | ⟨o,r⟩
 ·exact x a u r
 ·obtain ⟨_,q⟩:=x a _ r
  exact q
def kJ:Option HO->Prop
 | some (.lst _)=>True
 | some (.dK _)=>True
 | some (.dT _)=>True
 | some (.set _ _)=>True
 | some (.ins _ _ _)=>True
 | some (.ext _)=>True
 | _=>False
section
variable {P : Program} {w : World} {H : Hp} {h h' : Heap} {x e : Addr} {o' : HO}
theorem bD.write (ok:bD P w H h) (mu:kJ (H x)) (he:e=x ∨ H e=some (.own x)) (k:∀ b u,b ≠ e->h.get? b=some u->h'.get? b=some u) (heo:∃ u,h'.get? e=some u)
  (new:b8 P w (upd H x o') h' x o'):bD P w (upd H x o') h':=fun b u q=>by
 have nown:∀ c y,H c=some (.own y)->c ≠ x:=fun c y r z=>by subst z; rw [r] at mu; exact mu
 have ntup:∀ c xs,H c=some (.tup xs)->c ≠ x:=fun c xs r z=>by subst z; rw [r] at mu; exact mu
 by_cases hb:b=x
 ·subst hb; rw [aV] at q; cases q; exact new
 ·rw [aJ hb] at q
  by_cases hbe:b=e
  ·have q':H b=some (.own x):=by
    rcases he with z | z
    ·exact absurd (hbe.trans z) hb
    ·rw [hbe]; exact z
   rw [q] at q'; cases q'
   obtain ⟨v,hv⟩:=heo
   exact⟨v,by rw [hbe]; exact hv⟩
  ·refine (ok b u q).stay (fun c v hc r=>k c v ?_ r) (fun c r=>by rw [aJ (nown c b r)]; exact r) fun c xs r=>by rw [aJ (ntup c xs r)]; exact r
   rcases hc with rfl | hc
   ·exact hbe
   ·rintro rfl
    rcases he with z | z
    ·exact nown c b hc z
    ·rw [hc] at z; cases z; exact hb rfl
end
structure Un (fs ex:List Addr) (H H':Hp) (h h':Heap):Prop where
 keep:∀ b o,h.get? b=some o->H b=none->b ∉ fs->b ∉ ex->h'.get? b=some o
 slot:∀ b o,h.get? b=some o->H b=none->b ∈ fs->b ∉ ex->∃ sl,h'.get? b=some { o with slots:=sl }
 free:∀ b o,h.get? b=some o->H b=none->b ∉ ex->H' b=none
 there:∀ b o,h.get? b=some o->b ∉ ex->∃ o',h'.get? b=some o'
 tups:∀ b xs,H b=some (.tup xs)->H' b=some (.tup xs)
 frzs:∀ b o u,H b=some (.frz o u)->H' b=some (.frz o u)
 tbls:∀ b ps,H b=some (.tbl ps)->∃ more,H' b=some (.tbl (ps ++ more))
section
variable {fs fs' ex ex' : List Addr} {H H1 H2 : Hp} {h h1 h2 h' : Heap} {a x e : Addr} {o : HO}
theorem Un.any (u:Un fs ex H H1 h h1) {b:Addr}{ob:Obj} (q:h.get? b=some ob) (n:H b=none) (hx:b ∉ ex):∃ sl,h1.get? b=some { ob with slots:=sl }:=by
 by_cases hb:b ∈ fs
 ·exact u.slot b ob q n hb hx
 ·exact⟨ob.slots,u.keep b ob q n hb hx⟩
theorem Un.kept (k:∀ b u,h.get? b=some u->h'.get? b=some u):Un fs ex H H h h':=
 ⟨fun b ob q _ _ _=>k b ob q,fun b ob q _ _ _=>⟨ob.slots,k b ob q⟩,fun _ _ _ n _=>n,fun b ob q _=>⟨ob,k b ob q⟩,fun _ _ q=>q,fun _ _ _ q=>q,fun _ ps q=>⟨#[],by rw [q]; simp⟩⟩
theorem Un.refl:Un fs ex H H h h:=Un.kept fun _ _ q=>q
theorem Un.laid (k:∀ b u,h.get? b=some u->h'.get? b=some u) (hp:h.objs.size<=a) (hn:H a=none):Un fs ex H (upd H a o) h h' where
 keep:=fun b u q _ _ _=>k b u q
 slot:=fun b u q _ _ _=>⟨u.slots,k b u q⟩
 free:=fun b u q n _=>by rw [aJ (aM4 (aJ7 (aK2 q) hp))]; exact n
 there:=fun b u q _=>⟨u,k b u q⟩
 tups:=fun b xs q=>by rw [aJ (cQ q hn)]; exact q
 frzs:=fun b u xs q=>by rw [aJ (cQ q hn)]; exact q
 tbls:=fun b ps q=>⟨#[],by rw [aJ (cQ q hn),q]; simp⟩
theorem Un.write (mu:kJ (H x)) (he:e=x ∨ H e=some (.own x)) (k:∀ b u,b ≠ e->h.get? b=some u->h'.get? b=some u) (heo:∃ u,h'.get? e=some u):Un fs ex H (upd H x o) h h':=by
 have hx:∀ b,H b=none->b ≠ x:=fun b n z=>by subst z; rw [n] at mu; exact mu
 have hb:∀ b,H b=none->b ≠ e:=fun b n z=>by
  subst z
  rcases he with r | r
  ·exact hx b n r
  ·rw [n] at r; cases r
 have hm:∀ b u,H b=some u->¬ kJ (some u)->b ≠ x:=fun b u q nm z=>by subst z; rw [q] at mu; exact nm mu
 refine⟨fun b u q n _ _=>k b u (hb b n) q,fun b u q n _ _=>⟨u.slots,k b u (hb b n) q⟩,fun b u q n _=>by rw [aJ (hx b n)]; exact n,fun b u q _=>?_,
  fun b xs q=>by rw [aJ (hm b _ q fun z=>z)]; exact q,fun b u xs q=>by rw [aJ (hm b _ q fun z=>z)]; exact q,fun b ps q=>⟨#[],by rw [aJ (hm b _ q fun z=>z),q]; simp⟩⟩
 by_cases hbe:b=e
 ·subst hbe; exact heo
 ·exact⟨u,k b u hbe q⟩
end
def mH (h:Heap) (H:Hp):List Addr:=(List.range h.objs.size).filter fun a=>(H a).isSome
def gH (h:Heap) (H:Hp):Heap:=PySem.W.hideAll h (mH h H)
theorem Q2 (h:Heap) (H:Hp):(gH h H).objs.size=h.objs.size:=PySem.W.hideAll_size _ _
theorem Q3 {h:Heap}{H:Hp}{b:Addr}{o:Obj} (e:h.get? b=some o) (n:H b=none):(gH h H).get? b=some o:=
 PySem.W.hideAll_get _ e fun hm=>by
  have q:(H b).isSome=true:=(aP0.mp hm).2
  rw [n] at q; simp at q
theorem Q4 {h:Heap}{H:Hp}{b:Addr}{o:Obj} (e:(gH h H).get? b=some o):h.get? b=some o/\H b=none:=by
 have e':h.get? b=some o:=PySem.W.of_hideAll (mH h H) e
 refine⟨e',?_⟩
 cases q:H b with
 | none=>rfl
 | some x=>
  have hm:b ∈ mH h H:=aP0.mpr ⟨aT6.mpr (aK2 e'),by simp [q]⟩
  have z:(gH h H).get? b=none:=PySem.W.hideAll_none (mH h H) hm
  rw [z] at e; cases e
def kK (g h:Heap) (L:Addr):List (Addr × Obj):=(List.range h.objs.size).filterMap fun a=>if a=L ∨ (g.get? a).isSome=true then none else (h.get? a).map fun o=>(a,o)
theorem uQ {g h:Heap}{L a:Addr}{o:Obj} (h1:a ≠ L) (h2:g.get? a=none) (h3:h.get? a=some o):(a,o) ∈ kK g h L:=
 List.mem_filterMap.mpr ⟨a,aT6.mpr (aK2 h3),by simp [h1,h2,h3]⟩
theorem Q5 {g h:Heap}{L:Addr}{p:Addr × Obj} (hp:p ∈ kK g h L):p.1 ≠ L/\g.get? p.1=none/\h.get? p.1=some p.2:=by
 obtain ⟨b,_,e⟩:=List.mem_filterMap.mp hp
 split at e
 ·cases e
 ·rename_i hn
  cases q:h.get? b with
  | none=>rw [q] at e; simp at e
  | some u=>
   rw [q] at e
   simp only [Option.map_some,Option.some.injEq] at e
   subst e
   refine⟨fun z=>hn (.inl z),?_,q⟩
   show g.get? b=none
   cases r:g.get? b with
   | none=>rfl
   | some v=>exact (hn (.inr (by simp [r]))).elim
def bT (g h:Heap) (L d:Addr):List (Addr × Obj):=(kK g h L).filter fun p=>decide (p.1 ≠ d)
theorem Q6 {g h:Heap}{L:Addr}:News g L h (kK g h L):=fun p hp=>let ⟨a,b,c⟩:=Q5 hp; ⟨c,a,b⟩
structure Mod (K:PySem.W.Frag) (mg:Str->Option Value) (base:Heap):Prop where
 kin:K.In base
 glob:base.Ns mainGlobals mg
 blt:∃ mb,base.Ns builtinsNs mb/\∀ x:Str,x ≠ "__name__"->mb x=bootBuiltins x
 nolimit:base.NoLimit
structure Cx where
 prog:Program
 w:World
 K:PySem.W.Frag
 mg:Str->Option Value
 base:Heap
 A:Around
 N:List Str
 s₀:Shared
 H₀:Hp
 env:Env
 outer:List Env
 stack:List Env
 ex:List Addr
 fn:Str->Bool
 calm:Bool
 pn:List (Addr × Obj)
 xe:Value->Shared->Prop
def bA (l:List Env):List Addr:=l.filterMap (·.frame)
abbrev Cx.fs (X:Cx):List Addr:=bA X.outer
def eL (sc:Scope) (x:Str):Prop:=sc.names.lookup x=some .local ∨ sc.names.lookup x=some .cell ∨ sc.names.lookup x=some .free
def gI (sc:Scope) (x:Str):Prop:=sc.names.lookup x=some .local ∨ sc.names.lookup x=some .cell
def Q7 (env:Env) (h:Heap) (m:Str->Option Value) (x:Str) (u:Value):Prop:=
 (env.kindOf x=some .local/\m x=some u) ∨ ((env.kindOf x=some .cell ∨ env.kindOf x=some .free)/\∃ c,env.cells.lookup x=some c/\h.IsCell c (some u))
structure Cx.Ok (X:Cx):Prop where
 mod:Mod X.K X.mg X.base
 kind:X.env.scope.kind = .function
 glob:X.env.globals=mainGlobals
 blt:X.env.builtins=builtinsNs
 above:X.s₀.heap.objs.size<=X.env.locals
 inj:∀ x y c,X.env.cells.lookup x=some c->X.env.cells.lookup y=some c->x=y
 has:∀ x,(X.env.kindOf x=some .cell ∨ X.env.kindOf x=some .free)->∃ c,X.env.cells.lookup x=some c
 cab:∀ x c,X.fn x=true->X.env.cells.lookup x=some c->X.s₀.heap.objs.size<=c
 hd:X.calm=true->X.A.handled=none
 frames:X.A.frames=some X.stack
 stk:X.stack=X.outer ∨ (X.stack=X.env :: X.outer/\X.env.frame=some X.env.locals)
 exf:∀ b ∈ X.ex,b ≠ X.env.locals/\∀ x c,X.env.cells.lookup x=some c->c ≠ b
 bs:∀ b o,X.base.get? b=some o->X.s₀.heap.get? b=some o/\X.H₀ b=none
 bsz:X.base.objs.size<=X.s₀.heap.objs.size
 noex:∀ b o,X.base.get? b=some o->b ∉ X.ex
 exfs:∀ b ∈ X.ex,b ∉ X.fs
 funs:X.s₀.heap.FunFrames X.base X.outer
 frf:∀ b ∈ X.fs,X.H₀ b=none
structure a5 (X:Cx) (pins:List (Addr × Obj)) (σ:List (Option V)) (H:Hp) (s:Shared):Prop where
 ok:X.Ok
 os:s.os=X.s₀.os
 bare:AllBare s.gens
 base:Un X.fs X.ex X.H₀ H X.s₀.heap s.heap
 loc:∃ m,s.heap.Ns X.env.locals m/\∀ (i:Nat) (x:Str) (v:V),X.N[i]? = some x->σ[i]? = some (some v)->eL X.env.scope x->∃ u,aO v u/\Q7 X.env s.heap m x u
 cell:∀ x c,X.env.cells.lookup x=some c->∃ v,s.heap.IsCell c v
 free:H X.env.locals=none
 freeC:∀ x c,X.env.cells.lookup x=some c->H c=none
 pin:∀ p ∈ X.pn ++ pins,s.heap.get? p.1=some p.2/\H p.1=none/\p.1 ≠ X.env.locals/\p.1 ∉ X.fs/\∀ v,p.2.data ≠ .cell v
 hok:bD X.prog X.w H s.heap
 len:σ.length=X.N.length
section
variable {X : Cx} {pins : List (Addr × Obj)} {σ : List (Option V)} {H H' : Hp} {s : Shared} {h' : Heap}
theorem Cx.Ok.nofr (ok:X.Ok) {b:Addr}{o:Obj} (e:X.base.get? b=some o):b ∉ X.fs:=fun hb=>by
 have:=(ok.funs.mem hb).1
 rw [e] at this; cases this
theorem a5.bs (I:a5 X pins σ H s):∀ b o,X.base.get? b=some o->s.heap.get? b=some o/\H b=none:=fun b o e=>
 ⟨I.base.keep b o (I.ok.bs b o e).1 (I.ok.bs b o e).2 (I.ok.nofr e) (I.ok.noex b o e),I.base.free b o (I.ok.bs b o e).1 (I.ok.bs b o e).2 (I.ok.noex b o e)⟩
theorem a5.bk (I:a5 X pins σ H s):∀ b o,X.base.get? b=some o->s.heap.get? b=some o:=fun b o e=>(I.bs b o e).1
theorem a5.mod (I:a5 X pins σ H s):Mod X.K X.mg X.base:=I.ok.mod
theorem a5.kIn (I:a5 X pins σ H s):X.K.In s.heap:=I.ok.mod.kin.keeps I.bk
theorem a5.fr (I:a5 X pins σ H s):∃ m,Fr X.base X.env.locals s.heap m:=
 let ⟨m,hn,_⟩:=I.loc
 ⟨m,hn,I.bk,aM8 I.ok.bsz I.ok.above⟩
theorem a5.lt (I:a5 X pins σ H s):X.env.locals < s.heap.objs.size:=let ⟨_,hn,_⟩:=I.loc; hn.lt
theorem a5.sz (I:a5 X pins σ H s):X.s₀.heap.objs.size<=s.heap.objs.size:=aM8 I.ok.above (aP3 I.lt)
theorem a5.nofs (I:a5 X pins σ H s) {a:Addr} (h:s.heap.objs.size<=a):a ∉ X.fs:=fun hb=>by
 obtain ⟨_,o,ho,_⟩:=I.ok.funs.mem hb
 exact absurd (aJ7 (aK2 ho) (aM8 I.sz h)) (aN2 _)
theorem a5.cne (I:a5 X pins σ H s):∀ x c,X.env.cells.lookup x=some c->c ≠ X.env.locals:=fun x c e z=>by
 obtain ⟨v,o,ho,hd⟩:=I.cell x c e
 obtain ⟨m,⟨o',es,ep,ho',hd',_⟩,_⟩:=I.loc
 rw [z,ho'] at ho; cases ho; rw [hd'] at hd; cases hd
theorem a5.funs (I:a5 X pins σ H s):s.heap.FunFrames X.base X.outer:=by
 have all:∀ (l:List Env),(∀ b ∈ bA l,b ∈ X.fs)->X.s₀.heap.FunFrames X.base l->s.heap.FunFrames X.base l:=by
  intro l
  induction l with
  | nil=>intro _ _; trivial
  | cons env r ih=>
   intro hs hl
   obtain ⟨hk,⟨L,o,hf,hn,ho,hd⟩,hr⟩:=hl
   have hL:L ∈ X.fs:=hs L (by unfold bA; rw [List.filterMap_cons,hf]; exact aK1)
   obtain ⟨sl,e⟩:=I.base.slot L o ho (I.ok.frf L hL) hL fun z=>I.ok.exfs L z hL
   exact⟨hk,⟨L,_,hf,hn,e,hd⟩,ih (fun b hb=>hs b (by unfold bA; rw [List.filterMap_cons,hf]; exact aL0 _ hb)) hr⟩
 exact all X.outer (fun _ hb=>hb) I.ok.funs
theorem a5.stack (I:a5 X pins σ H s):s.heap.FunFrames X.base X.stack:=by
 rcases I.ok.stk with e | ⟨e,hf⟩
 ·rw [e]; exact I.funs
 ·rw [e]
  obtain ⟨m,hn,_⟩:=I.loc
  refine .cons (by rw [I.ok.kind]; decide) hf hn ?_ I.funs
  exact Heap.get?_none_of_le (aM8 I.ok.bsz I.ok.above)
theorem a5.stkSub (I:a5 X pins σ H s):∀ b ∈ bA X.stack,b ∈ X.env.locals :: X.fs:=fun b hb=>by
 rcases I.ok.stk with e | ⟨e,hf⟩
 ·rw [e] at hb; exact aL0 _ hb
 ·rw [e] at hb
  unfold bA at hb
  rw [List.filterMap_cons,hf] at hb
  exact hb
theorem a5.stkFree (I:a5 X pins σ H s):∀ b ∈ bA X.stack,H b=none:=fun b hb=>by
 rcases aK0.mp (I.stkSub b hb) with e | hb
 ·rw [e]; exact I.free
 ·obtain ⟨_,o,ho,_⟩:=I.ok.funs.mem hb
  exact I.base.free b o ho (I.ok.frf b hb) fun z=>I.ok.exfs b z hb
theorem a5.step {g':Array GenState}{t':Nat}{d':Drawn}{ch:List Addr} (I:a5 X pins σ H s)
  (hch:∀ b ∈ ch,(b ∈ X.ex ∨ X.s₀.heap.objs.size<=b)/\b ≠ X.env.locals/\(∀ x c,X.env.cells.lookup x=some c->c ≠ b)/\∀ p ∈ X.pn ++ pins,p.1 ≠ b)
  (keep:∀ b o,b ≠ X.env.locals->b ∉ X.fs->b ∉ ch->s.heap.get? b=some o->H b=none->h'.get? b=some o)
  (slot:∀ b o,b ≠ X.env.locals->b ∈ X.fs->b ∉ ch->s.heap.get? b=some o->H b=none->∃ sl,h'.get? b=some { o with slots:=sl }) (free:∀ b o,b ∉ ch->s.heap.get? b=some o->H b=none->H' b=none)
  (there:∀ b o,b ∉ ch->s.heap.get? b=some o->∃ o',h'.get? b=some o')
  (tups:∀ b xs,H b=some (.tup xs)->H' b=some (.tup xs)) (frzs:∀ b o u,H b=some (.frz o u)->H' b=some (.frz o u)) (tbls:∀ b ps,H b=some (.tbl ps)->∃ more,H' b=some (.tbl (ps ++ more)))
  (ns:∀ m,s.heap.Ns X.env.locals m->h'.Ns X.env.locals m) (hok:bD X.prog X.w H' h') (hg:AllBare g') :
  a5 X pins σ H' { s with heap:=h',gens:=g',drawn:=d',toks:=t' }:=by
 have neL:∀ b o,X.s₀.heap.get? b=some o->b ≠ X.env.locals:=fun b o e=>aM4 (aJ7 (aK2 e) I.ok.above)
 have neC:∀ b o,X.s₀.heap.get? b=some o->b ∉ X.ex->b ∉ ch:=fun b o e hx hb=>by
  rcases (hch b hb).1 with z | z
  ·exact hx z
  ·exact absurd (aJ7 (aK2 e) z) (aN2 _)
 have cellK:∀ x c,X.env.cells.lookup x=some c->∀ v,s.heap.IsCell c v->h'.IsCell c v:=fun x c e v ⟨o,ho,hd⟩=>by
  have nch:c ∉ ch:=fun z=>(hch c z).2.2.1 x c e rfl
  by_cases hc:c ∈ X.fs
  ·obtain ⟨sl,q⟩:=slot c o (I.cne x c e) hc nch ho (I.freeC x c e)
   exact⟨_,q,hd⟩
  ·exact⟨o,keep c o (I.cne x c e) hc nch ho (I.freeC x c e),hd⟩
 refine⟨I.ok,I.os,hg,⟨fun b o e n hb hx=>?_,fun b o e n hb hx=>?_,fun b o e n hx=>?_,fun b o e hx=>?_,fun b xs e=>tups b xs (I.base.tups b xs e),fun b o xs e=>frzs b o xs (I.base.frzs b o xs e),fun b ps e=>?_⟩,?_,fun x c e=>?_,?_,fun x c e=>?_,fun p hp=>?_,hok,I.len⟩
 ·exact keep b o (neL b o e) hb (neC b o e hx) (I.base.keep b o e n hb hx) (I.base.free b o e n hx)
 ·obtain ⟨sl,e1⟩:=I.base.slot b o e n hb hx
  obtain ⟨sl',e2⟩:=slot b _ (neL b o e) hb (neC b o e hx) e1 (I.base.free b o e n hx)
  exact⟨sl',e2⟩
 ·obtain ⟨o',e1⟩:=I.base.there b o e hx
  exact free b o' (neC b o e hx) e1 (I.base.free b o e n hx)
 ·obtain ⟨o',e1⟩:=I.base.there b o e hx
  exact there b o' (neC b o e hx) e1
 ·obtain ⟨m1,e1⟩:=I.base.tbls b ps e
  obtain ⟨m2,e2⟩:=tbls b _ e1
  exact⟨m1 ++ m2,by rw [e2,Array.append_assoc]⟩
 ·obtain ⟨m,hn,hl⟩:=I.loc
  refine⟨m,ns m hn,fun i x v e1 e2 e3=>?_⟩
  obtain ⟨u,r,l⟩:=hl i x v e1 e2 e3
  refine⟨u,r,?_⟩
  rcases l with l | ⟨k,c,e,z⟩
  ·exact .inl l
  ·exact .inr ⟨k,c,e,cellK x c e _ z⟩
 ·obtain ⟨v,z⟩:=I.cell x c e
  exact⟨v,cellK x c e v z⟩
 ·obtain ⟨m,⟨o,_,_,ho,_⟩,_⟩:=I.loc
  exact free _ o (fun z=>(hch _ z).2.1 rfl) ho I.free
 ·obtain ⟨v,o,ho,hd⟩:=I.cell x c e
  exact free c o (fun z=>(hch c z).2.2.1 x c e rfl) ho (I.freeC x c e)
 ·obtain ⟨e,n,ne,nf,d⟩:=I.pin p hp
  have nch:p.1 ∉ ch:=fun z=>(hch p.1 z).2.2.2 p hp rfl
  exact⟨keep p.1 p.2 ne nf nch e n,free p.1 p.2 nch e n,ne,nf,d⟩
theorem a5.un {t':Nat} (I:a5 X pins σ H s) (u:Un X.fs [] H H' s.heap h') (hok:bD X.prog X.w H' h'):a5 X pins σ H' { s with heap:=h',toks:=t' }:=by
 obtain ⟨m,⟨o,es,ep,ho,r⟩,_⟩:=id I.loc
 obtain ⟨sl,hL⟩:=u.any ho I.free (by simp)
 exact I.step (g':=s.gens) (d':=s.drawn) (ch:=[]) (fun _ z=>nomatch z) (fun b o _ hb _ e n=>u.keep b o e n hb (by simp)) (fun b o _ hb _ e n=>u.slot b o e n hb (by simp)) (fun b o _ e n=>u.free b o e n (by simp)) (fun b o _ e=>u.there b o e (by simp)) u.tups u.frzs u.tbls (fun m' hm=>by
  obtain ⟨o',es',ep',ho',r'⟩:=hm
  rw [ho] at ho'; cases ho'
  exact⟨_,es',ep',hL,r'⟩) hok I.bare
theorem a5.call {g':Array GenState}{t':Nat}{d':Drawn}{ch:List Addr} (I:a5 X pins σ H s) (u:Un (bA X.stack) ch H H' s.heap h') (hok:bD X.prog X.w H' h') (hg:AllBare g')
  (hch:∀ b ∈ ch,(b ∈ X.ex ∨ X.s₀.heap.objs.size<=b)/\b ≠ X.env.locals/\(∀ x c,X.env.cells.lookup x=some c->c ≠ b)/\∀ p ∈ X.pn ++ pins,p.1 ≠ b) :
  a5 X pins σ H' { s with heap:=h',gens:=g',drawn:=d',toks:=t' }:=by
 obtain ⟨m,⟨o,es,ep,ho,r⟩,_⟩:=id I.loc
 obtain ⟨sl,hL⟩:=u.any ho I.free fun z=>(hch _ z).2.1 rfl
 exact I.step (ch:=ch) hch (fun b o hL hb hc e n=>u.keep b o e n (fun z=>(aK0.mp (I.stkSub b z)).elim hL hb) hc) (fun b o _ _ hc e n=>u.any e n hc) (fun b o hc e n=>u.free b o e n hc) (fun b o hc e=>u.there b o e hc) u.tups u.frzs u.tbls (fun m' hm=>by
  obtain ⟨o',es',ep',ho',r'⟩:=hm
  rw [ho] at ho'; cases ho'
  exact⟨_,es',ep',hL,r'⟩) hok hg
theorem a5.turned {t':Nat}{it:Addr} (I:a5 X pins σ H s) (k:∀ b o,b ≠ it->s.heap.get? b=some o->h'.get? b=some o) (hn:H it=none) (hL:it ≠ X.env.locals)
  (h1:it ∈ X.ex ∨ X.s₀.heap.objs.size<=it) (h2:∀ x c,X.env.cells.lookup x=some c->c ≠ it) (h3:∀ p ∈ X.pn ++ pins,p.1 ≠ it):a5 X pins σ H { s with heap:=h',toks:=t' }:=by
 have nit:∀ b u,H b=some u->b ≠ it:=fun b u e z=>by rw [z,hn] at e; cases e
 refine I.step (g':=s.gens) (d':=s.drawn) (ch:=[it]) (fun b hb=>?_) (fun b o _ _ hc e _=>k b o (fun z=>hc (by simp [z])) e) (fun b o _ _ hc e _=>⟨o.slots,k b o (fun z=>hc (by simp [z])) e⟩) (fun _ _ _ _ n=>n)
  (fun b o hc e=>⟨o,k b o (fun z=>hc (by simp [z])) e⟩) (fun _ _ e=>e) (fun _ _ _ e=>e) (fun b ps e=>⟨#[],by rw [e]; simp⟩) (fun m hm=>?_) (fun b u e=>?_) I.bare
 ·have e:b=it:=by simpa using hb
  subst e
  exact⟨h1,hL,h2,h3⟩
 ·obtain ⟨o,es,ep,ho,r⟩:=hm
  exact⟨o,es,ep,k _ o (Ne.symm hL) ho,r⟩
 ·refine (I.hok b u e).stay (fun c v hc q=>k c v ?_ q) (fun _ q=>q) fun _ _ q=>q
  rcases hc with z | z
  ·rw [z]; exact nit b u e
  ·exact nit c _ z
theorem a5.tok (I:a5 X pins σ H s) (t:Nat):a5 X pins σ H { s with toks:=t }:=I.un (h':=s.heap) (t':=t) Un.refl I.hok
theorem a5.kept {t':Nat} (I:a5 X pins σ H s) (k:∀ b u,s.heap.get? b=some u->h'.get? b=some u):a5 X pins σ H { s with heap:=h',toks:=t' }:=I.un (Un.kept k) (I.hok.kept k)
theorem a5.laid {a:Addr}{o:HO}{t':Nat} (I:a5 X pins σ H s) (k:∀ b u,s.heap.get? b=some u->h'.get? b=some u) (hp:s.heap.objs.size<=a) (new:b8 X.prog X.w (upd H a o) h' a o) :
  a5 X pins σ (upd H a o) { s with heap:=h',toks:=t' }:=I.un (Un.laid k hp (I.hok.fresh hp)) (I.hok.laid k hp new)
theorem a5.write {x e:Addr}{o:HO}{t':Nat} (I:a5 X pins σ H s) (mu:kJ (H x)) (he:e=x ∨ H e=some (.own x)) (k:∀ b u,b ≠ e->s.heap.get? b=some u->h'.get? b=some u) (heo:∃ u,h'.get? e=some u)
  (new:b8 X.prog X.w (upd H x o) h' x o):a5 X pins σ (upd H x o) { s with heap:=h',toks:=t' }:=I.un (Un.write mu he k heo) (I.hok.write mu he k heo new)
theorem a5.weak {σ':List (Option V)} (I:a5 X pins σ H s) (hl:σ'.length=σ.length) (w:∀ (i:Nat) v,σ'[i]? = some (some v)->σ[i]? = some (some v)):a5 X pins σ' H s:=
 ⟨I.ok,I.os,I.bare,I.base,let ⟨m,hn,hl'⟩:=I.loc; ⟨m,hn,fun i x v e1 e2 e3=>hl' i x v e1 (w i v e2) e3⟩,I.cell,I.free,I.freeC,I.pin,I.hok,hl.trans I.len⟩
theorem a5.pins_of {pins':List (Addr × Obj)} (I:a5 X pins σ H s) (h:∀ p ∈ pins',s.heap.get? p.1=some p.2/\H p.1=none/\p.1 ≠ X.env.locals/\p.1 ∉ X.fs/\∀ v,p.2.data ≠ .cell v):a5 X pins' σ H s:=
 ⟨I.ok,I.os,I.bare,I.base,I.loc,I.cell,I.free,I.freeC,fun p hp=>(aL9.mp hp).elim (fun z=>I.pin p (aP7 _ z)) (h p),I.hok,I.len⟩
theorem pV {N:List Str} (hN:N.Nodup) {i j:Nat}{x:Str} (a:N[i]? = some x) (b:N[j]? = some x):i=j:=by
 obtain ⟨h1,e1⟩:=aJ8.mp a
 obtain ⟨h2,e2⟩:=aJ8.mp b
 exact (List.getElem_inj hN).mp (e1.trans e2.symm)
theorem pW {M:Model}{A:Around}{E:Value->Shared->Prop}{i:Nat}{x:Str}{v:V}{u:Value}{Q:Unit->Shared->Prop} (I:a5 X pins σ H s) (hN:X.N.Nodup) (hi:X.N[i]? = some x) (hx:gI X.env.scope x) (r:aO v u)
  (h:∀ s',a5 X pins (σ.set i (some v)) H s'->(∃ a,Heap.SameBut a s.heap s'.heap/\(a=X.env.locals ∨ X.env.cells.lookup x=some a))->Q () s') (hf:X.fn x=true ∨ X.env.scope.names.lookup x=some .local:=by first | exact .inl rfl | exact .inr rfl | assumption):wpAny M A (storeName X.env x u) Q E s:=by
 obtain ⟨m,hn,hl⟩:=id I.loc
 have hcls:(X.env.scope.kind == .class || (X.env.scope.kind == .module && X.env.locals != X.env.globals))=false:=by rw [I.ok.kind]; rfl
 have hiσ:i < σ.length:=by rw [I.len]; exact (aJ8.mp hi).1
 have cne:=I.cne
 have tracked:∀ {a:Addr}{h':Heap},(∃ o,s.heap.get? a=some o/\H a=none)->Heap.SameBut a s.heap h'->bD X.prog X.w H h':=fun {a h'} ha hs b ob e=>by
  obtain ⟨_,_,hfree⟩:=ha
  refine (I.hok b ob e).stay (fun c w' hc q=>(hs.2 c ?_).trans q) (fun _ q=>q) fun _ _ q=>q
  rintro rfl
  rcases hc with rfl | hc
  ·rw [hfree] at e; cases e
  ·rw [hfree] at hc; cases hc
 rcases hx with hk | hk
 ·refine wpAny_storeName_local hk hn (fun h' hn' hs=>?_) hcls
  obtain ⟨oL,_,_,hoL,_⟩:=id hn
  refine h _ ⟨I.ok,I.os,I.bare,⟨fun b o e n hb hx=>?_,fun b o e n hb hx=>?_,I.base.free,fun b o e hx=>?_,I.base.tups,I.base.frzs,I.base.tbls⟩,⟨_,hn',fun j y v' e1 e2 e3=>?_⟩,fun y c e=>?_,I.free,I.freeC,fun p hp=>?_,tracked ⟨oL,hoL,I.free⟩ hs,by simpa using I.len⟩ ⟨_,hs,.inl rfl⟩
  ·exact (hs.2 b (aM4 (aJ7 (aK2 e) I.ok.above))).trans (I.base.keep b o e n hb hx)
  ·obtain ⟨sl,e1⟩:=I.base.slot b o e n hb hx
   exact⟨sl,(hs.2 b (aM4 (aJ7 (aK2 e) I.ok.above))).trans e1⟩
  ·obtain ⟨o',e1⟩:=I.base.there b o e hx
   exact⟨o',(hs.2 b (aM4 (aJ7 (aK2 e) I.ok.above))).trans e1⟩
  ·by_cases hj:j=i
   ·subst hj
    rw [hi] at e1; cases e1
    rw [aM3 hiσ] at e2
    cases e2
    exact⟨u,r,.inl ⟨hk,by simp⟩⟩
   ·rw [aK4 (Ne.symm hj)] at e2
    obtain ⟨u',r',q⟩:=hl j y v' e1 e2 e3
    refine⟨u',r',?_⟩
    rcases q with ⟨k,e⟩ | ⟨k,c,e,z⟩
    ·refine .inl ⟨k,?_⟩
     have:y ≠ x:=fun e=>hj (pV hN e1 (e ▸ hi))
     simp [this,e]
    ·exact .inr ⟨k,c,e,z.sameBut hs (cne y c e)⟩
  ·obtain ⟨w',z⟩:=I.cell y c e
   exact⟨w',z.sameBut hs (cne y c e)⟩
  ·obtain ⟨e,n,ne,nf,d⟩:=I.pin p hp
   exact⟨(hs.2 p.1 ne).trans e,n,ne,nf,d⟩
 ·have hfn:X.fn x=true:=by
   rcases hf with z | z
   ·exact z
   ·rw [z] at hk; cases hk
  obtain ⟨c,hc⟩:=I.ok.has x (.inl hk)
  obtain ⟨w',z⟩:=I.cell x c hc
  refine wpAny_storeName_cell I.ok.kind hk hc z (fun h' hc' hs=>?_)
  obtain ⟨oc,hoc,hocd⟩:=id z
  refine h { s with heap:=h' } ⟨I.ok,I.os,I.bare,⟨fun b o e n hb hx=>?_,fun b o e n hb hx=>?_,I.base.free,fun b o e hx=>?_,I.base.tups,I.base.frzs,I.base.tbls⟩,⟨m,hn.sameBut hs (Ne.symm (cne x c hc)),fun j y v' e1 e2 e3=>?_⟩,fun y c' e=>?_,I.free,I.freeC,fun p hp=>?_,tracked ⟨oc,hoc,I.freeC x c hc⟩ hs,by simpa using I.len⟩ ⟨c,hs,.inr hc⟩
  ·exact (hs.2 b (aM4 (aJ7 (aK2 e) (I.ok.cab x c hfn hc)))).trans (I.base.keep b o e n hb hx)
  ·obtain ⟨sl,e1⟩:=I.base.slot b o e n hb hx
   exact⟨sl,(hs.2 b (aM4 (aJ7 (aK2 e) (I.ok.cab x c hfn hc)))).trans e1⟩
  ·obtain ⟨o',e1⟩:=I.base.there b o e hx
   exact⟨o',(hs.2 b (aM4 (aJ7 (aK2 e) (I.ok.cab x c hfn hc)))).trans e1⟩
  ·by_cases hj:j=i
   ·subst hj
    rw [hi] at e1; cases e1
    rw [aM3 hiσ] at e2
    cases e2
    exact⟨u,r,.inr ⟨.inl hk,c,hc,hc'⟩⟩
   ·rw [aK4 (Ne.symm hj)] at e2
    obtain ⟨u',r',q⟩:=hl j y v' e1 e2 e3
    refine⟨u',r',?_⟩
    rcases q with q | ⟨k,c',e,z'⟩
    ·exact .inl q
    ·refine .inr ⟨k,c',e,z'.sameBut hs ?_⟩
     rintro rfl
     exact hj (pV hN e1 (I.ok.inj _ _ _ e hc ▸ hi))
  ·by_cases hcc:c'=c
   ·subst hcc; exact⟨_,hc'⟩
   ·obtain ⟨w2,z2⟩:=I.cell y c' e
    exact⟨w2,z2.sameBut hs hcc⟩
  ·obtain ⟨e,n,ne,nf,d⟩:=I.pin p hp
   refine⟨(hs.2 p.1 ?_).trans e,n,ne,nf,d⟩
   intro q
   rw [q,hoc] at e
   have q':oc=p.2:=aL5 e
   exact d w' (by rw [<- q']; exact hocd)
theorem pX {M:Model}{A:Around}{E:Value->Shared->Prop}{i:Nat}{x:Str}{v:V}{u:Value}{Q:Unit->Shared->Prop} (I:a5 X pins σ H s) (hN:X.N.Nodup) (hi:X.N[i]? = some x) (hx:gI X.env.scope x) (r:aO v u)
  (h:∀ s',a5 X pins (σ.set i (some v)) H s'->Q () s') (hf:X.fn x=true ∨ X.env.scope.names.lookup x=some .local:=by first | exact .inl rfl | exact .inr rfl | assumption):wpAny M A (storeName X.env x u) Q E s:=
 pW I hN hi hx r (fun s' I' _=>h s' I') hf
theorem a5.call' {s':Shared}{ch:List Addr} (I:a5 X pins σ H s) (ho:s'.os=s.os) (u:Un (bA X.stack) ch H H' s.heap s'.heap) (hok:bD X.prog X.w H' s'.heap) (hg:AllBare s'.gens)
  (hch:∀ b ∈ ch,(b ∈ X.ex ∨ X.s₀.heap.objs.size<=b)/\b ≠ X.env.locals/\(∀ x c,X.env.cells.lookup x=some c->c ≠ b)/\∀ p ∈ X.pn ++ pins,p.1 ≠ b):a5 X pins σ H' s':=by
 obtain ⟨h',g',d',t',o'⟩:=s'
 have e:o'=s.os:=ho
 subst e
 exact I.call (g':=g') (t':=t') (d':=d') u hok hg hch
end
abbrev XK:=Value->Option Addr->Hp->Prop
abbrev St:=List (Option V)
abbrev VK:=V->Hp->Prop
abbrev TE:=St->Hp->VK->Prop
abbrev TT:=St->Hp->(Bool->Hp->Prop)->Prop
abbrev TA:=St->Hp->(List V->Hp->Prop)->Prop
structure cA where
 nx:St->Hp->Prop
 rt:VK
 bk:St->Hp->Prop:=fun _ _=>False
 ct:St->Hp->Prop:=fun _ _=>False
abbrev TS:=cA->St->Hp->Prop
def EP (X:Cx) (pins:List (Addr × Obj)) (σ:St) (Q:VK) (u:Value) (s':Shared):Prop:=∃ v H',a5 X pins σ H' s'/\aO v u/\Q v H'
def TP (X:Cx) (pins:List (Addr × Obj)) (σ:St) (Q:Bool->Hp->Prop) (b:Bool) (s':Shared):Prop:=∃ H',a5 X pins σ H' s'/\Q b H'
def AP (X:Cx) (pins:List (Addr × Obj)) (σ:St) (Q:List V->Hp->Prop) (us:List Value) (s':Shared):Prop:=∃ vs H',a5 X pins σ H' s'/\aG vs us/\Q vs H'
def SP (X:Cx) (pins:List (Addr × Obj)) (D:cA) (f:Flow) (s':Shared):Prop:=
 match f with
 | .next=>∃ σ' H',a5 X pins σ' H' s'/\D.nx σ' H'
 | .brk=>∃ σ' H',a5 X pins σ' H' s'/\D.bk σ' H'
 | .cont=>∃ σ' H',a5 X pins σ' H' s'/\D.ct σ' H'
 | .ret u=>∃ v σ' H',a5 X pins σ' H' s'/\aO v u/\D.rt v H'
def PE (X:Cx) (e:Expr) (t:TE):Prop:=
 ∀ (pins:List (Addr × Obj)) (s:Shared) (σ:St) (H:Hp) (Q:VK),a5 X pins σ H s->t σ H Q->wpAny (model X.prog X.w) X.A (eval e X.env) (EP X pins σ Q) X.xe s
def PT (X:Cx) (e:Expr) (t:TT):Prop:=
 ∀ (pins:List (Addr × Obj)) (s:Shared) (σ:St) (H:Hp) (Q:Bool->Hp->Prop),a5 X pins σ H s->t σ H Q->wpAny (model X.prog X.w) X.A (isTrue e X.env (eval e X.env)) (TP X pins σ Q) X.xe s
def PW (X:Cx) (e:Expr) (t:TT):Prop:=
 ∀ (whole:Sem Value) (pins:List (Addr × Obj)) (s:Shared) (σ:St) (H:Hp) (Q:Bool->Hp->Prop),a5 X pins σ H s->t σ H Q->wpAny (model X.prog X.w) X.A (isTrue e X.env whole) (TP X pins σ Q) X.xe s
theorem PW.pt {X:Cx}{e:Expr}{t:TT} (h:PW X e t):PT X e t:=h _
def PA (X:Cx) (es:List Expr) (t:TA):Prop:=
 ∀ (pos:Pos) (pins:List (Addr × Obj)) (s:Shared) (σ:St) (H:Hp) (Q:List V->Hp->Prop),a5 X pins σ H s->t σ H Q->wpAny (model X.prog X.w) X.A (spliced (backTo pos (starEach es X.env))) (AP X pins σ Q) X.xe s
def PS (X:Cx) (st:Stmt) (t:TS):Prop:=
 ∀ (pins:List (Addr × Obj)) (s:Shared) (σ:St) (H:Hp) (D:cA),a5 X pins σ H s->t D σ H->wpAny (model X.prog X.w) X.A (exec st X.env) (SP X pins D) X.xe s
def cB (X:Cx) (st:List Stmt) (t:TS):Prop:=
 ∀ (pins:List (Addr × Obj)) (s:Shared) (σ:St) (H:Hp) (D:cA),a5 X pins σ H s->t D σ H->wpAny (model X.prog X.w) X.A (execs st X.env) (SP X pins D) X.xe s
theorem aH {α:Type}{t:Sem α}{Q Q':α->Shared->Prop}{M:Model}{A:Around}{E:Value->Shared->Prop}{s:Shared} (h:wpAny M A t Q E s) (hQ:∀ a s,Q a s->Q' a s):wpAny M A t Q' E s:=aO3 h hQ fun _ _ x=>x
section
variable {X : Cx}
theorem bin {a b:Expr}{ta tb:TE} (ha:PE X a ta) (hb:PE X b tb) {pins:List (Addr × Obj)}{s:Shared}{σ:St}{H:Hp}{R:V->V->Hp->Prop} (I:a5 X pins σ H s) (h:ta σ H fun x H1=>tb σ H1 fun y H2=>R x y H2)
  {α:Type}{Q:α->Shared->Prop}{f:Value->Value->Sem α}
  (hf:∀ v u s2 x y H2,a5 X pins σ H2 s2->aO x v->aO y u->R x y H2->wpAny (model X.prog X.w) X.A (f v u) Q X.xe s2) :
  wpAny (model X.prog X.w) X.A (eval a X.env) (fun v s₁=>wpAny (model X.prog X.w) X.A (eval b X.env) (fun u s₂=>wpAny (model X.prog X.w) X.A (f v u) Q X.xe s₂) X.xe s₁) X.xe s:=by
 refine aH (ha pins s σ H _ I h) fun v s1 ⟨x,H1,I1,r1,q1⟩=>?_
 refine aH (hb pins s1 σ H1 _ I1 q1) fun u s2 ⟨y,H2,I2,r2,q2⟩=>?_
 exact hf v u s2 x y H2 I2 r1 r2 q2
def eM (i:Nat):TE:=fun σ H Q=>∃ v,σ[i]? = some (some v)/\Q v H
def tC (v:V):TE:=fun _ H Q=>Q v H
theorem gJ {i:Nat}{x:Str}{pos:Pos} (hN:X.N[i]? = some x) (hv:eL X.env.scope x) (hd:(x == ("__debug__" : Str))=false:=by decide) (hcd:(x == ("__classdict__" : Str))=false:=by decide):PE X (.Name x pos) (eM i):=by
 intro pins s σ H Q I h
 obtain ⟨v,e,h⟩:=h
 obtain ⟨m,hn,hl⟩:=I.loc
 obtain ⟨u,r,l⟩:=hl i x v hN e hv
 have fin:EP X pins σ Q u s:=⟨v,H,I,r,h⟩
 rcases l with ⟨hk,hm⟩ | ⟨hk,c,hc,hcell⟩
 ·exact wpAny_Name (wpAny_loadName_local I.ok.kind hk hn hm fin) hd
 ·rcases hk with hk | hk
  ·exact wpAny_Name (wpAny_loadName_cell I.ok.kind hk hc hcell fin) hd
  ·exact wpAny_Name (wpAny_loadName_free I.ok.kind hk hc hcell fin hcd) hd
theorem kL {i j pos}:PE X (.Constant (.int i) j pos) (tC (.int i)):=fun _ _ _ H _ I h=>wpAny_Constant_int ⟨.int i,H,I.tok _,⟨_,rfl⟩,h⟩
theorem Q8 {b j pos}:PE X (.Constant (.bool b) j pos) (tC (.bl b)):=fun _ _ _ H _ I h=>Constant_bool ⟨.bl b,H,I,rfl,h⟩
theorem Q9 {j pos}:PE X (.Constant .none j pos) (tC .non):=fun _ _ _ H _ I h=>Constant_none ⟨.non,H,I,rfl,h⟩
theorem R3 {x j pos}:PE X (.Constant (.str x) j pos) (tC (.str x)):=fun _ _ _ H _ I h=>Calls.Constant_str ⟨.str x,H,I.tok _,⟨_,rfl⟩,h⟩
def Gl (X:Cx) (x:Str):Prop:=X.env.kindOf x=some .globalImplicit
theorem jD {E:Value->Shared->Prop}{pins:List (Addr × Obj)}{s:Shared}{σ:St}{H:Hp}{x:Str}{u:Value}{pos:Pos}{Q:Value->Shared->Prop} (I:a5 X pins σ H s) (hg:Gl X x) (hm:X.mg x=some u) (h:Q u s)
  (hd:(x == ("__debug__" : Str))=false:=by decide):wpAny (model X.prog X.w) X.A (eval (.Name x pos) X.env) Q E s:=
 Calls.Name_function_global I.ok.kind hg (Calls.loadGlobal_global (by rw [I.ok.glob]; exact I.mod.glob.keeps I.bk) hm h) hd
theorem gK {E:Value->Shared->Prop}{pins:List (Addr × Obj)}{s:Shared}{σ:St}{H:Hp}{x:Str}{u:Value}{pos:Pos}{Q:Value->Shared->Prop} (I:a5 X pins σ H s) (hg:Gl X x) (hm:X.mg x=none) (hv:bootBuiltins x=some u) (h:Q u s)
  (hn:x ≠ "__name__":=by decide) (hd:(x == ("__debug__" : Str))=false:=by decide):wpAny (model X.prog X.w) X.A (eval (.Name x pos) X.env) Q E s:=by
 obtain ⟨mb,h1,h2⟩:=I.mod.blt
 exact Calls.Name_function_global I.ok.kind hg (Calls.loadGlobal_builtin (by rw [I.ok.glob]; exact I.mod.glob.keeps I.bk) hm (by rw [I.ok.blt]; exact h1.keeps I.bk) ((h2 x hn).trans hv) h) hd
theorem uR {x:Str}{v:V}{u:Value}{pos:Pos} (hg:Gl X x) (hm:X.mg x=some u) (r:aO v u) (hd:(x == ("__debug__" : Str))=false:=by decide):PE X (.Name x pos) (tC v):=
 fun _ _ _ H _ I h=>jD I hg hm ⟨v,H,I,r,h⟩ hd
theorem uS {x:Str}{v:V}{u:Value}{pos:Pos} (hg:Gl X x) (hm:X.mg x=none) (hv:bootBuiltins x=some u) (r:aO v u) (hn:x ≠ "__name__":=by decide) (hd:(x == ("__debug__" : Str))=false:=by decide):PE X (.Name x pos) (tC v):=
 fun _ _ _ H _ I h=>gK I hg hm hv ⟨v,H,I,r,h⟩ hn hd
variable {a b : Expr} {ta tb : TE} {pos : Pos}
def PC (X:Cx) (op:CmpOp) (a b:Expr) (t:TE):Prop:=
 ∀ (pins:List (Addr × Obj)) (s:Shared) (σ:St) (H:Hp) (Q:VK),a5 X pins σ H s->t σ H Q->
  wpAny (model X.prog X.w) X.A (eval a X.env) (fun v s₁=>wpAny (model X.prog X.w) X.A (eval b X.env) (fun u s₂=>wpAny (model X.prog X.w) X.A (compareOp op v u) (EP X pins σ Q) X.xe s₂) X.xe s₁) X.xe s
def tB (t:TE):TT:=fun σ H Q=>t σ H fun x H1=>∃ c,x = .bl c/\Q c H1
theorem R4 {op:CmpOp}{t:TE} (h:PC X op a b t) (h1:behindInMarks op b=false:=by first | exact nobehind _ (by decide) (by decide) | rfl):PE X (.Compare a [op] [b] pos) t:=fun pins s σ H Q I hw=>wpAny_Compare1 (h pins s σ H Q I hw) h1
theorem R5 {op:CmpOp}{t:TE} (h:PC X op a b t) (h1:behindInMarks op b=false:=by first | exact nobehind _ (by decide) (by decide) | rfl):PT X (.Compare a [op] [b] pos) (tB t):=by
 intro pins s σ H Q I hw
 refine wpAny_isTrue_Compare1 (aH (h pins s σ H _ I hw) fun v s1 h1=>aH h1 fun u s2 h2=>aH h2 fun c s3 ⟨x,H1,I1,r1,q1⟩=>?_) h1
 obtain ⟨d,rfl,q⟩:=q1
 cases r1
 exact aR2 ⟨H1,I1,q⟩
theorem R6 {e:Expr}{t:TE} (h:PE X e t) (he:∀ whole,isTrue e X.env whole=(do let v <- whole; standAt e.pos; holding [v] (truthy v)):=by intro _; rfl):PT X e (tB t):=by
 intro pins s σ H Q I hw
 refine isTrue_plain (aH (h pins s σ H _ I hw) fun v s1 ⟨x,H1,I1,r1,q1⟩=>?_) (he _)
 obtain ⟨d,rfl,q⟩:=q1
 cases r1
 exact aR2 ⟨H1,I1,q⟩
variable {tA tB' : TT} {bT : List Expr}
def uT (t u:TT):TT:=fun σ H Q=>t σ H fun c H1=>if c=true then u σ H1 Q else Q false H1
def uU (t u:TT):TT:=fun σ H Q=>t σ H fun c H1=>if c=true then Q true H1 else u σ H1 Q
def uV (t:TT):TT:=fun σ H Q=>t σ H fun c H1=>Q (!c) H1
theorem R7 (ha:PT X a tA):PW X (.BoolOp .And [a] pos) tA:=by
 intro wh pins s σ H Q I h
 refine isTrue_and (aH (ha pins s σ H Q I h) fun c s1 e=>?_)
 cases c with
 | true=>exact isTrue_and_nil e
 | false=>exact e
theorem R8 (ha:PT X a tA):PW X (.BoolOp .Or [a] pos) tA:=by
 intro wh pins s σ H Q I h
 refine isTrue_or (aH (ha pins s σ H Q I h) fun c s1 e=>?_)
 cases c with
 | false=>exact isTrue_or_nil e
 | true=>exact e
theorem R9 (ha:PT X a tA) (hb:PW X (.BoolOp .And (b :: bT) pos) tB'):PW X (.BoolOp .And (a :: b :: bT) pos) (uT tA tB'):=by
 intro wh pins s σ H Q I h
 refine isTrue_and (aH (ha pins s σ H _ I h) fun c s1 ⟨H1,I1,q1⟩=>?_)
 cases c with
 | true=>exact hb wh pins s1 σ H1 Q I1 q1
 | false=>exact⟨H1,I1,q1⟩
theorem S0 (ha:PT X a tA) (hb:PW X (.BoolOp .Or (b :: bT) pos) tB'):PW X (.BoolOp .Or (a :: b :: bT) pos) (uU tA tB'):=by
 intro wh pins s σ H Q I h
 refine isTrue_or (aH (ha pins s σ H _ I h) fun c s1 ⟨H1,I1,q1⟩=>?_)
 cases c with
 | true=>exact⟨H1,I1,q1⟩
 | false=>exact hb wh pins s1 σ H1 Q I1 q1
theorem S2 (ha:PT X a tA):PT X (.UnaryOp .Not a pos) (uV tA):=by
 intro pins s σ H Q I h
 exact isTrue_not (ha pins s σ H (fun c H1=>Q (!c) H1) I h)
def uW (ta tb:TE):TE:=fun σ H Q=>ta σ H fun x H1=>∃ c,x = .bl c/\if c=true then tb σ H1 Q else Q (.bl false) H1
def uX (ta tb:TE):TE:=fun σ H Q=>ta σ H fun x H1=>∃ c,x = .bl c/\if c=true then Q (.bl true) H1 else tb σ H1 Q
def uY (ta:TE):TE:=fun σ H Q=>ta σ H fun x H1=>∃ c,x = .bl c/\Q (.bl (!c)) H1
theorem S3 {op}{t:TE} (h:PE X a t):PE X (.BoolOp op [a] pos) t:=fun pins s σ H Q I hw=>BoolOp_one (h pins s σ H Q I hw)
theorem S4 (ha:PE X a ta) (hb:PE X (.BoolOp .And (b :: bT) pos) tb):PE X (.BoolOp .And (a :: b :: bT) pos) (uW ta tb):=by
 intro pins s σ H Q I h
 refine BoolOp_and (aH (ha pins s σ H _ I h) fun v s1 ⟨x,H1,I1,r1,q1⟩=>?_)
 obtain ⟨c,rfl,q1⟩:=q1
 cases r1
 refine aR2 ?_
 cases c with
 | true=>exact hb pins s1 σ H1 Q I1 q1
 | false=>exact⟨.bl false,H1,I1,rfl,q1⟩
theorem S5 (ha:PE X a ta) (hb:PE X (.BoolOp .Or (b :: bT) pos) tb):PE X (.BoolOp .Or (a :: b :: bT) pos) (uX ta tb):=by
 intro pins s σ H Q I h
 refine BoolOp_or (aH (ha pins s σ H _ I h) fun v s1 ⟨x,H1,I1,r1,q1⟩=>?_)
 obtain ⟨c,rfl,q1⟩:=q1
 cases r1
 refine aR2 ?_
 cases c with
 | false=>exact hb pins s1 σ H1 Q I1 q1
 | true=>exact⟨.bl true,H1,I1,rfl,q1⟩
theorem S6 (ha:PE X a ta):PE X (.UnaryOp .Not a pos) (uY ta):=by
 intro pins s σ H Q I h
 refine UnaryOp_ (aH (ha pins s σ H _ I h) fun v s1 ⟨x,H1,I1,r1,q1⟩=>?_)
 obtain ⟨c,rfl,q1⟩:=q1
 cases r1
 exact not_of (aR2 ⟨.bl (!c),H1,I1,rfl,q1⟩)
end
def aK (K:PySem.W.Frag) (H:Hp) (a:Addr) (xs:List V):Prop:=
 Rd H a (.lst xs) ∨
  ∃ (o:Obj) (its:Array Value) (n:Nat),K.lookup a=some o/\o.cls = .type "list"/\o.dict=none/\o.data = .seq its n/\its.size<=sizeLine/\aG xs its.toList
def aI (K:PySem.W.Frag) (H:Hp) (a:Addr) (xs:List V):Prop:=
 Rd H a (.tup xs) ∨
  ∃ (o:Obj) (its:Array Value) (n:Nat),K.lookup a=some o/\o.cls = .type "tuple"/\o.data = .seq its n/\its.size<=sizeLine/\aG xs its.toList
def S7:Value->Option V
 | .none=>some .non
 | .bool b=>some (.bl b)
 | .int i _=>some (.int i)
 | .str x _=>some (.str x)
 | .bytes b _=>some (.byt b)
 | .float b _=>some (.flt b)
 | .ref a=>some (.ref a)
 | .type n=>some (.ty n)
 | _=>none
theorem aO.abs {x:V}{u:Value} (r:aO x u):S7 u=some x:=by
 cases x with
 | non=>cases r; rfl
 | bl _=>cases r; rfl
 | int _=>obtain ⟨t,rfl⟩:=r; rfl
 | str _=>obtain ⟨t,rfl⟩:=r; rfl
 | byt _=>obtain ⟨t,rfl⟩:=r; rfl
 | flt _=>obtain ⟨t,rfl⟩:=r; rfl
 | ref _=>cases r; rfl
 | ty _=>cases r; rfl
theorem aO.inj {x y:V}{u:Value} (r:aO x u) (q:aO y u):x=y:=aL5 (r.abs.symm.trans q.abs)
theorem aG.inj:∀ {xs ys:List V}{us:List Value},aG xs us->aG ys us->xs=ys
 | _,_,_,.nil,.nil=>rfl
 | _,_,_,.cons r t,.cons r' t'=>by rw [r.inj r',aG.inj t t']
section
variable {X : Cx} {pins : List (Addr × Obj)} {σ : St} {H : Hp} {s : Shared} {a : Addr} {xs ys : List V}
theorem aK.of {K:PySem.W.Frag} (h:H a=some (.lst xs)):aK K H a xs:=.inl (.inl h)
theorem aI.of {K:PySem.W.Frag} (h:H a=some (.tup xs)):aI K H a xs:=.inl (.inl h)
theorem a5.list (I:a5 X pins σ H s) (h:aK X.K H a xs):∃ its:List Value,aG xs its/\PlainL s.heap a its.toArray/\xs.length<=sizeLine:=by
 rcases h with h | ⟨o,its,n,hk,hc,hd,hs,hz,r⟩
 ·obtain ⟨z,its,n,r,e⟩:=h.ok I.hok
  exact⟨its,r,⟨_,n,e,rfl,rfl,rfl⟩,z⟩
 ·refine⟨its.toList,r,⟨o,n,I.kIn a o hk,hc,hd,by simpa using hs⟩,?_⟩
  have e:=r.length
  simp only [Array.length_toList] at e
  omega
theorem a5.tuple (I:a5 X pins σ H s) (h:aI X.K H a xs):∃ its:List Value,aG xs its/\IsTup s.heap a its.toArray/\xs.length<=sizeLine:=by
 rcases h with h | ⟨o,its,n,hk,hc,hs,hz,r⟩
 ·obtain ⟨z,its,r,p⟩:=h.ok I.hok
  exact⟨its,r,p,z⟩
 ·refine⟨its.toList,r,⟨o,I.kIn a o hk,hc,n,by simpa using hs⟩,?_⟩
  have e:=r.length
  simp only [Array.length_toList] at e
  omega
theorem a5.list_inj (I:a5 X pins σ H s) (h:aK X.K H a xs) (h':aK X.K H a ys):xs=ys:=by
 obtain ⟨its,r,⟨o,n,e,_,_,d⟩,_⟩:=I.list h
 obtain ⟨its',r',⟨o',n',e',_,_,d'⟩,_⟩:=I.list h'
 rw [e] at e'; cases e'
 rw [d] at d'
 injection d' with d1 _
 have:its=its':=by simpa using congrArg Array.toList d1
 subst this
 exact r.inj r'
theorem a5.tuple_inj (I:a5 X pins σ H s) (h:aI X.K H a xs) (h':aI X.K H a ys):xs=ys:=by
 obtain ⟨its,r,⟨o,e,_,n,d⟩,_⟩:=I.tuple h
 obtain ⟨its',r',⟨o',e',_,n',d'⟩,_⟩:=I.tuple h'
 rw [e] at e'; cases e'
 rw [d] at d'
 injection d' with d1 _
 have:its=its':=by simpa using congrArg Array.toList d1
 subst this
 exact r.inj r'
end
abbrev Cx.wish (X:Cx) (E:Value->Shared->Prop):Cx:={ X with xe:=E }
abbrev Cx.nox (X:Cx):Cx:=X.wish fun _ _=>False
theorem Cx.Ok.wish {X:Cx} (ok:X.Ok) (E:Value->Shared->Prop):(X.wish E).Ok:=
 ⟨ok.mod,ok.kind,ok.glob,ok.blt,ok.above,ok.inj,ok.has,ok.cab,ok.hd,ok.frames,ok.stk,ok.exf,ok.bs,ok.bsz,ok.noex,ok.exfs,ok.funs,ok.frf⟩
theorem Cx.Ok.unwish {X:Cx}{E:Value->Shared->Prop} (ok:(X.wish E).Ok):X.Ok:=
 ⟨ok.mod,ok.kind,ok.glob,ok.blt,ok.above,ok.inj,ok.has,ok.cab,ok.hd,ok.frames,ok.stk,ok.exf,ok.bs,ok.bsz,ok.noex,ok.exfs,ok.funs,ok.frf⟩
section
variable {X : Cx} {pins : List (Addr × Obj)} {σ : St} {H : Hp} {s : Shared} {E : Value → Shared → Prop}
theorem a5.wish (I:a5 X pins σ H s) (E:Value->Shared->Prop):a5 (X.wish E) pins σ H s:=⟨I.ok.wish E,I.os,I.bare,I.base,I.loc,I.cell,I.free,I.freeC,I.pin,I.hok,I.len⟩
theorem a5.unwish (I:a5 (X.wish E) pins σ H s):a5 X pins σ H s:=⟨I.ok.unwish,I.os,I.bare,I.base,I.loc,I.cell,I.free,I.freeC,I.pin,I.hok,I.len⟩
theorem SP.unwish {D:cA}{f:Flow}{s':Shared} (h:SP (X.wish E) pins D f s'):SP X pins D f s':=by
 cases f with
 | next=>obtain ⟨σ',H',I,q⟩:=h; exact⟨σ',H',I.unwish,q⟩
 | brk=>obtain ⟨σ',H',I,q⟩:=h; exact⟨σ',H',I.unwish,q⟩
 | cont=>obtain ⟨σ',H',I,q⟩:=h; exact⟨σ',H',I.unwish,q⟩
 | ret u=>obtain ⟨v,σ',H',I,r,q⟩:=h; exact⟨v,σ',H',I.unwish,r,q⟩
theorem cB.nox {st:List Stmt}{t:TS} (h:cB X.nox st t):cB X st t:=fun pins s σ H D I hw=>
 aO3 (h pins s σ H D (I.wish _) hw) (fun _ _ q=>q.unwish) fun _ _ z=>False.elim z
end
section
variable {X : Cx} {st : Stmt} {bT : List Stmt} {t u : TS} {e : Expr} {te : TE} {pos : Pos}
def uZ:TS:=fun D σ H=>D.nx σ H
def pY (t u:TS):TS:=fun D σ H=>t { D with nx:=u D } σ H
theorem S8:cB X [] uZ:=fun _ _ σ H _ I h=>wpAny_execs_nil ⟨σ,H,I,h⟩
theorem kM (h1:PS X st t) (h2:cB X bT u):cB X (st :: bT) (pY t u):=by
 intro pins s σ H D I h
 refine wpAny_execs_cons (aH (h1 pins s σ H { D with nx:=u D } I h) fun f s1 q=>?_)
 cases f with
 | next=>
  obtain ⟨σ',H',I',q⟩:=q
  exact h2 pins s1 σ' H' D I' q
 | ret v=>exact q
 | brk=>exact q
 | cont=>exact q
theorem jE (h1:PS X st t):cB X [st] t:=by
 intro pins s σ H D I h
 refine wpAny_execs_cons (aH (h1 pins s σ H D I h) fun f s1 q=>?_)
 cases f with
 | next=>exact wpAny_execs_nil q
 | ret v=>exact q
 | brk=>exact q
 | cont=>exact q
theorem a5.quiet {pins:List (Addr × Obj)}{σ:St}{H:Hp}{s:Shared} (I:a5 X pins σ H s):interactive X.env=false:=by simp [interactive,I.ok.kind]
def pZ (te:TE):TS:=fun D σ H=>te σ H fun _ H1=>D.nx σ H1
theorem mI (he:PE X e te) (hs:swapsWith e none pos.line X.env=pure false:=by rfl):PS X (.Expr e pos) (pZ te):=by
 intro pins s σ H D I h
 exact wpAny_Expr_any (aH (he pins s σ H _ I h) fun v s1 ⟨x,H1,I1,r1,q1⟩=>⟨σ,H1,I1,q1⟩) I.quiet hs
def jF (te:TE):TS:=fun D σ H=>te σ H D.rt
theorem jG (he:PE X e te):PS X (.Return (some e) pos) (jF te):=by
 intro pins s σ H D I h
 exact wpAny_Return_some (aH (he pins s σ H _ I h) fun v s1 ⟨x,H1,I1,r1,q1⟩=>⟨x,σ,H1,I1,r1,q1⟩)
def v0 (c:TT) (t u:TS):TS:=fun D σ H=>c σ H fun b H1=>if b=true then t D σ H1 else u D σ H1
theorem S9 {c:Expr}{a b:List Stmt}{tc:TT} (hc:PT X c tc) (ha:cB X a t) (hb:cB X b u):PS X (.If c a b pos) (v0 tc t u):=by
 intro pins s σ H D I h
 refine wpAny_If (aH (hc pins s σ H _ I h) fun d s1 ⟨H1,I1,q1⟩=>?_)
 cases d with
 | true=>exact ha pins s1 σ H1 D I1 q1
 | false=>exact hb pins s1 σ H1 D I1 q1
end
abbrev TG:=V->St->Hp->(St->Hp->Prop)->Prop
abbrev iI:=List V->St->Hp->(St->Hp->Prop)->Prop
def PG (X:Cx) (target:Expr) (t:TG):Prop:=
 ∀ (pins:List (Addr × Obj)) (s:Shared) (σ:St) (H:Hp) (v:V) (u:Value) (Q:St->Hp->Prop),a5 X pins σ H s->aO v u->t v σ H Q->
  wpAny (model X.prog X.w) X.A (assign target X.env u) (fun _ s'=>∃ σ' H',a5 X pins σ' H' s'/\Q σ' H') X.xe s
def mJ (X:Cx) (ts:List Expr) (t:iI):Prop:=
 ∀ (pins:List (Addr × Obj)) (s:Shared) (σ:St) (H:Hp) (vs:List V) (us:List Value) (Q:St->Hp->Prop),a5 X pins σ H s->aG vs us->t vs σ H Q->
  wpAny (model X.prog X.w) X.A (assignInOrder ((assignEach ts X.env).map (·.2)) us) (fun _ s'=>∃ σ' H',a5 X pins σ' H' s'/\Q σ' H') X.xe s
abbrev qA:=V->V->V->Hp->(Hp->Prop)->Prop
def v3 (X:Cx) (t:qA):Prop:=
 ∀ (pins:List (Addr × Obj)) (s:Shared) (σ:St) (H:Hp) (o i v:V) (ov iv u:Value) (Q:Hp->Prop),a5 X pins σ H s->aO o ov->aO i iv->aO v u->t o i v H Q->
  wpAny (model X.prog X.w) X.A (setItem ov iv u) (fun _ s'=>∃ H',a5 X pins σ H' s'/\Q H') X.xe s
section
variable {X : Cx} {pos : Pos}
def bL (i:Nat):TG:=fun v σ H Q=>Q (σ.set i (some v)) H
theorem dU {i:Nat}{x:Str} (hN:X.N.Nodup) (hi:X.N[i]? = some x) (hx:gI X.env.scope x) (hf:X.fn x=true ∨ X.env.scope.names.lookup x=some .local:=by first | exact .inl rfl | exact .inr rfl | assumption):PG X (.Name x pos) (bL i):=by
 intro pins s σ H v u Q I r h
 exact wpAny_assign_Name (pX I hN hi hx r (fun s' I'=>⟨_,H,I',h⟩) hf)
def gL:iI:=fun vs σ H Q=>vs = []/\Q σ H
def dB (t:TG) (u:iI):iI:=fun vs σ H Q=>∃ v r,vs=v :: r/\t v σ H fun σ' H'=>u r σ' H' Q
theorem kN:mJ X [] gL:=by
 intro pins s σ H vs us Q I r h
 obtain ⟨e,h⟩:=h
 subst e
 cases r
 exact assignInOrder_nil ⟨σ,H,I,h⟩
theorem fQ {e:Expr}{es:List Expr}{t:TG}{u:iI} (h1:PG X e t) (h2:mJ X es u)
  (hs:(assignEach (e :: es) X.env).map (·.2)=assign e X.env :: (assignEach es X.env).map (·.2):=by rfl):mJ X (e :: es) (dB t u):=by
 intro pins s σ H vs us Q I r h
 obtain ⟨v,vr,e1,h⟩:=h
 subst e1
 cases r with
 | cons r rr=>
  rw [hs]
  refine assignInOrder_cons (aH (h1 pins s σ H _ _ _ I r h) fun _ s1 ⟨σ1,H1,I1,q1⟩=>?_)
  exact h2 pins s1 σ1 H1 _ _ Q I1 rr q1
def gM (K:PySem.W.Frag) (n:Nat) (t:iI):TG:=fun v σ H Q=>∃ a xs,v = .ref a/\aI K H a xs/\xs.length=n/\t xs σ H Q
theorem kO {es:List Expr}{k:Nat}{t:iI}{n:Nat} (hc:X.calm=true) (h:mJ X es t)
  (hn:(assignEach es X.env).length=n:=by rfl) (hst:(assignEach es X.env).findIdx? (·.1)=none:=by rfl):PG X (.Tuple es k pos) (gM X.K n t):=by
 intro pins s σ H v u Q I r hw
 obtain ⟨a,xs,e1,hq,hl,hw⟩:=hw
 subst e1
 cases r
 obtain ⟨its,rv,ht,hz⟩:=I.tuple hq
 refine assign_Tuple_tuple (I.ok.hd hc) ht (by simp [hn,<- hl,rv.length]) hst fun h' hx=>?_
 have I1:a5 X pins σ H { s with heap:=h' }:=I.kept (t':=s.toks) fun b o e=>hx b o (aM4 (aK2 e)) e
 exact h pins _ σ H xs _ Q I1 (by simpa using rv) hw
def qB (to ti:TE) (t:qA):TG:=fun v σ H Q=>to σ H fun o H1=>ti σ H1 fun i H2=>t o i v H2 fun H3=>Q σ H3
theorem T0 {o i:Expr}{to ti:TE}{t:qA} (ho:PE X o to) (hi:PE X i ti) (hs:v3 X t)
  (ha:∀ v,assign (.Subscript o i pos) X.env v=(do
   let ov <- holding [v] (eval o X.env)
   let iv <- holding [v,ov] (eval i X.env)
   standAt pos
   holding [v,ov,iv] (setItem ov iv v)
   release [v,ov,iv] []):=by intro _; rfl):PG X (.Subscript o i pos) (qB to ti t):=by
 intro pins s σ H v u Q I r h
 rw [ha]
 refine aI7 (aQ6 (aH (ho pins s σ H _ I h) fun ov s1 ⟨x,H1,I1,r1,q1⟩=>?_))
 refine aI7 (aQ6 (aH (hi pins s1 σ H1 _ I1 q1) fun iv s2 ⟨y,H2,I2,r2,q2⟩=>?_))
 refine aI7 (wpAny_standAt (aI7 (aQ6 (aH (hs pins s2 σ H2 x y v ov iv u _ I2 r1 r2 r q2) fun _ s3 ⟨H3,I3,q3⟩=>?_))))
 exact wpAny_release ⟨σ,H3,I3,q3⟩
def i4 (te:TE) (g:TG):TS:=fun D σ H=>te σ H fun x H1=>g x σ H1 D.nx
theorem v4 {tg e:Expr}{te:TE}{g:TG} (he:PE X e te) (hg:PG X tg g) (hs:swapsWithSole [tg] e pos.line X.env=pure false:=by rfl) (hw:swappedStores [tg] e X.env=pure none:=by rfl)
  (h1:(assignEach [tg] X.env).map (·.2) = [assign tg X.env]:=by rfl):PS X (.Assign [tg] e pos) (i4 te g):=by
 intro pins s σ H D I h
 refine wpAny_Assign_stores (aH (he pins s σ H _ I h) fun v s1 ⟨x,H1,I1,r1,q1⟩=>?_) hs hw
 rw [h1]
 exact aH (hg pins s1 σ H1 x v _ I1 r1 q1) fun _ s2 q=>q
theorem v7 {i:Nat}{x:Str}{e:Expr}{te:TE}{pos':Pos} (hN:X.N.Nodup) (hi:X.N[i]? = some x) (hx:gI X.env.scope x) (he:PE X e te) (hs:swapsWith e (some (.Name x pos')) pos.line X.env=pure false:=by rfl) (hf:X.fn x=true ∨ X.env.scope.names.lookup x=some .local:=by first | exact .inl rfl | exact .inr rfl | assumption) :
  PS X (.Assign [.Name x pos'] e pos) (i4 te (bL i)):=by
 intro pins s σ H D I h
 refine wpAny_Assign_Name (aH (he pins s σ H _ I h) fun v s1 ⟨y,H1,I1,r1,q1⟩=>?_) hs
 exact pX I1 hN hi hx r1 (fun s2 I2=>⟨_,H1,I2,q1⟩) hf
end
section
variable {X : Cx} {pos : Pos}
def v8 (c:TT) (tb:TS):TS:=fun D σ H=>∃ W:Nat->St->Hp->Prop,(∃ m,W m σ H)/\∀ m σ H,W m σ H->
 c σ H fun b H1=>if b=true then ∃ N:St->Hp->Prop,(∀ σ' H',N σ' H'->∃ m',m' < m/\W m' σ' H')/\tb { D with nx:=N,ct:=N,bk:=D.nx } σ H1 else D.nx σ H1
theorem T1 {c:Expr}{body:List Stmt}{tc:TT}{tb:TS} (hp:PassesOwn (model X.prog X.w) X.A X.env X.xe) (hc:PT X c tc) (hb:cB X body tb):PS X (.While c body [] pos) (v8 tc tb):=by
 intro pins s σ H D I h
 obtain ⟨W,⟨m0,w0⟩,turn⟩:=h
 refine wpAny_While (codeAny_whileLoop (fun n s'=>∃ σ' H',a5 X pins σ' H' s'/\W n σ' H') ?_ m0 ⟨σ,H,I,w0⟩)
 rintro n s1 ⟨σ1,H1,I1,w1⟩
 refine aU1 hp (aH (hc pins s1 σ1 H1 _ I1 (turn n σ1 H1 w1)) fun b s2 ⟨H2,I2,q2⟩=>?_)
 cases b with
 | true=>
  obtain ⟨N,hN,q2⟩:=q2
  rw [if_pos rfl]
  refine aU1 hp (aH (hb pins s2 σ1 H2 _ I2 q2) fun f s3 q3=>?_)
  cases f with
  | next=>
   obtain ⟨σ3,H3,I3,n3⟩:=q3
   obtain ⟨m',hm,w3⟩:=hN σ3 H3 n3
   exact⟨m',hm,σ3,H3,I3,w3⟩
  | cont=>
   obtain ⟨σ3,H3,I3,n3⟩:=q3
   obtain ⟨m',hm,w3⟩:=hN σ3 H3 n3
   exact⟨m',hm,σ3,H3,I3,w3⟩
  | brk=>exact q3
  | ret v=>exact q3
 | false=>
  rw [if_neg aK7]
  exact wpAny_execs_nil ⟨σ1,H2,I2,q2⟩
end
structure It where
 go:Nat->Hp->Prop
 yld:Nat->Hp->V->Hp->Prop
 stop:Nat->Hp->Prop
def eN (X:Cx) (pins:List (Addr × Obj)) (H:Hp) (b:Addr):Prop:=
 H b=none/\b ≠ X.env.locals/\b ∉ X.fs/\(b ∈ X.ex ∨ X.s₀.heap.objs.size<=b)/\(∀ x c,X.env.cells.lookup x=some c->c ≠ b)/\∀ p ∈ X.pn ++ pins,p.1 ≠ b
theorem a5.fpOk {X:Cx}{pins:List (Addr × Obj)}{σ:St}{H H':Hp}{s:Shared}{b:Addr} (I:a5 X pins σ H s) (hb:s.heap.objs.size<=b) (hn:H' b=none):eN X pins H' b:=by
 refine⟨hn,aS4 (aJ7 I.lt hb),I.nofs hb,.inr (aM8 I.sz hb),fun x c e z=>?_,fun p hp z=>?_⟩
 ·obtain ⟨v,q⟩:=I.cell x c e
  exact absurd (aJ7 q.lt (by rw [z]; exact hb)) (aN2 _)
 ·exact absurd (aJ7 (aK2 (I.pin p hp).1) (by rw [z]; exact hb)) (aN2 _)
structure fR (P:Program) (w:World) (K:PySem.W.Frag) (tg:Expr) (J:It) (fp:List Addr) (it:Addr) (tn:Nat->Heap->Prop):Prop where
 mem:it ∈ fp
 obj:∀ i h,tn i h->∀ b ∈ fp,∃ o,h.get? b=some o/\∀ v,o.data ≠ .cell v
 keep:∀ i h h',tn i h->(∀ b ∈ fp,∀ o,h.get? b=some o->h'.get? b=some o)->tn i h'
 item:∀ (X:Cx),X.prog=P->X.w=w->X.K=K->X.calm=true->∀ (i:Nat) (pins:List (Addr × Obj)) (s:Shared) (σ:St) (H:Hp) (E:Value->Shared->Prop),a5 X pins σ H s->(∀ b ∈ fp,eN X pins H b)->tn i s.heap->J.go i H->
  wpAny (model P w) X.A (pyNext (.ref it)) (fun r s1=>∃ u,r=some u/\
   wpAny (model P w) X.A (letOwnedTupleGo tg (.ref it) u) (fun _ s2=>∃ x H',a5 X pins σ H' s2/\aO x u/\J.yld i H x H'/\tn (i+1) s2.heap/\∀ b ∈ fp,H' b=none) E s1) E s
 done:∀ (X:Cx),X.prog=P->X.w=w->X.K=K->X.calm=true->∀ (i:Nat) (pins:List (Addr × Obj)) (s:Shared) (σ:St) (H:Hp) (E:Value->Shared->Prop),a5 X pins σ H s->(∀ b ∈ fp,eN X pins H b)->tn i s.heap->J.stop i H->
  wpAny (model P w) X.A (pyNext (.ref it)) (fun r s1=>r=none/\a5 X pins σ H s1) E s
 self:∀ (A:Around) (i:Nat) (s:Shared) (Q:Value->Shared->Prop) (E:Value->Shared->Prop),tn i s.heap->Q (.ref it) s->wpAny (model P w) A (pyIter (.ref it)) Q E s
abbrev TI:=St->Hp->(It->Hp->Prop)->Prop
def v9 (X:Cx) (pins:List (Addr × Obj)) (σ:St) (tg:Expr) (R:It->Hp->Prop) (itv:Value) (s2:Shared):Prop:=
 ∃ (it:Addr) (fp:List Addr) (tn:Nat->Heap->Prop) (J:It) (H':Hp),itv = .ref it/\a5 X pins σ H' s2/\fR X.prog X.w X.K tg J fp it tn/\tn 0 s2.heap/\(∀ b ∈ fp,eN X pins H' b)/\R J H'
def PI (X:Cx) (tg iter:Expr) (wi:TI):Prop:=
 ∀ (pins:List (Addr × Obj)) (s:Shared) (σ:St) (H:Hp) (R:It->Hp->Prop),a5 X pins σ H s->wi σ H R->
  wpAny (model X.prog X.w) X.A (eval iter X.env) (fun v s1=>wpAny (model X.prog X.w) X.A (pyIter v) (v9 X pins σ tg R) X.xe s1) X.xe s
theorem kQ {M:Model}{A:Around}{E:Value->Shared->Prop}{s:Shared}{tg:Expr}{it:Addr}{u:Value}{o:Obj}{n:String}{vs:Array Value}{Q:Unit->Shared->Prop} (ho:s.heap.get? it=some o) (hc:o.cls = .type n) (hd:o.data = .fields vs)
    (hn : ["enumerate","zip","dict_itemiterator","dict_reverseitemiterator","odict_iterator","itertools.zip_longest","itertools.pairwise"].contains n=false) (hQ:Q () s):wpAny M A (letOwnedTupleGo tg (.ref it) u) Q E s:=by
  unfold letOwnedTupleGo
  cases tg <;> first
    | exact aJ1 hQ
    | (cases u <;> first
        | exact aJ1 hQ
        | (refine aI7 (wpAny_load ho ?_)
           rw [hc,hd]
           show wpAny M A (if (["enumerate","zip","dict_itemiterator","dict_reverseitemiterator","odict_iterator","itertools.zip_longest","itertools.pairwise"].contains n && vs[0]? == some (rawInt _))=true then _ else _) Q E s
           rw [if_neg (by intro h; rw [hn,Bool.false_and] at h; cases h)]
           exact aJ1 hQ))
def jH (K:PySem.W.Frag) (a:Addr):It:=
 ⟨fun i H=>∃ xs x,aK K H a xs/\xs[i]? = some x,fun i H x H'=>H'=H/\∀ xs,aK K H a xs->xs[i]? = some x,fun i H=>∃ xs,aK K H a xs/\xs.length<=i⟩
def i5 (K:PySem.W.Frag) (a:Addr):It:=
 ⟨fun i H=>∃ xs x,aI K H a xs/\xs[i]? = some x,fun i H x H'=>H'=H/\∀ xs,aI K H a xs->xs[i]? = some x,fun i H=>∃ xs,aI K H a xs/\xs.length<=i⟩
def kR (lo:Int) (n:Nat):It:=⟨fun i _=>i < n,fun i H x H'=>H'=H/\x = .int (lo+i),fun i _=>n<=i⟩
theorem T2 {P:Program}{w:World}{K:PySem.W.Frag}{tg:Expr} (a it:Addr):fR P w K tg (jH K a) [it] it (fun i h=>h.IsListIter it a i) where
 mem:=by simp
 obj:=fun i h st b hb=>by
  have e:b=it:=by simpa using hb
  subst e
  obtain ⟨o,e,c,d⟩:=st
  exact⟨o,e,fun v z=>by rw [d] at z; cases z⟩
 keep:=fun i h h' st k=>st.at fun o e=>k it (by simp) o e
 item:=by
  intro X hP hw hK hc i pins s σ H E I hf st hg
  subst hP hw hK
  obtain ⟨xs,x,hq,hx⟩:=hg
  obtain ⟨its,rv,p,hz⟩:=I.list hq
  obtain ⟨u,hu,ru⟩:=rv.get hx
  obtain ⟨f0,f1,f2,f3,f4,f5⟩:=hf it (by simp)
  refine wpAny_pyNext_list_item st p.isList (x:=u) (by simpa using hu) fun h' st' sb=>?_
  have I1:a5 X pins σ H { s with heap:=h' }:=I.turned (t':=s.toks) (fun b o hb e=>(sb.2 b hb).trans e) f0 f1 f3 f4 f5
  obtain ⟨o,e,c,d⟩:=id st'
  exact⟨u,rfl,kQ (s:={ s with heap:=h' }) e c d (by decide) ⟨x,H,I1,ru,⟨rfl,fun ys hy=>by rw [I.list_inj hy hq]; exact hx⟩,st',fun b hb=>(hf b hb).1⟩⟩
 done:=by
  intro X hP hw hK hc i pins s σ H E I hf st hg
  subst hP hw hK
  obtain ⟨xs,hq,hx⟩:=hg
  obtain ⟨its,rv,p,hz⟩:=I.list hq
  obtain ⟨f0,f1,f2,f3,f4,f5⟩:=hf it (by simp)
  have hl:=rv.length
  exact wpAny_pyNext_list_end (I.ok.hd hc) st p.isList (by simp; omega) fun h' eb=>⟨rfl,I.turned (t':=s.toks) (fun b o hb e=>eb b o hb e) f0 f1 f3 f4 f5⟩
 self:=fun _ _ _ _ _ st h=>wpAny_pyIter_listiter st h
theorem vA {P:Program}{w:World}{K:PySem.W.Frag}{tg:Expr} (a it:Addr):fR P w K tg (i5 K a) [it] it (fun i h=>h.IsTupleIter it a i) where
 mem:=by simp
 obj:=fun i h st b hb=>by
  have e:b=it:=by simpa using hb
  subst e
  obtain ⟨o,e,c,d⟩:=st
  exact⟨o,e,fun v z=>by rw [d] at z; cases z⟩
 keep:=fun i h h' st k=>st.at fun o e=>k it (by simp) o e
 item:=by
  intro X hP hw hK hc i pins s σ H E I hf st hg
  subst hP hw hK
  obtain ⟨xs,x,hq,hx⟩:=hg
  obtain ⟨its,rv,p,hz⟩:=I.tuple hq
  obtain ⟨u,hu,ru⟩:=rv.get hx
  obtain ⟨f0,f1,f2,f3,f4,f5⟩:=hf it (by simp)
  refine wpAny_pyNext_tuple_item st (show s.heap.IsTuple a its.toArray from p) (x:=u) (by simpa using hu) fun h' st' sb=>?_
  have I1:a5 X pins σ H { s with heap:=h' }:=I.turned (t':=s.toks) (fun b o hb e=>(sb.2 b hb).trans e) f0 f1 f3 f4 f5
  obtain ⟨o,e,c,d⟩:=id st'
  exact⟨u,rfl,kQ (s:={ s with heap:=h' }) e c d (by decide) ⟨x,H,I1,ru,⟨rfl,fun ys hy=>by rw [I.tuple_inj hy hq]; exact hx⟩,st',fun b hb=>(hf b hb).1⟩⟩
 done:=by
  intro X hP hw hK hc i pins s σ H E I hf st hg
  subst hP hw hK
  obtain ⟨xs,hq,hx⟩:=hg
  obtain ⟨its,rv,p,hz⟩:=I.tuple hq
  obtain ⟨f0,f1,f2,f3,f4,f5⟩:=hf it (by simp)
  have hl:=rv.length
  exact wpAny_pyNext_tuple_end (I.ok.hd hc) st (show s.heap.IsTuple a its.toArray from p) (by simp; omega) fun h' eb=>⟨rfl,I.turned (t':=s.toks) (fun b o hb e=>eb b o hb e) f0 f1 f3 f4 f5⟩
 self:=fun _ _ _ _ _ st h=>wpAny_pyIter_tupleiter st h
theorem T3 {P:Program}{w:World}{K:PySem.W.Frag}{tg:Expr} (it:Addr) (lo:Int) (n:Nat):fR P w K tg (kR lo n) [it] it (fun i h=>IsRangeIter h it (lo+(i:Nat) * 1) ((n:Int) - (i:Nat)) 1) where
 mem:=by simp
 obj:=fun i h st b hb=>by
  have e:b=it:=by simpa using hb
  subst e
  exact⟨_,st,fun v z=>by
   have z':Data.fields _=Data.cell v:=z
   cases z'⟩
 keep:=fun i h h' st k=>k it (by simp) _ st
 item:=by
  intro X hP hw hK hc i pins s σ H E I hf st hg
  subst hP hw hK
  obtain ⟨f0,f1,f2,f3,f4,f5⟩:=hf it (by simp)
  have W:=Walks.range (prog:=X.prog) (w:=X.w) (I.ok.hd hc) it lo 1 n
  refine W.item i s _ _ hg st fun v h' tk hv st' kk=>?_
  obtain ⟨t,rfl⟩:=hv
  have I1:a5 X pins σ H { s with heap:=h',toks:=tk }:=I.turned (fun b o hb e=>kk b o (by simpa using hb) e) f0 f1 f3 f4 f5
  refine⟨_,rfl,kQ (s:={ s with heap:=h',toks:=tk }) (n:="range_iterator") st' rfl rfl (by decide) ⟨.int (lo+i),H,I1,⟨t,?_⟩,⟨rfl,rfl⟩,st',fun b hb=>(hf b hb).1⟩⟩
  rw [Int.mul_one]
 done:=by
  intro X hP hw hK hc i pins s σ H E I hf st hg
  subst hP hw hK
  obtain ⟨f0,f1,f2,f3,f4,f5⟩:=hf it (by simp)
  exact wpAny_pyNext_range_end (I.ok.hd hc) st (by have:n<=i:=hg; omega) fun h' eb=>⟨rfl,I.turned (t':=s.toks) (fun b o hb e=>eb b o hb e) f0 f1 f3 f4 f5⟩
 self:=fun _ _ _ _ _ st h=>wpAny_pyIter_rangeiter st h
section
variable {X : Cx} {tg : Expr}
def T4 (K:PySem.W.Frag) (tl:TE):TI:=fun σ H R=>tl σ H fun x H1=>∃ a,x = .ref a/\(∃ xs,aI K H1 a xs)/\R (i5 K a) H1
theorem vB {l:Expr}{tl:TE} (hl:PE X l tl):PI X tg l (T4 X.K tl):=by
 intro pins s σ H R I h
 refine aH (hl pins s σ H _ I h) fun v s1 ⟨x,H1,I1,r1,q1⟩=>?_
 obtain ⟨a,e,⟨xs,hq⟩,q⟩:=q1
 subst e
 cases r1
 obtain ⟨its,rv,p,hz⟩:=I1.tuple hq
 refine wpAny_pyIter_tuple (show s1.heap.IsTuple a its.toArray from p) ?_
 refine⟨s1.heap.objs.size,[s1.heap.objs.size],_,_,H1,rfl,I1.kept (t':=s1.toks) fun b o e=>aI8 _ e,vA a _,⟨_,aJ9 _ rfl,rfl,rfl⟩,fun b hb=>?_,q⟩
 have e:b=s1.heap.objs.size:=by simpa using hb
 subst e
 exact I1.fpOk (aJ0 _) (I1.hok.fresh (aJ0 _))
theorem vC {pins:List (Addr × Obj)}{σ:St}{H:Hp}{s:Shared}{R:It->Hp->Prop}{E:Value->Shared->Prop}{lo hi:Int}{t u v:Tok}{tk:Nat} (I:a5 X pins σ H s) (h1 : -(2 ^ 62)<=lo) (h2:lo < 2 ^ 62) (h3 : -(2 ^ 62)<=hi) (h4:hi < 2 ^ 62)
  (q:R (kR lo (hi - lo).toNat) H):wpAny (model X.prog X.w) X.A (pyIter (.ref s.heap.objs.size)) (v9 X pins σ tg R) E { s with heap:=s.heap.push { cls:=.type "range",data:=.fields #[.int lo t,.int hi u,.int 1 v] },toks:=tk }:=by
 refine wpAny_pyIter_range (IsRange.new ..) (small_one h1 h2 h3 h4) ?_
 have I1:a5 X pins σ H { s with heap:=s.heap.push { cls:=.type "range",data:=.fields #[.int lo t,.int hi u,.int 1 v] },toks:=tk }:=I.kept fun b o e=>aI8 _ e
 refine⟨(s.heap.push { cls:=.type "range",data:=.fields #[.int lo t,.int hi u,.int 1 v] }).objs.size,[(s.heap.push { cls:=.type "range",data:=.fields #[.int lo t,.int hi u,.int 1 v] }).objs.size],_,_,H,rfl,
  I1.kept (t':=tk) fun b o e=>aI8 _ e,T3 _ lo (hi - lo).toNat,?_,fun b hb=>?_,q⟩
 ·have e1:lo+((0:Nat):Int) * 1=lo:=by simp
  have e2:(((hi - lo).toNat:Nat):Int) - ((0:Nat):Int)=Builtin.Range.rangeSize lo hi 1:=by rw [rangeSize_one]; split <;> omega
  show IsRangeIter _ _ (lo+((0:Nat):Int) * 1) ((((hi - lo).toNat:Nat):Int) - ((0:Nat):Int)) 1
  rw [e1,e2]
  exact aJ9 _ rfl
 ·have e:b=(s.heap.push { cls:=.type "range",data:=.fields #[.int lo t,.int hi u,.int 1 v] }).objs.size:=by simpa using hb
  subst e
  exact I1.fpOk (aJ0 _) (I1.hok.fresh (aJ0 _))
def vD (ta:TA):TI:=fun σ H R=>ta σ H fun vs H1=>∃ j:Int,vs = [.int j]/\-(2 ^ 62)<=j/\j < 2 ^ 62/\R (kR 0 j.toNat) H1
def vE (ta:TA):TI:=fun σ H R=>ta σ H fun vs H1=>∃ i j:Int,vs = [.int i,.int j]/\(-(2 ^ 62)<=i/\i < 2 ^ 62/\-(2 ^ 62)<=j/\j < 2 ^ 62)/\R (kR i (j - i).toNat) H1
theorem T5 {a:Expr}{ta:TA}{p pos:Pos} (hg:Gl X "range") (hm:X.mg "range" = none) (ha:PA X [a] ta) (hs:starEach [a] X.env = [(false,eval a X.env)]:=by rfl):PI X tg (.Call (.Name "range" p) [a] [] pos) (vD ta):=by
 intro pins s σ H R I h
 refine Call_ (gK I hg hm boot_range (aO4 (aH (ha pos pins s σ H _ I h) fun us s1 ⟨vs,H1,I1,r1,q1⟩=>?_) hs rfl))
 obtain ⟨j,e,q1,q2,q⟩:=q1
 subst e
 cases r1 with
 | cons r rr=>
  cases rr
  obtain ⟨t,rfl⟩:=r
  exact call_range_1 (vC I1 (by omega) (by omega) q1 q2 (by simpa using q))
theorem T6 {a b:Expr}{ta:TA}{p pos:Pos} (hg:Gl X "range") (hm:X.mg "range" = none) (ha:PA X [a,b] ta) (hs:starEach [a,b] X.env = [(false,eval a X.env),(false,eval b X.env)]:=by rfl) (hs2:starEach [b] X.env = [(false,eval b X.env)]:=by rfl) :
  PI X tg (.Call (.Name "range" p) [a,b] [] pos) (vE ta):=by
 intro pins s σ H R I h
 refine Call_ (gK I hg hm boot_range (aO4 (aH (ha pos pins s σ H _ I h) fun us s1 ⟨vs,H1,I1,r1,q1⟩=>?_) (by rw [hs,hs2]) (by rw [hs2]; rfl)))
 obtain ⟨i,j,e,⟨q1,q2,q3,q4⟩,q⟩:=q1
 subst e
 cases r1 with
 | cons r rr=>
  cases rr with
  | cons r' rr=>
   cases rr
   obtain ⟨t,rfl⟩:=r
   obtain ⟨t',rfl⟩:=r'
   exact call_range_2 (vC I1 q1 q2 q3 q4 q)
def vF (wi:TI) (g:TG) (tb:TS):TS:=fun D σ H=>wi σ H fun J H1=>∃ W:Nat->Nat->St->Hp->Prop,(∃ m,W 0 m σ H1)/\∀ i m σ H,W i m σ H->
 (J.stop i H/\D.nx σ H) ∨ (J.go i H/\∃ N:St->Hp->Prop,(∀ σ' H',N σ' H'->∃ m',m' < m/\W (i+1) m' σ' H')/\∀ x H',J.yld i H x H'->g x σ H' fun σ2 H2=>tb { D with nx:=N,ct:=N,bk:=D.nx } σ2 H2)
def kS (fp:List Addr) (h:Heap):List (Addr × Obj):=fp.filterMap fun b=>(h.get? b).map fun o=>(b,o)
theorem mK {fp:List Addr}{h:Heap}{b:Addr}{o:Obj} (hb:b ∈ fp) (e:h.get? b=some o):(b,o) ∈ kS fp h:=List.mem_filterMap.mpr ⟨b,hb,by rw [e]; rfl⟩
theorem T7 {fp:List Addr}{h:Heap}{p:Addr × Obj} (hp:p ∈ kS fp h):p.1 ∈ fp/\h.get? p.1=some p.2:=by
 obtain ⟨b,hb,e⟩:=List.mem_filterMap.mp hp
 cases q:h.get? b with
 | none=>rw [q] at e; cases e
 | some o=>
  rw [q] at e
  have e':(b,o)=p:=aL5 e
  subst e'
  exact⟨hb,q⟩
theorem a5.pinned {pins:List (Addr × Obj)}{σ:St}{H:Hp}{s:Shared}{fp:List Addr} (I:a5 X pins σ H s) (hf:∀ b ∈ fp,eN X pins H b) (ho:∀ b ∈ fp,∃ o,s.heap.get? b=some o/\∀ v,o.data ≠ .cell v):a5 X (pins ++ kS fp s.heap) σ H s:=
 I.pins_of fun p hp=>(aL9.mp hp).elim (fun z=>I.pin p (aK6 _ z)) fun z=>by
  obtain ⟨hb,e⟩:=T7 z
  obtain ⟨f0,f1,f2,_⟩:=hf p.1 hb
  obtain ⟨o,e',d⟩:=ho p.1 hb
  rw [e] at e'; cases e'
  exact⟨e,f0,f1,f2,d⟩
theorem a5.unpinned {pins pl:List (Addr × Obj)}{σ:St}{H:Hp}{s:Shared} (I:a5 X (pins ++ pl) σ H s):a5 X pins σ H s:=I.pins_of fun p hp=>I.pin p (aK6 _ (aP7 _ hp))
theorem vG {iter:Expr}{body:List Stmt}{wi:TI}{g:TG}{tb:TS}{pos:Pos} (hp:PassesOwn (model X.prog X.w) X.A X.env X.xe) (hc:X.calm=true) (hi:PI X tg iter wi) (hg:PG X tg g) (hb:cB X body tb)
  (hs:∀ x,foldedSetIterable iter X.env x=pure x:=by intro _; rfl):PS X (.For tg iter body [] pos) (vF wi g tb):=by
 intro pins s σ H D I h
 refine wpAny_For (aH (hi pins s σ H _ I h) fun v s1 h1=>aH h1 fun itv s2 h2=>?_) hs
 obtain ⟨it,fp,tn,J,H2,e,I2,T,st2,f2,W,⟨m0,w0⟩,turn⟩:=h2
 subst e
 have stat:∀ {H':Hp},(∀ b ∈ fp,H' b=none)->∀ b ∈ fp,eN X pins H' b:=fun hn b hb=>⟨hn b hb,(f2 b hb).2⟩
 refine codeAny_forLoop_any (fun n s'=>∃ i σ' H',a5 X pins σ' H' s'/\tn i s'.heap/\(∀ b ∈ fp,H' b=none)/\W i n σ' H') ?_ m0 ⟨0,σ,H2,I2,st2,fun b hb=>(f2 b hb).1,w0⟩
 rintro n s3 ⟨i,σ3,H3,I3,st3,fr3,w3⟩
 rcases turn i n σ3 H3 w3 with ⟨stop,qn⟩ | ⟨go,N,hN,step⟩
 ·refine aU1 hp (aH (T.done X rfl rfl rfl hc i pins s3 σ3 H3 X.xe I3 (stat fr3) st3 stop) fun r s4 ⟨hr,I4⟩=>?_)
  subst hr
  exact wpAny_execs_nil ⟨σ3,H3,I4,qn⟩
 ·refine aU1 hp (aH (T.item X rfl rfl rfl hc i pins s3 σ3 H3 X.xe I3 (stat fr3) st3 go) fun r s4 ⟨u,hr,h4⟩=>?_)
  subst hr
  refine aU1 hp (aH h4 fun _ s5 ⟨x,H5,I5,r5,y5,st5,fr5⟩=>?_)
  have I5':=I5.pinned (stat fr5) (T.obj _ _ st5)
  refine aU1 hp (aH (hg _ s5 σ3 H5 x u _ I5' r5 (step x H5 y5)) fun _ s6 ⟨σ6,H6,I6,q6⟩=>?_)
  refine aU1 hp (aH (hb _ s6 σ6 H6 _ I6 q6) fun f s7 q7=>?_)
  have again:∀ {σ7:St}{H7:Hp},a5 X (pins ++ kS fp s5.heap) σ7 H7 s7->N σ7 H7->∃ m,m < n/\∃ i σ' H',a5 X pins σ' H' s7/\tn i s7.heap/\(∀ b ∈ fp,H' b=none)/\W i m σ' H':=fun {σ7 H7} I7 n7=>by
   obtain ⟨m',hm,w7⟩:=hN σ7 H7 n7
   refine⟨m',hm,i+1,σ7,H7,I7.unpinned,T.keep _ _ _ st5 fun b hb o e=>(I7.pin (b,o) (aK6 _ (aK6 _ (mK hb e)))).1,fun b hb=>?_,w7⟩
   obtain ⟨o,e,d⟩:=T.obj _ _ st5 b hb
   exact (I7.pin (b,o) (aK6 _ (aK6 _ (mK hb e)))).2.1
  cases f with
  | next=>obtain ⟨σ7,H7,I7,n7⟩:=q7; exact again I7 n7
  | cont=>obtain ⟨σ7,H7,I7,n7⟩:=q7; exact again I7 n7
  | brk=>obtain ⟨σ7,H7,I7,q7⟩:=q7; exact⟨σ7,H7,I7.unpinned,q7⟩
  | ret v=>obtain ⟨x7,σ7,H7,I7,r7,q7⟩:=q7; exact⟨x7,σ7,H7,I7.unpinned,r7,q7⟩
end
theorem aI3 {K:PySem.W.Frag}{a:Addr}{xs:List V}{g:TG}{tb:TS}{D:cA}{σ:St}{H:Hp} (Pv:Nat->St->Hp->Prop) (h0:Pv 0 σ H) (hl:∀ i σ H,i<=xs.length->Pv i σ H->aK K H a xs)
  (hs:∀ i x σ H,xs[i]? = some x->Pv i σ H->g x σ H fun σ2 H2=>tb { D with nx:=Pv (i+1),ct:=Pv (i+1),bk:=D.nx } σ2 H2) (hd:∀ σ H,Pv xs.length σ H->D.nx σ H) :
  ∃ W:Nat->Nat->St->Hp->Prop,(∃ m,W 0 m σ H)/\∀ i m σ H,W i m σ H->
   ((jH K a).stop i H/\D.nx σ H) ∨ ((jH K a).go i H/\∃ N:St->Hp->Prop,(∀ σ' H',N σ' H'->∃ m',m' < m/\W (i+1) m' σ' H')/\∀ x H',(jH K a).yld i H x H'->g x σ H' fun σ2 H2=>tb { D with nx:=N,ct:=N,bk:=D.nx } σ2 H2):=by
 refine⟨fun i m σ H=>m=xs.length - i/\i<=xs.length/\Pv i σ H,⟨xs.length,by simp,aN0 _,h0⟩,?_⟩
 rintro i m σ H ⟨rfl,hi,p⟩
 have q:=hl i σ H hi p
 by_cases hlt:i < xs.length
 ·refine .inr ⟨⟨xs,xs[i],q,by simp [hlt]⟩,Pv (i+1),fun σ' H' p'=>⟨xs.length - (i+1),by omega,rfl,hlt,p'⟩,fun x H' y=>?_⟩
  obtain ⟨e,y⟩:=y
  subst e
  exact hs i x σ _ (y xs q) p
 ·have e:i=xs.length:=by omega
  subst e
  exact .inl ⟨⟨xs,q,aJ0 _⟩,hd σ H p⟩
theorem T8 {K:PySem.W.Frag}{a:Addr}{xs:List V}{g:TG}{tb:TS}{D:cA}{σ:St}{H:Hp} (Pv:Nat->St->Hp->Prop) (h0:Pv 0 σ H) (hl:∀ i σ H,i<=xs.length->Pv i σ H->aI K H a xs)
  (hs:∀ i x σ H,xs[i]? = some x->Pv i σ H->g x σ H fun σ2 H2=>tb { D with nx:=Pv (i+1),ct:=Pv (i+1),bk:=D.nx } σ2 H2) (hd:∀ σ H,Pv xs.length σ H->D.nx σ H) :
  ∃ W:Nat->Nat->St->Hp->Prop,(∃ m,W 0 m σ H)/\∀ i m σ H,W i m σ H->
   ((i5 K a).stop i H/\D.nx σ H) ∨ ((i5 K a).go i H/\∃ N:St->Hp->Prop,(∀ σ' H',N σ' H'->∃ m',m' < m/\W (i+1) m' σ' H')/\∀ x H',(i5 K a).yld i H x H'->g x σ H' fun σ2 H2=>tb { D with nx:=N,ct:=N,bk:=D.nx } σ2 H2):=by
 refine⟨fun i m σ H=>m=xs.length - i/\i<=xs.length/\Pv i σ H,⟨xs.length,by simp,aN0 _,h0⟩,?_⟩
 rintro i m σ H ⟨rfl,hi,p⟩
 have q:=hl i σ H hi p
 by_cases hlt:i < xs.length
 ·refine .inr ⟨⟨xs,xs[i],q,by simp [hlt]⟩,Pv (i+1),fun σ' H' p'=>⟨xs.length - (i+1),by omega,rfl,hlt,p'⟩,fun x H' y=>?_⟩
  obtain ⟨e,y⟩:=y
  subst e
  exact hs i x σ _ (y xs q) p
 ·have e:i=xs.length:=by omega
  subst e
  exact .inl ⟨⟨xs,q,aJ0 _⟩,hd σ H p⟩
abbrev R2:=V->V->Hp->VK->Prop
def bR (X:Cx) (f:Value->Value->Sem Value) (r:R2):Prop:=
 ∀ (pins:List (Addr × Obj)) (s:Shared) (σ:St) (H:Hp) (x y:V) (v u:Value) (Q:VK),a5 X pins σ H s->aO x v->aO y u->r x y H Q->
  wpAny (model X.prog X.w) X.A (f v u) (EP X pins σ Q) X.xe s
def bU (X:Cx) (f:Value) (r:List V->Hp->VK->Prop):Prop:=
 ∀ (pins:List (Addr × Obj)) (s:Shared) (σ:St) (H:Hp) (xs:List V) (us:List Value) (Q:VK),a5 X pins σ H s->aG xs us->r xs H Q->
  wpAny (model X.prog X.w) X.A (call f us) (EP X pins σ Q) X.xe s
def T9 (X:Cx) (r:V->Hp->(Bool->Hp->Prop)->Prop):Prop:=
 ∀ (pins:List (Addr × Obj)) (s:Shared) (σ:St) (H:Hp) (x:V) (v:Value) (Q:Bool->Hp->Prop),a5 X pins σ H s->aO x v->r x H Q->
  wpAny (model X.prog X.w) X.A (truthy v) (TP X pins σ Q) X.xe s
def kT (r:R2) (ta tb:TE):TE:=fun σ H Q=>ta σ H fun x H1=>tb σ H1 fun y H2=>r x y H2 Q
def rI (C:Int->Int->Prop) (g:Int->Int->V):R2:=fun x y H Q=>∃ i j,x = .int i/\y = .int j/\C i j/\Q (g i j) H
def gN (g:Int->Int->V):R2:=fun x y H Q=>∃ i j,x = .int i/\y = .int j/\Q (g i j) H
section
variable {X : Cx} {a b c : Expr} {ta tb tc : TE} {pos : Pos}
theorem qD (ha:PE X a ta) (hb:PE X b tb) {pins:List (Addr × Obj)}{s:Shared}{σ:St}{H:Hp}{R:V->V->Hp->Prop} (I:a5 X pins σ H s)
  (h:ta σ H fun x H1=>tb σ H1 fun y H2=>R x y H2) {Q:Value->Shared->Prop}{f:Value->Value->Sem Value}
  (hf:∀ v u s2 x y H2,a5 X pins σ H2 s2->aO x v->aO y u->R x y H2->wpAny (model X.prog X.w) X.A (f v u) Q X.xe s2) :
  wpAny (model X.prog X.w) X.A (eval a X.env) (fun v s₁=>wpAny (model X.prog X.w) X.A (eval b X.env) (fun u s₂=>wpAny (model X.prog X.w) X.A (f v u) Q X.xe s₂) X.xe s₁) X.xe s:=by
 refine aH (ha pins s σ H _ I h) fun v s1 ⟨x,H1,I1,r1,q1⟩=>?_
 refine aH (hb pins s1 σ H1 _ I1 q1) fun u s2 ⟨y,H2,I2,r2,q2⟩=>?_
 exact hf v u s2 x y H2 I2 r1 r2 q2
theorem U0 {op:Operator}{r:R2} (ho:bR X (binaryOp op) r) (ha:PE X a ta) (hb:PE X b tb):PE X (.BinOp a op b pos) (kT r ta tb):=by
 intro pins s σ H Q I h
 exact wpAny_BinOp (qD ha hb I h fun v u s2 x y H2 I2 rx ry q=>ho pins s2 σ H2 x y v u Q I2 rx ry q)
theorem mL {f:Value->Value->Sem Value}{C:Int->Int->Prop}{g:Int->Int->Int}
  (rule:∀ (i j:Int) (t u:Tok) (s:Shared) (Q:Value->Shared->Prop) (E:Value->Shared->Prop),C i j->Q (.int (g i j) s.toks) { s with toks:=s.toks+1 }->wpAny (model X.prog X.w) X.A (f (.int i t) (.int j u)) Q E s) :
  bR X f (rI C fun i j=>.int (g i j)):=by
 intro pins s σ H x y v u Q I rx ry h
 obtain ⟨i,j,rfl,rfl,hc,q⟩:=h
 obtain ⟨t,rfl⟩:=rx
 obtain ⟨t',rfl⟩:=ry
 exact rule i j t t' s _ _ hc ⟨.int (g i j),H,I.tok _,⟨_,rfl⟩,q⟩
theorem vH {f:Value->Value->Sem Value}{g:Int->Int->Int}
  (rule:∀ (i j:Int) (t u:Tok) (s:Shared) (Q:Value->Shared->Prop) (E:Value->Shared->Prop),Q (.int (g i j) s.toks) { s with toks:=s.toks+1 }->wpAny (model X.prog X.w) X.A (f (.int i t) (.int j u)) Q E s) :
  bR X f (gN fun i j=>.int (g i j)):=by
 intro pins s σ H x y v u Q I rx ry h
 obtain ⟨i,j,rfl,rfl,q⟩:=h
 obtain ⟨t,rfl⟩:=rx
 obtain ⟨t',rfl⟩:=ry
 exact rule i j t t' s _ _ ⟨.int (g i j),H,I.tok _,⟨_,rfl⟩,q⟩
theorem qE {f:Value->Value->Sem Value}{g:Int->Int->Bool}
  (rule:∀ (i j:Int) (t u:Tok) (s:Shared) (Q:Value->Shared->Prop) (E:Value->Shared->Prop),Q (.bool (g i j)) s->wpAny (model X.prog X.w) X.A (f (.int i t) (.int j u)) Q E s) :
  bR X f (gN fun i j=>.bl (g i j)):=by
 intro pins s σ H x y v u Q I rx ry h
 obtain ⟨i,j,rfl,rfl,q⟩:=h
 obtain ⟨t,rfl⟩:=rx
 obtain ⟨t',rfl⟩:=ry
 exact rule i j t t' s _ _ ⟨.bl (g i j),H,I,rfl,q⟩
def qF (i j:Int):Prop:=0 < j/\j < 1073741824
def kU (i j:Int):Prop:=(-(2 ^ 64) < i/\i < 2 ^ 64) ∨ (-(2 ^ 64) < j/\j < 2 ^ 64)
theorem kU.ok {i j:Int} (h:kU i j):IntMulOk i j:=by
 rcases h with ⟨h1,h2⟩ | ⟨h1,h2⟩
 ·exact .of_left (intBits_le_64 h1 h2)
 ·exact .of_right (intBits_le_64 h1 h2)
theorem U1 (k:Nat):(0:Int)<=2 ^ k:=by
 rw [two_pow_cast]
 exact Int.natCast_nonneg _
theorem U2:bR X (binaryOp .Add) (gN fun i j=>.int (i+j)):=vH fun _ _ _ _ _ _ _ q=>add_int q
theorem U3:bR X (binaryOp .Sub) (gN fun i j=>.int (i - j)):=vH fun _ _ _ _ _ _ _ q=>sub_int q
theorem U4:bR X (binaryOp .Mult) (rI kU fun i j=>.int (i * j)):=mL fun _ _ _ _ _ _ _ hc q=>mul_int q hc.ok
theorem U5:bR X (binaryOp .FloorDiv) (rI qF fun i j=>.int (i / j)):=mL fun i j _ _ _ _ _ hc q=>by
 have h1:(0:Int) < j:=hc.1
 have h2:j < 1073741824:=hc.2
 exact floordiv_int (by omega) (by rw [Int.fdiv_eq_ediv_of_nonneg i (by omega)]; exact q) (.inl (PyProof.noPylong_small (by omega)))
theorem U6:bR X (binaryOp .Mod) (rI (fun _ j=>0 < j) fun i j=>.int (i % j)):=mL fun i j _ _ _ _ _ hc q=>by
 have h1:(0:Int) < j:=hc
 exact mod_int' (by omega) (by rw [Int.fmod_eq_emod_of_nonneg i (by omega)]; exact q)
theorem U7:bR X (binaryOp .RShift) (rI (fun _ j=>0<=j) fun i j=>.int (i / 2 ^ j.toNat)):=mL fun i j _ _ _ _ _ hc q=>
 rshift_int hc (by rw [Int.fdiv_eq_ediv_of_nonneg i (U1 _)]; exact q)
end
def vI:V->V->Bool
 | .non,.non=>true | .non,.int _=>true | .int _,.non=>true | .non,.bl _=>true | .bl _,.non=>true | .non,.str _=>true | .str _,.non=>true
 | .int _,.int _=>true | .bl _,.bl _=>true | .str _,.str _=>true | .byt _,.byt _=>true
 | .int _,.str _=>true | .str _,.int _=>true | .bl _,.str _=>true | .str _,.bl _=>true
 | _,_=>false
def vJ:R2:=fun x y H Q=>vI x y=true/\Q (.bl (decide (x=y))) H
def vK:R2:=fun x y H Q=>vI x y=true/\Q (.bl (!decide (x=y))) H
theorem vL {i j:Int}:decide (V.int i=V.int j)=(i == j):=by
 rw [aS9]
 simp
theorem vM {i j:Bool}:decide (V.bl i=V.bl j)=(i == j):=by
 rw [aS9]
 simp
theorem vN {i j:Str}:decide (V.str i=V.str j)=(i == j):=by
 rw [aS9]
 simp
theorem vO {i j:Array UInt8}:decide (V.byt i=V.byt j)=(i.toList == j.toList):=by
 rw [aS9]
 cases i
 cases j
 simp
section
variable {X : Cx} {a b c : Expr} {ta tb tc : TE} {pos : Pos}
theorem bM {pins:List (Addr × Obj)}{σ:St}{H:Hp}{s:Shared}{Q:VK}{k k':Bool} (I:a5 X pins σ H s) (q:Q (.bl k) H) (e:k=k'):EP X pins σ Q (.bool k') s:=by
 subst e
 exact⟨.bl k,H,I,rfl,q⟩
theorem vP:bR X (compareOp .Eq) vJ:=by
 intro pins s σ H x y v u Q I rx ry h
 obtain ⟨hs,q⟩:=h
 cases x with
 | non=>
  cases rx
  cases y with
  | non=>cases ry; exact PySem.EqNone.eq_none_none (bM I q (by simp))
  | bl j=>cases ry; exact PySem.EqNone.eq_none_bool (bM I q (by simp))
  | int j=>obtain ⟨t',rfl⟩:=ry; exact PySem.EqNone.eq_none_int (bM I q (by simp))
  | str j=>obtain ⟨t',rfl⟩:=ry; exact PySem.EqNone.eq_none_str (bM I q (by simp))
  | _=>exact absurd (show false=true from hs) aK7
 | bl i=>
  cases rx
  cases y with
  | non=>cases ry; exact PySem.EqNone.eq_bool_none (bM I q (by simp))
  | bl j=>cases ry; exact eq_bool (bM I q vM)
  | str j=>obtain ⟨t',rfl⟩:=ry; exact PySem.EqMixed.eq_bool_str (bM I q (by simp))
  | _=>exact absurd (show false=true from hs) aK7
 | int i=>
  obtain ⟨t,rfl⟩:=rx
  cases y with
  | non=>cases ry; exact PySem.EqNone.eq_int_none (bM I q (by simp))
  | int j=>obtain ⟨t',rfl⟩:=ry; exact eq_int (bM I q vL)
  | str j=>obtain ⟨t',rfl⟩:=ry; exact PySem.EqMixed.eq_int_str (bM I q (by simp))
  | _=>exact absurd (show false=true from hs) aK7
 | str i=>
  obtain ⟨t,rfl⟩:=rx
  cases y with
  | non=>cases ry; exact PySem.EqNone.eq_str_none (bM I q (by simp))
  | bl j=>cases ry; exact PySem.EqMixed.eq_str_bool (bM I q (by simp))
  | int j=>obtain ⟨t',rfl⟩:=ry; exact PySem.EqMixed.eq_str_int (bM I q (by simp))
  | str j=>obtain ⟨t',rfl⟩:=ry; exact eq_str (bM I q vN)
  | _=>exact absurd (show false=true from hs) aK7
 | byt i=>
  obtain ⟨t,rfl⟩:=rx
  cases y with
  | byt j=>obtain ⟨t',rfl⟩:=ry; exact PySem.W.eq_bytes (bM I q vO)
  | _=>exact absurd (show false=true from hs) aK7
 | _=>cases y <;> exact absurd (show false=true from hs) aK7
theorem vQ:bR X (compareOp .NotEq) vK:=by
 intro pins s σ H x y v u Q I rx ry h
 obtain ⟨hs,q⟩:=h
 cases x with
 | non=>
  cases rx
  cases y with
  | non=>cases ry; exact PySem.EqNone.ne_none_none (bM I q (by simp))
  | bl j=>cases ry; exact PySem.EqNone.ne_none_bool (bM I q (by simp))
  | int j=>obtain ⟨t',rfl⟩:=ry; exact PySem.EqNone.ne_none_int (bM I q (by simp))
  | str j=>obtain ⟨t',rfl⟩:=ry; exact PySem.EqNone.ne_none_str (bM I q (by simp))
  | _=>exact absurd (show false=true from hs) aK7
 | bl i=>
  cases rx
  cases y with
  | non=>cases ry; exact PySem.EqNone.ne_bool_none (bM I q (by simp))
  | bl j=>cases ry; exact ne_bool (bM I q (congrArg not vM))
  | str j=>obtain ⟨t',rfl⟩:=ry; exact PySem.EqMixed.ne_bool_str (bM I q (by simp))
  | _=>exact absurd (show false=true from hs) aK7
 | int i=>
  obtain ⟨t,rfl⟩:=rx
  cases y with
  | non=>cases ry; exact PySem.EqNone.ne_int_none (bM I q (by simp))
  | int j=>obtain ⟨t',rfl⟩:=ry; exact ne_int (bM I q (congrArg not vL))
  | str j=>obtain ⟨t',rfl⟩:=ry; exact PySem.EqMixed.ne_int_str (bM I q (by simp))
  | _=>exact absurd (show false=true from hs) aK7
 | str i=>
  obtain ⟨t,rfl⟩:=rx
  cases y with
  | non=>cases ry; exact PySem.EqNone.ne_str_none (bM I q (by simp))
  | bl j=>cases ry; exact PySem.EqMixed.ne_str_bool (bM I q (by simp))
  | int j=>obtain ⟨t',rfl⟩:=ry; exact PySem.EqMixed.ne_str_int (bM I q (by simp))
  | str j=>obtain ⟨t',rfl⟩:=ry; exact ne_str (bM I q (congrArg not vN))
  | _=>exact absurd (show false=true from hs) aK7
 | byt i=>
  obtain ⟨t,rfl⟩:=rx
  cases y with
  | byt j=>obtain ⟨t',rfl⟩:=ry; exact PySem.W.ne_bytes (bM I q (congrArg not vO))
  | _=>exact absurd (show false=true from hs) aK7
 | _=>cases y <;> exact absurd (show false=true from hs) aK7
theorem mM:bR X (compareOp .Lt) (gN fun i j=>.bl (decide (i < j))):=qE fun _ _ _ _ _ _ _ q=>lt_int q
theorem U8:bR X (compareOp .Gt) (gN fun i j=>.bl (decide (j < i))):=qE fun _ _ _ _ _ _ _ q=>gt_int q
theorem U9:bR X (compareOp .GtE) (gN fun i j=>.bl (decide (j<=i))):=qE fun _ _ _ _ _ _ _ q=>ge_int q
theorem V0:bR X (compareOp .IsNot) (fun x y H Q=>y = .non/\Q (.bl (!decide (x = .non))) H):=by
 intro pins s σ H x y v u Q I rx ry h
 obtain ⟨rfl,q⟩:=h
 cases ry
 refine isnot_none_gen (bM I q ?_)
 cases x <;> first
  | (cases rx; rfl)
  | (obtain ⟨t,rfl⟩:=rx; rfl)
theorem eO (b:Expr) {op:CmpOp} (h:op ≠ .In:=by decide) (h2:op ≠ .NotIn:=by decide):behindInMarks op b=false:=by
 have e1:(op == CmpOp.In)=false:=by cases op <;> first | rfl | exact absurd rfl h
 have e2:(op == CmpOp.NotIn)=false:=by cases op <;> first | rfl | exact absurd rfl h2
 cases b <;> simp [behindInMarks,e1,e2]
theorem qG {op:CmpOp}{r:R2} (ho:bR X (compareOp op) r) (ha:PE X a ta) (hb:PE X b tb) (hm:behindInMarks op b=false):PE X (.Compare a [op] [b] pos) (kT r ta tb):=by
 intro pins s σ H Q I h
 exact wpAny_Compare1 (qD ha hb I h fun v u s2 x y H2 I2 rx ry q=>ho pins s2 σ H2 x y v u Q I2 rx ry q) hm
def V1 (t:TE):TT:=fun σ H Q=>t σ H fun x H'=>∃ k,x = .bl k/\Q k H'
theorem V2 {op:CmpOp}{r:R2} (ho:bR X (compareOp op) r) (ha:PE X a ta) (hb:PE X b tb) (hm:behindInMarks op b=false):PT X (.Compare a [op] [b] pos) (V1 (kT r ta tb)):=by
 intro pins s σ H Q I h
 refine wpAny_isTrue_Compare1 (aH (ha pins s σ H _ I h) fun v s1 ⟨x,H1,I1,r1,q1⟩=>aH (hb pins s1 σ H1 _ I1 q1) fun u s2 ⟨y,H2,I2,r2,q2⟩=>
  aH (ho pins s2 σ H2 x y v u _ I2 r1 r2 q2) fun c s3 ⟨z,H3,I3,r3,k,e,q3⟩=>?_) hm
 subst e
 cases r3
 exact aR2 ⟨H3,I3,q3⟩
def qH (K:PySem.W.Frag) (x:V) (H:Hp) (k:Bool):Prop:=
 match x with
 | .non=>k=false
 | .bl b=>k=b
 | .int i=>k=(i != 0)
 | .str y=>y.length<=sizeLine/\k=((y.length:Int) != 0)
 | .byt y=>y.size<=sizeLine/\k=((y.size:Int) != 0)
 | .ref p=>(∃ xs,aK K H p xs/\k = !xs.isEmpty) ∨ (∃ xs,aI K H p xs/\k = !xs.isEmpty) ∨ ∃ kvs,H p=some (.dK kvs)/\k = !kvs.isEmpty
 | _=>False
theorem V3 {κ:Type}{kvs:List (κ × V)}{vs:List (κ × Value)} (r:KV kvs vs):(!vs.isEmpty) = !kvs.isEmpty:=by
 cases r <;> rfl
theorem vR {xs:List V}{its:List Value} (r:aG xs its):(!its.toArray.isEmpty) = !xs.isEmpty:=by
 cases r <;> simp
theorem jI:(sizeLine:Nat) < 2 ^ 63:=by rw [sizeLine_eq]; decide
theorem V4:T9 X (fun x H Q=>∃ k,qH X.K x H k/\Q k H):=by
 intro pins s σ H x v Q I rx h
 obtain ⟨k,e,q⟩:=h
 have hl:=jI
 have hs:sizeLine=16777216:=sizeLine_eq
 cases x with
 | non=>
  cases rx
  have e':k=false:=e
  subst e'
  exact truthy_none ⟨H,I,q⟩
 | bl b=>
  cases rx
  have e':k=b:=e
  subst e'
  exact aR2 ⟨H,I,q⟩
 | int i=>
  obtain ⟨t,rfl⟩:=rx
  have e':k=(i != 0):=e
  subst e'
  exact PySem.P.truthy_int ⟨H,I,q⟩
 | str y=>
  obtain ⟨t,rfl⟩:=rx
  obtain ⟨hy,e'⟩:y.length<=sizeLine/\k=((y.length:Int) != 0):=e
  subst e'
  exact PySem.P.truthy_str (by omega) ⟨H,I.tok _,q⟩
 | byt y=>
  obtain ⟨t,rfl⟩:=rx
  obtain ⟨hy,e'⟩:y.size<=sizeLine/\k=((y.size:Int) != 0):=e
  subst e'
  exact PySem.W.truthy_bytes (by omega) ⟨H,I.tok _,q⟩
 | ref p=>
  cases rx
  have e':(∃ xs,aK X.K H p xs/\k = !xs.isEmpty) ∨ (∃ xs,aI X.K H p xs/\k = !xs.isEmpty) ∨ ∃ kvs,H p=some (.dK kvs)/\k = !kvs.isEmpty:=e
  rcases e' with ⟨xs,hx,e'⟩ | ⟨xs,hx,e'⟩ | ⟨kvs,hx,e'⟩
  ·subst e'
   obtain ⟨its,r,pl,hz⟩:=I.list hx
   have hlen:=r.length
   exact wpAny_truthy_list pl.isList (by simp only [aI9]; omega) ⟨H,I.tok _,by rw [vR r]; exact q⟩
  ·subst e'
   obtain ⟨its,r,pl,hz⟩:=I.tuple hx
   have hlen:=r.length
   exact truthy_tuple pl (by simp only [aI9]; omega) ⟨H,I.tok _,by rw [vR r]; exact q⟩
  ·subst e'
   obtain ⟨hz,hS,vs,r,m⟩:kvs.length<=sizeLine/\(p == sysModules)=false/\∃ vs,KV kvs vs/\s.heap.DictOf (dM X.prog X.w) p vs:=I.hok p _ hx
   have hlen:kvs.length=vs.length:=Paired.length r
   exact wpAny_truthy_dict hS m (by omega) ⟨H,I.tok _,by rw [V3 r]; exact q⟩
 | _=>exact (show False from e).elim
theorem V5 (ha:PE X a ta) (he:∀ whole,isTrue a X.env whole=(do let v <- whole; standAt a.pos; holding [v] (truthy v))) :
  PT X a (fun σ H Q=>ta σ H fun x H'=>∃ k,qH X.K x H' k/\Q k H'):=by
 intro pins s σ H Q I h
 exact isTrue_plain (aH (ha pins s σ H _ I h) fun v s1 ⟨x,H1,I1,r1,q1⟩=>V4 pins s1 σ H1 x v Q I1 r1 q1) (he _)
theorem eC {x:V}{us:List Value} (r:aG [x] us):∃ u,us = [u]/\aO x u:=by
 cases r with
 | cons r1 r2=>cases r2; exact⟨_,rfl,r1⟩
theorem kW {x y:V}{us:List Value} (r:aG [x,y] us):∃ u w',us = [u,w']/\aO x u/\aO y w':=by
 cases r with
 | cons r1 r2=>
  cases r2 with
  | cons r3 r4=>cases r4; exact⟨_,_,rfl,r1,r3⟩
theorem V6 (hc:X.calm=true):bU X (.builtin "max") (fun xs H Q=>∃ i j,xs = [.int i,.int j]/\Q (.int (if j > i then j else i)) H):=by
 intro pins s σ H xs us Q I r h
 obtain ⟨i,j,rfl,q⟩:=h
 obtain ⟨u,w',rfl,⟨t,rfl⟩,⟨t',rfl⟩⟩:=kW r
 refine max_two_ints (I.ok.hd hc) fun h' tk k=>⟨_,H,I.kept k,?_,q⟩
 by_cases hj:j > i
 ·rw [if_pos hj,if_pos hj]; exact⟨_,rfl⟩
 ·rw [if_neg hj,if_neg hj]; exact⟨_,rfl⟩
theorem V7 (hc:X.calm=true):bU X (.builtin "min") (fun xs H Q=>∃ i j,xs = [.int i,.int j]/\Q (.int (if j < i then j else i)) H):=by
 intro pins s σ H xs us Q I r h
 obtain ⟨i,j,rfl,q⟩:=h
 obtain ⟨u,w',rfl,⟨t,rfl⟩,⟨t',rfl⟩⟩:=kW r
 refine min_two_ints (I.ok.hd hc) fun h' tk k=>⟨_,H,I.kept k,?_,q⟩
 by_cases hj:j < i
 ·rw [if_pos hj,if_pos hj]; exact⟨_,rfl⟩
 ·rw [if_neg hj,if_neg hj]; exact⟨_,rfl⟩
theorem V8:bU X (.type "int") (fun xs H Q=>(∃ i,xs = [.int i]/\Q (.int i) H) ∨ ∃ k,xs = [.bl k]/\Q (.int (if k then 1 else 0)) H):=by
 intro pins s σ H xs us Q I r h
 rcases h with ⟨i,rfl,q⟩ | ⟨k,rfl,q⟩
 ·obtain ⟨u,rfl,t,rfl⟩:=eC r
  exact call_int_int ⟨.int i,H,I,⟨_,rfl⟩,q⟩
 ·obtain ⟨u,rfl,r1⟩:=eC r
  cases r1
  exact call_int_bool ⟨.int (if k then 1 else 0),H,I.tok _,⟨_,rfl⟩,q⟩
end
structure qI (h:Heap) (x dx C:Addr) (mA:Str->Option Value):Prop where
 obj:h.get? x=some (PySem.W.instObj C dx)
 ns:h.Ns1 dx mA
 ne:dx ≠ x
theorem V9 {h:Heap}{dx:Addr}{mA:Str->Option Value} (n:h.Ns1 dx mA):∃ od,h.get? dx=some od/\∀ name,PySem.W.lookIn name od=some (mA name):=by
 obtain ⟨o,es,ep,ho,hd,hk,_,hm⟩:=n
 refine⟨o,ho,fun name=>?_⟩
 have e:=hm name
 unfold nsFind findBy at e
 rw [<- Array.find?_toList] at e
 unfold PySem.W.lookIn
 rw [hd]
 dsimp only
 split
 ·rename_i y q
  rw [q] at e
  exact congrArg some e
 ·rename_i q
  rw [q] at e
  have a:es.toList.any (·.refKey)=false:=by
   rw [List.any_eq_false]
   intro y hy
   obtain ⟨z,t,hkey⟩:=hk y (Array.mem_toList_iff.mp hy)
   simp [DictEntry.refKey,hkey]
  have a' : ¬ es.toList.any (·.refKey)=true:=by rw [a]; exact aK7
  rw [if_neg a']
  exact congrArg some e
theorem qI.look {h:Heap}{x dx C:Addr}{mA:Str->Option Value} (I:qI h x dx C mA):∃ od,PySem.W.InstAt h x (PySem.W.instObj C dx) C (some od)/\∀ name,PySem.W.lookIn name od=some (mA name):=
 let ⟨od,ho,hl⟩:=V9 I.ns
 ⟨od,⟨I.obj,rfl,rfl,ho⟩,hl⟩
theorem fD.some_of {v:V}{o:Option Value} (r:fD (some v) o):∃ u,o=some u/\aO v u:=by
 cases o with
 | none=>exact (show False from r).elim
 | some u=>exact⟨u,rfl,r⟩
section
variable {P : Program} {w : World} {H H' : Hp} {h h' : Heap} {a C dx : Addr} {fs fs' : List (Str × V)}
theorem W0 (hok:bD P w H h) (e:H a=some (.ins C dx fs)):∃ mA,qI h a dx C mA/\(∀ f,fD (fs.lookup f) (mA f))/\PySem.Within mA (fs.map (·.1))/\fs.length<=1000/\H dx=some (.own a):=by
 obtain ⟨d,z,ne,ob,mA,n,r,q⟩:=(show b8 P w H h a (.ins C dx fs) from hok a _ e)
 exact⟨mA,⟨ob,n,ne⟩,r,q,z,d⟩
end
structure qJ (K:PySem.W.Frag) (C:Addr):Prop where
 pg:PySem.W.plainGet K C Str.empty=true
 hd:PySem.W.hasDictIn K C=true
 po:PySem.W.plainOver K C=true
 sa:PySem.W.findIn K (.ref C) "__setattr__" = some (some (.builtin "object.__setattr__"))
theorem qJ.get {K:PySem.W.Frag}{C:Addr} (c:qJ K C) (f:Str):PySem.W.plainGet K C f=true:=c.pg
section
variable {X : Cx} {pins : List (Addr × Obj)} {σ : St} {H : Hp} {s : Shared} {A : Around} {E : Value → Shared → Prop} {Q : Value → Shared → Prop} {c : Value} {b : Bool}
inductive dW (K:PySem.W.Frag) (H:Hp):V->Value->Prop where
 | non:dW K H .non (.type "NoneType")
 | bl (x:Bool):dW K H (.bl x) (.type "bool")
 | int (i:Int):dW K H (.int i) (.type "int")
 | str (x:Str):dW K H (.str x) (.type "str")
 | flt (x:UInt64):dW K H (.flt x) (.type "float")
 | lst {a:Addr}{xs:List V} (e:H a=some (.lst xs)):dW K H (.ref a) (.type "list")
 | frz {a:Addr}{o:Obj}{xs:List V} (e:H a=some (.frz o (.lst xs))):dW K H (.ref a) (.type "list")
 | tup {a:Addr}{xs:List V} (e:H a=some (.tup xs)):dW K H (.ref a) (.type "tuple")
 | dK {a:Addr}{kvs:List (aD × V)} (e:H a=some (.dK kvs)):dW K H (.ref a) (.type "dict")
 | dT {a:Addr}{kvs:List (List aD × V)} (e:H a=some (.dT kvs)):dW K H (.ref a) (.type "dict")
 | ins {a C dx:Addr}{fs:List (Str × V)} (e:H a=some (.ins C dx fs)) (cl:qJ K C) (ha:PySem.W.findIn K (.ref C) "__class__" = some (some (.builtin "object.__class__")))
   (hn:PySem.W.specialIn K (.builtin "object.__class__") "__get__" = some (some (.builtin "getset_descriptor.__get__"))) (htk:PySem.W.takesIn K (.builtin "object.__class__")=some true)
   (hm:PySem.W.mroIn K C (.type "object")=some true):dW K H (.ref a) (.ref C)
theorem W5 {x:V}{u t:Value} (I:a5 X pins σ H s) (rx:aO x u) (ty:dW X.K H x t) (e:PySem.W.kitOne X.K t c=some b) (h:∀ tk,Q (.bool b) { s with toks:=tk }) :
  wpAny (model X.prog X.w) A (call (.builtin "isinstance") [u,c]) Q E s:=by
 cases ty with
 | non=>cases (show u=Value.none from rx); exact aN9 PySem.W.kitx_none I.kIn aV2 e (fun z=>nomatch z) h
 | bl y=>cases (show u=Value.bool y from rx); exact aN9 PySem.W.kitx_bool I.kIn aV2 e (fun z=>nomatch z) h
 | int i=>obtain ⟨t,q⟩:=(show ∃ t,u=Value.int i t from rx); cases q; exact aN9 PySem.W.kitx_int I.kIn aV2 e (fun z=>nomatch z) h
 | str y=>obtain ⟨t,q⟩:=(show ∃ t,u=Value.str y t from rx); cases q; exact aN9 PySem.W.kitx_str I.kIn aV2 e (fun z=>nomatch z) h
 | flt y=>obtain ⟨t,q⟩:=(show ∃ t,u=Value.float y t from rx); cases q; exact aN9 PySem.W.kitx_float I.kIn aV2 e (fun z=>nomatch z) h
 | @lst a xs ea=>
  cases (show u=Value.ref a from rx)
  obtain ⟨_,_,n,_,h1⟩:=(show b8 X.prog X.w H s.heap a (.lst xs) from I.hok a _ ea)
  exact aN9 PySem.W.kitx_list I.kIn ⟨_,h1,rfl⟩ e (fun z=>nomatch z) h
 | @frz a ob xs ea=>
  cases (show u=Value.ref a from rx)
  obtain ⟨_,_,_,n,_,h1⟩:=(show b8 X.prog X.w H s.heap a (.frz ob (.lst xs)) from I.hok a _ ea)
  exact aN9 PySem.W.kitx_list I.kIn ⟨_,h1,rfl⟩ e (fun z=>nomatch z) h
 | @tup a xs ea=>
  cases (show u=Value.ref a from rx)
  obtain ⟨_,_,_,p⟩:=(show b8 X.prog X.w H s.heap a (.tup xs) from I.hok a _ ea)
  obtain ⟨o,h1,h2,_⟩:=p
  exact aN9 PySem.W.kitx_tuple I.kIn ⟨o,h1,h2⟩ e (fun z=>nomatch z) h
 | @dK a kvs ea=>
  cases (show u=Value.ref a from rx)
  obtain ⟨_,_,vs,_,p⟩:=(show b8 X.prog X.w H s.heap a (.dK kvs) from I.hok a _ ea)
  obtain ⟨o,es,ep,h1,h2,_⟩:=p
  exact aN9 PySem.W.kitx_dict I.kIn ⟨o,h1,h2.1⟩ e (fun z=>nomatch z) h
 | @dT a kvs ea=>
  cases (show u=Value.ref a from rx)
  obtain ⟨_,_,xs,_,o,es,ep,h1,h2,_⟩:=(show b8 X.prog X.w H s.heap a (.dT kvs) from I.hok a _ ea)
  exact aN9 PySem.W.kitx_dict I.kIn ⟨o,h1,h2.1⟩ e (fun z=>nomatch z) h
 | @ins a C dx fs ea cl ha hn htk hm=>
  cases (show u=Value.ref a from rx)
  obtain ⟨mA,O,_⟩:=W0 I.hok ea
  obtain ⟨od,J,_⟩:=O.look
  exact aN9 (PySem.W.kitx_own (cl.get _) cl.hd ha hn htk hm) I.kIn J e (fun z=>nomatch z) h
end
structure bE (k:Nat) (A:Around):Prop where
 hd:A.handled=none
 dp:A.depth+3 * k+5 < recursionLimit
 un:A.units+16 * k+200 < cLine
theorem bE.mono {j k:Nat}{A:Around} (r:bE k A) (h:j<=k):bE j A:=⟨r.hd,by have:=r.dp; omega,by have:=r.un; omega⟩
theorem bE.deeper {k:Nat}{A:Around} (r:bE (k+1) A) (env:Env):bE k (A.deeper env):=
 ⟨r.hd,by have:=r.dp; show A.depth+1+3 * k+5 < _; omega,by have:=r.un; show A.units+3+16 * k+200 < _; omega⟩
theorem bE.depth {k:Nat}{A:Around} (r:bE k A):A.depth < recursionLimit:=by have:=r.dp; omega
theorem bE.units {k:Nat}{A:Around} (r:bE k A):A.units+64 < cLine:=by have:=r.un; omega
def iJ:TA:=fun _ H Q=>Q [] H
def iK (ta:TE) (tr:TA):TA:=fun σ H Q=>ta σ H fun x H1=>tr σ H1 fun xs H2=>Q (x :: xs) H2
section
variable {X : Cx} {e : Expr} {es : List Expr} {te : TE} {t : TA} {pos : Pos}
theorem dH:PA X [] iJ:=fun _ _ _ _ H Q I h=>Calls.spliced_nil ⟨[],H,I,.nil,h⟩
theorem cN (ha:PE X e te) (hr:PA X es t) (hs:starEach (e :: es) X.env=(false,eval e X.env) :: starEach es X.env:=by rfl):PA X (e :: es) (iK te t):=by
 intro pos pins s σ H Q I h
 rw [hs]
 show wpAny _ _ (spliced ((false,eval e X.env) :: backTo pos (starEach es X.env))) _ _ s
 refine Calls.spliced_cons (aH (ha pins s σ H _ I h) fun u s1 ⟨x,H1,I1,r1,q1⟩=>?_)
 exact aH (hr pos pins s1 σ H1 _ I1 q1) fun us s2 ⟨xs,H2,I2,r2,q2⟩=>⟨x :: xs,H2,I2,.cons r1 r2,q2⟩
def qK (t:TA):TE:=fun σ H Q=>t σ H fun xs H1=>xs.length<=sizeLine/\∀ p,H1 p=none->Q (.ref p) (upd H1 p (.tup xs))
def vS (t:TA):TE:=fun σ H Q=>t σ H fun xs H1=>xs.length<=sizeLine/\∀ p,H1 p=none->Q (.ref p) (upd H1 p (.lst xs))
theorem vT {x1} (h:PA X es t):PE X (.Tuple es x1 pos) (qK t):=by
 intro pins s σ H Q I hq
 refine wpAny_Tuple_spliced (aH (h pos pins s σ H _ I hq) fun us s1 ⟨xs,H1,I1,r,z,q⟩=>⟨by rw [<- r.length]; exact z,?_⟩)
 have hf:H1 s1.heap.objs.size=none:=I1.hok.fresh (aJ0 _)
 refine⟨.ref s1.heap.objs.size,upd H1 s1.heap.objs.size (.tup xs),I1.laid (t':=s1.toks) (fun b u e=>aI8 _ e) (aJ0 _) ?_,rfl,q _ hf⟩
 exact⟨z,us,r,⟨_,aJ9 _ rfl,rfl,_,rfl⟩⟩
theorem vU (h:PA X es t):PE X (.List es pos) (vS t):=by
 intro pins s σ H Q I hq
 refine wpAny_List_spliced (aH (h pos pins s σ H _ I hq) fun us s1 ⟨xs,H1,I1,r,z,q⟩=>⟨by rw [<- r.length]; exact z,?_⟩)
 have hf:H1 s1.heap.objs.size=none:=I1.hok.fresh (aJ0 _)
 refine⟨.ref s1.heap.objs.size,upd H1 s1.heap.objs.size (.lst xs),I1.laid (t':=s1.toks) (fun b u e=>aI8 _ e) (aJ0 _) ?_,rfl,q _ hf⟩
 exact⟨z,us,0,r,aJ9 _ rfl⟩
end
abbrev Sp:=List V->Hp->VK->XK->Prop
abbrev eQ:=List Env->Hp->Shared->XK->Value->Shared->Prop
structure mO (P:Program) (w:World) (K:PySem.W.Frag) (mg:Str->Option Value) (base:Heap) (A:Around) (outer:List Env) (s:Shared) (H:Hp):Prop where
 frames:A.frames=some outer
 mod:Mod K mg base
 bs:∀ b o,base.get? b=some o->s.heap.get? b=some o/\H b=none
 bsz:base.objs.size<=s.heap.objs.size
 funs:s.heap.FunFrames base outer
 frf:∀ b ∈ bA outer,H b=none
 hok:bD P w H s.heap
 bare:AllBare s.gens
def CE (outer:List Env) (P:Program) (w:World) (H:Hp) (s:Shared) (Q:VK) (u:Value) (s':Shared):Prop:=
 ∃ v H',s'.os=s.os/\AllBare s'.gens/\Un (bA outer) [] H H' s.heap s'.heap/\bD P w H' s'.heap/\aO v u/\Q v H'
def CR (CX:eQ) (outer:List Env) (P:Program) (w:World) (H:Hp) (s:Shared) (Q:VK) (E:XK) (r:Result) (s':Shared):Prop:=
 match r with
 | .ok (.ret u)=>CE outer P w H s Q u s'
 | .ok _=>False
 | .error e=>CX outer H s E e s'
structure bV (P:Program) (w:World) (K:PySem.W.Frag) (mg:Str->Option Value) (base:Heap) (CX:eQ) (k:Nat) (f:Addr) (fd:FuncData) (ps:List Str) (sp:Sp):Prop where
 len:∀ vs H Q E,sp vs H Q E->vs.length=ps.length
 run:∀ (A:Around) (outer:List Env) (s:Shared) (H:Hp) (args:Args) (us:List Value) (vs:List V) (Q:VK) (E:XK),bE k A->mO P w K mg base A outer s H->BindsTo s fd args (ps.zip us)->aG vs us->sp vs H Q E->
  codeAny (model P w) A (.call (.ref f) args) (CR CX outer P w H s Q E) s
theorem bV.imp {P:Program}{w:World}{K:PySem.W.Frag}{mg:Str->Option Value}{base:Heap}{CX:eQ}{k:Nat}{f:Addr}{fd:FuncData}{ps:List Str}{sp sp':Sp} (F:bV P w K mg base CX k f fd ps sp)
  (h:∀ vs H Q E,sp' vs H Q E->sp vs H Q E):bV P w K mg base CX k f fd ps sp':=
 ⟨fun vs H Q E q=>F.len vs H Q E (h _ _ _ _ q),fun A outer s H args us vs Q E hr he hb hv hs=>F.run A outer s H args us vs Q E hr he hb hv (h _ _ _ _ hs)⟩
section
variable {X : Cx} {pins : List (Addr × Obj)} {σ : St} {H : Hp} {s s' : Shared}
theorem a5.env0 (I:a5 X pins σ H s):mO X.prog X.w X.K X.mg X.base X.A X.stack s H:=
 ⟨I.ok.frames,I.ok.mod,I.bs,aM8 I.ok.bsz I.sz,I.stack,I.stkFree,I.hok,I.bare⟩
theorem a5.after {Q:VK}{u:Value} (I:a5 X pins σ H s) (h:CE X.stack X.prog X.w H s Q u s'):EP X pins σ Q u s':=by
 obtain ⟨v,H',os,bare,un,hok,r,q⟩:=h
 obtain ⟨hh,g,d,t,os'⟩:=s'
 obtain rfl:os'=s.os:=os
 exact⟨v,H',I.call (h':=hh) (g':=g) (d':=d) (t':=t) (ch:=[]) un hok bare (fun b z=>absurd z (by simp)),r,q⟩
end
def mP (sp:Sp) (dvs:List V) (E:XK) (t:TA):TE:=fun σ H Q=>t σ H fun vs H1=>sp (vs ++ dvs) H1 Q E
def eR (K:PySem.W.Frag) (fd:FuncData) (ps:List Str) (ds:List Value):Prop:=
 ∀ (s:Shared) (us:List Value),K.In s.heap->(us ++ ds).length=ps.length->BindsTo s fd ⟨us,[]⟩ (ps.zip (us ++ ds))
theorem eR.all {K:PySem.W.Frag}{fd:FuncData}{ps:List Str} (h:∀ us:List Value,us.length=ps.length->bindArgs fd ⟨us,[]⟩=pure (ps.zip us)):eR K fd ps []:=fun s us _ hl=>by
 rw [aN3] at hl ⊢
 exact .of_eq (h us hl)
def jJ (CX:eQ) (X:Cx) (E:XK):Prop:=∀ (pins:List (Addr × Obj)) (σ:St) (H:Hp) (s:Shared) (e:Value) (s':Shared),a5 X pins σ H s->CX X.stack H s E e s'->X.xe e s'
section
variable {X : Cx} {CX : eQ} {k : Nat} {f C : Addr} {fd : FuncData} {ps : List Str} {sp : Sp} {dvs : List V} {ds : List Value} {E : XK} {x m : Str} {p pos apos : Pos} {e o : Expr} {es : List Expr} {ta : TE} {t : TA}
theorem vV {pins:List (Addr × Obj)}{σ:St}{H:Hp}{s:Shared}{Q:VK}{us:List Value}{vs:List V} (F:bV X.prog X.w X.K X.mg X.base CX k f fd ps sp) (hr:bE k X.A) (hb:eR X.K fd ps ds) (hd:aG dvs ds) (hx:jJ CX X E)
  (I:a5 X pins σ H s) (r:aG vs us) (h:sp (vs ++ dvs) H Q E):wpAny (model X.prog X.w) X.A (call (.ref f) us) (EP X pins σ Q) X.xe s:=by
 have r2:aG (vs ++ dvs) (us ++ ds):=r.append hd
 have hl:(us ++ ds).length=ps.length:=by rw [<- r2.length]; exact F.len _ _ _ _ h
 refine wpAny_call (codeAny_mono (F.run X.A X.stack s H ⟨us,[]⟩ (us ++ ds) (vs ++ dvs) Q E hr I.env0 (hb s us I.kIn hl) r2 h) fun r s' hq=>?_)
 cases r with
 | error e=>exact hx pins σ H s e s' I hq
 | ok fl=>
  cases fl with
  | ret u=>exact I.after hq
  | next=>exact False.elim hq
  | brk=>exact False.elim hq
  | cont=>exact False.elim hq
theorem mQ (F:bV X.prog X.w X.K X.mg X.base CX k f fd ps sp) (hr:bE k X.A) (hg:Gl X x) (hm:X.mg x=some (.ref f)) (hk:PySem.W.keepIn X.K (.ref f)=true) (hb:eR X.K fd ps ds) (hd:aG dvs ds) (hx:jJ CX X E)
  (ha:PA X (e :: es) t) (hdb:(x == ("__debug__" : Str))=false:=by decide) (he:starEach (e :: es) X.env=(false,eval e X.env) :: starEach es X.env:=by rfl) (hpl:(backTo pos (starEach es X.env)).any (·.1)=false:=by rfl) :
  PE X (.Call (.Name x p) (e :: es) [] pos) (mP sp dvs E t):=by
 intro pins s σ H Q I h
 refine wpAny_Call_Name_kw (jD I hg hm ?_ hdb)
 refine PySem.W.callWith_K (h₀:=X.base) I.ok.mod.kin hk (aH (ha pos pins s σ H _ I h) fun us s1 ⟨vs,H1,I1,r,q⟩=>⟨I1.kIn,?_⟩) he hpl
 exact vV F hr hb hd hx I1 r q
theorem W6 (F:bV X.prog X.w X.K X.mg X.base CX k f fd ps sp) (hr:bE k X.A) (hg:Gl X x) (hm:X.mg x=some (.ref f)) (hk:PySem.W.keepIn X.K (.ref f)=true) (hb:eR X.K fd ps ds) (hd:aG dvs ds) (hx:jJ CX X E)
  (hdb:(x == ("__debug__" : Str))=false:=by decide):PE X (.Call (.Name x p) [] [] pos) (mP sp dvs E iJ):=by
 intro pins s σ H Q I h
 refine wpAny_Call_Name_kw (jD I hg hm ?_ hdb)
 exact PySem.W.callWith_K0 I.kIn hk (vV (us:=[]) F hr hb hd hx I .nil h)
end
def PK (X:Cx) (kws:List Keyword) (t:TA):Prop:=
 ∀ (pos:Pos) (pins:List (Addr × Obj)) (s:Shared) (σ:St) (H:Hp) (Q:List V->Hp->Prop),a5 X pins σ H s->t σ H Q->wpAny (model X.prog X.w) X.A (evalAll ((backToKw pos (keywordEach kws X.env)).map (·.2))) (AP X pins σ Q) X.xe s
structure FnScope (N P:List Str) (sc:Scope):Prop where
 kind:sc.kind = .function
 co:sc.isCoroutine=false
 gen:sc.isGenerator=false
 nd:N.Nodup
 pre:N.take P.length=P
 par:∀ x ∈ P,sc.names.lookup x=some .local ∨ sc.names.lookup x=some .cell
 nofree:∀ y ∈ sc.names,y.2 ≠ .free
theorem vW {kindOf:Str->Option NameKind}{x:Str}:∀ {binds:List (Str × Value)}{m:Str->Option Value},(∀ v,(x,v) ∉ binds)->bindL kindOf binds m x=m x
 | [],_,_=>rfl
 | (n,v) :: r,m,h=>by
  unfold bindL
  rw [vW fun w hw=>h w (aL0 _ hw)]
  split
  ·have:x ≠ n:=by rintro rfl; exact h v aK1
   simp [this]
  ·rfl
theorem vX {kindOf:Str->Option NameKind}{x:Str}:∀ {binds:List (Str × Value)}{m:Str->Option Value},(∀ v,(x,v) ∉ binds)->bindC kindOf binds m x=m x
 | [],_,_=>rfl
 | (n,v) :: r,m,h=>by
  unfold bindC
  rw [vX fun w hw=>h w (aL0 _ hw)]
  split
  ·rfl
  ·have:x ≠ n:=by rintro rfl; exact h v aK1
   simp [this]
theorem vY {kindOf:Str->Option NameKind}{x:Str}{v:Value}:∀ {P:List Str}{vs:List Value}{i:Nat}{m:Str->Option Value},P.Nodup->P[i]? = some x->vs[i]? = some v->kindOf x=some .local->
  bindL kindOf (P.zip vs) m x=some v
 | [],_,_,_,_,h,_,_=>by simp at h
 | _ :: _,[],_,_,_,_,h,_=>by simp at h
 | p :: P,w :: vs,0,m,nd,h1,h2,hk=>by
  simp at h1 h2; subst h1; subst h2
  show bindL kindOf ((p,w) :: P.zip vs) m p=_
  unfold bindL
  rw [vW fun v hv=>(List.nodup_cons.mp nd).1 (List.of_mem_zip hv).1,if_pos hk]
  simp
 | p :: P,w :: vs,i+1,m,nd,h1,h2,hk=>by
  show bindL kindOf ((p,w) :: P.zip vs) m x=_
  unfold bindL
  exact vY (i:=i) (List.nodup_cons.mp nd).2 (by simpa using h1) (by simpa using h2) hk
theorem vZ {kindOf:Str->Option NameKind}{x:Str}{v:Value}:∀ {P:List Str}{vs:List Value}{i:Nat}{m:Str->Option Value},P.Nodup->P[i]? = some x->vs[i]? = some v->kindOf x ≠ some .local->
  bindC kindOf (P.zip vs) m x=some v
 | [],_,_,_,_,h,_,_=>by simp at h
 | _ :: _,[],_,_,_,_,h,_=>by simp at h
 | p :: P,w :: vs,0,m,nd,h1,h2,hk=>by
  simp at h1 h2; subst h1; subst h2
  show bindC kindOf ((p,w) :: P.zip vs) m p=_
  unfold bindC
  rw [vX fun v hv=>(List.nodup_cons.mp nd).1 (List.of_mem_zip hv).1,if_neg hk]
  simp
 | p :: P,w :: vs,i+1,m,nd,h1,h2,hk=>by
  show bindC kindOf ((p,w) :: P.zip vs) m x=_
  unfold bindC
  exact vZ (i:=i) (List.nodup_cons.mp nd).2 (by simpa using h1) (by simpa using h2) hk
def eS (N:List Str) (vs:List V):St:=vs.map some ++ List.replicate (N.length - vs.length) none
def cC (CX:eQ) (P:Program) (w:World) (K:PySem.W.Frag) (mg:Str->Option Value) (base:Heap) (N:List Str) (qual:Str) (scope:Scope) (f:Addr) (cd:Value) (A:Around) (outer:List Env) (s:Shared) (H:Hp) (E:XK):Cx where
 prog:=P
 w:=w
 K:=K
 mg:=mg
 base:=base
 A:=A.deeper (envOfC qual scope s.heap.objs.size f cd)
 N:=N
 s₀:=s
 H₀:=H
 env:=envOfC qual scope s.heap.objs.size f cd
 outer:=outer
 stack:=envOfC qual scope s.heap.objs.size f cd :: outer
 ex:=[]
 calm:=true
 fn:=fun _=>true
 pn:=[]
 xe:=fun e s'=>wpAny (model P w) (A.deeper (envOfC qual scope s.heap.objs.size f cd)) (leaving (envOfC qual scope s.heap.objs.size f cd) e) (fun _ s''=>CX outer H s E e s'') (fun e' s''=>CX outer H s E e' s'') s'
theorem w4 {sc:Scope}{n:Nat}{x:Str} (h:sc.names.lookup x=some .cell):∃ c,(cellsFrom n sc.names []).lookup x=some c:=by
 have q:=PySem.W.cellsFrom_some sc.names n [] (.inl h)
 exact Option.isSome_iff_exists.mp q
theorem W7 {CX:eQ}{P:Program}{w:World}{K:PySem.W.Frag}{mg:Str->Option Value}{base:Heap}{N ps:List Str}{qual:Str}{scope:Scope}{f:Addr}{cd:Value}{A:Around}{outer:List Env}{s s1:Shared}{H:Hp}{E:XK}{us:List Value}{vs:List V}
  (S:FnScope N ps scope) (hd:A.handled=none) (e0:mO P w K mg base A outer s H) (hl:vs.length=ps.length) (r:aG vs us)
  (x:InCallC s s.heap.objs.size (bindL (envOfC qual scope s.heap.objs.size f cd).kindOf (ps.zip us) fun _=>none) (cellsFrom (s.heap.objs.size+1) scope.names []) (bindC (envOfC qual scope s.heap.objs.size f cd).kindOf (ps.zip us) fun _=>none) s1) :
  a5 (cC CX P w K mg base N qual scope f cd A outer s H E) [] (eS N vs) H s1:=by
 have hpl:ps.length<=N.length:=by have:=congrArg List.length S.pre; rw [aT5] at this; omega
 obtain ⟨h1,tk,rfl,hk⟩:=x.done
 have noA:∀ b:Addr,b ∉ (cC CX P w K mg base N qual scope f cd A outer s H E).ex:=fun b z=>absurd (show b ∈ ([]:List Addr) from z) (by simp)
 refine⟨⟨e0.mod,S.kind,rfl,rfl,aJ0 _,fun y z c h1 h2=>?_,fun y hy=>?_,fun y c _ h=>?_,fun _=>hd,Around.frames_deeper e0.frames,.inr ⟨rfl,rfl⟩,fun b z=>absurd z (noA b),e0.bs,e0.bsz,fun b _ _=>noA b,fun b z=>absurd z (noA b),e0.funs,e0.frf⟩,
  rfl,e0.bare,Un.kept hk,⟨_,x.toInCall.ns,fun i y v h1 h2 h3=>?_⟩,fun y c h=>⟨_,x.cell y c h⟩,e0.hok.fresh (aJ0 _),fun y c h=>?_,fun p hp=>absurd (show p ∈ ([]:List (Addr × Obj)) from hp) (by simp),e0.hok.kept hk,?_⟩
 ·exact name_of_addr x.apart (aN1 h1) (aN1 h2)
 ·have hy:scope.names.lookup y=some .cell ∨ scope.names.lookup y=some .free:=hy
  rcases hy with hy | hy
  ·exact w4 hy
  ·exact absurd rfl (S.nofree _ (aN1 hy))
 ·exact aP3 (x.above y c (aN1 h))
 ·have hi:i < vs.length:=by
   unfold eS at h2
   by_cases hi:i < vs.length
   ·exact hi
   ·rw [aR4 (by simpa using hi)] at h2
    rw [List.getElem?_replicate] at h2
    split at h2 <;> cases h2
  have ha:vs[i]? = some v:=by
   unfold eS at h2
   rw [aQ1 (by simpa using hi),aJ6] at h2
   cases e:vs[i]? with
   | none=>rw [e] at h2; cases h2
   | some a=>rw [e] at h2; cases h2; rfl
  obtain ⟨u,hu,rv⟩:=r.get ha
  have hp:ps[i]? = some y:=by
   rw [<- S.pre,List.getElem?_take_of_lt (by omega)]; exact h1
  have ndP:ps.Nodup:=by rw [<- S.pre]; exact S.nd.sublist (List.take_sublist _ _)
  refine⟨u,rv,?_⟩
  rcases S.par y (aL1 hp) with k | k
  ·exact .inl ⟨k,vY ndP hp hu k⟩
  ·obtain ⟨c,e⟩:=w4 (n:=s.heap.objs.size+1) k
   refine .inr ⟨.inl k,c,e,?_⟩
   have q:=x.cell y c e
   rw [vZ ndP hp hu (by show scope.names.lookup y ≠ _; rw [k]; decide)] at q
   exact q
 ·exact e0.hok.fresh (aP3 (x.above y c (aN1 h)))
 ·unfold eS
  show _=N.length
  rw [aJ4,aJ3,List.length_replicate]
  omega
theorem w5 {CX:eQ}{P:Program}{w:World}{K:PySem.W.Frag}{mg:Str->Option Value}{base:Heap}{k:Nat}{f:Addr}{name qual:Str}{params:Arguments}{body:List Stmt}{scope:Scope}{dV kV doc pm cdv ct oc:Value}{an od:Option Addr}
  {osl:Array (Option Value)}{N ps:List Str}{sp:Sp} (lk:K.lookup f=some ⟨oc,od,.func (PySem.W.fnOf name qual params body scope dV kV doc pm an cdv ct),osl⟩) (hcd:PySem.W.codeIn K cdv qual=true) (S:FnScope N ps scope)
  (len:∀ vs H Q E,sp vs H Q E->vs.length=ps.length)
  (hbody:∀ (A:Around) (outer:List Env) (s:Shared) (H:Hp) (vs:List V) (Q:VK) (E:XK),bE k (A.deeper (envOfC qual scope s.heap.objs.size f cdv))->sp vs H Q E->
   ∃ t,cB (cC CX P w K mg base N qual scope f cdv A outer s H E) body t/\t { nx:=fun _ H'=>Q .non H',rt:=Q } (eS N vs) H) :
  bV P w K mg base CX (k+1) f (PySem.W.fnOf name qual params body scope dV kV doc pm an cdv ct) ps sp:=by
 refine⟨len,fun A outer s H args us vs Q E hr e0 hb r hsp=>?_⟩
 have hl:=len _ _ _ _ hsp
 have KX:K.In s.heap:=e0.mod.kin.keeps fun b o e=>(e0.bs b o e).1
 have lim:s.heap.NoLimit:=e0.mod.nolimit.keeps fun b o e=>(e0.bs b o e).1
 have hkind:∀ y ∈ ps.zip us,scope.names.lookup y.1=some .local ∨ (scope.names.lookup y.1=some .cell/\((cellsFrom (s.heap.objs.size+1) scope.names []).lookup y.1).isSome=true):=fun ⟨n,v⟩ hy=>by
  rcases S.par n (List.of_mem_zip hy).1 with q | q
  ·exact .inl q
  ·exact .inr ⟨q,PySem.W.cellsFrom_some _ _ _ (.inl q)⟩
 refine codeAny_call_function hr.depth (KX _ _ lk) rfl S.co S.gen rfl (PySem.W.codeRec_of KX hcd) (hb _ _ _ _ ?_)
 refine wpAny_newFunctionEnv_cells S.kind hkind fun env he s1 x=>?_
 subst he
 refine⟨lim.keeps x.toInCall.keep,codeAny_func ?_⟩
 obtain ⟨t,ht,hq⟩:=hbody A outer s H vs Q E (hr.deeper _) hsp
 have I:a5 (cC CX P w K mg base N qual scope f cdv A outer s H E) [] (eS N vs) H s1:=W7 S hr.hd e0 hl r x
 refine aO3 (ht [] s1 (eS N vs) H _ I hq) (fun fl s' hs=>?_) fun e s' hs=>hs
 have fin:∀ {σ':St}{H':Hp}{v:V}{u:Value},a5 (cC CX P w K mg base N qual scope f cdv A outer s H E) [] σ' H' s'->aO v u->Q v H'->CE outer P w H s Q u s':=
  fun {σ' H' v u} J rv q=>⟨v,H',J.os,J.bare,J.base,J.hok,rv,q⟩
 cases fl with
 | ret u=>
  obtain ⟨v,σ',H',J,rv,q⟩:=hs
  exact fin J rv q
 | next=>
  obtain ⟨σ',H',J,q⟩:=hs
  exact fin (v:=V.non) (u:=Value.none) J rfl q
 | brk=>
  obtain ⟨_,_,_,q⟩:=hs
  exact False.elim q
 | cont=>
  obtain ⟨_,_,_,q⟩:=hs
  exact False.elim q
section
variable {X : Cx} {x : Str} {p pos : Pos} {e : Expr} {es : List Expr} {t : TA} {id T : String} {r : List V → Hp → VK → Prop}
def qL (r:List V->Hp->VK->Prop) (t:TA):TE:=fun σ H Q=>t σ H fun vs H1=>r vs H1 Q
theorem kX (hc:bU X (.builtin id) r) (hg:Gl X x) (hm:X.mg x=none) (hv:bootBuiltins x=some (.builtin id)) (ha:PA X (e :: es) t) (hn:x ≠ "__name__":=by decide) (hdb:(x == ("__debug__" : Str))=false:=by decide)
  (he:starEach (e :: es) X.env=(false,eval e X.env) :: starEach es X.env:=by rfl) (hpl:(backTo pos (starEach es X.env)).any (·.1)=false:=by rfl):PE X (.Call (.Name x p) (e :: es) [] pos) (qL r t):=by
 intro pins s σ H Q I h
 refine wpAny_Call_Name_kw (gK I hg hm hv ?_ hn hdb)
 exact PyProof.Rows.callWith_builtin1 (aH (ha pos pins s σ H _ I h) fun us s1 ⟨vs,H1,I1,r1,q1⟩=>hc pins s1 σ H1 vs us Q I1 r1 q1) he hpl
theorem w6 (hc:bU X (.type T) r) (hg:Gl X x) (hm:X.mg x=none) (hv:bootBuiltins x=some (.type T)) (ha:PA X (e :: es) t) (hn:x ≠ "__name__":=by decide) (hdb:(x == ("__debug__" : Str))=false:=by decide)
  (he:starEach (e :: es) X.env=(false,eval e X.env) :: starEach es X.env:=by rfl) (hpl:(backTo pos (starEach es X.env)).any (·.1)=false:=by rfl):PE X (.Call (.Name x p) (e :: es) [] pos) (qL r t):=by
 intro pins s σ H Q I h
 refine wpAny_Call_Name_kw (gK I hg hm hv ?_ hn hdb)
 exact aO4 (aH (ha pos pins s σ H _ I h) fun us s1 ⟨vs,H1,I1,r1,q1⟩=>hc pins s1 σ H1 vs us Q I1 r1 q1) he hpl
end
end L2
namespace HT
open PySem PyProof.Rows
def dX:List Int->List Int->Bool
 | [],[]=>false
 | [],_ :: _=>true
 | _ :: _,[]=>false
 | x :: xs,y :: ys=>if x=y then dX xs ys else decide (x < y)
theorem kY (x y:Int) (xs ys:List Int):dX (x :: xs) (y :: ys)=if x=y then dX xs ys else decide (x < y):=rfl
section
variable {prog : Program} {w : World} {A : Around} {E : Value → Shared → Prop} {s : Shared}
theorem W8 {t b:Addr}{vs ws:List Value}{Q:Value->Shared->Prop} (ht:IsTup s.heap t vs.toArray) (hb:IsTup s.heap b ws.toArray) (hv:vs ≠ [])
  (h1:ws = []->Q (.ref t) s) (h2:ws ≠ []->Q (.ref s.heap.objs.size) { s with heap:=s.heap.push { cls:=.type "tuple",data:=.seq (vs ++ ws).toArray } })
  (hsz:vs.length+ws.length<=sizeLine):wpAny (model prog w) A (binaryOp .Add (.ref t) (.ref b)) Q E s:=by
 obtain ⟨⟨cls,dd,data,sl⟩,ho,hc,n,hd⟩:=id ht
 obtain ⟨⟨cls2,dd2,data2,sl2⟩,ho2,hc2,n2,hd2⟩:=id hb
 simp only at hc hd hc2 hd2
 subst hc hd hc2 hd2
 have e:vs.toArray ++ ws.toArray=(vs ++ ws).toArray:=by simp
 by_cases hw:ws = []
 ·exact concat_meets ⟨_,ho,rfl⟩ ⟨_,ho2,rfl⟩ noFill_tuple_add seq_tuple_add PySem.F.slot_tuple_add PySem.F.entry_tuple_add (PySem.F.args_tuple_add_2 _ _)
   (tuple_addW1 t b vs.toArray ws.toArray n n2 dd dd2 sl sl2 (by simpa using hv) (by simp [hw])) ⟨ho,ho2,h1 hw⟩
 ·refine concat_meets ⟨_,ho,rfl⟩ ⟨_,ho2,rfl⟩ noFill_tuple_add seq_tuple_add PySem.F.slot_tuple_add PySem.F.entry_tuple_add (PySem.F.args_tuple_add_2 _ _)
   (tuple_addW2 t b vs.toArray ws.toArray n n2 dd dd2 sl sl2 (by simpa using hv) (by simpa using hw) (by rw [aI9,aI9]; exact hsz)) ⟨ho,ho2,?_⟩
  rw [e]
  exact h2 hw
def aP (n d:Nat):Option Int->Nat
 | none=>d
 | some v=>if v < 0 then (v+(n:Int)).toNat else min v.toNat n
theorem w9 (n d k:Nat):aP n d (some (k:Int))=min k n:=by
 show (if (k:Int) < 0 then ((k:Int)+(n:Int)).toNat else min (k:Int).toNat n)=min k n
 rw [if_neg (by omega),aU4]
theorem W9 (n d:Nat) (hd:d<=n) (o:Option Int):aP n d o<=n:=by
 cases o with
 | none=>exact hd
 | some v=>
  show (if v < 0 then (v+(n:Int)).toNat else min v.toNat n)<=n
  by_cases hv:v < 0
  ·rw [if_pos hv]; omega
  ·rw [if_neg hv]; exact Nat.min_le_right _ _
theorem wA (v:Int) (n d:Nat):(if v < 0 then max (v+(n:Int)) 0 else min v (n:Int))=((aP n d (some v):Nat):Int):=by
 show (if v < 0 then max (v+(n:Int)) 0 else min v (n:Int))=(((if v < 0 then (v+(n:Int)).toNat else min v.toNat n):Nat):Int)
 by_cases hv:v < 0
 ·simp only [if_pos hv]; omega
 ·simp only [if_neg hv]; omega
theorem X0 (lo hi:Option Int) (n:Nat):Builtin.Slice.sliceAdjust lo hi 1 (n:Int)=(((aP n 0 lo:Nat):Int),((aP n n hi:Nat):Int)):=by
 have h1 : ¬ ((1:Int) < 0):=by omega
 unfold Builtin.Slice.sliceAdjust
 simp only [h1,aN5]
 refine Prod.ext ?_ ?_
 ·cases lo with
  | none=>rfl
  | some v=>exact wA v n 0
 ·cases hi with
  | none=>rfl
  | some v=>exact wA v n n
theorem X1 (i j:Nat):Builtin.Slice.slicePlaces (i:Int) (j:Int) 1=j - i:=by
 unfold Builtin.Slice.slicePlaces
 have h1:(1:Int) > 0:=by omega
 simp only [h1,if_true,Int.ediv_one]
 split <;> omega
theorem wB {v:Value}{o:Option Int}{Q:Option Int->Shared->Prop} (p:IsPart v o) (h:Q o s):wpAny (model prog w) A (Builtin.Slice.slicePartIndex v) Q E s:=by
 cases p with
 | none=>exact slicePart_none h
 | int i t=>exact slicePart_int h
theorem wC {sl:Addr}{vl vu:Value}{lo hi:Option Int}{n:Nat}{Q:Int × Int × Nat->Shared->Prop} (hs:s.heap.IsSliceOf sl vl vu .none) (pl:IsPart vl lo) (pu:IsPart vu hi)
  (h:Q (((aP n 0 lo:Nat):Int),1,aP n n hi - aP n 0 lo) s):wpAny (model prog w) A (Builtin.Slice.sliceApplied (.ref sl) (pure (n:Int))) Q E s:=by
 obtain ⟨os,hos,hcs,hds⟩:=id hs
 unfold Builtin.Slice.sliceApplied Builtin.Slice.sliceFields
 refine aI7 (aI7 (aQ5 hos hds (x:=vl) rfl (aI7 (aQ5 hos hds (x:=vu) rfl (aI7 (aQ5 hos hds (x:=.none) rfl (aJ1 ?_)))))))
 refine aI7 (slicePart_none ?_)
 show wpAny _ _ (if ((1:Int) == 0)=true then _ else _) _ _ s
 rw [if_neg (by decide)]
 refine aI7 (wB pl (aI7 (wB pu (aI7 (aJ1 ?_)))))
 show wpAny _ _ (match Builtin.Slice.sliceAdjust lo hi 1 (n:Int) with | (lo,hi)=>pure (lo,(1:Int),Builtin.Slice.slicePlaces lo hi 1)) _ _ s
 rw [X0 lo hi n]
 show wpAny _ _ (pure (((aP n 0 lo:Nat):Int),(1:Int),Builtin.Slice.slicePlaces ((aP n 0 lo:Nat):Int) ((aP n n hi:Nat):Int) 1)) _ _ s
 rw [X1]
 exact aJ1 h
theorem X2 (xs:Array Value) (i k:Nat):((List.range k).filterMap fun (m:Nat)=>xs[((i:Int)+(m:Int) * 1).toNat]?).toArray=((xs.toList.drop i).take k).toArray:=by
 have e:(fun (m:Nat)=>xs[((i:Int)+(m:Int) * 1).toNat]?)=fun m=>xs[i+m]?:=by
  funext m
  have:((i:Int)+(m:Int) * 1).toNat=i+m:=by omega
  rw [this]
 rw [e]
 have:=pick_run xs i k
 rw [List.filterMap_map] at this
 have e2:((fun x=>xs[x]?) ∘ fun x=>i+x)=fun m=>xs[i+m]?:=rfl
 rw [e2] at this
 rw [this]
theorem X3 {t sl:Addr}{items:Array Value}{vl vu:Value}{lo hi:Option Int}{Q:Value->Shared->Prop} (ht:IsTup s.heap t items) (hs:s.heap.IsSliceOf sl vl vu .none) (pl:IsPart vl lo) (pu:IsPart vu hi)
  (hw : ¬ (aP items.size 0 lo=0/\aP items.size items.size hi=items.size))
  (h:Q (.ref s.heap.objs.size) { s with heap:=s.heap.push { cls:=.type "tuple",data:=.seq ((items.toList.drop (aP items.size 0 lo)).take (aP items.size items.size hi - aP items.size 0 lo)).toArray } })
  (hsz:items.size<=sizeLine):wpAny (model prog w) A (getItem (.ref t) (.ref sl)) Q E s:=by
 have htake:sizeOk (.seq ((items.toList.drop (aP items.size 0 lo)).take (aP items.size items.size hi - aP items.size 0 lo)).toArray):=by
  show ((items.toList.drop (aP items.size 0 lo)).take (aP items.size items.size hi - aP items.size 0 lo)).toArray.size<=sizeLine
  rw [aI9,aT5,aS3,Array.length_toList]
  omega
 have hj:aP items.size items.size hi<=items.size:=W9 _ _ (aJ0 _) hi
 obtain ⟨os,hos,hcs,hds⟩:=id hs
 have hTs:s.TypeIs (.ref sl) "slice":=⟨os,hos,hcs⟩
 unfold getItem
 try with_reducible refine aQ6 ?_
 first | refine aI7 (aJ1 ?_) | skip
 refine aI7 (wpAny_sequenceKey ht.typeIs (by decide) ?_)
 refine aI7 (aP5 (name:=Str.ofString "__getitem__") ht.typeIs aS1
  (aP9 aS1 ht.typeIs entry_tuple_getitem ?_ (args_tuple_getitem _ _)))
 show wpAny _ _ (Builtin.Tuple.tupleItemsOf (.ref t) >>= _) _ _ s
 refine aI7 (tupleItemsOf_ ht ?_)
 refine aI7 (wpAny_typeOf hTs ?_)
 rw [if_pos (by decide)]
 refine aI7 (wC hs pl pu ?_)
 have hno : ¬ ((((aP items.size 0 lo:Nat):Int) == 0 && (1:Int) == 1 && (aP items.size items.size hi - aP items.size 0 lo) == items.size)=true):=by
  intro q
  rw [aM2,aM2] at q
  have q1:((aP items.size 0 lo:Nat):Int)=0:=eq_of_beq q.1.1
  have q2:aP items.size items.size hi - aP items.size 0 lo=items.size:=eq_of_beq q.2
  exact hw ⟨by omega,by omega⟩
 show wpAny _ _ (if (((aP items.size 0 lo:Nat):Int) == 0 && (1:Int) == 1 && (aP items.size items.size hi - aP items.size 0 lo) == items.size)=true then _ else _) _ _ s
 rw [if_neg hno,X2]
 first
  | exact aI7 (m:=Builtin.Tuple.tupleExact _) (aP4 (aJ1 ⟨_,rfl,aJ1 h⟩) htake)
  | exact aI7 (m:=Builtin.Tuple.tupleExact _) (aP4 (aI7 (aJ1 (aJ1 ⟨_,rfl,aJ1 h⟩))) htake)
  | exact aI7 (aI7 (m:=Builtin.Tuple.tupleExact _) (aP4 (aJ1 (aJ1 ⟨_,rfl,aJ1 h⟩)) htake))
  | exact aI7 (aI7 (m:=Builtin.Tuple.tupleExact _) (aP4 (aJ1 ⟨_,rfl,aJ1 h⟩) htake))
end
end HT
namespace L2
open PySem PySem.Spec PyProof.Rows
abbrev TO:=St->Hp->(Option Int->Hp->Prop)->Prop
def PO (X:Cx) (e:Option Expr) (t:TO):Prop:=
 ∀ (pins:List (Addr × Obj)) (s:Shared) (σ:St) (H:Hp) (Q:Option Int->Hp->Prop),a5 X pins σ H s->t σ H Q->
  wpAny (model X.prog X.w) X.A (evalPart e X.env) (fun u s'=>∃ o H',a5 X pins σ H' s'/\IsPart u o/\Q o H') X.xe s
def X4:TO:=fun _ H Q=>Q none H
def X5 (t:TE):TO:=fun σ H Q=>t σ H fun x H1=>∃ i,x = .int i/\Q (some i) H1
theorem mR {ns:List Int}:∀ {us:List Value},aG (ns.map V.int) us->IntsAre us ns:=by
 induction ns with
 | nil=>intro us r; rw [List.map_nil] at r; cases r; exact .nil
 | cons n ns ih=>
  intro us r
  rw [aM9] at r
  cases r with
  | cons r1 r2=>
   obtain ⟨t,e⟩:=r1
   subst e
   exact .cons n t (ih r2)
section
variable {X : Cx} {e : Expr} {te : TE} {lo hi : Option Expr} {tl th : TO} {pos p2 : Pos}
theorem qM:PO X none X4:=by
 intro pins s σ H Q I h
 rw [evalPart_none]
 exact aJ1 ⟨none,H,I,.none,h⟩
theorem qN (h:PE X e te):PO X (some e) (X5 te):=by
 intro pins s σ H Q I hw
 rw [evalPart_some]
 refine aH (h pins s σ H _ I hw) fun u s1 ⟨x,H1,I1,r1,q1⟩=>?_
 obtain ⟨i,rfl,q⟩:=q1
 obtain ⟨t,rfl⟩:=r1
 exact⟨some i,H1,I1,.int i t,q⟩
def i6 (X:Cx) (r:V->Option Int->Option Int->Hp->VK->Prop):Prop:=
 ∀ (pins:List (Addr × Obj)) (s:Shared) (σ:St) (H:Hp) (x:V) (v vl vu:Value) (lo hi:Option Int) (sl:Addr) (Q:VK),a5 X pins σ H s->aO x v->s.heap.IsSliceOf sl vl vu .none->IsPart vl lo->IsPart vu hi->r x lo hi H Q->
  ∃ T id,typeLookup (.type T) "__getitem__" = pure (some (.builtin id))/\s.TypeIs v T/\wpAny (model X.prog X.w) X.A (getItem v (.ref sl)) (EP X pins σ Q) X.xe s
theorem i6.or {r r':V->Option Int->Option Int->Hp->VK->Prop} (h:i6 X r) (h':i6 X r'):i6 X (fun x lo hi H Q=>r x lo hi H Q ∨ r' x lo hi H Q):=by
 intro pins s σ H x v vl vu lo hi sl Q I rx hs pl pu q
 rcases q with q | q
 ·exact h pins s σ H x v vl vu lo hi sl Q I rx hs pl pu q
 ·exact h' pins s σ H x v vl vu lo hi sl Q I rx hs pl pu q
def X6 (r:V->Option Int->Option Int->Hp->VK->Prop) (te:TE) (tl th:TO):TE:=fun σ H Q=>te σ H fun x H1=>tl σ H1 fun l H2=>th σ H2 fun u H3=>r x l u H3 Q
theorem qO {r:V->Option Int->Option Int->Hp->VK->Prop} (hr:i6 X r) (he:PE X e te) (hl:PO X lo tl) (hu:PO X hi th):PE X (.Subscript e (.Slice lo hi none p2) pos) (X6 r te tl th):=by
 intro pins s σ H Q I h
 refine Subscript_ (aH (he pins s σ H _ I h) fun v s1 ⟨x,H1,I1,r1,q1⟩=>?_)
 refine wpAny_Slice (aH (hl pins s1 σ H1 _ I1 q1) fun vl s2 ⟨l,H2,I2,pl,q2⟩=>aH (hu pins s2 σ H2 _ I2 q2) fun vu s3 ⟨u,H3,I3,pu,q3⟩=>?_)
 rw [evalPart_none]
 refine aJ1 ?_
 have I4:a5 X pins σ H3 { s3 with heap:=s3.heap.push { cls:=.type "slice",data:=.fields #[vl,vu,.none] } }:=I3.kept (t':=s3.toks) fun b ob q=>aI8 _ q
 obtain ⟨T,id,hT,ht,hg⟩:=hr pins { s3 with heap:=s3.heap.push { cls:=.type "slice",data:=.fields #[vl,vu,.none] } } σ H3 x v vl vu l u s3.heap.objs.size Q I4 r1 (Heap.IsSliceOf.new ..) pl pu q3
 show wpAny (model X.prog X.w) X.A (subscriptTail e (.Slice lo hi none p2) v (.ref s3.heap.objs.size)) (EP X pins σ Q) X.xe { s3 with heap:=s3.heap.push { cls:=.type "slice",data:=.fields #[vl,vu,.none] } }
 exact tail_any (ops:=[.ref s3.heap.objs.size,v]) ht hT hg (by with_unfolding_all rfl)
def dC (xs:List V) (lo hi:Option Int):List V:=(xs.drop (HT.aP xs.length 0 lo)).take (HT.aP xs.length xs.length hi - HT.aP xs.length 0 lo)
theorem wD (xs:List V) (lo hi:Option Int):(dC xs lo hi).length<=xs.length:=by
 unfold dC
 rw [aT5,aS3]
 omega
def X7 (K:PySem.W.Frag):V->Option Int->Option Int->Hp->VK->Prop:=fun x lo hi H Q=>∃ a xs,x = .ref a/\aI K H a xs/\
 ¬ (HT.aP xs.length 0 lo=0/\HT.aP xs.length xs.length hi=xs.length)/\∀ p,H p=none->Q (.ref p) (upd H p (.tup (dC xs lo hi)))
theorem X8:i6 X (X7 X.K):=by
 intro pins s σ H x v vl vu lo hi sl Q I rx hs pl pu h
 obtain ⟨a,xs,rfl,hx,hw,q⟩:=h
 cases rx
 obtain ⟨its,r,ht,hz⟩:=I.tuple hx
 have hlen:its.toArray.size=xs.length:=by rw [aI9]; exact r.length.symm
 refine⟨"tuple",_,PyProof.Rows.slot_tuple_getitem.lookup,ht.typeIs,?_⟩
 refine HT.X3 ht hs pl pu (by rw [hlen]; exact hw) ?_ (by rw [hlen]; exact hz)
 rw [hlen]
 refine⟨.ref s.heap.objs.size,_,I.laid (t':=s.toks) (o:=.tup (dC xs lo hi)) (fun b ob q=>aI8 _ q) (aJ0 _) ?_,rfl,q _ (I.hok.fresh (aJ0 _))⟩
 exact⟨aM8 (wD xs lo hi) hz,_,(r.drop (HT.aP xs.length 0 lo)).take (HT.aP xs.length xs.length hi - HT.aP xs.length 0 lo),IsTup.new _ _⟩
def X9 (K:PySem.W.Frag):R2:=fun x y H Q=>∃ a b xs ys,x = .ref a/\y = .ref b/\aI K H a xs/\aI K H b ys/\xs ≠ []/\xs.length+ys.length<=sizeLine/\
 (ys = []->Q (.ref a) H)/\(ys ≠ []->∀ p,H p=none->Q (.ref p) (upd H p (.tup (xs ++ ys))))
theorem aG.nil_iff {xs:List V}{us:List Value} (r:aG xs us):us = [] ↔ xs = []:=by
 cases r with
 | nil=>simp
 | cons _ _=>simp
theorem Y0:bR X (binaryOp .Add) (X9 X.K):=by
 intro pins s σ H x y v u Q I rx ry h
 obtain ⟨a,b,xs,ys,rfl,rfl,ha,hb,hx,hz,q1,q2⟩:=h
 cases rx
 cases ry
 obtain ⟨its,r1,p1,_⟩:=I.tuple ha
 obtain ⟨its2,r2,p2,_⟩:=I.tuple hb
 refine HT.W8 p1 p2 (fun z=>hx (r1.nil_iff.mp z)) (fun z=>⟨.ref a,H,I,rfl,q1 (r2.nil_iff.mp z)⟩) (fun z=>?_) (by rw [<- r1.length,<- r2.length]; exact hz)
 refine⟨.ref s.heap.objs.size,_,I.laid (t':=s.toks) (o:=.tup (xs ++ ys)) (fun b ob q=>aI8 _ q) (aJ0 _) ?_,rfl,q2 (fun w=>z (r2.nil_iff.mpr w)) _ (I.hok.fresh (aJ0 _))⟩
 exact⟨by rw [aJ4]; exact hz,_,r1.append r2,IsTup.new _ _⟩
end
def fS (n:Nat) (i:Int):Option Nat:=if 0<=i then (if i < n then some i.toNat else none) else if -(n:Int)<=i then some (i+n).toNat else none
def atI {α:Type} (xs:List α) (i:Int):Option α:=(fS xs.length i).bind fun j=>xs[j]?
theorem wE {n:Nat}{i:Int}{j:Nat} (h:fS n i=some j):seqIndex? i n=some j/\j < n/\-(n:Int)<=i/\i < n:=by
 unfold fS at h
 by_cases h0:0<=i
 ·rw [if_pos h0] at h
  by_cases h1:i < n
  ·rw [if_pos h1] at h
   have e:i.toNat=j:=aL5 h
   exact⟨by rw [seqIndex_of h0 h1,e],by omega,by omega,h1⟩
  ·rw [if_neg h1] at h; cases h
 ·rw [if_neg h0] at h
  by_cases h1 : -(n:Int)<=i
  ·rw [if_pos h1] at h
   have e:(i+n).toNat=j:=aL5 h
   exact⟨by rw [seqIndex_neg (by omega) h1,e],by omega,h1,by omega⟩
  ·rw [if_neg h1] at h; cases h
theorem qP {α:Type}{xs:List α}{i:Int}{v:α} (h:atI xs i=some v):∃ j,seqIndex? i xs.length=some j/\xs[j]? = some v/\j < xs.length/\-(xs.length:Int)<=i/\i < xs.length:=by
 unfold atI at h
 cases e:fS xs.length i with
 | none=>rw [e] at h; cases h
 | some j=>
  rw [e] at h
  obtain ⟨h1,h2,h3,h4⟩:=wE e
  exact⟨j,h1,h,h2,h3,h4⟩
theorem qQ {α:Type}{xs:List α}{j:Nat}{v:α} (h:xs[j]? = some v):atI xs (j:Int)=some v:=by
 have hj:j < xs.length:=(aJ8.mp h).1
 have e:fS xs.length (j:Int)=some j:=by
  unfold fS
  rw [if_pos (by omega),if_pos (by omega)]; simp
 unfold atI; rw [e]; exact h
def wF (b:Expr):Prop:=∀ o i,subscripted b false o i=operate [o,i] (getItem o i)
def gO (X:Cx) (r:R2):Prop:=
 ∀ (value slice:Expr) (pins:List (Addr × Obj)) (s:Shared) (σ:St) (H:Hp) (x y:V) (v u:Value) (Q:VK),a5 X pins σ H s->aO x v->aO y u->r x y H Q->
  subscripted slice false v u=operate [v,u] (getItem v u)->wpAny (model X.prog X.w) X.A (subscriptTail value slice v u) (EP X pins σ Q) X.xe s
def Y1 (X:Cx) (id:String) (r:V->List V->Hp->VK->Prop):Prop:=
 ∀ (pins:List (Addr × Obj)) (s:Shared) (σ:St) (H:Hp) (x:V) (xs:List V) (v:Value) (us:List Value) (Q:VK),a5 X pins σ H s->aO x v->aG xs us->r x xs H Q->
  wpAny (model X.prog X.w) X.A (call (.builtin id) (v :: us)) (EP X pins σ Q) X.xe s
section
variable {X : Cx} {a b : Expr} {ta tb : TE} {pos : Pos}
theorem gO.or {r r':R2} (h:gO X r) (h':gO X r'):gO X (fun x y H Q=>r x y H Q ∨ r' x y H Q):=by
 intro value slice pins s σ H x y v u Q I rx ry q hs
 rcases q with q | q
 ·exact h value slice pins s σ H x y v u Q I rx ry q hs
 ·exact h' value slice pins s σ H x y v u Q I rx ry q hs
theorem kZ {r:R2} (hr:gO X r) (ha:PE X a ta) (hb:PE X b tb) (hs:wF b):PE X (.Subscript a b pos) (kT r ta tb):=by
 intro pins s σ H Q I h
 exact Subscript_ (qD ha hb I h fun v u s2 x y H2 I2 rx ry q=>hr a b pins s2 σ H2 x y v u Q I2 rx ry q (hs _ _))
def wG (K:PySem.W.Frag):R2:=fun x y H Q=>∃ p xs i v,x = .ref p/\y = .int i/\aK K H p xs/\atI xs i=some v/\Q v H
def wH (K:PySem.W.Frag):R2:=fun x y H Q=>∃ p xs i v,x = .ref p/\y = .int i/\aI K H p xs/\atI xs i=some v/\Q v H
def wI:R2:=fun x y H Q=>∃ z i c,x = .str z/\y = .int i/\z.length<=sizeLine/\atI z.cps.toList i=some c/\Q (.str ⟨#[c]⟩) H
theorem qR:gO X (wG X.K):=by
 intro value slice pins s σ H x y v u Q I rx ry h hs
 obtain ⟨p,xs,i,z,rfl,rfl,hq,he,q⟩:=h
 cases rx
 obtain ⟨t,rfl⟩:=ry
 obtain ⟨its,r,pl,hz⟩:=I.list hq
 obtain ⟨j,h1,h2,h3,h4,h5⟩:=qP he
 obtain ⟨w,ew,rw'⟩:=r.get h2
 have hl:=r.length
 have hn:=jI
 have fin:EP X pins σ Q w s:=⟨z,H,I,rw',q⟩
 by_cases h0:0<=i
 ·have hj:i.toNat=j:=by
   rw [seqIndex_of h0 h5] at h1
   exact aL5 h1
  exact item_listR pl.isList h0 (by omega) (by rw [hj]; simpa using ew) fin hs
 ·have hj:(i+(its.toArray.size:Int)).toNat=j:=by
   rw [seqIndex_neg (by omega) h4] at h1
   rw [aI9,<- hl]
   exact aL5 h1
  exact subscriptTail_builtinR (x:=w) pl.isList.typeIs slot_list_getitem.lookup
   (wpAny_getItem_list_neg (Q:=fun r s'=>r=w/\EP X pins σ Q r s') pl.isList (by omega) (by rw [aI9] <;> omega) (by omega) (by rw [hj]; simpa using ew) ⟨rfl,fin⟩) hs
theorem qS:gO X (wH X.K):=by
 intro value slice pins s σ H x y v u Q I rx ry h hs
 obtain ⟨p,xs,i,z,rfl,rfl,hq,he,q⟩:=h
 cases rx
 obtain ⟨t,rfl⟩:=ry
 obtain ⟨its,r,pl,hz⟩:=I.tuple hq
 obtain ⟨j,h1,h2,h3,h4,h5⟩:=qP he
 obtain ⟨w,ew,rw'⟩:=r.get h2
 have hl:=r.length
 have hn:=jI
 have fin:EP X pins σ Q w s:=⟨z,H,I,rw',q⟩
 exact subscriptTail_builtinR (x:=w) pl.typeIs slot_tuple_getitem.lookup
  (getItem_tuple (j:=j) (Q:=fun r s'=>r=w/\EP X pins σ Q r s') pl (by omega) (by omega) (by rw [aI9,<- hl]; exact h1) (by simpa using ew) ⟨rfl,fin⟩) hs
theorem Y2:gO X wI:=by
 intro value slice pins s σ H x y v u Q I rx ry h hs
 obtain ⟨z,i,c,rfl,rfl,hz,he,q⟩:=h
 obtain ⟨t,rfl⟩:=rx
 obtain ⟨t',rfl⟩:=ry
 obtain ⟨j,h1,h2,h3,h4,h5⟩:=qP he
 have hl:z.cps.toList.length=z.length:=by simp [Str.length]
 rw [hl] at h1 h4 h5
 have hn:=jI
 exact tail_any (typeIs_str s z t) slot_str_getitem.lookup (getItem_str (c:=c) (by
  have e1:decide (i < -(2 ^ 63:Int))=false:=aK5 (by omega)
  have e2:decide (i >= 2 ^ 63)=false:=aK5 (by omega)
  rw [e1,e2,Bool.or_false]) (by rw [h1]; simpa using h2) ⟨.str ⟨#[c]⟩,H,I.tok _,⟨_,rfl⟩,q⟩) hs
def wJ (K:PySem.W.Frag):R2:=fun x y H Q=>wG K x y H Q ∨ wH K x y H Q ∨ wI x y H Q
theorem Y3:gO X (wJ X.K):=qR.or (qS.or Y2)
theorem Y4 (its:List Value) (n j:Nat) (u:Value):Obj.mapSeq (·.setIfInBounds j u) { cls:=.type "list",data:=.seq its.toArray n }={ cls:=.type "list",data:=.seq (its.set j u).toArray n }:=by
 simp [Obj.mapSeq]
theorem a5.lst {pins:List (Addr × Obj)}{σ:St}{H:Hp}{s:Shared}{p:Addr}{xs:List V} (I:a5 X pins σ H s) (h:H p=some (.lst xs)) :
  ∃ (its:List Value) (n:Nat),aG xs its/\s.heap.get? p=some { cls:=.type "list",data:=.seq its.toArray n }/\xs.length<=sizeLine:=by
 obtain ⟨z,its,n,r,e⟩:=I.hok p _ h
 exact⟨its,n,r,e,z⟩
theorem a5.lstUpd {pins:List (Addr × Obj)}{σ:St}{H:Hp}{s:Shared}{p:Addr}{xs ys:List V}{its its':List Value}{n n':Nat}{f:Obj->Obj} (I:a5 X pins σ H s) (h:H p=some (.lst xs))
  (ho:s.heap.get? p=some { cls:=.type "list",data:=.seq its.toArray n }) (hf:f { cls:=.type "list",data:=.seq its.toArray n }={ cls:=.type "list",data:=.seq its'.toArray n' }) (r:aG ys its') (hz:ys.length<=sizeLine) (t:Nat) :
  a5 X pins σ (upd H p (.lst ys)) { s with heap:=s.heap.update p f,toks:=t }:=by
 have e:(s.heap.update p f).get? p=some { cls:=.type "list",data:=.seq its'.toArray n' }:=by
  rw [Heap.get?_update_self f ho (by rw [hf] <;> rfl),hf]
 refine I.write (x:=p) (e:=p) (by rw [h]; trivial) (.inl rfl) (fun b u hb q=>(Heap.get?_update_other _ _ (Ne.symm hb)).trans q) ⟨_,e⟩ ?_
 exact⟨hz,its',n',r,e⟩
def qT:V->V->V->Hp->(Hp->Prop)->Prop:=fun o i v H Q=>∃ p xs k j,o = .ref p/\i = .int k/\H p=some (.lst xs)/\fS xs.length k=some j/\Q (upd H p (.lst (xs.set j v)))
theorem Y5:v3 X qT:=by
 intro pins s σ H o i v ov iv u Q I ro ri rv h
 obtain ⟨p,xs,k,j,rfl,rfl,hp,hj,q⟩:=h
 cases ro
 obtain ⟨t,rfl⟩:=ri
 obtain ⟨its,n,r,ho,hz⟩:=I.lst hp
 obtain ⟨h1,h2,h3,h4⟩:=wE hj
 have hl:=r.length
 have hn:=jI
 have I':a5 X pins σ (upd H p (.lst (xs.set j v))) { s with heap:=s.heap.update p (Obj.mapSeq (·.setIfInBounds j u)) }:=
  I.lstUpd hp ho (Y4 its n j u) (r.set rv j) (by rw [aM7]; exact hz) s.toks
 by_cases h0:0<=k
 ·have hk:k.toNat=j:=by
   rw [seqIndex_of h0 h4] at h1
   exact aL5 h1
  exact PySem.W.ki_setAt ho h0 (by omega) (by rw [aI9,<- hl]; exact h4) (by rw [hk]; exact⟨_,I',q⟩)
 ·have hk:(k+(its.toArray.size:Int)).toNat=j:=by
   rw [seqIndex_neg (by omega) h3] at h1
   rw [aI9,<- hl]
   exact aL5 h1
  exact PySem.W.ki_setBack ho (by omega) (by rw [aI9,<- hl]; exact h3) (by omega) (by rw [hk]; exact⟨_,I',q⟩)
theorem Y6 (lo hi:Option Int) (n:Nat):(sliceBounds lo hi none n).1=((HT.aP n 0 lo:Nat):Int)/\(sliceBounds lo hi none n).2.1=((HT.aP n n hi:Nat):Int)/\(sliceBounds lo hi none n).2.2=1:=by
 refine⟨?_,?_,rfl⟩
 ·cases lo with
  | none=>simp [sliceBounds,HT.aP]
  | some i=>
   simp only [sliceBounds,HT.aP,Option.getD_none,show (1:Int) > 0 by decide,if_true]
   by_cases h:i < 0
   ·simp only [h,if_true] <;> omega
   ·simp only [h,aN5] <;> omega
 ·cases hi with
  | none=>simp [sliceBounds,HT.aP]
  | some i=>
   simp only [sliceBounds,HT.aP,Option.getD_none,show (1:Int) > 0 by decide,if_true]
   by_cases h:i < 0
   ·simp only [h,if_true] <;> omega
   ·simp only [h,aN5] <;> omega
theorem Y7 (its:List Value) (lo hi:Option Int):slicePick its.toArray lo hi none=((its.drop (HT.aP its.length 0 lo)).take (HT.aP its.length its.length hi - HT.aP its.length 0 lo)).toArray:=by
 obtain ⟨h1,h2,h3⟩:=Y6 lo hi its.toArray.size
 unfold slicePick
 rw [h1,h2,h3]
 simp only [sliceRange_one,pick_run,aI9] <;> rfl
def Y8 (K:PySem.W.Frag):V->Option Int->Option Int->Hp->VK->Prop:=fun x lo hi H Q=>∃ a xs,x = .ref a/\aK K H a xs/\∀ p,H p=none->Q (.ref p) (upd H p (.lst (dC xs lo hi)))
theorem wK:i6 X (Y8 X.K):=by
 intro pins s σ H x v vl vu lo hi sl Q I rx hs pl pu h
 obtain ⟨a,xs,rfl,hx,q⟩:=h
 cases rx
 obtain ⟨its,r,ht,hz⟩:=I.list hx
 have hlen:=r.length
 refine⟨"list",_,slot_list_getitem.lookup,ht.isList.typeIs,?_⟩
 refine wpAny_getItem_list_slice ht.isList hs pl pu .none (by simp) ?_ (by rw [aI9] <;> omega)
 rw [Y7,<- hlen]
 refine⟨.ref s.heap.objs.size,_,I.laid (t':=s.toks) (o:=.lst (dC xs lo hi)) (fun b ob q=>aI8 _ q) (aJ0 _) ?_,rfl,q _ (I.hok.fresh (aJ0 _))⟩
 exact⟨aM8 (wD xs lo hi) hz,_,0,(r.drop (HT.aP xs.length 0 lo)).take (HT.aP xs.length xs.length hi - HT.aP xs.length 0 lo),aJ9 _ rfl⟩
def gP:V->Bool
 | .non=>true
 | .bl _=>true
 | .int _=>true
 | .str _=>true
 | _=>false
def fE:V->V->Bool
 | .non,.non=>true
 | .bl a,.bl b=>a == b
 | .bl a,.int b=>(if a then 1 else 0) == b
 | .int a,.bl b=>a == (if b then 1 else 0)
 | .int a,.int b=>a == b
 | .str a,.str b=>a == b
 | _,_=>false
theorem Y9 {A:Around}{s:Shared}{y x:V}{u v:Value} (ry:aO y u) (rx:aO x v) (fy:gP y=true) (fx:gP x=true):SeqAt.EqAt A s u v (fE y x):=by
 cases y with
 | non=>
  cases ry
  cases x with
  | non=>cases rx; exact SeqAt.EqAt.same _
  | bl b=>cases rx; exact SeqAt.EqAt.none_bool b
  | int b=>obtain ⟨t,rfl⟩:=rx; exact SeqAt.EqAt.none_int b t
  | str b=>obtain ⟨t,rfl⟩:=rx; exact SeqAt.EqAt.none_str b t
  | _=>exact absurd (show false=true from fx) aK7
 | bl a=>
  cases ry
  cases x with
  | non=>cases rx; exact SeqAt.EqAt.bool_none a
  | bl b=>cases rx; exact SeqAt.EqAt.bool_bool a b
  | int b=>obtain ⟨t,rfl⟩:=rx; exact SeqAt.EqAt.bool_int a b t
  | str b=>obtain ⟨t,rfl⟩:=rx; exact SeqAt.EqAt.bool_str a b t
  | _=>exact absurd (show false=true from fx) aK7
 | int a=>
  obtain ⟨t',rfl⟩:=ry
  cases x with
  | non=>cases rx; exact SeqAt.EqAt.int_none a t'
  | bl b=>cases rx; exact SeqAt.EqAt.int_bool a t' b
  | int b=>obtain ⟨t,rfl⟩:=rx; exact SeqAt.EqAt.int_int a t' b t
  | str b=>obtain ⟨t,rfl⟩:=rx; exact SeqAt.EqAt.int_str a t' b t
  | _=>exact absurd (show false=true from fx) aK7
 | str a=>
  obtain ⟨t',rfl⟩:=ry
  cases x with
  | non=>cases rx; exact SeqAt.EqAt.str_none a t'
  | bl b=>cases rx; exact SeqAt.EqAt.str_bool a t' b
  | int b=>obtain ⟨t,rfl⟩:=rx; exact SeqAt.EqAt.str_int a t' b t
  | str b=>obtain ⟨t,rfl⟩:=rx; exact SeqAt.EqAt.str_str a t' b t
  | _=>exact absurd (show false=true from fx) aK7
 | _=>exact absurd (show false=true from fy) aK7
def gQ (x:V) (u:Value):Bool:=match u with
 | .none=>fE .non x
 | .bool b=>fE (.bl b) x
 | .int i _=>fE (.int i) x
 | .str z _=>fE (.str z) x
 | _=>false
theorem wL {x y:V}{u:Value} (r:aO y u) (f:gP y=true):gQ x u=fE y x:=by
 cases y with
 | non=>cases r; rfl
 | bl b=>cases r; rfl
 | int i=>obtain ⟨t,rfl⟩:=r; rfl
 | str z=>obtain ⟨t,rfl⟩:=r; rfl
 | _=>exact absurd (show false=true from f) aK7
theorem qU {x:V}:∀ {xs:List V}{us:List Value},aG xs us->xs.all gP=true->us.any (gQ x)=xs.any fun y=>fE y x
 | _,_,.nil,_=>rfl
 | y :: xs,u :: us,.cons r t,f=>by
  rw [aT3,aM2] at f
  rw [List.any_cons,List.any_cons,wL r f.1,qU t f.2]
theorem qV {A:Around}{s:Shared}{x:V}{v:Value} (rx:aO x v) (fx:gP x=true):∀ {xs:List V}{us:List Value},aG xs us->xs.all gP=true->∀ u ∈ us,SeqAt.EqAt A s u v (gQ x u)
 | _,_,.nil,_=>fun u hu=>by cases hu
 | y :: xs,u :: us,.cons r t,f=>fun u' hu=>by
  rw [aT3,aM2] at f
  rcases aK0.mp hu with rfl | hu
  ·rw [wL r f.1]; exact Y9 r rx f.1 fx
  ·exact qV rx fx t f.2 u' hu
def l8 (x:V) (xs:List V):Bool:=xs.any fun y=>fE y x
def wM (K:PySem.W.Frag) (neg:Bool):R2:=fun x y H Q=>∃ p xs,y = .ref p/\(aK K H p xs ∨ aI K H p xs)/\gP x=true/\xs.all gP=true/\Q (.bl (if neg then !l8 x xs else l8 x xs)) H
theorem Z0:bR X (compareOp .In) (wM X.K false):=by
 intro pins s σ H x y v u Q I rx ry h
 obtain ⟨p,xs,rfl,hq,fx,fs,q⟩:=h
 cases ry
 rcases hq with hq | hq
 ·obtain ⟨its,r,pl,hz⟩:=I.list hq
  refine SeqAt.in_listAt (gQ x) pl.isList (fun w hw=>qV rx fx r fs w (by simpa using hw)) ⟨.bl _,H,I,rfl,?_⟩
  rw [show its.toArray.any (gQ x)=its.any (gQ x) by simp,qU r fs]
  exact q
 ·obtain ⟨its,r,pl,hz⟩:=I.tuple hq
  refine SeqAt.in_tupleAt (gQ x) pl (fun w hw=>qV rx fx r fs w (by simpa using hw)) ⟨.bl _,H,I,rfl,?_⟩
  rw [show its.toArray.any (gQ x)=its.any (gQ x) by simp,qU r fs]
  exact q
theorem Z1:bU X (.builtin "len") (fun xs H Q=>∃ p ys,xs = [.ref p]/\(aK X.K H p ys ∨ aI X.K H p ys)/\Q (.int ys.length) H):=by
 intro pins s σ H xs us Q I r h
 obtain ⟨p,ys,rfl,hq,q⟩:=h
 obtain ⟨u,rfl,rx⟩:=eC r
 cases rx
 have hn:=jI
 rcases hq with hq | hq
 ·obtain ⟨its,r',pl,hz⟩:=I.list hq
  have hlen:=r'.length
  exact Calls.call_len_list pl.isList (by simp only [aI9] <;> omega) ⟨.int ys.length,H,I.tok _,⟨s.toks+1,by rw [aI9,hlen]⟩,q⟩
 ·obtain ⟨its,r',pl,hz⟩:=I.tuple hq
  have hlen:=r'.length
  exact len_tuple pl (by simp only [aI9] <;> omega) ⟨.int ys.length,H,I.tok _,⟨s.toks+1,by rw [aI9,hlen]⟩,q⟩
theorem bU.or {f:Value}{r r':List V->Hp->VK->Prop} (h:bU X f r) (h':bU X f r'):bU X f (fun xs H Q=>r xs H Q ∨ r' xs H Q):=by
 intro pins s σ H xs us Q I rs q
 rcases q with q | q
 ·exact h pins s σ H xs us Q I rs q
 ·exact h' pins s σ H xs us Q I rs q
theorem Z2:bU X (.type "list") (fun xs H Q=>∃ p ys,xs = [.ref p]/\(aK X.K H p ys ∨ aI X.K H p ys)/\∀ l,H l=none->Q (.ref l) (upd H l (.lst ys))):=by
 intro pins s σ H xs us Q I r h
 obtain ⟨p,ys,rfl,hq,q⟩:=h
 obtain ⟨u,rfl,rx⟩:=eC r
 cases rx
 have fin:∀ (its:List Value),aG ys its->ys.length<=sizeLine->∀ (h':Heap) (c':Nat),(∀ b o',s.heap.get? b=some o'->h'.get? b=some o')->
   h'.get? s.heap.objs.size=some { cls:=.type "list",dict:=none,data:=.seq its.toArray c',slots:=#[] }->EP X pins σ Q (.ref s.heap.objs.size) { s with heap:=h' }:=fun its r' hz h' c' kp e=>
  ⟨.ref s.heap.objs.size,_,I.laid (t':=s.toks) kp (aJ0 _) (show b8 X.prog X.w _ h' _ (.lst ys) from ⟨hz,its,c',r',e⟩),rfl,q _ (I.hok.fresh (aJ0 _))⟩
 rcases hq with hq | hq
 ·obtain ⟨its,r',pl,hz⟩:=I.list hq
  have hlen:=r'.length
  obtain ⟨o,ho,hc,n,hd⟩:=pl.isList
  exact call_list_seq p (.inl rfl) ho hc hd (fun h' c' kp e=>fin its r' hz h' c' kp e) (by simp only [aI9] <;> omega)
 ·obtain ⟨its,r',pl,hz⟩:=I.tuple hq
  have hlen:=r'.length
  obtain ⟨o,ho,hc,n,hd⟩:=pl
  exact call_list_seq p (.inr rfl) ho hc hd (fun h' c' kp e=>fin its r' hz h' c' kp e) (by simp only [aI9] <;> omega)
theorem Z3:bU X (.type "tuple") (fun xs H Q=>∃ p ys,xs = [.ref p]/\((aK X.K H p ys/\∀ l,H l=none->Q (.ref l) (upd H l (.tup ys))) ∨ (aI X.K H p ys/\Q (.ref p) H))):=by
 intro pins s σ H xs us Q I r h
 obtain ⟨p,ys,rfl,h⟩:=h
 obtain ⟨u,rfl,rx⟩:=eC r
 cases rx
 rcases h with ⟨hq,q⟩ | ⟨hq,q⟩
 ·obtain ⟨its,r',pl,hz⟩:=I.list hq
  have hlen:=r'.length
  refine call_tuple_list pl.isList (fun h' kp=>?_) (by simp only [aI9] <;> omega)
  have I1:a5 X pins σ H { s with heap:=h' }:=I.kept (t':=s.toks) kp
  have I2:a5 X pins σ (upd H h'.objs.size (.tup ys)) { s with heap:=h'.push { cls:=.type "tuple",data:=.seq its.toArray } }:=
   I1.laid (t':=s.toks) (fun b o e=>aI8 _ e) (aJ0 _) (show b8 X.prog X.w _ _ _ (.tup ys) from ⟨hz,its,r',IsTup.new _ _⟩)
  exact⟨.ref h'.objs.size,_,I2,rfl,q _ (I1.hok.fresh (aJ0 _))⟩
 ·obtain ⟨its,r',pl,hz⟩:=I.tuple hq
  exact call_tuple_same pl ⟨.ref p,H,I,rfl,q⟩
def fF (K:PySem.W.Frag) (T:String) (x:V) (H:Hp):Prop:=match x with
 | .str _=>T="str"
 | .int _=>T="int"
 | .ref p=>(T="list"/\∃ xs,aK K H p xs) ∨ (T="tuple"/\∃ o,K.lookup p=some o/\o.cls = .type "tuple"/\o.dict=none) ∨
   (T="dict"/\((∃ kvs,H p=some (.dK kvs)) ∨ ∃ kvs,H p=some (.dT kvs))) ∨ (T="set"/\∃ S n,H p=some (.set S n))
 | _=>False
theorem Z4 {pins:List (Addr × Obj)}{σ:St}{H:Hp}{s:Shared}{T:String}{x:V}{v:Value} (I:a5 X pins σ H s) (r:aO x v) (ty:fF X.K T x H) :
  s.TypeIs v T/\∀ a,v = .ref a->∃ ob,s.heap.get? a=some ob/\ob.dict=none:=by
 cases x with
 | str z=>
  obtain ⟨t,rfl⟩:=r
  cases (show T="str" from ty)
  exact⟨typeIs_str s z t,fun _ e=>nomatch e⟩
 | int i=>
  obtain ⟨t,rfl⟩:=r
  cases (show T="int" from ty)
  exact⟨typeIs_int s i t,fun _ e=>nomatch e⟩
 | ref p=>
  cases r
  rcases ty with ⟨rfl,xs,hq⟩ | ⟨rfl,o,hk,hc,hd⟩ | ⟨rfl,hk⟩ | ⟨rfl,S,n,hk⟩
  ·obtain ⟨its,_,pl,_⟩:=I.list hq
   refine⟨pl.isList.typeIs,fun a e=>?_⟩
   cases e
   obtain ⟨o,n,e,c,hd,_⟩:=pl
   exact⟨o,e,hd⟩
  ·refine⟨⟨o,I.kIn p o hk,hc⟩,fun a e=>?_⟩
   cases e
   exact⟨o,I.kIn _ o hk,hd⟩
  ·have z:∃ o,s.heap.get? p=some o/\o.ExactDict:=by
    rcases hk with ⟨kvs,hk⟩ | ⟨kvs,hk⟩
    ·obtain ⟨_,_,_,_,o,_,_,e,ex,_⟩:=I.hok p _ hk
     exact⟨o,e,ex⟩
    ·obtain ⟨_,_,_,_,o,_,_,e,ex,_⟩:=I.hok p _ hk
     exact⟨o,e,ex⟩
   obtain ⟨o,e,ex⟩:=z
   refine⟨⟨o,e,ex.1⟩,fun a e2=>?_⟩
   cases e2
   exact⟨o,e,ex.2.1⟩
  ·obtain ⟨o,_,_,_,e,ex,_⟩:=I.hok p _ hk
   refine⟨⟨o,e,ex.1⟩,fun a e2=>?_⟩
   cases e2
   exact⟨o,e,ex.2.1⟩
 | _=>exact False.elim ty
def wN (K:PySem.W.Frag) (T:String) (r:V->List V->Hp->VK->Prop) (to:TE) (t:TA):TE:=fun σ H Q=>to σ H fun x H1=>fF K T x H1/\t σ H1 fun xs H2=>r x xs H2 Q
variable {o e : Expr} {es : List Expr} {to : TE} {t : TA} {name : Str} {apos cpos : Pos} {T id : String} {r : V → List V → Hp → VK → Prop}
theorem qW (pa:PlainAttrs T) (slot:Slot T name id) (hty:typeOf (.builtin id)=pure (.type "method_descriptor")) (hm:Y1 X id r) (ho:PE X o to) (ha:PA X (e :: es) t)
  (hbase:attributeBase o name X.env (eval o X.env)=eval o X.env:=by rfl)
  (hfew:((backTo cpos (starEach (e :: es) X.env)).all (fun x=>!x.1) && (backToKw cpos (keywordEach [] X.env)).all (fun x=>x.1.isSome)
   && decide ((e :: es).length+([]:List Keyword).length+(if ([]:List Keyword).isEmpty then 0 else 1) < 30))=true:=by rfl)
  (hline:(apos.endLine == cpos.line)=true:=by rfl) (hs:starEach (e :: es) X.env=(false,eval e X.env) :: starEach es X.env:=by rfl) (hplain:(backTo cpos (starEach es X.env)).any (·.1)=false:=by rfl) :
  PE X (.Call (.Attribute o name apos) (e :: es) [] cpos) (wN X.K T r to t):=by
 intro pins s σ H Q I h
 refine wpAny_Call_method_late hbase hfew hline rfl (aH (ho pins s σ H _ I h) fun v s1 ⟨x,H1,I1,r1,ty,q1⟩=>?_)
 obtain ⟨h1,h2⟩:=Z4 I1 r1 ty
 refine⟨T,id,pa,slot,hty,h1,h2,?_⟩
 have hA:=ha cpos pins s1 σ H1 _ I1 q1
 rw [hs] at hA ⊢
 refine Calls.callWith_builtin (by show (false || (backTo cpos (starEach es X.env)).any (·.1))=false; rw [hplain] <;> rfl) (Calls.evalArgs_plain ?_)
 exact aH hA fun us s2 ⟨vs,H2,I2,r2,q2⟩=>hm pins s2 σ H2 x vs v us Q I2 r1 r2 q2
end
def wO (X:Cx) (id:String) (r:V->List V->Hp->VK->Prop):Prop:=
 ∀ (pins:List (Addr × Obj)) (s:Shared) (σ:St) (H:Hp) (x:V) (xs:List V) (v:Value) (us:List Value) (Q:VK),a5 X pins σ H s->aO x v->aG xs us->r x xs H Q->
  wpAny (model X.prog X.w) X.A (call (.builtin id) (v :: us)) (EP X pins σ Q) X.xe s
theorem aG.one {x:V}{us:List Value} (h:aG [x] us):∃ u,us = [u]/\aO x u:=by
 cases h with
 | cons r t=>
  cases t
  exact⟨_,rfl,r⟩
theorem aG.eraseIdx:∀ {xs:List V}{us:List Value} (i:Nat),aG xs us->aG (xs.eraseIdx i) (us.eraseIdx i)
 | _,_,_,.nil=>.nil
 | _,_,0,.cons _ t=>t
 | _,_,i+1,.cons r t=>.cons r (aG.eraseIdx i t)
theorem aG.rep {xs:List V}{us:List Value} (h:aG xs us):∀ k:Nat,aG (List.replicate k xs).flatten (List.replicate k us).flatten
 | 0=>.nil
 | k+1=>by
  rw [aQ3,aQ3,aU5,aU5]
  exact aG.append h (aG.rep h k)
theorem wP (its:List Value):∀ (k:Nat) (acc:List Value),
  List.foldl (fun x1 x2=>x1 ++ x2) acc.toArray (List.replicate k its.toArray)=(acc ++ (List.replicate k its).flatten).toArray
 | 0,acc=>by simp
 | k+1,acc=>by
  have e:acc.toArray ++ its.toArray=(acc ++ its).toArray:=by simp
  have e2:(acc ++ its) ++ (List.replicate k its).flatten=acc ++ (List.replicate (k+1) its).flatten:=by
   rw [aQ3,aU5,aU6]
  rw [<- e2,<- wP its k (acc ++ its),<- e,aQ3,List.foldl_cons]
section
variable {X : Cx} {pins : List (Addr × Obj)} {σ : St} {H : Hp} {s : Shared} {l b : Addr} {xs ys zs : List V}
theorem a5.lset {its its':List Value}{n:Nat}{f:Array Value->Array Value}{t':Nat} (I:a5 X pins σ H s) (hH:H l=some (.lst xs))
  (e:s.heap.get? l=some { cls:=.type "list",data:=.seq its.toArray n }) (hf:f its.toArray=its'.toArray) (hv:aG ys its') (hz:ys.length<=sizeLine) :
  a5 X pins σ (upd H l (.lst ys)) { s with heap:=s.heap.update l (Obj.mapSeq f),toks:=t' }:=by
 have q:=PySem.IsL.update e f
 rw [hf] at q
 refine I.write (x:=l) (e:=l) (by rw [hH]; exact trivial) (.inl rfl) (fun b' u hb hu=>(Heap.get?_update_other s.heap (Obj.mapSeq f) (Ne.symm hb)).trans hu) ⟨_,q⟩ ?_
 exact⟨hz,its',_,hv,q⟩
theorem a5.lnew {its:List Value}{t':Nat} (I:a5 X pins σ H s) (hv:aG ys its) (hz:ys.length<=sizeLine) :
  a5 X pins σ (upd H s.heap.objs.size (.lst ys)) { s with heap:=s.heap.push { cls:=.type "list",data:=.seq its.toArray },toks:=t' }:=
 I.laid (fun _ _ q=>aI8 _ q) (aJ0 _) ⟨hz,its,0,hv,aJ9 _ rfl⟩
theorem a5.fresh (I:a5 X pins σ H s):H s.heap.objs.size=none:=I.hok.fresh (aJ0 _)
theorem a5.lstM (I:a5 X pins σ H s) (hH:H l=some (.lst xs)):xs.length<=sizeLine/\∃ (its:List Value) (n:Nat),aG xs its/\xs.length=its.length/\s.heap.get? l=some { cls:=.type "list",data:=.seq its.toArray n }:=by
 obtain ⟨z,its,n,r,e⟩:=I.hok l _ hH
 exact⟨z,its,n,r,r.length,e⟩
theorem Z5 {n:Nat} (h:n<=sizeLine):Builtin.List.listTooLong n=false:=by
 unfold Builtin.List.listTooLong
 exact aK5 (by omega)
end
section
variable {X : Cx}
def wQ:V->List V->Hp->VK->Prop:=fun x vs H Q=>∃ l xs y,x = .ref l/\vs = [y]/\H l=some (.lst xs)/\xs.length < sizeLine/\Q .non (upd H l (.lst (xs ++ [y])))
theorem mS:wO X "list.append" wQ:=by
 intro pins s σ H x vs v us Q I rx rv h
 obtain ⟨l,xs,y,rfl,rfl,hH,hz,q⟩:=h
 cases rx
 obtain ⟨u,rfl,ru⟩:=rv.one
 obtain ⟨z,its,n,r,hl,e⟩:=I.lstM hH
 refine call_meets F.slot_list_append ⟨_,e,rfl⟩ F.entry_list_append (F.args_list_append_2 _ _) (PySem.list_append l its.toArray n u (by rw [aI9]; omega)) ⟨e,?_⟩
 refine⟨.non,_,I.lset (its':=its ++ [u]) hH e (by simp) (r.append (.cons ru .nil)) ?_,rfl,q⟩
 rw [aJ4,aN6]
 omega
def Z6:V->List V->Hp->VK->Prop:=fun x vs H Q=>∃ l b xs zs,x = .ref l/\vs = [.ref b]/\H l=some (.lst xs)/\H b=some (.lst zs)/\xs.length+zs.length<=sizeLine/\Q .non (upd H l (.lst (xs ++ zs)))
theorem aI4:wO X "list.extend" Z6:=by
 intro pins s σ H x vs v us Q I rx rv h
 obtain ⟨l,b,xs,zs,rfl,rfl,hH,hB,hz,q⟩:=h
 cases rx
 obtain ⟨u,rfl,ru⟩:=rv.one
 cases ru
 obtain ⟨z,its,n,r,hl,e⟩:=I.lstM hH
 obtain ⟨z2,its2,n2,r2,hl2,e2⟩:=I.lstM hB
 have hsz:its.toArray.size+its2.toArray.size<=sizeLine:=by rw [aI9,aI9]; omega
 have hlong : ¬ (!its.toArray.isEmpty && Builtin.List.listTooLong (its.toArray.size+its2.toArray.size))=true:=by
  rw [Z5 hsz,Bool.and_false]
  exact aK7
 refine call_meets F.slot_list_extend ⟨_,e,rfl⟩ F.entry_list_extend (F.args_list_extend_2 _ _)
  (AutoSeq1.list_extend_list_list_0 l its.toArray n b its2.toArray n2 hlong (by rw [aI9]; omega) (by omega)) ⟨e,e2,?_⟩
 refine⟨.non,_,I.lset (its':=its ++ its2) hH e (by simp) (r.append r2) ?_,rfl,q⟩
 rw [aJ4]
 omega
def wR:R2:=fun x y H Q=>∃ l b xs zs,x = .ref l/\y = .ref b/\H l=some (.lst xs)/\H b=some (.lst zs)/\xs.length+zs.length<=sizeLine/\∀ p,H p=none->Q (.ref p) (upd H p (.lst (xs ++ zs)))
theorem Z7:bR X (binaryOp .Add) wR:=by
 intro pins s σ H x y v u Q I rx ry h
 obtain ⟨l,b,xs,zs,rfl,rfl,hH,hB,hz,q⟩:=h
 cases rx
 cases ry
 obtain ⟨z,its,n,r,hl,e⟩:=I.lstM hH
 obtain ⟨z2,its2,n2,r2,hl2,e2⟩:=I.lstM hB
 refine PySem.P.add_list e e2 ?_ (by rw [aI9,aI9]; omega)
 have ea:its.toArray ++ its2.toArray=(its ++ its2).toArray:=by simp
 rw [ea]
 exact⟨.ref _,_,I.lnew (t':=s.toks) (r.append r2) (by rw [aJ4]; omega),rfl,q _ I.fresh⟩
theorem Z8 {α:Type} (xs:List α) (k:Nat):(List.replicate k xs).flatten.length=k * xs.length:=by
 induction k with
 | zero=>simp
 | succ k ih=>rw [aQ3,aU5,aJ4,ih,Nat.succ_mul,Nat.add_comm]
end
section
variable {κ : Type} [DecidableEq κ]
def dN (kvs:List (κ × V)) (k:κ):Option V:=(kvs.find? fun kv=>decide (kv.1=k)).map (·.2)
def dO (kvs:List (κ × V)) (k:κ) (v:V):List (κ × V):=
 if (kvs.any fun kv=>decide (kv.1=k))=true then kvs.map (fun kv=>if kv.1=k then (kv.1,v) else kv) else kvs ++ [(k,v)]
theorem qX {p:κ × V}{r:List (κ × V)}{k:κ} (e:p.1=k):dN (p :: r) k=some p.2:=by simp [dN,aQ9,e]
theorem qY {p:κ × V}{r:List (κ × V)}{k:κ} (e : ¬ p.1=k):dN (p :: r) k=dN r k:=by simp [dN,aQ9,e]
theorem wS (k:κ):∀ kvs:List (κ × V),(kvs.any fun kv=>decide (kv.1=k))=(dN kvs k).isSome
 | []=>rfl
 | p :: r=>by
  rw [List.any_cons]
  by_cases e:p.1=k
  ·simp only [qX e,aL7 e,Bool.true_or,Option.isSome_some]
  ·rw [qY e,aK5 e,Bool.false_or]; exact wS k r
theorem wT (kvs:List (κ × V)) (k:κ) (v:V):(dO kvs k v).length<=kvs.length+1:=by
 unfold dO
 split
 ·rw [aJ3]; omega
 ·rw [aJ4,aO0,List.length_nil]; omega
theorem fD.isSome_eq {o:Option V}{u:Option Value} (r:fD o u):o.isSome=u.isSome:=by
 cases o with
 | none=>cases u with
  | none=>rfl
  | some _=>exact (show False from r).elim
 | some _=>cases u with
  | none=>exact (show False from r).elim
  | some _=>rfl
theorem KV.val {kvs:List (κ × V)}{vs:List (κ × Value)} (r:KV kvs vs) (k:κ):fD (dN kvs k) (valueAt vs k):=by
 unfold KV at r
 induction r with
 | nil=>exact aV2
 | @cons p q ps qs h t ih=>
  obtain ⟨h1,h2⟩:=h
  by_cases e:p.1=k
  ·have e':q.1=k:=h1.symm.trans e
   have b:valueAt (q :: qs) k=some q.2:=by simp [valueAt,aQ9,e']
   rw [qX e,b]; exact h2
  ·have e' : ¬ q.1=k:=fun z=>e (h1.trans z)
   have b:valueAt (q :: qs) k=valueAt qs k:=by simp [valueAt,aQ9,e']
   rw [qY e,b]; exact ih
theorem KV.any {kvs:List (κ × V)}{vs:List (κ × Value)} (r:KV kvs vs) (k:κ):(kvs.any fun kv=>decide (kv.1=k))=vs.any fun kv=>decide (kv.1=k):=by
 unfold KV at r
 induction r with
 | nil=>rfl
 | cons h t ih=>rw [List.any_cons,List.any_cons,ih,h.1]
theorem KV.repl {kvs:List (κ × V)}{vs:List (κ × Value)} (r:KV kvs vs) (k:κ) {y:V}{u:Value} (ry:aO y u) :
  KV (kvs.map fun kv=>if kv.1=k then (kv.1,y) else kv) (vs.map fun kv=>if kv.1=k then (kv.1,u) else kv):=by
 unfold KV at r ⊢
 induction r with
 | nil=>exact .nil
 | @cons p q ps qs h t ih=>
  rw [aM9,aM9]
  refine .cons ?_ ih
  obtain ⟨h1,h2⟩:=h
  by_cases e:p.1=k
  ·rw [if_pos e,if_pos (h1.symm.trans e)]; exact⟨h1,ry⟩
  ·rw [if_neg e,if_neg (fun z=>e (h1.trans z))]; exact⟨h1,h2⟩
theorem KV.put {kvs:List (κ × V)}{vs:List (κ × Value)} (r:KV kvs vs) (k:κ) {y:V}{u:Value} (ry:aO y u):KV (dO kvs k y) (stored vs k u):=by
 unfold dO stored
 rw [r.any k]
 by_cases e:(vs.any fun kv=>decide (kv.1=k))=true
 ·rw [if_pos e,if_pos e]; exact r.repl k ry
 ·rw [if_neg e,if_neg e]; exact Paired.snoc r ⟨rfl,ry⟩
theorem KV.length {kvs:List (κ × V)}{vs:List (κ × Value)} (r:KV kvs vs):kvs.length=vs.length:=Paired.length r
end
theorem l9 {P:Program}{w:World}{k:aD}{u:Value} (r:aO (kV k) u):(dM P w).is k u=true:=by
 cases k with
 | inl i=>obtain ⟨t,e⟩:=(show ∃ t,u=Value.int i t from r); subst e; exact P9 P w i t
 | inr x=>obtain ⟨t,e⟩:=(show ∃ t,u=Value.str x t from r); subst e; exact Q0 P w x t
theorem wU {P:Program}{w:World}:∀ {ks:List aD}{us:List Value},aG (ks.map kV) us->ItemsAre (dM P w) ks us
 | [],_,r=>by rw [List.map_nil] at r; cases r; exact .nil
 | k :: ks,_,r=>by
  rw [aM9] at r
  cases r with
  | cons h t=>exact .cons (l9 h) (wU t)
abbrev KT (H:Hp):List (List aD × V)->List (List aD × Addr × Value)->Prop:=Paired fun p q=>p.1=q.1/\H q.2.1=some (.tup (p.1.map kV))/\aO p.2 q.2.2
theorem KT.val {H:Hp}{kvs:List (List aD × V)}{xs:List (List aD × Addr × Value)} (r:KT H kvs xs) (k:List aD):fD (dN kvs k) ((atKey xs k).map (·.2)):=by
 induction r with
 | nil=>exact aV2
 | @cons p q ps qs h t ih=>
  obtain ⟨h1,_,h2⟩:=h
  by_cases e:p.1=k
  ·have e':q.1=k:=h1.symm.trans e
   have b:atKey (q :: qs) k=some q.2:=by simp [atKey,aQ9,e']
   rw [qX e,b]; exact h2
  ·have e' : ¬ q.1=k:=fun z=>e (h1.trans z)
   have b:atKey (q :: qs) k=atKey qs k:=by simp [atKey,aQ9,e']
   rw [qY e,b]; exact ih
theorem KT.repl {H:Hp}{kvs:List (List aD × V)}{xs:List (List aD × Addr × Value)} (r:KT H kvs xs) (k:List aD) {y:V}{u:Value} (ry:aO y u) :
  KT H (kvs.map fun kv=>if kv.1=k then (kv.1,y) else kv) (xs.map (putAt k u)):=by
 induction r with
 | nil=>exact .nil
 | @cons p q ps qs h t ih=>
  rw [aM9,aM9]
  refine .cons ?_ ih
  obtain ⟨h1,h2,h3⟩:=h
  unfold putAt
  by_cases e:p.1=k
  ·rw [if_pos e,if_pos (h1.symm.trans e)]; exact⟨h1,h2,ry⟩
  ·rw [if_neg e,if_neg (fun z=>e (h1.trans z))]; exact⟨h1,h2,h3⟩
theorem KT.put {H:Hp}{kvs:List (List aD × V)}{xs:List (List aD × Addr × Value)} (r:KT H kvs xs) (k:List aD) {b:Addr}{y:V}{u:Value} (hb:H b=some (.tup (k.map kV))) (ry:aO y u) :
  KT H (dO kvs k y) (storedH xs k b u):=by
 have e:(kvs.any fun kv=>decide (kv.1=k))=(atKey xs k).isSome:=by
  rw [wS,(r.val k).isSome_eq,Option.isSome_map]
 unfold dO storedH
 rw [e]
 by_cases q:(atKey xs k).isSome=true
 ·rw [if_pos q,if_pos q]; exact r.repl k ry
 ·rw [if_neg q,if_neg q]; exact Paired.snoc r ⟨rfl,hb,ry⟩
theorem KT.keeps {H H':Hp}{kvs:List (List aD × V)}{xs:List (List aD × Addr × Value)} (r:KT H kvs xs) (ht:∀ b ys,H b=some (.tup ys)->H' b=some (.tup ys)):KT H' kvs xs:=
 Paired.mapP r fun _ _ z=>⟨z.1,ht _ _ z.2.1,z.2.2⟩
section
variable {P : Program} {w : World} {H : Hp} {h : Heap} {a : Addr}
theorem wV {u:HO} (ok:bD P w H h) (e:Rd H a u):b8 P w H h a u:=e.ok ok
theorem iL {kvs:List (aD × V)} (ok:bD P w H h) (e:Rd H a (.dK kvs)):kvs.length<=sizeLine/\(a == sysModules)=false/\∃ vs,KV kvs vs/\h.DictOf (dM P w) a vs:=
 show b8 P w H h a (.dK kvs) from wV ok e
theorem Z9 {kvs:List (aD × V)} (ok:bD P w H h) (e:H a=some (.dK kvs)):kvs.length<=sizeLine/\(a == sysModules)=false/\∃ vs,KV kvs vs/\h.DictOf (dM P w) a vs:=iL ok (.inl e)
theorem jK {ks:List aD} (ok:bD P w H h) (e:H a=some (.tup (ks.map kV))):(tupleKind (dM P w)).is h ks a:=by
 obtain ⟨_,its,r,o,h1,h2,n,h3⟩:=(show b8 P w H h a (.tup (ks.map kV)) from ok a _ e)
 exact⟨o,its.toArray,n,h1,h2,h3,by simpa using wU r⟩
theorem jL {kvs:List (List aD × V)} (ok:bD P w H h) (e:Rd H a (.dT kvs)):kvs.length<=sizeLine/\(a == sysModules)=false/\
  ∃ xs,KT H kvs xs/\h.DictOfH (tupleKind (dM P w)) a xs:=by
 obtain ⟨z,y,xs,r,o,es,ep,h1,h2,h3,h4,h5⟩:=(show b8 P w H h a (.dT kvs) from wV ok e)
 refine⟨z,y,xs,r,o,es,ep,h1,h2,h3,h4,fun x hx=>?_,h5⟩
 have all:∀ {l:List (List aD × V)}{m:List (List aD × Addr × Value)},KT H l m->∀ x ∈ m,(tupleKind (dM P w)).is h x.1 x.2.1:=by
  intro l m q
  induction q with
  | nil=>intro x hx; exact nomatch hx
  | @cons p q ps qs hq t ih=>
   intro x hx
   rcases aK0.mp hx with e | hx
   ·subst e
    exact jK ok (by rw [<- hq.1]; exact hq.2.1)
   ·exact ih x hx
 exact all r x hx
theorem wW {kvs:List (List aD × V)} (ok:bD P w H h) (e:H a=some (.dT kvs)):kvs.length<=sizeLine/\(a == sysModules)=false/\
  ∃ xs,KT H kvs xs/\h.DictOfH (tupleKind (dM P w)) a xs:=jL ok (.inl e)
end
def dY (H:Hp) (a:Addr) (y:V) (r:Option V):Prop:=
 (∃ kvs k,Rd H a (.dK kvs)/\y=kV k/\r=dN kvs k) ∨ ∃ kvs k b,Rd H a (.dT kvs)/\y = .ref b/\H b=some (.tup (k.map kV))/\r=dN kvs k
def i7 (H:Hp) (a:Addr) (y v:V) (H':Hp):Prop:=
 (∃ kvs k,H a=some (.dK kvs)/\y=kV k/\kvs.length < sizeLine/\H'=upd H a (.dK (dO kvs k v))) ∨
 ∃ kvs k b,H a=some (.dT kvs)/\y = .ref b/\H b=some (.tup (k.map kV))/\kvs.length < sizeLine/\H'=upd H a (.dT (dO kvs k v))
theorem dY.k {H:Hp}{a:Addr}{kvs:List (aD × V)}{k:aD} (e:H a=some (.dK kvs)):dY H a (kV k) (dN kvs k):=.inl ⟨kvs,k,.inl e,rfl,rfl⟩
theorem dY.t {H:Hp}{a b:Addr}{kvs:List (List aD × V)}{k:List aD} (e:H a=some (.dT kvs)) (eb:H b=some (.tup (k.map kV))):dY H a (.ref b) (dN kvs k):=.inr ⟨kvs,k,b,.inl e,rfl,eb,rfl⟩
theorem i7.k {H:Hp}{a:Addr}{kvs:List (aD × V)}{k:aD}{v:V} (e:H a=some (.dK kvs)) (hl:kvs.length < sizeLine):i7 H a (kV k) v (upd H a (.dK (dO kvs k v))):=.inl ⟨kvs,k,e,rfl,hl,rfl⟩
theorem i7.t {H:Hp}{a b:Addr}{kvs:List (List aD × V)}{k:List aD}{v:V} (e:H a=some (.dT kvs)) (eb:H b=some (.tup (k.map kV))) (hl:kvs.length < sizeLine) :
  i7 H a (.ref b) v (upd H a (.dT (dO kvs k v))):=.inr ⟨kvs,k,b,e,rfl,eb,hl,rfl⟩
section
variable {X : Cx} {pins : List (Addr × Obj)} {σ : St} {H : Hp} {s : Shared} {a : Addr} {y v : V} {u r : Value} {o : Option V} {A : Around} {E : Value → Shared → Prop}
theorem a5.big (I:a5 X pins σ H s):sysModules < s.heap.objs.size:=by
 have h:mainGlobals < s.heap.objs.size:=(I.mod.glob.keeps I.bk).lt
 exact Nat.lt_trans (by decide) h
theorem aa0 {Q:Value->Shared->Prop} (hu:A.units+1 < cLine) (I:a5 X pins σ H s) (g:dY H a y (some v)) (ry:aO y u) (h:∀ w' s',a5 X pins σ H s'->aO v w'->Q w' s') :
  wpAny (model X.prog X.w) A (getItem (.ref a) u) Q E s:=by
 rcases g with ⟨kvs,k,e,ey,l⟩ | ⟨kvs,k,b,e,ey,eb,l⟩
 ·subst ey
  obtain ⟨z,hd,vs,rel,dd⟩:=iL I.hok e
  obtain ⟨w',hw,rw'⟩:=fD.some_of (v:=v) (o:=valueAt vs k) (by rw [l]; exact rel.val k)
  exact wpAny_getItem_of (l9 ry) dd.mapOf hw (h w' _ (I.tok _) rw')
 ·subst ey
  cases (show u=Value.ref b from ry)
  obtain ⟨z,hd,xs,rel,dd⟩:=jL I.hok e
  obtain ⟨w',hw,rw'⟩:=fD.some_of (v:=v) (o:=(atKey xs k).map (·.2)) (by rw [l]; exact rel.val k)
  obtain ⟨p,hp,hp2⟩:=Option.map_eq_some_iff.mp hw
  refine wpAny_getItem_heap (tupleKind_room_in1 hu) (jK I.hok eb) dd hp ?_
  rw [hp2]
  exact h w' _ (I.tok _) rw'
theorem aa1 {Q:Value->Shared->Prop} (hu:A.units+1 < cLine) (I:a5 X pins σ H s) (g:dY H a y o) (ry:aO y u) (h:∀ s',a5 X pins σ H s'->Q (.bool o.isSome) s') :
  wpAny (model X.prog X.w) A (compareOp .In u (.ref a)) Q E s:=by
 rcases g with ⟨kvs,k,e,ey,l⟩ | ⟨kvs,k,b,e,ey,eb,l⟩
 ·subst ey
  obtain ⟨z,hd,vs,rel,dd⟩:=iL I.hok e
  refine wpAny_in_of (l9 ry) hd dd.mapOf ?_
  rw [<- (rel.val k).isSome_eq,<- l]
  exact h _ (I.tok _)
 ·subst ey
  cases (show u=Value.ref b from ry)
  obtain ⟨z,hd,xs,rel,dd⟩:=jL I.hok e
  refine wpAny_in_heap (tupleKind_room_in1 hu) (jK I.hok eb) hd dd ?_
  have q:=(rel.val k).isSome_eq
  rw [Option.isSome_map] at q
  rw [<- q,<- l]
  exact h _ (I.tok _)
theorem aa2 {Q:Value->Shared->Prop} (hu:A.units+1 < cLine) (I:a5 X pins σ H s) (g:dY H a y o) (ry:aO y u) (h:∀ s',a5 X pins σ H s'->Q (.bool (!o.isSome)) s') :
  wpAny (model X.prog X.w) A (compareOp .NotIn u (.ref a)) Q E s:=by
 rcases g with ⟨kvs,k,e,ey,l⟩ | ⟨kvs,k,b,e,ey,eb,l⟩
 ·subst ey
  obtain ⟨z,hd,vs,rel,dd⟩:=iL I.hok e
  refine wpAny_notIn_of (l9 ry) hd dd.mapOf ?_
  rw [<- (rel.val k).isSome_eq,<- l]
  exact h _ (I.tok _)
 ·subst ey
  cases (show u=Value.ref b from ry)
  obtain ⟨z,hd,xs,rel,dd⟩:=jL I.hok e
  refine wpAny_notIn_heap (tupleKind_room_in1 hu) (jK I.hok eb) hd dd ?_
  have q:=(rel.val k).isSome_eq
  rw [Option.isSome_map] at q
  rw [<- q,<- l]
  exact h _ (I.tok _)
theorem qZ {h':Heap}{t':Nat}{ob:HO} (I:a5 X pins σ H s) (mu:kJ (H a)) (hs:Heap.SameBut a s.heap h') (he:∃ q,h'.get? a=some q) (new:b8 X.prog X.w (upd H a ob) h' a ob) :
  a5 X pins σ (upd H a ob) { s with heap:=h',toks:=t' }:=
 I.write (x:=a) (e:=a) mu (.inl rfl) (fun b q hb z=>(hs.2 b hb).trans z) he new
theorem aa3 {P:Program}{w:World}{H':Hp}{h':Heap}{kvs:List (aD × V)}{vs:List (aD × Value)} (z:kvs.length<=sizeLine) (hd:(a == sysModules)=false) (rel:KV kvs vs) (dd:h'.DictOf (dM P w) a vs) :
  b8 P w H' h' a (.dK kvs):=⟨z,hd,vs,rel,dd⟩
theorem aa4 {H':Hp}{Q:Unit->Shared->Prop} (hu:A.units+1 < cLine) (I:a5 X pins σ H s) (g:i7 H a y v H') (ry:aO y u) (rv:aO v r) (h:∀ s',a5 X pins σ H' s'->Q () s') :
  wpAny (model X.prog X.w) A (setItem (.ref a) u r) Q E s:=by
 rcases g with ⟨kvs,k,e,ey,l,eH⟩ | ⟨kvs,k,b,e,ey,eb,l,eH⟩
 ·subst ey eH
  obtain ⟨z,hd,vs,rel,dd⟩:=Z9 I.hok e
  have hz:vs.length<=sizeLine:=by rw [<- rel.length]; exact z
  have hl:(dO kvs k v).length<=sizeLine:=by have:=wT kvs k v; omega
  refine wpAny_setItem_pairs (hsz:=hz) (l9 ry) dd fun h' dd' hs=>h _ ?_
  have he:∃ q,h'.get? a=some q:=let ⟨q,_,_,hq,_⟩:=dd'; ⟨q,hq⟩
  exact qZ I (by rw [e]; exact aV2) hs he (aa3 hl hd (rel.put k rv) dd')
 ·subst ey eH
  cases (show u=Value.ref b from ry)
  obtain ⟨z,hd,xs,rel,dd⟩:=wW I.hok e
  have hz:xs.length<=sizeLine:=by rw [<- Paired.length rel]; exact z
  have hl:(dO kvs k v).length<=sizeLine:=by have:=wT kvs k v; omega
  refine wpAny_setItem_heap (hsz:=hz) (tupleKind_room_in1 hu) (jK I.hok eb) dd fun h' dd' hs=>h _ ?_
  obtain ⟨q,es,ep,hq,h2,h3,h4,_,h5⟩:=dd'
  refine qZ I (by rw [e]; exact aV2) hs ⟨q,hq⟩ ⟨hl,hd,_,(rel.put k eb rv).keeps fun c ys ec=>?_,q,es,ep,hq,h2,h3,h4,h5⟩
  rw [aJ (uP ec e (fun z=>nomatch z))]
  exact ec
end
section
variable {X : Cx} {pins : List (Addr × Obj)} {σ : St} {H : Hp} {s : Shared} {a : Addr} {kvs : List (aD × V)} {k : aD} {u : Value} {A : Around} {E : Value → Shared → Prop}
theorem aa5 {Q:Value->Shared->Prop} (I:a5 X pins σ H s) (e:Rd H a (.dK kvs)) (h:∀ t s',a5 X pins σ H s'->Q (.int kvs.length t) s'):wpAny (model X.prog X.w) A (call (.builtin "len") [.ref a]) Q E s:=by
 obtain ⟨z,hd,vs,rel,dd⟩:=iL I.hok e
 refine call_len_dict hd dd (by rw [<- rel.length]; rw [sizeLine_eq] at z; omega) ?_
 rw [<- rel.length]
 exact h _ _ (I.tok _)
end
def r0 (i:Expr):Prop:=∀ ov iv,subscripted i false ov iv=operate [ov,iv] (getItem ov iv)
theorem aa6 {prog:Program}{w:World}{A:Around}{E:Value->Shared->Prop}{s:Shared}{env:Env}{value slice:Expr}{pos:Pos}{T id:String}{Q:Value->Shared->Prop}
  (hl:typeLookup (.type T) "__getitem__" = pure (some (.builtin id))) (hs:r0 slice)
  (h:wpAny (model prog w) A (eval value env) (fun o s₁=>wpAny (model prog w) A (eval slice env) (fun i s₂=>s₂.TypeIs o T/\wpAny (model prog w) A (getItem o i) Q E s₂) E s₁) E s) :
  wpAny (model prog w) A (eval (.Subscript value slice pos) env) Q E s:=by
 refine Subscript_ (aO3 h (fun o s₁ h₁=>aO3 h₁ (fun i s₂ h₂=>?_) fun _ _ x=>x) fun _ _ x=>x)
 obtain ⟨hT,h₂⟩:=h₂
 unfold subscriptTail
 refine aI7 ?_
 rw [getitemInPython_of_ne hT.not_modules]
 refine aI7 (wpAny_specialOf hT hl ?_)
 have fin:wpAny (model prog w) A (subscripted slice false o i) (fun r s₃=>wpAny (model prog w) A (letTemporaryGo value o r >>= fun _=>pure r) Q E s₃) E s₂:=by
  rw [hs o i]
  exact wpAny_operating (aO3 h₂ (fun r s₃ h₃=>aI7 (wpAny_letTemporaryGo (aJ1 h₃))) fun _ _ x=>x)
 first
  | exact aJ1 (aI7 fin)
  | exact aI7 (aJ1 (aI7 fin))
  | exact aI7 fin
theorem aa7 {X:Cx}{pins:List (Addr × Obj)}{σ:St}{H:Hp}{s:Shared}{a:Addr}{y:V}{o:Option V} (I:a5 X pins σ H s) (g:dY H a y o):s.TypeIs (.ref a) "dict":=by
 rcases g with ⟨kvs,k,e,_,_⟩ | ⟨kvs,k,b,e,_,_,_⟩
 ·obtain ⟨_,_,vs,_,dd⟩:=iL I.hok e
  exact dd.typeIs
 ·obtain ⟨_,_,xs,_,dd⟩:=jL I.hok e
  exact dd.typeIs
def wX (td ty:TE):TE:=fun σ H Q=>td σ H fun x H1=>ty σ H1 fun y H2=>∃ a v,x = .ref a/\dY H2 a y (some v)/\Q v H2
def wY (ty td:TE):TE:=fun σ H Q=>ty σ H fun y H1=>td σ H1 fun x H2=>∃ a o,x = .ref a/\dY H2 a y o/\Q (.bl o.isSome) H2
def wZ (ty td:TE):TE:=fun σ H Q=>ty σ H fun y H1=>td σ H1 fun x H2=>∃ a o,x = .ref a/\dY H2 a y o/\Q (.bl (!o.isSome)) H2
def r6 (td ty tv:TE):TS:=fun D σ H=>tv σ H fun v H1=>td σ H1 fun x H2=>ty σ H2 fun y H3=>∃ a H4,x = .ref a/\i7 H3 a y v H4/\D.nx σ H4
section
variable {X : Cx} {o i e value : Expr} {pos pos' tpos : Pos} {td ty tv : TE}
theorem aa8 (hu:X.A.units+1 < cLine) (ho:PE X o td) (hi:PE X i ty) (hs:r0 i):PE X (.Subscript o i pos) (wX td ty):=by
 intro pins s σ H Q I h
 refine aa6 PySem.F.slot_dict_getitem.lookup hs (aH (ho pins s σ H _ I h) fun u s1 ⟨x,H1,I1,rx,q1⟩=>aH (hi pins s1 σ H1 _ I1 q1) fun iv s2 ⟨y,H2,I2,ry,a,v,ex,g,q2⟩=>?_)
 subst ex
 obtain rfl:u=Value.ref a:=rx
 exact⟨aa7 I2 g,aa0 hu I2 g ry fun w' s3 I3 rw'=>⟨v,H2,I3,rw',q2⟩⟩
theorem aa9 (hu:X.A.units+1 < cLine) (hi:PE X i ty) (ho:PE X o td):PC X .In i o (wY ty td):=by
 intro pins s σ H Q I h
 refine aH (hi pins s σ H _ I h) fun iv s1 ⟨y,H1,I1,ry,q1⟩=>aH (ho pins s1 σ H1 _ I1 q1) fun u s2 ⟨x,H2,I2,rx,a,ov,ex,g,q2⟩=>?_
 subst ex
 obtain rfl:u=Value.ref a:=rx
 exact aa1 hu I2 g ry fun s3 I3=>⟨.bl ov.isSome,H2,I3,rfl,q2⟩
theorem ab0 (hu:X.A.units+1 < cLine) (hi:PE X i ty) (ho:PE X o td):PC X .NotIn i o (wZ ty td):=by
 intro pins s σ H Q I h
 refine aH (hi pins s σ H _ I h) fun iv s1 ⟨y,H1,I1,ry,q1⟩=>aH (ho pins s1 σ H1 _ I1 q1) fun u s2 ⟨x,H2,I2,rx,a,ov,ex,g,q2⟩=>?_
 subst ex
 obtain rfl:u=Value.ref a:=rx
 exact aa2 hu I2 g ry fun s3 I3=>⟨.bl (!ov.isSome),H2,I3,rfl,q2⟩
theorem x0 (hu:X.A.units+1 < cLine) (ho:PE X o td) (hi:PE X i ty) (hv:PE X value tv) (hs:swapsWith value (some (.Subscript o i pos')) pos.line X.env=pure false) :
  PS X (.Assign [.Subscript o i pos'] value pos) (r6 td ty tv):=by
 intro pins s σ H D I h
 refine wpAny_Assign_Subscript (aH (hv pins s σ H _ I h) fun r s1 ⟨v,H1,I1,rv,q1⟩=>aH (ho pins s1 σ H1 _ I1 q1) fun u s2 ⟨x,H2,I2,rx,q2⟩=>aH (hi pins s2 σ H2 _ I2 q2) fun iv s3 ⟨y,H3,I3,ry,a,H4,ex,g,q3⟩=>?_) hs
 subst ex
 obtain rfl:u=Value.ref a:=rx
 exact aa4 hu I3 g ry rv fun s4 I4=>⟨σ,H4,I4,q3⟩
end
theorem ab1 {P:Program}{w:World}{H:Hp} (h:Heap) (hb:sysModules < h.objs.size):b8 P w H (h.push { cls:=.type "dict",data:=.dict #[] }) h.objs.size (.dK []):=
 ⟨aN0 _,aS0.mpr (Ne.symm (aM4 hb)),[],.nil,Heap.DictOf.new h⟩
theorem ab2 {P:Program}{w:World}{H:Hp} (h:Heap) (hb:sysModules < h.objs.size):b8 P w H (h.push { cls:=.type "dict",data:=.dict #[] }) h.objs.size (.dT []):=
 ⟨aN0 _,aS0.mpr (Ne.symm (aM4 hb)),[],.nil,_,#[],0,aJ9 _ rfl,⟨rfl,rfl,rfl⟩,rfl,rfl,List.nodup_nil⟩
def x3:TE:=fun _ H Q=>∀ p,H p=none->Q (.ref p) (upd H p (.dK []))
def x4:TE:=fun _ H Q=>∀ p,H p=none->Q (.ref p) (upd H p (.dT []))
section
variable {X : Cx} {pos : Pos}
theorem ab3:PE X (.Dict [] [] pos) x3:=fun pins s σ H Q I h=>
 wpAny_Dict_empty ⟨.ref s.heap.objs.size,_,I.laid (a:=s.heap.objs.size) (o:=.dK []) (t':=s.toks) (fun _ _ q=>aI8 _ q) (aJ0 _) (ab1 s.heap I.big),rfl,h _ (I.hok.fresh (aJ0 _))⟩
theorem ab4:PE X (.Dict [] [] pos) x4:=fun pins s σ H Q I h=>
 wpAny_Dict_empty ⟨.ref s.heap.objs.size,_,I.laid (a:=s.heap.objs.size) (o:=.dT []) (t':=s.toks) (fun _ _ q=>aI8 _ q) (aJ0 _) (ab2 s.heap I.big),rfl,h _ (I.hok.fresh (aJ0 _))⟩
end
structure M1 (X:Cx) (o:Expr) (m:Str) (apos:Pos) (e:Expr) (cpos:Pos):Prop where
 base:attributeBase o m X.env (eval o X.env)=eval o X.env
 few:((backTo cpos (starEach [e] X.env)).all (fun x=>!x.1) && (backToKw cpos (keywordEach [] X.env)).all (fun x=>x.1.isSome)
  && decide (([e]:List Expr).length+([]:List Keyword).length+(if ([]:List Keyword).isEmpty then 0 else 1) < 30))=true
 line:(apos.endLine == cpos.line)=true
 trees:backTo cpos (starEach [e] X.env) = [(false,eval e X.env)]
structure M2 (X:Cx) (o:Expr) (m:Str) (apos:Pos) (e f:Expr) (cpos:Pos):Prop where
 base:attributeBase o m X.env (eval o X.env)=eval o X.env
 few:((backTo cpos (starEach [e,f] X.env)).all (fun x=>!x.1) && (backToKw cpos (keywordEach [] X.env)).all (fun x=>x.1.isSome)
  && decide (([e,f]:List Expr).length+([]:List Keyword).length+(if ([]:List Keyword).isEmpty then 0 else 1) < 30))=true
 line:(apos.endLine == cpos.line)=true
 trees:backTo cpos (starEach [e,f] X.env) = [(false,eval e X.env),(false,eval f X.env)]
def x5 (H:Hp) (a:Addr):Prop:=(∃ kvs,Rd H a (.dK kvs)) ∨ ∃ kvs,Rd H a (.dT kvs)
theorem ab5 {X:Cx}{pins:List (Addr × Obj)}{σ:St}{H:Hp}{s:Shared}{a:Addr} (I:a5 X pins σ H s) (d:x5 H a) :
  s.TypeIs (.ref a) "dict"/\(∀ b,Value.ref a = .ref b->∃ ob,s.heap.get? b=some ob/\ob.dict=none)/\(a == sysModules)=false:=by
 rcases d with ⟨kvs,e⟩ | ⟨kvs,e⟩
 ·obtain ⟨_,hd,vs,_,dd⟩:=iL I.hok e
  refine⟨dd.typeIs,fun b q=>?_,hd⟩
  cases q
  obtain ⟨ob,_,_,h1,h2,_⟩:=dd
  exact⟨ob,h1,h2.2.1⟩
 ·obtain ⟨_,hd,xs,_,dd⟩:=jL I.hok e
  refine⟨dd.typeIs,fun b q=>?_,hd⟩
  cases q
  obtain ⟨ob,_,_,h1,h2,_⟩:=dd
  exact⟨ob,h1,h2.2.1⟩
end L2
namespace Att
open PySem PySem.W PySem.Calls PyProof.Rows
theorem ab6 {P:Params}{h:Heap}:∀ (ns:List Int) (vs:List Value),WellAll P h vs (ns.map WData.int)->IntsAre vs ns:=by
 intro ns
 induction ns with
 | nil=>
  intro vs w
  rw [List.map_nil] at w
  cases w
  exact .nil
 | cons n ns ih=>
  intro vs w
  rw [aM9] at w
  cases w with
  | cons a b=>
   cases a
   exact .cons _ _ (ih _ b)
theorem x6 {l:OpenLaw}{n:Nat} (hn:l.most=some n) {P:Params}{h:Heap}{args:List WData}{vals:List Value}
  (hpre:l.row.toRowW.claim.pre args=true) (hwl:WellAll P h vals args) :
  ∃ a vs ns,vals = [Value.ref a]/\args = [WData.list (ns.map WData.int)]/\h.get? a=some { cls:=.type "list",data:=.seq vs.toArray }/\IntsAre vs ns/\ns.length<=n:=by
 have hsh:WShape.hasAll [] args [.list .int]=true:=(pre_splitW hpre).1
 have hc:l.pre.holds [] { args:=args }=true:=(pre_splitW hpre).2
 obtain ⟨d,r,rfl,h1,h2⟩:=hasAllW_cons hsh
 obtain rfl:=hasAllW_nil h2
 obtain ⟨xs,rfl,h3⟩:=hasW_list h1
 obtain ⟨ns,rfl⟩:=items_int h3
 have hlen:ns.length<=n:=by
  unfold OpenLaw.pre at hc
  have h4:(WTm.not (.lt (.lit (.int (n:Int))) (.len (.arg 0)))).holds [] { args:=[.list (ns.map .int)] }=true:=by
   have h4:=(holds_andW hc).1
   rw [hn] at h4
   exact h4
  have h5:=condW_of h4 (w_not (w_lt w_lit (w_len_list (w_arg rfl))))
  rw [aJ3] at h5
  refine Nat.le_of_not_lt fun q=>?_
  have q':(n:Int) < ((ns.length:Nat):Int):=by omega
  first
   | (rw [aL7 q'] at h5; exact absurd h5 (by decide))
   | (simp at h5; omega)
 cases hwl with
 | cons w1 w2=>
  cases w2
  cases w1 with
  | list ho hall=>exact⟨_,_,ns,rfl,rfl,ho,ab6 ns _ hall,hlen⟩
theorem x8 (l:OpenLaw) (args:List WData):l.row.toRowW.claim.post args (.bool true) args=true:=
 postW_of (r:=l.row.toRowW) (X:=(true == true))
  (show WShape.has [] (.bool true) .bool=true by first | rfl | decide | simp [WShape.has,WShape.arms,WShape.armsAll])
  (show (WTm.eq .res (.lit (.bool true))).value [] { args:=args,res:=some (.bool true),after:=args }=some (.bool (true == true)) from w_eq_bool (w_res rfl) w_lit) rfl
theorem aI5 {l:OpenLaw}{n:Nat}{q:Program}{loose:List Str}{XP:(Str->Option Value)->Heap->Prop}{YP:World->Heap->Prop}{d:DefRec}{x:Str}
  (hn:l.most=some n) (hdf:d.params.defaults = [])
  (hbind:∀ pm cd doc v:Value,bindArgs (docDef d.name d.params d.body d.scope pm cd doc) ⟨[v],[]⟩=pure [(x,v)])
  (hx:d.scope.names.lookup x=some .local ∨ d.scope.names.lookup x=some .cell)
  (hk:d.scope.kind = .function) (hco:d.scope.isCoroutine=false) (hgen:d.scope.isGenerator=false)
  (body:∀ (w:World) (s₀ s₁ s:Shared) (mg mb:Str->Option Value) (fa:Addr) (o:Obj) (pm cd doc:Value) (a:Addr) (vs:List Value) (ns:List Int),
   Ground q loose [] XP w s₀ mg mb s₁.heap->YP w s₁.heap->
   s₁.heap.get? fa=some o->o.data = .func (docDef d.name d.params d.body d.scope pm cd doc)->s₁.heap.CodeRec cd d.name->mg d.name=some (.ref fa)->
   s₁.heap.get? a=some { cls:=.type "list",data:=.seq vs.toArray }->IntsAre vs ns->ns.length<=n->
   s.gens = #[]->s.os=s₁.os->
   Fr s₁.heap s₁.heap.objs.size s.heap (bindL (envOfC d.name d.scope s₁.heap.objs.size fa cd).kindOf [(x,.ref a)] fun _=>none)->
   Cl s₁.heap.objs.size (cellsFrom (s₁.heap.objs.size+1) d.scope.names []) s.heap (bindC (envOfC d.name d.scope s₁.heap.objs.size fa cd).kindOf [(x,.ref a)] fun _=>none)->
   wpAny (model l.prog w) (callerA.deeper (envOfC d.name d.scope s₁.heap.objs.size fa cd)) (execs d.body (envOfC d.name d.scope s₁.heap.objs.size fa cd))
    (fun f s'=>f = .ret (.bool true)/\OldK s₁.heap s'.heap/\s'.os=s₁.os/\AllBare s'.gens) (fun _ _=>False) s) :
  WalkO q loose XP YP l.row.toRowW d [] (fun f vs=>PySem.call f vs):=by
 intro w s₀ s₁ mg mb G Y fa o pm cd doc dV kV ho hd hcd hD hmg hg args vals as hpre hlay hrd hwl hlo
 obtain rfl:dV = .none:=Dflts.none hD hdf
 obtain rfl:kV = .none:=Dflts.noKw hD
 obtain ⟨a,vs,ns,rfl,rfl,hobj,hints,hlen⟩:=x6 hn hpre hwl
 refine enter_call ?_
 refine call_cells_ret (o:=o) (by rw [depth_caller]; decide) ho (fd_plain hd) G.T.nolimit hcd (hbind pm cd doc (.ref a)) (fun y hy=>?_) (fun h₁ tk F X=>?_) hco hgen hk
 ·obtain rfl:y=(x,Value.ref a):=aJ5.mp hy
  rcases hx with e | e
  ·exact .inl e
  ·exact .inr ⟨e,cellsFrom_some _ _ _ (.inl e)⟩
 ·refine aO3 (body w s₀ s₁ { s₁ with heap:=h₁,toks:=tk } mg mb fa o pm cd doc a vs ns G Y ho (fd_plain hd) hcd hmg hobj hints hlen hg rfl F X) (fun f s' hq=>?_) (fun _ _ hq=>hq)
  obtain ⟨rfl,h2,h3,h4⟩:=hq
  exact⟨.inl ⟨.bool true,.bool true,[],rfl,fun _=>rfl,.bool true,x8 l _,fun _=>⟨List.Pairwise.nil,fun _ hm=>(nomatch hm)⟩⟩,h2,h3,h4⟩
theorem ab7 {l:OpenLaw}{n:Nat}{q:Program}{loose:List Str}{XP:(Str->Option Value)->Heap->Prop}{YP:World->Heap->Prop}{d:DefRec}
  (hn:l.most=some n) (hdf:d.params.defaults = [])
  (call:∀ (w:World) (s₀ s₁:Shared) (mg mb:Str->Option Value) (fa:Addr) (o:Obj) (pm cd doc:Value) (a:Addr) (vs:List Value) (ns:List Int),
   Ground q loose [] XP w s₀ mg mb s₁.heap->YP w s₁.heap->
   s₁.heap.get? fa=some o->o.data = .func (docDef d.name d.params d.body d.scope pm cd doc)->s₁.heap.CodeRec cd d.name->mg d.name=some (.ref fa)->
   s₁.heap.get? a=some { cls:=.type "list",data:=.seq vs.toArray }->IntsAre vs ns->ns.length<=n->s₁.gens = #[]->
   codeAny (model l.prog w) callerA (.call (.ref fa) ⟨[.ref a],[]⟩) (fun r s'=>r = .ok (.ret (.bool true))/\OldK s₁.heap s'.heap/\s'.os=s₁.os/\AllBare s'.gens) s₁) :
  WalkO q loose XP YP l.row.toRowW d [] (fun f vs=>PySem.call f vs):=by
 intro w s₀ s₁ mg mb G Y fa o pm cd doc dV kV ho hd hcd hD hmg hg args vals as hpre hlay hrd hwl hlo
 obtain rfl:dV = .none:=Dflts.none hD hdf
 obtain rfl:kV = .none:=Dflts.noKw hD
 obtain ⟨a,vs,ns,rfl,rfl,hobj,hints,hlen⟩:=x6 hn hpre hwl
 refine enter_call (codeAny_mono (call w s₀ s₁ mg mb fa o pm cd doc a vs ns G Y ho (fd_plain hd) hcd hmg hobj hints hlen hg) fun r s' hq=>?_)
 obtain ⟨rfl,h2,h3,h4⟩:=hq
 exact⟨.inl ⟨.bool true,.bool true,[],rfl,fun _=>rfl,.bool true,x8 l _,fun _=>⟨List.Pairwise.nil,fun _ hm=>(nomatch hm)⟩⟩,h2,h3,h4⟩
end Att
namespace L2
open PySem PySem.Spec PyProof.Rows
theorem mT:∀ {vs:List Value}{ns:List Int},IntsAre vs ns->aG (ns.map V.int) vs
 | _,_,.nil=>.nil
 | _,_,.cons n t h=>.cons ⟨t,rfl⟩ (mT h)
def mU (H:Hp):Prop:=∀ b,H b=none ∨ ∃ o xs,H b=some (.frz o (.lst xs))
theorem ab8 {P:Program}{w:World}{K:PySem.W.Frag}{mg mb:Str->Option Value}{CX:eQ}{k:Nat}{fa a:Addr}{fd:FuncData}{x:Str}{sp:Sp}{s₁:Shared}{vs:List Value}{ns:List Int}
  (KX:K.In s₁.heap) (hns:s₁.heap.Ns mainGlobals mg) (hb:s₁.heap.Ns builtinsNs mb) (hbb:∀ x:Str,x ≠ "__name__"->mb x=bootBuiltins x) (hlim:s₁.heap.NoLimit) (hg:s₁.gens = #[])
  (ha:s₁.heap.get? a=some { cls:=.type "list",data:=.seq vs.toArray }) (hi:IntsAre vs ns) (hl:ns.length<=sizeLine) (hr:bE k callerA)
  (F:∀ base:Heap,K.In base->base.Ns mainGlobals mg->bV P w K mg base CX k fa fd [x] sp) (hbind:∀ (s:Shared) (u:Value),BindsTo s fd ⟨[u],[]⟩ [(x,u)])
  (hsp:∀ H:Hp,mU H->aK K H a (ns.map V.int)->sp [.ref a] H (fun v _=>v = .bl true) fun _ _ _=>False)
  (hCX:∀ H e s',CX [] H s₁ (fun _ _ _=>False) e s'->False) :
  codeAny (model P w) callerA (.call (.ref fa) ⟨[.ref a],[]⟩) (fun r s'=>r = .ok (.ret (.bool true))/\OldK s₁.heap s'.heap/\s'.os=s₁.os/\AllBare s'.gens) s₁:=by
 have rv:=mT hi
 have lenV:=hi.length
 have core:∀ H:Hp,mU H->aK K H a (ns.map V.int)->bD P w H s₁.heap->(∀ b,H b ≠ none->b=a)->(H a ≠ none->K.lookup a=none)->
   codeAny (model P w) callerA (.call (.ref fa) ⟨[.ref a],[]⟩) (fun r s'=>r = .ok (.ret (.bool true))/\OldK s₁.heap s'.heap/\s'.os=s₁.os/\AllBare s'.gens) s₁:=by
  intro H hO hS hok hA hK
  have base_of:∀ {b:Addr}{o:Obj},s₁.heap.get? b=some o->H b=none->(gH s₁.heap H).get? b=some o:=fun e n=>Q3 e n
  have noA:∀ {b:Addr}{o:Obj}{es:Array DictEntry}{ep:Nat},s₁.heap.get? b=some o->o.data = .dict es ep->H b=none:=fun {b o es ep} e d=>by
   cases q:H b with
   | none=>rfl
   | some u=>
    have e':b=a:=hA b (by rw [q]; simp)
    subst e'
    rw [ha] at e; cases e
    have d':Data.seq vs.toArray _=Data.dict es ep:=d
    cases d'
  have nsK:∀ {b:Addr}{m:Str->Option Value},s₁.heap.Ns b m->(gH s₁.heap H).Ns b m:=fun {b m} ⟨o,es,ep,e,d,r⟩=>⟨o,es,ep,base_of e (noA e d),d,r⟩
  have hKb:K.In (gH s₁.heap H):=fun b o e=>base_of (KX b o e) (by
   cases q:H b with
   | none=>rfl
   | some u=>
    have e':b=a:=hA b (by rw [q]; simp)
    subst e'
    rw [hK (by rw [q]; simp)] at e; cases e)
  have hM:Mod K mg (gH s₁.heap H):=⟨hKb,nsK hns,⟨mb,nsK hb,hbb⟩,let ⟨mc,h1,h2⟩:=hlim; ⟨mc,nsK h1,h2⟩⟩
  have e0:mO P w K mg (gH s₁.heap H) callerA [] s₁ H:=⟨rfl,hM,fun b o e=>Q4 e,Nat.le_of_eq (Q2 _ _),trivial,fun b hb=>absurd (show b ∈ ([]:List Addr) from hb) (by simp),hok,.of_eq hg⟩
  refine codeAny_mono ((F _ hKb (nsK hns)).run callerA [] s₁ H ⟨[.ref a],[]⟩ [.ref a] [.ref a] _ _ hr e0 (hbind s₁ (.ref a)) (.cons rfl .nil) (hsp H hO hS)) fun r s' h=>?_
  cases r with
  | error e=>exact (hCX H e s' h).elim
  | ok fl=>
   cases fl with
   | next=>exact False.elim h
   | brk=>exact False.elim h
   | cont=>exact False.elim h
   | ret u=>
    obtain ⟨v,H',os,bare,un,hok',r',q⟩:=h
    have q':v = .bl true:=q
    subst q'
    obtain rfl:u=Value.bool true:=r'
    refine⟨rfl,OldK.of_keep fun b o e=>?_,os,bare⟩
    cases q:H b with
    | none=>exact un.keep b o e q (by intro z; exact absurd (show b ∈ ([]:List Addr) from z) (by simp)) (by simp)
    | some u=>
     rcases hO b with z | ⟨ob,xs,z⟩
     ·rw [q] at z; cases z
     ·have z2:=un.frzs b ob _ z
      obtain ⟨e1,_⟩:=hok b _ z
      obtain ⟨e2,_⟩:=hok' b _ z2
      rw [e] at e1; cases e1
      exact e2
 cases hk:K.lookup a with
 | some o=>
  have e:=KX a o hk
  rw [ha] at e
  cases e
  refine core (fun _=>none) (fun _=>.inl rfl) (.inr ⟨_,vs.toArray,_,hk,rfl,rfl,rfl,by rw [aI9,lenV]; exact hl,by simpa using rv⟩) (fun b u z=>by have z':(none:Option HO)=some u:=z; cases z') (fun b z=>absurd rfl z) fun z=>absurd rfl z
 | none=>
  refine core (fun b=>if b=a then some (.frz { cls:=.type "list",data:=.seq vs.toArray } (.lst (ns.map V.int))) else none) (fun b=>?_) (.inl (.inr ⟨{ cls:=.type "list",data:=.seq vs.toArray },if_pos rfl⟩)) (fun b u z=>?_) (fun b z=>?_) fun _=>hk
  ·by_cases hb:b=a
   ·exact .inr ⟨_,_,if_pos hb⟩
   ·exact .inl (if_neg hb)
  ·by_cases hb:b=a
   ·have z':=(if_pos hb).symm.trans z
    cases z'
    subst hb
    exact⟨ha,by rw [aJ3]; exact hl,vs,_,rv,ha⟩
   ·have z':=(if_neg hb).symm.trans z
    cases z'
  ·by_cases hb:b=a
   ·exact hb
   ·exact absurd (if_neg hb) z
theorem ab9 {l:PySem.W.OpenLaw}{n k:Nat}{q:Program}{loose:List Str}{XP:(Str->Option Value)->Heap->Prop}{YP:World->Heap->Prop}{d:DefRec}{K:Params->PySem.W.Frag}{CX:World->eQ}{sp:World->Sp}{x:Str}
  (hn:l.most=some n) (hn2:n<=sizeLine) (hdf:d.params.defaults = []) (hr:bE k callerA)
  (hY:∀ (w:World) (h:Heap),YP w h->(K w.params).In h)
  (F:∀ (w:World) (mg:Str->Option Value) (fa:Addr) (h:Heap),(K w.params).In h->h.Ns mainGlobals mg->mg d.name=some (.ref fa)->
   ∃ fd:FuncData,(∀ (s:Shared) (u:Value),BindsTo s fd ⟨[u],[]⟩ [(x,u)])/\
    ∀ base:Heap,(K w.params).In base->base.Ns mainGlobals mg->bV l.prog w (K w.params) mg base (CX w) k fa fd [x] (sp w))
  (hsp:∀ (w:World) (H:Hp) (a:Addr) (ns:List Int),ns.length<=n->mU H->aK (K w.params) H a (ns.map V.int)->sp w [.ref a] H (fun v _=>v = .bl true) fun _ _ _=>False)
  (hCX:∀ (w:World) (H:Hp) (s:Shared) (e:Value) (s':Shared),CX w [] H s (fun _ _ _=>False) e s'->False) :
  PySem.W.WalkO q loose XP YP l.row.toRowW d [] (fun f vs=>PySem.call f vs):=by
 refine Att.ab7 hn hdf fun w s₀ s₁ mg mb fa o pm cd doc a vs ns G Y ho hd hcd hmg hobj hints hlen hg=>?_
 have KX:=hY w _ Y
 obtain ⟨fd,hb,hF⟩:=F w mg fa _ KX G.T.g hmg
 exact ab8 KX G.T.g G.T.b G.T.builtins G.T.nolimit hg hobj hints (aM8 hlen hn2) hr hF hb (fun H hO hS=>hsp w H a ns hlen hO hS) fun H e s'=>hCX w H s₁ e s'
def fG (s:Stmt):Arguments:=match s with
 | .FunctionDef _ a _ _ _ _ _ _ _ _=>a
 | _=>{ posonlyargs:=[],args:=[],vararg:=none,kwonlyargs:=[],kw_defaults:=[],kwarg:=none,defaults:=[] }
def cR (s:Stmt):List Stmt:=match s with
 | .FunctionDef _ _ b _ _ _ _ _ _ _=>b
 | _=>[]
def aN (s:Stmt):Scope:=match s with
 | .FunctionDef _ _ _ _ _ _ sc _ _ _=>sc
 | _=>{ kind:=.function,names:=[],isGenerator:=false,isCoroutine:=false }
abbrev cI:eQ:=fun _ _ _ _ _ _=>False
abbrev E0:XK:=fun _ _ _=>False
theorem r9 {X:Cx}:jJ cI X E0:=fun _ _ _ _ _ _ _ h=>h.elim
structure cV (K:PySem.W.Frag) (x qual:Str) (st:Stmt) (f:Addr) (fd:FuncData):Prop where
 ex:∃ (oc:Value) (od:Option Addr) (kV doc pm:Value) (an:Option Addr) (cdv ct:Value) (osl:Array (Option Value)),
  fd=PySem.W.fnOf x qual (fG st) (cR st) (aN st) .none kV doc pm an cdv ct/\K.lookup f=some ⟨oc,od,.func fd,osl⟩/\PySem.W.codeIn K cdv qual=true
 kp:PySem.W.keepIn K (.ref f)=true
section
variable {P : Program} {w : World} {K : PySem.W.Frag} {mg : Str → Option Value} {base : Heap}
theorem cV.ok {x qual:Str}{st:Stmt}{f:Addr}{fd:FuncData}{N ps:List Str}{k:Nat}{sp:Sp} (F:cV K x qual st f fd) (S:FnScope N ps (aN st)) (len:∀ vs H Q E,sp vs H Q E->vs.length=ps.length)
  (hbody:∀ (cdv:Value) (A:Around) (outer:List Env) (s:Shared) (H:Hp) (vs:List V) (Q:VK) (E:XK),bE k (A.deeper (envOfC qual (aN st) s.heap.objs.size f cdv))->sp vs H Q E->
   ∃ t,cB (cC cI P w K mg base N qual (aN st) f cdv A outer s H E).nox (cR st) t/\t { nx:=fun _ H'=>Q .non H',rt:=Q } (eS N vs) H):bV P w K mg base cI (k+1) f fd ps sp:=by
 obtain ⟨oc,od,kV,doc,pm,an,cdv,ct,osl,rfl,lk,hcd⟩:=F.ex
 refine w5 lk hcd S len fun A outer s H vs Q E hr hsp=>?_
 obtain ⟨t,h,q⟩:=hbody cdv A outer s H vs Q E hr hsp
 exact⟨t,h.nox,q⟩
theorem cV.binds {x qual:Str}{st:Stmt}{f:Addr}{fd:FuncData}{ps:List Str} (F:cV K x qual st f fd)
  (h:∀ (kV doc pm:Value) (an:Option Addr) (cdv ct:Value) (us:List Value),us.length=ps.length->bindArgs (PySem.W.fnOf x qual (fG st) (cR st) (aN st) .none kV doc pm an cdv ct) ⟨us,[]⟩=pure (ps.zip us)):eR K fd ps []:=by
 obtain ⟨oc,od,kV,doc,pm,an,cdv,ct,osl,rfl,lk,hcd⟩:=F.ex
 exact .all (h kV doc pm an cdv ct)
theorem ac0 {x qual:Str}{st:Stmt}{f:Addr}{oc:Value}{od an:Option Addr}{osl:Array (Option Value)}{kV doc pm cdv ct:Value} (l:K.lookup f=some ⟨oc,od,.func (PySem.W.fnOf x qual (fG st) (cR st) (aN st) .none kV doc pm an cdv ct),osl⟩)
  (c:PySem.W.codeIn K cdv qual=true) (k:PySem.W.keepIn K (.ref f)=true):cV K x qual st f (PySem.W.fnOf x qual (fG st) (cR st) (aN st) .none kV doc pm an cdv ct):=⟨⟨oc,od,kV,doc,pm,an,cdv,ct,osl,rfl,l,c⟩,k⟩
end
theorem i8 {A:Around}{k:Nat} (hr:bE k A):A.units+1 < cLine:=Nat.lt_of_le_of_lt (Nat.add_le_add_left (by decide:1<=64) _) hr.units
theorem mV {n:Nat} (h:n<=1000):n < sizeLine:=Nat.lt_of_le_of_lt h (by decide)
section
variable {X : Cx}
theorem pv (i:Nat) {x:Str}{pos:Pos} (hN:X.N[i]? = some x:=by rfl) (hv:eL X.env.scope x:=by first | exact Or.inl rfl | exact Or.inr (Or.inl rfl) | exact Or.inr (Or.inr rfl)) (hd:(x == ("__debug__" : Str))=false:=by decide)
  (hcd:(x == ("__classdict__" : Str))=false:=by decide):PE X (.Name x pos) (eM i):=gJ hN hv hd hcd
theorem ac1:bU X (.builtin "len") (fun xs H Q=>∃ a kvs,xs = [V.ref a]/\H a=some (.dK kvs)/\Q (.int kvs.length) H):=by
 intro pins s σ H xs us Q I r h
 obtain ⟨a,kvs,rfl,ha,q⟩:=h
 obtain ⟨u,rfl,ru⟩:=eC r
 cases ru
 exact aa5 I (.inl ha) fun t s' I'=>⟨.int kvs.length,H,I',⟨t,rfl⟩,q⟩
end
theorem aW {A B:Prop} (h:B):if false=true then A else B:=by
 rw [if_neg aK7]
 exact h
theorem b4 {A B:Prop} (h:A):if true=true then A else B:=by
 rw [if_pos rfl]
 exact h
def a9 (H H':Hp):Prop:=∀ b o,H b=some o->H' b=some o
theorem a9.refl (H:Hp):a9 H H:=fun _ _ h=>h
theorem a9.trans {H H1 H2:Hp} (a:a9 H H1) (b:a9 H1 H2):a9 H H2:=fun c o h=>b c o (a c o h)
theorem a9.free {H H':Hp} (e:a9 H H') {l:Addr} (h:H' l=Option.none):H l=Option.none:=by
 cases q:H l with
 | none=>rfl
 | some o=>
  rw [e l o q] at h
  cases h
theorem a9.seq {K:PySem.W.Frag}{H H':Hp}{a:Addr}{xs:List V} (e:a9 H H') (h:aK K H a xs):aK K H' a xs:=by
 rcases h with (h | ⟨o,h⟩) | h
 ·exact .inl (.inl (e _ _ h))
 ·exact .inl (.inr ⟨o,e _ _ h⟩)
 ·exact .inr h
def dD (cells:List (Str × Addr)):List (Str × NameKind)->List (Str × Addr)->List (Str × Addr)
 | [],cs=>cs
 | (n,k) :: r,cs=>dD cells r (if k == .free then (n,(cells.lookup n).getD 0) :: cs else cs)
theorem rA {env:Env}:∀ (ns:List (Str × NameKind)) (cs:List (Str × Addr)),(∀ x ∈ ns,x.2 = .free->∃ c,env.cells.lookup x.1=some c)->
  (forIn ns cs (fun (x:Str × NameKind) r=>(match x with
   | (name,kind)=>if (kind == .free)=true then (do let y <- cellOf env name; pure (ForInStep.yield ((name,y) :: r))) else pure (ForInStep.yield r)):_->_->Sem _))=(pure (dD env.cells ns cs):Sem (List (Str × Addr)))
 | [],cs,_=>by rw [List.forIn_nil]; rfl
 | (n,k) :: r,cs,h=>by
  rw [List.forIn_cons]
  have hr:∀ x ∈ r,x.2 = .free->∃ c,env.cells.lookup x.1=some c:=fun x hx=>h x (aL0 _ hx)
  cases hk:(k == NameKind.free) with
  | true=>
   have e:k = .free:=by simpa using hk
   obtain ⟨c,hc⟩:=h (n,k) aK1 e
   simp only [hk,if_true]
   have e1:cellOf env n=pure c:=by unfold cellOf; rw [hc]
   rw [e1]
   show ((pure c >>= fun y=>pure (ForInStep.yield ((n,y) :: cs))) >>= _:Sem _)=_
   rw [pure_bind,pure_bind]
   have:=rA (env:=env) r ((n,c) :: cs) hr
   refine this.trans ?_
   unfold dD
   simp only [hk,if_true,hc,Option.getD_some]
   cases r <;> rfl
  | false=>
   simp only [hk,aK3,aN5]
   rw [pure_bind]
   have:=rA (env:=env) r cs hr
   refine this.trans ?_
   conv=>rhs; unfold dD
   simp only [hk,aK3,aN5]
theorem mW {scope:Scope}{env:Env} (h:∀ x ∈ scope.names,x.2 = .free->∃ c,env.cells.lookup x.1=some c):closureFor scope env=pure (dD env.cells scope.names []):=by
 have e:=rA (env:=env) scope.names [] h
 unfold closureFor
 rw [show (pure (dD env.cells scope.names []):Sem (List (Str × Addr)))=(pure (dD env.cells scope.names []) >>= pure) by rw [pure_bind]]
 rw [<- e]
theorem mX {cells:List (Str × Addr)}:∀ (ns:List (Str × NameKind)) (cs:List (Str × Addr)) {x:Str}{c:Addr},(∀ y ∈ ns,y.2 = .free->∃ c,cells.lookup y.1=some c)->
  (∀ x c,cs.lookup x=some c->cells.lookup x=some c)->(dD cells ns cs).lookup x=some c->cells.lookup x=some c
 | [],cs,x,c,_,hc,h=>hc x c h
 | (n,k) :: r,cs,x,c,hn,hc,h=>by
  unfold dD at h
  have hr:∀ y ∈ r,y.2 = .free->∃ c,cells.lookup y.1=some c:=fun y hy=>hn y (aL0 _ hy)
  cases hk:(k == NameKind.free) with
  | false=>
   simp only [hk,aK3,aN5] at h
   exact mX r cs hr hc h
  | true=>
   simp only [hk,if_true] at h
   refine mX r _ hr (fun y d e=>?_) h
   obtain ⟨c0,h0⟩:=hn (n,k) aK1 (by simpa using hk)
   have h0:cells.lookup n=some c0:=h0
   rw [h0] at e
   rw [aO1] at e
   by_cases hyn:y=n
   ·subst hyn
    simp only [aP1,Option.getD_some] at e
    rw [h0]; exact e
   ·have:(y == n)=false:=aS0.mpr hyn
    simp only [this] at e
    exact hc y d e
theorem rB {cells:List (Str × Addr)}:∀ (ns:List (Str × NameKind)) (cs:List (Str × Addr)) {x:Str},((x,NameKind.free) ∈ ns ∨ ∃ c,cs.lookup x=some c)->∃ c,(dD cells ns cs).lookup x=some c
 | [],cs,x,h=>by
  rcases h with h | h
  ·simp at h
  ·exact h
 | (n,k) :: r,cs,x,h=>by
  unfold dD
  refine rB r _ ?_
  rcases h with h | ⟨c,h⟩
  ·rcases aK0.mp h with e | e
   ·cases e
    exact .inr ⟨_,by simp [aO1]; rfl⟩
   ·exact .inl e
  ·right
   cases hk:(k == NameKind.free) with
   | false=>exact⟨c,by simpa [hk] using h⟩
   | true=>
    simp only [if_true]
    rw [aO1]
    by_cases hxn:(x == n)=true
    ·simp only [hxn]; exact⟨_,rfl⟩
    ·simp only [aR7.mpr hxn]; exact⟨c,h⟩
theorem mY {env:Env}:∀ {names:List (Str × NameKind)}{x:Str}{k:NameKind},(names.map fun (n,k)=>if (k == NameKind.free && env.scope.kind == .function && env.kindOf n == some .cell) then (n,NameKind.cell) else (n,k)).lookup x=some k->
  names.lookup x=some k ∨ (names.lookup x=some .free/\k = .cell)
 | [],_,_,h=>by simp at h
 | (n,q) :: r,x,k,h=>by
  have ih:=@mY env r x k
  rw [aM9] at h
  by_cases hx:(x == n)=true
  ·have e:x=n:=by simpa using hx
   subst e
   by_cases hc:(q == NameKind.free && env.scope.kind == .function && env.kindOf x == some .cell)=true
   ·simp only [hc,if_true,aO1,aP1] at h
    have hq:q = .free:=by simp at hc; exact hc.1.1
    exact .inr ⟨by simp [aO1,hq],(aL5 h).symm⟩
   ·simp only [hc,aK3,aN5,aO1,aP1] at h
    exact .inl (by simp [aO1]; exact aL5 h)
  ·have hx':(x == n)=false:=aR7.mpr hx
   have h':(r.map fun (n,k)=>if (k == NameKind.free && env.scope.kind == .function && env.kindOf n == some .cell) then (n,NameKind.cell) else (n,k)).lookup x=some k:=by
    by_cases hc:(q == NameKind.free && env.scope.kind == .function && env.kindOf n == some .cell)=true
    ·simp only [hc,if_true,aO1,hx'] at h; exact h
    ·simp only [hc,aK3,aN5,aO1,hx'] at h; exact h
   simp only [aO1,hx']
   exact ih h'
def cW (fr:List (Option Nat)) (σ:St):St:=fr.map fun o=>o.bind fun j=>(σ[j]?).join
def Wk (σ₁ σ₂:St):Prop:=σ₁.length=σ₂.length/\∀ (i:Nat) v,σ₁[i]? = some (some v)->σ₂[i]? = some (some v)
theorem Wk.refl (σ:St):Wk σ σ:=⟨rfl,fun _ _ h=>h⟩
theorem Wk.set {σ τ:St}{i:Nat}{v:V} (h:Wk σ τ) (hi:σ[i]? = some none):Wk σ (τ.set i (some v)):=by
 refine⟨by rw [aM7]; exact h.1,fun j w e=>?_⟩
 by_cases hj:j=i
 ·subst hj; rw [hi] at e; cases e
 ·rw [aK4 (Ne.symm hj)]; exact h.2 j w e
theorem gR:∀ (ns:List (Str × NameKind)) (n:Nat) (cs:List (Str × Addr)),cellsFrom n ns cs=cellsFrom n ns [] ++ cs
 | [],_,_=>rfl
 | (x,k) :: r,n,cs=>by
  unfold cellsFrom
  split
  ·rw [gR r (n+1) ((x,n) :: cs),gR r (n+1) [(x,n)]]; simp
  ·exact gR r n cs
theorem rC:∀ (ns:List (Str × NameKind)) (n:Nat) {x:Str}{c:Addr},(x,c) ∈ cellsFrom n ns []->(x,NameKind.cell) ∈ ns
 | [],_,_,_,h=>by simp [cellsFrom] at h
 | (y,k) :: r,n,x,c,h=>by
  unfold cellsFrom at h
  split at h
  ·rename_i hk
   rw [gR] at h
   rcases aL9.mp h with z | z
   ·exact aL0 _ (rC r _ z)
   ·rw [aJ5] at z
    cases z
    have:k = .cell:=by simpa using hk
    rw [this]; exact aK1
  ·exact aL0 _ (rC r _ h)
theorem mZ:∀ (ns:List (Str × NameKind)) (n:Nat) {x:Str},(x,NameKind.cell) ∈ ns->∃ c,(x,c) ∈ cellsFrom n ns []
 | (y,k) :: r,n,x,h=>by
  unfold cellsFrom
  rcases aK0.mp h with z | z
  ·cases z
   rw [if_pos (by rfl),gR]
   exact⟨n,aK6 _ (by simp)⟩
  ·split
   ·obtain ⟨c,hc⟩:=mZ r (n+1) z
    rw [gR]
    exact⟨c,aP7 _ hc⟩
   ·exact mZ r n z
theorem rD {α:Type}:∀ {l:List (Str × α)}{x:Str}{c:α},(x,c) ∈ l->∃ d,l.lookup x=some d
 | (y,v) :: r,x,c,h=>by
  rw [aO1]
  cases hb:x == y with
  | true=>exact⟨v,rfl⟩
  | false=>
   rcases aK0.mp h with z | z
   ·cases z; simp at hb
   ·exact rD z
theorem nA {α:Type}{x:Str}:∀ (l r:List (Str × α)),(l ++ r).lookup x=(match l.lookup x with | some v=>some v | none=>r.lookup x)
 | [],_=>rfl
 | (y,v) :: l,r=>by
  rw [List.cons_append,aO1,aO1]
  cases hb:x == y with
  | true=>rfl
  | false=>exact nA l r
def eU (X:Cx) (scope:Scope) (C:Addr):List (Str × Addr):=cellsFrom (C+1) scope.names (dD X.env.cells scope.names [])
theorem iM {X:Cx}{scope:Scope}{C:Addr}{x:Str}{c:Addr} (h:(eU X scope C).lookup x=some c) :
  (x,c) ∈ cellsFrom (C+1) scope.names [] ∨ ((∀ d,(x,d) ∉ cellsFrom (C+1) scope.names [])/\(dD X.env.cells scope.names []).lookup x=some c):=by
 unfold eU at h
 rw [gR,nA] at h
 cases e:(cellsFrom (C+1) scope.names []).lookup x with
 | some v=>rw [e] at h; cases h; exact .inl (aN1 e)
 | none=>
  rw [e] at h
  refine .inr ⟨fun d hd=>?_,h⟩
  obtain ⟨d',z⟩:=rD hd
  rw [e] at z; cases z
theorem ac2 {X:Cx}{scope:Scope}{C:Addr}{x:Str}{c:Addr} (hn:(x,NameKind.cell) ∉ scope.names) (h:(dD X.env.cells scope.names []).lookup x=some c):(eU X scope C).lookup x=some c:=by
 unfold eU
 rw [gR,nA]
 cases e:(cellsFrom (C+1) scope.names []).lookup x with
 | some v=>exact absurd (rC _ _ (aN1 e)) hn
 | none=>exact h
theorem x9 {X:Cx}{scope:Scope}{C:Addr}{x:Str} (h:(x,NameKind.cell) ∈ scope.names ∨ ∃ c,(dD X.env.cells scope.names []).lookup x=some c):∃ c,(eU X scope C).lookup x=some c:=by
 unfold eU
 rw [gR,nA]
 cases e:(cellsFrom (C+1) scope.names []).lookup x with
 | some v=>exact⟨v,rfl⟩
 | none=>
  rcases h with h | h
  ·obtain ⟨c,hc⟩:=mZ scope.names (C+1) h
   obtain ⟨d,hd⟩:=rD hc
   rw [e] at hd; cases hd
  ·exact h
def aU (X:Cx) (scope:Scope) (N:List Str) (s:Shared) (H:Hp) (C:Addr) (fp:List Addr) (E:Value->Shared->Prop):Cx:=
 { X with N:=N,s₀:=s,H₀:=H,env:=compEnvC scope (eU X scope C) C X.env,outer:=X.stack,ex:=fp,fn:=fun x=>scope.names.lookup x == some .cell,pn:=[],xe:=E }
structure bO (X:Cx) (scope:Scope) (N:List Str) (fr:List (Option Nat)):Prop where
 kind:scope.kind = .function
 own:∀ y ∈ scope.names,y.2 = .cell->scope.names.lookup y.1=some .cell
 names:∀ y ∈ scope.names,y.2 = .local->scope.names.lookup y.1=some .local
 free:∀ y ∈ scope.names,y.2 = .free->X.env.scope.names.lookup y.1=some .cell ∨ X.env.scope.names.lookup y.1=some .free
 len:fr.length=N.length
 from_:∀ (i j:Nat),fr[i]? = some (some j)->∃ x,N[i]? = some x/\X.N[j]? = some x/\scope.names.lookup x=some .free
section
variable {X : Cx} {pins : List (Addr × Obj)} {σ : St} {H : Hp} {s : Shared} {scope : Scope} {N : List Str} {fr : List (Option Nat)}
theorem bO.cells (S:bO X scope N fr) (I:a5 X pins σ H s):∀ y ∈ scope.names,y.2 = .free->∃ c,X.env.cells.lookup y.1=some c:=fun y hy hk=>I.ok.has y.1 (S.free y hy hk)
theorem ac3 {C D:Addr}{fp:List Addr}{E:Value->Shared->Prop}{h1:Heap}{tk:Nat}{m:Str->Option Value} (S:bO X scope N fr) (I:a5 X pins σ H s)
  (hf:∀ b ∈ fp,eN X pins H b) (hfl:∀ b ∈ fp,b < s.heap.objs.size) (hD:s.heap.objs.size<=D) (hC:s.heap.objs.size<=C) (hDC:D < C)
  (old:∀ b o,s.heap.get? b=some o->h1.get? b=some o) (hns:h1.Ns C m) (hacc:h1.get? D=some { cls:=.type "list",data:=.seq #[] 0 }) (hco:CellsOk h1 (C+1) (cellsFrom (C+1) scope.names [])) :
  a5 (aU X scope N s H C fp E) [] (cW fr σ) (upd H D (.lst [])) { s with heap:=h1,toks:=tk }:=by
 have hHD:H D=none:=I.hok.fresh hD
 have cl:=S.cells I
 have cs:∀ {x:Str}{c:Addr},(dD X.env.cells scope.names []).lookup x=some c->X.env.cells.lookup x=some c:=fun {x c} h=>mX scope.names [] cl (fun _ _ z=>by simp at z) h
 have clt:∀ {x:Str}{c:Addr},X.env.cells.lookup x=some c->c < s.heap.objs.size:=fun {x c} h=>by obtain ⟨v,z⟩:=I.cell x c h; exact z.lt
 have nge:∀ {x:Str}{c:Addr},(x,c) ∈ cellsFrom (C+1) scope.names []->C < c:=fun {x c} h=>(hco.empty x c h).2
 refine⟨⟨I.ok.mod,?_,I.ok.glob,I.ok.blt,hC,?_,?_,?_,I.ok.hd,I.ok.frames,.inl rfl,?_,I.bs,aM8 I.ok.bsz I.sz,?_,?_,I.stack,I.stkFree⟩,rfl,I.bare,Un.laid old hD hHD,⟨m,hns,?_⟩,?_,?_,?_,fun p hp=>absurd (show p ∈ ([]:List (Addr × Obj)) from hp) (by simp),?_,?_⟩
 ·exact S.kind
 ·intro x y c h1 h2
  rcases iM h1 with a | ⟨_,a⟩ <;> rcases iM h2 with b | ⟨_,b⟩
  ·exact name_of_addr hco.apart a b
  ·exact absurd (aJ7 (Nat.lt_trans (nge a) (clt (cs b))) hC) (aN2 _)
  ·exact absurd (aJ7 (Nat.lt_trans (nge b) (clt (cs a))) hC) (aN2 _)
  ·exact I.ok.inj x y c (cs a) (cs b)
 ·intro x hx
  have hx:(relabel scope X.env).names.lookup x=some .cell ∨ (relabel scope X.env).names.lookup x=some .free:=hx
  have fin:(x,NameKind.free) ∈ scope.names->∃ c,(eU X scope C).lookup x=some c:=fun z=>x9 (.inr (rB scope.names [] (.inl z)))
  rcases hx with hx | hx
  ·rcases mY hx with z | z
   ·exact x9 (.inl (aN1 z))
   ·exact fin (aN1 z.1)
  ·rcases mY hx with z | z
   ·exact fin (aN1 z)
   ·exact absurd z.2 (by decide)
 ·intro x c hx h
  have hx:(scope.names.lookup x == some NameKind.cell)=true:=hx
  have hx:scope.names.lookup x=some .cell:=by simpa using hx
  rcases iM h with a | ⟨a,_⟩
  ·exact aM8 hC (aP3 (nge a))
  ·obtain ⟨d,hd⟩:=mZ scope.names (C+1) (aN1 hx)
   exact absurd hd (a d)
 ·intro b hb
  refine⟨aM4 (aJ7 (hfl b hb) hC),fun x c e=>?_⟩
  rcases iM e with a | ⟨_,a⟩
  ·exact aS4 (Nat.lt_trans (aJ7 (hfl b hb) hC) (nge a))
  ·exact (hf b hb).2.2.2.2.1 x c (cs a)
 ·intro b o e hb
  rcases (hf b hb).2.2.2.1 with z | z
  ·exact I.ok.noex b o e z
  ·exact absurd (aJ7 (aK2 e) (aM8 I.ok.bsz z)) (aN2 _)
 ·intro b hb z
  rcases aK0.mp (I.stkSub b z) with e | e
  ·exact (hf b hb).2.1 e
  ·exact (hf b hb).2.2.1 e
 ·intro i x v e1 e2 e3
  have e2:(fr.map fun o=>o.bind fun j=>(σ[j]?).join)[i]? = some (some v):=e2
  rw [aJ6] at e2
  cases ef:fr[i]? with
  | none=>rw [ef] at e2; cases e2
  | some o=>
   rw [ef] at e2
   cases o with
   | none=>cases e2
   | some j=>
    have e2:some ((σ[j]?).join)=some (some v):=e2
    have ej:σ[j]? = some (some v):=by
     cases q:σ[j]? with
     | none=>rw [q] at e2; cases e2
     | some w=>rw [q] at e2; cases w with
      | none=>cases e2
      | some w=>cases e2; rfl
    obtain ⟨y,a1,a2,a4⟩:=S.from_ i j ef
    have e1:N[i]? = some x:=e1
    rw [e1] at a1
    cases a1
    have a3:(x,NameKind.free) ∈ scope.names:=aN1 a4
    have vis:eL X.env.scope x:=(S.free _ a3 rfl).elim (fun z=>.inr (.inl z)) fun z=>.inr (.inr z)
    obtain ⟨m0,hn0,hl0⟩:=I.loc
    obtain ⟨u,r,l⟩:=hl0 j x v a2 ej vis
    refine⟨u,r,.inr ⟨?_,?_⟩⟩
    ·have e3:(relabel scope X.env).names.lookup x=some .local ∨ (relabel scope X.env).names.lookup x=some .cell ∨ (relabel scope X.env).names.lookup x=some .free:=e3
     rcases e3 with z | z | z
     ·rcases mY z with y | y
      ·rw [a4] at y; cases y
      ·exact absurd y.2 (by decide)
     ·exact .inl z
     ·exact .inr z
    ·obtain ⟨c,hc⟩:=rB (cells:=X.env.cells) scope.names [] (x:=x) (.inl a3)
     refine⟨c,ac2 (fun z=>by have:=S.own _ z rfl; rw [a4] at this; cases this) hc,?_⟩
     have hc':=cs hc
     have S1:=S.free (x,.free) a3 rfl
     rcases l with ⟨k,_⟩ | ⟨_,c2,hc2,z⟩
     ·have k:X.env.scope.names.lookup x=some .local:=k
      rcases S1 with q | q <;> (have q:X.env.scope.names.lookup x=_:=q; rw [k] at q; cases q)
     ·rw [hc'] at hc2; cases hc2
      obtain ⟨oc,ho,hd⟩:=z
      exact⟨oc,old c oc ho,hd⟩
 ·intro x c e
  rcases iM e with a | ⟨_,a⟩
  ·exact⟨_,(hco.empty x c a).1⟩
  ·obtain ⟨v,oc,ho,hd⟩:=I.cell x c (cs a)
   exact⟨v,oc,old c oc ho,hd⟩
 ·show upd H D (.lst []) C=none
  rw [aJ (aS4 hDC)]; exact I.hok.fresh hC
 ·intro x c e
  show upd H D (.lst []) c=none
  rcases iM e with a | ⟨_,a⟩
  ·rw [aJ (aS4 (Nat.lt_trans hDC (nge a)))]; exact I.hok.fresh (aM8 hC (aP3 (nge a)))
  ·have q:=cs a
   rw [aJ (aM4 (aJ7 (clt q) hD))]
   exact I.freeC x c q
 ·exact I.hok.laid old hD ⟨aN0 _,[],0,.nil,hacc⟩
 ·show (cW fr σ).length=N.length
  unfold cW; rw [aJ3]; exact S.len
end
def gS (X:Cx) (ifs:List Expr) (t:TT):Prop:=
 ∀ (pins:List (Addr × Obj)) (s:Shared) (σ:St) (H:Hp) (Q:Bool->Hp->Prop),a5 X pins σ H s->t σ H Q->
  wpAny (model X.prog X.w) X.A (forIn ifs true fun c r=>if r=true then do let ok <- isTrue c X.env (eval c X.env); pure (ForInStep.yield ok) else pure (ForInStep.yield r)) (TP X pins σ Q) X.xe s
def rE:TT:=fun _ H Q=>Q true H
theorem nB {X:Cx}:gS X [] rE:=fun _ _ _ H _ I h=>wpAny_tests_nil ⟨H,I,h⟩
theorem nC {X:Cx}{c:Expr}{t:TT} (h:PT X c t):gS X [c] t:=fun pins s σ H Q I hq=>wpAny_tests_one (h pins s σ H Q I hq)
section
variable {prog : Program} {w : World} {A : Around}
def rF (prog:Program) (w:World) (A:Around) (elt tg:Expr) (ifs:List Expr) (it acc:Value) (env:Env) (lost:Value->Shared->Prop) (stop next:Shared->Prop) (s:Shared):Prop:=
 let M:=model prog w
 let tests:Sem Bool:=forIn ifs true fun c r=>if r=true then do let ok <- isTrue c env (eval c env); pure (ForInStep.yield ok) else pure (ForInStep.yield r)
 let put:Shared->Prop:=wpAny M A (eval elt env) (fun x=>wpAny M A (call (.builtin "list.append") [acc,x]) (fun _=>next) lost) lost
 let taken:Value->Shared->Prop:=fun v=>wpAny M A (letOwnedTupleGo tg it v) (fun _=>wpAny M A (assign tg env v) (fun _=>wpAny M A tests (fun ok s'=>if ok=true then put s' else next s') lost) lost) lost
 wpAny M A (pyNext it) (fun r s'=>match r with
  | none=>stop s'
  | some v=>taken v s') lost s
theorem ac4 {R:Result->Shared->Prop}{s:Shared}{elt tg iter:Expr}{ifs:List Expr}{scope:Scope}{pos:Pos}{it acc:Value}{env:Env} (I:Nat->Shared->Prop)
  (turn:∀ n s,I n s->rF prog w A elt tg ifs it acc env (notedBy (model prog w) A env fun e=>R (.error e)) (R (.ok .next)) (fun s'=>∃ m,m < n/\I m s') s) (n:Nat) (h:I n s) :
  codeAny (model prog w) A (.compLoop (.ListComp elt [⟨tg,iter,ifs,0⟩] scope pos) 0 it acc env) R s:=by
 apply codeAny_loop rfl I _ n h
 intro k s1 h1
 change wpAny _ A ((compTurn _ 0 it acc env).onRaise (fun x=>do noteFrame x env; theTreesLotGoes x)) _ _ s1
 apply wpAny_noted
 rw [compTurn_list]
 have t:=turn k s1 h1
 unfold rF at t
 apply aI7
 apply wpAny_standAt
 apply aI7
 refine aO3 t (fun r s2 h2=>?_) fun _ _ z=>z
 cases r with
 | none=>exact aJ1 h2
 | some v=>
  apply aI7
  refine aO3 h2 (fun _ s3 h3=>?_) fun _ _ z=>z
  apply aI7
  refine aO3 h3 (fun _ s4 h4=>?_) fun _ _ z=>z
  apply aI7
  refine aO3 h4 (fun ok s5 h5=>?_) fun _ _ z=>z
  cases ok with
  | false=>exact aJ1 ⟨rfl,h5⟩
  | true=>
   apply aI7
   apply aI7
   refine aO3 h5 (fun x s6 h6=>?_) fun _ _ z=>z
   apply aI7
   exact aO3 h6 (fun _ s7 h7=>aJ1 (aJ1 ⟨rfl,h7⟩)) fun _ _ z=>z
end
def lA (g:TG) (tc:TT) (te:TE) (σ0:St) (J:It) (D:Addr) (Q:VK) (W:Nat->Nat->List V->Hp->Prop):Prop:=
 ∀ i m acc H',W i m acc H'->H' D=some (.lst acc)/\((J.stop i H'/\Q (.ref D) H') ∨ (J.go i H'/\∀ x H2,J.yld i H' x H2->g x σ0 H2 fun σ2 H3=>Wk σ0 σ2/\tc σ2 H3 fun b H4=>
  if b=true then te σ2 H4 fun v H5=>H5 D=some (.lst acc)/\acc.length < sizeLine/\∃ m',m' < m/\W (i+1) m' (acc ++ [v]) (upd H5 D (.lst (acc ++ [v]))) else ∃ m',m' < m/\W (i+1) m' acc H4))
def xA (wi:TI) (fr:List (Option Nat)) (g:TG) (tc:TT) (te:TE):TE:=fun σ H Q=>wi σ H fun J H1=>∀ D,H1 D=none->
 ∃ W:Nat->Nat->List V->Hp->Prop,(∃ m,W 0 m [] (upd H1 D (.lst [])))/\lA g tc te (cW fr σ) J D Q W
section
variable {M : Model} {A : Around} {E : Value → Shared → Prop} {s : Shared}
theorem ac5 {scope:Scope}{globals:Addr}{cl:List (Str × Addr)}{qual:Str}{func:Option Addr}{code:Value}{builtins:Addr}{outer:Env}{Q:Env->Shared->Prop}
  (hQ:∀ h',h'.Ns s.heap.objs.size (fun _=>none)->(∀ b o,s.heap.get? b=some o->h'.get? b=some o)->CellsOk h' (s.heap.objs.size+1) (cellsFrom (s.heap.objs.size+1) scope.names [])->
   Q (newEnv scope s.heap.objs.size globals (cellsFrom (s.heap.objs.size+1) scope.names cl) qual func code (some outer) builtins) { s with heap:=h' }) :
  wpAny M A (newFunctionEnv scope globals cl [] qual func code (some outer) builtins) Q E s:=by
 simp only [newFunctionEnv,Option.isSome_some,if_true]
 refine aI7 (wpAny_alloc ?_)
 refine aI7 (wpAny_layCells _ (fun name kind cells=>by cases hkc:kind == NameKind.cell <;> simp [hkc]) _ _ _ _ ?_)
 have ok:=cellsFrom_ok scope.names (s.heap.push { cls:=.type "dict",data:=.dict #[] }) (s.heap.objs.size+1) [] ⟨fun _ _ hm=>(nomatch hm),List.Pairwise.nil⟩ (by rw [aV1]; exact aJ0 _)
 rw [aV1] at ok
 rw [show ({ s with heap:=s.heap.push { cls:=.type "dict",data:=.dict #[] } }:Shared).heap.objs.size=s.heap.objs.size+1 from aV1 ..]
 rw [List.forIn_nil]
 refine aI7 (aJ1 (aJ1 (hQ _ ((Heap.Ns.new s.heap (.type "dict")).keeps (pushCells_keeps _ _)) (fun b o e=>pushCells_keeps _ _ b o (aI8 _ e)) ok)))
end
section
variable {X : Cx} {pins : List (Addr × Obj)} {σ : St} {H : Hp} {s : Shared} {scope : Scope} {N : List Str} {fr : List (Option Nat)} {tg iter elt : Expr} {ifs : List Expr} {pos : Pos} {wi : TI} {g : TG} {tc : TT} {te : TE}
structure iN (X:Cx) (scope:Scope) (N:List Str) (tg:Expr) (ifs:List Expr) (elt:Expr) (s:Shared) (H:Hp) (g:TG) (tc:TT) (te:TE):Prop where
 tg:∀ (C:Addr) (fp:List Addr),PG (aU X scope N s H C fp fun _ _=>False) tg g
 ifs:∀ (C:Addr) (fp:List Addr),gS (aU X scope N s H C fp fun _ _=>False) ifs tc
 elt:∀ (C:Addr) (fp:List Addr),PE (aU X scope N s H C fp fun _ _=>False) elt te
structure nD (X:Cx) (scope:Scope) (N:List Str) (tg:Expr) (ifs:List Expr) (elt:Expr) (g:TG) (tc:TT) (te:TE):Prop where
 tg:∀ (s:Shared) (H:Hp) (C:Addr) (fp:List Addr),PG (aU X scope N s H C fp fun _ _=>False) tg g
 ifs:∀ (s:Shared) (H:Hp) (C:Addr) (fp:List Addr),gS (aU X scope N s H C fp fun _ _=>False) ifs tc
 elt:∀ (s:Shared) (H:Hp) (C:Addr) (fp:List Addr),PE (aU X scope N s H C fp fun _ _=>False) elt te
theorem nD.at (B:nD X scope N tg ifs elt g tc te) (s:Shared) (H:Hp):iN X scope N tg ifs elt s H g tc te:=⟨B.tg s H,B.ifs s H,B.elt s H⟩
theorem ac6 {C:Addr}{fp:List Addr}{E:Value->Shared->Prop}{pins':List (Addr × Obj)}{σ':St}{H':Hp}{s':Shared} (I:a5 X pins σ H s) (hf:∀ b ∈ fp,eN X pins H b) (I':a5 (aU X scope N s H C fp E) pins' σ' H' s'):a5 X pins σ H' s':=
 I.call' (ch:=fp) I'.os I'.base I'.hok I'.bare fun b hb=>⟨(hf b hb).2.2.2.1,(hf b hb).2.1,(hf b hb).2.2.2.2.1,(hf b hb).2.2.2.2.2⟩
theorem nE {Rr:Value->Addr->Result->Shared->Prop}{J:It}{fp:List Addr}{it:Addr}{tn:Nat->Heap->Prop}{Q:VK}
  (hc:X.calm=true) (S:bO X scope N fr) (B:iN X scope N tg ifs elt s H g tc te) (I:a5 X pins σ H s) (T:fR X.prog X.w X.K tg J fp it tn) (hst:tn 0 s.heap) (hf:∀ b ∈ fp,eN X pins H b)
  (h:∀ D,H D=none->∃ W:Nat->Nat->List V->Hp->Prop,(∃ m,W 0 m [] (upd H D (.lst [])))/\lA g tc te (cW fr σ) J D Q W)
  (hend:∀ (D C:Addr) (s':Shared) (H':Hp) (m:Str->Option Value),s.heap.objs.size<=C->s.heap.objs.size<=D->a5 X pins σ H' s'->s'.heap.Ns C m->H' C=none->Q (.ref D) H'->Rr (.ref D) C (.ok .next) s') :
  wpAny (model X.prog X.w) X.A (newList []) (fun acc s₃=>wpAny (model X.prog X.w) X.A (newFunctionEnv scope X.env.globals (dD X.env.cells scope.names []) [] X.env.qual none .none (some X.env)) (fun cenv s₄=>
   codeAny (model X.prog X.w) X.A (.compStart (.ListComp elt [⟨tg,iter,ifs,0⟩] scope pos) 0 (.ref it) acc { cenv with scope:=relabel scope X.env }) (Rr acc cenv.locals) s₄) X.xe s₃) X.xe s:=by
 refine aP4 (ac5 (fun h₁ hns₁ keep₁ hco₁=>?_))
 dsimp only at hns₁ keep₁ hco₁ ⊢
 generalize hH2:s.heap.push { cls:=.type "list",dict:=none,data:=.seq ([]:List Value).toArray }=H2 at hns₁ keep₁ hco₁ ⊢
 have hC:H2.objs.size=s.heap.objs.size+1:=by rw [<- hH2,aV1]
 have hDC:s.heap.objs.size < H2.objs.size:=by rw [hC]; exact Nat.lt_succ_self _
 have hCle:s.heap.objs.size<=H2.objs.size:=by rw [hC]; exact Nat.le_succ _
 have old:∀ b o,s.heap.get? b=some o->h₁.get? b=some o:=fun b o e=>keep₁ b o (hH2 ▸ aI8 _ e)
 have hacc:h₁.get? s.heap.objs.size=some { cls:=.type "list",data:=.seq #[] 0 }:=keep₁ _ _ (hH2 ▸ aJ9 _ rfl)
 have hfl:∀ b ∈ fp,b < s.heap.objs.size:=fun b hb=>by obtain ⟨o,e,_⟩:=T.obj _ _ hst b hb; exact aK2 e
 obtain ⟨W,⟨m0,w0⟩,turn⟩:=h s.heap.objs.size (I.hok.fresh (aJ0 _))
 have st1:tn 0 h₁:=T.keep _ _ _ hst fun b _ o e=>old b o e
 have fr0:∀ b ∈ fp,upd H s.heap.objs.size (.lst []) b=none:=fun b hb=>by rw [aJ (aM4 (hfl b hb))]; exact (hf b hb).1
 have stat:∀ {H':Hp},(∀ b ∈ fp,H' b=none)->∀ b ∈ fp,eN (aU X scope N s H H2.objs.size fp fun _ _=>False) [] H' b:=fun {H'} hn b hb=>by
  have f:=hf b hb
  refine⟨hn b hb,aM4 (aJ7 (hfl b hb) hCle),fun z=>?_,.inl hb,fun x c e=>(iM e).elim (fun z=>aS4 (Nat.lt_trans (aJ7 (hfl b hb) hCle) (hco₁.empty x c z).2)) fun z=>f.2.2.2.2.1 x c (mX scope.names [] (S.cells I) (fun _ _ z=>by simp at z) z.2),fun p hp=>absurd (show p ∈ ([]:List (Addr × Obj)) from hp) (by simp)⟩
  rcases aK0.mp (I.stkSub b z) with e | e
  ·exact f.2.1 e
  ·exact f.2.2.1 e
 generalize hX:aU X scope N s H H2.objs.size fp (fun _ _=>False)=Y at stat
 have I0:a5 Y [] (cW fr σ) (upd H s.heap.objs.size (.lst [])) { s with heap:=h₁ }:=hX ▸ ac3 S I hf hfl (aJ0 _) hCle hDC old hns₁ hacc hco₁
 have bt:PG Y tg g:=hX ▸ B.tg H2.objs.size fp
 have bi:gS Y ifs tc:=hX ▸ B.ifs H2.objs.size fp
 have be:PE Y elt te:=hX ▸ B.elt H2.objs.size fp
 have eP:Y.prog=X.prog:=by rw [<- hX]; rfl
 have ew:Y.w=X.w:=by rw [<- hX]; rfl
 have eK:Y.K=X.K:=by rw [<- hX]; rfl
 have eA:Y.A=X.A:=by rw [<- hX]; rfl
 have eE:Y.env=compEnvC scope (eU X scope H2.objs.size) H2.objs.size X.env:=by rw [<- hX]; rfl
 have eX:Y.xe=fun _ _=>False:=by rw [<- hX]; rfl
 have ec:Y.calm=true:=by rw [<- hX]; exact hc
 have never:∀ {E:Value->Shared->Prop} (e:Value) (s':Shared),Y.xe e s'->E e s':=fun {E} e s' z=>by rw [eX] at z; exact z.elim
 have out:∀ {pins' σ' H' s'},a5 Y pins' σ' H' s'->a5 X pins σ H' s':=fun {_ _ _ _} I'=>ac6 (C:=H2.objs.size) (E:=fun _ _=>False) (scope:=scope) (N:=N) I hf (hX ▸ I')
 have loop:codeAny (model X.prog X.w) X.A (.compLoop (.ListComp elt [⟨tg,iter,ifs,0⟩] scope pos) 0 (.ref it) (.ref s.heap.objs.size) (compEnvC scope (eU X scope H2.objs.size) H2.objs.size X.env))
   (Rr (.ref s.heap.objs.size) H2.objs.size) { s with heap:=h₁ }:=by
  refine ac4 (fun n s'=>∃ i acc H',a5 Y [] (cW fr σ) H' s'/\tn i s'.heap/\(∀ b ∈ fp,H' b=none)/\W i n acc H') ?_ m0 ⟨0,[],_,I0,st1,fr0,w0⟩
  rintro n s3 ⟨i,acc,H3,I3,st3,fr3,w3⟩
  unfold rF
  dsimp only
  obtain ⟨hD3,step⟩:=turn i n acc H3 w3
  rcases step with ⟨stop,qn⟩ | ⟨go,step⟩
  ·have z:=T.done Y eP ew eK ec i [] s3 _ H3 (notedBy (model X.prog X.w) X.A (compEnvC scope (eU X scope H2.objs.size) H2.objs.size X.env) fun e s'=>Rr (.ref s.heap.objs.size) H2.objs.size (.error e) s') I3 (stat fr3) st3 stop
   rw [eA] at z
   refine aH z fun r s4 ⟨hr,I4⟩=>?_
   subst hr
   obtain ⟨m4,hn4,_⟩:=I4.loc
   rw [eE] at hn4
   have f4:=I4.free
   rw [eE] at f4
   exact hend _ _ s4 H3 m4 hCle (aJ0 _) (out I4) hn4 f4 qn
  ·have z:=T.item Y eP ew eK ec i [] s3 _ H3 (notedBy (model X.prog X.w) X.A (compEnvC scope (eU X scope H2.objs.size) H2.objs.size X.env) fun e s'=>Rr (.ref s.heap.objs.size) H2.objs.size (.error e) s') I3 (stat fr3) st3 go
   rw [eA] at z
   refine aH z fun r s4 ⟨u,hr,h4⟩=>?_
   subst hr
   refine aH h4 fun _ s5 ⟨x,H5,I5,r5,y5,st5,fr5⟩=>?_
   have I5':=I5.pinned (stat fr5) (T.obj _ _ st5)
   have q1:=bt _ s5 _ H5 x u _ I5' r5 (step x H5 y5)
   rw [eP,ew,eA,eE] at q1
   refine aO3 q1 (fun _ s6 ⟨σ6,H6,I6,wk,q6⟩=>?_) never
   have q2:=bi _ s6 σ6 H6 _ I6 q6
   rw [eP,ew,eA,eE] at q2
   refine aO3 q2 (fun b s7 ⟨H7,I7,q7⟩=>?_) never
   have again:∀ {H8:Hp}{s8:Shared}{acc':List V},a5 Y ([] ++ kS fp s5.heap) σ6 H8 s8->(∃ m',m' < n/\W (i+1) m' acc' H8)->∃ m,m < n/\∃ i acc H',a5 Y [] (cW fr σ) H' s8/\tn i s8.heap/\(∀ b ∈ fp,H' b=none)/\W i m acc H':=fun {H8 s8 acc'} I8 n8=>by
    obtain ⟨m',hm,w8⟩:=n8
    refine⟨m',hm,i+1,acc',H8,(I8.unpinned).weak wk.1 wk.2,T.keep _ _ _ st5 fun b hb o e=>(I8.pin (b,o) (aK6 _ (aK6 _ (mK hb e)))).1,fun b hb=>?_,w8⟩
    obtain ⟨o,e,d⟩:=T.obj _ _ st5 b hb
    exact (I8.pin (b,o) (aK6 _ (aK6 _ (mK hb e)))).2.1
   cases b with
   | false=>
    rw [if_neg aK7] at q7 ⊢
    exact again I7 q7
   | true=>
    rw [if_pos rfl] at q7 ⊢
    have q3:=be _ s7 σ6 H7 _ I7 q7
    rw [eP,ew,eA,eE] at q3
    refine aO3 q3 (fun v s8 ⟨y,H8,I8,r8,hD8,hz8,q8⟩=>?_) never
    have q4:=mS _ s8 σ6 H8 (.ref s.heap.objs.size) [y] (.ref s.heap.objs.size) [v] (fun _ H9=>∃ m',m' < n/\W (i+1) m' (acc ++ [y]) H9) I8 rfl (.cons r8 .nil) ⟨_,_,_,rfl,rfl,hD8,hz8,q8⟩
    rw [eP,ew,eA] at q4
    exact aO3 q4 (fun _ s9 ⟨_,H9,I9,_,q9⟩=>again I9 q9) never
 exact codeAny_compStart_list loop (T.self _ 0 _ _ _ st1 loop)
end
section
variable {X : Cx} {scope : Scope} {N : List Str} {fr : List (Option Nat)} {tg iter elt : Expr} {ifs : List Expr} {pos : Pos} {wi : TI} {g : TG} {tc : TT} {te : TE}
theorem a5.drop {pins:List (Addr × Obj)}{σ:St}{H H':Hp}{s s':Shared}{C:Addr}{h':Heap} (I0:a5 X pins σ H s) (hC:s.heap.objs.size<=C) {σ':St} (I:a5 X pins σ' H' s') (hn:H' C=none) (sb:Heap.SameBut C s'.heap h'):a5 X pins σ' H' { s' with heap:=h' }:=by
 refine I.turned (t':=s'.toks) (it:=C) (fun b o hb e=>(sb.2 b hb).trans e) hn (aS4 (aJ7 I0.lt hC)) (.inr (aM8 I0.sz hC)) (fun x c e z=>?_) fun p hp z=>?_
 ·obtain ⟨v,q⟩:=I0.cell x c e
  exact absurd (aJ7 q.lt (by rw [z]; exact hC)) (aN2 _)
 ·exact absurd (aJ7 (aK2 (I0.pin p hp).1) (by rw [z]; exact hC)) (aN2 _)
theorem xB (hc:X.calm=true) (S:bO X scope N fr) (hi:PI X tg iter wi) (B:nD X scope N tg ifs elt g tc te)
  (hs:∀ x,foldedSetIterable iter X.env x=pure x:=by intro _; rfl):PE X (.ListComp elt [⟨tg,iter,ifs,0⟩] scope pos) (xA wi fr g tc te):=by
 intro pins s σ H Q I h
 rw [eval_ListComp]
 refine wpAny_comprehension_free (use:=none) rfl hs (mW (S.cells I)) S.kind S.names (aH (hi pins s σ H _ I h) fun v s1 h1=>aH h1 fun itv s2 h2=>?_)
 obtain ⟨it,fp,tn,J,H2,e,I2,T,st2,f2,hW⟩:=h2
 subst e
 refine nE (Rr:=fun acc C=>compPost (model X.prog X.w) X.A X.xe none (EP X pins σ Q) acc C) hc S (B.at _ _) I2 T st2 f2 hW ?_
 intro D C s' H' m hC hD I' hns hHC q
 exact⟨m,hns,fun h' sb=>⟨.ref D,H',I2.drop hC I' hHC sb,rfl,q⟩⟩
theorem ac7 {i:Nat}{x:Str}{px spos:Pos} (hc:X.calm=true) (S:bO X scope N fr) (hi:PI X tg iter wi) (B:nD X scope N tg ifs elt g tc te) (hN:X.N.Nodup) (hix:X.N[i]? = some x) (hx:X.env.scope.names.lookup x=some .local)
  (hsw:swapsWith (.ListComp elt [⟨tg,iter,ifs,0⟩] scope pos) (some (.Name x px)) spos.line X.env=pure true) (hs:∀ x,foldedSetIterable iter X.env x=pure x:=by intro _; rfl) :
  PS X (.Assign [.Name x px] (.ListComp elt [⟨tg,iter,ifs,0⟩] scope pos) spos) (i4 (xA wi fr g tc te) (bL i)):=by
 intro pins s σ H D I h
 rw [exec_Assign_Name_used _ _ _ _ hsw]
 refine aI7 (wpAny_standAt (aI7 ?_))
 show wpAny _ _ (do let _ <- comprehension (.ListComp elt [⟨tg,iter,ifs,0⟩] scope pos) scope X.env _ (newList []) false (eval iter X.env) (some (assign (.Name x px) X.env))) _ _ s
 refine aI7 (aO3 (wpAny_comprehension_free (Q:=fun _ s'=>SP X pins D .next s') (use:=some (assign (.Name x px) X.env)) rfl hs (mW (S.cells I)) S.kind S.names (aH (hi pins s σ H _ I h) fun v s1 h1=>aH h1 fun itv s2 h2=>?_))
  (fun _ s' hq=>aJ1 (aJ1 hq)) fun _ _ e=>e)
 obtain ⟨it,fp,tn,J,H2,e,I2,T,st2,f2,hW⟩:=h2
 subst e
 refine nE (Rr:=fun acc C=>compPost (model X.prog X.w) X.A X.xe (some (assign (.Name x px) X.env)) (fun _ s'=>SP X pins D .next s') acc C) hc S (B.at _ _) I2 T st2 f2 hW ?_
 intro D' C s' H' m hC hD I' hns hHC q
 refine wpAny_assign_Name (pW I' hN hix (.inl hx) (v:=.ref D') rfl (fun s'' I'' sb=>?_) (.inr hx))
 obtain ⟨a,sb,ha⟩:=sb
 have hCa:C ≠ a:=by
  rcases ha with z | z
  ·rw [z]; exact aS4 (aJ7 I2.lt hC)
  ·intro e; subst e
   obtain ⟨v,q⟩:=I2.cell x _ z
   exact absurd (aJ7 q.lt hC) (aN2 _)
 exact⟨m,hns.sameBut sb hCa,fun h' sb'=>⟨_,H',I2.drop hC I'' hHC sb',q⟩⟩
variable {gh : Hp → TG} {tch : Hp → TT} {teh : Hp → TE}
def nF (wi:TI) (fr:List (Option Nat)) (gh:Hp->TG) (tch:Hp->TT) (teh:Hp->TE):TE:=fun σ H Q=>wi σ H fun J H1=>∀ D,H1 D=none->
 ∃ W:Nat->Nat->List V->Hp->Prop,(∃ m,W 0 m [] (upd H1 D (.lst [])))/\lA (gh H1) (tch H1) (teh H1) (cW fr σ) J D Q W
theorem lB (hc:X.calm=true) (S:bO X scope N fr) (hi:PI X tg iter wi) (B:∀ (s:Shared) (H:Hp),iN X scope N tg ifs elt s H (gh H) (tch H) (teh H))
  (hs:∀ x,foldedSetIterable iter X.env x=pure x:=by intro _; rfl):PE X (.ListComp elt [⟨tg,iter,ifs,0⟩] scope pos) (nF wi fr gh tch teh):=by
 intro pins s σ H Q I h
 rw [eval_ListComp]
 refine wpAny_comprehension_free (use:=none) rfl hs (mW (S.cells I)) S.kind S.names (aH (hi pins s σ H _ I h) fun v s1 h1=>aH h1 fun itv s2 h2=>?_)
 obtain ⟨it,fp,tn,J,H2,e,I2,T,st2,f2,hW⟩:=h2
 subst e
 refine nE (Rr:=fun acc C=>compPost (model X.prog X.w) X.A X.xe none (EP X pins σ Q) acc C) hc S (B _ _) I2 T st2 f2 hW ?_
 intro D C s' H' m hC hD I' hns hHC q
 exact⟨m,hns,fun h' sb=>⟨.ref D,H',I2.drop hC I' hHC sb,rfl,q⟩⟩
theorem rG {i:Nat}{x:Str}{px spos:Pos} (hc:X.calm=true) (S:bO X scope N fr) (hi:PI X tg iter wi) (B:∀ (s:Shared) (H:Hp),iN X scope N tg ifs elt s H (gh H) (tch H) (teh H)) (hN:X.N.Nodup) (hix:X.N[i]? = some x) (hx:X.env.scope.names.lookup x=some .local)
  (hsw:swapsWith (.ListComp elt [⟨tg,iter,ifs,0⟩] scope pos) (some (.Name x px)) spos.line X.env=pure true) (hs:∀ x,foldedSetIterable iter X.env x=pure x:=by intro _; rfl) :
  PS X (.Assign [.Name x px] (.ListComp elt [⟨tg,iter,ifs,0⟩] scope pos) spos) (i4 (nF wi fr gh tch teh) (bL i)):=by
 intro pins s σ H D I h
 rw [exec_Assign_Name_used _ _ _ _ hsw]
 refine aI7 (wpAny_standAt (aI7 ?_))
 show wpAny _ _ (do let _ <- comprehension (.ListComp elt [⟨tg,iter,ifs,0⟩] scope pos) scope X.env _ (newList []) false (eval iter X.env) (some (assign (.Name x px) X.env))) _ _ s
 refine aI7 (aO3 (wpAny_comprehension_free (Q:=fun _ s'=>SP X pins D .next s') (use:=some (assign (.Name x px) X.env)) rfl hs (mW (S.cells I)) S.kind S.names (aH (hi pins s σ H _ I h) fun v s1 h1=>aH h1 fun itv s2 h2=>?_))
  (fun _ s' hq=>aJ1 (aJ1 hq)) fun _ _ e=>e)
 obtain ⟨it,fp,tn,J,H2,e,I2,T,st2,f2,hW⟩:=h2
 subst e
 refine nE (Rr:=fun acc C=>compPost (model X.prog X.w) X.A X.xe (some (assign (.Name x px) X.env)) (fun _ s'=>SP X pins D .next s') acc C) hc S (B _ _) I2 T st2 f2 hW ?_
 intro D' C s' H' m hC hD I' hns hHC q
 refine wpAny_assign_Name (pW I' hN hix (.inl hx) (v:=.ref D') rfl (fun s'' I'' sb=>?_) (.inr hx))
 obtain ⟨a,sb,ha⟩:=sb
 have hCa:C ≠ a:=by
  rcases ha with z | z
  ·rw [z]; exact aS4 (aJ7 I2.lt hC)
  ·intro e; subst e
   obtain ⟨v,q⟩:=I2.cell x _ z
   exact absurd (aJ7 q.lt hC) (aN2 _)
 exact⟨m,hns.sameBut sb hCa,fun h' sb'=>⟨_,H',I2.drop hC I'' hHC sb',q⟩⟩
end
theorem aY {H:Hp}{p:Addr} (h:H p=none) (o:HO):a9 H (upd H p o):=fun b u q=>by rw [aJ (cQ q h)]; exact q
theorem a9.tup {K:PySem.W.Frag}{H H':Hp}{a:Addr}{xs:List V} (e:a9 H H') (h:aI K H a xs):aI K H' a xs:=by
 rcases h with (h | ⟨o,h⟩) | h
 ·exact .inl (.inl (e _ _ h))
 ·exact .inl (.inr ⟨o,e _ _ h⟩)
 ·exact .inr h
structure xC (H:Hp) (J:It) (xs:List V):Prop where
 go:∀ i H',a9 H H'->i < xs.length->J.go i H'
 yld:∀ i H' x H2,a9 H H'->J.yld i H' x H2->i < xs.length->xs[i]? = some x/\H2=H'
 stop:∀ H',a9 H H'->J.stop xs.length H'
theorem ac8 {K:PySem.W.Frag}{H:Hp}{a:Addr}{xs:List V} (h:aI K H a xs):xC H (i5 K a) xs:=
 ⟨fun i H' e hi=>⟨xs,xs[i],e.tup h,by simp [hi]⟩,fun i H' x H2 e y hi=>⟨y.2 xs (e.tup h),y.1⟩,fun H' e=>⟨xs,e.tup h,aJ0 _⟩⟩
def gT (lo:Int) (n:Nat):List V:=(List.range n).map fun (i:Nat)=>V.int (lo+(i:Int))
theorem rH (lo:Int) (n:Nat):(gT lo n).length=n:=by unfold gT; rw [aJ3,List.length_range]
def CW (H1:Hp) (D:Addr) (n:Nat) (Pv:Nat->List V->Hp->Prop):Nat->Nat->List V->Hp->Prop:=fun i m acc H'=>m=n - i/\i<=n/\acc.length<=i/\a9 H1 H'/\H' D=some (.lst acc)/\Pv i acc H'
def rJ (H1:Hp) (D:Addr) (n:Nat) (Pv:Nat->List V->Hp->Prop) (i:Nat) (acc:List V) (v:V) (H5:Hp):Prop:=H5 D=some (.lst acc)/\acc.length < sizeLine/\∃ m',m' < n - i/\CW H1 D n Pv (i+1) m' (acc ++ [v]) (upd H5 D (.lst (acc ++ [v])))
def xD (H1:Hp) (D:Addr) (n:Nat) (Pv:Nat->List V->Hp->Prop) (i:Nat) (acc:List V) (H4:Hp):Prop:=∃ m',m' < n - i/\CW H1 D n Pv (i+1) m' acc H4
structure nG (H1:Hp) (D:Addr) (n i:Nat) (acc:List V) (H':Hp):Prop where
 lt:i < n
 few:acc.length<=i
 sz:n<=sizeLine
 same:a9 H1 H'
 new:H1 D=none
 acc:H' D=some (.lst acc)
theorem nG.yes {H1:Hp}{D:Addr}{n i:Nat}{acc:List V}{H' H5:Hp}{Pv:Nat->List V->Hp->Prop}{v:V} (c:nG H1 D n i acc H') (s:a9 H' H5) (p:Pv (i+1) (acc ++ [v]) (upd H5 D (.lst (acc ++ [v])))):rJ H1 D n Pv i acc v H5:=by
 refine⟨s _ _ c.acc,Nat.lt_of_le_of_lt c.few (aJ7 c.lt c.sz),_,?_,rfl,c.lt,?_,fun b o e=>?_,aV,p⟩
 ·have:=c.lt; omega
 ·rw [aJ4,aN6]; exact Nat.succ_le_succ c.few
 ·rw [aJ (cQ e c.new)]; exact s _ _ (c.same _ _ e)
theorem ac9 {H1:Hp}{J:It}{xs:List V}{g:TG}{tc:TT}{te:TE}{σ0:St}{Q:VK} (O:xC H1 J xs) (Pv:Nat->List V->Hp->Prop) (hn:xs.length<=sizeLine)
  (h0:∀ D,H1 D=none->Pv 0 [] (upd H1 D (.lst [])))
  (hs:∀ i x acc D H',xs[i]? = some x->nG H1 D xs.length i acc H'->Pv i acc H'->g x σ0 H' fun σ2 H3=>Wk σ0 σ2/\tc σ2 H3 fun b H4=>
   if b=true then te σ2 H4 fun v H5=>rJ H1 D xs.length Pv i acc v H5 else xD H1 D xs.length Pv i acc H4)
  (hd:∀ D acc H',H1 D=none->a9 H1 H'->H' D=some (.lst acc)->acc.length<=xs.length->Pv xs.length acc H'->Q (.ref D) H') :
  ∀ D,H1 D=none->∃ W:Nat->Nat->List V->Hp->Prop,(∃ m,W 0 m [] (upd H1 D (.lst [])))/\lA g tc te σ0 J D Q W:=by
 intro D hD
 refine⟨CW H1 D xs.length Pv,⟨xs.length,rfl,aN0 _,aJ0 _,aY hD _,aV,h0 D hD⟩,?_⟩
 rintro i m acc H' ⟨rfl,hi,ha,sm,hDa,p⟩
 refine⟨hDa,?_⟩
 by_cases hlt:i < xs.length
 ·refine .inr ⟨O.go i H' sm hlt,fun x H2 y=>?_⟩
  obtain ⟨hx,e⟩:=O.yld i H' x H2 sm y hlt
  subst e
  exact hs i x acc D H2 hx ⟨hlt,ha,hn,sm,hD,hDa⟩ p
 ·have e:i=xs.length:=by omega
  subst e
  exact .inl ⟨O.stop H' sm,hd D acc H' hD sm hDa ha p⟩
end L2
namespace Srt
open PySem PySem.W PyProof.Rows
abbrev G (p:Array Nat) (i:Nat):Nat:=p.getD i 0
theorem lC {p q:Array Nat}{i j:Nat} (h:p[i]? = q[j]?):G p i=G q j:=by
 unfold G; rw [aT2,aT2,h]
theorem rK {p:Array Nat}{i j:Nat} (hj:j<=p.size) (k:Nat):G (kas_rev p i j) k=if i<=k/\k < j then G p (i+j - 1 - k) else G p k:=by
 have e:=getElem?_mirror_all (i:=i) hj k
 unfold kas_rev
 by_cases h1:i<=k/\k < j
 ·rw [if_pos h1] at e ⊢; exact lC e
 ·rw [if_neg h1] at e ⊢; exact lC e
theorem ad0 {p:Array Nat}{src d:Nat} (hs:src < p.size) (hd:d<=src) (k:Nat):G (bubble p src d) k=if k=src - d then G p src else if src - d < k/\k<=src then G p (k - 1) else G p k:=by
 have e:=getElem?_bubble hs d hd k
 by_cases h1:k=src - d
 ·rw [if_pos h1] at e ⊢; exact lC e
 ·rw [if_neg h1] at e ⊢
  by_cases h2:src - d < k/\k<=src
  ·rw [if_pos h2] at e ⊢; exact lC e
  ·rw [if_neg h2] at e ⊢; exact lC e
def PP (n:Nat) (p:Array Nat):Prop:=p.toList.Perm (List.range n)
theorem PP.size {n:Nat}{p:Array Nat} (h:PP n p):p.size=n:=by
 have:=h.length_eq
 rw [List.length_range] at this
 simpa using this
theorem PP.lt {n:Nat}{p:Array Nat} (h:PP n p) {k:Nat} (hk:k < n):G p k < n:=by
 have hs:=h.size
 have hk':k < p.toList.length:=by simpa [hs] using hk
 have e:G p k=p.toList[k]:=by
  unfold G; rw [aT2]; simp [hs,hk]
 have m:p.toList[k] ∈ p.toList:=List.getElem_mem hk'
 rw [e]
 exact aT6.mp (h.mem_iff.mp m)
theorem PP.of {n:Nat}{p q:Array Nat} (h:PP n p) (e:q.Perm p):PP n q:=(Array.perm_iff_toList_perm.mp e).trans h
theorem PP.rev {n:Nat}{p:Array Nat} (h:PP n p) (i j:Nat):PP n (kas_rev p i j):=h.of (mirror_perm _ _ _ _)
theorem PP.bub {n:Nat}{p:Array Nat} (h:PP n p) (i j:Nat):PP n (bubble p i j):=h.of (bubble_perm _ _ _)
structure xE (c:Nat->Nat->Bool):Prop where
 asym:∀ {i j},c i j=true->c j i=false
 ntr:∀ {i j k},c i j=false->c j k=false->c i k=false
section
variable {c : Nat → Nat → Bool} (O : xE c)
def Le (c:Nat->Nat->Bool) (i j:Nat):Prop:=c j i=false
include O
theorem le_refl (i:Nat):Le c i i:=by
 unfold Le
 cases h:c i i with
 | false=>rfl
 | true=>have:=O.asym h; rw [h] at this; exact this
theorem le_trans {i j k:Nat} (h1:Le c i j) (h2:Le c j k):Le c i k:=O.ntr h2 h1
theorem nH {i j:Nat} (h:c i j=true):Le c i j:=O.asym h
omit O
def dZ (c:Nat->Nat->Bool) (p:Array Nat) (n:Nat):Prop:=∀ a b,a<=b->b < n->Le c (G p a) (G p b)
def i9 (c:Nat->Nat->Bool) (p:Array Nat) (n:Nat):Prop:=∀ a b,a<=b->b < n->Le c (G p b) (G p a)
include O
theorem ad1 {p:Array Nat}{n:Nat} (h:dZ c p n) (h1:1<=n) (hl:Le c (G p (n - 1)) (G p n)):dZ c p (n+1):=fun a b hab hb=>by
 by_cases hbn:b < n
 ·exact h a b hab hbn
 ·have e:b=n:=by omega
  subst e
  by_cases han:a=b
  ·subst han; exact le_refl O _
  ·exact le_trans O (h a (b - 1) (by omega) (by omega)) hl
theorem nI {p:Array Nat}{n:Nat} (h:i9 c p n) (h1:1<=n) (hl:Le c (G p n) (G p (n - 1))):i9 c p (n+1):=fun a b hab hb=>by
 by_cases hbn:b < n
 ·exact h a b hab hbn
 ·have e:b=n:=by omega
  subst e
  by_cases han:a=b
  ·subst han; exact le_refl O _
  ·exact le_trans O hl (h a (b - 1) (by omega) (by omega))
omit O
def bN {α:Type} (n:Nat) (c:Nat->Nat->Bool) (R:α->Prop):KasT α->Prop
 | .ret a=>R a
 | .ask i j k=>i < n/\j < n/\bN n c R (k (c i j))
theorem bN.mono {α:Type}{n:Nat}{R R':α->Prop} (h:∀ a,R a->R' a):∀ (t:KasT α),bN n c R t->bN n c R' t
 | .ret a,q=>h a q
 | .ask i j k,q=>⟨q.1,q.2.1,bN.mono h (k (c i j)) q.2.2⟩
theorem bN.bind {α β:Type}{n:Nat}{R:α->Prop}{R':β->Prop}{f:α->KasT β} (h:∀ a,R a->bN n c R' (f a)):∀ (t:KasT α),bN n c R t->bN n c R' (t.bind f)
 | .ret a,q=>h a q
 | .ask i j k,q=>⟨q.1,q.2.1,bN.bind h (k (c i j)) q.2.2⟩
theorem bN.run {α:Type}{n:Nat}{R:α->Prop}{I:Shared->Prop}{cmp:Nat->Nat->(Bool->Shared->Prop)->Shared->Prop}{Q:α->Shared->Prop}
  (hc:∀ i j C s,i < n->j < n->I s->(∀ s',I s'->C (c i j) s')->cmp i j C s) (hQ:∀ a s,R a->I s->Q a s):∀ (t:KasT α) (s:Shared),I s->bN n c R t->t.kasWp cmp Q s
 | .ret a,s,hI,q=>hQ a s q hI
 | .ask i j k,s,hI,q=>hc i j _ s q.1 q.2.1 hI fun s' hI'=>bN.run hc hQ (k (c i j)) s' hI' q.2.2
include O
theorem rL {n:Nat}{p:Array Nat} (hp:PP n p):∀ (f m:Nat),1<=m->m+f<=n->dZ c p m->bN n c (fun r=>m<=r/\r<=m+f/\dZ c p r/\(r < m+f->c (G p r) (G p (r - 1))=true)) (kas_asc p f m)
 | 0,m,_,_,h=>⟨aJ0 _,aJ0 _,h,fun z=>absurd z (aN2 _)⟩
 | f+1,m,h1,h2,h=>by
  refine⟨hp.lt (by omega),hp.lt (by omega),?_⟩
  by_cases hc:c (p.getD m 0) (p.getD (m - 1) 0)=true
  ·simp only [hc,if_true]
   exact⟨aJ0 _,by omega,h,fun _=>hc⟩
  ·have hc':c (p.getD m 0) (p.getD (m - 1) 0)=false:=aR7.mpr hc
   simp only [hc',aK3,aN5]
   refine bN.mono (fun r q=>⟨by omega,by omega,q.2.2.1,fun z=>q.2.2.2 (by omega)⟩) _ (rL hp f (m+1) (by omega) (by omega) (ad1 O h h1 hc'))
omit O
def iO (c:Nat->Nat->Bool) (i j:Nat):Prop:=Le c i j/\Le c j i
include O
theorem rM {p q:Array Nat}{n:Nat} (h:i9 c p n) (e:∀ k,k < n->iO c (G q k) (G p k)):i9 c q n:=fun a b hab hb=>
 le_trans O (e b hb).1 (le_trans O (h a b hab hb) (e a (by omega)).2)
theorem xF {n m i:Nat}{p:Array Nat} (hp:PP n p) (hm:m<=n) (h:∀ a,i<=a->a < m->iO c (G p a) (G p (m - 1))):∀ k,iO c (G (kas_rev p i m) k) (G p k):=fun k=>by
 rw [rK (by rw [hp.size]; exact hm)]
 by_cases hk:i<=k/\k < m
 ·rw [if_pos hk]
  have h1:=h (i+m - 1 - k) (by omega) (by omega)
  have h2:=h k hk.1 hk.2
  exact⟨le_trans O h1.1 h2.2,le_trans O h2.1 h1.2⟩
 ·rw [if_neg hk]; exact⟨le_refl O _,le_refl O _⟩
omit O
def DI (c:Nat->Nat->Bool) (n:Nat) (p:Array Nat) (m q:Nat):Prop:=PP n p/\1<=m/\m<=n/\i9 c p m/\q+1<=m/\∀ a,m - (q+1)<=a->a < m->iO c (G p a) (G p (m - 1))
include O
theorem xG {n m q:Nat}{p:Array Nat} (h:DI c n p m q):PP n (kas_rev p (m - (q+1)) m)/\∀ k,iO c (G (kas_rev p (m - (q+1)) m) k) (G p k):=
 ⟨h.1.rev _ _,xF O h.1 h.2.2.1 h.2.2.2.2.2⟩
theorem nJ {n:Nat}:∀ (f:Nat) (p:Array Nat) (m q:Nat),m+f<=n->DI c n p m q->bN n c (fun r=>DI c n r.1 r.2.1 r.2.2) (kas_desc f p m q)
 | 0,p,m,q,_,h=>h
 | f+1,p,m,q,hf,h=>by
  have hp:=h.1
  have h1:=h.2.1
  refine⟨hp.lt (by omega),hp.lt (by omega),?_⟩
  by_cases hc:c (p.getD m 0) (p.getD (m - 1) 0)=true
  ·simp only [hc,if_true]
   have dn:i9 c p (m+1):=nI O h.2.2.2.1 h1 (nH O hc)
   by_cases hq:q > 0
   ·simp only [hq,if_true]
    obtain ⟨pr,er⟩:=xG O h
    refine nJ f _ (m+1) 0 (by omega) ⟨pr,by omega,by omega,rM O dn fun k _=>er k,by omega,fun a h1 h2=>?_⟩
    have e:a=m+1 - 1:=by omega
    rw [e]; exact⟨le_refl O _,le_refl O _⟩
   ·simp only [hq,aN5]
    refine nJ f p (m+1) 0 (by omega) ⟨hp,by omega,by omega,dn,by omega,fun a h1 h2=>?_⟩
    have e:a=m+1 - 1:=by omega
    rw [e]; exact⟨le_refl O _,le_refl O _⟩
  ·have hc':c (p.getD m 0) (p.getD (m - 1) 0)=false:=aR7.mpr hc
   simp only [hc',aK3,aN5]
   refine⟨hp.lt (by omega),hp.lt (by omega),?_⟩
   by_cases hd:c (p.getD (m - 1) 0) (p.getD m 0)=true
   ·simp only [hd,if_true]
    exact h
   ·have hd':c (p.getD (m - 1) 0) (p.getD m 0)=false:=aR7.mpr hd
    simp only [hd',aK3,aN5]
    have ee:iO c (G p (m - 1)) (G p m):=⟨hc',hd'⟩
    refine nJ f p (m+1) (q+1) (by omega) ⟨hp,by omega,by omega,nI O h.2.2.2.1 h1 ee.2,by have:=h.2.2.2.2.1; omega,fun a h1 h2=>?_⟩
    rw [Nat.add_sub_cancel]
    by_cases ha:a=m
    ·rw [ha]; exact⟨le_refl O _,le_refl O _⟩
    ·have z:=h.2.2.2.2.2 a (by omega) (by omega)
     exact⟨le_trans O z.1 ee.1,le_trans O ee.2 z.2⟩
omit O
def CI (c:Nat->Nat->Bool) (n:Nat) (r:Nat × Array Nat):Prop:=PP n r.2/\1<=r.1/\r.1<=n/\dZ c r.2 r.1
include O
theorem xH {n m:Nat}{p:Array Nat} (hp:PP n p) (h1:1<=m) (hm:m<=n) (h:i9 c p m):bN n c (CI c n) (kas_tail3 m n p):=by
 have ha:dZ c (kas_rev p 0 m) m:=fun a b hab hb=>by
  rw [rK (by rw [hp.size]; exact hm),rK (by rw [hp.size]; exact hm),if_pos ⟨aN0 _,by omega⟩,if_pos ⟨aN0 _,hb⟩]
  exact h _ _ (by omega) (by omega)
 refine bN.bind (R:=fun r=>m<=r/\r<=m+(n - m)/\dZ c (kas_rev p 0 m) r/\_) (fun r q=>?_) _ (rL O (hp.rev 0 m) (n - m) m h1 (by omega) ha)
 exact⟨hp.rev _ _,by have:=q.1; omega,by have:=q.2.1; omega,q.2.2.1⟩
theorem xI {n m:Nat}{p:Array Nat} (hp:PP n p) (h1:1<=m) (hm:m+1<=n) (h:i9 c p (m+1)):bN n c (CI c n) (kas_descPart m n p):=by
 refine bN.bind (R:=fun r=>DI c n r.1 r.2.1 r.2.2) (fun r q=>?_) _ (nJ O (n - (m+1)) p (m+1) 0 (by omega) ⟨hp,by omega,hm,h,by omega,fun a h1 h2=>?_⟩)
 ·by_cases hq:r.2.2 > 0
  ·rw [if_pos hq]
   obtain ⟨pr,er⟩:=xG O q
   exact xH O pr q.2.1 q.2.2.1 (rM O q.2.2.2.1 fun k _=>er k)
  ·rw [if_neg hq]
   exact xH O q.1 q.2.1 q.2.2.1 q.2.2.2.1
 ·have e:a=m+1 - 1:=by omega
  rw [e]; exact⟨le_refl O _,le_refl O _⟩
theorem ad2 {n:Nat}{p:Array Nat} (hp:PP n p) (hn:1<=n):bN n c (CI c n) (kas_count n p):=by
 have a1:dZ c p 1:=fun a b hab hb=>by
  have e1:a=0:=by omega
  have e2:b=0:=by omega
  rw [e1,e2]; exact le_refl O _
 refine bN.bind (R:=fun r=>1<=r/\r<=1+(n - 1)/\dZ c p r/\(r < 1+(n - 1)->c (G p r) (G p (r - 1))=true)) (fun m q=>?_) _ (rL O hp (n - 1) 1 (aJ0 _) (by omega) a1)
 obtain ⟨q1,q2,q3,q4⟩:=q
 by_cases hm:(m == n)=true
 ·rw [if_pos hm]
  exact⟨hp,q1,by omega,q3⟩
 ·rw [if_neg hm]
  have hne:m ≠ n:=by simpa using hm
  have hc:=q4 (by omega)
  by_cases h1:m > 1
  ·rw [if_pos h1]
   refine⟨hp.lt (by omega),hp.lt (by omega),?_⟩
   by_cases hd:c (p.getD 0 0) (p.getD (m - 1) 0)=true
   ·simp only [hd,if_true]
    exact⟨hp,q1,by omega,q3⟩
   ·have hd':c (p.getD 0 0) (p.getD (m - 1) 0)=false:=aR7.mpr hd
    simp only [hd',aK3,aN5]
    have eq:∀ a,0<=a->a < m->iO c (G p a) (G p (m - 1)):=fun a _ ha=>⟨q3 a (m - 1) (by omega) (by omega),le_trans O hd' (q3 0 a (aN0 _) ha)⟩
    have er:=xF O hp (by omega:m<=n) eq
    refine xI O (hp.rev 0 m) q1 (by omega) (rM O (p:=p) ?_ fun k _=>er k)
    refine nI O (fun a b hab hb=>?_) q1 (nH O hc)
    exact le_trans O (eq b (aN0 _) hb).1 (eq a (aN0 _) (by omega)).2
  ·rw [if_neg h1]
   have e:m=1:=by omega
   subst e
   refine xI O hp (aJ0 _) (by omega) (nI O (fun a b hab hb=>?_) (aJ0 _) (nH O hc))
   have e1:a=0:=by omega
   have e2:b=0:=by omega
   rw [e1,e2]; exact le_refl O _
theorem rN {n k:Nat}{p:Array Nat} (hp:PP n p) (hk:k < n) (ha:dZ c p k):∀ (f l r:Nat),l<=r->r<=k->r - l<=f->(∀ a,a < l->Le c (G p a) (G p k))->(∀ a,r<=a->a < k->Le c (G p k) (G p a))->
  bN n c (fun l=>l<=k/\(∀ a,a < l->Le c (G p a) (G p k))/\∀ a,l<=a->a < k->Le c (G p k) (G p a)) (kas_place p k f l r)
 | 0,l,r,h1,h2,h3,hl,hr=>⟨by omega,hl,fun a h4 h5=>hr a (by omega) h5⟩
 | f+1,l,r,h1,h2,h3,hl,hr=>by
  unfold kas_place
  by_cases hlr:l >= r
  ·rw [if_pos hlr]
   exact⟨by omega,hl,fun a h4 h5=>hr a (by omega) h5⟩
  ·rw [if_neg hlr]
   refine⟨hp.lt hk,hp.lt (by omega),?_⟩
   by_cases hc:c (p.getD k 0) (p.getD ((l+r) / 2) 0)=true
   ·simp only [hc,if_true]
    exact rN hp hk ha f l ((l+r) / 2) (by omega) (by omega) (by omega) hl fun a h4 h5=>le_trans O (nH O hc) (ha _ _ h4 h5)
   ·have hc':c (p.getD k 0) (p.getD ((l+r) / 2) 0)=false:=aR7.mpr hc
    simp only [hc',aK3,aN5]
    exact rN hp hk ha f ((l+r) / 2+1) r (by omega) h2 (by omega) (fun a h4=>le_trans O (ha a ((l+r) / 2) (by omega) (by omega)) hc') hr
theorem xJ {n:Nat}:∀ (f:Nat) (p:Array Nat) (k:Nat),PP n p->k+f<=n->dZ c p k->bN n c (fun q=>PP n q/\dZ c q (k+f)) (kas_bin f p k)
 | 0,p,k,hp,_,h=>⟨hp,h⟩
 | f+1,p,k,hp,hk,h=>by
  refine bN.bind (R:=fun l=>l<=k/\(∀ a,a < l->Le c (G p a) (G p k))/\∀ a,l<=a->a < k->Le c (G p k) (G p a)) (fun l q=>?_) _ (rN O hp (by omega) h k 0 k (aN0 _) (aJ0 _) (by omega) (fun a z=>absurd z (Nat.not_lt_zero _)) fun a h1 h2=>absurd h2 (by omega))
  obtain ⟨q1,q2,q3⟩:=q
  have e:∀ a,G (bubble p k (k - l)) a=if a=l then G p k else if l < a/\a<=k then G p (a - 1) else G p a:=fun a=>by
   rw [ad0 (by rw [hp.size]; omega) (by omega),show k - (k - l)=l by omega]
  refine bN.mono (fun r z=>⟨z.1,by rw [show k+(f+1)=k+1+f by omega]; exact z.2⟩) _ (xJ f _ (k+1) (hp.bub _ _) (by omega) fun a b hab hb=>?_)
  rw [e,e]
  by_cases ha:a=l
  ·rw [if_pos ha]
   by_cases hb':b=l
   ·rw [if_pos hb']; exact le_refl O _
   ·rw [if_neg hb',if_pos (by omega)]; exact q3 _ (by omega) (by omega)
  ·rw [if_neg ha]
   by_cases ha2:l < a/\a<=k
   ·rw [if_pos ha2,if_neg (by omega),if_pos (by omega)]
    exact h _ _ (by omega) (by omega)
   ·rw [if_neg ha2]
    by_cases hb':b=l
    ·rw [if_pos hb']; exact q2 a (by omega)
    ·rw [if_neg hb']
     by_cases hb2:l < b/\b<=k
     ·rw [if_pos hb2]; exact h _ _ (by omega) (by omega)
     ·rw [if_neg hb2]; exact h _ _ hab (by omega)
theorem ad3 {n:Nat} (hn:1<=n):bN n c (fun q=>PP n q/\dZ c q n) (kas_sort n):=by
 have hp:PP n (List.toArray (List.range n)):=by unfold PP; simp
 refine bN.bind (R:=CI c n) (fun r q=>?_) _ (ad2 O hp hn)
 obtain ⟨q1,q2,q3,q4⟩:=q
 by_cases h:r.1 < n
 ·rw [if_pos h]
  have e:max r.1 1=r.1:=by omega
  rw [e]
  exact bN.mono (fun p z=>⟨z.1,by rw [show r.1+(n - r.1)=n by omega] at z; exact z.2⟩) _ (xJ O (n - r.1) r.2 r.1 q1 (by omega) q4)
 ·rw [if_neg h]
  have e:r.1=n:=by omega
  exact⟨q1,by rw [e] at q4; exact q4⟩
end
end Srt
namespace L2
open PySem PySem.Spec PyProof.Rows
theorem b8.there {P:Program}{w:World}{H:Hp}{h:Heap}{a:Addr}{o:HO} (x:b8 P w H h a o):∃ u,h.get? a=some u:=by
 cases o with
 | lst xs=>obtain ⟨_,_,_,_,e⟩:=x; exact⟨_,e⟩
 | tup xs=>obtain ⟨_,_,_,o,e,_⟩:=x; exact⟨_,e⟩
 | dK kvs=>obtain ⟨_,_,_,_,o,_,_,e,_⟩:=x; exact⟨_,e⟩
 | dT kvs=>obtain ⟨_,_,_,_,o,_,_,e,_⟩:=x; exact⟨_,e⟩
 | set S n=>obtain ⟨o,_,_,_,e,_⟩:=x; exact⟨_,e⟩
 | ins C dx fs=>obtain ⟨_,_,_,e,_⟩:=x; exact⟨_,e⟩
 | own y=>exact x
 | xd fs=>obtain ⟨_,⟨_,_,_,e,_⟩,_⟩:=x; exact⟨_,e⟩
 | rng lo hi=>obtain ⟨_,_,_,e⟩:=x; exact⟨_,e⟩
 | frz ob u=>obtain ⟨e,_⟩:=x; exact⟨_,e⟩
 | tbl ps=>exact⟨_,(show h.get? a=some _ from x)⟩
 | met f y=>exact⟨_,(show h.get? a=some _ from x)⟩
 | ext φ=>obtain ⟨_,z,_⟩:=x; exact z
section
variable {X : Cx} {pins : List (Addr × Obj)} {σ : St} {H : Hp} {s : Shared} {h' : Heap} {a : Addr} {o : HO} {t' : Nat}
theorem a5.laidF (I:a5 X pins σ H s) (hn:s.heap.get? a=none) (k:∀ b u,b ≠ X.env.locals->s.heap.get? b=some u->h'.get? b=some u) (ns:∀ m,s.heap.Ns X.env.locals m->h'.Ns X.env.locals m)
  (new:b8 X.prog X.w (upd H a o) h' a o):H a=none/\a5 X pins σ (upd H a o) { s with heap:=h',toks:=t' }:=by
 have hHn:H a=none:=by
  cases q:H a with
  | none=>rfl
  | some u=>obtain ⟨z,e⟩:=(I.hok a u q).there; rw [hn] at e; cases e
 have ne:∀ b u,s.heap.get? b=some u->b ≠ a:=fun b u e z=>by rw [z,hn] at e; cases e
 have hL:=I.free
 refine⟨hHn,I.step (g':=s.gens) (d':=s.drawn) (ch:=[]) (fun _ z=>nomatch z) (fun b o' h1 _ _ e _=>k b o' h1 e) (fun b o' h1 _ _ e _=>⟨o'.slots,k b o' h1 e⟩) (fun b o' _ e n=>by rw [aJ (ne b o' e)]; exact n) (fun b o' _ e=>?_)
  (fun b xs q=>by rw [aJ (cQ q hHn)]; exact q) (fun b u xs q=>by rw [aJ (cQ q hHn)]; exact q) (fun b ps q=>⟨#[],by rw [aJ (cQ q hHn),q]; simp⟩) ns (fun b u q=>?_) I.bare⟩
 ·by_cases hb:b=X.env.locals
  ·obtain ⟨m,hm,_⟩:=I.loc
   obtain ⟨o2,_,_,e2,_⟩:=ns m hm
   exact⟨o2,by rw [hb]; exact e2⟩
  ·exact⟨o',k b o' hb e⟩
 ·by_cases hb:b=a
  ·subst hb; rw [aV] at q; cases q; exact new
  ·rw [aJ hb] at q
   refine (I.hok b u q).stay (fun c v hc e=>k c v ?_ e) (fun c e=>by rw [aJ (cQ e hHn)]; exact e) fun c xs e=>by rw [aJ (cQ e hHn)]; exact e
   rcases hc with z | z
   ·rw [z]; intro y; rw [y,hL] at q; cases q
   ·intro y; rw [y,hL] at z; cases z
theorem a5.newsAll (I:a5 X pins σ H s) {news:List (Addr × Obj)}{m:Str->Option Value} (hs:∀ p ∈ kK X.base s.heap X.env.locals,p ∈ news) (F:Fr X.base X.env.locals h' m) (N:News X.base X.env.locals h' news) :
  ∀ b o,b ≠ X.env.locals->s.heap.get? b=some o->h'.get? b=some o:=fun b o h1 e=>by
 cases q:X.base.get? b with
 | some u=>
  have:=I.bk b u q
  rw [e] at this; cases this
  exact F.keep b _ q
 | none=>exact (N (b,o) (hs _ (uQ h1 q e))).1
end
theorem ad4 {α:Type}{d:α} (l:List α) {p:List Nat} (h:p.Perm (List.range l.length)):(p.map fun i=>l.getD i d).Perm l:=by
 have e:(List.range l.length).map (fun i=>l.getD i d)=l:=by
  apply List.ext_getElem
  ·simp
  ·intro i h1 h2
   simp at h1
   simp [h1]
 have:=h.map fun i=>l.getD i d
 rw [e] at this
 exact this
theorem rO:∀ {xs:List V}{us:List Value} (i:Nat),i < xs.length->aG xs us->aO (xs.getD i .non) (us.getD i Value.none)
 | _,_,_,h,.nil=>by simp at h
 | _,_,0,_,.cons r _=>by simpa using r
 | _,_,i+1,h,.cons _ t=>by
  have:=rO i (by simpa using h) t
  simpa using this
theorem xK {xs:List V}{us:List Value} (r:aG xs us):∀ {p:List Nat},(∀ i ∈ p,i < xs.length)->aG (p.map fun i=>xs.getD i .non) (p.map fun i=>us.getD i Value.none)
 | [],_=>.nil
 | i :: p,h=>.cons (rO i (h i aK1) r) (xK r fun j hj=>h j (aL0 _ hj))
theorem rP {α:Type}:∀ l:List α,(l.zip l).map (·.2)=l
 | []=>rfl
 | a :: l=>by
  show a :: ((l.zip l).map (·.2))=a :: l
  rw [rP l]
theorem ad5 {prog:Program}{w:World}{A:Around}{E:Value->Shared->Prop}{s:Shared}{a:Addr}{vs:List Value}{n:Nat}{P:PySem.Fin->Shared->Prop} (e:s.heap.get? a=some (seqObj "list" vs.toArray n)) (few:vs.length < 2)
  (q:P (.done (.ret .none)) { s with heap:=sortedHeap s.heap a vs vs.toArray }):wpAny (model prog w) A (Builtin.«list.sort» ⟨[.ref a],[]⟩) P E s:=by
 have big:vs.length<=sizeLine:=aM8 (aP3 few) (by decide)
 have la:=aK2 e
 have c:vs.toArray.size < 2:=by simpa using few
 have same:(arrOf (SortSt.mk' general' (vs.toArray.zip vs.toArray) #[] 7 none)).map (·.2)=vs.toArray:=by
  change (vs.toArray.zip vs.toArray).map (·.2)=vs.toArray
  apply Array.ext'
  simpa using rP vs
 obtain ⟨k,ek⟩:∃ k,(s.heap.update a (Obj.mapSeq fun _=>#[])).get? a=some (seqObj "list" #[] k):=⟨_,get?_update_seq e fun _=>#[]⟩
 have there:(((s.heap.update a (Obj.mapSeq fun _=>#[])).push (seqObj "tuple" vs.toArray 0)).push (seqObj "list" #[] 0)).get? a=some (seqObj "list" #[] k):=
  aI8 _ (aI8 _ ek)
 rw [list_sort_plain]
 apply aI7
 apply listItems_at e rfl
 apply aI7
 refine listUpdate_at e rfl ?_ (by simpa using big) (aN0 _)
 apply aI7
 apply seqEpoch_at ek rfl
 apply aI7
 refine wpAny_newTuple ?_ big
 apply aI7
 refine wpAny_newList ?_ (aN0 _)
 apply aQ6
 simp only [c,if_true,StateT.run_pure]
 apply aI7
 apply aJ1
 apply aI7
 apply aJ1
 apply aI7
 apply seqEpoch_at there rfl
 apply aI7
 refine listUpdate_at there rfl ?_ (aN0 _) (by rw [same,aI9]; exact Nat.le_succ_of_le big)
 rw [same]
 simp only [bne_self_eq_false,aK3,aN5]
 exact aJ1 q
theorem ad6 {prog:Program}{w:World}{A:Around}{E:Value->Shared->Prop}{s:Shared}{l:Addr}{vs:List Value}{Q:Value->Shared->Prop} (hl:s.heap.IsList l vs.toArray) (few:vs.length < 2)
  (q:Q (.ref (s.heap.objs.size+1)) { s with heap:=sortedAll s.heap vs vs.toArray }):wpAny (model prog w) A (call (.builtin "sorted") [.ref l]) Q E s:=by
 have big:vs.length<=sizeLine:=aM8 (aP3 few) (by decide)
 apply Calls.call_function_entry kind_sorted plain_sorted entry_sorted (args_sorted1 _)
 simp only [Builtin.«sorted»]
 apply aI7 (m:=checkCount "sorted" 1 1 _)
 apply aJ1
 apply aI7
 refine collect_list hl ?_ big
 apply aI7
 refine wpAny_newList ?_ big
 have one:((s.heap.push (seqObj "list" #[] 0)).update s.heap.objs.size (Obj.mapSeq (· ++ vs.toArray))).objs.size=s.heap.objs.size+1:=(Heap.size_update _ _ _).trans (size_push' _ _)
 have at1:(((s.heap.push (seqObj "list" #[] 0)).update s.heap.objs.size (Obj.mapSeq (· ++ vs.toArray))).push (seqObj "list" vs.toArray 0)).get? (s.heap.objs.size+1)=some (seqObj "list" vs.toArray 0):=one ▸ aJ9 _ rfl
 change wpAny _ _ _ _ _ { s with heap:=((s.heap.push (seqObj "list" #[] 0)).update s.heap.objs.size (Obj.mapSeq (· ++ vs.toArray))).push (seqObj "list" vs.toArray 0) }
 rw [one]
 apply aI7
 apply aQ6
 refine aP9 slot_list_sort ⟨_,at1,rfl⟩ entry_list_sort ?_ (args_list_sort _)
 refine ad5 at1 few ⟨_,rfl,?_⟩
 exact aJ1 ⟨_,rfl,q⟩
def ad7 (K:PySem.W.Frag):List V->Hp->VK->Prop:=fun xs H Q=>∃ a ns,xs = [.ref a]/\aK K H a (ns.map V.int)/\ns.length < 64/\∀ l (ms:List Int),H l=none->ms.Perm ns->ms.Pairwise (· <= ·)->Q (.ref l) (upd H l (.lst (ms.map V.int)))
theorem ad8 {X:Cx}:bU X (.builtin "sorted") (ad7 X.K):=by
 intro pins s σ H xs us Q I r h
 obtain ⟨a,ns,rfl,hs,h64,q⟩:=h
 obtain ⟨u,rfl,ru⟩:=eC r
 cases ru
 obtain ⟨its,rv,p,hz⟩:=I.list hs
 have hl:=rv.length
 rw [aJ3] at hl
 refine sorted_ints p.isList (mR rv) (by omega) fun out ns' a1 a2 a3=>?_
 obtain ⟨e,he⟩:=sortedAll_at s.heap its out
 have hn:s.heap.objs.size<=s.heap.objs.size+1:=Nat.le_succ _
 have hlen:ns'.length=ns.length:=a2.length_eq
 refine⟨.ref (s.heap.objs.size+1),upd H (s.heap.objs.size+1) (.lst (ns'.map V.int)),I.laid (t':=s.toks) (fun _ _=>sortedAll_old) hn ⟨?_,out.toList,e,mT a1,by simpa using he⟩,rfl,q _ ns' (I.hok.fresh hn) a2 a3⟩
 rw [aJ3,hlen]
 exact aP3 (mV (by omega))
theorem xL:∀ {a b:List Int},HT.dX a b=true->HT.dX b a=false
 | [],[],h=>by cases h
 | [],_ :: _,_=>rfl
 | _ :: _,[],h=>by cases h
 | x :: xs,y :: ys,h=>by
  rw [HT.kY] at h ⊢
  by_cases e:x=y
  ·rw [if_pos e] at h; rw [if_pos e.symm]; exact xL h
  ·rw [if_neg e] at h; rw [if_neg (Ne.symm e)]
   have:=aS8 h
   exact aK5 (by omega)
theorem xM:∀ {a b c:List Int},HT.dX a b=false->HT.dX b c=false->HT.dX a c=false
 | [],[],c,_,h=>h
 | [],_ :: _,_,h,_=>by cases h
 | _ :: _,[],[],_,_=>rfl
 | _ :: _,[],_ :: _,_,h=>by cases h
 | _ :: _,_ :: _,[],_,_=>rfl
 | x :: xs,y :: ys,z :: zs,h1,h2=>by
  rw [HT.kY] at h1 h2 ⊢
  by_cases e1:x=y
  ·rw [if_pos e1] at h1
   by_cases e2:y=z
   ·rw [if_pos e2] at h2; rw [if_pos (e1.trans e2)]; exact xM h1 h2
   ·rw [if_neg e2] at h2; rw [if_neg (by rw [e1]; exact e2)]; rw [e1]; exact h2
  ·rw [if_neg e1] at h1
   have k1:=aT8 h1
   by_cases e2:y=z
   ·rw [<- e2,if_neg e1]; exact h1
   ·rw [if_neg e2] at h2
    have k2:=aT8 h2
    rw [if_neg (by omega)]
    exact aK5 (by omega)
def xN (H:Hp):V->List Int
 | .ref b=>match H b with
  | some (.tup xs)=>xs.map fun x=>match x with
   | .int i=>i
   | _=>0
  | _=>[]
 | _=>[]
section
variable {prog : Program} {w : World} {A : Around} {s : Shared} {Q : Bool → Shared → Prop}
theorem xO:∀ {us ws:List Value}{xs ys:List Int} (i:Nat),IntsAre us xs->IntsAre ws ys->Q (HT.dX xs ys) s->PySem.W.KatLex prog w A true (decide (us.length < ws.length)) Q (us.zip ws) i s
 | _,_,_,_,_,.nil,.nil,h=>h
 | _,_,_,_,_,.nil,.cons _ _ _,h=>h
 | _,_,_,_,_,.cons _ _ _,.nil,h=>h
 | _,_,_,_,i,.cons (vs:=us) x t hx,.cons (vs:=ws) y u hy,h=>by
  refine PySem.W.kat_cons (wpAny_eqBool_int ?_)
  rw [HT.kY] at h
  by_cases e:x=y
  ·rw [if_pos e] at h
   have eb:(x == y)=true:=by simpa using e
   rw [eb]
   refine PySem.W.kat_yes ?_
   have e2:decide ((Value.int x t :: us).length < (Value.int y u :: ws).length)=decide (us.length < ws.length):=by simp
   rw [e2]
   exact xO (i+1) hx hy h
  ·rw [if_neg e] at h
   have eb:(x == y)=false:=by simpa using e
   rw [eb]
   refine PySem.W.kat_no ?_
   cases hi:(true && i == 0) with
   | true=>exact PySem.W.kat_lt_int h
   | false=>exact PySem.W.kat_one _ _ (lt_int h)
end
def xP (K:PySem.W.Frag):List V->Hp->VK->Prop:=fun xs H Q=>∃ (a:Addr) (ys:List V) (key:V->List Int),xs = [.ref a]/\aK K H a ys/\ys.length < 64/\(∀ y ∈ ys,∃ b,y = .ref b/\aI K H b ((key y).map V.int)/\key y ≠ [])/\
 ∀ l (zs:List V),H l=none->zs.Perm ys->zs.Pairwise (fun u v=>HT.dX (key v) (key u)=false)->Q (.ref l) (upd H l (.lst zs))
theorem ad9 {c:Nat->Nat->Bool}{R:V->V->Prop}{ys:List V}{p:Array Nat}{n:Nat} (hp:Srt.PP n p) (ha:Srt.dZ c p n) (hR:∀ i j,Srt.Le c i j->R (ys.getD i .non) (ys.getD j .non)) :
  (p.toList.map fun i=>ys.getD i .non).Pairwise R:=by
 rw [aR8,List.pairwise_iff_getElem]
 intro i j hi hj hij
 have hs:=hp.size
 have h1:i < n:=by rw [<- hs]; simpa using hi
 have h2:j < n:=by rw [<- hs]; simpa using hj
 have q:=ha i j (aP3 hij) h2
 have e:∀ k (hk:k < p.toList.length),Srt.G p k=p.toList[k]:=fun k hk=>by
  have hk':k < p.size:=by simpa using hk
  unfold Srt.G; rw [aT2]; simp [hk']
 rw [e i hi,e j hj] at q
 exact hR _ _ q
theorem ae0 {X:Cx}:bU X (.builtin "sorted") (xP X.K):=by
 intro pins s σ H xs us Q I r h
 obtain ⟨a,ys,key,rfl,hs,h64,hk,q⟩:=h
 obtain ⟨u,rfl,ru⟩:=eC r
 cases ru
 obtain ⟨its,rv,p,hz⟩:=I.list hs
 have hl:=rv.length
 by_cases h2:its.length < 2
 ·
  refine ad6 p.isList h2 ?_
  obtain ⟨e,he⟩:=sortedAll_at s.heap its its.toArray
  have hn:s.heap.objs.size<=s.heap.objs.size+1:=Nat.le_succ _
  refine⟨.ref (s.heap.objs.size+1),upd H (s.heap.objs.size+1) (.lst ys),I.laid (t':=s.toks) (fun _ _=>sortedAll_old) hn ⟨hz,its,e,rv,he⟩,rfl,q _ ys (I.hok.fresh hn) (List.Perm.refl _) ?_⟩
  match ys,hl with
  | [],_=>exact List.Pairwise.nil
  | [_],_=>exact aL8 _ _
  | _ :: _ :: _,hl=>simp at hl; omega
 ·obtain ⟨m,F⟩:=I.fr
  have hL:∀ {b:Addr}{k:List Int},aI X.K H b (k.map V.int)->b ≠ X.env.locals:=fun {b k} z e=>by
   obtain ⟨its',_,⟨ob,e1,c1,_⟩,_⟩:=I.tuple z
   obtain ⟨m',⟨o',es',ep',e2,d2,_⟩,_⟩:=I.loc
   rcases z with (z | ⟨_,z⟩) | ⟨o3,its3,n3,z3,zc,zd,_⟩
   ·rw [e,I.free] at z; cases z
   ·rw [e,I.free] at z; cases z
   ·have:=I.kIn b o3 z3
    rw [e,e2] at this
    cases this
    rw [d2] at zd; cases zd
  refine PySem.W.kat_sorted F (Q6 (g:=X.base) (h:=s.heap) (L:=X.env.locals)) p.isList (by omega) (by omega) fun D e1 h' F' N' hD=>?_
  have keep:=I.newsAll (fun p hp=>aL0 _ hp) F' N'
  have look:∀ i,i < ys.length->∃ (b:Addr) (ob:Obj) (us:List Value) (n:Nat),its.getD i Value.none = .ref b/\h'.get? b=some ob/\ob.cls = .type "tuple"/\ob.data = .seq us.toArray n/\IntsAre us (key (ys.getD i .non))/\key (ys.getD i .non) ≠ []:=fun i hi=>by
   have hy:ys.getD i .non ∈ ys:=by
    rw [aL2,aJ2 hi]; exact List.getElem_mem hi
   obtain ⟨b,eb,sq,ne⟩:=hk _ hy
   have rr:=rO i hi rv
   rw [eb] at rr
   have rr:its.getD i Value.none = .ref b:=rr
   obtain ⟨us,ru,⟨ob,e1,c1,n1,d1⟩,_⟩:=I.tuple sq
   exact⟨b,ob,us,n1,rr,keep b ob (hL sq) e1,c1,d1,mR ru,ne⟩
  have firsts:∀ {xs:List V}{vs:List Value},aG xs vs->(∀ y ∈ xs,∃ b,y = .ref b/\aI X.K H b ((key y).map V.int)/\key y ≠ [])->∃ fs:List Value,PySem.W.KatTups h' vs fs/\fs.length=vs.length/\∀ v ∈ fs,∃ i t,v=Value.int i t:=by
   intro xs vs r
   induction r with
   | nil=>intro _; exact⟨[],PySem.W.KatTups.nil,rfl,fun _ z=>nomatch z⟩
   | @cons x v xs vs rx rt ih=>
    intro hh
    obtain ⟨fs,t1,t2,t3⟩:=ih fun y hy=>hh y (aL0 _ hy)
    obtain ⟨b,eb,sq,ne⟩:=hh x aK1
    subst eb
    cases rx
    obtain ⟨us,ru,⟨ob,e1,c1,n1,d1⟩,_⟩:=I.tuple sq
    have ia:=mR ru
    generalize key (V.ref b)=kk at ia ne
    cases ia with
    | nil=>exact absurd rfl ne
    | @cons n t vs0 ns0 ht=>
     exact⟨Value.int n t :: fs,PySem.W.KatTups.cons (keep b ob (hL sq) e1) c1 d1 (by simp) t1,by simp [t2],fun v hv=>(aK0.mp hv).elim (fun z=>⟨n,t,z⟩) (t3 v)⟩
  obtain ⟨fs,t1,t2,t3⟩:=firsts rv hk
  refine PySem.W.kat_kind (T:=.type "int") t1 (by omega) (fun v hv=>?_) (by decide) ?_
  ·obtain ⟨i,t,rfl⟩:=t3 v hv
   exact PySem.W.Looks.now
  let c:Nat->Nat->Bool:=fun i j=>HT.dX (key (ys.getD i .non)) (key (ys.getD j .non))
  have O:Srt.xE c:=⟨fun h=>xL h,fun h1 h2=>xM h1 h2⟩
  have ok:=Srt.ad3 (n:=its.length) O (by omega)
  refine Srt.bN.run (I:=fun s'=>s'={ s with heap:=h' }) (fun i j C s' hi hj hI hC=>?_) (fun pa s' hR hI=>?_) _ _ rfl ok
  ·subst hI
   obtain ⟨b1,o1,u1,n1,g1,g2,_,g4,g5,_⟩:=look i (by omega)
   obtain ⟨b2,o2,u2,n2,k1,k2,_,k4,k5,_⟩:=look j (by omega)
   show wpAny _ _ (keyLt' (tuples' (Value.type "int" != Value.type "tuple")) (its.getD i Value.none) (its.getD j Value.none)) _ _ _
   rw [g1,k1]
   have eT:(Value.type "int" != Value.type "tuple")=true:=by decide
   rw [eT]
   refine PySem.W.kat_lt g2 g4 k2 k4 ?_
   have:=xO (prog:=X.prog) (w:=X.w) (A:=X.A.in1.in1) (s:={ s with heap:=h' }) (Q:=C) 0 g5 k5 (hC _ rfl)
   simpa using this
  ·subst hI
   obtain ⟨hp,hasc⟩:=hR
   refine PySem.W.KasFin.intro F' N' (PySem.W.UpdF.head fun p hp=>aM4 (hD p hp)) fun h2 cc F2 N2=>?_
   have keep2:=I.newsAll (fun p hp=>aL0 _ hp) F2 N2
   have hDn:s.heap.get? D=none:=by
    cases z:s.heap.get? D with
    | none=>rfl
    | some o=>
     obtain ⟨_,n1,n2⟩:=N2 (D,_) aK1
     exact absurd (hD _ (uQ n1 n2 z)) (aN2 _)
   have hpl:∀ i ∈ pa.toList,i < ys.length:=fun i hi=>by
    have:=aT6.mp (hp.mem_iff.mp hi); omega
   have hp':pa.toList.Perm (List.range ys.length):=by rw [hl]; exact hp
   have pm:=ad4 (d:=V.non) ys hp'
   obtain ⟨hDo,hDL,hDb⟩:=N2 (D,_) aK1
   obtain ⟨hHD,I2⟩:=I.laidF (t':=s.toks) (a:=D) (o:=.lst (pa.toList.map fun i=>ys.getD i .non)) hDn keep2 (fun m' hm'=>by
     have e:m'=m:=funext fun nm=>Heap.Ns.agree hm' F.ns nm
     rw [e]; exact F2.ns) ⟨by rw [pm.length_eq]; exact hz,_,cc,xK rv hpl,hDo⟩
   exact⟨.ref D,_,I2,rfl,q D _ hHD pm (ad9 hp hasc fun i j hle=>hle)⟩
end L2
namespace Raw
open PySem PySem.W PySem.Calls PyProof.Rows
def eV (h:Heap) (d:Addr) (es:Array DictEntry) (ep:Nat):Prop:=∃ o,h.get? d=some o/\o.ExactDict/\o.data = .dict es ep
theorem eV.ty {s:Shared}{d:Addr}{es:Array DictEntry}{ep:Nat} (x:eV s.heap d es ep):s.TypeIs (.ref d) "dict":=x.elim fun o y=>⟨o,y.1,y.2.1.1⟩
theorem eV.lt {h:Heap}{d:Addr}{es:Array DictEntry}{ep:Nat} (x:eV h d es ep):d < h.objs.size:=x.elim fun _ y=>aK2 y.1
theorem eV.keep {h h':Heap}{d:Addr}{es:Array DictEntry}{ep:Nat} (x:eV h d es ep) (k:∀ o,h.get? d=some o->h'.get? d=some o):eV h' d es ep:=x.elim fun o y=>⟨o,k o y.1,y.2⟩
section
variable {prog : Program} {w : World} {A : Around} {E : Value → Shared → Prop} {s : Shared} {d it : Addr} {es : Array DictEntry} {ep i : Nat}
theorem made (far:(d == sysModules)=false) (x:eV s.heap d es ep) {Q:Value->Shared->Prop}
  (q:Q (.ref s.heap.objs.size) { s with heap:=s.heap.push { cls:=.type "dict_keyiterator",data:=.fields #[.ref d,.int 0 0,.int es.size 0,.int ep 0] } }):wpAny (model prog w) A (pyIter (.ref d)) Q E s:=by
 have T:=x.ty
 obtain ⟨o,e1,e2,e3⟩:=x
 apply wpAny_pyIter_slot T PySem.F.slot_dict_iter
 apply aP9 PySem.F.slot_dict_iter T PySem.F.entry_dict_iter _ (PySem.F.args_dict_iter_1 _)
 simp only [Builtin.«dict.__iter__»,Builtin.Dict.dictSlotNone]
 apply aI7
 apply aI7
 apply wpAny_notOrdered_dict T
 apply aJ1
 change wpAny _ _ (Builtin.Dict.showsAll d >>= _) _ _ s
 have far':Builtin.Dict.showsAll d=pure ():=by
  unfold Builtin.Dict.showsAll
  simp only [far,aK3,aN5]
 rw [far',pure_bind]
 apply aI7
 apply wpAny_dictEntries e1 e3
 apply aI7
 apply wpAny_dictEpoch e1 e3
 apply aI7
 refine aP4 (aJ1 ?_)
 refine⟨.ref s.heap.objs.size,rfl,"dict_keyiterator",_,⟨_,aJ9 _ rfl,rfl⟩,PySem.F.slot_dict_keyiterator_next.lookup,?_⟩
 simpa only [rawInt] using q
theorem turn (hh:A.handled=none) (hi:s.heap.IsKeyIter it d i es.size ep) (x:eV s.heap d es ep) {Q:Option Value->Shared->Prop}
  (yes:∀ (lt:i < es.size) h',h'.IsKeyIter it d (i+1) es.size ep->Heap.SameBut it s.heap h'->Q (some es[i].key) { s with heap:=h' })
  (no:es.size<=i->∀ h',Heap.ExtBut it s.heap h'->Q none { s with heap:=h' }):wpAny (model prog w) A (pyNext (.ref it)) Q E s:=by
 have T:=hi.typeIs
 obtain ⟨oi,f1,f2,f3⟩:=hi
 obtain ⟨o,e1,e2,e3⟩:=x
 have slot:=PySem.F.slot_dict_keyiterator_next
 have plain:Builtin.Dict_items.ownsTuple "dict_keyiterator" = false:=by decide
 have isref:(Value.ref d == Value.none)=false:=rfl
 have nn : ¬ (i:Int) < 0:=by omega
 unfold pyNext
 apply aI7
 apply wpAny_attempt
 apply aP5 (name:=Str.ofString "__next__") T slot
 apply aP9 slot T PySem.F.entry_dict_keyiterator_next _ (PySem.F.args_dict_keyiterator_next_1 _)
 apply aI7
 apply aJ1
 apply aI7
 apply aI7
 apply aI7
 first
  | apply wpAny_typeNameOfWhole_keyiter T
  | apply wpAny_typeNameOf_keyiter T
 apply aJ1
 apply aI7
 apply wpAny_fieldsOf f1 f3
 simp only [plain,aK3,aN5]
 change wpAny _ _ (if (Value.ref d == Value.none)=true then _ else _) _ _ s
 have adr:Builtin.Dict_items.addrOf (Value.ref d)=pure d:=rfl
 simp only [isref,aK3,aN5,adr,pure_bind]
 apply aI7
 apply wpAny_dictEntries e1 e3
 simp only [bne_self_eq_false,aK3,aN5]
 apply aI7
 apply wpAny_dictEpoch e1 e3
 simp only [bne_self_eq_false,aK3,aN5]
 apply aJ1
 simp only [nn,aN5,aU4]
 by_cases lt:i < es.size
 ·simp only [Array.getElem?_eq_getElem lt]
  apply aI7
  apply aI7
  first
   | apply wpAny_typeNameOfWhole_keyiter T
   | apply wpAny_typeNameOf_keyiter T
  apply aJ1
  apply aI7
  apply wpAny_isOneOf_keyiter T
  change wpAny _ _ (setField (.ref it) 1 (rawInt ((i:Int)+1)) >>= _) _ _ s
  apply aI7
  refine wpAny_setField f1 f3 (by simp) ?_
  have again:(s.heap.update it (Obj.mapFields (·.setIfInBounds 1 (rawInt ((i:Int)+1))))).IsKeyIter it d (i+1) es.size ep:=by
   refine⟨_,Heap.get?_update_self _ f1 (Obj.isFreed_of_fields (Obj.data_mapFields f3 _)),?_,?_⟩
   ·rw [Obj.cls_mapFields]; exact f2
   ·rw [Obj.data_mapFields f3]; simp [rawInt]
  apply aI7
  apply aQ6
  apply aI7
  refine wpAny_isOneOf_keyiter (s:={ s with heap:=s.heap.update it (Obj.mapFields (·.setIfInBounds 1 (rawInt ((i:Int)+1)))) }) again.typeIs ?_
  change wpAny _ _ (pure es[i].key) _ _ _
  apply aJ1
  apply aJ1
  exact⟨es[i].key,rfl,aJ1 (yes lt _ again (Heap.SameBut.update ..))⟩
 ·have ge:es.size<=i:=Nat.le_of_not_lt lt
  simp only [Array.getElem?_eq_none ge]
  apply aI7
  apply aI7
  first
   | apply wpAny_typeNameOfWhole_keyiter T
   | apply wpAny_typeNameOf_keyiter T
  apply aJ1
  change wpAny _ _ (setField (.ref it) 0 .none >>= _) _ _ s
  apply aI7
  refine wpAny_setField f1 f3 (by simp) ?_
  apply aI7
  simp only [newExc,newTuple]
  apply aI7
  refine aP4 ?_ (by size_fits)
  apply aI7
  refine wpAny_of_eq (a:=Value.none) (by first | rfl | (simp only [firstArgMember]; rfl)) ?_
  refine aP4 ?_ (by size_fits)
  unfold raiseNew
  apply aI7
  apply wpAny_handled
  have quiet:A.in1.handled=none:=hh
  rw [quiet]
  refine wpAny_throw ?_
  apply aI7
  refine wpAny_isInstance (T:="StopIteration") (b:=true) ⟨_,aJ9 _ rfl,rfl⟩ isSubtype_stop ?_
  exact aJ1 (no ge _ (((Heap.SameBut.update ..).extBut.push _).push _))
theorem ae1 (hh:A.handled=none) (ne:d ≠ it):Walks prog w A it [it,d] [it] es.size (fun i v=>∃ lt:i < es.size,es[i].key=v) (fun i h=>h.IsKeyIter it d i es.size ep/\eV h d es ep) where
 sub:=by intro b hb; rw [aJ5.mp hb]; exact aK1
 frame:=by
  intro i h h' st hk
  exact⟨st.1.at (hk it aK1),st.2.keep (hk d (aL0 _ aK1))⟩
 item:=by
  intro i s Q E lt st hQ
  refine turn hh st.1 st.2 (fun lt' h' again sb=>?_) fun ge=>absurd lt (Nat.not_lt.mpr ge)
  exact hQ _ h' s.toks ⟨lt',rfl⟩ ⟨again,st.2.keep fun o e=>sb.extBut d o ne e⟩ fun b o hb e=>sb.extBut b o (fun z=>hb (aJ5.mpr z)) e
 done:=by
  intro s Q E st hQ
  refine turn hh st.1 st.2 (fun lt=>absurd lt (aN2 _)) fun _ h' eb=>?_
  exact hQ h' s.toks fun b o hb e=>eb b o (fun z=>hb (aJ5.mpr z)) e
 self:=by intro i s Q E st hQ; exact wpAny_pyIter_keyiter st.1 hQ
theorem ae2 (far:(d == sysModules)=false):KdlSrc prog w "dict" d d es.size (fun i v=>∃ lt:i < es.size,es[i].key=v) (fun h=>eV h d es ep) where
 type:=fun _ x=>x.ty
 there:=fun _ x=>⟨x.lt,x.lt⟩
 keep:=fun _ _ x k=>x.keep (k d (.inl rfl))
 notList:=by decide
 notTuple:=by decide
 hint:=fun _ _ _ _ x q=>kdl_hint_dict x.ty q
 iter:=fun _ _ hh x=>⟨_,_,fun _ _ q=>made far x q,ae1 hh (aM4 x.lt),⟨_,aJ9 _ rfl,rfl,rfl⟩,x.keep fun o e=>aI8 _ e⟩
end
end Raw
namespace L2
open PySem PySem.Spec PyProof.Rows
section
variable {X : Cx} {pins : List (Addr × Obj)} {σ : St} {H : Hp} {s : Shared} {a : Addr}
def lD (H:Hp) (y:V) (k:List aD):Prop:=∃ q,y = .ref q/\H q=some (.tup (k.map kV))
theorem xQ {kvs:List (List aD × V)} (I:a5 X pins σ H s) (h:H a=some (.dT kvs)):∃ es ep ys,Raw.eV s.heap a es ep/\(a == sysModules)=false/\Paired (lD H) ys (kvs.map (·.1))/\aG ys (es.toList.map (·.key))/\kvs.length<=sizeLine:=by
 obtain ⟨z,far,xs,rel,o,es,ep,e1,e2,e3,e4,nd⟩:=(show b8 X.prog X.w H s.heap a (.dT kvs) from I.hok a _ h)
 refine⟨es,ep,xs.map fun q=>V.ref q.2.1,⟨o,e1,e2,e3⟩,far,?_,?_,z⟩
 ·clear e4 nd h z
  induction rel with
  | nil=>exact .nil
  | cons r rs ih=>exact .cons ⟨_,rfl,r.2.1⟩ ih
 ·rw [e4]
  clear rel e4 nd
  induction xs with
  | nil=>exact .nil
  | cons q qs ih=>exact .cons rfl ih
theorem ae3 {es:Array DictEntry}{acc:Array Value} (h:ItemsOf (fun i v=>∃ lt:i < es.size,es[i].key=v) acc es.size):acc.toList=es.toList.map (·.key):=by
 apply List.ext_getElem?
 intro j
 have h1:=h.1
 by_cases hj:j < es.size
 ·have hj':j < acc.size:=by rw [h1]; exact hj
  obtain ⟨_,e⟩:=h.2 j acc[j] (by simp [hj'])
  rw [aJ6]
  simp [hj,hj',e]
 ·have hj' : ¬ j < acc.size:=by rw [h1]; exact hj
  rw [aJ6]
  simp [Nat.le_of_not_lt hj,Nat.le_of_not_lt hj']
theorem ae4 (hc:X.calm=true):bU X (.type "list") (fun xs H Q=>∃ a kvs,xs = [.ref a]/\H a=some (.dT kvs)/\∀ l ys,H l=none->Paired (lD H) ys (kvs.map (·.1))->Q (.ref l) (upd H l (.lst ys))):=by
 intro pins s σ H xs us Q I r h
 obtain ⟨a,kvs,rfl,ha,q⟩:=h
 obtain ⟨u,rfl,ru⟩:=eC r
 cases ru
 obtain ⟨es,ep,ys,rd,far,pk,vk,z⟩:=xQ I ha
 have hl:=vk.length
 have hl2:=pk.length
 rw [aJ3] at hl hl2
 have hsz:es.toList.length=es.size:=Array.length_toList
 refine PySem.W.kdl_call (Raw.ae2 far) (I.ok.hd hc) rd (by omega) fun h' tk acc c kp e it=>?_
 refine⟨.ref s.heap.objs.size,_,I.laid (t':=tk) kp (aJ0 _) (show b8 X.prog X.w _ h' _ (.lst ys) from ⟨by omega,acc.toList,c,by rw [ae3 it]; exact vk,by simpa using e⟩),rfl,q _ ys (I.hok.fresh (aJ0 _)) pk⟩
end
section
variable {X : Cx}
theorem ae5:bU X (.builtin "isinstance") (fun xs H Q=>∃ x t n b,xs = [x,.ty n]/\dW X.K H x t/\PySem.W.kitOne X.K t (.type n)=some b/\Q (.bl b) H):=by
 intro pins s σ H xs us Q I r h
 obtain ⟨x,t,n,b,rfl,ty,e,q⟩:=h
 obtain ⟨u,u',rfl,ru,ru'⟩:=kW r
 cases ru'
 exact W5 I ru ty e fun tk=>⟨.bl b,H,I.tok tk,rfl,q⟩
end
def xR (outer:List (Str × NameKind)) (XN:List Str) (names:List (Str × NameKind)) (N:List Str) (fr:List (Option Nat)):Bool:=
 names.all (fun y=>!(y.2 == .cell) || names.lookup y.1 == some .cell) && names.all (fun y=>!(y.2 == .local) || names.lookup y.1 == some .local) &&
 names.all (fun y=>!(y.2 == .free) || (outer.lookup y.1 == some .cell || outer.lookup y.1 == some .free)) && fr.length == N.length &&
 (fr.zip N).all (fun p=>match p.1 with
  | none=>true
  | some j=>XN[j]? == some p.2 && names.lookup p.2 == some .free)
theorem bO.of {X:Cx}{scope:Scope}{N:List Str}{fr:List (Option Nat)} (hk:scope.kind = .function) (h:xR X.env.scope.names X.N scope.names N fr=true):bO X scope N fr:=by
 unfold xR at h
 simp only [aM2] at h
 obtain ⟨⟨⟨⟨h1,h2⟩,h3⟩,h4⟩,h5⟩:=h
 refine⟨hk,fun y hy e=>?_,fun y hy e=>?_,fun y hy e=>?_,by simpa using h4,fun i j e=>?_⟩
 ·have:=aR1.mp h1 y hy
  rw [e] at this; simpa using this
 ·have:=aR1.mp h2 y hy
  rw [e] at this; simpa using this
 ·have:=aR1.mp h3 y hy
  rw [e] at this; simpa using this
 ·have hl:fr.length=N.length:=by simpa using h4
  have hi:i < fr.length:=(aJ8.mp e).1
  have m:(some j,N[i]'(by omega)) ∈ fr.zip N:=by
   have:(fr.zip N)[i]? = some (some j,N[i]'(by omega)):=by
    rw [List.getElem?_zip_eq_some]
    exact⟨e,by simp⟩
   exact aL1 this
  have:=aR1.mp h5 _ m
  simp only [aM2,beq_iff_eq] at this
  exact⟨N[i]'(by omega),by simp,this.1,this.2⟩
theorem wk0 {n:Option V}{r:St}{v:V}:Wk (none :: r) (some v :: r):=(Wk.refl (none :: r)).set (i:=0) rfl
def jM (H:Hp) (ys:List V) (ls:List (Int × Int)):Prop:=Paired (fun y l=>∃ b,y = .ref b/\H b=some (.tup [.int l.1,.int l.2])) ys ls
structure xS (H:Hp) (v:V) (ws:List Int) (ls:List (Int × Int)):Prop where
 at_:∃ a p q ys,v = .ref a/\H a=some (.tup [.ref p,.ref q])/\H p=some (.tup (ws.map V.int))/\H q=some (.tup ys)/\jM H ys ls
theorem jM.get {H:Hp}:∀ {ys:List V}{ls:List (Int × Int)}{i:Nat}{y:V},jM H ys ls->ys[i]? = some y->∃ l b,ls[i]? = some l/\y = .ref b/\H b=some (.tup [.int l.1,.int l.2])
 | _,_,_,_,.nil,e=>by simp at e
 | _,_,0,_,.cons (b:=l) ⟨b,h1,h2⟩ _,e=>by simp at e; subst e; exact⟨l,b,rfl,h1,h2⟩
 | _,_,i+1,_,.cons _ t,e=>by
  obtain ⟨l,b,h1,h2⟩:=jM.get (i:=i) t (by simpa using e)
  exact⟨l,b,by simpa using h1,h2⟩
def bW (ls:List (Int × Int)) (k:Int):List Int:=ls.flatMap fun l=>(if l.1=k then [l.2] else []) ++ (if l.2=k then [l.1] else [])
theorem ae6 (ls:List (Int × Int)) (l:Int × Int) (k:Int):bW (ls ++ [l]) k=bW ls k ++ ((if l.1=k then [l.2] else []) ++ (if l.2=k then [l.1] else [])):=by
 unfold bW; rw [List.flatMap_append]; simp
theorem xT {ls:List (Int × Int)}{i:Nat}{l:Int × Int} (h:ls[i]? = some l) (k:Int):bW (ls.take (i+1)) k=bW (ls.take i) k ++ ((if l.1=k then [l.2] else []) ++ (if l.2=k then [l.1] else [])):=by
 rw [aO2,h]; exact ae6 _ _ _
structure gU (H H':Hp) (r:Addr) (bs:List Addr) (f:Nat->List Int):Prop where
 new:H r=none
 news:∀ b ∈ bs,H b=none/\b ≠ r
 nd:bs.Nodup
 row:H' r=some (.lst (bs.map V.ref))
 rows:∀ (k:Nat) (b:Addr),bs[k]? = some b->H' b=some (.lst ((f k).map V.int))
 same:a9 H H'
theorem gU.congr {H H':Hp}{r:Addr}{bs:List Addr}{f g:Nat->List Int} (h:gU H H' r bs f) (e:∀ k,k < bs.length->f k=g k):gU H H' r bs g:=
 ⟨h.new,h.news,h.nd,h.row,fun k b hb=>by rw [<- e k (aJ8.mp hb).1]; exact h.rows k b hb,h.same⟩
theorem gU.app {H H':Hp}{r:Addr}{bs:List Addr}{f:Nat->List Int} (h:gU H H' r bs f) {k:Nat}{b:Addr} (hb:bs[k]? = some b) (x:Int) :
  gU H (upd H' b (.lst ((f k).map V.int ++ [V.int x]))) r bs (fun j=>if j=k then f j ++ [x] else f j):=by
 have hm:b ∈ bs:=aL1 hb
 refine⟨h.new,h.news,h.nd,by rw [aJ (Ne.symm (h.news b hm).2)]; exact h.row,fun j c hc=>?_,fun c o e=>by rw [aJ (cQ e (h.news b hm).1)]; exact h.same c o e⟩
 by_cases hj:j=k
 ·subst hj
  rw [hb] at hc; cases hc
  rw [aV,if_pos rfl]; simp
 ·rw [if_neg hj]
  have ne:c ≠ b:=fun z=>by
   subst z
   obtain ⟨i1,e1⟩:=aJ8.mp hb
   obtain ⟨i2,e2⟩:=aJ8.mp hc
   refine hj (Nat.le_antisymm (Nat.le_of_not_lt fun z=>?_) (Nat.le_of_not_lt fun z=>?_))
   ·exact List.pairwise_iff_getElem.mp h.nd _ _ i1 i2 z (e1.trans e2.symm)
   ·exact List.pairwise_iff_getElem.mp h.nd _ _ i2 i1 z (e2.trans e1.symm)
  rw [aJ ne]; exact h.rows j c hc
theorem nK (ls:List (Int × Int)) (k:Int):(bW ls k).length<=2 * ls.length:=by
 induction ls with
 | nil=>exact aJ0 _
 | cons l r ih=>
  have e:bW (l :: r) k=((if l.1=k then [l.2] else []) ++ (if l.2=k then [l.1] else [])) ++ bW r k:=rfl
  rw [e,aJ4,aJ4,aO0]
  have h1:(if l.1=k then [l.2] else []).length<=1:=by split <;> simp
  have h2:(if l.2=k then [l.1] else []).length<=1:=by split <;> simp
  omega
theorem nL {α:Type}{xs:List α}{i:Int}{v:α} (h0:0<=i) (h:xs[i.toNat]? = some v):atI xs i=some v:=by
 have:=qQ h
 rwa [show ((i.toNat:Nat):Int)=i by omega] at this
theorem fT {n:Nat} (h:n<=16000000):n < sizeLine:=by rw [sizeLine_eq]; omega
theorem nM {σ:St}{H:Hp}{A B:Hp->Prop} (h:A H):rE σ H fun b H4=>if b=true then A H4 else B H4:=by
 show if true=true then A H else B H
 rw [if_pos rfl]; exact h
theorem rQ {K:PySem.W.Frag}{H:Hp}{p:Addr}{xs:List V} (h:aK K H p xs):fF K "list" (.ref p) H:=.inl ⟨rfl,xs,h⟩
def lE (H:Hp) (y:V):Int × Int:=match xN H y with
 | [a,b]=>(a,b)
 | _=>(0,0)
theorem nN {H:Hp}:∀ {zs:List V},(∀ y ∈ zs,∃ b,y = .ref b/\H b=some (.tup [.int (lE H y).1,.int (lE H y).2])/\xN H y = [(lE H y).1,(lE H y).2])->jM H zs (zs.map (lE H))
 | [],_=>.nil
 | y :: zs,h=>by
  obtain ⟨b,e,hb,_⟩:=h y aK1
  exact .cons ⟨b,e,hb⟩ (nN fun z hz=>h z (aL0 _ hz))
end L2
namespace Zp
open PySem PyProof.Rows
section
variable {prog : Program} {w : World} {A : Around} {E : Value → Shared → Prop} {s : Shared}
theorem ae7 {it t:Addr}{i:Nat}{items:Array Value}{x:Value}{Q:Value->Shared->Prop} (hi:s.heap.IsTupleIter it t i) (ht:s.heap.IsTuple t items) (hx:items[i]? = some x)
  (q:∀ h',h'.IsTupleIter it t (i+1)->Heap.SameBut it s.heap h'->Q x { s with heap:=h' }):wpAny (model prog w) A (Builtin.SmallTypes.nextOf (.ref it)) Q E s:=by
 have T:=hi.typeIs
 obtain ⟨o,e1,e2,e3⟩:=hi
 obtain ⟨u,f1,_,k,f3⟩:=ht
 have slot:=PySem.F.slot_tuple_iterator_next
 have isref:(Value.ref t == Value.none)=false:=rfl
 unfold Builtin.SmallTypes.nextOf
 apply aI7
 apply aP5 (name:=Str.ofString "__next__") T slot
 apply aP9 slot T PySem.F.entry_tuple_iterator_next _ (PySem.F.args_tuple_iterator_next_1 _)
 change wpAny _ _ (field (.ref it) 0 >>= _) _ _ s
 apply aI7
 refine aQ5 e1 e3 (x:=.ref t) rfl ?_
 change wpAny _ _ (if (Value.ref t == Value.none)=true then _ else _) _ _ s
 simp only [isref,aK3,aN5]
 change wpAny _ _ (field (.ref it) 1 >>= _) _ _ s
 apply aI7
 refine aQ5 e1 e3 (x:=.int i 0) rfl ?_
 change wpAny _ _ (seqItems? (.ref t) >>= _) _ _ s
 apply aI7
 apply aT9 f1 f3
 simp only [aU4,hx]
 apply aI7
 refine wpAny_setField e1 e3 (by simp) ?_
 apply aJ1
 refine⟨x,rfl,aJ1 (q _ ⟨_,Heap.get?_update_self _ e1 (Obj.isFreed_of_fields (Obj.data_mapFields e3 _)),?_,?_⟩ (Heap.SameBut.update ..))⟩
 ·rw [Obj.cls_mapFields]; exact e2
 ·rw [Obj.data_mapFields e3]; simp [rawInt]
theorem ae8 {it t:Addr}{i:Nat}{items:Array Value}{Q:Value->Shared->Prop} (hh:A.handled=none) (hi:s.heap.IsTupleIter it t i) (ht:s.heap.IsTuple t items) (hx:items[i]? = none)
  (q:∀ h' e,Heap.ExtBut it s.heap h'->(∃ o,h'.get? e=some o/\o.cls = .type "StopIteration")->E (.ref e) { s with heap:=h' }):wpAny (model prog w) A (Builtin.SmallTypes.nextOf (.ref it)) Q E s:=by
 have T:=hi.typeIs
 obtain ⟨o,e1,e2,e3⟩:=hi
 obtain ⟨u,f1,_,k,f3⟩:=ht
 have slot:=PySem.F.slot_tuple_iterator_next
 have isref:(Value.ref t == Value.none)=false:=rfl
 unfold Builtin.SmallTypes.nextOf
 apply aI7
 apply aP5 (name:=Str.ofString "__next__") T slot
 apply aP9 slot T PySem.F.entry_tuple_iterator_next _ (PySem.F.args_tuple_iterator_next_1 _)
 change wpAny _ _ (field (.ref it) 0 >>= _) _ _ s
 apply aI7
 refine aQ5 e1 e3 (x:=.ref t) rfl ?_
 change wpAny _ _ (if (Value.ref t == Value.none)=true then _ else _) _ _ s
 simp only [isref,aK3,aN5]
 change wpAny _ _ (field (.ref it) 1 >>= _) _ _ s
 apply aI7
 refine aQ5 e1 e3 (x:=.int i 0) rfl ?_
 change wpAny _ _ (seqItems? (.ref t) >>= _) _ _ s
 apply aI7
 apply aT9 f1 f3
 simp only [aU4,hx]
 apply aI7
 apply wpAny_rule
 apply aI7
 refine wpAny_setField e1 e3 (by simp) ?_
 apply aI7
 simp only [newExc,newTuple]
 apply aI7
 refine aP4 ?_ (by size_fits)
 apply aI7
 refine wpAny_of_eq (a:=Value.none) (by first | rfl | (simp only [firstArgMember]; rfl)) ?_
 refine aP4 ?_ (by size_fits)
 unfold raiseNew
 apply aI7
 apply wpAny_handled
 have quiet:A.in1.handled=none:=hh
 rw [quiet]
 refine wpAny_throw ?_
 exact q _ _ (((Heap.SameBut.update ..).extBut.push _).push _) ⟨_,aJ9 _ rfl,rfl⟩
theorem ae9 (hh:A.handled=none) (it t:Addr) (ne:t ≠ it) (items:Array Value):Draws prog w A it [it,t] items.size (fun i v=>items[i]? = some v) (fun i h=>h.IsTupleIter it t i/\h.IsTuple t items) where
 live:=fun _ _ st=>st.1.elim fun o y=>⟨o,y.1⟩
 frame:=fun _ _ _ st k=>⟨st.1.at fun o e=>k it aK1 o e,st.2.elim fun o y=>⟨o,k t (aL0 _ aK1) o y.1,y.2⟩⟩
 item:=fun i s Q E lt st q=>ae7 st.1 st.2 (Array.getElem?_eq_getElem lt) fun h' again sb=>q _ h' s.toks (Array.getElem?_eq_getElem lt) ⟨again,st.2.elim fun o y=>⟨o,sb.extBut t o ne y.1,y.2⟩⟩ sb
 done:=fun s Q E st q=>ae8 hh st.1 st.2 (Array.getElem?_eq_none (aJ0 _)) q
end
structure Ap (z TI TO i1 i2:Addr) (fp1 fp2:List Addr):Prop where
 TIz:TI ≠ z
 TOz:TO ≠ z
 TITO:TI ≠ TO
 z1:z ∉ fp1
 z2:z ∉ fp2
 o1:TO ∉ fp1
 o2:TO ∉ fp2
 t1:TI ∉ fp1
 t2:TI ∉ fp2
 m1:i1 ∈ fp1
 m2:i2 ∈ fp2
 n1:i1 ∉ fp2
 n2:i2 ∉ fp1
structure rR (z TI TO i1 i2:Addr) (St1 St2:Nat->Heap->Prop) (f0:Value) (i j:Nat) (h:Heap):Prop where
 zz:IsZip h z TI TO f0
 ti:IsPair h TI (.ref i1) (.ref i2)
 to_:∃ a b,IsPair h TO a b
 s1:St1 i h
 s2:St2 j h
section
variable {prog : Program} {w : World} {A : Around} {E : Value → Shared → Prop} {s : Shared} {z TI TO i1 i2 : Addr} {fp1 fp2 : List Addr} {n1 n2 : Nat} {P1 P2 : Nat → Value → Prop} {St1 St2 : Nat → Heap → Prop}
theorem jN (ap:Ap z TI TO i1 i2 fp1 fp2) {b:Addr} (h:b ∉ fp1):b ≠ i1:=fun e=>h (e ▸ ap.m1)
theorem nO (ap:Ap z TI TO i1 i2 fp1 fp2) {b:Addr} (h:b ∉ fp2):b ≠ i2:=fun e=>h (e ▸ ap.m2)
theorem item (D1:Draws prog w A.in1 i1 fp1 n1 P1 St1) (D2:Draws prog w A.in1 i2 fp2 n2 P2 St2) (ap:Ap z TI TO i1 i2 fp1 fp2) {i:Nat} (l1:i < n1) (l2:i < n2) (st:rR z TI TO i1 i2 St1 St2 .none i i s.heap) {Q:Option Value->Shared->Prop}
  (q:∀ x y h' tk,P1 i x->P2 i y->rR z TI TO i1 i2 St1 St2 (rawInt s.heap.objs.size) (i+1) (i+1) h'->IsPair h' s.heap.objs.size x y->(∀ c o,c ≠ z->c ≠ TO->c ≠ i1->c ≠ i2->s.heap.get? c=some o->h'.get? c=some o)->
   h'.objs.size=s.heap.objs.size+1->Q (some (.ref s.heap.objs.size)) { s with heap:=h',toks:=tk }):wpAny (model prog w) A (pyNext (.ref z)) Q E s:=by
 obtain ⟨hz,hti,⟨a,b,hto⟩,h1,h2⟩:=st
 have T:s.TypeIs (.ref z) "zip":=⟨_,hz,rfl⟩
 have slot:=PySem.F.slot_zip_next
 unfold pyNext
 apply aI7
 apply wpAny_attempt
 apply aP5 (name:=Str.ofString "__next__") T slot
 apply aP9 slot T PySem.F.entry_zip_next _ (PySem.F.args_zip_next_1 _)
 change wpAny _ _ (field (.ref z) 2 >>= _) _ _ _
 apply aI7
 refine aQ5 hz rfl (x:=.bool false) rfl ?_
 change wpAny _ _ (field (.ref z) 3 >>= _) _ _ _
 apply aI7
 refine aQ5 hz rfl (x:=.ref TI) rfl ?_
 apply aI7
 apply aT9 hti rfl
 change wpAny _ _ (Builtin.SmallTypes.ownedTupleIsFree (.ref z) >>= _) _ _ _
 apply aI7
 unfold Builtin.SmallTypes.ownedTupleIsFree
 apply aI7
 refine aQ5 hz rfl (x:=.none) rfl (aJ1 ?_)
 simp only [if_true]
 apply aI7
 apply wpAny_rule
 apply aI7
 refine aQ5 hz rfl (x:=.ref TO) rfl ?_
 apply aI7
 refine aU0 hz (by simp) fun g1 hz1 sb1=>?_
 have k1:∀ c o,c ≠ z->s.heap.get? c=some o->g1.get? c=some o:=fun c o c1 e=>sb1.extBut c o c1 e
 apply aI7
 simp only [List.zipIdx_cons,List.zipIdx_nil,List.forIn_cons,List.forIn_nil]
 apply aI7
 apply aI7
 apply wpAny_onRaise
 change wpAny _ _ (Builtin.SmallTypes.nextOf (.ref i1) >>= _) _ _ _
 apply aI7
 refine D1.item i { s with heap:=g1 } _ _ l1 (D1.frame _ _ _ h1 fun c hc o e=>k1 c o (fun y=>ap.z1 (y ▸ hc)) e) fun x g2 tk2 px st1 sb2=>aJ1 ?_
 have k2:∀ c o,c ≠ z->c ≠ i1->s.heap.get? c=some o->g2.get? c=some o:=fun c o c1 c2 e=>sb2.extBut c o c2 (k1 c o c1 e)
 have to2:IsPair g2 TO a b:=k2 _ _ ap.TOz (jN ap ap.o1) hto
 apply aI7
 apply aT9 to2 rfl
 apply aI7
 refine wpAny_updateSeq_pair to2 fun g3 to3 sb3=>?_
 have to3:IsPair g3 TO x b:=to3
 apply aI7
 apply wpAny_letGo
 apply aJ1
 apply aI7
 apply aI7
 apply wpAny_onRaise
 change wpAny _ _ (Builtin.SmallTypes.nextOf (.ref i2) >>= _) _ _ _
 apply aI7
 have k3:∀ c o,c ≠ z->c ≠ i1->c ≠ TO->s.heap.get? c=some o->g3.get? c=some o:=fun c o c1 c2 c3 e=>sb3.extBut c o c3 (k2 c o c1 c2 e)
 refine D2.item i { s with heap:=g3,toks:=tk2 } _ _ l2 (D2.frame _ _ _ h2 fun c hc o e=>k3 c o (fun y=>ap.z2 (y ▸ hc)) (fun y=>ap.n1 (y ▸ hc)) (fun y=>ap.o2 (y ▸ hc)) e) fun y g4 tk4 py st2 sb4=>aJ1 ?_
 have to4:IsPair g4 TO x b:=sb4.extBut _ _ (nO ap ap.o2) to3
 apply aI7
 apply aT9 to4 rfl
 apply aI7
 refine wpAny_updateSeq_pair to4 fun g5 to5 sb5=>?_
 have to5:IsPair g5 TO x y:=to5
 apply aI7
 apply wpAny_letGo
 apply aJ1
 apply aJ1
 apply aI7
 apply aT9 to5 rfl
 apply aI7
 refine wpAny_newTuple ?_ (by show 2<=sizeLine; decide)
 have size:g5.objs.size=s.heap.objs.size:=by rw [sb5.1,sb4.1,sb3.1,sb2.1,sb1.1]
 have k5:∀ c o,c ≠ z->c ≠ TO->c ≠ i1->c ≠ i2->s.heap.get? c=some o->g5.get? c=some o:=fun c o c1 c2 c3 c4 e=>sb5.extBut c o c2 (sb4.extBut c o c4 (k3 c o c1 c3 c2 e))
 have z5:IsZip g5 z TI TO .ellipsis:=sb5.extBut _ _ (Ne.symm ap.TOz) (sb4.extBut _ _ (nO ap ap.z2) (sb3.extBut _ _ (Ne.symm ap.TOz) (sb2.extBut _ _ (jN ap ap.z1) hz1)))
 change wpAny _ _ (Builtin.SmallTypes.ownedTupleHandOut (.ref z) (.ref g5.objs.size) >>= _) _ _ _
 apply aI7
 unfold Builtin.SmallTypes.ownedTupleHandOut
 apply aI7
 have z6:IsZip (g5.push { cls:=.type "tuple",data:=.seq #[x,y] }) z TI TO .ellipsis:=aI8 _ z5
 refine aU0 z6 (by simp) fun g7 z7 sb7=>?_
 have z7:IsZip g7 z TI TO (rawInt g5.objs.size):=z7
 refine aU0 z7 (by simp) fun g8 z8 sb8=>?_
 have z8:IsZip g8 z TI TO (rawInt g5.objs.size):=z8
 have zlt:z < g5.objs.size:=aK2 z5
 have up:∀ c o,c ≠ z->g5.get? c=some o->g8.get? c=some o:=fun c o c1 e=>sb8.extBut c o c1 (sb7.extBut c o c1 (aI8 _ e))
 have p8:IsPair g8 g5.objs.size x y:=sb8.extBut _ _ (aS4 zlt) (sb7.extBut _ _ (aS4 zlt) (aJ9 _ rfl))
 have s8:g8.objs.size=g5.objs.size+1:=by rw [sb8.1,sb7.1,aV1]
 have f1:St1 (i+1) g8:=D1.frame _ _ _ st1 fun c hc o e=>up c o (fun y=>ap.z1 (y ▸ hc)) (sb5.extBut c o (fun y=>ap.o1 (y ▸ hc)) (sb4.extBut c o (fun y=>ap.n2 (y ▸ hc)) (sb3.extBut c o (fun y=>ap.o1 (y ▸ hc)) e)))
 have f2:St2 (i+1) g8:=D2.frame _ _ _ st2 fun c hc o e=>up c o (fun y=>ap.z2 (y ▸ hc)) (sb5.extBut c o (fun y=>ap.o2 (y ▸ hc)) e)
 have ti8:IsPair g8 TI (.ref i1) (.ref i2):=up _ _ ap.TIz (k5 _ _ ap.TIz ap.TITO (jN ap ap.t1) (nO ap ap.t2) hti)
 rw [size] at z8 p8 s8
 apply aJ1
 refine⟨_,rfl,aJ1 ?_⟩
 change Q (some (.ref g5.objs.size)) _
 rw [size]
 exact q x y g8 tk4 px py ⟨z8,ti8,⟨x,y,up _ _ ap.TOz to5⟩,f1,f2⟩ p8 (fun c o c1 c2 c3 c4 e=>up c o c1 (k5 c o c1 c2 c3 c4 e)) s8
theorem fin (D1:Draws prog w A.in1 i1 fp1 n1 P1 St1) (D2:Draws prog w A.in1 i2 fp2 n2 P2 St2) (ap:Ap z TI TO i1 i2 fp1 fp2) {i:Nat} (le:i=n1 ∨ (i < n1/\i=n2)) (st:rR z TI TO i1 i2 St1 St2 .none i i s.heap) {Q:Option Value->Shared->Prop}
  (q:∀ h' tk,(∀ c o,c ≠ z->c ≠ TO->c ≠ i1->c ≠ i2->s.heap.get? c=some o->h'.get? c=some o)->Q none { s with heap:=h',toks:=tk }):wpAny (model prog w) A (pyNext (.ref z)) Q E s:=by
 obtain ⟨hz,hti,⟨a,b,hto⟩,h1,h2⟩:=st
 have T:s.TypeIs (.ref z) "zip":=⟨_,hz,rfl⟩
 have slot:=PySem.F.slot_zip_next
 unfold pyNext
 apply aI7
 apply wpAny_attempt
 apply aP5 (name:=Str.ofString "__next__") T slot
 apply aP9 slot T PySem.F.entry_zip_next _ (PySem.F.args_zip_next_1 _)
 change wpAny _ _ (field (.ref z) 2 >>= _) _ _ _
 apply aI7
 refine aQ5 hz rfl (x:=.bool false) rfl ?_
 change wpAny _ _ (field (.ref z) 3 >>= _) _ _ _
 apply aI7
 refine aQ5 hz rfl (x:=.ref TI) rfl ?_
 apply aI7
 apply aT9 hti rfl
 change wpAny _ _ (Builtin.SmallTypes.ownedTupleIsFree (.ref z) >>= _) _ _ _
 apply aI7
 unfold Builtin.SmallTypes.ownedTupleIsFree
 apply aI7
 refine aQ5 hz rfl (x:=.none) rfl (aJ1 ?_)
 simp only [if_true]
 apply aI7
 apply wpAny_rule
 apply aI7
 refine aQ5 hz rfl (x:=.ref TO) rfl ?_
 apply aI7
 refine aU0 hz (by simp) fun g1 hz1 sb1=>?_
 have k1:∀ c o,c ≠ z->s.heap.get? c=some o->g1.get? c=some o:=fun c o c1 e=>sb1.extBut c o c1 e
 apply aI7
 simp only [List.zipIdx_cons,List.zipIdx_nil,List.forIn_cons,List.forIn_nil]
 apply aI7
 apply aI7
 apply wpAny_onRaise
 change wpAny _ _ (Builtin.SmallTypes.nextOf (.ref i1) >>= _) _ _ _
 apply aI7
 have z1:IsZip g1 z TI TO .ellipsis:=hz1
 rcases le with rfl | ⟨lt,rfl⟩
 ·refine D1.done { s with heap:=g1 } _ _ (D1.frame _ _ _ h1 fun c hc o e=>k1 c o (fun y=>ap.z1 (y ▸ hc)) e) fun g2 e eb ex=>?_
  have z2:IsZip g2 z TI TO .ellipsis:=eb _ _ (jN ap ap.z1) z1
  refine aU0 z2 (by simp) fun g3 z3 sb3=>?_
  obtain ⟨oe,eo,co⟩:=ex
  have ne:e ≠ z:=fun y=>by
   rw [y,z2] at eo
   have:=aL5 eo
   rw [<- this] at co; exact absurd (show Value.type "zip" = Value.type "StopIteration" from co) (by decide)
  apply aI7
  refine wpAny_isInstance (T:="StopIteration") (b:=true) ⟨oe,sb3.extBut _ _ ne eo,co⟩ isSubtype_stop ?_
  exact aJ1 (q g3 s.toks fun c o c1 _ c3 _ e=>sb3.extBut c o c1 (eb c o c3 (k1 c o c1 e)))
 ·refine D1.item i { s with heap:=g1 } _ _ lt (D1.frame _ _ _ h1 fun c hc o e=>k1 c o (fun y=>ap.z1 (y ▸ hc)) e) fun x g2 tk2 px st1 sb2=>aJ1 ?_
  have k2:∀ c o,c ≠ z->c ≠ i1->s.heap.get? c=some o->g2.get? c=some o:=fun c o c1 c2 e=>sb2.extBut c o c2 (k1 c o c1 e)
  have to2:IsPair g2 TO a b:=k2 _ _ ap.TOz (jN ap ap.o1) hto
  apply aI7
  apply aT9 to2 rfl
  apply aI7
  refine wpAny_updateSeq_pair to2 fun g3 to3 sb3=>?_
  apply aI7
  apply wpAny_letGo
  apply aJ1
  apply aI7
  apply aI7
  apply wpAny_onRaise
  change wpAny _ _ (Builtin.SmallTypes.nextOf (.ref i2) >>= _) _ _ _
  apply aI7
  have k3:∀ c o,c ≠ z->c ≠ i1->c ≠ TO->s.heap.get? c=some o->g3.get? c=some o:=fun c o c1 c2 c3 e=>sb3.extBut c o c3 (k2 c o c1 c2 e)
  refine D2.done { s with heap:=g3,toks:=tk2 } _ _ (D2.frame _ _ _ h2 fun c hc o e=>k3 c o (fun y=>ap.z2 (y ▸ hc)) (fun y=>ap.n1 (y ▸ hc)) (fun y=>ap.o2 (y ▸ hc)) e) fun g4 e eb ex=>?_
  have z4:IsZip g4 z TI TO .ellipsis:=eb _ _ (nO ap ap.z2) (sb3.extBut _ _ (Ne.symm ap.TOz) (sb2.extBut _ _ (jN ap ap.z1) z1))
  refine aU0 z4 (by simp) fun g5 z5 sb5=>?_
  obtain ⟨oe,eo,co⟩:=ex
  have ne:e ≠ z:=fun y=>by
   rw [y,z4] at eo
   have:=aL5 eo
   rw [<- this] at co; exact absurd (show Value.type "zip" = Value.type "StopIteration" from co) (by decide)
  apply aI7
  refine wpAny_isInstance (T:="StopIteration") (b:=true) ⟨oe,sb5.extBut _ _ ne eo,co⟩ isSubtype_stop ?_
  exact aJ1 (q g5 tk2 fun c o c1 c2 c3 c4 e=>sb5.extBut c o c1 (eb c o c4 (k3 c o c1 c3 c2 e)))
end
def eD (h:Heap) (t u:Addr):Heap:=
 ((((h.push { cls:=.type "tuple_iterator",data:=.fields #[.ref t,.int 0 0] }).push { cls:=.type "tuple_iterator",data:=.fields #[.ref u,.int 0 0] }).push { cls:=.type "tuple",data:=.seq #[.ref h.objs.size,.ref (h.objs.size+1)] }).push
  { cls:=.type "tuple",data:=.seq #[.none,.none] }).push { cls:=.type "zip",data:=.fields #[.none,.bool false,.bool false,.ref (h.objs.size+2),.ref (h.objs.size+3)] }
theorem af0 (t u:Addr) (xs ys:Array Value):Meets (Builtin.«zip.__new__» ⟨[.type "zip",.ref t,.ref u],[]⟩) (fun _ R s=>s.heap.IsTuple t xs/\s.heap.IsTuple u ys/\R (.ok (.ret (.ref (s.heap.objs.size+4)))) { s with heap:=eD s.heap t u }):=
 .of_wp fun prog w A R s h=>by
  obtain ⟨hp,g,d,tk,os⟩:=s
  obtain ⟨ht,hu,h⟩:=h
  have sub:=sub_zip
  have a1:Heap.IsTuple (Shared.heap ⟨hp,g,d,tk,os⟩) t xs:=ht
  have a2:Heap.IsTuple (Shared.heap ⟨hp.push { cls:=.type "tuple_iterator",data:=.fields #[.ref t,.int 0 0] },g,d,tk,os⟩) u ys:=hu.elim fun o y=>⟨o,aI8 _ y.1,y.2⟩
  wp_walk using wpAny_pyIter_tuple a1,wpAny_pyIter_tuple a2
  have e:∀ (o:Obj) (k:Heap),(k.push o).objs.size=k.objs.size+1:=fun o k=>aV1 ..
  refine⟨_,rfl,?_⟩
  simp only [eD,e] at h ⊢
  exact h
section
variable {prog : Program} {w : World} {A : Around} {E : Value → Shared → Prop} {s : Shared}
theorem af1 {t u:Addr}{xs ys:Array Value}{Q:Value->Shared->Prop} (ht:s.heap.IsTuple t xs) (hu:s.heap.IsTuple u ys)
  (q:∀ h',IsZip h' (s.heap.objs.size+4) (s.heap.objs.size+2) (s.heap.objs.size+3) .none->IsPair h' (s.heap.objs.size+2) (.ref s.heap.objs.size) (.ref (s.heap.objs.size+1))->
   IsPair h' (s.heap.objs.size+3) .none .none->h'.IsTupleIter s.heap.objs.size t 0->h'.IsTupleIter (s.heap.objs.size+1) u 0->(∀ c o,s.heap.get? c=some o->h'.get? c=some o)->Q (.ref (s.heap.objs.size+4)) { s with heap:=h' }) :
  wpAny (model prog w) A (call (.type "zip") [.ref t,.ref u]) Q E s:=by
 refine callType_new PySem.F.called_zip (by decide) (PySem.F.typeCall_zip_2 _ _) (PySem.F.newCall_zip_2 _ _) (fun obj=>PySem.F.args_object_init_3 obj _ _) PySem.F.entry_zip_new (af0 t u xs ys) ⟨ht,hu,?_⟩
 have e:∀ (o:Obj) (k:Heap),(k.push o).objs.size=k.objs.size+1:=fun o k=>aV1 ..
 have p0:∀ (k:Heap) (o:Obj) (m:Nat),o.isFreed=false->m=k.objs.size->(k.push o).get? m=some o:=fun k o m f z=>by rw [z]; exact aJ9 _ f
 have g0:(eD s.heap t u).get? s.heap.objs.size=some { cls:=.type "tuple_iterator",data:=.fields #[.ref t,.int 0 0] }:=by
  unfold eD
  exact aI8 _ (aI8 _ (aI8 _ (aI8 _ (p0 _ _ _ rfl rfl))))
 have g1:(eD s.heap t u).get? (s.heap.objs.size+1)=some { cls:=.type "tuple_iterator",data:=.fields #[.ref u,.int 0 0] }:=by
  unfold eD
  exact aI8 _ (aI8 _ (aI8 _ (p0 _ _ _ rfl (by simp only [e]))))
 have g2:(eD s.heap t u).get? (s.heap.objs.size+2)=some { cls:=.type "tuple",data:=.seq #[.ref s.heap.objs.size,.ref (s.heap.objs.size+1)] }:=by
  unfold eD
  exact aI8 _ (aI8 _ (p0 _ _ _ rfl (by simp only [e])))
 have g3:(eD s.heap t u).get? (s.heap.objs.size+3)=some { cls:=.type "tuple",data:=.seq #[.none,.none] }:=by
  unfold eD
  exact aI8 _ (p0 _ _ _ rfl (by simp only [e]))
 have g4:(eD s.heap t u).get? (s.heap.objs.size+4)=some { cls:=.type "zip",data:=.fields #[.none,.bool false,.bool false,.ref (s.heap.objs.size+2),.ref (s.heap.objs.size+3)] }:=by
  unfold eD
  exact p0 _ _ _ rfl (by simp only [e])
 refine⟨⟨_,g4,rfl⟩,q _ g4 g2 g3 ⟨_,g0,rfl,rfl⟩ ⟨_,g1,rfl,rfl⟩ fun c o z=>?_⟩
 unfold eD
 exact aI8 _ (aI8 _ (aI8 _ (aI8 _ (aI8 _ z))))
end
end Zp
namespace L2
open PySem PySem.Spec PyProof.Rows
def rS (K:PySem.W.Frag) (a b:Addr):It:=
  ⟨fun i H=>∃ xs ys x y,aI K H a xs/\aI K H b ys/\xs[i]? = some x/\ys[i]? = some y,
   fun i H v H'=>∃ T x y,H T=none/\v = .ref T/\H'=upd H T (.tup [x,y])/\∀ xs ys,aI K H a xs->aI K H b ys->xs[i]? = some x/\ys[i]? = some y,
   fun i H=>∃ xs ys,aI K H a xs/\aI K H b ys/\(i=xs.length ∨ (i < xs.length/\i=ys.length))⟩
def Sq (t:Bool) (K:PySem.W.Frag) (H:Hp) (a:Addr) (xs:List V):Prop:=match t with
 | true=>aI K H a xs
 | false=>aK K H a xs
def eF (t:Bool) (h:Heap) (i a:Addr) (n:Nat):Prop:=match t with
 | true=>h.IsTupleIter i a n
 | false=>h.IsListIter i a n
def xU (t:Bool) (h:Heap) (a:Addr) (xs:Array Value):Prop:=match t with
 | true=>h.IsTuple a xs
 | false=>h.IsList a xs
theorem eF.at {h h':Heap}{i a:Addr}{n:Nat}:∀ {t:Bool},eF t h i a n->(∀ o,h.get? i=some o->h'.get? i=some o)->eF t h' i a n
 | true,x,k=>Heap.IsTupleIter.at x k
 | false,x,k=>Heap.IsListIter.at x k
theorem eF.ob {h:Heap}{i a:Addr}{n:Nat}:∀ {t:Bool},eF t h i a n->∃ o,h.get? i=some o/\∀ v,o.data ≠ .cell v
 | true,⟨o,f,_,d⟩=>⟨o,f,fun v q=>by rw [d] at q; cases q⟩
 | false,⟨o,f,_,d⟩=>⟨o,f,fun v q=>by rw [d] at q; cases q⟩
theorem eF.draws {prog:Program}{w:World}{A:Around}:∀ (t:Bool) (hh:A.handled=none) (it a:Addr) (ne:a ≠ it) (items:Array Value),Draws prog w A it [it,a] items.size (fun i v=>items[i]? = some v) (fun i h=>eF t h it a i/\xU t h a items)
 | true,hh,it,a,ne,items=>Zp.ae9 hh it a ne items
 | false,hh,it,a,ne,items=>Draws.list hh it a ne items
section
variable {X : Cx} {pins : List (Addr × Obj)} {σ : St} {H : Hp} {s : Shared} {a : Addr} {xs ys : List V}
theorem Sq.get (I:a5 X pins σ H s):∀ {t:Bool},Sq t X.K H a xs->∃ us,aG xs us/\xU t s.heap a us.toArray
 | true,h=>by obtain ⟨us,r,p,_⟩:=I.tuple h; exact⟨us,r,p⟩
 | false,h=>by obtain ⟨us,r,p,_⟩:=I.list h; exact⟨us,r,p.isList⟩
theorem Sq.inj (I:a5 X pins σ H s):∀ {t:Bool},Sq t X.K H a xs->Sq t X.K H a ys->xs=ys
 | true,h,g=>I.tuple_inj h g
 | false,h,g=>I.list_inj h g
theorem Sq.off (I:a5 X pins σ H s) (he:H a=none) (hb:X.base.get? a=none):∀ {t:Bool},Sq t X.K H a xs->False
 | true,h=>by
  rcases h with (h | ⟨_,h⟩) | ⟨o,_,_,h,_⟩
  ·rw [he] at h; cases h
  ·rw [he] at h; cases h
  ·have:=I.ok.mod.kin a o h
   rw [hb] at this; cases this
 | false,h=>by
  rcases h with (h | ⟨_,h⟩) | ⟨o,_,_,h,_⟩
  ·rw [he] at h; cases h
  ·rw [he] at h; cases h
  ·have:=I.ok.mod.kin a o h
   rw [hb] at this; cases this
end
def af2 (t1 t2:Bool) (K:PySem.W.Frag) (a b:Addr):It:=
  ⟨fun i H=>∃ xs ys x y,Sq t1 K H a xs/\Sq t2 K H b ys/\xs[i]? = some x/\ys[i]? = some y,
   fun i H v H'=>∃ T x y,H T=none/\v = .ref T/\H'=upd H T (.tup [x,y])/\∀ xs ys,Sq t1 K H a xs->Sq t2 K H b ys->xs[i]? = some x/\ys[i]? = some y,
   fun i H=>∃ xs ys,Sq t1 K H a xs/\Sq t2 K H b ys/\(i=xs.length ∨ (i < xs.length/\i=ys.length))⟩
structure rT (t1 t2:Bool) (z TI TO i1 i2 a b:Addr) (i:Nat) (h:Heap):Prop where
 zz:IsZip h z TI TO .none
 ti:IsPair h TI (.ref i1) (.ref i2)
 to_:∃ x y,IsPair h TO x y
 s1:eF t1 h i1 a i
 s2:eF t2 h i2 b i
theorem xV (t1 t2:Bool) {P:Program}{w:World}{K:PySem.W.Frag}{elts:List Expr}{k:Nat}{pos:Pos} (a b z TI TO i1 i2:Addr) (d : [z,TI,TO,i1,i2].Nodup) :
  fR P w K (.Tuple elts k pos) (af2 t1 t2 K a b) [z,TI,TO,i1,i2] z (rT t1 t2 z TI TO i1 i2 a b):=by
 have nd:z ≠ TI/\z ≠ TO/\z ≠ i1/\z ≠ i2/\TI ≠ TO/\TI ≠ i1/\TI ≠ i2/\TO ≠ i1/\TO ≠ i2/\i1 ≠ i2:=by
  simp only [List.nodup_cons,aK0,aL4,aQ2,not_or] at d
  obtain ⟨⟨a1,a2,a3,a4⟩,⟨b1,b2,b3⟩,⟨c1,c2⟩,e1,_⟩:=d
  exact⟨a1,a2,a3,a4,b1,b2,b3,c1,c2,e1⟩
 obtain ⟨n1,n2,n3,n4,n5,n6,n7,n8,n9,n10⟩:=nd
 have offBase:∀ {X:Cx}{pins:List (Addr × Obj)}{σ:St}{H:Hp}{s:Shared},a5 X pins σ H s->(∀ c ∈ [z,TI,TO,i1,i2],eN X pins H c)->∀ c ∈ [z,TI,TO,i1,i2],X.base.get? c=none:=by
  intro X pins σ H s I hf c hc
  cases q:X.base.get? c with
  | none=>rfl
  | some o=>
   rcases (hf c hc).2.2.2.1 with h | h
   ·exact absurd h (I.ok.noex c o q)
   ·exact absurd (aJ7 (aK2 q) (aM8 I.ok.bsz h)) (aN2 _)
 have off:∀ {t:Bool}{X:Cx}{pins:List (Addr × Obj)}{σ:St}{H:Hp}{s:Shared}{c:Addr}{zs:List V},a5 X pins σ H s->(∀ c ∈ [z,TI,TO,i1,i2],eN X pins H c)->Sq t X.K H c zs->c ∉ [z,TI,TO,i1,i2]:=by
  intro t X pins σ H s c zs I hf hc hm
  exact Sq.off I (hf c hm).1 (offBase I hf c hm) hc
 have ap:∀ {c e:Addr},c ∉ [z,TI,TO,i1,i2]->e ∉ [z,TI,TO,i1,i2]->Zp.Ap z TI TO i1 i2 [i1,c] [i2,e]:=fun {c e} hc he=>by
  simp only [aK0,aL4,aQ2,not_or] at hc he
  obtain ⟨c1,c2,c3,c4,c5⟩:=hc
  obtain ⟨e1,e2,e3,e4,e5⟩:=he
  have two:∀ {q u v:Addr},q ≠ u->q ≠ v->q ∉ [u,v]:=fun {q u v} h1 h2 hm=>by
   simp only [aK0,aL4,aQ2] at hm
   exact hm.elim h1 h2
  exact⟨n1.symm,n2.symm,n5,two n3 (Ne.symm c1),two n4 (Ne.symm e1),two n8 (Ne.symm c3),two n9 (Ne.symm e3),two n6 (Ne.symm c2),two n7 (Ne.symm e2),aK1,aK1,two n10 (Ne.symm e4),two n10.symm (Ne.symm c5)⟩
 refine⟨by simp,fun i h st c hc=>?_,fun i h h' st kp=>?_,?_,?_,fun A i s Q E st q=>wpAny_pyIter_zip st.zz q⟩
 ·simp only [aK0,aL4,aQ2] at hc
  obtain ⟨x,y,to⟩:=st.to_
  rcases hc with rfl | rfl | rfl | rfl | rfl
  ·exact⟨_,st.zz,fun v q=>by cases q⟩
  ·exact⟨_,st.ti,fun v q=>by cases q⟩
  ·exact⟨_,to,fun v q=>by cases q⟩
  ·exact st.s1.ob
  ·exact st.s2.ob
 ·obtain ⟨x,y,to⟩:=st.to_
  exact⟨kp z (by simp) _ st.zz,kp TI (by simp) _ st.ti,⟨x,y,kp TO (by simp) _ to⟩,st.s1.at fun o e=>kp i1 (by simp) o e,st.s2.at fun o e=>kp i2 (by simp) o e⟩
 ·
  intro X hP hw hK hc i pins s σ H E I hf st hg
  subst hP hw hK
  obtain ⟨xs,ys,x,y,ha,hb,hx,hy⟩:=hg
  obtain ⟨us,ru,pu⟩:=Sq.get I ha
  obtain ⟨vs,rv,pv'⟩:=Sq.get I hb
  obtain ⟨ux,eux,rux⟩:=ru.get hx
  obtain ⟨vy,evy,rvy⟩:=rv.get hy
  have fa:=off I hf ha
  have fb:=off I hf hb
  have hh:X.A.in1.handled=none:=I.ok.hd hc
  have l1:i < us.toArray.size:=by simpa using (aJ8.mp eux).1
  have l2:i < vs.toArray.size:=by simpa using (aJ8.mp evy).1
  have fa':a ≠ i1:=fun q=>fa (by rw [q]; simp)
  have fb':b ≠ i2:=fun q=>fb (by rw [q]; simp)
  have D1:=eF.draws t1 (prog:=X.prog) (w:=X.w) hh i1 a fa' us.toArray
  have D2:=eF.draws t2 (prog:=X.prog) (w:=X.w) hh i2 b fb' vs.toArray
  refine Zp.item D1 D2 (ap fa fb) l1 l2 ⟨st.zz,st.ti,st.to_,⟨st.s1,pu⟩,⟨st.s2,pv'⟩⟩ fun p q h' tk hp hq st' pr kp sz=>⟨_,rfl,?_⟩
  obtain rfl:p=ux:=by
   have:us.toArray[i]? = some ux:=by simpa using eux
   rw [this] at hp; exact (aL5 hp).symm
  obtain rfl:q=vy:=by
   have:vs.toArray[i]? = some vy:=by simpa using evy
   rw [this] at hq; exact (aL5 hq).symm
  refine wpAny_letOwnedTupleGo_zip (s:={ s with heap:=h',toks:=tk }) st'.zz fun g zz sb=>?_
  have hzl:z < s.heap.objs.size:=aK2 st.zz
  have up:∀ c o,c ≠ z->c ≠ TO->c ≠ i1->c ≠ i2->s.heap.get? c=some o->g.get? c=some o:=fun c o c1 c2 c3 c4 e=>sb.extBut c o c1 (kp c o c1 c2 c3 c4 e)
  have hT:H s.heap.objs.size=none:=I.hok.fresh (aJ0 _)
  have prG:IsPair g s.heap.objs.size p q:=sb.extBut _ _ (aS4 hzl) pr
  have fpn:∀ c u,H c=some u->c ∉ [z,TI,TO,i1,i2]:=fun c u e hm=>by rw [(hf c hm).1] at e; cases e
  have upH:∀ c o u,H c=some u->s.heap.get? c=some o->g.get? c=some o:=fun c o u e z=>by
   have:=fpn c u e
   simp only [aK0,aL4,aQ2,not_or] at this
   exact up c o this.1 this.2.2.1 this.2.2.2.1 this.2.2.2.2 z
  have ns:∀ m,s.heap.Ns X.env.locals m->g.Ns X.env.locals m:=fun m hm=>by
   obtain ⟨o,es,ep,e1,e2⟩:=hm
   exact⟨o,es,ep,up _ o (Ne.symm (hf z (by simp)).2.1) (Ne.symm (hf TO (by simp)).2.1) (Ne.symm (hf i1 (by simp)).2.1) (Ne.symm (hf i2 (by simp)).2.1) e1,e2⟩
  have I2:a5 X pins σ (upd H s.heap.objs.size (.tup [x,y])) { s with heap:=g,toks:=tk }:=by
   refine I.step (g':=s.gens) (d':=s.drawn) (ch:=[z,TO,i1,i2]) (fun c hc'=>?_) (fun c o _ _ hc' e _=>?_) (fun c o _ _ hc' e _=>⟨o.slots,?_⟩) (fun c o _ e n=>?_) (fun c o hc' e=>⟨o,?_⟩)
    (fun c zs e=>by rw [aJ (cQ e hT)]; exact e) (fun c u zs e=>by rw [aJ (cQ e hT)]; exact e) (fun c ps e=>⟨#[],by rw [aJ (cQ e hT),e]; simp⟩) ns (fun c u e=>?_) I.bare
   ·have hm:c ∈ [z,TI,TO,i1,i2]:=by
     simp only [aK0,aL4,aQ2] at hc' ⊢
     rcases hc' with h | h | h | h <;> simp [h]
    exact⟨(hf c hm).2.2.2.1,(hf c hm).2.1,(hf c hm).2.2.2.2.1,(hf c hm).2.2.2.2.2⟩
   ·simp only [aK0,aL4,aQ2,not_or] at hc'
    exact up c o hc'.1 hc'.2.1 hc'.2.2.1 hc'.2.2.2 e
   ·simp only [aK0,aL4,aQ2,not_or] at hc'
    exact up c o hc'.1 hc'.2.1 hc'.2.2.1 hc'.2.2.2 e
   ·rw [aJ (aM4 (aK2 e))]; exact n
   ·simp only [aK0,aL4,aQ2,not_or] at hc'
    exact up c o hc'.1 hc'.2.1 hc'.2.2.1 hc'.2.2.2 e
   ·by_cases hcT:c=s.heap.objs.size
    ·subst hcT
     rw [aV] at e; cases e
     exact⟨by show 2<=sizeLine; decide,[p,q],.cons rux (.cons rvy .nil),⟨_,prG,rfl,_,rfl⟩⟩
    ·rw [aJ hcT] at e
     refine (I.hok c u e).stay (fun c' o' hc2 q'=>?_) (fun c' q'=>by rw [aJ (cQ q' hT)]; exact q') fun c' zs q'=>by rw [aJ (cQ q' hT)]; exact q'
     rcases hc2 with rfl | hc2
     ·exact upH _ _ _ e q'
     ·exact upH _ _ _ hc2 q'
  obtain ⟨x',y',to'⟩:=st'.to_
  refine⟨.ref s.heap.objs.size,_,I2,rfl,⟨_,x,y,hT,rfl,rfl,fun xs' ys' ha' hb'=>?_⟩,⟨zz,sb.extBut _ _ n1.symm st'.ti,⟨x',y',sb.extBut _ _ n2.symm to'⟩,st'.s1.1.at fun o e=>sb.extBut _ o n3.symm e,st'.s2.1.at fun o e=>sb.extBut _ o n4.symm e⟩,fun c hc'=>?_⟩
  ·rw [Sq.inj I ha' ha,Sq.inj I hb' hb]; exact⟨hx,hy⟩
  ·obtain ⟨o,e,_⟩:∃ o,s.heap.get? c=some o/\True:=by
    simp only [aK0,aL4,aQ2] at hc'
    obtain ⟨x2,y2,to2⟩:=st.to_
    obtain ⟨o1,f1,_⟩:=st.s1.ob
    obtain ⟨o2,f2,_⟩:=st.s2.ob
    rcases hc' with rfl | rfl | rfl | rfl | rfl
    ·exact⟨_,st.zz,trivial⟩
    ·exact⟨_,st.ti,trivial⟩
    ·exact⟨_,to2,trivial⟩
    ·exact⟨_,f1,trivial⟩
    ·exact⟨_,f2,trivial⟩
   rw [aJ (aM4 (aK2 e))]; exact (hf c hc').1
 ·
  intro X hP hw hK hc i pins s σ H E I hf st hg
  subst hP hw hK
  obtain ⟨xs,ys,ha,hb,hi⟩:=hg
  obtain ⟨us,ru,pu⟩:=Sq.get I ha
  obtain ⟨vs,rv,pv'⟩:=Sq.get I hb
  have fa:=off I hf ha
  have fb:=off I hf hb
  have hh:X.A.in1.handled=none:=I.ok.hd hc
  have fa':a ≠ i1:=fun q=>fa (by rw [q]; simp)
  have fb':b ≠ i2:=fun q=>fb (by rw [q]; simp)
  have D1:=eF.draws t1 (prog:=X.prog) (w:=X.w) hh i1 a fa' us.toArray
  have D2:=eF.draws t2 (prog:=X.prog) (w:=X.w) hh i2 b fb' vs.toArray
  have e1:=ru.length
  have e2:=rv.length
  refine Zp.fin D1 D2 (ap fa fb) (by simp only [aI9]; omega) ⟨st.zz,st.ti,st.to_,⟨st.s1,pu⟩,⟨st.s2,pv'⟩⟩ fun g tk kp=>⟨rfl,?_⟩
  have fpn:∀ c u,H c=some u->c ∉ [z,TI,TO,i1,i2]:=fun c u e hm=>by rw [(hf c hm).1] at e; cases e
  have upH:∀ c o u,H c=some u->s.heap.get? c=some o->g.get? c=some o:=fun c o u e z=>by
   have:=fpn c u e
   simp only [aK0,aL4,aQ2,not_or] at this
   exact kp c o this.1 this.2.2.1 this.2.2.2.1 this.2.2.2.2 z
  have ns:∀ m,s.heap.Ns X.env.locals m->g.Ns X.env.locals m:=fun m hm=>by
   obtain ⟨o,es,ep,e1,e2⟩:=hm
   exact⟨o,es,ep,kp _ o (Ne.symm (hf z (by simp)).2.1) (Ne.symm (hf TO (by simp)).2.1) (Ne.symm (hf i1 (by simp)).2.1) (Ne.symm (hf i2 (by simp)).2.1) e1,e2⟩
  refine I.step (g':=s.gens) (d':=s.drawn) (ch:=[z,TO,i1,i2]) (fun c hc'=>?_) (fun c o _ _ hc' e _=>?_) (fun c o _ _ hc' e _=>⟨o.slots,?_⟩) (fun c o _ e n=>n) (fun c o hc' e=>⟨o,?_⟩)
   (fun c zs e=>e) (fun c u zs e=>e) (fun c ps e=>⟨#[],by rw [e]; simp⟩) ns (fun c u e=>?_) I.bare
  ·have hm:c ∈ [z,TI,TO,i1,i2]:=by
    simp only [aK0,aL4,aQ2] at hc' ⊢
    rcases hc' with h | h | h | h <;> simp [h]
   exact⟨(hf c hm).2.2.2.1,(hf c hm).2.1,(hf c hm).2.2.2.2.1,(hf c hm).2.2.2.2.2⟩
  ·simp only [aK0,aL4,aQ2,not_or] at hc'
   exact kp c o hc'.1 hc'.2.1 hc'.2.2.1 hc'.2.2.2 e
  ·simp only [aK0,aL4,aQ2,not_or] at hc'
   exact kp c o hc'.1 hc'.2.1 hc'.2.2.1 hc'.2.2.2 e
  ·simp only [aK0,aL4,aQ2,not_or] at hc'
   exact kp c o hc'.1 hc'.2.1 hc'.2.2.1 hc'.2.2.2 e
  ·refine (I.hok c u e).stay (fun c' o' hc2 q'=>?_) (fun _ q'=>q') fun _ _ q'=>q'
   rcases hc2 with rfl | hc2
   ·exact upH _ _ _ e q'
   ·exact upH _ _ _ hc2 q'
abbrev af3:=rT true true
theorem af4 {P:Program}{w:World}{K:PySem.W.Frag}{elts:List Expr}{k:Nat}{pos:Pos} (a b z TI TO i1 i2:Addr) (d : [z,TI,TO,i1,i2].Nodup) :
  fR P w K (.Tuple elts k pos) (rS K a b) [z,TI,TO,i1,i2] z (af3 z TI TO i1 i2 a b):=xV true true a b z TI TO i1 i2 d
section
variable {X : Cx}
def af5 (K:PySem.W.Frag) (ta:TA):TI:=fun σ H R=>ta σ H fun vs H1=>∃ a b xs ys,vs = [.ref a,.ref b]/\aI K H1 a xs/\aI K H1 b ys/\R (rS K a b) H1
theorem af6 {elts:List Expr}{kt:Nat}{pt:Pos}{a b:Expr}{ta:TA}{p pos:Pos} (hg:Gl X "zip") (hm:X.mg "zip" = none) (ha:PA X [a,b] ta) (hs:starEach [a,b] X.env = [(false,eval a X.env),(false,eval b X.env)]:=by rfl) (hs2:starEach [b] X.env = [(false,eval b X.env)]:=by rfl) :
  PI X (.Tuple elts kt pt) (.Call (.Name "zip" p) [a,b] [] pos) (af5 X.K ta):=by
 intro pins s σ H R I h
 refine Call_ (gK I hg hm PyProof.Rows.boot_zip (aO4 (aH (ha pos pins s σ H _ I h) fun us s1 ⟨vs,H1,I1,r1,q1⟩=>?_) (by rw [hs,hs2]) (by rw [hs2]; rfl)))
 obtain ⟨a',b',xs,ys,e,h1,h2,q⟩:=q1
 subst e
 cases r1 with
 | cons r rr=>
  cases rr with
  | cons r' rr=>
   cases rr
   cases r
   cases r'
   obtain ⟨us,_,p1,_⟩:=I1.tuple h1
   obtain ⟨ws,_,p2,_⟩:=I1.tuple h2
   refine Zp.af1 p1 p2 fun h' z ti to s1' s2' kp=>wpAny_pyIter_zip z ?_
   have fresh:∀ k,H1 (s1.heap.objs.size+k)=none:=fun k=>I1.hok.fresh (aQ0 _ _)
   refine⟨s1.heap.objs.size+4,[s1.heap.objs.size+4,s1.heap.objs.size+2,s1.heap.objs.size+3,s1.heap.objs.size,s1.heap.objs.size+1],_,_,H1,rfl,I1.kept (t':=s1.toks) kp,
    af4 a' b' _ _ _ _ _ (by simp),⟨z,ti,⟨_,_,to⟩,s1',s2'⟩,fun c hc=>?_,q⟩
   simp only [aK0,aL4,aQ2] at hc
   rcases hc with rfl | rfl | rfl | rfl | rfl
   ·exact I1.fpOk (aQ0 _ _) (fresh 4)
   ·exact I1.fpOk (aQ0 _ _) (fresh 2)
   ·exact I1.fpOk (aQ0 _ _) (fresh 3)
   ·exact I1.fpOk (aJ0 _) (fresh 0)
   ·exact I1.fpOk (aQ0 _ _) (fresh 1)
theorem rU (hc:X.calm=true):bU X (.builtin "all") (fun xs H Q=>∃ (a:Addr) (bs:List Bool),xs = [.ref a]/\aK X.K H a (bs.map V.bl)/\Q (.bl (bs.all id)) H):=by
 intro pins s σ H xs us Q I r h
 obtain ⟨a,bs,rfl,hq,q⟩:=h
 obtain ⟨u,rfl,ru⟩:=eC r
 cases ru
 obtain ⟨its,rv,p,hz⟩:=I.list hq
 have hl:=rv.length
 rw [aJ3] at hl
 have hlt:a < s.heap.objs.size:=by obtain ⟨o,e,_⟩:=p.isList; exact aK2 e
 refine call_all_walk (wpAny_pyIter_list p.isList ?_)
 have hh:X.A.in1.handled=none:=I.ok.hd hc
 refine⟨s.heap.objs.size,_,_,_,_,_,fun i=>bs.getD i false,rfl,Walks.list hh s.heap.objs.size a (aM4 hlt) its.toArray,⟨⟨_,aJ9 _ rfl,rfl,rfl⟩,p.isList.push _⟩,?_,fun h' tk kp=>?_⟩
 ·intro i v s' Q' E' hP hQ'
  have hi:its[i]? = some v:=by simpa using hP
  have hil:i < bs.length:=by rw [hl]; exact (aJ8.mp hi).1
  obtain ⟨u,e1,e2⟩:=rv.get (i:=i) (x:=.bl bs[i]) (by simp [hil])
  rw [hi] at e1; cases e1
  cases e2
  have:bs.getD i false=bs[i]:=by rw [aL2,aJ2 hil]; rfl
  have hQ2:Q' (bs.getD i false) s':=hQ'
  rw [this] at hQ2
  exact aR2 hQ2
 ·have all_eq:(List.range its.toArray.size).all (fun i=>bs.getD i false)=bs.all id:=by
   rw [aI9,<- hl]
   clear q rv hz hl hq hlt p hh kp
   induction bs with
   | nil=>rfl
   | cons b r ih=>
    rw [aO0,List.range_succ_eq_map,aT3,List.all_map,aT3,<- ih]
    rfl
  rw [all_eq]
  refine⟨.bl (bs.all id),H,I.kept (t':=tk) (h':=h') fun b o e=>kp b o (fun z=>?_) (aI8 _ e),rfl,q⟩
  rw [aJ5.mp z] at e
  exact absurd (aK2 e) (aN2 _)
end
structure rV (H:Hp) (J:It) (n:Nat) (R:Nat->V->Hp->Prop):Prop where
 go:∀ i H',a9 H H'->i < n->J.go i H'
 yld:∀ i H' x H2,a9 H H'->J.yld i H' x H2->i < n->a9 H' H2/\R i x H2
 stop:∀ H',a9 H H'->J.stop n H'
theorem rW {H1:Hp}{J:It}{n:Nat}{R:Nat->V->Hp->Prop}{g:TG}{tc:TT}{te:TE}{σ0:St}{Q:VK} (O:rV H1 J n R) (Pv:Nat->List V->Hp->Prop) (hn:n<=sizeLine)
  (h0:∀ D,H1 D=none->Pv 0 [] (upd H1 D (.lst [])))
  (mono:∀ i acc H' H2,a9 H' H2->Pv i acc H'->Pv i acc H2)
  (hs:∀ i x acc D H',i < n->R i x H'->nG H1 D n i acc H'->Pv i acc H'->g x σ0 H' fun σ2 H3=>Wk σ0 σ2/\tc σ2 H3 fun b H4=>
   if b=true then te σ2 H4 fun v H5=>rJ H1 D n Pv i acc v H5 else xD H1 D n Pv i acc H4)
  (hd:∀ D acc H',H1 D=none->a9 H1 H'->H' D=some (.lst acc)->acc.length<=n->Pv n acc H'->Q (.ref D) H') :
  ∀ D,H1 D=none->∃ W:Nat->Nat->List V->Hp->Prop,(∃ m,W 0 m [] (upd H1 D (.lst [])))/\lA g tc te σ0 J D Q W:=by
 intro D hD
 refine⟨CW H1 D n Pv,⟨n,rfl,aN0 _,aJ0 _,aY hD _,aV,h0 D hD⟩,?_⟩
 rintro i m acc H' ⟨rfl,hi,ha,sm,hDa,p⟩
 refine⟨hDa,?_⟩
 by_cases hlt:i < n
 ·refine .inr ⟨O.go i H' sm hlt,fun x H2 y=>?_⟩
  obtain ⟨s2,r2⟩:=O.yld i H' x H2 sm y hlt
  exact hs i x acc D H2 hlt r2 ⟨hlt,ha,hn,sm.trans s2,hD,s2 _ _ hDa⟩ (mono i acc H' H2 s2 p)
 ·have e:i=n:=by omega
  subst e
  exact .inl ⟨O.stop H' sm,hd D acc H' hD sm hDa ha p⟩
theorem xW {K:PySem.W.Frag}{H:Hp}{a b:Addr}{xs ys:List V} (ha:aI K H a xs) (hb:aI K H b ys) (hl:ys.length<=xs.length) :
  rV H (rS K a b) ys.length (fun i v H2=>∃ T x y,v = .ref T/\H2 T=some (.tup [x,y])/\xs[i]? = some x/\ys[i]? = some y):=by
 refine⟨fun i H' sm hi=>⟨xs,ys,xs[i]'(by omega),ys[i],sm.tup ha,sm.tup hb,by simp,by simp⟩,fun i H' v H2 sm y hi=>?_,fun H' sm=>⟨xs,ys,sm.tup ha,sm.tup hb,by omega⟩⟩
 obtain ⟨T,x,y',hT,hv,e,hxy⟩:=y
 subst e
 obtain ⟨h1,h2⟩:=hxy xs ys (sm.tup ha) (sm.tup hb)
 exact⟨aY hT _,T,x,y',hv,aV,h1,h2⟩
end L2
namespace HT
open PySem PyProof.Rows
section
variable {prog : Program} {w : World} {A : Around} {E : Value → Shared → Prop} {s : Shared}
theorem af7 {t sl:Addr}{items:Array Value}{vl vu:Value}{lo hi:Option Int}{Q:Value->Shared->Prop} (ht:IsTup s.heap t items) (hs:s.heap.IsSliceOf sl vl vu .none) (pl:IsPart vl lo) (pu:IsPart vu hi)
  (h1:aP items.size 0 lo=0) (h2:aP items.size items.size hi=items.size) (h:Q (.ref t) s):wpAny (model prog w) A (getItem (.ref t) (.ref sl)) Q E s:=by
 obtain ⟨o,e1,e2,e3⟩:=id hs
 have T:s.TypeIs (.ref sl) "slice":=⟨o,e1,e2⟩
 unfold getItem
 try with_reducible refine aQ6 ?_
 first | refine aI7 (aJ1 ?_) | skip
 apply aI7
 apply wpAny_sequenceKey ht.typeIs (by decide)
 apply aI7
 apply aP5 (name:=Str.ofString "__getitem__") ht.typeIs aS1
 apply aP9 aS1 ht.typeIs entry_tuple_getitem _ (args_tuple_getitem _ _)
 change wpAny _ _ (Builtin.Tuple.tupleItemsOf (.ref t) >>= _) _ _ s
 apply aI7
 apply tupleItemsOf_ ht
 apply aI7
 apply wpAny_typeOf T
 rw [if_pos (by decide)]
 apply aI7
 apply wC hs pl pu
 rw [h1,h2]
 have yes:((((0:Nat):Int) == 0 && (1:Int) == 1 && (items.size - 0) == items.size)=true):=by simp
 change wpAny _ _ (if ((((0:Nat):Int) == 0 && (1:Int) == 1 && (items.size - 0) == items.size)=true) then _ else _) _ _ s
 rw [if_pos yes]
 apply aI7
 unfold Builtin.Tuple.tupleIsExact
 apply aI7
 apply wpAny_typeOf ht.typeIs
 apply aJ1
 change wpAny _ _ (rule "tuple.getitem.whole" >>= fun _=>ret (Value.ref t)) _ _ s
 apply aI7
 apply wpAny_rule
 exact aJ1 ⟨_,rfl,aJ1 h⟩
end
end HT
namespace L2
open PySem PySem.Spec PyProof.Rows
section
variable {X : Cx}
def af8 (K:PySem.W.Frag):V->Option Int->Option Int->Hp->VK->Prop:=fun x lo hi H Q=>∃ a xs,x = .ref a/\aI K H a xs/\(∀ p,H p=none->Q (.ref p) (upd H p (.tup (dC xs lo hi))))/\(dC xs lo hi=xs->Q (.ref a) H)
theorem xX:i6 X (af8 X.K):=by
 intro pins s σ H x v vl vu lo hi sl Q I rx hs pl pu h
 obtain ⟨a,xs,ex,hx,q1,q2⟩:=h
 by_cases hw:HT.aP xs.length 0 lo=0/\HT.aP xs.length xs.length hi=xs.length
 ·subst ex
  cases rx
  obtain ⟨its,r,ht,hz⟩:=I.tuple hx
  have hlen:its.toArray.size=xs.length:=by rw [aI9]; exact r.length.symm
  refine⟨"tuple",_,PyProof.Rows.slot_tuple_getitem.lookup,ht.typeIs,?_⟩
  refine HT.af7 ht hs pl pu (by rw [hlen]; exact hw.1) (by rw [hlen]; exact hw.2) ⟨.ref a,H,I,rfl,q2 ?_⟩
  unfold dC
  rw [hw.1,hw.2]
  simp
 ·exact X8 pins s σ H x v vl vu lo hi sl Q I rx hs pl pu ⟨a,xs,ex,hx,hw,q1⟩
end
theorem rX (xs:List V):dC xs (some 1) none=xs.drop 1:=by
 unfold dC
 have e1:HT.aP xs.length 0 (some 1)=min 1 xs.length:=HT.w9 xs.length 0 1
 have e2:HT.aP xs.length xs.length none=xs.length:=rfl
 rw [e1,e2]
 cases xs with
 | nil=>rfl
 | cons x r=>
  have:min 1 (x :: r).length=1:=by simp
  rw [this]
  simp
def rY (K:PySem.W.Frag) (a b:Addr):It:=
  ⟨fun i H=>∃ xs ys x y,aK K H a xs/\aK K H b ys/\xs[i]? = some x/\ys[i]? = some y,
   fun i H v H'=>∃ T x y,H T=none/\v = .ref T/\H'=upd H T (.tup [x,y])/\∀ xs ys,aK K H a xs->aK K H b ys->xs[i]? = some x/\ys[i]? = some y,
   fun i H=>∃ xs ys,aK K H a xs/\aK K H b ys/\(i=xs.length ∨ (i < xs.length/\i=ys.length))⟩
abbrev af9:=rT false false
theorem ag0 {P:Program}{w:World}{K:PySem.W.Frag}{elts:List Expr}{k:Nat}{pos:Pos} (a b z TI TO i1 i2:Addr) (d : [z,TI,TO,i1,i2].Nodup) :
  fR P w K (.Tuple elts k pos) (rY K a b) [z,TI,TO,i1,i2] z (af9 z TI TO i1 i2 a b):=xV false false a b z TI TO i1 i2 d
section
variable {X : Cx}
def ag1 (K:PySem.W.Frag) (ta:TA):TI:=fun σ H R=>ta σ H fun vs H1=>∃ a b xs ys,vs = [.ref a,.ref b]/\aK K H1 a xs/\aK K H1 b ys/\R (rY K a b) H1
theorem ag2 {elts:List Expr}{kt:Nat}{pt:Pos}{a b:Expr}{ta:TA}{p pos:Pos} (hg:Gl X "zip") (hm:X.mg "zip" = none) (ha:PA X [a,b] ta) (hs:starEach [a,b] X.env = [(false,eval a X.env),(false,eval b X.env)]:=by rfl) (hs2:starEach [b] X.env = [(false,eval b X.env)]:=by rfl) :
  PI X (.Tuple elts kt pt) (.Call (.Name "zip" p) [a,b] [] pos) (ag1 X.K ta):=by
 intro pins s σ H R I h
 refine Call_ (gK I hg hm PyProof.Rows.boot_zip (aO4 (aH (ha pos pins s σ H _ I h) fun us s1 ⟨vs,H1,I1,r1,q1⟩=>?_) (by rw [hs,hs2]) (by rw [hs2]; rfl)))
 obtain ⟨a',b',xs,ys,e,h1,h2,q⟩:=q1
 subst e
 cases r1 with
 | cons r rr=>
  cases rr with
  | cons r' rr=>
   cases rr
   cases r
   cases r'
   obtain ⟨us,_,p1,_⟩:=I1.list h1
   obtain ⟨ws,_,p2,_⟩:=I1.list h2
   refine call_zip_2 p1.isList p2.isList fun h' z ti to s1' s2' _ kp=>wpAny_pyIter_zip z ?_
   have fresh:∀ k,H1 (s1.heap.objs.size+k)=none:=fun k=>I1.hok.fresh (aQ0 _ _)
   refine⟨s1.heap.objs.size+4,[s1.heap.objs.size+4,s1.heap.objs.size+2,s1.heap.objs.size+3,s1.heap.objs.size,s1.heap.objs.size+1],_,_,H1,rfl,I1.kept (t':=s1.toks) kp,
    ag0 a' b' _ _ _ _ _ (by simp),⟨z,ti,⟨_,_,to⟩,s1',s2'⟩,fun c hc=>?_,q⟩
   simp only [aK0,aL4,aQ2] at hc
   rcases hc with rfl | rfl | rfl | rfl | rfl
   ·exact I1.fpOk (aQ0 _ _) (fresh 4)
   ·exact I1.fpOk (aQ0 _ _) (fresh 2)
   ·exact I1.fpOk (aQ0 _ _) (fresh 3)
   ·exact I1.fpOk (aJ0 _) (fresh 0)
   ·exact I1.fpOk (aQ0 _ _) (fresh 1)
end
theorem ag3 {K:PySem.W.Frag}{H:Hp}{a b:Addr}{xs ys:List V} (ha:aK K H a xs) (hb:aK K H b ys) (hl:ys.length<=xs.length) :
  rV H (rY K a b) ys.length (fun i v H2=>∃ T x y,v = .ref T/\H2 T=some (.tup [x,y])/\xs[i]? = some x/\ys[i]? = some y):=by
 refine⟨fun i H' sm hi=>⟨xs,ys,xs[i]'(by omega),ys[i],sm.seq ha,sm.seq hb,by simp,by simp⟩,fun i H' v H2 sm y hi=>?_,fun H' sm=>⟨xs,ys,sm.seq ha,sm.seq hb,by omega⟩⟩
 obtain ⟨T,x,y',hT,hv,e,hxy⟩:=y
 subst e
 obtain ⟨h1,h2⟩:=hxy xs ys (sm.seq ha) (sm.seq hb)
 exact⟨aY hT _,T,x,y',hv,aV,h1,h2⟩
end L2
namespace PP
open PySem L2
inductive PV where
 | non | bl (b:Bool) | int (i:Int) | str (x:Str) | tup (xs:List PV) | lst (xs:List PV)
 | dK (kvs:List (aD × PV)) | dT (kvs:List (List aD × PV)) | scr (ns:List Int) | kt (xs:List PV) | exc (c:Str)
mutual
def flat:PV->Bool
 | .tup xs=>flats xs
 | .lst _=>false
 | .dK _=>false
 | .dT _=>false
 | .non=>true
 | .bl _=>true
 | .int _=>true
 | .str _=>true
 | .scr _=>true
 | .kt xs=>flats xs
 | .exc _=>true
def flats:List PV->Bool
 | []=>true
 | x :: r=>flat x && flats r
end
def gV (K:PySem.W.Frag) (H:Hp) (a:Addr) (ns:List Int):Prop:=(∃ o,H a=some (.frz o (.lst (ns.map V.int)))) ∨
  ∃ (o:Obj) (its:Array Value) (n:Nat),K.lookup a=some o/\o.cls = .type "list"/\o.dict=none/\o.data = .seq its n/\its.size<=sizeLine/\aG (ns.map V.int) its.toList
def jO (K:PySem.W.Frag) (a:Addr) (us:List V):Prop:=∃ (o:Obj) (its:Array Value) (n:Nat),K.lookup a=some o/\o.cls = .type "tuple"/\o.data = .seq its n/\its.size<=sizeLine/\aG us its.toList
mutual
inductive aE (K:PySem.W.Frag) (M:Addr->Prop) (H:Hp):V->PV->Prop
 | non:aE K M H .non .non
 | bl (b:Bool):aE K M H (.bl b) (.bl b)
 | int (i:Int):aE K M H (.int i) (.int i)
 | str (x:Str):aE K M H (.str x) (.str x)
 | tup {a:Addr}{us:List V}{xs:List PV}:H a=some (.tup us)->Reps K M H us xs->aE K M H (.ref a) (.tup xs)
 | lst {a:Addr}{us:List V}{xs:List PV}:M a->H a=some (.lst us)->Reps K M H us xs->aE K M H (.ref a) (.lst xs)
 | dK {a:Addr}{kvs:List (aD × V)}{ps:List (aD × PV)}:M a->H a=some (.dK kvs)->kvs.map (·.1)=ps.map (·.1)->Reps K M H (kvs.map (·.2)) (ps.map (·.2))->aE K M H (.ref a) (.dK ps)
 | dT {a:Addr}{kvs:List (List aD × V)}{ps:List (List aD × PV)}:M a->H a=some (.dT kvs)->kvs.map (·.1)=ps.map (·.1)->Reps K M H (kvs.map (·.2)) (ps.map (·.2))->aE K M H (.ref a) (.dT ps)
 | scr {a:Addr}{ns:List Int}:gV K H a ns->aE K M H (.ref a) (.scr ns)
 | kt {a:Addr}{us:List V}{xs:List PV}:jO K a us->Reps K M H us xs->aE K M H (.ref a) (.kt xs)
 | exc {a C:Addr}{o:Obj}{c:Str}:H a=some (.frz o (.own a))->PySem.W.nsIn K mainGlobals c=some (some (.ref C))->o.cls = .ref C->aE K M H (.ref a) (.exc c)
inductive Reps (K:PySem.W.Frag) (M:Addr->Prop) (H:Hp):List V->List PV->Prop
 | nil:Reps K M H [] []
 | cons {v:V}{x:PV}{vs:List V}{xs:List PV}:aE K M H v x->Reps K M H vs xs->Reps K M H (v :: vs) (x :: xs)
end
structure fH (M M':Addr->Prop) (H H':Hp):Prop where
 lst:∀ a us,M a->H a=some (.lst us)->M' a/\H' a=some (.lst us)
 dK:∀ a kvs,M a->H a=some (.dK kvs)->M' a/\H' a=some (.dK kvs)
 dT:∀ a kvs,M a->H a=some (.dT kvs)->M' a/\H' a=some (.dT kvs)
 tup:∀ a us,H a=some (.tup us)->H' a=some (.tup us)
 frz:∀ a o u,H a=some (.frz o u)->H' a=some (.frz o u)
theorem gV.keep {K:PySem.W.Frag}{H H':Hp}{a:Addr}{ns:List Int} (k:∀ a o u,H a=some (.frz o u)->H' a=some (.frz o u)) (h:gV K H a ns):gV K H' a ns:=
 h.elim (fun ⟨o,e⟩=>.inl ⟨o,k _ _ _ e⟩) .inr
mutual
theorem aE.keep {K:PySem.W.Frag}{M M':Addr->Prop}{H H':Hp} (k:fH M M' H H'):∀ {v:V}{x:PV},aE K M H v x->aE K M' H' v x
 | _,_,.non=>.non
 | _,_,.bl b=>.bl b
 | _,_,.int i=>.int i
 | _,_,.str x=>.str x
 | _,_,.tup h r=>.tup (k.tup _ _ h) (Reps.keep k r)
 | _,_,.lst m h r=>.lst (k.lst _ _ m h).1 (k.lst _ _ m h).2 (Reps.keep k r)
 | _,_,.dK m h e r=>.dK (k.dK _ _ m h).1 (k.dK _ _ m h).2 e (Reps.keep k r)
 | _,_,.dT m h e r=>.dT (k.dT _ _ m h).1 (k.dT _ _ m h).2 e (Reps.keep k r)
 | _,_,.scr h=>.scr (h.keep k.frz)
 | _,_,.kt h r=>.kt h (Reps.keep k r)
 | _,_,.exc h e c=>.exc (k.frz _ _ _ h) e c
theorem Reps.keep {K:PySem.W.Frag}{M M':Addr->Prop}{H H':Hp} (k:fH M M' H H'):∀ {vs:List V}{xs:List PV},Reps K M H vs xs->Reps K M' H' vs xs
 | _,_,.nil=>.nil
 | _,_,.cons r t=>.cons (aE.keep k r) (Reps.keep k t)
end
mutual
theorem aE.flat {K:PySem.W.Frag}{M M':Addr->Prop}{H:Hp}{v:V}{x:PV} (f:flat x=true) (r:aE K M H v x):aE K M' H v x:=by
 cases r with
 | non=>exact .non
 | bl b=>exact .bl b
 | int i=>exact .int i
 | str x=>exact .str x
 | tup h r=>exact .tup h (Reps.flat (by unfold PP.flat at f; exact f) r)
 | lst m h r=>unfold PP.flat at f; cases f
 | dK m h e r=>unfold PP.flat at f; cases f
 | dT m h e r=>unfold PP.flat at f; cases f
 | scr h=>exact .scr h
 | kt h r=>exact .kt h (Reps.flat (by unfold PP.flat at f; exact f) r)
 | exc h e c=>exact .exc h e c
theorem Reps.flat {K:PySem.W.Frag}{M M':Addr->Prop}{H:Hp}{vs:List V}{xs:List PV} (f:flats xs=true) (r:Reps K M H vs xs):Reps K M' H vs xs:=by
 cases r with
 | nil=>exact .nil
 | cons r t=>
  unfold PP.flats at f
  rw [aM2] at f
  exact .cons (aE.flat f.1 r) (Reps.flat f.2 t)
end
theorem fH.same {M M':Addr->Prop}{H H':Hp} (s:a9 H H') (m:∀ a,M a->M' a):fH M M' H H':=
 ⟨fun a _ h e=>⟨m a h,s _ _ e⟩,fun a _ h e=>⟨m a h,s _ _ e⟩,fun a _ h e=>⟨m a h,s _ _ e⟩,fun _ _ e=>s _ _ e,fun _ _ _ e=>s _ _ e⟩
theorem aE.same {K:PySem.W.Frag}{M M':Addr->Prop}{H H':Hp}{v:V}{x:PV} (r:aE K M H v x) (s:a9 H H') (m:∀ a,M a->M' a):aE K M' H' v x:=r.keep (.same s m)
theorem Reps.same {K:PySem.W.Frag}{M M':Addr->Prop}{H H':Hp}{v:List V}{x:List PV} (r:Reps K M H v x) (s:a9 H H') (m:∀ a,M a->M' a):Reps K M' H' v x:=r.keep (.same s m)
def fU:HO->Bool
 | .lst _=>true
 | .dK _=>true
 | .dT _=>true
 | _=>false
theorem fH.upd {M M':Addr->Prop}{H:Hp}{a:Addr}{o o':HO} (h:H a=some o') (mu:fU o'=true) (m:∀ b,M b->b ≠ a/\M' b):fH M M' H (upd H a o):=
 ⟨fun b _ hb e=>⟨(m b hb).2,by rw [aJ (m b hb).1]; exact e⟩,fun b _ hb e=>⟨(m b hb).2,by rw [aJ (m b hb).1]; exact e⟩,fun b _ hb e=>⟨(m b hb).2,by rw [aJ (m b hb).1]; exact e⟩,
  fun b _ e=>by rw [aJ (fun z=>by rw [z,h] at e; cases e; cases mu)]; exact e,
  fun b _ _ e=>by rw [aJ (fun z=>by rw [z,h] at e; cases e; cases mu)]; exact e⟩
theorem Reps.length {K:PySem.W.Frag}{M:Addr->Prop}{H:Hp}:∀ {vs:List V}{xs:List PV},Reps K M H vs xs->vs.length=xs.length
 | _,_,.nil=>rfl
 | _,_,.cons _ t=>congrArg (· + 1) t.length
theorem Reps.get {K:PySem.W.Frag}{M:Addr->Prop}{H:Hp}:∀ {vs:List V}{xs:List PV}{i:Nat}{v:V},Reps K M H vs xs->vs[i]? = some v->∃ x,xs[i]? = some x/\aE K M H v x
 | _,_,_,_,.nil,e=>by simp at e
 | _,_,0,_,.cons r _,e=>by simp at e; subst e; exact⟨_,rfl,r⟩
 | _,_,i+1,v,.cons _ t,e=>by
  rw [aM0] at e
  obtain ⟨x,h1,h2⟩:=t.get e
  exact⟨x,by rw [aM0]; exact h1,h2⟩
theorem Reps.at {K:PySem.W.Frag}{M:Addr->Prop}{H:Hp}:∀ {vs:List V}{xs:List PV}{i:Nat}{x:PV},Reps K M H vs xs->xs[i]? = some x->∃ v,vs[i]? = some v/\aE K M H v x
 | _,_,_,_,.nil,e=>by simp at e
 | _,_,0,_,.cons r _,e=>by simp at e; subst e; exact⟨_,rfl,r⟩
 | _,_,i+1,v,.cons _ t,e=>by
  rw [aM0] at e
  obtain ⟨x,h1,h2⟩:=t.at e
  exact⟨x,by rw [aM0]; exact h1,h2⟩
theorem Reps.append {K:PySem.W.Frag}{M:Addr->Prop}{H:Hp}:∀ {vs:List V}{xs:List PV}{us:List V}{ys:List PV},Reps K M H vs xs->Reps K M H us ys->Reps K M H (vs ++ us) (xs ++ ys)
 | _,_,_,_,.nil,s=>s
 | _,_,_,_,.cons r t,s=>.cons r (t.append s)
theorem Reps.set {K:PySem.W.Frag}{M:Addr->Prop}{H:Hp}{v:V}{x:PV} (q:aE K M H v x):∀ (i:Nat) {vs:List V}{xs:List PV},Reps K M H vs xs->Reps K M H (vs.set i v) (xs.set i x)
 | _,_,_,.nil=>.nil
 | 0,_,_,.cons r t=>.cons q t
 | i+1,_,_,.cons r t=>.cons r (Reps.set q i t)
theorem Reps.take {K:PySem.W.Frag}{M:Addr->Prop}{H:Hp}:∀ (n:Nat) {vs:List V}{xs:List PV},Reps K M H vs xs->Reps K M H (vs.take n) (xs.take n)
 | 0,_,_,_=>by simp; exact .nil
 | _+1,_,_,.nil=>.nil
 | n+1,_,_,.cons r t=>.cons r (Reps.take n t)
theorem Reps.drop {K:PySem.W.Frag}{M:Addr->Prop}{H:Hp}:∀ (n:Nat) {vs:List V}{xs:List PV},Reps K M H vs xs->Reps K M H (vs.drop n) (xs.drop n)
 | 0,_,_,r=>r
 | _+1,_,_,.nil=>.nil
 | n+1,_,_,.cons _ t=>Reps.drop n t
theorem Reps.eraseIdx {K:PySem.W.Frag}{M:Addr->Prop}{H:Hp}:∀ (n:Nat) {vs:List V}{xs:List PV},Reps K M H vs xs->Reps K M H (vs.eraseIdx n) (xs.eraseIdx n)
 | _,_,_,.nil=>.nil
 | 0,_,_,.cons _ t=>t
 | n+1,_,_,.cons r t=>.cons r (Reps.eraseIdx n t)
abbrev intz (ns:List Int):List PV:=ns.map PV.int
theorem Reps.intz {K:PySem.W.Frag}{M:Addr->Prop}{H:Hp}:∀ (ns:List Int),Reps K M H (ns.map V.int) (intz ns)
 | []=>.nil
 | n :: r=>.cons (.int n) (Reps.intz r)
theorem Reps.ofInts {K:PySem.W.Frag}{M:Addr->Prop}{H:Hp}:∀ {ns:List Int}{us:List V},Reps K M H us (PP.intz ns)->us=ns.map V.int
 | [],_,.nil=>rfl
 | n :: r,_,.cons q t=>by
  cases q
  rw [Reps.ofInts t]; rfl
theorem cD:∀ (ns:List Int),flats (intz ns)=true
 | []=>rfl
 | n :: r=>by show (flat (.int n) && flats (intz r))=true; rw [cD r]; rfl
inductive Tg | rd | sh | nw | fr
inductive Slot | sh (g:Bool) (x:PV) | own (x:PV)
def Slot.val:Slot->PV
 | .sh _ x=>x
 | .own x=>x
def Slot.tag:Slot->Tg
 | .sh true _=>.nw
 | .sh false _=>.sh
 | .own _=>.rd
abbrev b5:=List (Option Slot)
def Ms (H0:Hp) (W:Addr->Prop):Bool->Addr->Prop
 | false,a=>¬ W a
 | true,a=>¬ W a/\H0 a=none
def Mg (H0:Hp) (W:Addr->Prop) (Hs:Hp):Tg->Addr->Prop
 | .rd,_=>True
 | .sh,a=>¬ W a
 | .nw,a=>¬ W a/\H0 a=none
 | .fr,a=>Hs a=none
def eW (K:PySem.W.Frag) (M:Addr->Prop) (H:Hp) (a:Addr):PV->Prop
 | .lst xs=>∃ us,H a=some (.lst us)/\Reps K M H us xs
 | .dK ps=>∃ kvs,H a=some (.dK kvs)/\kvs.map (·.1)=ps.map (·.1)/\Reps K M H (kvs.map (·.2)) (ps.map (·.2))
 | .dT ps=>∃ kvs,H a=some (.dT kvs)/\kvs.map (·.1)=ps.map (·.1)/\Reps K M H (kvs.map (·.2)) (ps.map (·.2))
 | _=>False
def xY (K:PySem.W.Frag) (H0:Hp) (W:Addr->Prop) (H:Hp) (v:V):Slot->Prop
 | .sh g x=>aE K (Ms H0 W g) H v x
 | .own x=>∃ a,v = .ref a/\W a/\eW K (Ms H0 W true) H a x
structure PX (K:PySem.W.Frag) (H0:Hp) (W:Addr->Prop) (σ:St) (ρ:b5) (H:Hp):Prop where
 len:ρ.length=σ.length
 same:a9 H0 H
 wm:∀ a,W a->H0 a=none/\∃ o,H a=some o/\fU o=true
 sl:∀ (i:Nat) (m:Slot),ρ[i]? = some (some m)->∃ v,σ[i]? = some (some v)/\xY K H0 W H v m
 dis:∀ (i j:Nat) (x y:PV) (a:Addr),ρ[i]? = some (some (.own x))->ρ[j]? = some (some (.own y))->σ[i]? = some (some (.ref a))->σ[j]? = some (some (.ref a))->i=j
theorem eW.keep {K:PySem.W.Frag}{M M':Addr->Prop}{H H':Hp}{a:Addr} (k:fH M M' H H') (ha:∀ o,H a=some o->H' a=some o):∀ {x:PV},eW K M H a x->eW K M' H' a x
 | .lst _,⟨us,e,r⟩=>⟨us,ha _ e,r.keep k⟩
 | .dK _,⟨us,e,q,r⟩=>⟨us,ha _ e,q,r.keep k⟩
 | .dT _,⟨us,e,q,r⟩=>⟨us,ha _ e,q,r.keep k⟩
theorem eW.at {K:PySem.W.Frag}{M:Addr->Prop}{H:Hp}{a:Addr}:∀ {x:PV},eW K M H a x->∃ o,H a=some o/\fU o=true
 | .lst _,⟨us,e,r⟩=>⟨_,e,rfl⟩
 | .dK _,⟨us,e,q,r⟩=>⟨_,e,rfl⟩
 | .dT _,⟨us,e,q,r⟩=>⟨_,e,rfl⟩
theorem eW.rep {K:PySem.W.Frag}{M M':Addr->Prop}{H:Hp}{a:Addr} (m:∀ b,M b->M' b) (ha:M' a):∀ {x:PV},eW K M H a x->aE K M' H (.ref a) x
 | .lst _,⟨us,e,r⟩=>.lst ha e (r.same (a9.refl _) m)
 | .dK _,⟨us,e,q,r⟩=>.dK ha e q (r.same (a9.refl _) m)
 | .dT _,⟨us,e,q,r⟩=>.dT ha e q (r.same (a9.refl _) m)
section
variable {K : PySem.W.Frag} {H0 : Hp} {W W' : Addr → Prop} {σ : St} {ρ : b5} {H H' : Hp}
theorem PX.mono (p:PX K H0 W σ ρ H) (s:a9 H H'):PX K H0 W σ ρ H':=by
 refine⟨p.len,p.same.trans s,fun a h=>⟨(p.wm a h).1,let ⟨o,e,m⟩:=(p.wm a h).2; ⟨o,s _ _ e,m⟩⟩,fun i m h=>?_,p.dis⟩
 obtain ⟨v,e,r⟩:=p.sl i m h
 refine⟨v,e,?_⟩
 cases m with
 | sh g x=>exact aE.same r s fun _ z=>z
 | own x=>
  obtain ⟨a,e1,e2,r⟩:=r
  exact⟨a,e1,e2,r.keep (.same s fun _ z=>z) fun _ z=>s _ _ z⟩
theorem PX.new (p:PX K H0 W σ ρ H) {a:Addr} (h:H a=none) : ¬ W a/\H0 a=none:=
 ⟨fun z=>(by obtain ⟨_,o,e,_⟩:=p.wm a z; rw [h] at e; cases e),p.same.free h⟩
theorem Mg.back {g:Tg}{H1:Hp} (s:a9 H H1) {a:Addr} (h:Mg H0 W H1 g a):Mg H0 W H g a:=by
 cases g with
 | fr=>exact s.free h
 | rd=>exact h
 | sh=>exact h
 | nw=>exact h
end
abbrev PK:=PV->Tg->Prop
abbrev aB:=b5->PK->Prop
abbrev bI:=b5->(Bool->Prop)->Prop
abbrev bX:=b5->(List (PV × Tg)->Prop)->Prop
inductive eY (K:PySem.W.Frag) (H0:Hp) (W:Addr->Prop) (Hs H:Hp):List V->List (PV × Tg)->Prop
 | nil:eY K H0 W Hs H [] []
 | cons {v:V}{x:PV}{g:Tg}{vs:List V}{xs:List (PV × Tg)}:aE K (Mg H0 W Hs g) H v x->eY K H0 W Hs H vs xs->eY K H0 W Hs H (v :: vs) ((x,g) :: xs)
def nP (K:PySem.W.Frag) (H0:Hp) (W:Addr->Prop) (H:Hp) (Q:PK) (Q':VK):Prop:=∀ v H' x g,a9 H H'->aE K (Mg H0 W H g) H' v x->Q x g->Q' v H'
def LE (X:Cx) (t:aB):TE:=fun σ H Q'=>∃ (W:Addr->Prop) (ρ:b5) (Q:PK),PX X.K X.H₀ W σ ρ H/\t ρ Q/\nP X.K X.H₀ W H Q Q'
def LT (X:Cx) (t:bI):TT:=fun σ H Q'=>∃ (W:Addr->Prop) (ρ:b5) (Q:Bool->Prop),PX X.K X.H₀ W σ ρ H/\t ρ Q/\∀ b H',a9 H H'->Q b->Q' b H'
def LA (X:Cx) (t:bX):TA:=fun σ H Q'=>∃ (W:Addr->Prop) (ρ:b5) (Q:List (PV × Tg)->Prop),PX X.K X.H₀ W σ ρ H/\t ρ Q/\∀ vs H' xs,a9 H H'->eY X.K X.H₀ W H H' vs xs->Q xs->Q' vs H'
theorem eY.same {K:PySem.W.Frag}{H0:Hp}{W:Addr->Prop}{Hs Hs' H H':Hp} (s:a9 H H') (b:a9 Hs' Hs):∀ {vs:List V}{xs:List (PV × Tg)},eY K H0 W Hs H vs xs->eY K H0 W Hs' H' vs xs
 | _,_,.nil=>.nil
 | _,_,.cons r t=>.cons (r.same s fun _ z=>Mg.back b z) (t.same s b)
theorem eY.any {K:PySem.W.Frag}{H0:Hp}{W:Addr->Prop}{Hs H:Hp}:∀ {vs:List V}{xs:List (PV × Tg)},eY K H0 W Hs H vs xs->Reps K (fun _=>True) H vs (xs.map (·.1))
 | _,_,.nil=>.nil
 | _,_,.cons r t=>.cons (r.same (a9.refl _) fun _ _=>trivial) t.any
def Nw:Tg->PV->Prop
 | .fr,_=>True
 | .nw,_=>True
 | _,x=>flat x=true
def lF (xs:List (PV × Tg)):Prop:=∀ p ∈ xs,Nw p.2 p.1
section
variable {K : PySem.W.Frag} {H0 Hs H : Hp} {W : Addr → Prop} {σ : St} {ρ : b5}
theorem Nw.rep {g:Tg}{x:PV}{v:V} (px:PX K H0 W σ ρ Hs) (n:Nw g x) (r:aE K (Mg H0 W Hs g) H v x):aE K (Ms H0 W true) H v x:=by
 cases g with
 | fr=>exact r.same (a9.refl _) fun a z=>px.new z
 | nw=>exact r.same (a9.refl _) fun a z=>z
 | sh=>exact r.flat n
 | rd=>exact r.flat n
theorem lF.reps {vs:List V}:∀ {xs:List (PV × Tg)}{vs:List V},PX K H0 W σ ρ Hs->lF xs->eY K H0 W Hs H vs xs->Reps K (Ms H0 W true) H vs (xs.map (·.1))
 | _,_,px,n,.nil=>.nil
 | _,_,px,n,.cons r t=>.cons (Nw.rep px (n _ aK1) r) (lF.reps (vs:=vs) px (fun p hp=>n p (aL0 _ hp)) t)
theorem nQ {v:V}{m:Slot} (r:xY K H0 W H v m):aE K (Mg H0 W Hs m.tag) H v m.val:=by
 cases m with
 | sh g x=>
  cases g with
  | true=>exact aE.same r (a9.refl _) fun _ z=>z
  | false=>exact aE.same r (a9.refl _) fun _ z=>z
 | own x=>
  obtain ⟨a,rfl,_,r⟩:=r
  exact r.rep (fun _ _=>trivial) trivial
end
section
variable {X : Cx} {σ : St} {H : Hp} {Q' : VK} {ta tb : aB}
def a6 (i:Nat):aB:=fun ρ Q=>∃ m,ρ[i]? = some (some m)/\Q m.val m.tag
def qC (x:PV):aB:=fun _ Q=>Q x .fr
theorem ag4 {i:Nat} (h:LE X (a6 i) σ H Q'):eM i σ H Q':=by
 obtain ⟨W,ρ,Q,px,⟨m,e,q⟩,k⟩:=h
 obtain ⟨v,ev,r⟩:=px.sl i m e
 exact⟨v,ev,k v H _ _ (a9.refl _) (nQ r) q⟩
theorem lG {x:PV}{v:V} (hr:∀ M,aE X.K M H v x) (h:LE X (qC x) σ H Q'):tC v σ H Q':=by
 obtain ⟨W,ρ,Q,px,q,k⟩:=h
 exact k v H _ _ (a9.refl _) (hr _) q
def dI (X:Cx) (R:PV->Tg->PV->Tg->PK->Prop) (r:R2):Prop:=∀ (W:Addr->Prop) (Hs H:Hp) (u v:V) (x y:PV) (g g':Tg) (Q:PK) (Q':VK),a9 Hs H->
 (∀ a,Hs a=none->¬ W a/\X.H₀ a=none)->aE X.K (Mg X.H₀ W Hs g) H u x->aE X.K (Mg X.H₀ W Hs g') H v y->R x g y g' Q->(∀ w H' z gz,a9 H H'->aE X.K (Mg X.H₀ W Hs gz) H' w z->Q z gz->Q' w H')->r u v H Q'
def q2 (R:PV->Tg->PV->Tg->PK->Prop) (ta tb:aB):aB:=fun ρ Q=>ta ρ fun x g=>tb ρ fun y g'=>R x g y g' Q
theorem nR {R:PV->Tg->PV->Tg->PK->Prop}{r:R2} (c:dI X R r) (h:LE X (q2 R ta tb) σ H Q'):kT r (LE X ta) (LE X tb) σ H Q':=by
 obtain ⟨W,ρ,Q,px,q,k⟩:=h
 refine⟨W,ρ,_,px,q,fun u H1 x g s1 r1 q1=>⟨W,ρ,_,px.mono s1,q1,fun v H2 y g' s2 r2 q2=>?_⟩⟩
 exact c W H H2 u v x y g g' Q Q' (s1.trans s2) (fun a z=>px.new z) (r1.same s2 fun _ z=>z) (r2.same (a9.refl _) fun _ z=>Mg.back s1 z) q2 fun w H' z gz s3 r3 q3=>k w H' z gz ((s1.trans s2).trans s3) r3 q3
def RI (C:Int->Int->Prop) (f:Int->Int->PV):PV->Tg->PV->Tg->PK->Prop:=fun x _ y _ Q=>∃ i j,x = .int i/\y = .int j/\C i j/\Q (f i j) .fr
def eG (f:Int->Int->PV):PV->Tg->PV->Tg->PK->Prop:=fun x _ y _ Q=>∃ i j,x = .int i/\y = .int j/\Q (f i j) .fr
theorem nS {C:Int->Int->Prop}{f:Int->Int->Int}:dI X (RI C fun i j=>.int (f i j)) (rI C fun i j=>.int (f i j)):=by
 rintro W Hs H u v x y g g' Q Q' s n r1 r2 ⟨i,j,rfl,rfl,c,q⟩ k
 cases r1; cases r2
 exact⟨i,j,rfl,rfl,c,k _ _ _ _ (a9.refl _) (.int _) q⟩
theorem xZ {f:Int->Int->Int}:dI X (eG fun i j=>.int (f i j)) (gN fun i j=>.int (f i j)):=by
 rintro W Hs H u v x y g g' Q Q' s n r1 r2 ⟨i,j,rfl,rfl,q⟩ k
 cases r1; cases r2
 exact⟨i,j,rfl,rfl,k _ _ _ _ (a9.refl _) (.int _) q⟩
theorem nT {f:Int->Int->Bool}:dI X (eG fun i j=>.bl (f i j)) (gN fun i j=>.bl (f i j)):=by
 rintro W Hs H u v x y g g' Q Q' s n r1 r2 ⟨i,j,rfl,rfl,q⟩ k
 cases r1; cases r2
 exact⟨i,j,rfl,rfl,k _ _ _ _ (a9.refl _) (.bl _) q⟩
def iA (neg:Bool):PV->Tg->PV->Tg->PK->Prop:=fun x _ y _ Q=>(∃ i j,x = .int i/\y = .int j/\Q (.bl (if neg=true then !decide (i=j) else decide (i=j))) .fr) ∨ (∃ i j,x = .bl i/\y = .bl j/\Q (.bl (if neg=true then !decide (i=j) else decide (i=j))) .fr)
theorem y3 (i j:Int):decide (V.int i=V.int j)=decide (i=j):=by
 rw [aS9,aU8,aU8]; exact⟨fun z=>V.int.inj z,fun z=>congrArg V.int z⟩
theorem y8 (i j:Bool):decide (V.bl i=V.bl j)=decide (i=j):=by
 rw [aS9,aU8,aU8]; exact⟨fun z=>V.bl.inj z,fun z=>congrArg V.bl z⟩
theorem y9:dI X (iA false) vJ:=by
 rintro W Hs H u v x y g g' Q Q' s n r1 r2 (⟨i,j,rfl,rfl,q⟩ | ⟨i,j,rfl,rfl,q⟩) k
 ·cases r1; cases r2
  exact⟨rfl,by rw [y3]; exact k _ _ _ _ (a9.refl _) (.bl _) q⟩
 ·cases r1; cases r2
  exact⟨rfl,by rw [y8]; exact k _ _ _ _ (a9.refl _) (.bl _) q⟩
theorem yA:dI X (iA true) vK:=by
 rintro W Hs H u v x y g g' Q Q' s n r1 r2 (⟨i,j,rfl,rfl,q⟩ | ⟨i,j,rfl,rfl,q⟩) k
 ·cases r1; cases r2
  exact⟨rfl,by rw [y3]; exact k _ _ _ _ (a9.refl _) (.bl _) q⟩
 ·cases r1; cases r2
  exact⟨rfl,by rw [y8]; exact k _ _ _ _ (a9.refl _) (.bl _) q⟩
def aZ (t:aB):bI:=fun ρ Q=>t ρ fun x _=>∃ b,x = .bl b/\Q b
theorem rZ {t:aB}{Q':Bool->Hp->Prop} (h:LT X (aZ t) σ H Q'):LE X t σ H fun x H'=>∃ k,x = .bl k/\Q' k H':=by
 obtain ⟨W,ρ,Q,px,q,k⟩:=h
 refine⟨W,ρ,_,px,q,?_⟩
 rintro v H1 x g s r ⟨b,rfl,q⟩
 cases r
 exact⟨b,rfl,k _ _ s q⟩
def nU (t u:bI):bI:=fun ρ Q=>t ρ fun c=>if c=true then u ρ Q else Q false
def nV (t u:bI):bI:=fun ρ Q=>t ρ fun c=>if c=true then Q true else u ρ Q
def iP (t:bI):bI:=fun ρ Q=>t ρ fun c=>Q (!c)
variable {t u : bI} {Qb : Bool → Hp → Prop}
theorem ag5 (h:LT X (nU t u) σ H Qb):uT (LT X t) (LT X u) σ H Qb:=by
 obtain ⟨W,ρ,Q,px,q,k⟩:=h
 refine⟨W,ρ,_,px,q,fun b H1 s1 q1=>?_⟩
 cases b with
 | true=>exact b4 ⟨W,ρ,Q,px.mono s1,by simpa using q1,fun b H2 s2 q2=>k _ _ (s1.trans s2) q2⟩
 | false=>exact aW (k _ _ s1 (by simpa using q1))
theorem ag6 (h:LT X (nV t u) σ H Qb):uU (LT X t) (LT X u) σ H Qb:=by
 obtain ⟨W,ρ,Q,px,q,k⟩:=h
 refine⟨W,ρ,_,px,q,fun b H1 s1 q1=>?_⟩
 cases b with
 | false=>exact aW ⟨W,ρ,Q,px.mono s1,by simpa using q1,fun b H2 s2 q2=>k _ _ (s1.trans s2) q2⟩
 | true=>exact b4 (k _ _ s1 (by simpa using q1))
theorem ag7 (h:LT X (iP t) σ H Qb):uV (LT X t) σ H Qb:=by
 obtain ⟨W,ρ,Q,px,q,k⟩:=h
 exact⟨W,ρ,_,px,q,fun b H1 s1 q1=>k _ _ s1 q1⟩
def jP (ta tb:aB):aB:=fun ρ Q=>ta ρ fun x _=>∃ c,x = .bl c/\if c=true then tb ρ Q else Q (.bl false) .fr
def s0 (ta tb:aB):aB:=fun ρ Q=>ta ρ fun x _=>∃ c,x = .bl c/\if c=true then Q (.bl true) .fr else tb ρ Q
def sA (ta:aB):aB:=fun ρ Q=>ta ρ fun x _=>∃ c,x = .bl c/\Q (.bl (!c)) .fr
theorem nP.back {K:PySem.W.Frag}{H0:Hp}{W:Addr->Prop}{H H1:Hp}{Q:PK} (k:nP K H0 W H Q Q') (s:a9 H H1):nP K H0 W H1 Q Q':=fun v H' x g s' r q=>k v H' x g (s.trans s') (r.same (a9.refl _) fun _ z=>Mg.back s z) q
theorem ag8 (h:LE X (jP ta tb) σ H Q'):uW (LE X ta) (LE X tb) σ H Q':=by
 obtain ⟨W,ρ,Q,px,q,k⟩:=h
 refine⟨W,ρ,_,px,q,?_⟩
 rintro v H1 x g s1 r ⟨c,rfl,q⟩
 cases r
 refine⟨c,rfl,?_⟩
 cases c with
 | true=>exact b4 ⟨W,ρ,Q,px.mono s1,by simpa using q,k.back s1⟩
 | false=>exact aW (k _ _ _ _ s1 (.bl _) (by simpa using q))
theorem ag9 (h:LE X (s0 ta tb) σ H Q'):uX (LE X ta) (LE X tb) σ H Q':=by
 obtain ⟨W,ρ,Q,px,q,k⟩:=h
 refine⟨W,ρ,_,px,q,?_⟩
 rintro v H1 x g s1 r ⟨c,rfl,q⟩
 cases r
 refine⟨c,rfl,?_⟩
 cases c with
 | false=>exact aW ⟨W,ρ,Q,px.mono s1,by simpa using q,k.back s1⟩
 | true=>exact b4 (k _ _ _ _ s1 (.bl _) (by simpa using q))
theorem ah0 (h:LE X (sA ta) σ H Q'):uY (LE X ta) σ H Q':=by
 obtain ⟨W,ρ,Q,px,q,k⟩:=h
 refine⟨W,ρ,_,px,q,?_⟩
 rintro v H1 x g s1 r ⟨c,rfl,q⟩
 cases r
 exact⟨c,rfl,k _ _ _ _ s1 (.bl _) q⟩
def aA:bX:=fun _ Q=>Q []
def a7 (te:aB) (tr:bX):bX:=fun ρ Q=>te ρ fun x g=>tr ρ fun xs=>Q ((x,g) :: xs)
variable {Qa : List V → Hp → Prop} {tr : bX}
theorem yB (h:LA X aA σ H Qa):iJ σ H Qa:=by
 obtain ⟨W,ρ,Q,px,q,k⟩:=h
 exact k _ _ _ (a9.refl _) .nil q
theorem ah1 (h:LA X (a7 ta tr) σ H Qa):iK (LE X ta) (LA X tr) σ H Qa:=by
 obtain ⟨W,ρ,Q,px,q,k⟩:=h
 refine⟨W,ρ,_,px,q,fun v H1 x g s1 r1 q1=>⟨W,ρ,_,px.mono s1,q1,fun vs H2 xs s2 r2 q2=>?_⟩⟩
 exact k _ _ _ (s1.trans s2) (.cons (r1.same s2 fun _ z=>z) (r2.same (a9.refl _) s1)) q2
def sB (t:bX):aB:=fun ρ Q=>t ρ fun xs=>xs.length<=1000/\lF xs/\Q (.tup (xs.map (·.1))) .nw
def cE (t:bX):aB:=fun ρ Q=>t ρ fun xs=>xs.length<=1000/\flats (xs.map (·.1))=true/\Q (.tup (xs.map (·.1))) .fr
def gW (t:bX):aB:=fun ρ Q=>t ρ fun xs=>xs.length<=1000/\flats (xs.map (·.1))=true/\Q (.lst (xs.map (·.1))) .fr
theorem eY.length {K:PySem.W.Frag}{H0:Hp}{W:Addr->Prop}{Hs H:Hp}:∀ {vs:List V}{xs:List (PV × Tg)},eY K H0 W Hs H vs xs->vs.length=xs.length
 | _,_,.nil=>rfl
 | _,_,.cons _ t=>congrArg (· + 1) t.length
theorem nW {n:Nat} (h:n<=1000):n<=sizeLine:=aP3 (mV h)
theorem ah2 (h:LE X (sB tr) σ H Q'):qK (LA X tr) σ H Q':=by
 obtain ⟨W,ρ,Q,px,q,k⟩:=h
 refine⟨W,ρ,_,px,q,?_⟩
 rintro vs H1 xs s1 r ⟨hl,n,q⟩
 refine⟨by rw [r.length]; exact nW hl,fun p hp=>k _ _ _ .nw (s1.trans (aY hp _)) (.tup aV ?_) q⟩
 exact (lF.reps (vs:=vs) px n r).same (aY hp _) fun _ z=>z
theorem ah3 (h:LE X (cE tr) σ H Q'):qK (LA X tr) σ H Q':=by
 obtain ⟨W,ρ,Q,px,q,k⟩:=h
 refine⟨W,ρ,_,px,q,?_⟩
 rintro vs H1 xs s1 r ⟨hl,n,q⟩
 refine⟨by rw [r.length]; exact nW hl,fun p hp=>k _ _ _ .fr (s1.trans (aY hp _)) (.tup aV ?_) q⟩
 exact (r.any.flat n).same (aY hp _) fun _ z=>z
theorem ah4 (h:LE X (gW tr) σ H Q'):vS (LA X tr) σ H Q':=by
 obtain ⟨W,ρ,Q,px,q,k⟩:=h
 refine⟨W,ρ,_,px,q,?_⟩
 rintro vs H1 xs s1 r ⟨hl,n,q⟩
 refine⟨by rw [r.length]; exact nW hl,fun p hp=>k _ _ _ .fr (s1.trans (aY hp _)) (.lst (s1.free hp) aV ?_) q⟩
 exact (r.any.flat n).same (aY hp _) fun _ z=>z
def e7 (X:Cx) (R:List PV->(PV->Prop)->Prop) (r:List V->Hp->VK->Prop):Prop:=∀ (H:Hp) (vs:List V) (xs:List PV) (Q:PV->Prop) (Q':VK),Reps X.K (fun _=>True) H vs xs->R xs Q->
 (∀ w H' z,a9 H H'->aE X.K (fun a=>H a=none) H' w z->Q z->Q' w H')->r vs H Q'
def aF (R:List PV->(PV->Prop)->Prop) (t:bX):aB:=fun ρ Q=>t ρ fun xs=>R (xs.map (·.1)) fun z=>Q z .fr
theorem yC {R:List PV->(PV->Prop)->Prop}{r:List V->Hp->VK->Prop} (c:e7 X R r) (h:LE X (aF R tr) σ H Q'):qL r (LA X tr) σ H Q':=by
 obtain ⟨W,ρ,Q,px,q,k⟩:=h
 refine⟨W,ρ,_,px,q,fun vs H1 xs s1 r1 q1=>c H1 vs _ _ Q' r1.any q1 fun w H' z s2 r2 q2=>k w H' z .fr (s1.trans s2) (r2.same (a9.refl _) fun _ z=>s1.free z) q2⟩
end
structure gX where
 nx:b5->Prop
 rt:PV->Prop
 bk:b5->Prop:=fun _=>False
 ct:b5->Prop:=fun _=>False
abbrev aL:=gX->b5->Prop
def Ev (W:Addr->Prop) (H:Hp) (W':Addr->Prop) (H':Hp):Prop:=∀ b o,H b=some o->¬ W b->H' b=some o/\¬ W' b
theorem Ev.trans {W W1 W2:Addr->Prop}{H H1 H2:Hp} (a:Ev W H W1 H1) (b:Ev W1 H1 W2 H2):Ev W H W2 H2:=fun c o h n=>let ⟨h1,n1⟩:=a c o h n; b c o h1 n1
theorem Ev.same {W:Addr->Prop}{H H':Hp} (s:a9 H H'):Ev W H W H':=fun c o h n=>⟨s _ _ h,n⟩
theorem Ev.refl (W:Addr->Prop) (H:Hp):Ev W H W H:=Ev.same (a9.refl _)
structure jQ (X:Cx) (W:Addr->Prop) (H:Hp) (D':gX) (D:cA):Prop where
 nx:∀ W' σ' H' ρ',Ev W H W' H'->PX X.K X.H₀ W' σ' ρ' H'->D'.nx ρ'->D.nx σ' H'
 rt:∀ v H' x,a9 X.H₀ H'->aE X.K (fun a=>X.H₀ a=none) H' v x->D'.rt x->D.rt v H'
 bk:∀ W' σ' H' ρ',Ev W H W' H'->PX X.K X.H₀ W' σ' ρ' H'->D'.bk ρ'->D.bk σ' H'
 ct:∀ W' σ' H' ρ',Ev W H W' H'->PX X.K X.H₀ W' σ' ρ' H'->D'.ct ρ'->D.ct σ' H'
theorem jQ.step {X:Cx}{W W1:Addr->Prop}{H H1:Hp}{D':gX}{D:cA} (k:jQ X W H D' D) (e:Ev W H W1 H1):jQ X W1 H1 D' D:=
 ⟨fun W' σ' H' ρ' e'=>k.nx W' σ' H' ρ' (e.trans e'),k.rt,fun W' σ' H' ρ' e'=>k.bk W' σ' H' ρ' (e.trans e'),fun W' σ' H' ρ' e'=>k.ct W' σ' H' ρ' (e.trans e')⟩
def LS (X:Cx) (t:aL):TS:=fun D σ H=>∃ (W:Addr->Prop) (ρ:b5) (D':gX),PX X.K X.H₀ W σ ρ H/\t D' ρ/\jQ X W H D' D
theorem cJ {α:Type}{l:List α}{i j:Nat}{a b:α} (h:(l.set i a)[j]? = some b):(j=i/\i < l.length/\b=a) ∨ (j ≠ i/\l[j]? = some b):=by
 by_cases e:j=i
 ·subst e
  have hl:j < (l.set j a).length:=(aJ8.mp h).1
  rw [aM7] at hl
  rw [aM3 hl] at h
  exact .inl ⟨rfl,hl,(aL5 h).symm⟩
 ·rw [aK4 (Ne.symm e)] at h
  exact .inr ⟨e,h⟩
section
variable {K : PySem.W.Frag} {H0 : Hp} {W W' : Addr → Prop} {σ : St} {ρ : b5} {H H' Hs : Hp}
theorem PX.setSh {i:Nat}{v:V}{g:Bool}{x:PV} (p:PX K H0 W σ ρ H) (r:aE K (Ms H0 W g) H v x):PX K H0 W (σ.set i (some v)) (ρ.set i (some (.sh g x))) H:=by
 refine⟨by rw [aM7,aM7]; exact p.len,p.same,p.wm,fun j m h=>?_,fun j k y z a h1 h2 h3 h4=>?_⟩
 ·rcases cJ h with ⟨rfl,hl,e⟩ | ⟨hne,h⟩
  ·cases e
   rw [p.len] at hl
   exact⟨v,aM3 hl,r⟩
  ·obtain ⟨u,e,q⟩:=p.sl j m h
   exact⟨u,by rw [aK4 (Ne.symm hne)]; exact e,q⟩
 ·rcases cJ h1 with ⟨_,_,e⟩ | ⟨n1,h1⟩
  ·cases e
  ·rcases cJ h2 with ⟨_,_,e⟩ | ⟨n2,h2⟩
   ·cases e
   ·rw [aK4 (Ne.symm n1)] at h3
    rw [aK4 (Ne.symm n2)] at h4
    exact p.dis j k y z a h1 h2 h3 h4
theorem PX.setNone {i:Nat}{o:Option V} (p:PX K H0 W σ ρ H):PX K H0 W (σ.set i o) (ρ.set i none) H:=by
 refine⟨by rw [aM7,aM7]; exact p.len,p.same,p.wm,fun j m h=>?_,fun j k y z a h1 h2 h3 h4=>?_⟩
 ·rcases cJ h with ⟨rfl,hl,e⟩ | ⟨hne,h⟩
  ·cases e
  ·obtain ⟨u,e,q⟩:=p.sl j m h
   exact⟨u,by rw [aK4 (Ne.symm hne)]; exact e,q⟩
 ·rcases cJ h1 with ⟨_,_,e⟩ | ⟨n1,h1⟩
  ·cases e
  ·rcases cJ h2 with ⟨_,_,e⟩ | ⟨n2,h2⟩
   ·cases e
   ·rw [aK4 (Ne.symm n1)] at h3
    rw [aK4 (Ne.symm n2)] at h4
    exact p.dis j k y z a h1 h2 h3 h4
def jR (W:Addr->Prop) (a:Addr):Addr->Prop:=fun b=>W b ∨ b=a
theorem sC {g:Bool}{a b:Addr} (n:b ≠ a) (h:Ms H0 W g b):Ms H0 (jR W a) g b:=by
 cases g with
 | true=>exact⟨fun z=>z.elim h.1 n,h.2⟩
 | false=>exact fun z=>z.elim h n
theorem PX.setOwn {i:Nat}{a:Addr}{x:PV} (p:PX K H0 W σ ρ Hs) (s:a9 Hs H) (ha:Hs a=none) (r:eW K (Ms H0 (jR W a) true) H a x):PX K H0 (jR W a) (σ.set i (some (.ref a))) (ρ.set i (some (.own x))) H:=by
 have old:∀ b o,Hs b=some o->b ≠ a:=fun b o e z=>by rw [z,ha] at e; cases e
 have kp:∀ g,fH (Ms H0 W g) (Ms H0 (jR W a) g) Hs H:=fun g=>⟨fun b _ m e=>⟨sC (old _ _ e) m,s _ _ e⟩,fun b _ m e=>⟨sC (old _ _ e) m,s _ _ e⟩,fun b _ m e=>⟨sC (old _ _ e) m,s _ _ e⟩,fun _ _ e=>s _ _ e,fun _ _ _ e=>s _ _ e⟩
 have wa : ¬ W a:=(p.new ha).1
 refine⟨by rw [aM7,aM7]; exact p.len,p.same.trans s,fun b z=>?_,fun j m h=>?_,fun j k y z b h1 h2 h3 h4=>?_⟩
 ·rcases z with z | rfl
  ·obtain ⟨h1,o,h2,h3⟩:=p.wm b z
   exact⟨h1,o,s _ _ h2,h3⟩
  ·exact⟨(p.new ha).2,r.at⟩
 ·rcases cJ h with ⟨rfl,hl,e⟩ | ⟨hne,h⟩
  ·cases e
   rw [p.len] at hl
   exact⟨_,aM3 hl,a,rfl,.inr rfl,r⟩
  ·obtain ⟨u,e,q⟩:=p.sl j m h
   refine⟨u,by rw [aK4 (Ne.symm hne)]; exact e,?_⟩
   cases m with
   | sh g y=>exact aE.keep (kp g) q
   | own y=>
    obtain ⟨b,e1,e2,q⟩:=q
    exact⟨b,e1,.inl e2,q.keep (kp true) fun o z=>s _ _ z⟩
 ·have ne:∀ {j:Nat}{y:PV},ρ[j]? = some (some (.own y))->σ[j]? ≠ some (some (.ref a)):=fun {j y} h1 h2=>by
   obtain ⟨u,e,c,e1,e2,_⟩:=p.sl j _ h1
   rw [h2] at e
   cases e
   cases e1
   exact wa e2
  rcases cJ h1 with ⟨e1,l1,_⟩ | ⟨n1,h1⟩
  ·rcases cJ h2 with ⟨e2,_,_⟩ | ⟨n2,h2⟩
   ·rw [e1,e2]
   ·rw [e1,aM3 (by rw [<- p.len]; exact l1)] at h3
    rw [aK4 (Ne.symm n2)] at h4
    cases h3
    exact absurd h4 (ne h2)
  ·rw [aK4 (Ne.symm n1)] at h3
   rcases cJ h2 with ⟨e2,l2,_⟩ | ⟨n2,h2⟩
   ·rw [e2,aM3 (by rw [<- p.len]; exact l2)] at h4
    cases h4
    exact absurd h3 (ne h1)
   ·rw [aK4 (Ne.symm n2)] at h4
    exact p.dis j k y z b h1 h2 h3 h4
theorem Ev.own {a:Addr} (s:a9 Hs H) (ha:Hs a=none):Ev W Hs (jR W a) H:=fun b o e n=>⟨s _ _ e,fun z=>z.elim n fun z=>by rw [z,ha] at e; cases e⟩
theorem jS {g:Bool}{a b:Addr} (wa:W a) (h:Ms H0 W g b):b ≠ a:=by
 cases g with
 | true=>exact fun z=>h.1 (by rw [z]; exact wa)
 | false=>exact fun z=>h (by rw [z]; exact wa)
theorem PX.updOwn {i:Nat}{a:Addr}{x y:PV}{o:HO} (p:PX K H0 W σ ρ H) (hi:ρ[i]? = some (some (.own x))) (ha:σ[i]? = some (some (.ref a))) (wa:W a) (mu:fU o=true) (r:eW K (Ms H0 W true) (upd H a o) a y) :
  PX K H0 W σ (ρ.set i (some (.own y))) (upd H a o):=by
 obtain ⟨w0,o',e',mu'⟩:=p.wm a wa
 have kp:∀ g,fH (Ms H0 W g) (Ms H0 W g) H (upd H a o):=fun g=>.upd e' mu' fun b m=>⟨jS wa m,m⟩
 refine⟨by rw [aM7]; exact p.len,fun b u e=>by rw [aJ (fun z=>by rw [z,w0] at e; cases e)]; exact p.same _ _ e,fun b z=>?_,fun j m h=>?_,fun j k y' z b h1 h2 h3 h4=>?_⟩
 ·by_cases e:b=a
  ·subst e; exact⟨w0,o,aV,mu⟩
  ·obtain ⟨h1,o2,h2,h3⟩:=p.wm b z
   exact⟨h1,o2,by rw [aJ e]; exact h2,h3⟩
 ·rcases cJ h with ⟨rfl,hl,e⟩ | ⟨hne,h⟩
  ·cases e
   exact⟨_,ha,a,rfl,wa,r⟩
  ·obtain ⟨u,e,q⟩:=p.sl j m h
   refine⟨u,e,?_⟩
   cases m with
   | sh g y=>exact aE.keep (kp g) q
   | own y=>
    obtain ⟨b,e1,e2,q⟩:=q
    have hb:b ≠ a:=fun z=>by
     subst e1
     rw [z] at e
     exact hne (p.dis j i _ _ a h hi e ha)
    exact⟨b,e1,e2,q.keep (kp true) fun o z=>by rw [aJ hb]; exact z⟩
 ·have g1:∃ y,ρ[j]? = some (some (.own y)):=by
   rcases cJ h1 with ⟨e,_,_⟩ | ⟨_,h⟩
   ·exact⟨x,by rw [e]; exact hi⟩
   ·exact⟨_,h⟩
  have g2:∃ y,ρ[k]? = some (some (.own y)):=by
   rcases cJ h2 with ⟨e,_,_⟩ | ⟨_,h⟩
   ·exact⟨x,by rw [e]; exact hi⟩
   ·exact⟨_,h⟩
  obtain ⟨y1,g1⟩:=g1
  obtain ⟨y2,g2⟩:=g2
  exact p.dis j k y1 y2 b g1 g2 h3 h4
theorem Ev.upd {a:Addr}{o:HO} (wa:W a):Ev W H W (upd H a o):=fun b u e n=>⟨by rw [aJ (fun z=>n (by rw [z]; exact wa))]; exact e,n⟩
def lH (W:Addr->Prop) (a:Addr):Addr->Prop:=fun b=>W b/\b ≠ a
theorem sD {g:Bool}{a b:Addr} (h:Ms H0 W g b):Ms H0 (lH W a) g b:=by
 cases g with
 | true=>exact⟨fun z=>h.1 z.1,h.2⟩
 | false=>exact fun z=>h z.1
theorem PX.freeze {i:Nat}{a:Addr}{x:PV} (p:PX K H0 W σ ρ H) (hi:ρ[i]? = some (some (.own x))) (ha:σ[i]? = some (some (.ref a))):PX K H0 (lH W a) σ (ρ.set i (some (.sh true x))) H:=by
 obtain ⟨v,ev,a',e1,wa,r⟩:=p.sl i _ hi
 rw [ha] at ev
 cases ev
 cases e1
 refine⟨by rw [aM7]; exact p.len,p.same,fun b z=>p.wm b z.1,fun j m h=>?_,fun j k y' z b h1 h2 h3 h4=>?_⟩
 ·rcases cJ h with ⟨rfl,hl,e⟩ | ⟨hne,h⟩
  ·cases e
   exact⟨_,ha,r.rep (M':=Ms H0 (lH W a) true) (fun b m=>sD (g:=true) m) (show Ms H0 (lH W a) true a from ⟨fun z=>z.2 rfl,(p.wm a wa).1⟩)⟩
  ·obtain ⟨u,e,q⟩:=p.sl j m h
   refine⟨u,e,?_⟩
   cases m with
   | sh g y=>exact aE.same q (a9.refl _) fun _ m=>sD m
   | own y=>
    obtain ⟨b,e1,e2,q⟩:=q
    have hb:b ≠ a:=fun z=>by
     subst e1
     rw [z] at e
     exact hne (p.dis j i _ _ a h hi e ha)
    exact⟨b,e1,⟨e2,hb⟩,q.keep (.same (a9.refl _) fun _ m=>sD m) fun _ z=>z⟩
 ·rcases cJ h1 with ⟨_,_,e⟩ | ⟨_,h1⟩
  ·cases e
  ·rcases cJ h2 with ⟨_,_,e⟩ | ⟨_,h2⟩
   ·cases e
   ·exact p.dis j k _ _ b h1 h2 h3 h4
theorem Ev.off {a:Addr}:Ev W H (lH W a) H:=fun b u e n=>⟨e,fun z=>n z.1⟩
end
section
variable {X : Cx} {σ : St} {H : Hp} {D : cA} {te : aB} {t u : aL}
def cK:aL:=fun D ρ=>D.nx ρ
def aS (t u:aL):aL:=fun D ρ=>t { D with nx:=u D } ρ
theorem ah5 (h:LS X cK D σ H):uZ D σ H:=by
 obtain ⟨W,ρ,D',px,q,k⟩:=h
 exact k.nx W σ H ρ (Ev.refl _ _) px q
theorem ah6 (h:LS X (aS t u) D σ H):pY (LS X t) (LS X u) D σ H:=by
 obtain ⟨W,ρ,D',px,q,k⟩:=h
 exact⟨W,ρ,_,px,q,fun W' σ' H' ρ' e px' q'=>⟨W',ρ',D',px',q',k.step e⟩,k.rt,k.bk,k.ct⟩
def yD:Tg->PV->Bool
 | .fr,_=>true
 | .nw,_=>true
 | _,x=>flat x
def yE:Tg->PV->Prop
 | .rd,x=>flat x=true
 | _,_=>True
theorem ah7 {K:PySem.W.Frag}{H0 Hs H:Hp}{W:Addr->Prop}{σ:St}{ρ:b5}{g:Tg}{x:PV}{v:V} (px:PX K H0 W σ ρ Hs) (n:yE g x) (r:aE K (Mg H0 W Hs g) H v x):aE K (Ms H0 W (yD g x)) H v x:=by
 cases g with
 | fr=>exact Nw.rep (g:=.fr) px trivial r
 | nw=>exact Nw.rep (g:=.nw) px trivial r
 | sh=>
  show aE K (Ms H0 W (flat x)) H v x
  cases e:flat x with
  | true=>exact r.flat e
  | false=>exact r.same (a9.refl _) fun _ z=>z
 | rd=>exact r.flat n
def bJ (i:Nat) (te:aB):aL:=fun D ρ=>te ρ fun x g=>yE g x/\D.nx (ρ.set i (some (.sh (yD g x) x)))
theorem sE {i:Nat} (h:LS X (bJ i te) D σ H):i4 (LE X te) (bL i) D σ H:=by
 obtain ⟨W,ρ,D',px,q,k⟩:=h
 refine⟨W,ρ,_,px,q,?_⟩
 rintro v H1 x g s r ⟨n,q⟩
 exact k.nx W _ H1 _ (Ev.same s) ((px.mono s).setSh (ah7 px n r)) q
def yF:PV->Bool
 | .lst xs=>flats xs
 | .dK ps=>flats (ps.map (·.2))
 | .dT ps=>flats (ps.map (·.2))
 | _=>false
theorem ah8 {K:PySem.W.Frag}{M:Addr->Prop}{H:Hp}{v:V}{x:PV} (r:aE K M H v x) (o:yF x=true):∃ a,v = .ref a/\M a/\∀ M',eW K M' H a x:=by
 cases r with
 | lst m e r=>exact⟨_,rfl,m,fun _=>⟨_,e,r.flat o⟩⟩
 | dK m e q r=>exact⟨_,rfl,m,fun _=>⟨_,e,q,r.flat o⟩⟩
 | dT m e q r=>exact⟨_,rfl,m,fun _=>⟨_,e,q,r.flat o⟩⟩
 | _=>cases o
def fI (i:Nat) (te:aB):aL:=fun D ρ=>te ρ fun x g=>g = .fr/\yF x=true/\D.nx (ρ.set i (some (.own x)))
theorem yG {i:Nat} (h:LS X (fI i te) D σ H):i4 (LE X te) (bL i) D σ H:=by
 obtain ⟨W,ρ,D',px,q,k⟩:=h
 refine⟨W,ρ,_,px,q,?_⟩
 rintro v H1 x g s r ⟨rfl,o,q⟩
 obtain ⟨a,rfl,m,w⟩:=ah8 r o
 exact k.nx _ _ H1 _ (Ev.own s m) (px.setOwn s m (w _)) q
def nX (i:Nat) (t:aL):aL:=fun D ρ=>∃ x,ρ[i]? = some (some (.own x))/\t D (ρ.set i (some (.sh true x)))
theorem ah9 {i:Nat} (h:LS X (nX i t) D σ H):LS X t D σ H:=by
 obtain ⟨W,ρ,D',px,⟨x,hi,q⟩,k⟩:=h
 obtain ⟨v,ev,a,rfl,wa,r⟩:=px.sl i _ hi
 exact⟨_,_,D',px.freeze hi ev,q,k.step Ev.off⟩
def bB (te:aB):aL:=fun D ρ=>te ρ fun x g=>Nw g x/\D.rt x
theorem ai0 (h:LS X (bB te) D σ H):jF (LE X te) D σ H:=by
 obtain ⟨W,ρ,D',px,q,k⟩:=h
 refine⟨W,ρ,_,px,q,?_⟩
 rintro v H1 x g s r ⟨n,q⟩
 exact k.rt v H1 x (px.same.trans s) ((Nw.rep px n r).same (a9.refl _) fun _ z=>z.2) q
def Slot.nw:Slot->Prop
 | .own _=>True
 | .sh true _=>True
 | .sh false x=>flat x=true
def iQ (i:Nat):aL:=fun D ρ=>∃ m,ρ[i]? = some (some m)/\m.nw/\D.rt m.val
theorem ai1 {i:Nat} (h:LS X (iQ i) D σ H):jF (eM i) D σ H:=by
 obtain ⟨W,ρ,D',px,⟨m,hi,n,q⟩,k⟩:=h
 obtain ⟨v,ev,r⟩:=px.sl i _ hi
 refine⟨v,ev,k.rt v H _ px.same ?_ q⟩
 cases m with
 | own x=>
  obtain ⟨a,rfl,wa,r⟩:=r
  exact r.rep (fun _ z=>z.2) (px.wm a wa).1
 | sh g x=>
  cases g with
  | true=>exact aE.same r (a9.refl _) fun _ z=>z.2
  | false=>exact aE.flat n r
def cF (c:bI) (t u:aL):aL:=fun D ρ=>c ρ fun b=>if b=true then t D ρ else u D ρ
theorem ai2 {c:bI} (h:LS X (cF c t u) D σ H):v0 (LT X c) (LS X t) (LS X u) D σ H:=by
 obtain ⟨W,ρ,D',px,q,k⟩:=h
 refine⟨W,ρ,_,px,q,fun b H1 s q1=>?_⟩
 cases b with
 | true=>exact b4 ⟨W,ρ,D',px.mono s,by simpa using q1,k.step (Ev.same s)⟩
 | false=>exact aW ⟨W,ρ,D',px.mono s,by simpa using q1,k.step (Ev.same s)⟩
def sF (c:bI) (tb:aL):aL:=fun D ρ=>∃ I:Nat->b5->Prop,(∃ m,I m ρ)/\∀ m ρ',I m ρ'->c ρ' fun b=>if b=true then tb { D with nx:=fun ρ2=>∃ m',m' < m/\I m' ρ2,ct:=fun ρ2=>∃ m',m' < m/\I m' ρ2,bk:=D.nx } ρ' else D.nx ρ'
theorem ai3 {c:bI}{tb:aL} (h:LS X (sF c tb) D σ H):v8 (LT X c) (LS X tb) D σ H:=by
 obtain ⟨W,ρ,D',px,⟨I,⟨m0,i0⟩,turn⟩,k⟩:=h
 refine⟨fun m σ2 H2=>∃ W2 ρ2,PX X.K X.H₀ W2 σ2 ρ2 H2/\Ev W H W2 H2/\I m ρ2,⟨m0,W,ρ,px,Ev.refl _ _,i0⟩,?_⟩
 rintro m σ2 H2 ⟨W2,ρ2,px2,e2,i2⟩
 refine⟨W2,ρ2,_,px2,turn m ρ2 i2,fun b H3 s3 q3=>?_⟩
 cases b with
 | true=>
  refine b4 ⟨fun σ4 H4=>∃ W4 ρ4,PX X.K X.H₀ W4 σ4 ρ4 H4/\Ev W H W4 H4/\∃ m',m' < m/\I m' ρ4,fun σ4 H4 ⟨W4,ρ4,a,b,m',c,d⟩=>⟨m',c,W4,ρ4,a,b,d⟩,W2,ρ2,_,px2.mono s3,by simpa using q3,?_⟩
  have e3:Ev W H W2 H3:=e2.trans (Ev.same s3)
  exact⟨fun W' σ' H' ρ' e p q=>⟨W',ρ',p,e3.trans e,q⟩,k.rt,fun W' σ' H' ρ' e p q=>k.nx W' σ' H' ρ' (e3.trans e) p q,fun W' σ' H' ρ' e p q=>⟨W',ρ',p,e3.trans e,q⟩⟩
 | false=>exact aW (k.nx W2 σ2 H3 ρ2 (e2.trans (Ev.same s3)) (px2.mono s3) (by simpa using q3))
end
theorem lim {n:Nat} (h:n<=16000000):n<=sizeLine:=aP3 (fT h)
theorem aE.sqT {K:PySem.W.Frag}{M:Addr->Prop}{H:Hp}{v:V}{xs:List PV} (r:aE K M H v (.tup xs)):∃ a us,v = .ref a/\H a=some (.tup us)/\Reps K M H us xs:=by
 cases r with
 | tup e r=>exact⟨_,_,rfl,e,r⟩
theorem aE.sqL {K:PySem.W.Frag}{M:Addr->Prop}{H:Hp}{v:V}{xs:List PV} (r:aE K M H v (.lst xs)):∃ a us,v = .ref a/\M a/\H a=some (.lst us)/\Reps K M H us xs:=by
 cases r with
 | lst m e r=>exact⟨_,_,rfl,m,e,r⟩
theorem gV.sqL {K:PySem.W.Frag}{H:Hp}{a:Addr}{ns:List Int} (h:gV K H a ns):aK K H a (ns.map V.int):=h.elim (fun z=>.inl (.inr z)) .inr
def fV:PV->Option (List PV)
 | .tup xs=>some xs
 | .lst xs=>some xs
 | .scr ns=>some (intz ns)
 | .kt xs=>some xs
 | _=>none
theorem aE.seq {K:PySem.W.Frag}{M:Addr->Prop}{H:Hp}{v:V}{x:PV}{xs:List PV} (r:aE K M H v x) (e:fV x=some xs):∃ a us,v = .ref a/\(aK K H a us ∨ aI K H a us)/\Reps K M H us xs:=by
 cases r with
 | tup h r=>cases e; exact⟨_,_,rfl,.inr (aI.of h),r⟩
 | lst m h r=>cases e; exact⟨_,_,rfl,.inl (aK.of h),r⟩
 | scr h=>cases e; exact⟨_,_,rfl,.inl h.sqL,Reps.intz _⟩
 | kt h r=>cases e; exact⟨_,_,rfl,.inr (.inr h),r⟩
 | _=>cases e
section
variable {X : Cx} {σ : St} {H : Hp} {D : cA} {te ti to : aB} {t u : aL} {Q' : VK}
theorem _root_.PP.PX.updL {K:PySem.W.Frag}{H0:Hp}{W:Addr->Prop}{σ:St}{ρ:b5}{H:Hp}{i:Nat}{a:Addr}{x:PV}{us:List V}{ys:List PV} (p:PX K H0 W σ ρ H) (hi:ρ[i]? = some (some (.own x))) (ha:σ[i]? = some (some (.ref a))) (wa:W a) (r:Reps K (Ms H0 W true) (upd H a (.lst us)) us ys) :
  PX K H0 W σ (ρ.set i (some (.own (.lst ys)))) (upd H a (.lst us)):=p.updOwn hi ha wa rfl (y:=.lst ys) ⟨us,aV,r⟩
def nY (i:Nat) (te:aB):aL:=fun D ρ=>∃ xs,ρ[i]? = some (some (.own (.lst xs)))/\te ρ fun x g=>Nw g x/\xs.length < 16000000/\D.nx (ρ.set i (some (.own (.lst (xs ++ [x])))))
theorem ai4 {i:Nat} (h:LS X (nY i te) D σ H):pZ (wN X.K "list" wQ (eM i) (iK (LE X te) iJ)) D σ H:=by
 obtain ⟨W,ρ,D',px,⟨xs,hi,q⟩,k⟩:=h
 obtain ⟨v,ev,a,rfl,wa,us,ea,r⟩:=px.sl i _ hi
 refine⟨_,ev,rQ (aK.of ea),W,ρ,_,px,q,?_⟩
 rintro w H1 x g s rx ⟨n,hl,q⟩
 have ea1:=s _ _ ea
 refine⟨a,us,w,rfl,rfl,ea1,fT (by rw [r.length]; omega),?_⟩
 refine k.nx W σ _ _ ((Ev.same s).trans (Ev.upd wa)) ((px.mono s).updL hi ev wa ?_) q
 exact ((r.same s fun _ z=>z).append (.cons (Nw.rep px n rx) .nil)).keep (.upd ea1 rfl fun b m=>⟨jS wa m,m⟩)
def sG (i:Nat) (tk te:aB):aL:=fun D ρ=>te ρ fun x g=>∃ xs,ρ[i]? = some (some (.own (.lst xs)))/\tk ρ fun y _=>∃ n j,y = .int n/\fS xs.length n=some j/\Nw g x/\D.nx (ρ.set i (some (.own (.lst (xs.set j x)))))
theorem ai5 {i:Nat}{tk:aB} (h:LS X (sG i tk te) D σ H):i4 (LE X te) (qB (eM i) (LE X tk) qT) D σ H:=by
 obtain ⟨W,ρ,D',px,q,k⟩:=h
 refine⟨W,ρ,_,px,q,?_⟩
 rintro w H1 x g s rx ⟨xs,hi,q1⟩
 obtain ⟨v,ev,a,rfl,wa,us,ea,r⟩:=(px.mono s).sl i _ hi
 refine⟨_,ev,W,ρ,_,px.mono s,q1,?_⟩
 rintro kv H2 y gy s2 ry ⟨n,j,rfl,hj,nw,q2⟩
 cases ry
 have ea2:=s2 _ _ ea
 refine⟨a,us,n,j,rfl,rfl,ea2,by rw [r.length]; exact hj,?_⟩
 refine k.nx W σ _ _ ((Ev.same (s.trans s2)).trans (Ev.upd wa)) ((px.mono (s.trans s2)).updL hi ev wa ?_) q2
 exact (Reps.set ((Nw.rep px nw rx).same s2 fun _ z=>z) j (r.same s2 fun _ z=>z)).keep (.upd ea2 rfl fun b m=>⟨jS wa m,m⟩)
end
theorem Reps.atI {K:PySem.W.Frag}{M:Addr->Prop}{H:Hp}{us:List V}{xs:List PV}{i:Int}{z:PV} (r:Reps K M H us xs) (h:L2.atI xs i=some z):∃ v,L2.atI us i=some v/\aE K M H v z:=by
 unfold L2.atI at h ⊢
 rw [r.length]
 cases e:fS xs.length i with
 | none=>rw [e] at h; cases h
 | some j=>rw [e] at h; exact r.at h
section
variable {X : Cx} {σ : St} {H : Hp} {Q' : VK} {ta tb te : aB} {tr : bX}
def sH:PV->Tg->PV->Tg->PK->Prop:=fun x g y _ Q=>∃ xs i z,fV x=some xs/\y = .int i/\L2.atI xs i=some z/\Q z g
theorem ai6:dI X sH (wJ X.K):=by
 rintro W Hs H u v x y g g' Q Q' s n r1 r2 ⟨xs,i,z,e,rfl,hz,q⟩ k
 cases r2
 obtain ⟨a,us,rfl,hs,r⟩:=r1.seq e
 obtain ⟨v,hv,rv⟩:=r.atI hz
 rcases hs with hs | hs
 ·exact .inl ⟨a,us,i,v,rfl,rfl,hs,hv,k v H z g (a9.refl _) rv q⟩
 ·exact .inr (.inl ⟨a,us,i,v,rfl,rfl,hs,hv,k v H z g (a9.refl _) rv q⟩)
def yH:PV->Option Nat
 | .tup xs=>some xs.length
 | .lst xs=>some xs.length
 | .scr ns=>some ns.length
 | .dK ps=>some ps.length
 | .kt xs=>some xs.length
 | _=>none
def fJ:List PV->(PV->Prop)->Prop:=fun xs Q=>∃ x n,xs = [x]/\yH x=some n/\Q (.int n)
theorem Reps.one {K:PySem.W.Frag}{M:Addr->Prop}{H:Hp}{vs:List V}{x:PV} (r:Reps K M H vs [x]):∃ v,vs = [v]/\aE K M H v x:=by
 cases r with
 | cons r t=>cases t; exact⟨_,rfl,r⟩
theorem Reps.two {K:PySem.W.Frag}{M:Addr->Prop}{H:Hp}{vs:List V}{x y:PV} (r:Reps K M H vs [x,y]):∃ v w,vs = [v,w]/\aE K M H v x/\aE K M H w y:=by
 cases r with
 | cons r t=>
  obtain ⟨w,rfl,q⟩:=t.one
  exact⟨_,_,rfl,r,q⟩
theorem ai7:e7 X fJ (fun xs H Q=>(∃ p ys,xs = [.ref p]/\(aK X.K H p ys ∨ aI X.K H p ys)/\Q (.int ys.length) H) ∨ ∃ a kvs,xs = [V.ref a]/\H a=some (.dK kvs)/\Q (.int kvs.length) H):=by
 rintro H vs xs Q Q' r ⟨x,n,rfl,e,q⟩ k
 obtain ⟨v,rfl,r1⟩:=r.one
 have fin:∀ {m:Nat},m=n->Q' (.int m) H:=fun {m} z=>by rw [z]; exact k _ _ _ (a9.refl _) (.int _) q
 cases r1 with
 | tup h r2=>cases e; exact .inl ⟨_,_,rfl,.inr (aI.of h),fin r2.length⟩
 | lst m h r2=>cases e; exact .inl ⟨_,_,rfl,.inl (aK.of h),fin r2.length⟩
 | scr h=>cases e; exact .inl ⟨_,_,rfl,.inl h.sqL,fin (by rw [aJ3])⟩
 | kt h r2=>cases e; exact .inl ⟨_,_,rfl,.inr (.inr h),fin r2.length⟩
 | dK m h e' r=>
  cases e
  refine .inr ⟨_,_,rfl,h,fin ?_⟩
  have:=congrArg List.length e'
  rw [aJ3,aJ3] at this
  exact this
 | _=>cases e
def seqT:PV->Option (List PV)
 | .kt _=>none
 | x=>fV x
def yI:List PV->(PV->Prop)->Prop:=fun xs Q=>∃ x ys,xs = [x]/\seqT x=some ys/\flats ys=true/\Q (.tup ys)
def lI:List PV->(PV->Prop)->Prop:=fun xs Q=>∃ x ys,xs = [x]/\fV x=some ys/\flats ys=true/\Q (.lst ys)
theorem ai8:e7 X (fun xs Q=>yI xs Q/\∀ ns,xs ≠ [.scr ns]) (fun xs H Q=>∃ p ys,xs = [.ref p]/\((aK X.K H p ys/\∀ l,H l=none->Q (.ref l) (upd H l (.tup ys))) ∨ (aI X.K H p ys/\Q (.ref p) H))):=by
 rintro H vs xs Q Q' r ⟨⟨x,ys,rfl,e,f,q⟩,nsc⟩ k
 obtain ⟨v,rfl,r1⟩:=r.one
 cases r1 with
 | tup h r2=>cases e; exact⟨_,_,rfl,.inr ⟨aI.of h,k _ _ _ (a9.refl _) (.tup h (r2.flat f)) q⟩⟩
 | lst m h r2=>cases e; exact⟨_,_,rfl,.inl ⟨aK.of h,fun l hl=>k _ _ _ (aY hl _) (.tup aV ((r2.flat f).same (aY hl _) fun _ z=>z)) q⟩⟩
 | scr h=>exact absurd rfl (nsc _)
 | _=>cases e
theorem ai9:e7 X lI (fun xs H Q=>∃ p ys,xs = [.ref p]/\(aK X.K H p ys ∨ aI X.K H p ys)/\∀ l,H l=none->Q (.ref l) (upd H l (.lst ys))):=by
 rintro H vs xs Q Q' r ⟨x,ys,rfl,e,f,q⟩ k
 obtain ⟨v,rfl,r1⟩:=r.one
 obtain ⟨a,us,rfl,hs,r2⟩:=r1.seq e
 exact⟨_,_,rfl,hs,fun l hl=>k _ _ _ (aY hl _) (.lst hl aV ((r2.flat f).same (aY hl _) fun _ z=>z)) q⟩
def sI:List PV->(PV->Prop)->Prop:=fun xs Q=>∃ bs:List Bool,xs = [.lst (bs.map PV.bl)]/\Q (.bl (bs.all id))
theorem Reps.ofBls {K:PySem.W.Frag}{M:Addr->Prop}{H:Hp}:∀ {ns:List Bool}{us:List V},Reps K M H us (ns.map PV.bl)->us=ns.map V.bl
 | [],_,.nil=>rfl
 | n :: r,_,.cons q t=>by
  cases q
  rw [Reps.ofBls t]; rfl
theorem aj0:e7 X sI (fun xs H Q=>∃ (a:Addr) (bs:List Bool),xs = [.ref a]/\aK X.K H a (bs.map V.bl)/\Q (.bl (bs.all id)) H):=by
 rintro H vs xs Q Q' r ⟨bs,rfl,q⟩ k
 obtain ⟨v,rfl,r1⟩:=r.one
 obtain ⟨a,us,rfl,_,h,r2⟩:=r1.sqL
 obtain rfl:=r2.ofBls
 exact⟨a,bs,rfl,aK.of h,k _ _ _ (a9.refl _) (.bl _) q⟩
def jT:List PV->(PV->Prop)->Prop:=fun xs Q=>∃ i j,xs = [.int i,.int j]/\Q (.int (if j < i then j else i))
def iR:List PV->(PV->Prop)->Prop:=fun xs Q=>∃ i j,xs = [.int i,.int j]/\Q (.int (if j > i then j else i))
theorem aj1:e7 X jT (fun xs H Q=>∃ i j,xs = [.int i,.int j]/\Q (.int (if j < i then j else i)) H):=by
 rintro H vs xs Q Q' r ⟨i,j,rfl,q⟩ k
 obtain ⟨v,w,rfl,r1,r2⟩:=r.two
 cases r1; cases r2
 exact⟨i,j,rfl,k _ _ _ (a9.refl _) (.int _) q⟩
theorem aj2:e7 X iR (fun xs H Q=>∃ i j,xs = [.int i,.int j]/\Q (.int (if j > i then j else i)) H):=by
 rintro H vs xs Q Q' r ⟨i,j,rfl,q⟩ k
 obtain ⟨v,w,rfl,r1,r2⟩:=r.two
 cases r1; cases r2
 exact⟨i,j,rfl,k _ _ _ (a9.refl _) (.int _) q⟩
abbrev aX:=List PV->(PV->Prop)->Prop
def lJ (K:PySem.W.Frag) (p:aX):Sp:=fun vs H Q _=>∃ xs Qp,Reps K (fun _=>True) H vs xs/\p xs Qp/\∀ v H' x,a9 H H'->aE K (fun a=>H a=none) H' v x->Qp x->Q v H'
theorem yJ {p:aX}{E:XK} (h:LE X (aF p tr) σ H Q'):mP (lJ X.K p) [] E (LA X tr) σ H Q':=by
 obtain ⟨W,ρ,Q,px,q,k⟩:=h
 refine⟨W,ρ,_,px,q,fun vs H1 xs s1 r1 q1=>⟨_,_,by rw [aN3]; exact r1.any,q1,fun v H' x s2 r2 q2=>k v H' x .fr (s1.trans s2) (r2.same (a9.refl _) fun _ z=>s1.free z) q2⟩⟩
def aj3:PV->Option Bool
 | .non=>some false
 | .bl b=>some b
 | .int i=>some (i != 0)
 | .tup xs=>some (!xs.isEmpty)
 | .lst xs=>some (!xs.isEmpty)
 | .dK ps=>some (!ps.isEmpty)
 | _=>none
def sJ (t:aB):bI:=fun ρ Q=>t ρ fun x _=>∃ b,aj3 x=some b/\Q b
theorem sK {α β:Type}:∀ {l:List α}{m:List β},l.length=m.length->l.isEmpty=m.isEmpty
 | [],[],_=>rfl
 | _ :: _,_ :: _,_=>rfl
theorem aj4 {t:aB}{Qb:Bool->Hp->Prop} (h:LT X (sJ t) σ H Qb):LE X t σ H fun x H'=>∃ k,qH X.K x H' k/\Qb k H':=by
 obtain ⟨W,ρ,Q,px,q,k⟩:=h
 refine⟨W,ρ,_,px,q,?_⟩
 rintro v H1 x g s r ⟨b,e,q⟩
 refine⟨b,?_,k _ _ s q⟩
 cases r with
 | non=>cases e; rfl
 | bl b=>cases e; rfl
 | int i=>cases e; rfl
 | str x=>cases e
 | tup h r=>cases e; exact .inr (.inl ⟨_,aI.of h,by rw [sK r.length]⟩)
 | lst m h r=>cases e; exact .inl ⟨_,aK.of h,by rw [sK r.length]⟩
 | dK m h e' r=>
  cases e
  refine .inr (.inr ⟨_,h,?_⟩)
  have:=congrArg List.length e'
  rw [aJ3,aJ3] at this
  rw [sK this]
 | dT m h e' r=>cases e
 | scr h=>cases e
 | kt h r=>cases e
 | exc h e' c=>cases e
def sM:PV->Bool
 | .non=>true
 | _=>false
def sN (neg:Bool):PV->Tg->PV->Tg->PK->Prop:=fun x _ y _ Q=>y = .non/\Q (.bl (if neg=true then !sM x else sM x)) .fr
theorem aj5 {K:PySem.W.Frag}{M:Addr->Prop}{H:Hp}{v:V}{x:PV} (r:aE K M H v x):decide (v = .non)=sM x:=by
 cases r <;> rfl
theorem aj6:dI X (sN true) (fun x y H Q=>y = .non/\Q (.bl (!decide (x = .non))) H):=by
 rintro W Hs H u v x y g g' Q Q' s n r1 r2 ⟨rfl,q⟩ k
 cases r2
 exact⟨rfl,by rw [aj5 r1]; exact k _ _ _ _ (a9.refl _) (.bl _) q⟩
end
structure nZ (K:PySem.W.Frag) (H0:Hp) (W:Addr->Prop) (g:Bool) (H1:Hp) (J:It) (xs:List PV):Prop where
 go:∀ W' H' i,Ev W H1 W' H'->i < xs.length->J.go i H'
 yld:∀ W' H' i v H2,Ev W H1 W' H'->J.yld i H' v H2->i < xs.length->a9 H' H2/\∃ x,xs[i]? = some x/\aE K (Ms H0 W' g) H2 v x
 stop:∀ W' H',Ev W H1 W' H'->J.stop xs.length H'
abbrev dP:=b5->(List PV->Bool->Prop)->Prop
def LI (X:Cx) (t:dP):TI:=fun σ H R=>∃ (W:Addr->Prop) (ρ:b5) (Q:List PV->Bool->Prop),PX X.K X.H₀ W σ ρ H/\t ρ Q/\∀ J H1 xs g,a9 H H1->nZ X.K X.H₀ W g H1 J xs->Q xs g->R J H1
theorem Ev.keep {H0:Hp}{W W':Addr->Prop}{H H':Hp}{g:Bool} (e:Ev W H W' H') (tw:∀ a,W a->∃ o,H a=some o/\fU o=true):fH (Ms H0 W g) (Ms H0 W' g) H H':=by
 have m:∀ {a:Addr}{o:HO},Ms H0 W g a->H a=some o->Ms H0 W' g a/\H' a=some o:=fun {a o} z h=>by
  cases g with
  | true=>
   obtain ⟨h1,h2⟩:=e a _ h z.1
   exact⟨⟨h2,z.2⟩,h1⟩
  | false=>
   obtain ⟨h1,h2⟩:=e a _ h z
   exact⟨h2,h1⟩
 refine⟨fun a _ z h=>m z h,fun a _ z h=>m z h,fun a _ z h=>m z h,fun a _ h=>(e a _ h fun z=>?_).1,fun a _ _ h=>(e a _ h fun z=>?_).1⟩
 ·obtain ⟨o,h',mu⟩:=tw a z; rw [h] at h'; cases h'; cases mu
 ·obtain ⟨o,h',mu⟩:=tw a z; rw [h] at h'; cases h'; cases mu
section
variable {X : Cx} {σ : St} {H : Hp} {te : aB} {tr : bX} {R : It → Hp → Prop}
def yK (K:PySem.W.Frag) (tl:TE):TI:=fun σ H R=>tl σ H fun x H1=>∃ a,x = .ref a/\((∃ xs,aK K H1 a xs/\R (jH K a) H1) ∨ (∃ xs,aI K H1 a xs/\R (i5 K a) H1))
def o0:Tg->List PV->Bool
 | .fr,_=>true
 | .nw,_=>true
 | _,xs=>flats xs
def dE (te:aB):dP:=fun ρ Q=>te ρ fun x g=>∃ xs,fV x=some xs/\(g = .rd->flat x=true)/\Q xs (o0 g xs)
theorem yL {K:PySem.W.Frag}{H0:Hp}{W:Addr->Prop}{g:Bool}{H1:Hp}{a:Addr}{us:List V}{xs:List PV} (tw:∀ a,W a->∃ o,H1 a=some o/\fU o=true) (ha:∀ W' H',Ev W H1 W' H'->aK K H' a us) (r:Reps K (Ms H0 W g) H1 us xs):nZ K H0 W g H1 (jH K a) xs:=by
 have lr:=r.length
 refine⟨fun W' H' i e hi=>⟨us,us[i]'(by omega),ha W' H' e,by simp⟩,fun W' H' i v H2 e y hi=>?_,fun W' H' e=>⟨us,ha W' H' e,by omega⟩⟩
 obtain ⟨rfl,y⟩:=y
 obtain ⟨x,hx,rx⟩:=r.get (y us (ha W' _ e))
 exact⟨a9.refl _,x,hx,rx.keep (e.keep tw)⟩
theorem yM {K:PySem.W.Frag}{H0:Hp}{W:Addr->Prop}{g:Bool}{H1:Hp}{a:Addr}{us:List V}{xs:List PV} (tw:∀ a,W a->∃ o,H1 a=some o/\fU o=true) (ha:∀ W' H',Ev W H1 W' H'->aI K H' a us) (r:Reps K (Ms H0 W g) H1 us xs):nZ K H0 W g H1 (i5 K a) xs:=by
 have lr:=r.length
 refine⟨fun W' H' i e hi=>⟨us,us[i]'(by omega),ha W' H' e,by simp⟩,fun W' H' i v H2 e y hi=>?_,fun W' H' e=>⟨us,ha W' H' e,by omega⟩⟩
 obtain ⟨rfl,y⟩:=y
 obtain ⟨x,hx,rx⟩:=r.get (y us (ha W' _ e))
 exact⟨a9.refl _,x,hx,rx.keep (e.keep tw)⟩
theorem lK {K:PySem.W.Frag}{H0 Hs H:Hp}{W:Addr->Prop}{σ:St}{ρ:b5}{g:Tg}{us:List V}{xs:List PV} (px:PX K H0 W σ ρ Hs) (hg:g = .rd->flats xs=true) (r:Reps K (Mg H0 W Hs g) H us xs):Reps K (Ms H0 W (o0 g xs)) H us xs:=by
 cases g with
 | fr=>exact r.same (a9.refl _) fun _ z=>px.new z
 | nw=>exact r.same (a9.refl _) fun _ z=>z
 | sh=>
  show Reps K (Ms H0 W (flats xs)) H us xs
  cases e:flats xs with
  | true=>exact r.flat e
  | false=>exact r.same (a9.refl _) fun _ z=>z
 | rd=>exact r.flat (hg rfl)
theorem aj7 (h:LI X (dE te) σ H R):yK X.K (LE X te) σ H R:=by
 obtain ⟨W,ρ,Q,px,q,k⟩:=h
 refine⟨W,ρ,_,px,q,?_⟩
 rintro v H1 x g s r ⟨xs,e,hg,q⟩
 have px1:=px.mono s
 have tw:∀ a,W a->∃ o,H1 a=some o/\fU o=true:=fun a z=>(px1.wm a z).2
 cases r with
 | tup h r=>
  cases e
  refine⟨_,rfl,.inr ⟨_,aI.of h,k _ _ _ _ s (yM tw (fun W' H' e=>aI.of (e _ _ h fun z=>?_).1) (lK px (fun z=>by have:=hg z; unfold flat at this; exact this) r)) q⟩⟩
  obtain ⟨o,h',mu⟩:=tw _ z; rw [h] at h'; cases h'; cases mu
 | @lst a us xs' m h r=>
  cases e
  have wa : ¬ W a:=by
   cases g with
   | fr=>exact (px.new m).1
   | nw=>exact m.1
   | sh=>exact m
   | rd=>have:=hg rfl; unfold flat at this; cases this
  exact⟨_,rfl,.inl ⟨_,aK.of h,k _ _ _ _ s (yL tw (fun W' H' e=>aK.of (e _ _ h wa).1) (lK px (fun z=>by have:=hg z; unfold flat at this; cases this) r)) q⟩⟩
 | scr h=>
  cases e
  refine⟨_,rfl,.inl ⟨_,h.sqL,k _ _ _ _ s (yL tw (fun W' H' e=>(gV.keep (fun a o u hz=>(e _ _ hz fun z=>?_).1) h).sqL) (lK (g:=g) px (fun z=>cD _) (Reps.intz _))) q⟩⟩
  obtain ⟨o,h',mu⟩:=tw _ z; rw [hz] at h'; cases h'; cases mu
 | kt h r=>
  cases e
  exact⟨_,rfl,.inr ⟨_,.inr h,k _ _ _ _ s (yM tw (fun W' H' e=>.inr h) (lK px (fun z=>by have:=hg z; unfold flat at this; exact this) r)) q⟩⟩
 | _=>cases e
def e8 (lo:Int) (n:Nat):List PV:=(List.range n).map fun (i:Nat)=>PV.int (lo+(i:Int))
theorem dQ (lo:Int) (n:Nat):(e8 lo n).length=n:=by unfold e8; rw [aJ3,List.length_range]
theorem yN {lo:Int}{n i:Nat} (h:i < n):(e8 lo n)[i]? = some (.int (lo+i)):=by unfold e8; rw [aJ6,List.getElem?_range h]; rfl
def fW (te:aB):dP:=fun ρ Q=>te ρ fun x _=>∃ j:Int,x = .int j/\-1000000<=j/\j<=1000000/\Q (e8 0 j.toNat) true
def sO (ta tb:aB):dP:=fun ρ Q=>ta ρ fun x _=>tb ρ fun y _=>∃ i j:Int,x = .int i/\y = .int j/\(-1000000<=i/\i<=1000000/\-1000000<=j/\j<=1000000)/\Q (e8 i (j - i).toNat) true
theorem yO {K:PySem.W.Frag}{H0:Hp}{W:Addr->Prop}{H1:Hp} (lo:Int) (n:Nat):nZ K H0 W true H1 (kR lo n) (e8 lo n):=by
 refine⟨fun W' H' i e hi=>by rw [dQ] at hi; exact hi,fun W' H' i v H2 e y hi=>?_,fun W' H' e=>by show n<=(e8 lo n).length; rw [dQ]; exact aJ0 _⟩
 rw [dQ] at hi
 obtain ⟨rfl,rfl⟩:=y
 exact⟨a9.refl _,_,yN hi,.int _⟩
theorem aj8 (h:LI X (fW te) σ H R):vD (iK (LE X te) iJ) σ H R:=by
 obtain ⟨W,ρ,Q,px,q,k⟩:=h
 refine⟨W,ρ,_,px,q,?_⟩
 rintro v H1 x g s r ⟨j,rfl,h1,h2,q⟩
 cases r
 exact⟨j,rfl,by omega,by omega,k _ _ _ _ s (yO 0 j.toNat) q⟩
theorem aj9 {ta tb:aB} (h:LI X (sO ta tb) σ H R):vE (iK (LE X ta) (iK (LE X tb) iJ)) σ H R:=by
 obtain ⟨W,ρ,Q,px,q,k⟩:=h
 refine⟨W,ρ,_,px,q,fun v H1 x g s r q=>⟨W,ρ,_,px.mono s,q,?_⟩⟩
 rintro w H2 y g' s2 r2 ⟨i,j,rfl,rfl,h,q⟩
 cases r; cases r2
 exact⟨i,j,rfl,by omega,k _ _ _ _ (s.trans s2) (yO i (j - i).toNat) q⟩
end
abbrev fX:=PV->Bool->b5->(b5->Prop)->Prop
def jU (K:PySem.W.Frag) (own:Nat->Prop) (p:fX) (t:TG):Prop:=∀ (H0:Hp) (W:Addr->Prop) (σ:St) (ρ:b5) (H:Hp) (v:V) (x:PV) (g:Bool) (Q:b5->Prop) (Q':St->Hp->Prop),
 PX K H0 W σ ρ H->aE K (Ms H0 W g) H v x->p x g ρ Q->(∀ σ' ρ',PX K H0 W σ' ρ' H->(∀ i,¬ own i->σ'[i]? = σ[i]?)->σ'.length=σ.length->Q ρ'->Q' σ' H)->t v σ H Q'
def bF (i:Nat):fX:=fun x g ρ Q=>Q (ρ.set i (some (.sh (g || flat x) x)))
theorem o4 {K:PySem.W.Frag}{H0 H:Hp}{W:Addr->Prop}{v:V}{x:PV}{g:Bool} (r:aE K (Ms H0 W g) H v x):aE K (Ms H0 W (g || flat x)) H v x:=by
 cases g with
 | true=>exact r
 | false=>
  show aE K (Ms H0 W (flat x)) H v x
  cases e:flat x with
  | true=>exact r.flat e
  | false=>exact r
theorem iS (K:PySem.W.Frag) (i:Nat):jU K (· = i) (bF i) (bL i):=by
 intro H0 W σ ρ H v x g Q Q' px r q k
 exact k _ _ (px.setSh (o4 r)) (fun j hj=>by rw [aK4 (Ne.symm hj)]) (aM7 ..) q
def lM (i j:Nat):fX:=fun x g ρ Q=>∃ y z,x = .tup [y,z]/\Q ((ρ.set i (some (.sh (g || flat y) y))).set j (some (.sh (g || flat z) z)))
theorem yP (K:PySem.W.Frag) (i j:Nat):jU K (fun k=>k=i ∨ k=j) (lM i j) (gM K 2 (dB (bL i) (dB (bL j) gL))):=by
 intro H0 W σ ρ H v x g Q Q' px r q k
 obtain ⟨y,z,rfl,q⟩:=q
 obtain ⟨a,us,rfl,h,r⟩:=r.sqT
 obtain ⟨u1,u2,rfl,r1,r2⟩:=r.two
 refine⟨a,_,rfl,aI.of h,rfl,u1,_,rfl,u2,_,rfl,rfl,k _ _ ((px.setSh (o4 r1)).setSh (o4 r2)) (fun k hk=>?_) (by rw [aM7,aM7]) q⟩
 rw [aK4 (fun e=>hk (.inr e.symm)),aK4 (fun e=>hk (.inl e.symm))]
section
variable {X : Cx} {σ : St} {H : Hp} {D : cA}
def eZ (ti:dP) (p:fX) (tb:aL):aL:=fun D ρ=>ti ρ fun xs g=>∃ I:Nat->b5->Prop,I 0 ρ/\(∀ i x ρ',xs[i]? = some x->I i ρ'->p x g ρ' fun ρ2=>tb { D with nx:=I (i+1),ct:=I (i+1),bk:=D.nx } ρ2)/\∀ ρ',I xs.length ρ'->D.nx ρ'
theorem ak0 {ti:dP}{p:fX}{g:TG}{tb:aL}{own:Nat->Prop} (hg:jU X.K own p g) (h:LS X (eZ ti p tb) D σ H):vF (LI X ti) g (LS X tb) D σ H:=by
 obtain ⟨W,ρ,D',px,q,k⟩:=h
 refine⟨W,ρ,_,px,q,?_⟩
 rintro J H1 xs gb s it ⟨I,i0,turn,fin⟩
 refine⟨fun i m σ2 H2=>m=xs.length - i/\i<=xs.length/\∃ W2 ρ2,PX X.K X.H₀ W2 σ2 ρ2 H2/\Ev W H1 W2 H2/\I i ρ2,⟨xs.length,by omega,aN0 _,W,ρ,px.mono s,Ev.refl _ _,i0⟩,?_⟩
 rintro i m σ2 H2 ⟨rfl,hi,W2,ρ2,px2,e2,i2⟩
 have e0:Ev W H W2 H2:=(Ev.same s).trans e2
 by_cases hlt:i < xs.length
 ·refine .inr ⟨it.go W2 H2 i e2 hlt,fun σ3 H3=>∃ W3 ρ3,PX X.K X.H₀ W3 σ3 ρ3 H3/\Ev W H1 W3 H3/\I (i+1) ρ3,fun σ3 H3 ⟨W3,ρ3,a,b,c⟩=>⟨xs.length - (i+1),by omega,rfl,hlt,W3,ρ3,a,b,c⟩,fun v H3 y=>?_⟩
  obtain ⟨s3,x,hx,rx⟩:=it.yld W2 H2 i v H3 e2 y hlt
  refine hg X.H₀ W2 σ2 ρ2 H3 v x gb _ _ (px2.mono s3) rx (turn i x ρ2 hx i2) fun σ4 ρ4 px4 _ _ q4=>?_
  have e3:Ev W H1 W2 H3:=e2.trans (Ev.same s3)
  have e3':Ev W H W2 H3:=e0.trans (Ev.same s3)
  exact⟨W2,ρ4,_,px4,q4,fun W' σ' H' ρ' e p q=>⟨W',ρ',p,e3.trans e,q⟩,k.rt,fun W' σ' H' ρ' e p q=>k.nx W' σ' H' ρ' (e3'.trans e) p q,fun W' σ' H' ρ' e p q=>⟨W',ρ',p,e3.trans e,q⟩⟩
 ·have e:i=xs.length:=by omega
  subst e
  exact .inl ⟨it.stop W2 H2 e2,k.nx W2 σ2 H2 ρ2 e0 px2 (fin ρ2 i2)⟩
end
def eI (fr:List (Option Nat)) (ρ:b5):b5:=fr.map fun o=>o.bind fun j=>(ρ[j]?).join.map fun m=>Slot.sh false m.val
def fA (D:Addr):Addr->Prop:=fun a=>a=D
theorem ak1 {K:PySem.W.Frag}{H0:Hp}{W:Addr->Prop}{σ:St}{ρ:b5}{H1 H':Hp}{D:Addr}{acc:List V}{fr:List (Option Nat)} (px:PX K H0 W σ ρ H1) (hD:H1 D=none) (s:a9 H1 H') (ha:H' D=some (.lst acc)) :
  PX K H1 (fA D) (cW fr σ) (eI fr ρ) H':=by
 have old:∀ {a:Addr}{o:HO},H1 a=some o->a ≠ D:=fun {a o} e z=>by rw [z,hD] at e; cases e
 refine⟨by unfold cW eI; rw [aJ3,aJ3],s,fun a z=>by cases z; exact⟨hD,_,ha,rfl⟩,fun i m h=>?_,fun i j x y a h1=>?_⟩
 ·unfold eI at h
  rw [aJ6] at h
  cases ef:fr[i]? with
  | none=>rw [ef] at h; cases h
  | some o=>
   rw [ef] at h
   cases o with
   | none=>cases h
   | some j=>
    have h:some ((ρ[j]?).join.map fun m=>Slot.sh false m.val)=some (some m):=h
    cases er:ρ[j]? with
    | none=>rw [er] at h; cases h
    | some o=>
     rw [er] at h
     cases o with
     | none=>cases h
     | some m0=>
      cases h
      obtain ⟨v,ev,r⟩:=px.sl j m0 er
      refine⟨v,?_,?_⟩
      ·unfold cW
       rw [aJ6,ef]
       show some ((σ[j]?).join)=_
       rw [ev]; rfl
      ·have r':aE K (fun _=>True) H1 v m0.val:=(nQ (Hs:=H1) r).same (a9.refl _) fun _ _=>trivial
       exact r'.keep ⟨fun a _ _ e=>⟨old e,s _ _ e⟩,fun a _ _ e=>⟨old e,s _ _ e⟩,fun a _ _ e=>⟨old e,s _ _ e⟩,fun _ _ e=>s _ _ e,fun _ _ _ e=>s _ _ e⟩
 ·unfold eI at h1
  rw [aJ6] at h1
  cases ef:fr[i]? with
  | none=>rw [ef] at h1; cases h1
  | some o=>
   rw [ef] at h1
   cases o with
   | none=>cases h1
   | some j=>
    have h1:some ((ρ[j]?).join.map fun m=>Slot.sh false m.val)=some (some (Slot.own x)):=h1
    cases er:ρ[j]? with
    | none=>rw [er] at h1; cases h1
    | some o=>
     rw [er] at h1
     cases o with
     | none=>cases h1
     | some m0=>cases h1
section
variable {X : Cx} {σ : St} {H : Hp} {Q' : VK}
abbrev _root_.L2.Cx.frm (X:Cx) (H1:Hp):Cx:={ X with H₀:=H1 }
def c7 (ti:dP) (fr:List (Option Nat)) (p:fX) (tc:bI) (te:aB):aB:=fun ρ Q=>ti ρ fun xs g=>xs.length<=16000000/\∃ I:Nat->List PV->Prop,I 0 []/\
 (∀ i x acc,xs[i]? = some x->I i acc->p x false (eI fr ρ) fun ρ2=>tc ρ2 fun b=>if b=true then te ρ2 fun y gy=>Nw gy y/\I (i+1) (acc ++ [y]) else I (i+1) acc)/\∀ acc,I xs.length acc->Q (.lst acc) .fr
theorem iT {ti:dP}{fr:List (Option Nat)}{p:fX}{g:TG}{tc:bI}{te:aB}{own:Nat->Prop} (hg:jU X.K own p g) (ho:∀ i,own i->fr[i]? = some none) (h:LE X (c7 ti fr p tc te) σ H Q') :
  nF (LI X ti) fr (fun _=>g) (fun H1=>LT (X.frm H1) tc) (fun H1=>LE (X.frm H1) te) σ H Q':=by
 obtain ⟨W,ρ,Q,px,q,k⟩:=h
 refine⟨W,ρ,_,px,q,?_⟩
 rintro J H1 xs gb s it ⟨hl,I,i0,turn,fin⟩ D hD
 have px1:=px.mono s
 refine⟨fun i m acc H'=>m=xs.length - i/\i<=xs.length/\a9 H1 H'/\H' D=some (.lst acc)/\∃ ys,Reps X.K (Ms H1 (fA D) true) H' acc ys/\ys.length<=i/\I i ys,⟨xs.length,by omega,aN0 _,aY hD _,aV,[],.nil,aJ0 _,i0⟩,?_⟩
 rintro i m acc H' ⟨rfl,hi,sm,ha,ys,ry,hy,iy⟩
 refine⟨ha,?_⟩
 have ev:Ev W H1 (jR W D) H':=Ev.own sm hD
 by_cases hlt:i < xs.length
 ·refine .inr ⟨it.go _ H' i ev hlt,fun v H2 y=>?_⟩
  obtain ⟨s2,x,hx,rx⟩:=it.yld _ H' i v H2 ev y hlt
  have ha2:=s2 _ _ ha
  have pxb:PX X.K H1 (fA D) (cW fr σ) (eI fr ρ) H2:=ak1 px1 hD (sm.trans s2) ha2
  have rx':aE X.K (Ms H1 (fA D) false) H2 v x:=rx.same (a9.refl _) fun a z=>by
   cases gb with
   | true=>exact fun e=>z.1 (.inr e)
   | false=>exact fun e=>z (.inr e)
  refine hg H1 (fA D) _ _ H2 v x false _ _ pxb rx' (turn i x ys hx iy) fun σ2 ρ2 px2 hown hlen q2=>⟨⟨hlen.symm,fun j w e=>?_⟩,?_⟩
  ·by_cases oj:own j
   ·have:=ho j oj
    unfold cW at e
    rw [aJ6,this] at e
    cases e
   ·rw [hown j oj]; exact e
  ·refine⟨fA D,ρ2,_,px2,q2,fun b H4 s4 q4=>?_⟩
   have ha4:=s4 _ _ ha2
   have sm4:=(sm.trans s2).trans s4
   cases b with
   | false=>
    refine aW ⟨xs.length - (i+1),by omega,rfl,hlt,sm4,ha4,ys,ry.same (s2.trans s4) fun _ z=>z,by omega,by simpa using q4⟩
   | true=>
    refine b4 ⟨fA D,ρ2,_,px2.mono s4,by simpa using q4,?_⟩
    rintro w H5 y gy s5 ryy ⟨nw,q5⟩
    have ha5:=s5 _ _ ha4
    have lr:=ry.length
    refine⟨ha5,fT (by omega),xs.length - (i+1),by omega,rfl,hlt,fun b o e=>?_,aV,ys ++ [y],?_,by rw [aJ4,aN6]; omega,q5⟩
    ·rw [aJ (fun z=>by rw [z,hD] at e; cases e)]
     exact s5 _ _ (sm4 _ _ e)
    ·exact ((ry.same ((s2.trans s4).trans s5) fun _ z=>z).append (.cons (Nw.rep (px2.mono s4) nw ryy) .nil)).keep (.upd ha5 rfl fun b m=>⟨m.1,m⟩)
 ·have e:i=xs.length:=by omega
  subst e
  refine .inl ⟨it.stop _ H' ev,k _ H' _ .fr (s.trans sm) (.lst (s.free hD) ha (ry.same (a9.refl _) fun _ z=>s.free z.2)) (fin ys iy)⟩
def cO:bI:=fun _ Q=>Q true
theorem ak2 {Qb:Bool->Hp->Prop} (h:LT X cO σ H Qb):rE σ H Qb:=by
 obtain ⟨W,ρ,Q,px,q,k⟩:=h
 exact k _ _ (a9.refl _) q
end
section
variable {κ : Type} [DecidableEq κ]
def bS (ps:List (κ × PV)) (k:κ):Option PV:=(ps.find? fun p=>decide (p.1=k)).map (·.2)
def cL (ps:List (κ × PV)) (k:κ) (x:PV):List (κ × PV):=if (ps.any fun p=>decide (p.1=k))=true then ps.map (fun p=>if p.1=k then (p.1,x) else p) else ps ++ [(k,x)]
variable {K : PySem.W.Frag} {M : Addr → Prop} {H : Hp}
theorem lN (k:κ):∀ {kvs:List (κ × V)}{ps:List (κ × PV)},kvs.map (·.1)=ps.map (·.1)->Reps K M H (kvs.map (·.2)) (ps.map (·.2))->(bS ps k=none->dN kvs k=none)/\∀ x,bS ps k=some x->∃ v,dN kvs k=some v/\aE K M H v x
 | [],[],_,_=>⟨fun _=>rfl,fun x h=>by cases h⟩
 | [],_ :: _,e,_=>by cases e
 | _ :: _,[],e,_=>by cases e
 | (k1,v) :: kvs,(k2,x) :: ps,e,r=>by
  injection e with e1 e2
  have e1:k1=k2:=e1
  subst e1
  cases r with
  | cons r t=>
   obtain ⟨h1,h2⟩:=lN k e2 t
   unfold bS dN at h1 h2 ⊢
   by_cases e:k1=k
   ·simp only [aQ9,e,decide_true,Option.map_some]
    exact⟨fun z=>(by cases z),fun y z=>(by cases z; exact⟨v,rfl,r⟩)⟩
   ·simp only [aQ9,e,decide_false]
    exact⟨h1,h2⟩
theorem ak3 (k:κ) {kvs:List (κ × V)}{ps:List (κ × PV)} (e:kvs.map (·.1)=ps.map (·.1)):(kvs.any fun p=>decide (p.1=k))=ps.any fun p=>decide (p.1=k):=by
 have h1:(kvs.any fun p=>decide (p.1=k))=(kvs.map (·.1)).any fun z=>decide (z=k):=by rw [List.any_map]; rfl
 have h2:(ps.any fun p=>decide (p.1=k))=(ps.map (·.1)).any fun z=>decide (z=k):=by rw [List.any_map]; rfl
 rw [h1,h2,e]
theorem yQ (k:κ) {w:V}{y:PV} (q:aE K M H w y):∀ {kvs:List (κ × V)}{ps:List (κ × PV)},kvs.map (·.1)=ps.map (·.1)->Reps K M H (kvs.map (·.2)) (ps.map (·.2))->
  (kvs.map fun kv=>if kv.1=k then (kv.1,w) else kv).map (·.1)=(ps.map fun kv=>if kv.1=k then (kv.1,y) else kv).map (·.1)/\Reps K M H ((kvs.map fun kv=>if kv.1=k then (kv.1,w) else kv).map (·.2)) ((ps.map fun kv=>if kv.1=k then (kv.1,y) else kv).map (·.2))
 | [],[],_,_=>⟨rfl,.nil⟩
 | [],_ :: _,e,_=>by cases e
 | _ :: _,[],e,_=>by cases e
 | (k1,v) :: kvs,(k2,x) :: ps,e,r=>by
  injection e with e1 e2
  have e1:k1=k2:=e1
  subst e1
  cases r with
  | cons r t=>
   obtain ⟨h1,h2⟩:=yQ k q e2 t
   by_cases e:k1=k
   ·simp only [aM9,e,if_true]
    exact⟨by rw [h1],.cons q h2⟩
   ·simp only [aM9,e,aN5]
    exact⟨by rw [h1],.cons r h2⟩
theorem yR (k:κ) {w:V}{y:PV} (q:aE K M H w y) {kvs:List (κ × V)}{ps:List (κ × PV)} (e:kvs.map (·.1)=ps.map (·.1)) (r:Reps K M H (kvs.map (·.2)) (ps.map (·.2))) :
  (dO kvs k w).map (·.1)=(cL ps k y).map (·.1)/\Reps K M H ((dO kvs k w).map (·.2)) ((cL ps k y).map (·.2)):=by
 unfold dO cL
 rw [ak3 k e]
 split
 ·exact yQ k q e r
 ·rw [aO5,aO5,aO5,aO5,e]
  exact⟨rfl,r.append (.cons q .nil)⟩
end
def kP:aD->PV
 | .inl i=>.int i
 | .inr x=>.str x
theorem sP {K:PySem.W.Frag}{M:Addr->Prop}{H:Hp}{v:V}{k:aD} (r:aE K M H v (kP k)):v=kV k:=by
 cases k with
 | inl i=>cases r; rfl
 | inr x=>cases r; rfl
theorem o7 {K:PySem.W.Frag}{M:Addr->Prop}{H:Hp}:∀ {ks:List aD}{us:List V},Reps K M H us (ks.map kP)->us=ks.map kV
 | [],_,.nil=>rfl
 | k :: r,_,.cons q t=>by rw [sP q,o7 t]; rfl
def sQ (x y:PV) (o:Option PV):Prop:=(∃ ps k,x = .dK ps/\y=kP k/\o=bS ps k) ∨ (∃ ps k,x = .dT ps/\y = .tup (k.map kP)/\o=bS ps k)
theorem sR {K:PySem.W.Frag}{M M2:Addr->Prop}{H:Hp}{v w:V}{x y:PV}{o:Option PV} (h:sQ x y o) (rx:aE K M H v x) (ry:aE K M2 H w y):∃ a o',v = .ref a/\dY H a w o'/\(o=none->o'=none)/\∀ z,o=some z->∃ u,o'=some u/\aE K M H u z:=by
 rcases h with ⟨ps,k,rfl,rfl,rfl⟩ | ⟨ps,k,rfl,rfl,rfl⟩
 ·obtain rfl:=sP ry
  cases rx with
  | dK m h e r=>exact⟨_,_,rfl,dY.k h,(lN k e r).1,(lN k e r).2⟩
 ·obtain ⟨b,us,rfl,hb,rb⟩:=ry.sqT
  obtain rfl:=o7 rb
  cases rx with
  | dT m h e r=>exact⟨_,_,rfl,dY.t h hb,(lN k e r).1,(lN k e r).2⟩
section
variable {X : Cx} {σ : St} {H : Hp} {D : cA} {tk td te : aB} {Q' : VK}
def iU (neg:Bool) (tk td:aB):aB:=fun ρ Q=>tk ρ fun y _=>td ρ fun x _=>∃ o,sQ x y o/\Q (.bl (if neg=true then !o.isSome else o.isSome)) .fr
theorem yS {α β:Type}{o:Option α}{o':Option β}{P:β->α->Prop} (h1:o=none->o'=none) (h2:∀ z,o=some z->∃ u,o'=some u/\P u z):o'.isSome=o.isSome:=by
 cases o with
 | none=>rw [h1 rfl]; rfl
 | some z=>obtain ⟨u,e,_⟩:=h2 z rfl; rw [e]; rfl
theorem ak4 (h:LE X (iU false tk td) σ H Q'):wY (LE X tk) (LE X td) σ H Q':=by
 obtain ⟨W,ρ,Q,px,q,k⟩:=h
 refine⟨W,ρ,_,px,q,fun w H1 y g s r q=>⟨W,ρ,_,px.mono s,q,?_⟩⟩
 rintro v H2 x g' s2 r2 ⟨o,ak,q⟩
 obtain ⟨a,o',rfl,dg,h1,h2⟩:=sR ak r2 (r.same s2 fun _ z=>z)
 refine⟨a,o',rfl,dg,?_⟩
 rw [yS h1 h2]
 exact k _ _ _ .fr (s.trans s2) (.bl _) q
theorem ak5 (h:LE X (iU true tk td) σ H Q'):wZ (LE X tk) (LE X td) σ H Q':=by
 obtain ⟨W,ρ,Q,px,q,k⟩:=h
 refine⟨W,ρ,_,px,q,fun w H1 y g s r q=>⟨W,ρ,_,px.mono s,q,?_⟩⟩
 rintro v H2 x g' s2 r2 ⟨o,ak,q⟩
 obtain ⟨a,o',rfl,dg,h1,h2⟩:=sR ak r2 (r.same s2 fun _ z=>z)
 refine⟨a,o',rfl,dg,?_⟩
 rw [yS h1 h2]
 exact k _ _ _ .fr (s.trans s2) (.bl _) q
def o8 (td tk:aB):aB:=fun ρ Q=>td ρ fun x g=>tk ρ fun y _=>∃ z,sQ x y (some z)/\Q z g
theorem ak6 (h:LE X (o8 td tk) σ H Q'):wX (LE X td) (LE X tk) σ H Q':=by
 obtain ⟨W,ρ,Q,px,q,k⟩:=h
 refine⟨W,ρ,_,px,q,fun v H1 x g s r q=>⟨W,ρ,_,px.mono s,q,?_⟩⟩
 rintro w H2 y g' s2 r2 ⟨z,ak,q⟩
 obtain ⟨a,o',rfl,dg,h1,h2⟩:=sR ak (r.same s2 fun _ z=>z) r2
 obtain ⟨u,rfl,ru⟩:=h2 z rfl
 exact⟨a,u,rfl,dg,k _ _ _ g (s.trans s2) ru q⟩
theorem PX.updD {K:PySem.W.Frag}{H0:Hp}{W:Addr->Prop}{σ:St}{ρ:b5}{H:Hp}{i:Nat}{a:Addr}{x:PV}{kvs:List (aD × V)}{ps:List (aD × PV)} (p:PX K H0 W σ ρ H) (hi:ρ[i]? = some (some (.own x))) (ha:σ[i]? = some (some (.ref a))) (wa:W a)
  (r:kvs.map (·.1)=ps.map (·.1)/\Reps K (Ms H0 W true) (upd H a (.dK kvs)) (kvs.map (·.2)) (ps.map (·.2))):PX K H0 W σ (ρ.set i (some (.own (.dK ps)))) (upd H a (.dK kvs)):=p.updOwn hi ha wa rfl (y:=.dK ps) ⟨kvs,aV,r⟩
theorem PX.updT {K:PySem.W.Frag}{H0:Hp}{W:Addr->Prop}{σ:St}{ρ:b5}{H:Hp}{i:Nat}{a:Addr}{x:PV}{kvs:List (List aD × V)}{ps:List (List aD × PV)} (p:PX K H0 W σ ρ H) (hi:ρ[i]? = some (some (.own x))) (ha:σ[i]? = some (some (.ref a))) (wa:W a)
  (r:kvs.map (·.1)=ps.map (·.1)/\Reps K (Ms H0 W true) (upd H a (.dT kvs)) (kvs.map (·.2)) (ps.map (·.2))):PX K H0 W σ (ρ.set i (some (.own (.dT ps)))) (upd H a (.dT kvs)):=p.updOwn hi ha wa rfl (y:=.dT ps) ⟨kvs,aV,r⟩
theorem sS {κ α β:Type}{l:List (κ × α)}{m:List (κ × β)} (e:l.map (·.1)=m.map (·.1)):l.length=m.length:=by
 have:=congrArg List.length e
 rw [aJ3,aJ3] at this
 exact this
def o9 (i:Nat) (tk te:aB):aL:=fun D ρ=>te ρ fun z g=>∃ ps,ρ[i]? = some (some (.own (.dK ps)))/\tk ρ fun y _=>∃ k,y=kP k/\Nw g z/\ps.length < 16000000/\D.nx (ρ.set i (some (.own (.dK (cL ps k z)))))
def jV (i:Nat) (tk te:aB):aL:=fun D ρ=>te ρ fun z g=>∃ ps,ρ[i]? = some (some (.own (.dT ps)))/\tk ρ fun y _=>∃ k,y = .tup (k.map kP)/\Nw g z/\ps.length < 16000000/\D.nx (ρ.set i (some (.own (.dT (cL ps k z)))))
theorem ak7 {i:Nat} (h:LS X (o9 i tk te) D σ H):r6 (eM i) (LE X tk) (LE X te) D σ H:=by
 obtain ⟨W,ρ,D',px,q,k⟩:=h
 refine⟨W,ρ,_,px,q,?_⟩
 rintro w H1 z g s rz ⟨ps,hi,q⟩
 obtain ⟨v,ev,a,rfl,wa,kvs,ea,e1,r⟩:=(px.mono s).sl i _ hi
 refine⟨_,ev,W,ρ,_,px.mono s,q,?_⟩
 rintro kv H2 y g' s2 ry ⟨kk,rfl,nw,hl,q⟩
 obtain rfl:=sP ry
 have ea2:=s2 _ _ ea
 refine⟨a,_,rfl,i7.k ea2 (fT (by rw [sS e1]; omega)),?_⟩
 refine k.nx W σ _ _ ((Ev.same (s.trans s2)).trans (Ev.upd wa)) ((px.mono (s.trans s2)).updD hi ev wa ?_) q
 obtain ⟨h1,h2⟩:=yR kk ((Nw.rep px nw rz).same s2 fun _ z=>z) e1 (r.same s2 fun _ z=>z)
 exact⟨h1,h2.keep (.upd ea2 rfl fun b m=>⟨jS wa m,m⟩)⟩
theorem ak8 {i:Nat} (h:LS X (jV i tk te) D σ H):r6 (eM i) (LE X tk) (LE X te) D σ H:=by
 obtain ⟨W,ρ,D',px,q,k⟩:=h
 refine⟨W,ρ,_,px,q,?_⟩
 rintro w H1 z g s rz ⟨ps,hi,q⟩
 obtain ⟨v,ev,a,rfl,wa,kvs,ea,e1,r⟩:=(px.mono s).sl i _ hi
 refine⟨_,ev,W,ρ,_,px.mono s,q,?_⟩
 rintro kv H2 y g' s2 ry ⟨kk,rfl,nw,hl,q⟩
 obtain ⟨b,us,rfl,hb,rb⟩:=ry.sqT
 obtain rfl:=o7 rb
 have ea2:=s2 _ _ ea
 refine⟨a,_,rfl,i7.t ea2 hb (fT (by rw [sS e1]; omega)),?_⟩
 refine k.nx W σ _ _ ((Ev.same (s.trans s2)).trans (Ev.upd wa)) ((px.mono (s.trans s2)).updT hi ev wa ?_) q
 obtain ⟨h1,h2⟩:=yR kk ((Nw.rep px nw rz).same s2 fun _ z=>z) e1 (r.same s2 fun _ z=>z)
 exact⟨h1,h2.keep (.upd ea2 rfl fun b m=>⟨jS wa m,m⟩)⟩
theorem ak9 (h:LE X (qC (.dK [])) σ H Q'):x3 σ H Q':=by
 obtain ⟨W,ρ,Q,px,q,k⟩:=h
 exact fun p hp=>k _ _ _ .fr (aY hp _) (.dK hp aV rfl .nil) q
theorem al0 (h:LE X (qC (.dT [])) σ H Q'):x4 σ H Q':=by
 obtain ⟨W,ρ,Q,px,q,k⟩:=h
 exact fun p hp=>k _ _ _ .fr (aY hp _) (.dT hp aV rfl .nil) q
end
def c8:Nat->PV->PV->Bool
 | _,.non,.non=>true
 | _,.bl a,.bl b=>a == b
 | _,.int a,.int b=>a == b
 | _,.str a,.str b=>a == b
 | n+1,.tup xs,.tup ys=>(xs.zip ys).all (fun p=>c8 n p.1 p.2) && xs.length == ys.length
 | n+1,.lst xs,.lst ys=>(xs.zip ys).all (fun p=>c8 n p.1 p.2) && xs.length == ys.length
 | n+1,.kt xs,.kt ys=>(xs.zip ys).all (fun p=>c8 n p.1 p.2) && xs.length == ys.length
 | _,_,_=>false
def dJ:Nat->PV->PV->Bool
 | _,.non,.non=>true
 | _,.bl _,.bl _=>true
 | _,.int _,.int _=>true
 | _,.str _,.str _=>true
 | _,.non,.int _=>true
 | _,.int _,.non=>true
 | n+1,.tup xs,.tup ys=>(xs.zip ys).all (fun p=>dJ n p.1 p.2)
 | n+1,.lst xs,.lst ys=>(xs.zip ys).all (fun p=>dJ n p.1 p.2)
 | n+1,.kt xs,.kt ys=>(xs.zip ys).all (fun p=>dJ n p.1 p.2)
 | _+1,.non,.tup _=>true
 | _+1,.tup _,.non=>true
 | _,_,_=>false
theorem al1 (n:Nat) (a b:Int):c8 n (.int a) (.int b)=(a == b):=by cases n <;> rfl
theorem yT (n:Nat):∀ (a b:List Int),((((intz a).zip (intz b)).all fun p=>c8 n p.1 p.2) && (intz a).length == (intz b).length)=decide (a=b)
 | [],[]=>rfl
 | [],_ :: _=>by simp
 | _ :: _,[]=>by simp
 | x :: a,y :: b=>by
  have ih:=yT n a b
  simp only [aM9,List.zip_cons_cons,aT3,aO0,al1] at ih ⊢
  by_cases e:x=y
  ·subst e
   have:((intz a).length+1 == (intz b).length+1)=((intz a).length == (intz b).length):=by simp
   rw [this,aP1,Bool.true_and,ih]
   simp
  ·have:(x == y)=false:=aS0.mpr e
   rw [this,Bool.false_and,Bool.false_and]
   simp [e]
theorem al2 (n:Nat) (a b:List Int):c8 (n+1) (.lst (intz a)) (.lst (intz b))=decide (a=b):=yT n a b
theorem yU (n:Nat):∀ (a b:List Int),(((intz a).zip (intz b)).all fun p=>dJ n p.1 p.2)=true
 | [],_=>by simp
 | _ :: _,[]=>by simp
 | x :: a,y :: b=>by
  simp only [aM9,List.zip_cons_cons,aT3,yU n a b,Bool.and_true]
  cases n <;> rfl
theorem al3 (n:Nat) (a b:List Int):dJ (n+1) (.lst (intz a)) (.lst (intz b))=true:=yU n a b
def iV (neg:Bool):PV->Tg->PV->Tg->PK->Prop:=fun x _ y _ Q=>∃ i ns,x = .int i/\fV y=some (intz ns)/\Q (.bl (if neg=true then !decide (i ∈ ns) else decide (i ∈ ns))) .fr
def yV:PV->Option String
 | .non=>some "NoneType"
 | .bl _=>some "bool"
 | .int _=>some "int"
 | .str _=>some "str"
 | .tup _=>some "tuple"
 | .kt _=>some "tuple"
 | .lst _=>some "list"
 | _=>none
def lO (K:PySem.W.Frag) (n:String) (te:aB):aB:=fun ρ Q=>te ρ fun x _=>∃ T b,yV x=some T/\PySem.W.kitOne K (.type T) (.type n)=some b/\Q (.bl b) .fr
def oA (n:Nat) (neg:Bool):PV->Tg->PV->Tg->PK->Prop:=fun x _ y _ Q=>((∃ xs ys,x = .tup xs/\y = .tup ys) ∨ (∃ xs ys,x = .lst xs/\y = .lst ys))/\dJ (n+1) x y=true/\Q (.bl (if neg=true then !c8 (n+1) x y else c8 (n+1) x y)) .fr
abbrev jW:=b5->(Option Int->Prop)->Prop
def fY (xs:List PV) (lo hi:Option Int):List PV:=(xs.drop (HT.aP xs.length 0 lo)).take (HT.aP xs.length xs.length hi - HT.aP xs.length 0 lo)
def sT:PV->List PV->PV
 | .tup _,ys=>.tup ys
 | .kt _,ys=>.tup ys
 | _,ys=>.lst ys
def sU:jW:=fun _ Q=>Q none
def sV (te:aB):jW:=fun ρ Q=>te ρ fun x _=>∃ i,x = .int i/\Q (some i)
def sW (te:aB) (tl th:jW):aB:=fun ρ Q=>te ρ fun x _=>tl ρ fun lo=>th ρ fun hi=>∃ xs,seqT x=some xs/\flats xs=true/\Q (sT x (fY xs lo hi)) .fr
def dL (N:List Str) (xs:List PV):b5:=xs.map (fun x=>some (.sh (flat x) x)) ++ List.replicate (N.length - xs.length) none
abbrev fZ (ta tb:aB):aB:=q2 (eG fun i j=>.int (i+j)) ta tb
abbrev yW (ta tb:aB):aB:=q2 (eG fun i j=>.int (i - j)) ta tb
abbrev sX (ta tb:aB):aB:=q2 (RI kU fun i j=>.int (i * j)) ta tb
abbrev g6 (ta tb:aB):aB:=q2 (RI qF fun i j=>.int (i / j)) ta tb
abbrev cX (ta tb:aB):aB:=q2 (RI (fun _ j=>0 < j) fun i j=>.int (i % j)) ta tb
abbrev al4 (ta tb:aB):aB:=q2 (RI (fun _ j=>0<=j) fun i j=>.int (i / 2 ^ j.toNat)) ta tb
abbrev sY (ta tb:aB):aB:=q2 (eG fun i j=>.bl (decide (i < j))) ta tb
abbrev sZ (ta tb:aB):aB:=q2 (eG fun i j=>.bl (decide (j < i))) ta tb
abbrev t4 (ta tb:aB):aB:=q2 (eG fun i j=>.bl (decide (j<=i))) ta tb
abbrev g9 (ta tb:aB):aB:=q2 (iA false) ta tb
abbrev lP (ta tb:aB):aB:=q2 (iA true) ta tb
abbrev al5 (ta tb:aB):aB:=q2 (sN true) ta tb
abbrev fK (ta tb:aB):aB:=q2 sH ta tb
def fL:List PV->(PV->Prop)->Prop:=fun xs Q=>yI xs Q/\∀ ns,xs ≠ [.scr ns]
def QE (X:Cx) (e:Expr) (t:aB):Prop:=PE X e (LE X t)
def QT (X:Cx) (e:Expr) (t:bI):Prop:=PT X e (LT X t)
def QW (X:Cx) (e:Expr) (t:bI):Prop:=PW X e (LT X t)
def QA (X:Cx) (es:List Expr) (t:bX):Prop:=PA X es (LA X t)
def QS (X:Cx) (st:Stmt) (t:aL):Prop:=PS X st (LS X t)
def dR (X:Cx) (st:List Stmt) (t:aL):Prop:=cB X st (LS X t)
def QI (X:Cx) (tg iter:Expr) (t:dP):Prop:=PI X tg iter (LI X t)
section
variable {X : Cx}
theorem bC {e:Expr}{t t':TE} (h:PE X e t) (m:∀ σ H Q,t' σ H Q->t σ H Q):PE X e t':=fun pins s σ H Q I q=>h pins s σ H Q I (m σ H Q q)
theorem lQ {e:Expr}{t t':TT} (h:PT X e t) (m:∀ σ H Q,t' σ H Q->t σ H Q):PT X e t':=fun pins s σ H Q I q=>h pins s σ H Q I (m σ H Q q)
theorem yX {e:Expr}{t t':TT} (h:PW X e t) (m:∀ σ H Q,t' σ H Q->t σ H Q):PW X e t':=fun wh pins s σ H Q I q=>h wh pins s σ H Q I (m σ H Q q)
theorem yY {e:List Expr}{t t':TA} (h:PA X e t) (m:∀ σ H Q,t' σ H Q->t σ H Q):PA X e t':=fun pos pins s σ H Q I q=>h pos pins s σ H Q I (m σ H Q q)
theorem cS {e:Stmt}{t t':TS} (h:PS X e t) (m:∀ D σ H,t' D σ H->t D σ H):PS X e t':=fun pins s σ H D I q=>h pins s σ H D I (m D σ H q)
theorem t5 {e:List Stmt}{t t':TS} (h:cB X e t) (m:∀ D σ H,t' D σ H->t D σ H):cB X e t':=fun pins s σ H D I q=>h pins s σ H D I (m D σ H q)
theorem oB {tg e:Expr}{t t':TI} (h:PI X tg e t) (m:∀ σ H R,t' σ H R->t σ H R):PI X tg e t':=fun pins s σ H R I q=>h pins s σ H R I (m σ H R q)
variable {a b c e o : Expr} {es bT : List Expr} {ta tb te to tk : aB} {tr : bX} {tA tB' tc : bI} {pos p2 px : Pos} {st : Stmt} {sts : List Stmt} {t u : aL}
theorem qv (i:Nat) {x:Str}{pos:Pos} (hN:X.N[i]? = some x:=by rfl) (hv:eL X.env.scope x:=by first | exact Or.inl rfl | exact Or.inr (Or.inl rfl) | exact Or.inr (Or.inr rfl)) (hd:(x == ("__debug__" : Str))=false:=by decide)
  (hcd:(x == ("__classdict__" : Str))=false:=by decide):QE X (.Name x pos) (a6 i):=bC (gJ hN hv hd hcd) fun _ _ _=>ag4
theorem aM {i j}:QE X (.Constant (.int i) j pos) (qC (.int i)):=bC kL fun _ _ _=>lG fun _=>.int i
theorem fM {i j}:QE X (.Constant (.bool i) j pos) (qC (.bl i)):=bC Q8 fun _ _ _=>lG fun _=>.bl i
theorem yZ {j}:QE X (.Constant .none j pos) (qC .non):=bC Q9 fun _ _ _=>lG fun _=>.non
theorem t6 {i j}:QE X (.Constant (.str i) j pos) (qC (.str i)):=bC R3 fun _ _ _=>lG fun _=>.str i
theorem gY {op:Operator}{R:PV->Tg->PV->Tg->PK->Prop}{r:R2} (ho:bR X (binaryOp op) r) (cv:dI X R r) (ha:QE X a ta) (hb:QE X b tb):QE X (.BinOp a op b pos) (q2 R ta tb):=bC (U0 ho ha hb) fun _ _ _=>nR cv
theorem gA (ha:QE X a ta) (hb:QE X b tb):QE X (.BinOp a .Add b pos) (q2 (eG fun i j=>.int (i+j)) ta tb):=gY U2 xZ ha hb
theorem z9 (ha:QE X a ta) (hb:QE X b tb):QE X (.BinOp a .Sub b pos) (q2 (eG fun i j=>.int (i - j)) ta tb):=gY U3 xZ ha hb
theorem t7 (ha:QE X a ta) (hb:QE X b tb):QE X (.BinOp a .Mult b pos) (q2 (RI kU fun i j=>.int (i * j)) ta tb):=gY U4 nS ha hb
theorem gB (ha:QE X a ta) (hb:QE X b tb):QE X (.BinOp a .FloorDiv b pos) (q2 (RI qF fun i j=>.int (i / j)) ta tb):=gY U5 nS ha hb
theorem cY (ha:QE X a ta) (hb:QE X b tb):QE X (.BinOp a .Mod b pos) (q2 (RI (fun _ j=>0 < j) fun i j=>.int (i % j)) ta tb):=gY U6 nS ha hb
theorem al6 (ha:QE X a ta) (hb:QE X b tb):QE X (.BinOp a .RShift b pos) (q2 (RI (fun _ j=>0<=j) fun i j=>.int (i / 2 ^ j.toNat)) ta tb):=gY U7 nS ha hb
theorem lR {op:CmpOp}{R:PV->Tg->PV->Tg->PK->Prop}{r:R2} (ho:bR X (compareOp op) r) (cv:dI X R r) (ha:QE X a ta) (hb:QE X b tb) (hm:behindInMarks op b=false):QE X (.Compare a [op] [b] pos) (q2 R ta tb):=bC (qG ho ha hb hm) fun _ _ _=>nR cv
theorem jX {op:CmpOp}{R:PV->Tg->PV->Tg->PK->Prop}{r:R2} (ho:bR X (compareOp op) r) (cv:dI X R r) (ha:QE X a ta) (hb:QE X b tb) (hm:behindInMarks op b=false):QT X (.Compare a [op] [b] pos) (aZ (q2 R ta tb)):=lQ (V2 ho ha hb hm) fun _ _ _ h=>nR cv (rZ h)
theorem al7 (ha:QE X a ta) (hb:QE X b tb):QE X (.Compare a [.Lt] [b] pos) (q2 (eG fun i j=>.bl (decide (i < j))) ta tb):=lR mM nT ha hb (eO _)
theorem t8 (ha:QE X a ta) (hb:QE X b tb):QE X (.Compare a [.GtE] [b] pos) (q2 (eG fun i j=>.bl (decide (j<=i))) ta tb):=lR U9 nT ha hb (eO _)
theorem al8 (ha:QE X a ta) (hb:QE X b tb):QE X (.Compare a [.Eq] [b] pos) (q2 (iA false) ta tb):=lR vP y9 ha hb (eO _)
theorem al9 (ha:QE X a ta) (hb:QE X b tb):QE X (.Compare a [.NotEq] [b] pos) (q2 (iA true) ta tb):=lR vQ yA ha hb (eO _)
theorem zA (ha:QE X a ta) (hb:QE X b tb):QT X (.Compare a [.Lt] [b] pos) (aZ (q2 (eG fun i j=>.bl (decide (i < j))) ta tb)):=jX mM nT ha hb (eO _)
theorem t9 (ha:QE X a ta) (hb:QE X b tb):QT X (.Compare a [.Gt] [b] pos) (aZ (q2 (eG fun i j=>.bl (decide (j < i))) ta tb)):=jX U8 nT ha hb (eO _)
theorem gZ (ha:QE X a ta) (hb:QE X b tb):QT X (.Compare a [.Eq] [b] pos) (aZ (q2 (iA false) ta tb)):=jX vP y9 ha hb (eO _)
theorem tD (ha:QE X a ta) (hb:QE X b tb):QT X (.Compare a [.NotEq] [b] pos) (aZ (q2 (iA true) ta tb)):=jX vQ yA ha hb (eO _)
theorem am0 (ha:QE X a ta) (hb:QE X b tb):QT X (.Compare a [.IsNot] [b] pos) (aZ (q2 (sN true) ta tb)):=jX V0 aj6 ha hb (eO _)
theorem zB (hu:X.A.units+1 < cLine) (hk:QE X a tk) (hd:QE X b te) (hm:behindInMarks .In b=false:=by rfl):QT X (.Compare a [.In] [b] pos) (aZ (iU false tk te)):=lQ (R5 (aa9 hu hk hd) hm) fun _ _ _ h=>ak4 (rZ h)
theorem am1 (hu:X.A.units+1 < cLine) (hk:QE X a tk) (hd:QE X b te) (hm:behindInMarks .NotIn b=false:=by rfl):QE X (.Compare a [.NotIn] [b] pos) (iU true tk te):=bC (R4 (ab0 hu hk hd) hm) fun _ _ _ h=>ak5 h
theorem iW (h:QE X e te) (he:∀ whole,isTrue e X.env whole=(do let v <- whole; standAt e.pos; holding [v] (truthy v)):=by intro _; rfl):QT X e (aZ te):=lQ (R6 h he) fun _ _ _ h=>rZ h
theorem am2 (h:QE X e te) (he:∀ whole,isTrue e X.env whole=(do let v <- whole; standAt e.pos; holding [v] (truthy v)):=by intro _; rfl):QT X e (sJ te):=lQ (V5 h he) fun _ _ _ h=>aj4 h
theorem zC (ha:QT X a tA):QW X (.BoolOp .And [a] pos) tA:=R7 ha
theorem am3 (ha:QT X a tA):QW X (.BoolOp .Or [a] pos) tA:=R8 ha
theorem zD (ha:QT X a tA) (hb:QW X (.BoolOp .And (b :: bT) pos) tB'):QW X (.BoolOp .And (a :: b :: bT) pos) (nU tA tB'):=yX (R9 ha hb) fun _ _ _=>ag5
theorem zE (ha:QT X a tA) (hb:QW X (.BoolOp .Or (b :: bT) pos) tB'):QW X (.BoolOp .Or (a :: b :: bT) pos) (nV tA tB'):=yX (S0 ha hb) fun _ _ _=>ag6
theorem tE (h:QW X e tA):QT X e tA:=PW.pt h
theorem lS (ha:QT X a tA):QT X (.UnaryOp .Not a pos) (iP tA):=lQ (S2 ha) fun _ _ _=>ag7
theorem lT {op} (h:QE X a ta):QE X (.BoolOp op [a] pos) ta:=S3 h
theorem oC (ha:QE X a ta) (hb:QE X (.BoolOp .And (b :: bT) pos) tb):QE X (.BoolOp .And (a :: b :: bT) pos) (jP ta tb):=bC (S4 ha hb) fun _ _ _=>ag8
theorem am4 (ha:QE X a ta) (hb:QE X (.BoolOp .Or (b :: bT) pos) tb):QE X (.BoolOp .Or (a :: b :: bT) pos) (s0 ta tb):=bC (S5 ha hb) fun _ _ _=>ag9
theorem am5 (ha:QE X a ta):QE X (.UnaryOp .Not a pos) (sA ta):=bC (S6 ha) fun _ _ _=>ah0
theorem aC:QA X [] aA:=yY dH fun _ _ _=>yB
theorem a8 (ha:QE X e te) (hr:QA X es tr) (hs:starEach (e :: es) X.env=(false,eval e X.env) :: starEach es X.env:=by rfl):QA X (e :: es) (a7 te tr):=yY (cN ha hr hs) fun _ _ _=>ah1
theorem cT {x1} (h:QA X es tr):QE X (.Tuple es x1 pos) (cE tr):=bC (vT h) fun _ _ _=>ah3
theorem am6 {x1} (h:QA X es tr):QE X (.Tuple es x1 pos) (sB tr):=bC (vT h) fun _ _ _=>ah2
theorem iX (h:QA X es tr):QE X (.List es pos) (gW tr):=bC (vU h) fun _ _ _=>ah4
theorem fN (ha:QE X a ta) (hb:QE X b tb) (hs:wF b:=by exact fun _ _=>rfl):QE X (.Subscript a b pos) (q2 sH ta tb):=bC (kZ Y3 ha hb hs) fun _ _ _=>nR ai6
theorem zF (hu:X.A.units+1 < cLine) (ha:QE X a ta) (hb:QE X b tb) (hs:r0 b:=by exact fun _ _=>rfl):QE X (.Subscript a b pos) (o8 ta tb):=bC (aa8 hu ha hb hs) fun _ _ _=>ak6
theorem am7:QE X (.Dict [] [] pos) (qC (.dK [])):=bC ab3 fun _ _ _=>ak9
theorem tF:QE X (.Dict [] [] pos) (qC (.dT [])):=bC ab4 fun _ _ _=>al0
theorem iY {x:Str}{id:String}{R:List PV->(PV->Prop)->Prop}{r:List V->Hp->VK->Prop} (hc:bU X (.builtin id) r) (cv:e7 X R r) (hg:Gl X x) (hm:X.mg x=none) (hv:bootBuiltins x=some (.builtin id)) (ha:QA X (e :: es) tr) (hn:x ≠ "__name__":=by decide) (hdb:(x == ("__debug__" : Str))=false:=by decide)
  (he:starEach (e :: es) X.env=(false,eval e X.env) :: starEach es X.env:=by rfl) (hpl:(backTo pos (starEach es X.env)).any (·.1)=false:=by rfl):QE X (.Call (.Name x p2) (e :: es) [] pos) (aF R tr):=bC (kX hc hg hm hv ha hn hdb he hpl) fun _ _ _=>yC cv
theorem oD {x:Str}{T:String}{R:List PV->(PV->Prop)->Prop}{r:List V->Hp->VK->Prop} (hc:bU X (.type T) r) (cv:e7 X R r) (hg:Gl X x) (hm:X.mg x=none) (hv:bootBuiltins x=some (.type T)) (ha:QA X (e :: es) tr) (hn:x ≠ "__name__":=by decide) (hdb:(x == ("__debug__" : Str))=false:=by decide)
  (he:starEach (e :: es) X.env=(false,eval e X.env) :: starEach es X.env:=by rfl) (hpl:(backTo pos (starEach es X.env)).any (·.1)=false:=by rfl):QE X (.Call (.Name x p2) (e :: es) [] pos) (aF R tr):=bC (w6 hc hg hm hv ha hn hdb he hpl) fun _ _ _=>yC cv
theorem cZ:dR X [] cK:=t5 S8 fun _ _ _=>ah5
theorem aT (h1:QS X st t) (h2:dR X sts u):dR X (st :: sts) (aS t u):=t5 (kM h1 h2) fun _ _ _=>ah6
theorem aQ (h1:QS X st t):dR X [st] t:=jE h1
theorem bY {i:Nat}{x:Str} (hN:X.N.Nodup) (he:QE X e te) (hi:X.N[i]? = some x:=by rfl) (hx:gI X.env.scope x:=by first | exact Or.inl rfl | exact Or.inr rfl) (hs:swapsWith e (some (.Name x p2)) pos.line X.env=pure false:=by rfl) (hf:X.fn x=true ∨ X.env.scope.names.lookup x=some .local:=by first | exact .inl rfl | exact .inr rfl) :
  QS X (.Assign [.Name x p2] e pos) (bJ i te):=cS (v7 hN hi hx he hs hf) fun _ _ _=>sE
theorem iZ {i:Nat}{x:Str} (hN:X.N.Nodup) (he:QE X e te) (hi:X.N[i]? = some x:=by rfl) (hx:gI X.env.scope x:=by first | exact Or.inl rfl | exact Or.inr rfl) (hs:swapsWith e (some (.Name x p2)) pos.line X.env=pure false:=by rfl) (hf:X.fn x=true ∨ X.env.scope.names.lookup x=some .local:=by first | exact .inl rfl | exact .inr rfl) :
  QS X (.Assign [.Name x p2] e pos) (fI i te):=cS (v7 hN hi hx he hs hf) fun _ _ _=>yG
theorem zG (i:Nat) (h:QS X st t):QS X st (nX i t):=cS h fun _ _ _=>ah9
theorem bK (he:QE X e te):QS X (.Return (some e) pos) (bB te):=cS (jG he) fun _ _ _=>ai0
theorem lU (i:Nat) {x:Str} (hN:X.N[i]? = some x:=by rfl) (hv:eL X.env.scope x:=by first | exact Or.inl rfl | exact Or.inr (Or.inl rfl) | exact Or.inr (Or.inr rfl)) (hd:(x == ("__debug__" : Str))=false:=by decide) (hcd:(x == ("__classdict__" : Str))=false:=by decide) :
  QS X (.Return (some (.Name x p2)) pos) (iQ i):=cS (jG (gJ hN hv hd hcd)) fun _ _ _=>ai1
theorem cP {sa sb:List Stmt} (hc:QT X c tc) (ha:dR X sa t) (hb:dR X sb u):QS X (.If c sa sb pos) (cF tc t u):=cS (S9 hc ha hb) fun _ _ _=>ai2
theorem am8 {body:List Stmt} (hp:PassesOwn (model X.prog X.w) X.A X.env X.xe) (hc:QT X c tc) (hb:dR X body t):QS X (.While c body [] pos) (sF tc t):=cS (T1 hp hc hb) fun _ _ _=>ai3
theorem zH (i:Nat) {x:Str}{apos cpos xpos:Pos} (he:QE X e te) (hN:X.N[i]? = some x:=by rfl) (hv:eL X.env.scope x:=by first | exact Or.inl rfl | exact Or.inr (Or.inl rfl) | exact Or.inr (Or.inr rfl)) (hd:(x == ("__debug__" : Str))=false:=by decide) (hcd:(x == ("__classdict__" : Str))=false:=by decide)
  (hbase:attributeBase (.Name x xpos) "append" X.env (eval (.Name x xpos) X.env)=eval (.Name x xpos) X.env:=by rfl)
  (hfew:((backTo cpos (starEach [e] X.env)).all (fun x=>!x.1) && (backToKw cpos (keywordEach [] X.env)).all (fun x=>x.1.isSome) && decide (([e]:List Expr).length+([]:List Keyword).length+(if ([]:List Keyword).isEmpty then 0 else 1) < 30))=true:=by rfl)
  (hline:(apos.endLine == cpos.line)=true:=by rfl) (hs:starEach [e] X.env=(false,eval e X.env) :: starEach [] X.env:=by rfl) (hplain:(backTo cpos (starEach [] X.env)).any (·.1)=false:=by rfl)
  (hsw:swapsWith (.Call (.Attribute (.Name x xpos) "append" apos) [e] [] cpos) none pos.line X.env=pure false:=by rfl) :
  QS X (.Expr (.Call (.Attribute (.Name x xpos) "append" apos) [e] [] cpos) pos) (nY i te):=
 cS (mI (qW PySem.F.plainAttrs_list PySem.F.slot_list_append PySem.F.type_list_append mS (gJ hN hv hd hcd) (cN he dH hs) hbase hfew hline hs hplain) hsw) fun _ _ _=>ai4
theorem zI {i:Nat}{x:Str}{xpos tpos:Pos} (hu:X.A.units+1 < cLine) (hk:QE X a tk) (he:QE X e te) (hN:X.N[i]? = some x:=by rfl) (hv:eL X.env.scope x:=by first | exact Or.inl rfl | exact Or.inr (Or.inl rfl) | exact Or.inr (Or.inr rfl)) (hd:(x == ("__debug__" : Str))=false:=by decide) (hcd:(x == ("__classdict__" : Str))=false:=by decide)
  (hs:swapsWith e (some (.Subscript (.Name x xpos) a tpos)) pos.line X.env=pure false:=by rfl):QS X (.Assign [.Subscript (.Name x xpos) a tpos] e pos) (o9 i tk te):=cS (x0 hu (gJ hN hv hd hcd) hk he hs) fun _ _ _=>ak7
theorem tG {i:Nat}{x:Str}{xpos tpos:Pos} (hu:X.A.units+1 < cLine) (hk:QE X a tk) (he:QE X e te) (hN:X.N[i]? = some x:=by rfl) (hv:eL X.env.scope x:=by first | exact Or.inl rfl | exact Or.inr (Or.inl rfl) | exact Or.inr (Or.inr rfl)) (hd:(x == ("__debug__" : Str))=false:=by decide) (hcd:(x == ("__classdict__" : Str))=false:=by decide)
  (hs:swapsWith e (some (.Subscript (.Name x xpos) a tpos)) pos.line X.env=pure false:=by rfl):QS X (.Assign [.Subscript (.Name x xpos) a tpos] e pos) (jV i tk te):=cS (x0 hu (gJ hN hv hd hcd) hk he hs) fun _ _ _=>ak8
theorem am9 {tg l:Expr}{tl:TE} (hl:PE X l tl):PI X tg l (yK X.K tl):=by
 intro pins s σ H R I h
 refine aH (hl pins s σ H _ I h) fun v s1 ⟨x,H1,I1,r1,q1⟩=>?_
 obtain ⟨a,e,q⟩:=q1
 subst e
 cases r1
 rcases q with ⟨xs,hq,q⟩ | ⟨xs,hq,q⟩
 ·obtain ⟨its,rv,p,hz⟩:=I1.list hq
  refine wpAny_pyIter_list p.isList ?_
  refine⟨s1.heap.objs.size,[s1.heap.objs.size],_,_,H1,rfl,I1.kept (t':=s1.toks) fun b o e=>aI8 _ e,T2 a _,⟨_,aJ9 _ rfl,rfl,rfl⟩,fun b hb=>?_,q⟩
  have e:b=s1.heap.objs.size:=by simpa using hb
  subst e
  exact I1.fpOk (aJ0 _) (I1.hok.fresh (aJ0 _))
 ·obtain ⟨its,rv,p,hz⟩:=I1.tuple hq
  refine wpAny_pyIter_tuple (show s1.heap.IsTuple a its.toArray from p) ?_
  refine⟨s1.heap.objs.size,[s1.heap.objs.size],_,_,H1,rfl,I1.kept (t':=s1.toks) fun b o e=>aI8 _ e,vA a _,⟨_,aJ9 _ rfl,rfl,rfl⟩,fun b hb=>?_,q⟩
  have e:b=s1.heap.objs.size:=by simpa using hb
  subst e
  exact I1.fpOk (aJ0 _) (I1.hok.fresh (aJ0 _))
theorem dS {tg l:Expr} (hl:QE X l te):QI X tg l (dE te):=oB (am9 hl) fun _ _ _=>aj7
theorem j3 {tg:Expr} (hg:Gl X "range") (hm:X.mg "range" = none) (ha:QE X a ta) (hs:starEach [a] X.env = [(false,eval a X.env)]:=by rfl):QI X tg (.Call (.Name "range" p2) [a] [] pos) (fW ta):=oB (T5 hg hm (cN ha dH hs) hs) fun _ _ _=>aj8
theorem an0 {tg:Expr} (hg:Gl X "range") (hm:X.mg "range" = none) (ha:QE X a ta) (hb:QE X b tb) (hs:starEach [a,b] X.env = [(false,eval a X.env),(false,eval b X.env)]:=by rfl) (hs2:starEach [b] X.env = [(false,eval b X.env)]:=by rfl) :
  QI X tg (.Call (.Name "range" p2) [a,b] [] pos) (sO ta tb):=oB (T6 hg hm (cN ha (cN hb dH hs2) (by rw [hs,hs2])) hs hs2) fun _ _ _=>aj9
theorem an1 {tg:Expr}{body:List Stmt}{ti:dP}{p:fX}{g:TG}{own:Nat->Prop} (hp:PassesOwn (model X.prog X.w) X.A X.env X.xe) (hc:X.calm=true) (hi:QI X tg e ti) (hg:PG X tg g) (ht:jU X.K own p g) (hb:dR X body t)
  (hs:∀ x,foldedSetIterable e X.env x=pure x:=by intro _; rfl):QS X (.For tg e body [] pos) (eZ ti p t):=cS (vG hp hc hi hg hb hs) fun _ _ _=>ak0 ht
end
section
variable {X : Cx} {pins : List (Addr × Obj)} {σ : St} {H : Hp} {s : Shared} {K : PySem.W.Frag} {M M' : Addr → Prop}
theorem jO.inj {a:Addr}{us ws:List V} (h:jO K a us) (h':jO K a ws):us=ws:=by
 obtain ⟨o,its,n,e1,_,e2,_,v⟩:=h
 obtain ⟨o',its',n',e1',_,e2',_,v'⟩:=h'
 rw [e1] at e1'; cases e1'
 rw [e2] at e2'; cases e2'
 exact v.inj v'
theorem Reps.self_of {n:Nat} (ih:∀ {v:V}{x y:PV},aE K M H v x->aE K M' H v y->dJ n x y=true->c8 n x y=true):∀ {vs:List V}{xs ys:List PV},Reps K M H vs xs->Reps K M' H vs ys->((xs.zip ys).all fun p=>dJ n p.1 p.2)=true->(((xs.zip ys).all fun p=>c8 n p.1 p.2) && xs.length == ys.length)=true
 | _,_,_,.nil,.nil,_=>rfl
 | _,_,_,.cons r t,.cons r' t',o=>by
  simp only [List.zip_cons_cons,aT3,aM2] at o
  have h1:=ih r r' o.1
  have h2:=Reps.self_of ih t t' o.2
  simp only [List.zip_cons_cons,aT3,h1,Bool.true_and,aO0] at h2 ⊢
  rw [<- h2]
  congr 1
  simp
theorem aE.self:∀ (n:Nat) {v:V}{x y:PV},aE K M H v x->aE K M' H v y->dJ n x y=true->c8 n x y=true:=by
 intro n
 induction n with
 | zero=>
  intro v x y r r' o
  cases r with
  | non=>cases r'; rfl
  | bl b=>cases r'; exact aP1 b
  | int i=>cases r'; exact aP1 i
  | str z=>cases r'; exact aP1 z
  | _=>cases o
 | succ n ih=>
  intro v x y r r' o
  cases r with
  | non=>cases r'; rfl
  | bl b=>cases r'; exact aP1 b
  | int i=>cases r'; exact aP1 i
  | str z=>cases r'; exact aP1 z
  | tup h rr=>
   cases r' with
   | tup h' rr'=>rw [h] at h'; cases h'; exact Reps.self_of ih rr rr' o
   | _=>cases o
  | lst _ h rr=>
   cases r' with
   | lst _ h' rr'=>rw [h] at h'; cases h'; exact Reps.self_of ih rr rr' o
   | _=>cases o
  | kt h rr=>
   cases r' with
   | kt h' rr'=>cases jO.inj h h'; exact Reps.self_of ih rr rr' o
   | _=>cases o
  | _=>cases o
theorem Reps.self (n:Nat) {vs:List V}{xs ys:List PV} (r:Reps K M H vs xs) (r':Reps K M' H vs ys) (o:((xs.zip ys).all fun p=>dJ n p.1 p.2)=true):(((xs.zip ys).all fun p=>c8 n p.1 p.2) && xs.length == ys.length)=true:=Reps.self_of (aE.self n) r r' o
theorem jY (n:Nat) (xs ys:List PV):(List.range (min xs.length ys.length)).all (fun j=>c8 n (xs.getD j .non) (ys.getD j .non))=(xs.zip ys).all fun p=>c8 n p.1 p.2:=by
 rw [aS9]
 simp only [aR1,aT6]
 constructor
 ·intro h p hp
  obtain ⟨j,hj,e⟩:=List.getElem_of_mem hp
  have hj':j < min xs.length ys.length:=by simpa using hj
  have:=h j hj'
  rw [List.getElem_zip] at e
  subst e
  have h1:j < xs.length:=by omega
  have h2:j < ys.length:=by omega
  simpa [aL2,h1,h2] using this
 ·intro h j hj
  have h1:j < xs.length:=by omega
  have h2:j < ys.length:=by omega
  have hz:j < (xs.zip ys).length:=by simp; omega
  have:=h _ (List.getElem_mem hz)
  rw [List.getElem_zip] at this
  simpa [aL2,h1,h2] using this
theorem an2 (I:a5 X pins σ H s):∀ (n:Nat) {A:Around}{v w:V}{x y:PV}{a b:Value},A.units+n < cLine->aE X.K M H v x->aE X.K M' H w y->aO v a->aO w b->dJ n x y=true->SeqAt.EqAt A s a b (c8 n x y):=by
 intro n
 induction n with
 | zero=>
  intro A v w x y a b hu rx ry ra rb o
  cases rx with
  | non=>
   cases ra
   cases ry with
   | non=>cases rb; exact SeqAt.EqAt.same _
   | int i=>obtain ⟨t',rfl⟩:=rb; exact SeqAt.EqAt.none_int _ _
   | _=>cases o
  | bl i=>
   cases ra
   cases ry with
   | bl j=>cases rb; exact SeqAt.EqAt.bool_bool _ _
   | _=>cases o
  | int i=>
   obtain ⟨t,rfl⟩:=ra
   cases ry with
   | int j=>obtain ⟨t',rfl⟩:=rb; exact SeqAt.EqAt.int_int _ _ _ _
   | non=>cases rb; exact SeqAt.EqAt.int_none _ _
   | _=>cases o
  | str i=>
   obtain ⟨t,rfl⟩:=ra
   cases ry with
   | str j=>obtain ⟨t',rfl⟩:=rb; exact SeqAt.EqAt.str_str _ _ _ _
   | _=>cases o
  | _=>cases o
 | succ n ih=>
  intro A v w x y a b hu rx ry ra rb o
  have items:∀ {us ws:List V}{xs ys:List PV}{its its2:List Value},Reps X.K M H us xs->Reps X.K M' H ws ys->aG us its->aG ws its2->((xs.zip ys).all fun p=>dJ n p.1 p.2)=true->
    ∀ j (h1:j < its.toArray.size) (h2:j < its2.toArray.size),SeqAt.EqAt A.in1 s its.toArray[j] its2.toArray[j] (c8 n (xs.getD j .non) (ys.getD j .non)):=fun {us ws xs ys its its2} r1 r2 v1 v2 ok j h1 h2=>by
   have l1:=v1.length
   have l2:=v2.length
   have m1:=r1.length
   have m2:=r2.length
   have k1:j < its.length:=by simpa using h1
   have k2:j < its2.length:=by simpa using h2
   have j1:j < us.length:=by omega
   have j2:j < ws.length:=by omega
   have i1:j < xs.length:=by omega
   have i2:j < ys.length:=by omega
   obtain ⟨u,hu',ru⟩:=v1.get (aJ2 j1)
   obtain ⟨u2,hu2',ru2⟩:=v2.get (aJ2 j2)
   obtain ⟨x,hx,rx⟩:=r1.get (aJ2 j1)
   obtain ⟨y,hy,ry⟩:=r2.get (aJ2 j2)
   have e1:its.toArray[j]=u:=by
    rw [aJ2 k1] at hu'
    simpa using hu'
   have e2:its2.toArray[j]=u2:=by
    rw [aJ2 k2] at hu2'
    simpa using hu2'
   have ok':dJ n x y=true:=by
    rw [aR1] at ok
    have hz:j < (xs.zip ys).length:=by simp; omega
    have:=ok _ (List.getElem_mem hz)
    rw [List.getElem_zip] at this
    rw [aJ2 i1] at hx
    rw [aJ2 i2] at hy
    cases hx; cases hy
    exact this
   rw [e1,e2]
   have g1:xs.getD j .non=x:=by rw [aL2,hx]; rfl
   have g2:ys.getD j .non=y:=by rw [aL2,hy]; rfl
   rw [g1,g2]
   exact ih (by show A.units+1+n < cLine; omega) rx ry ru ru2 ok'
  have huA:A.units < cLine:=by omega
  cases rx with
  | @kt p us xs h1 r1=>
   obtain ⟨its,v1,p1,_⟩:=I.tuple (.inr h1)
   cases (show a=Value.ref p from ra)
   cases ry with
   | @kt p2 ws ys h2 r2=>
    obtain ⟨its2,v2,p2',_⟩:=I.tuple (.inr h2)
    cases (show b=Value.ref p2 from rb)
    by_cases e:p=p2
    ·subst e
     have:=aE.self (K:=X.K) (M:=M) (M':=M') (n+1) (.kt h1 r1) (.kt h2 r2) o
     rw [this]
     exact SeqAt.EqAt.same _
    ·have:=SeqAt.RcAt.tuples p1 p2' huA (items r1 r2 v1 v2 o)
     refine .of_refs e ?_
     have l1:=v1.length
     have l2:=v2.length
     have m1:=r1.length
     have m2:=r2.length
     rw [aI9,aI9,<- l1,<- l2,m1,m2,jY] at this
     exact this
   | _=>cases o
  | @tup p us xs h1 r1=>
   obtain ⟨its,v1,p1,_⟩:=I.tuple (aI.of (K:=X.K) h1)
   cases (show a=Value.ref p from ra)
   cases ry with
   | @tup p2 ws ys h2 r2=>
    obtain ⟨its2,v2,p2',_⟩:=I.tuple (aI.of (K:=X.K) h2)
    cases (show b=Value.ref p2 from rb)
    by_cases e:p=p2
    ·subst e
     have:=aE.self (K:=X.K) (M:=M) (M':=M') (n+1) (.tup h1 r1) (.tup h2 r2) o
     rw [this]
     exact SeqAt.EqAt.same _
    ·have:=SeqAt.RcAt.tuples p1 p2' huA (items r1 r2 v1 v2 o)
     refine .of_refs e ?_
     have l1:=v1.length
     have l2:=v2.length
     have m1:=r1.length
     have m2:=r2.length
     rw [aI9,aI9,<- l1,<- l2,m1,m2,jY] at this
     exact this
   | non=>cases rb; exact SeqAt.EqAt.tuple_none p1 huA
   | _=>cases o
  | @lst p us xs _ h1 r1=>
   obtain ⟨its,v1,p1,_⟩:=I.list (aK.of (K:=X.K) h1)
   cases (show a=Value.ref p from ra)
   cases ry with
   | @lst p2 ws ys _ h2 r2=>
    obtain ⟨its2,v2,p2',_⟩:=I.list (aK.of (K:=X.K) h2)
    cases (show b=Value.ref p2 from rb)
    have l1:=v1.length
    have l2:=v2.length
    have m1:=r1.length
    have m2:=r2.length
    by_cases e:p=p2
    ·subst e
     rw [h1] at h2; cases h2
     have:=Reps.self n r1 r2 o
     show SeqAt.EqAt A s _ _ ((xs.zip ys).all (fun p=>c8 n p.1 p.2) && xs.length == ys.length)
     rw [this]
     exact SeqAt.EqAt.same _
    ·refine .of_refs e ?_
     by_cases hl:xs.length=ys.length
     ·have:=SeqAt.RcAt.lists p1.isList p2'.isList (by rw [aI9,aI9]; omega) huA (items r1 r2 v1 v2 o)
      have hm:min xs.length ys.length=its.length:=by omega
      rw [aI9,<- hm,jY] at this
      show SeqAt.RcAt A s _ _ ((xs.zip ys).all (fun p=>c8 n p.1 p.2) && xs.length == ys.length)
      rw [show (xs.length == ys.length)=true by simpa using hl,Bool.and_true]
      exact this
     ·have:=SeqAt.RcAt.lists_lengths (A:=A) p1.isList p2'.isList (by rw [aI9,aI9]; simp; omega) huA
      show SeqAt.RcAt A s _ _ ((xs.zip ys).all (fun p=>c8 n p.1 p.2) && xs.length == ys.length)
      rw [show (xs.length == ys.length)=false by simpa using hl,Bool.and_false]
      exact this
   | _=>cases o
  | non=>
   cases ra
   cases ry with
   | non=>cases rb; exact SeqAt.EqAt.same _
   | int i=>obtain ⟨t',rfl⟩:=rb; exact SeqAt.EqAt.none_int _ _
   | @tup p2 ws ys h2 r2=>
    obtain ⟨its2,v2,p2',_⟩:=I.tuple (aI.of (K:=X.K) h2)
    cases (show b=Value.ref p2 from rb)
    exact SeqAt.EqAt.none_tuple p2' huA
   | _=>cases o
  | bl i=>
   cases ra
   cases ry with
   | bl j=>cases rb; exact SeqAt.EqAt.bool_bool _ _
   | _=>cases o
  | int i=>
   obtain ⟨t,rfl⟩:=ra
   cases ry with
   | int j=>obtain ⟨t',rfl⟩:=rb; exact SeqAt.EqAt.int_int _ _ _ _
   | non=>cases rb; exact SeqAt.EqAt.int_none _ _
   | _=>cases o
  | str i=>
   obtain ⟨t,rfl⟩:=ra
   cases ry with
   | str j=>obtain ⟨t',rfl⟩:=rb; exact SeqAt.EqAt.str_str _ _ _ _
   | _=>cases o
  | _=>cases o
end
structure Bt (mg:Str->Option Value):Prop where
 len:mg "len" = none
 range:mg "range" = none
 tuple:mg "tuple" = none
 list:mg "list" = none
 sorted:mg "sorted" = none
 all:mg "all" = none
 any:mg "any" = none
 zip:mg "zip" = none
 min:mg "min" = none
 max:mg "max" = none
 sum:mg "sum" = none
 isinst:mg "isinstance" = none
 int:mg "int" = none
 bool:mg "bool" = none
 enum:mg "enumerate" = none
section
variable {X : Cx} {a b c e o : Expr} {es bT : List Expr} {ta tb te to tk : aB} {tr : bX} {tA tB' tc : bI} {pos p2 px : Pos} {st : Stmt} {sts : List Stmt} {t u : aL}
theorem iB (B:Bt X.mg) (ha:QA X [e] tr) (hg:Gl X "len":=by rfl) (he:starEach [e] X.env=(false,eval e X.env) :: starEach [] X.env:=by rfl) (hpl:(backTo pos (starEach [] X.env)).any (·.1)=false:=by rfl):QE X (.Call (.Name "len" p2) [e] [] pos) (aF fJ tr):=
 iY (Z1.or ac1) ai7 hg B.len PySem.boot_len ha (he:=he) (hpl:=hpl)
theorem iC (B:Bt X.mg) (ha:QA X [e] tr) (hg:Gl X "tuple":=by rfl) (he:starEach [e] X.env=(false,eval e X.env) :: starEach [] X.env:=by rfl) (hpl:(backTo pos (starEach [] X.env)).any (·.1)=false:=by rfl):QE X (.Call (.Name "tuple" p2) [e] [] pos) (aF fL tr):=
 oD Z3 ai8 hg B.tuple PyProof.Rows.boot_tuple ha (he:=he) (hpl:=hpl)
theorem tH (B:Bt X.mg) (ha:QA X [e] tr) (hg:Gl X "list":=by rfl) (he:starEach [e] X.env=(false,eval e X.env) :: starEach [] X.env:=by rfl) (hpl:(backTo pos (starEach [] X.env)).any (·.1)=false:=by rfl):QE X (.Call (.Name "list" p2) [e] [] pos) (aF lI tr):=
 oD Z2 ai9 hg B.list PyProof.Rows.boot_list ha (he:=he) (hpl:=hpl)
theorem an3 (B:Bt X.mg) (hc:X.calm=true) (ha:QA X [e] tr) (hg:Gl X "all":=by rfl) (he:starEach [e] X.env=(false,eval e X.env) :: starEach [] X.env:=by rfl) (hpl:(backTo pos (starEach [] X.env)).any (·.1)=false:=by rfl):QE X (.Call (.Name "all" p2) [e] [] pos) (aF sI tr):=
 iY (rU hc) aj0 hg B.all PyProof.Rows.boot_all ha (he:=he) (hpl:=hpl)
theorem tI (B:Bt X.mg) (hc:X.calm=true) (ha:QA X [a,b] tr) (hg:Gl X "min":=by rfl) (he:starEach [a,b] X.env=(false,eval a X.env) :: starEach [b] X.env:=by rfl) (hpl:(backTo pos (starEach [b] X.env)).any (·.1)=false:=by rfl):QE X (.Call (.Name "min" p2) [a,b] [] pos) (aF jT tr):=
 iY (V7 hc) aj1 hg B.min PyProof.Rows.boot_min ha (he:=he) (hpl:=hpl)
theorem oE (B:Bt X.mg) (hc:X.calm=true) (ha:QA X [a,b] tr) (hg:Gl X "max":=by rfl) (he:starEach [a,b] X.env=(false,eval a X.env) :: starEach [b] X.env:=by rfl) (hpl:(backTo pos (starEach [b] X.env)).any (·.1)=false:=by rfl):QE X (.Call (.Name "max" p2) [a,b] [] pos) (aF iR tr):=
 iY (V6 hc) aj2 hg B.max PyProof.Rows.boot_max ha (he:=he) (hpl:=hpl)
theorem zJ (x:Int):∀ (xs:List Int),l8 (.int x) (xs.map V.int)=decide (x ∈ xs)
 | []=>by simp [l8]
 | y :: r=>by
  have ih:=zJ x r
  unfold l8 at ih ⊢
  rw [aM9,List.any_cons,ih]
  by_cases e:y=x
  ·subst e; simp [fE]
  ·have:fE (.int y) (.int x)=false:=by simpa [fE] using e
   rw [this,Bool.false_or,aS9]
   simp [Ne.symm e]
theorem zK:∀ (xs:List Int),(xs.map V.int).all gP=true
 | []=>rfl
 | _ :: r=>by rw [aM9,aT3,zK r]; rfl
theorem an4 (neg:Bool):dI X (iV neg) (wM X.K neg):=by
 rintro W Hs H u v x y g g' Q Q' s n r1 r2 ⟨i,ns,rfl,e,q⟩ k
 cases r1
 obtain ⟨a,us,rfl,hs,r⟩:=r2.seq e
 obtain rfl:=r.ofInts
 refine⟨a,_,rfl,hs,rfl,zK ns,?_⟩
 have:=k _ _ _ .fr (a9.refl _) (.bl _) q
 rw [zJ]
 cases neg <;> exact this
theorem oF (ha:QE X a ta) (hb:QE X b tb) (hm:behindInMarks .In b=false:=by rfl):QT X (.Compare a [.In] [b] pos) (aZ (q2 (iV false) ta tb)):=jX Z0 (an4 false) ha hb hm
theorem aE.kt_ {K:PySem.W.Frag}{M:Addr->Prop}{H:Hp}{v:V}{xs:List PV} (r:aE K M H v (.kt xs)):∃ a us,v = .ref a/\jO K a us/\Reps K M H us xs:=by
 cases r with
 | kt h r=>exact⟨_,_,rfl,h,r⟩
def zL (K:PySem.W.Frag) (H:Hp) (x:V) (t:Value):Prop:=dW K H x t ∨ ∃ a us,x = .ref a/\aI K H a us/\t = .type "tuple"
theorem an5:bU X (.builtin "isinstance") (fun xs H Q=>∃ x t n b,xs = [x,.ty n]/\zL X.K H x t/\PySem.W.kitOne X.K t (.type n)=some b/\Q (.bl b) H):=by
 intro pins s σ H xs us Q I r h
 obtain ⟨x,t,n,b,rfl,ty,e,q⟩:=h
 rcases ty with ty | ⟨a,ws,rfl,hs,rfl⟩
 ·exact ae5 pins s σ H _ us Q I r ⟨x,t,n,b,rfl,ty,e,q⟩
 obtain ⟨u,u',rfl,ru,ru'⟩:=kW r
 cases ru'
 cases (show u=Value.ref a from ru)
 obtain ⟨its,_,⟨o,h1,h2,_⟩,_⟩:=I.tuple hs
 exact aN9 PySem.W.kitx_tuple I.kIn ⟨o,h1,h2⟩ e (fun z=>nomatch z) fun tk=>⟨.bl b,H,I.tok tk,rfl,q⟩
theorem an6 {K:PySem.W.Frag}{M:Addr->Prop}{H:Hp}{v:V}{x:PV}{T:String} (r:aE K M H v x) (e:yV x=some T):zL K H v (.type T):=by
 cases r with
 | non=>cases e; exact .inl .non
 | bl b=>cases e; exact .inl (.bl b)
 | int i=>cases e; exact .inl (.int i)
 | str i=>cases e; exact .inl (.str i)
 | tup h _=>cases e; exact .inl (.tup h)
 | lst _ h _=>cases e; exact .inl (.lst h)
 | kt h _=>cases e; exact .inr ⟨_,_,rfl,.inr h,rfl⟩
 | _=>cases e
theorem zM {x:Str}{n:String} (B:Bt X.mg) (hn:bootBuiltins x=some (.type n)) (hm:X.mg x=none) (ha:QE X a ta) (hg:Gl X "isinstance":=by rfl) (hgx:Gl X x:=by rfl) (hx:x ≠ "__name__":=by decide) (hdx:(x == ("__debug__" : Str))=false:=by decide)
  (he:starEach [a,.Name x px] X.env=(false,eval a X.env) :: starEach [.Name x px] X.env:=by rfl) (he2:starEach [.Name x px] X.env=(false,eval (.Name x px) X.env) :: starEach [] X.env:=by rfl) (hpl:(backTo pos (starEach [.Name x px] X.env)).any (·.1)=false:=by rfl):QE X (.Call (.Name "isinstance" p2) [a,.Name x px] [] pos) (lO X.K n ta):=
 bC (kX an5 hg B.isinst PyProof.Rows.boot_isinstance (cN ha (cN (uS (v:=.ty n) hgx hm hn rfl hx hdx) dH he2) he) (he:=he) (hpl:=hpl)) fun σ H Q' h=>by
  obtain ⟨W,ρ,Q,px,q,k⟩:=h
  refine⟨W,ρ,_,px,q,?_⟩
  rintro v H1 x g s r ⟨T,b,e,kt,q⟩
  exact⟨v,_,n,b,rfl,an6 r e,kt,k _ _ _ .fr s (.bl _) q⟩
theorem an7 (B:Bt X.mg) (ha:QE X a ta) (hg:Gl X "isinstance":=by rfl) (hgx:Gl X "int":=by rfl)
  (he:starEach [a,.Name "int" px] X.env=(false,eval a X.env) :: starEach [.Name "int" px] X.env:=by rfl) (he2:starEach [.Name "int" px] X.env=(false,eval (.Name "int" px) X.env) :: starEach [] X.env:=by rfl) (hpl:(backTo pos (starEach [.Name "int" px] X.env)).any (·.1)=false:=by rfl):QE X (.Call (.Name "isinstance" p2) [a,.Name "int" px] [] pos) (lO X.K "int" ta):=zM B PyProof.Rows.boot_int B.int ha (hg:=hg) (hgx:=hgx) (he:=he) (he2:=he2) (hpl:=hpl)
theorem an8 (B:Bt X.mg) (ha:QE X a ta) (hg:Gl X "isinstance":=by rfl) (hgx:Gl X "bool":=by rfl)
  (he:starEach [a,.Name "bool" px] X.env=(false,eval a X.env) :: starEach [.Name "bool" px] X.env:=by rfl) (he2:starEach [.Name "bool" px] X.env=(false,eval (.Name "bool" px) X.env) :: starEach [] X.env:=by rfl) (hpl:(backTo pos (starEach [.Name "bool" px] X.env)).any (·.1)=false:=by rfl):QE X (.Call (.Name "isinstance" p2) [a,.Name "bool" px] [] pos) (lO X.K "bool" ta):=zM B PyProof.Rows.boot_bool B.bool ha (hg:=hg) (hgx:=hgx) (he:=he) (he2:=he2) (hpl:=hpl)
def zN (K:PySem.W.Frag) (n:Nat) (neg:Bool):R2:=fun v w H Q=>∃ x y,aE K (fun _=>True) H v x/\aE K (fun _=>True) H w y/\((∃ xs ys,x = .tup xs/\y = .tup ys) ∨ (∃ xs ys,x = .lst xs/\y = .lst ys) ∨ (∃ xs ys,x = .kt xs/\y = .kt ys))/\dJ (n+1) x y=true/\Q (.bl (if neg=true then !c8 (n+1) x y else c8 (n+1) x y)) H
theorem tJ {pins:List (Addr × Obj)}{σ:St}{H:Hp}{s:Shared}{M M':Addr->Prop} (I:a5 X pins σ H s) {n:Nat}{A:Around} (hu:A.units+(n+1) < cLine) {us ws:List V}{xs ys:List PV}{its its2:List Value} (r1:Reps X.K M H us xs) (r2:Reps X.K M' H ws ys) (v1:aG us its) (v2:aG ws its2)
  (ok:((xs.zip ys).all fun p=>dJ n p.1 p.2)=true):∀ j (h1:j < its.toArray.size) (h2:j < its2.toArray.size),SeqAt.EqAt A.in1 s its.toArray[j] its2.toArray[j] (c8 n (xs.getD j .non) (ys.getD j .non)):=by
 intro j h1 h2
 have l1:=v1.length
 have l2:=v2.length
 have m1:=r1.length
 have m2:=r2.length
 have k1:j < its.length:=by simpa using h1
 have k2:j < its2.length:=by simpa using h2
 have j1:j < us.length:=by omega
 have j2:j < ws.length:=by omega
 have i1:j < xs.length:=by omega
 have i2:j < ys.length:=by omega
 obtain ⟨u,hu',ru⟩:=v1.get (aJ2 j1)
 obtain ⟨u2,hu2',ru2⟩:=v2.get (aJ2 j2)
 obtain ⟨x,hx,rx⟩:=r1.get (aJ2 j1)
 obtain ⟨y,hy,ry⟩:=r2.get (aJ2 j2)
 have e1:its.toArray[j]=u:=by
  rw [aJ2 k1] at hu'
  simpa using hu'
 have e2:its2.toArray[j]=u2:=by
  rw [aJ2 k2] at hu2'
  simpa using hu2'
 have ok':dJ n x y=true:=by
  rw [aR1] at ok
  have hz:j < (xs.zip ys).length:=by simp; omega
  have:=ok _ (List.getElem_mem hz)
  rw [List.getElem_zip] at this
  rw [aJ2 i1] at hx
  rw [aJ2 i2] at hy
  cases hx; cases hy
  exact this
 rw [e1,e2]
 have g1:xs.getD j .non=x:=by rw [aL2,hx]; rfl
 have g2:ys.getD j .non=y:=by rw [aL2,hy]; rfl
 rw [g1,g2]
 exact an2 I n (by show A.units+1+n < cLine; omega) rx ry ru ru2 ok'
theorem an9 (n:Nat) (hu:X.A.units+(n+1) < cLine):bR X (compareOp .Eq) (zN X.K n false):=by
 intro pins s σ H v w a b Q I ra rb h
 obtain ⟨x,y,rx,ry,kd,o,q⟩:=h
 have hu0:X.A.units < cLine:=by omega
 rcases kd with ⟨xs,ys,rfl,rfl⟩ | ⟨xs,ys,rfl,rfl⟩ | ⟨xs,ys,rfl,rfl⟩
 ·obtain ⟨p,us,rfl,h1,r1⟩:=rx.sqT
  obtain ⟨p2,ws,rfl,h2,r2⟩:=ry.sqT
  cases ra; cases rb
  obtain ⟨its,v1,p1,_⟩:=I.tuple (aI.of (K:=X.K) h1)
  obtain ⟨its2,v2,p2',_⟩:=I.tuple (aI.of (K:=X.K) h2)
  have l1:=v1.length
  have l2:=v2.length
  have m1:=r1.length
  have m2:=r2.length
  have:=SeqAt.RcAt.tuples p1 p2' hu0 (tJ I hu r1 r2 v1 v2 o)
  rw [aI9,aI9,<- l1,<- l2,m1,m2,jY] at this
  exact this _ _ _ _ ⟨.bl _,H,I,rfl,q⟩
 ·obtain ⟨p,us,rfl,_,h1,r1⟩:=rx.sqL
  obtain ⟨p2,ws,rfl,_,h2,r2⟩:=ry.sqL
  cases ra; cases rb
  obtain ⟨its,v1,p1,_⟩:=I.list (aK.of (K:=X.K) h1)
  obtain ⟨its2,v2,p2',_⟩:=I.list (aK.of (K:=X.K) h2)
  have l1:=v1.length
  have l2:=v2.length
  have m1:=r1.length
  have m2:=r2.length
  have q:Q (.bl ((xs.zip ys).all (fun p=>c8 n p.1 p.2) && xs.length == ys.length)) H:=q
  by_cases hl:xs.length=ys.length
  ·have:=SeqAt.RcAt.lists p1.isList p2'.isList (by rw [aI9,aI9]; omega) hu0 (tJ I hu r1 r2 v1 v2 o)
   have hm:min xs.length ys.length=its.length:=by omega
   rw [aI9,<- hm,jY] at this
   rw [show (xs.length == ys.length)=true by simpa using hl,Bool.and_true] at q
   exact this _ _ _ _ ⟨.bl _,H,I,rfl,q⟩
  ·have:=SeqAt.RcAt.lists_lengths (A:=X.A) p1.isList p2'.isList (by rw [aI9,aI9]; simp; omega) hu0
   rw [show (xs.length == ys.length)=false by simpa using hl,Bool.and_false] at q
   exact this _ _ _ _ ⟨.bl _,H,I,rfl,q⟩
 ·obtain ⟨p,us,rfl,h1,r1⟩:=rx.kt_
  obtain ⟨p2,ws,rfl,h2,r2⟩:=ry.kt_
  cases ra; cases rb
  obtain ⟨its,v1,p1,_⟩:=I.tuple (.inr h1)
  obtain ⟨its2,v2,p2',_⟩:=I.tuple (.inr h2)
  have l1:=v1.length
  have l2:=v2.length
  have m1:=r1.length
  have m2:=r2.length
  have:=SeqAt.RcAt.tuples p1 p2' hu0 (tJ I hu r1 r2 v1 v2 o)
  rw [aI9,aI9,<- l1,<- l2,m1,m2,jY] at this
  exact this _ _ _ _ ⟨.bl _,H,I,rfl,q⟩
theorem ao0 {n:Nat}{neg:Bool}:dI X (oA n neg) (zN X.K n neg):=by
 rintro W Hs H u v x y g g' Q Q' s n r1 r2 ⟨kd,o,q⟩ k
 exact⟨x,y,r1.same (a9.refl _) fun _ _=>trivial,r2.same (a9.refl _) fun _ _=>trivial,kd.elim .inl fun z=>.inr (.inl z),o,k _ _ _ .fr (a9.refl _) (.bl _) q⟩
theorem zO (hu:X.A.units+3 < cLine) (ha:QE X a ta) (hb:QE X b tb):QE X (.Compare a [.Eq] [b] pos) (q2 (oA 2 false) ta tb):=lR (an9 2 hu) ao0 ha hb (eO _)
end
end PP
namespace PP
open PySem L2 PyProof.Rows
def LO (X:Cx) (t:jW):TO:=fun σ H Q'=>∃ (W:Addr->Prop) (ρ:b5) (Q:Option Int->Prop),PX X.K X.H₀ W σ ρ H/\t ρ Q/\∀ o H',a9 H H'->Q o->Q' o H'
def QO (X:Cx) (e:Option Expr) (t:jW):Prop:=PO X e (LO X t)
theorem Reps.cut {K:PySem.W.Frag}{M:Addr->Prop}{H:Hp}{us:List V}{xs:List PV} (r:Reps K M H us xs) (lo hi:Option Int):Reps K M H (dC us lo hi) (fY xs lo hi):=by
 unfold dC fY
 rw [r.length]
 exact (r.drop _).take _
section
variable {X : Cx} {a b c e o : Expr} {es bT : List Expr} {ta tb te to tk : aB} {tr : bX} {tA tB' tc : bI} {pos p2 px : Pos} {st : Stmt} {sts : List Stmt} {t u : aL}
theorem zP:QO X none sU:=fun pins s σ H Q I h=>qM pins s σ H Q I (by
 obtain ⟨W,ρ,Q1,px,q,k⟩:=h
 exact k _ _ (a9.refl _) q)
theorem zQ (h:QE X e te):QO X (some e) (sV te):=fun pins s σ H Q I hq=>qN h pins s σ H Q I (by
 obtain ⟨W,ρ,Q1,px,q,k⟩:=hq
 refine⟨W,ρ,_,px,q,?_⟩
 rintro v H1 x g s r ⟨i,rfl,q⟩
 cases r
 exact⟨i,rfl,k _ _ s q⟩)
theorem zR {lo hi:Option Expr}{tl th:jW}{sp:Pos} (he:QE X e te) (hl:QO X lo tl) (hh:QO X hi th):QE X (.Subscript e (.Slice lo hi none sp) pos) (sW te tl th):=bC (qO (wK.or xX) he hl hh) fun σ H Q' h=>by
 obtain ⟨W,ρ,Q,px,q,k⟩:=h
 refine⟨W,ρ,_,px,q,fun v H1 x g s1 r1 q1=>⟨W,ρ,_,px.mono s1,q1,fun lo H2 s2 q2=>⟨W,ρ,_,px.mono (s1.trans s2),q2,?_⟩⟩⟩
 rintro hi H3 s3 ⟨xs,e,f,q3⟩
 have S:=(s1.trans s2).trans s3
 have r3:=r1.same (M':=Mg X.H₀ W H g) (s2.trans s3) fun _ z=>z
 cases r3 with
 | tup h r=>
  cases e
  refine .inr ⟨_,_,rfl,aI.of h,fun p hp=>k _ _ _ .fr (S.trans (aY hp _)) (.tup aV (((r.flat f).cut lo hi).same (aY hp _) fun _ z=>z)) q3,fun ec=>k _ _ _ .fr S (.tup h ?_) q3⟩
  have:=(r.flat (M':=Mg X.H₀ W H .fr) f).cut lo hi
  rw [ec] at this
  exact this
 | lst m h r=>
  cases e
  exact .inl ⟨_,_,rfl,aK.of h,fun p hp=>k _ _ _ .fr (S.trans (aY hp _)) (.lst (S.free hp) aV (((r.flat f).cut lo hi).same (aY hp _) fun _ z=>z)) q3⟩
 | scr h=>
  cases e
  exact .inl ⟨_,_,rfl,h.sqL,fun p hp=>k _ _ _ .fr (S.trans (aY hp _)) (.lst (S.free hp) aV (((Reps.intz _).cut lo hi).same (aY hp _) fun _ z=>z)) q3⟩
 | _=>cases e
structure Df (P:Program) (w:World) (K:PySem.W.Frag) (mg:Str->Option Value) (base:Heap) (k:Nat) (x:Str) (ps:List Str) (p:aX):Prop where
 ex:∃ f fd,bV P w K mg base cI k f fd ps (lJ K p)/\eR K fd ps []/\PySem.W.keepIn K (.ref f)=true/\mg x=some (.ref f)
theorem bG {k j:Nat}{x:Str}{ps:List Str}{p:aX} (d:Df X.prog X.w X.K X.mg X.base k x ps p) (hr:bE j X.A) (ha:QA X (e :: es) tr) (hkj:k<=j:=by decide) (hg:Gl X x:=by rfl) (hdb:(x == ("__debug__" : Str))=false:=by decide)
  (he:starEach (e :: es) X.env=(false,eval e X.env) :: starEach es X.env:=by rfl) (hpl:(backTo pos (starEach es X.env)).any (·.1)=false:=by rfl):QE X (.Call (.Name x p2) (e :: es) [] pos) (aF p tr):=by
 obtain ⟨f,fd,F,b,kp,m⟩:=d.ex
 exact bC (mQ F (hr.mono hkj) hg m kp b .nil r9 ha hdb he hpl) fun _ _ _=>yJ
theorem oG {K:PySem.W.Frag}{H:Hp}{N:List Str}{vs:List V}{xs:List PV} (r:Reps K (fun _=>True) H vs xs):PX K H (fun _=>False) (L2.eS N vs) (dL N xs) H:=by
 have lr:=r.length
 have own:∀ {i:Nat}{m:Slot},(dL N xs)[i]? = some (some m)->∃ x,xs[i]? = some x/\m = .sh (flat x) x:=fun {i m} h=>by
  unfold dL at h
  by_cases hi:i < xs.length
  ·rw [aQ1 (by simpa using hi),aJ6] at h
   rw [aJ2 hi] at h ⊢
   cases h
   exact⟨_,rfl,rfl⟩
  ·rw [aR4 (by simpa using hi),List.getElem?_replicate] at h
   split at h <;> cases h
 refine⟨by unfold L2.eS dL; simp [lr],a9.refl _,fun a z=>z.elim,fun i m h=>?_,fun i j x y a h1=>?_⟩
 ·obtain ⟨x,hx,rfl⟩:=own h
  obtain ⟨v,hv,rx⟩:=r.at hx
  refine⟨v,?_,o4 (g:=false) (rx.same (a9.refl _) fun _ _ z=>z)⟩
  have hi:i < vs.length:=(aJ8.mp hv).1
  unfold L2.eS
  rw [aQ1 (by simpa using hi),aJ6,hv]; rfl
 ·obtain ⟨x,_,e⟩:=own h1
  cases e
theorem Df.of {P:Program}{w:World}{K:PySem.W.Frag}{mg:Str->Option Value}{base:Heap}{k:Nat}{x:Str}{ps N:List Str}{p:aX}{st:Stmt}{f:Addr}{fd:FuncData} (F:cV K x x st f fd) (m:mg x=some (.ref f)) (S:FnScope N ps (aN st))
  (hb:∀ (kV doc pm:Value) (an:Option Addr) (cdv ct:Value) (us:List Value),us.length=ps.length->bindArgs (PySem.W.fnOf x x (fG st) (cR st) (aN st) .none kV doc pm an cdv ct) ⟨us,[]⟩=pure (ps.zip us))
  (len:∀ xs Q,p xs Q->xs.length=ps.length)
  (body:∀ (cdv:Value) (A:Around) (outer:List Env) (s:Shared) (H:Hp) (E:XK),bE k (A.deeper (envOfC x (aN st) s.heap.objs.size f cdv))->
   ∃ t,dR (cC cI P w K mg base N x (aN st) f cdv A outer s H E).nox (cR st) t/\∀ xs Q,p xs Q->t { nx:=fun _=>Q .non,rt:=Q } (dL N xs)):Df P w K mg base (k+1) x ps p:=by
 refine⟨f,fd,F.ok S (fun vs H Q E h=>?_) (fun cdv A outer s H vs Q E hr h=>?_),F.binds hb,F.kp,m⟩
 ·obtain ⟨xs,Qp,r,q,_⟩:=h
  rw [r.length]; exact len xs Qp q
 ·obtain ⟨xs,Qp,r,q,k⟩:=h
  obtain ⟨t,ht,hq⟩:=body cdv A outer s H E hr
  refine⟨_,ht,fun _=>False,dL N xs,_,oG r,hq xs Qp q,?_,?_,?_,?_⟩
  ·exact fun W' σ' H' ρ' e px q=>k _ _ _ px.same .non q
  ·exact fun v H' x s r q=>k _ _ _ s r q
  ·exact fun W' σ' H' ρ' e px q=>q
  ·exact fun W' σ' H' ρ' e px q=>q
theorem hG (i:Nat) {x:Str}{tp:Pos}{body:List Stmt}{ti:dP} (hN:X.N.Nodup) (hi:QI X (.Name x tp) e ti) (hb:dR X body t) (hx:X.N[i]? = some x:=by rfl) (hl:gI X.env.scope x:=by first | exact Or.inl rfl | exact Or.inr rfl) (hf:X.fn x=true ∨ X.env.scope.names.lookup x=some .local:=by first | exact .inl rfl | exact .inr rfl)
  (hp:PassesOwn (model X.prog X.w) X.A X.env X.xe:=by exact PassesOwn.never) (hc:X.calm=true:=by rfl) (hs:∀ x,foldedSetIterable e X.env x=pure x:=by intro _; rfl):QS X (.For (.Name x tp) e body [] pos) (eZ ti (bF i) t):=
 an1 hp hc hi (dU hN hx hl hf) (iS _ i) hb hs
abbrev b7:Value->Shared->Prop:=fun _ _=>False
section
variable {scope : Scope} {N : List Str} {fr : List (Option Nat)} {x y : Str} {tp xp yp : Pos} {kt : Nat} {iter elt : Expr} {ti : dP}
theorem lV {ifs:List Expr}{tcs:bI} (he:∀ (s:Shared) (H:Hp) (C:Addr) (fp:List Addr),QE (aU X scope N s H C fp b7) elt te) (hi:∀ (s:Shared) (H:Hp) (C:Addr) (fp:List Addr),gS (aU X scope N s H C fp b7) ifs (LT (aU X scope N s H C fp b7) tcs))
  (hN:N.Nodup) (h0:N[0]? = some x) (hl:∀ (s:Shared) (H:Hp) (C:Addr) (fp:List Addr),(aU X scope N s H C fp b7).env.scope.names.lookup x=some .local) (s:Shared) (H:Hp) :
  iN X scope N (.Name x tp) ifs elt s H (bL 0) (LT (X.frm H) tcs) (LE (X.frm H) te):=
 ⟨fun C fp=>dU (X:=aU X scope N s H C fp b7) hN h0 (.inl (hl s H C fp)) (.inr (hl s H C fp)),fun C fp=>hi s H C fp,fun C fp=>he s H C fp⟩
theorem oH {Y:Cx}:gS Y [] (LT Y cO):=fun pins s σ H Q I h=>nB pins s σ H Q I (ak2 h)
theorem jZ (hi:QI X (.Name x tp) iter ti) (he:∀ (s:Shared) (H:Hp) (C:Addr) (fp:List Addr),QE (aU X scope N s H C fp b7) elt te)
  (hc:X.calm=true:=by rfl) (S:bO X scope N fr:=by exact bO.of rfl rfl) (hN:N.Nodup:=by decide +kernel) (h0:N[0]? = some x:=by rfl) (hl:∀ (s:Shared) (H:Hp) (C:Addr) (fp:List Addr),(aU X scope N s H C fp b7).env.scope.names.lookup x=some .local:=by intro _ _ _ _; rfl) (hf:fr[0]? = some none:=by rfl)
  (hs:∀ x,foldedSetIterable iter X.env x=pure x:=by intro _; rfl):QE X (.ListComp elt [⟨.Name x tp,iter,[],0⟩] scope pos) (c7 ti fr (bF 0) cO te):=
 bC (lB (gh:=fun _=>bL 0) (tch:=fun H=>LT (X.frm H) cO) (teh:=fun H=>LE (X.frm H) te) hc S hi (lV he (fun _ _ _ _=>oH) hN h0 hl) hs) fun _ _ _=>iT (iS _ 0) (fun i e=>by subst e; exact hf)
theorem oI {c:Expr}{tcs:bI} (hi:QI X (.Name x tp) iter ti) (ht:∀ (s:Shared) (H:Hp) (C:Addr) (fp:List Addr),QT (aU X scope N s H C fp b7) c tcs) (he:∀ (s:Shared) (H:Hp) (C:Addr) (fp:List Addr),QE (aU X scope N s H C fp b7) elt te)
  (hc:X.calm=true:=by rfl) (S:bO X scope N fr:=by exact bO.of rfl rfl) (hN:N.Nodup:=by decide +kernel) (h0:N[0]? = some x:=by rfl) (hl:∀ (s:Shared) (H:Hp) (C:Addr) (fp:List Addr),(aU X scope N s H C fp b7).env.scope.names.lookup x=some .local:=by intro _ _ _ _; rfl) (hf:fr[0]? = some none:=by rfl)
  (hs:∀ x,foldedSetIterable iter X.env x=pure x:=by intro _; rfl):QE X (.ListComp elt [⟨.Name x tp,iter,[c],0⟩] scope pos) (c7 ti fr (bF 0) tcs te):=
 bC (lB (gh:=fun _=>bL 0) (tch:=fun H=>LT (X.frm H) tcs) (teh:=fun H=>LE (X.frm H) te) hc S hi (lV he (fun s H C fp=>nC (ht s H C fp)) hN h0 hl) hs) fun _ _ _=>iT (iS _ 0) (fun i e=>by subst e; exact hf)
theorem ao1 {c:Expr}{tcs:bI}{i:Nat}{z:Str}{zp:Pos} (nd:X.N.Nodup) (hi:QI X (.Name x tp) iter ti) (ht:∀ (s:Shared) (H:Hp) (C:Addr) (fp:List Addr),QT (aU X scope N s H C fp b7) c tcs) (he:∀ (s:Shared) (H:Hp) (C:Addr) (fp:List Addr),QE (aU X scope N s H C fp b7) elt te)
  (hz:X.N[i]? = some z:=by rfl) (hzl:X.env.scope.names.lookup z=some .local:=by rfl) (hsw:swapsWith (.ListComp elt [⟨.Name x tp,iter,[c],0⟩] scope p2) (some (.Name z zp)) pos.line X.env=pure true:=by rfl)
  (hc:X.calm=true:=by rfl) (S:bO X scope N fr:=by exact bO.of rfl rfl) (hN:N.Nodup:=by decide +kernel) (h0:N[0]? = some x:=by rfl) (hl:∀ (s:Shared) (H:Hp) (C:Addr) (fp:List Addr),(aU X scope N s H C fp b7).env.scope.names.lookup x=some .local:=by intro _ _ _ _; rfl) (hf:fr[0]? = some none:=by rfl)
  (hs:∀ x,foldedSetIterable iter X.env x=pure x:=by intro _; rfl):QS X (.Assign [.Name z zp] (.ListComp elt [⟨.Name x tp,iter,[c],0⟩] scope p2) pos) (bJ i (c7 ti fr (bF 0) tcs te)):=
 cS (rG (gh:=fun _=>bL 0) (tch:=fun H=>LT (X.frm H) tcs) (teh:=fun H=>LE (X.frm H) te) hc S hi (lV he (fun s H C fp=>nC (ht s H C fp)) hN h0 hl) nd hz hzl hsw hs) fun D σ H h=>iT (iS _ 0) (fun i e=>by subst e; exact hf) (sE h)
theorem ao2 {i:Nat}{z:Str}{zp:Pos} (nd:X.N.Nodup) (hi:QI X (.Name x tp) iter ti) (he:∀ (s:Shared) (H:Hp) (C:Addr) (fp:List Addr),QE (aU X scope N s H C fp b7) elt te)
  (hz:X.N[i]? = some z:=by rfl) (hzl:X.env.scope.names.lookup z=some .local:=by rfl) (hsw:swapsWith (.ListComp elt [⟨.Name x tp,iter,[],0⟩] scope p2) (some (.Name z zp)) pos.line X.env=pure true:=by rfl)
  (hc:X.calm=true:=by rfl) (S:bO X scope N fr:=by exact bO.of rfl rfl) (hN:N.Nodup:=by decide +kernel) (h0:N[0]? = some x:=by rfl) (hl:∀ (s:Shared) (H:Hp) (C:Addr) (fp:List Addr),(aU X scope N s H C fp b7).env.scope.names.lookup x=some .local:=by intro _ _ _ _; rfl) (hf:fr[0]? = some none:=by rfl)
  (hs:∀ x,foldedSetIterable iter X.env x=pure x:=by intro _; rfl):QS X (.Assign [.Name z zp] (.ListComp elt [⟨.Name x tp,iter,[],0⟩] scope p2) pos) (fI i (c7 ti fr (bF 0) cO te)):=
 cS (rG (gh:=fun _=>bL 0) (tch:=fun H=>LT (X.frm H) cO) (teh:=fun H=>LE (X.frm H) te) hc S hi (lV he (fun _ _ _ _=>oH) hN h0 hl) nd hz hzl hsw hs) fun D σ H h=>iT (iS _ 0) (fun i e=>by subst e; exact hf) (yG h)
end
theorem ao3 {i:Nat}{x:Str}{xpos tpos:Pos} (hk:QE X a tk) (he:QE X e te) (hN:X.N[i]? = some x:=by rfl) (hv:eL X.env.scope x:=by first | exact Or.inl rfl | exact Or.inr (Or.inl rfl) | exact Or.inr (Or.inr rfl)) (hd:(x == ("__debug__" : Str))=false:=by decide) (hcd:(x == ("__classdict__" : Str))=false:=by decide)
  (hp:∀ (tx:TE) (tg:TE),PE X (.Name x xpos) tx->PE X a tg->PG X (.Subscript (.Name x xpos) a tpos) (qB tx tg qT):=by intro _ _ h1 h2; exact T0 h1 h2 Y5)
  (hs:swapsWithSole [.Subscript (.Name x xpos) a tpos] e pos.line X.env=pure false:=by rfl) (hw:swappedStores [.Subscript (.Name x xpos) a tpos] e X.env=pure none:=by rfl) :
  QS X (.Assign [.Subscript (.Name x xpos) a tpos] e pos) (sG i tk te):=cS (v4 he (hp _ _ (gJ hN hv hd hcd) hk) hs hw) fun _ _ _=>ai5
end
end PP
namespace SO
open PySem PyProof.Rows
variable {rk : Keyed → Int}
section
variable {κ : SortKind} {a0 : Array Keyed} {pd : Array (Nat × Nat × Nat)} {st : SortSt} {prog : Program} {w : World} {A : Around} {E : Value → Shared → Prop} {s : Shared} {Ok : Keyed → Prop}
abbrev DS:=Option (Option Nat) × Nat × Nat
end
abbrev LS:=Option (Array Keyed) × Array Keyed × Nat × Nat × Nat × Nat × Nat
abbrev LO:=Option (Array Keyed) × Array Keyed × Nat × Nat × Nat
variable {rk : Keyed → Int} {xs ys o : List Keyed} {i j : Nat}
variable {rk : Keyed → Int} {xs ys o : List Keyed} {i j : Nat}
variable {rk : Keyed → Int}
def Ch:Nat->List (Nat × Nat)->Nat->Prop
 | a,[],b=>a=b
 | a,(p,n) :: r,b=>p=a/\0 < n/\Ch (a+n) r b
variable {rk : Keyed → Int} {κ : SortKind} {a0 : Array Keyed} {pd : Array (Nat × Nat × Nat)} {st : SortSt} {prog : Program} {w : World} {A : Around} {E : Value → Shared → Prop} {s : Shared} {Ok : Keyed → Prop}
end SO
namespace L2
open PySem PySem.Spec PyProof.Rows
theorem b8.at {P:Program}{w:World}{H:Hp}{h:Heap}{a:Addr}{o:HO} (x:b8 P w H h a o):∃ ob,h.get? a=some ob:=by
 cases o with
 | lst xs=>obtain ⟨_,_,_,_,e⟩:=x; exact⟨_,e⟩
 | tup xs=>obtain ⟨_,_,_,_,e,_⟩:=x; exact⟨_,e⟩
 | dK kvs=>obtain ⟨_,_,_,_,_,_,_,e,_⟩:=x; exact⟨_,e⟩
 | dT kvs=>obtain ⟨_,_,_,_,_,_,_,e,_⟩:=x; exact⟨_,e⟩
 | set S n=>obtain ⟨_,_,_,_,e,_⟩:=x; exact⟨_,e⟩
 | ins C dx fs=>obtain ⟨_,_,_,e,_⟩:=x; exact⟨_,e⟩
 | own y=>exact x
 | xd fs=>obtain ⟨_,⟨_,_,_,e,_⟩,_⟩:=x; exact⟨_,e⟩
 | rng lo hi=>obtain ⟨_,_,_,e⟩:=x; exact⟨_,e⟩
 | frz ob u=>obtain ⟨e,_⟩:=x; exact⟨_,e⟩
 | tbl ps=>exact⟨_,x⟩
 | met f y=>exact⟨_,x⟩
 | ext φ=>exact x.2.1
structure j4 (P:Program) (w:World) (outer:List Env) (H:Hp) (s:Shared) (H':Hp) (B:Heap) (a C:Addr) (s':Shared):Prop where
 os:s'.os=s.os
 bare:AllBare s'.gens
 un:Un (bA outer) [] H H' s.heap s'.heap
 hok:bD P w H' s'.heap
 fly:∃ a0,Heap.FlyingW B outer a (.ref C) a0 s'.heap
 b0:∀ b o,s.heap.get? b=some o->b ∉ bA outer->∃ o',B.get? b=some o'
 b1:∀ b o,s.heap.get? b=some o->H b=none->b ∉ bA outer->B.get? b=some o
 b2:∀ b u o,H' b=some u->s'.heap.get? b=some o->B.get? b=some o
def dA (P:Program) (w:World):eQ:=fun outer H s E e s'=>∃ (H':Hp) (B:Heap) (a C:Addr),e = .ref a/\j4 P w outer H s H' B a C s'/\E (.ref C) none H'
section
variable {P : Program} {w : World} {outer : List Env} {H H' : Hp} {s s' : Shared} {B h2 : Heap} {a C : Addr}
theorem j4.fresh (f:j4 P w outer H s H' B a C s'):H' a=none:=by
 cases q:H' a with
 | none=>rfl
 | some u=>
  obtain ⟨ob,e⟩:=(f.hok a u q).at
  have z:=f.b2 a u ob q e
  obtain ⟨_,_,n,_⟩:=f.fly
  rw [n] at z; cases z
theorem j4.hok2 (f:j4 P w outer H s H' B a C s') (k:B.StaysIn h2):bD P w H' h2:=fun b u e=>
 (f.hok b u e).stay (fun c v hc q=>by
  rcases hc with z | z
  ·subst z; exact k _ _ (f.b2 _ _ _ e q)
  ·exact k _ _ (f.b2 _ _ _ z q)) (fun _ q=>q) fun _ _ q=>q
end
section
variable {P : Program} {w : World} {K : PySem.W.Frag} {mg : Str → Option Value} {base : Heap} {N : List Str} {qual : Str} {scope : Scope} {f : Addr} {cd : Value} {A : Around} {outer : List Env} {s₀ : Shared} {H₀ : Hp} {E₀ E₁ : XK}
theorem oJ {pins:List (Addr × Obj)}{σ:St}{H:Hp}{s:Shared} (I:a5 (cC (dA P w) P w K mg base N qual scope f cd A outer s₀ H₀ E₀) pins σ H s) {b:Addr}{o:Obj} (e:s₀.heap.get? b=some o) (n:b ∉ bA outer) :
  b ∉ bA (envOfC qual scope s₀.heap.objs.size f cd :: outer):=fun z=>by
 rcases aK0.mp (I.stkSub b z) with y | y
 ·have l:=aK2 e
  have y:b=s₀.heap.objs.size:=y
  exact absurd l (by rw [y]; exact aN2 _)
 ·exact n y
theorem ao4 (hE:∀ c d H',E₁ c d H'->E₀ c d H'):jJ (dA P w) (cC (dA P w) P w K mg base N qual scope f cd A outer s₀ H₀ E₀) E₁:=by
 intro pins σ H s e s' I hx
 obtain ⟨H',B,a,C,e1,fl,q⟩:=hx
 subst e1
 have I':=I.call' fl.os fl.un fl.hok fl.bare (ch:=[]) (fun b z=>absurd z (by simp))
 obtain ⟨a0,fly⟩:=fl.fly
 refine wpAny_leaves_onW I.ok.frames rfl fly fun h' fly' up=>?_
 have slot:∀ b o,s₀.heap.get? b=some o->b ∈ bA outer->∃ sl,h'.get? b=some { o with slots:=sl }:=fun b o e hb=>by
  obtain ⟨sl,e1⟩:=I'.base.slot b o e (I.ok.frf b hb) hb (fun z=>nomatch z)
  obtain ⟨_,o2,e2,nf⟩:=I.ok.funs.mem hb
  rw [show (cC (dA P w) P w K mg base N qual scope f cd A outer s₀ H₀ E₀).s₀=s₀ from rfl,e] at e2
  cases e2
  obtain ⟨sl',e3⟩:=up b _ e1 nf
  exact⟨sl',e3⟩
 have old:∀ b o,s₀.heap.get? b=some o->H₀ b=none->b ∉ bA outer->B.get? b=some o:=fun b o e n hb=>
  fl.b1 b o (I.base.keep b o e n hb (fun z=>nomatch z)) (I.base.free b o e n (fun z=>nomatch z)) (oJ I e hb)
 have old0:∀ b o,s₀.heap.get? b=some o->b ∉ bA outer->∃ o',B.get? b=some o':=fun b o e hb=>by
  obtain ⟨o1,e1⟩:=I.base.there b o e (fun z=>nomatch z)
  exact fl.b0 b o1 e1 (oJ I e hb)
 refine⟨H',B,a,C,rfl,⟨I'.os,I'.bare,⟨fun b o e n hb _=>fly'.1 _ _ (old b o e n hb),fun b o e n hb _=>slot b o e hb,fun b o e n hx=>I'.base.free b o e n hx,fun b o e _=>?_,I'.base.tups,I'.base.frzs,I'.base.tbls⟩,fl.hok2 fly'.1,⟨a0,fly'⟩,old0,old,fun b u o e h=>?_⟩,hE _ _ _ q⟩
 ·by_cases hb:b ∈ bA outer
  ·obtain ⟨sl,e1⟩:=slot b o e hb
   exact⟨_,e1⟩
  ·obtain ⟨o',e1⟩:=old0 b o e hb
   exact⟨o',fly'.1 _ _ e1⟩
 ·obtain ⟨ob,e1⟩:=(fl.hok b u e).at
  have e2:=fl.b2 b u ob e e1
  have e3:=fly'.1 _ _ e2
  have h:h'.get? b=some o:=h
  rw [h] at e3; cases e3; exact e2
theorem ao5 {pins:List (Addr × Obj)}{σ:St}{H:Hp}{s:Shared}{h':Heap}{e C:Addr}{args:List Value} (I:a5 (cC (dA P w) P w K mg base N qual scope f cd A outer s₀ H₀ E₀) pins σ H s) (mx:Heap.MadeExcOf s.heap h' e (.ref C) args) (q:E₀ (.ref C) none H) :
  (cC (dA P w) P w K mg base N qual scope f cd A outer s₀ H₀ E₀).xe (.ref e) { s with heap:=h' }:=by
 have tr:∀ b u,H b=some u->b ∉ bA (envOfC qual scope s₀.heap.objs.size f cd :: outer):=fun b u z n=>by
  rw [I.stkFree b n] at z; cases z
 have inB:∀ b o,s.heap.get? b=some o->b ∉ bA (envOfC qual scope s₀.heap.objs.size f cd :: outer)->(PySem.W.hideAll s.heap (bA (envOfC qual scope s₀.heap.objs.size f cd :: outer))).get? b=some o:=fun b o z n=>PySem.W.hideAll_get _ z n
 refine wpAny_leaves_madeW (base:=PySem.W.hideAll s.heap (bA (envOfC qual scope s₀.heap.objs.size f cd :: outer))) I.ok.frames rfl (fun b o z=>PySem.W.of_hideAll _ z) (PySem.W.funFrames_hide I.stack fun env he b hb=>List.mem_filterMap.mpr ⟨env,he,hb⟩) mx fun h'' t fly _ _ up=>?_
 have slot:∀ b o,s₀.heap.get? b=some o->b ∈ bA outer->∃ sl,h''.get? b=some { o with slots:=sl }:=fun b o e hb=>by
  obtain ⟨sl,e1⟩:=I.base.slot b o e (I.ok.frf b hb) hb (fun z=>nomatch z)
  obtain ⟨_,o2,e2,nf⟩:=I.ok.funs.mem hb
  rw [show (cC (dA P w) P w K mg base N qual scope f cd A outer s₀ H₀ E₀).s₀=s₀ from rfl,e] at e2
  cases e2
  obtain ⟨sl',e3⟩:=up b _ (mx.keeps _ _ e1) nf
  exact⟨sl',e3⟩
 have old:∀ b o,s₀.heap.get? b=some o->H₀ b=none->b ∉ bA outer->(PySem.W.hideAll s.heap (bA (envOfC qual scope s₀.heap.objs.size f cd :: outer))).get? b=some o:=fun b o e n hb=>
  inB b o (I.base.keep b o e n hb (fun z=>nomatch z)) (oJ I e hb)
 have old0:∀ b o,s₀.heap.get? b=some o->b ∉ bA outer->∃ o',(PySem.W.hideAll s.heap (bA (envOfC qual scope s₀.heap.objs.size f cd :: outer))).get? b=some o':=fun b o e hb=>by
  obtain ⟨o1,e1⟩:=I.base.there b o e (fun z=>nomatch z)
  exact⟨o1,inB b o1 e1 (oJ I e hb)⟩
 refine⟨H,_,e,C,rfl,⟨I.os,I.bare,⟨fun b o e n hb _=>fly.1 _ _ (old b o e n hb),fun b o e n hb _=>slot b o e hb,fun b o e n hx=>I.base.free b o e n hx,fun b o e _=>?_,I.base.tups,I.base.frzs,I.base.tbls⟩,fun b u z=>?_,⟨_,fly⟩,old0,old,fun b u o z h=>?_⟩,q⟩
 ·by_cases hb:b ∈ bA outer
  ·obtain ⟨sl,e1⟩:=slot b o e hb
   exact⟨_,e1⟩
  ·obtain ⟨o',e1⟩:=old0 b o e hb
   exact⟨o',fly.1 _ _ e1⟩
 ·refine (I.hok b u z).stay (fun c v hc y=>?_) (fun _ y=>y) fun _ _ y=>y
  rcases hc with z' | z'
  ·subst z'; exact fly.1 _ _ (inB _ _ y (tr _ _ z))
  ·exact fly.1 _ _ (inB _ _ y (tr _ _ z'))
 ·obtain ⟨ob,e1⟩:=(I.hok b u z).at
  have e2:=inB b ob e1 (tr b u z)
  have e3:=fly.1 _ _ e2
  have h:h''.get? b=some o:=h
  rw [h] at e3; cases e3; exact e2
end
structure k6 (X:Cx) (E:XK):Prop where
 pass:jJ (dA X.prog X.w) X E
 made:∀ (pins:List (Addr × Obj)) (σ:St) (H:Hp) (s:Shared) (h':Heap) (e C:Addr) (args:List Value),a5 X pins σ H s->Heap.MadeExcOf s.heap h' e (.ref C) args->E (.ref C) none H->X.xe (.ref e) { s with heap:=h' }
 own:PassesOwn (model X.prog X.w) X.A X.env X.xe
theorem ao6 {P:Program}{w:World}{K:PySem.W.Frag}{mg:Str->Option Value}{base:Heap}{N:List Str}{qual:Str}{scope:Scope}{f:Addr}{cd:Value}{A:Around}{outer:List Env}{s₀:Shared}{H₀:Hp}{E₀ E₁:XK} (hE:∀ c d H',E₁ c d H'->E₀ c d H') :
  k6 (cC (dA P w) P w K mg base N qual scope f cd A outer s₀ H₀ E₀) E₁:=
 ⟨ao4 hE,fun _ _ _ _ _ _ _ _ I mx q=>ao5 I mx (hE _ _ _ q),PassesOwn.leaving⟩
def zS (E:XK) (C:Addr) (t:TA):TS:=fun _ σ H=>t σ H fun vs H1=>vs.length<=sizeLine/\E (.ref C) none H1
theorem ao7 {X:Cx}{E:XK}{x:Str}{C:Addr}{bm:List Value}{B newId initId:String}{np cpos pos:Pos}{e:Expr}{es:List Expr}{t:TA} (hX:k6 X E) (hc:X.calm=true) (O:OwnCls x C bm newId X.mg X.base) (FB:ExcBaseFacts B newId initId bm) (ha:PA X (e :: es) t) (hg:Gl X x)
  (hd:(x == ("__debug__" : Str))=false:=by decide) (he:starEach (e :: es) X.env=(false,eval e X.env) :: starEach es X.env:=by rfl) (hpl:(backTo cpos (starEach es X.env)).any (·.1)=false:=by rfl) :
  PS X (.Raise (some (.Call (.Name x np) (e :: es) [] cpos)) none pos) (zS E C t):=by
 intro pins s σ H D I h
 obtain ⟨tl,Na,nm,qn,bs,hx,sn,sub,ab,col,dd,k0,k1,k2,k3,k5,mN,hC,hN,hni,T⟩:=O.obj
 refine wpAny_Raise_call_subT (nm:=nm) (q:=qn) (N:=Na) (bs:=bs) (bm:=tl) (hdct:=hx) (sn:=sn) (sub:=sub) (ab:=ab) (col:=col) (dd:=dd) (k0:=k0) (k1:=k1) (k2:=k2) (k3:=k3) (k5:=k5) FB (C:=C) (mN:=mN) (T.hasType FB.hasBase) (I.ok.hd hc) (by rw [he]; show (false || (backTo cpos (starEach es X.env)).any (·.1))=false; rw [hpl]; rfl) hni (jD I hg O.bound ⟨rfl,?_⟩ hd)
 have h1:=ha cpos pins s σ H _ I h
 rw [he] at h1 ⊢
 refine Calls.evalArgs_plain (aO3 h1 (fun us s2 h2=>?_) fun _ _ y=>y)
 obtain ⟨vs,H2,I2,r,hl,q⟩:=h2
 have r:aG vs us:=r
 exact⟨rfl,by show us.length<=sizeLine; rw [<- r.length]; exact hl,I2.bk _ _ hC,hN.keeps I2.bk,T.keeps I2.bk,fun h' e' mx=>hX.made pins σ H2 s2 h' e' C _ I2 mx q⟩
theorem cV.okX {P:Program}{w:World}{K:PySem.W.Frag}{mg:Str->Option Value}{base:Heap}{x qual:Str}{st:Stmt}{f:Addr}{fd:FuncData}{N ps:List Str}{k:Nat}{sp:Sp} (F:cV K x qual st f fd) (S:FnScope N ps (aN st)) (len:∀ vs H Q E,sp vs H Q E->vs.length=ps.length)
  (hbody:∀ (cdv:Value) (A:Around) (outer:List Env) (s:Shared) (H:Hp) (vs:List V) (Q:VK) (E:XK),bE k (A.deeper (envOfC qual (aN st) s.heap.objs.size f cdv))->sp vs H Q E->
   ∃ t,cB (cC (dA P w) P w K mg base N qual (aN st) f cdv A outer s H E) (cR st) t/\t { nx:=fun _ H'=>Q .non H',rt:=Q } (eS N vs) H):bV P w K mg base (dA P w) (k+1) f fd ps sp:=by
 obtain ⟨oc,od,kV,doc,pm,an,cdv,ct,osl,rfl,lk,hcd⟩:=F.ex
 exact w5 lk hcd S len fun A outer s H vs Q E hr hsp=>hbody cdv A outer s H vs Q E hr hsp
section
variable {X : Cx} {pins : List (Addr × Obj)} {σ : St} {H H1 H' : Hp} {s s1 s' : Shared} {B h2 : Heap} {a C : Addr}
theorem zT {oe:Obj} (I:a5 X pins σ H1 s1) (fl:j4 X.prog X.w X.stack H1 s1 H' B a C s') (st:B.StaysIn h2) (up:s'.heap.UpToSlots h2) (he:h2.get? a=some oe) :
  a5 X pins σ (upd H' a (.frz oe (.own a))) { s' with heap:=h2 }:=by
 obtain ⟨a0,fly⟩:=fl.fly
 have na:B.get? a=none:=fly.2.1
 have nf:a ∉ bA X.stack:=fun z=>by
  obtain ⟨_,o,e,d⟩:=fly.2.2.1.mem z
  obtain ⟨o2,vs,e2,_,d2,_⟩:=fly.first
  rw [e] at e2; cases e2
  exact d vs d2
 have nb:∀ b o,s1.heap.get? b=some o->b ≠ a:=fun b o e z=>by
  subst z
  obtain ⟨o',e'⟩:=fl.b0 _ o e nf
  rw [na] at e'; cases e'
 have nt:∀ b u,H' b=some u->b ≠ a:=fun b u e z=>by
  subst z; rw [fl.fresh] at e; cases e
 have off:∀ b,b ≠ X.env.locals->b ∉ X.fs->b ∉ bA X.stack:=fun b n1 n2 z=>(aK0.mp (I.stkSub b z)).elim n1 n2
 have slot:∀ b o,s1.heap.get? b=some o->b ∈ bA X.stack->∃ sl,h2.get? b=some { o with slots:=sl }:=fun b o e hb=>by
  obtain ⟨sl,e1⟩:=fl.un.any e (I.stkFree b hb) (fun z=>nomatch z)
  obtain ⟨_,o2,e2,d⟩:=I.stack.mem hb
  rw [e] at e2; cases e2
  obtain ⟨sl',e3⟩:=up b _ e1 d
  exact⟨sl',e3⟩
 have ns:∀ m,s1.heap.Ns X.env.locals m->h2.Ns X.env.locals m:=fun m hm=>by
  obtain ⟨o,es,ep,e,r⟩:=hm
  obtain ⟨sl,e1⟩:=fl.un.any e I.free (fun z=>nomatch z)
  exact up.ns ⟨_,es,ep,e1,r⟩
 have hok:bD X.prog X.w (upd H' a (.frz oe (.own a))) h2:=fun b u e=>by
  by_cases hb:b=a
  ·subst hb; rw [aV] at e; cases e; exact⟨he,_,he⟩
  ·rw [aJ hb] at e
   exact (fl.hok2 st b u e).stay (fun _ _ _ q=>q) (fun c q=>by rw [aJ (nt c _ q)]; exact q) fun c xs q=>by rw [aJ (nt c _ q)]; exact q
 have bare:=fl.bare
 have un:=fl.un
 have b0:=fl.b0
 have b1:=fl.b1
 have os:=fl.os
 clear fl fly up
 obtain ⟨hh,g,d,t,os'⟩:=s'
 obtain rfl:os'=s1.os:=os
 show a5 X pins σ _ { s1 with heap:=h2,gens:=g,drawn:=d,toks:=t }
 refine I.step (h':=h2) (g':=g) (d':=d) (t':=t) (ch:=[]) (fun _ z=>nomatch z) (fun b o n1 n2 _ e n=>st _ _ (b1 b o e n (off b n1 n2))) (fun b o n1 hb _ e n=>?_) (fun b o _ e n=>by rw [aJ (nb b o e)]; exact un.free b o e n (fun z=>nomatch z)) (fun b o _ e=>?_)
  (fun b xs q=>by rw [aJ (nt b _ (un.tups b xs q))]; exact un.tups b xs q) (fun b o u q=>by rw [aJ (nt b _ (un.frzs b o u q))]; exact un.frzs b o u q) (fun b ps q=>by
   obtain ⟨more,q'⟩:=un.tbls b ps q
   exact⟨more,by rw [aJ (nt b _ q')]; exact q'⟩) ns hok bare
 ·by_cases hs:b ∈ bA X.stack
  ·exact slot b o e hs
  ·exact⟨o.slots,st _ _ (b1 b o e n hs)⟩
 ·by_cases hb:b ∈ bA X.stack
  ·obtain ⟨sl,e1⟩:=slot b o e hb
   exact⟨_,e1⟩
  ·obtain ⟨o',e1⟩:=b0 b o e hb
   exact⟨o',st _ _ e1⟩
abbrev Cx.suite (X:Cx) (a:Addr):Cx:={ X with A:=X.A.mark (some (.ref a)),calm:=false,xe:=fun _ _=>False }
theorem Cx.Ok.suite {X:Cx} (ok:X.Ok) (a:Addr):(X.suite a).Ok:=
 ⟨ok.mod,ok.kind,ok.glob,ok.blt,ok.above,ok.inj,ok.has,ok.cab,fun z=>Bool.noConfusion z,ok.frames,ok.stk,ok.exf,ok.bs,ok.bsz,ok.noex,ok.exfs,ok.funs,ok.frf⟩
theorem a5.suite (I:a5 X pins σ H s) (a:Addr):a5 (X.suite a) pins σ H s:=⟨I.ok.suite a,I.os,I.bare,I.base,I.loc,I.cell,I.free,I.freeC,I.pin,I.hok,I.len⟩
theorem a5.unsuite (I:a5 (X.suite a) pins σ H s) (ok:X.Ok):a5 X pins σ H s:=⟨ok,I.os,I.bare,I.base,I.loc,I.cell,I.free,I.freeC,I.pin,I.hok,I.len⟩
theorem oK {M:Model}{A:Around}{E:Value->Shared->Prop}{i:Nat}{x:Str}{pos:Pos}{Q:Unit->Shared->Prop} (I:a5 X pins σ H s) (hN:X.N.Nodup) (hi:X.N[i]? = some x) (hk:X.env.scope.names.lookup x=some .local)
  (h:∀ s',a5 X pins (σ.set i none) H s'->Q () s'):wpAny M A (do bindName X.env x .none; unbindBehindTheSuite X.env x pos) Q E s:=by
 obtain ⟨m,hn,hl⟩:=id I.loc
 obtain ⟨oL,_,_,hoL,_⟩:=id hn
 have ab:∀ b o,X.s₀.heap.get? b=some o->b ≠ X.env.locals:=fun b o e=>aM4 (aJ7 (aK2 e) I.ok.above)
 refine wpAny_nameGoes_keeps hk hn (by rw [I.ok.kind]; rfl) fun h' v hn' hs=>?_
 refine h _ ⟨I.ok,I.os,I.bare,⟨fun b o e n hb hx=>(hs.2 b (ab b o e)).trans (I.base.keep b o e n hb hx),fun b o e n hb hx=>?_,I.base.free,fun b o e hx=>?_,I.base.tups,I.base.frzs,I.base.tbls⟩,⟨_,hn',fun j y v' e1 e2 e3=>?_⟩,fun y c e=>?_,I.free,I.freeC,fun p hp=>?_,fun b u e=>?_,by simpa using I.len⟩
 ·obtain ⟨sl,e1⟩:=I.base.slot b o e n hb hx
  exact⟨sl,(hs.2 b (ab b o e)).trans e1⟩
 ·obtain ⟨o',e1⟩:=I.base.there b o e hx
  exact⟨o',(hs.2 b (ab b o e)).trans e1⟩
 ·by_cases hj:j=i
  ·subst hj
   have hjl:j < σ.length:=by rw [I.len]; exact (aJ8.mp hi).1
   rw [aM3 hjl] at e2
   cases e2
  ·rw [aK4 (Ne.symm hj)] at e2
   obtain ⟨u',r',q⟩:=hl j y v' e1 e2 e3
   refine⟨u',r',?_⟩
   rcases q with ⟨k,e⟩ | ⟨k,c,e,z⟩
   ·have ny:y ≠ x:=fun z=>hj (pV hN e1 (z ▸ hi))
    exact .inl ⟨k,by simp [ny,e]⟩
   ·exact .inr ⟨k,c,e,z.sameBut hs (I.cne y c e)⟩
 ·obtain ⟨w',z⟩:=I.cell y c e
  exact⟨w',z.sameBut hs (I.cne y c e)⟩
 ·obtain ⟨e,n,ne,nf,d⟩:=I.pin p hp
  exact⟨(hs.2 p.1 ne).trans e,n,ne,nf,d⟩
 ·refine (I.hok b u e).stay (fun c v hc q=>(hs.2 c fun z=>?_).trans q) (fun _ q=>q) fun _ _ q=>q
  subst z
  rcases hc with z | z
  ·subst z; rw [I.free] at e; cases e
  ·rw [I.free] at z; cases z
theorem ao8 {M:Model}{A:Around}{E:Value->Shared->Prop}{K:PySem.W.Frag}{e C D:Addr}{oe:Obj}{Q:Bool->Shared->Prop} (k:K.In s.heap) (he:s.heap.get? e=some oe) (hc:oe.cls = .ref C) (h1:(PySem.W.clsIn K D).isSome=true) (h2:PySem.W.typeIn K (.ref D)=some (.type "type"))
  (h3:PySem.W.subIn K (.ref D) (.type "BaseException")=some true) (h4:PySem.W.subIn K (.ref C) (.ref D)=some true) (hq:Q true s):wpAny M A (excMatches (.ref e) (.ref D)) Q E s:=by
 obtain ⟨h,g,d,t,os⟩:=s
 have k:K.In h:=k
 have he:h.get? e=some oe:=he
 have l1:PySem.W.Looks M h (isType (.ref D)) true:=by
  unfold PySem.W.clsIn at h1
  split at h1
  ·rename_i c' d' cd' sl' ho
   intro A' Q' E' s' kk q
   unfold isType loadHead
   exact aI7 (wpAny_loadPart (kk _ _ (k _ _ ho)) (aJ1 q))
  ·cases h1
 have l2:PySem.W.Looks M h (typeOf (.ref D)) (.type "type"):=PySem.W.looks_typeIn k h2
 have l3:PySem.W.Looks M h (isSubtype (.ref D) (.type "BaseException")) true:=PySem.W.looks_subIn k h3
 have l4:PySem.W.Looks M h (isSubtype (.ref C) (.ref D)) true:=PySem.W.looks_subIn k h4
 have l5:PySem.W.Looks M h (typeOf (.ref e)) (.ref C):=hc ▸ (PySem.W.Looks.ld he).andThen .now
 have l6:PySem.W.Looks M h (isInstance (.ref D) (.type "tuple")) false:=l2.andThen (PySem.W.Looks.of_pure tc_notTuple)
 have l7:PySem.W.Looks M h (isExcClass (.ref D)) true:=by
  unfold isExcClass
  exact l1.andThen (by simpa using l3)
 have f:=tc_notTuple
 unfold excMatches
 repeat (first | exact hq | (with_reducible refine l2.at ?_) | (with_reducible refine l7.at ?_) | (with_reducible refine l1.at ?_) | (with_reducible refine l3.at ?_) | (with_reducible refine l5.at ?_) | (with_reducible refine l4.at ?_) | wp_step)
end
def tK (D:cA) (i:Nat):cA:={ nx:=fun σ H=>D.nx (σ.set i none) H,rt:=D.rt,bk:=fun σ H=>D.bk (σ.set i none) H,ct:=fun σ H=>D.ct (σ.set i none) H }
section
variable {X : Cx} {pins : List (Addr × Obj)} {σ : St} {H H1 H' : Hp} {s s1 s' : Shared} {B : Heap} {a C Ch : Addr} {i : Nat} {x n : Str} {np pos hpos : Pos} {b₀ : Stmt} {suite : List Stmt} {ts : TS} {D : cA} {bT : List ExceptHandler}
structure tL (K:PySem.W.Frag) (Ch:Addr):Prop where
 c1:(PySem.W.clsIn K Ch).isSome=true
 c2:PySem.W.typeIn K (.ref Ch)=some (.type "type")
 c3:PySem.W.subIn K (.ref Ch) (.type "BaseException")=some true
theorem ao9 (I:a5 X pins σ H1 s1) (fl:j4 X.prog X.w X.stack H1 s1 H' B a C s') (hstk:X.stack=X.env :: X.outer/\X.env.frame=some X.env.locals) (hg:Gl X x) (hm:X.mg x=some (.ref Ch)) (ct:tL X.K Ch) (sub:PySem.W.subIn X.K (.ref C) (.ref Ch)=some true)
  (hN:X.N.Nodup) (hi:X.N[i]? = some n) (hl:X.env.scope.names.lookup n=some .local) (hs:cB (X.suite a) (b₀ :: suite) ts) (q:∀ oe:Obj,oe.cls = .ref C->ts (tK D i) (σ.set i (some (.ref a))) (upd H' a (.frz oe (.own a)))) (hd:(x == ("__debug__" : Str))=false) :
  wpAny (model X.prog X.w) X.A (noteFrame (.ref a) X.env) (fun _ s₂=>wpAny (model X.prog X.w) X.A (setFlight (.ref a) none) (fun _ s₃=>wpAny (model X.prog X.w) X.A (handleBy (.ref a) X.env (.ExceptHandler (some (.Name x np)) (some n) (b₀ :: suite) hpos :: bT)) (SP X pins D) X.xe s₃) X.xe s₂) X.xe s':=by
 obtain ⟨a0,fly⟩:=fl.fly
 rw [hstk.1] at fly
 refine wpAny_looks_onW (outer:=X.outer) (L:=X.env.locals) (by rw [I.ok.frames,hstk.1]) hstk.2 fly fun h4 held up4=>wpAny_landsW held fun h5 fly5 up5=>?_
 obtain ⟨o5,v5,e5,c5,_⟩:=fly5.first
 have I5:=zT I fl fly5.1 (up4.trans up5) e5
 refine wpAny_handleBy_cons (codeAny_handlers_test (jD (I5.suite a) hg hm ?_ hd)) (by intro z; cases z)
 refine ao8 I5.kIn e5 c5 ct.c1 ct.c2 ct.c3 sub ?_
 show codeAny (model X.prog X.w) (X.A.mark (some (.ref a))) (.handlers (.ref a) [.ExceptHandler none (some n) (b₀ :: suite) hpos] X.env) _ _
 refine codeAny_handlers_suite_as (lands_againW fly5 fun h6 fly6 up6=>?_)
 obtain ⟨o6,v6,e6,c6,_⟩:=fly6.first
 have I6:=zT I fl fly6.1 ((up4.trans up5).trans up6) e6
 refine pX I6 hN hi (.inl hl) (v:=.ref a) rfl (fun s7 I7=>?_) (.inr hl)
 refine aO3 (hs pins s7 _ _ (tK D i) (I7.suite a) (q o6 c6)) (fun f s8 h8=>?_) fun _ _ z=>z.elim
 show wpAny (model X.prog X.w) X.A (do bindName X.env n .none; unbindBehindTheSuite X.env n hpos) (fun _ s9=>SP X pins D f s9) X.xe s8
 cases f with
 | next=>obtain ⟨σ',H',J,q⟩:=h8; exact oK (J.unsuite I.ok) hN hi hl fun s9 J9=>⟨_,_,J9,q⟩
 | brk=>obtain ⟨σ',H',J,q⟩:=h8; exact oK (J.unsuite I.ok) hN hi hl fun s9 J9=>⟨_,_,J9,q⟩
 | cont=>obtain ⟨σ',H',J,q⟩:=h8; exact oK (J.unsuite I.ok) hN hi hl fun s9 J9=>⟨_,_,J9,q⟩
 | ret u=>obtain ⟨v,σ',H',J,r,q⟩:=h8; exact oK (J.unsuite I.ok) hN hi hl fun s9 J9=>⟨v,_,_,J9,r,q⟩
end
abbrev TB:=cA->XK->St->Hp->Prop
def XB (X:Cx) (pins:List (Addr × Obj)) (σ:St) (Ex:XK):Value->Shared->Prop:=fun e s'=>∃ H1 s1,a5 X pins σ H1 s1/\dA X.prog X.w X.stack H1 s1 Ex e s'
def PB (X:Cx) (sts:List Stmt) (t:TB):Prop:=
 ∀ (pins:List (Addr × Obj)) (s:Shared) (σ:St) (H:Hp) (D:cA) (Ex:XK),a5 X pins σ H s->t D Ex σ H->wpAny (model X.prog X.w) X.A (execs sts X.env) (SP X pins D) (XB X pins σ Ex) s
def ap0 (sp:Sp) (t:TA):TB:=fun D Ex σ H=>t σ H fun vs H1=>sp vs H1 (fun _ H2=>D.nx σ H2) Ex
section
variable {X : Cx} {k : Nat} {f Ch : Addr} {fd : FuncData} {ps : List Str} {sp : Sp} {x n : Str} {p cp pos np hpos : Pos} {e c : Expr} {es : List Expr} {t : TA} {tb ub : TB} {tc : TT} {sa sb body : List Stmt} {i : Nat} {b₀ : Stmt} {suite : List Stmt} {ts : TS}
theorem ap1 (F:bV X.prog X.w X.K X.mg X.base (dA X.prog X.w) k f fd ps sp) (hr:bE k X.A) (hg:Gl X x) (hm:X.mg x=some (.ref f)) (hk:PySem.W.keepIn X.K (.ref f)=true) (hb:eR X.K fd ps []) (ha:∀ E,PA (X.wish E) (e :: es) t)
  (hdb:(x == ("__debug__" : Str))=false:=by decide) (he:starEach (e :: es) X.env=(false,eval e X.env) :: starEach es X.env:=by rfl) (hpl:(backTo cp (starEach es X.env)).any (·.1)=false:=by rfl) (hsw:swapsWith (.Call (.Name x p) (e :: es) [] cp) none pos.line X.env=pure false:=by rfl) :
  PB X [.Expr (.Call (.Name x p) (e :: es) [] cp) pos] (ap0 sp t):=by
 intro pins s σ H D Ex I h
 refine wpAny_execs_cons (wpAny_Expr_any ?_ I.quiet hsw)
 refine wpAny_Call_Name_kw (jD I hg hm ?_ hdb)
 refine PySem.W.callWith_K (h₀:=X.base) I.ok.mod.kin hk (aH (ha (XB X pins σ Ex) cp pins s σ H _ (I.wish _) h) fun us s1 h1=>⟨?_,?_⟩) he hpl
 ·obtain ⟨_,_,I1,_⟩:=h1
  exact I1.kIn
 ·obtain ⟨vs,H1,I1,r,q⟩:=h1
  have I1:=I1.unwish
  have hl:us.length=ps.length:=by rw [<- r.length]; exact F.len _ _ _ _ q
  have bd:=hb s1 us I1.kIn (by rw [aN3]; exact hl)
  rw [aN3] at bd
  refine wpAny_call (codeAny_mono (F.run X.A X.stack s1 H1 ⟨us,[]⟩ us vs _ Ex hr I1.env0 bd r q) fun rs s' hq=>?_)
  cases rs with
  | error ev=>exact⟨H1,s1,I1,hq⟩
  | ok fl=>
   cases fl with
   | ret u=>
    obtain ⟨v,H2,I2,_,q2⟩:=I1.after hq
    exact wpAny_execs_nil ⟨σ,H2,I2,q2⟩
   | next=>exact False.elim hq
   | brk=>exact False.elim hq
   | cont=>exact False.elim hq
def zU (K:PySem.W.Frag) (Ch:Addr) (i:Nat) (tb:TB) (ts:TS):TS:=fun D σ H=>
 tb D (fun c _ H'=>∀ (a C:Addr) (oe:Obj),c = .ref C->H' a=none->oe.cls = .ref C->PySem.W.subIn K (.ref C) (.ref Ch)=some true/\ts (tK D i) (σ.set i (some (.ref a))) (upd H' a (.frz oe (.own a)))) σ H
theorem ap2 (hstk:X.stack=X.env :: X.outer/\X.env.frame=some X.env.locals) (hb:PB X body tb) (hg:Gl X x) (hm:X.mg x=some (.ref Ch)) (ct:tL X.K Ch) (hN:X.N.Nodup) (hi:X.N[i]? = some n) (hl:X.env.scope.names.lookup n=some .local) (hs:∀ a,cB (X.suite a) (b₀ :: suite) ts)
  (hd:(x == ("__debug__" : Str))=false:=by decide):PS X (.Try body [.ExceptHandler (some (.Name x np)) (some n) (b₀ :: suite) hpos] [] [] pos) (zU X.K Ch i tb ts):=by
 intro pins s σ H D I h
 refine wpAny_Try_except (aO3 (hb pins s σ H D _ I h) (fun fl s1 q=>?_) (fun ev s1 q=>?_))
 ·cases fl with
  | next=>exact wpAny_execs_nil q
  | _=>exact q
 ·obtain ⟨H1,s2,I1,H',B,a,C,e1,fl,q⟩:=q
  subst e1
  obtain ⟨a0,fly⟩:=fl.fly
  obtain ⟨o5,_,_,c5,_⟩:=fly.first
  exact ao9 I1 fl hstk hg hm ct (q a C o5 rfl fl.fresh c5).1 hN hi hl (hs a) (fun oe hc=>(q a C oe rfl fl.fresh hc).2) hd
end
end L2
namespace L2
open PySem PySem.Spec PyProof.Rows PySem.Calls Builtin Builtin.ObjectAttr Builtin.Getset_descriptor
structure gC (K:PySem.W.Frag) (D:Addr):Prop where
 cls:(PySem.W.clsIn K D).isSome=true
 ga:PySem.W.findIn K (.ref D) "__getattribute__" = some (some (.builtin "BaseException.__getattribute__"))
 gt:PySem.W.findIn K (.ref D) "__getattr__" = some none
 fc:PySem.W.findIn K (.ref D) "__class__" = some (some (.builtin "object.__class__"))
 fg:PySem.W.specialIn K (.builtin "object.__class__") "__get__" = some (some (.builtin "getset_descriptor.__get__"))
 ft:PySem.W.takesIn K (.builtin "object.__class__")=some true
 ob:PySem.W.mroIn K D (.type "object")=some true
 be:PySem.W.mroIn K D (.type "BaseException")=some true
def iD (h:Heap) (x D:Addr):Prop:=∃ ox:Obj,h.get? x=some ox/\ox.cls = .ref D
theorem iD.type {h:Heap}{x D:Addr}{M:Model} (I:iD h x D):PySem.W.Looks M h (typeOf (.ref x)) (.ref D):=by
 obtain ⟨ox,e,c⟩:=I
 exact c ▸ (PySem.W.Looks.ld e).andThen .now
section
variable {prog : Program} {w : World} {A : Around} {E : Value → Shared → Prop} {K : PySem.W.Frag} {x D : Addr} {h : Heap} {g : Array GenState} {d : Drawn} {t : Nat} {os : OsState}
theorem ap3 {M:Model} (F:gC K D) (k:K.In h):PySem.W.Looks M h (find (.ref x) (.ref D) "__class__") (.bind (.builtin "getset_descriptor.__get__") (.builtin "object.__class__")):=by
 have L1:=PySem.W.looks_findIn (M:=M) k F.fc
 have L2:=PySem.W.looks_specialIn (M:=M) k F.fg
 have L3:=PySem.W.looks_takesIn (M:=M) k F.ft
 unfold find
 refine L1.andThen (PySem.W.Looks.andThen (a:=some (Value.builtin "getset_descriptor.__get__")) L2 ?_)
 refine PySem.W.Looks.andThen (a:=some (Value.builtin "getset_descriptor.__get__",Value.builtin "object.__class__")) ?_ (PySem.W.Looks.tag .now)
 unfold dataDescriptor?
 exact L3.andThen .now
theorem ap4 {tp:Value}{R:Result->Shared->Prop} (F:gC K D) (k:K.In h) (I:iD h x D) (hq:R (.ok (.ret (.ref D))) ⟨h,g,d,t,os⟩):codeAny (model prog w) A (.call (.builtin "getset_descriptor.__get__") ⟨[.builtin "object.__class__",.ref x,tp],[]⟩) R ⟨h,g,d,t,os⟩:=by
 have L0:=I.type (M:=model prog w)
 have L1:=PySem.W.looks_mroIn (M:=model prog w) k F.ob
 refine codeAny_call_builtin PySem.W.KF.slot_gs.plain PySem.W.KF.entry_gs (PySem.W.KF.slot_gs.check _ _ _ _ _ _ _ _ PySem.W.KF.type_class (PySem.W.KF.args_gs _ _ _) ?_)
 unfold Builtin.«getset_descriptor.__get__» descrGet; rw [PySem.W.dga_obj]
 refine aI7 (aJ1 ?_); unfold descrGetter descrCheckInstance descrNameAndClass isInstance
 simp only [PySem.W.KF.owner_class]
 repeat lk
 refine⟨Code.quiet_builtin _ (by decide +kernel),codeAny_builtin PySem.W.KF.entry_class ?_⟩; unfold Builtin.«object.__class__» shownTypeOf
 repeat lk
 exact hq
theorem ap5 {M:Model}{nameV:Value}{Q:Unit->Shared->Prop} (F:gC K D) (k:K.In h) (I:iD h x D) (hq:Q () ⟨h,g,d,t,os⟩):wpAny M A (checkBuiltinCall "BaseException.__getattribute__" ⟨[.ref x,nameV],[]⟩) Q E ⟨h,g,d,t,os⟩:=by
 have kd:builtinKind "BaseException.__getattribute__" = some .slot:=by decide +kernel
 have sp:splitId "BaseException.__getattribute__" = some ("BaseException","__getattribute__"):=by decide +kernel
 have L:PySem.W.Looks M h (isInstance (.ref x) (.type "BaseException")) true:=(I.type (M:=M)).andThen (PySem.W.looks_mroIn k F.be)
 have ha:=PySem.F.args_bexc_ga (.ref x) nameV
 simp only [checkBuiltinCall,kd,sp]
 refine aI7 (L.at ?_)
 repeat (any_goals (first | assumption | wp_step))
theorem ap6 {tk:Tok}{Q:Fin->Shared->Prop} (F:gC K D) (k:K.In h) (I:iD h x D) (hq:Q (.done (.ret (.ref D))) ⟨h,g,d,t,os⟩):wpAny (model prog w) A (Builtin.«object.__getattribute__» ⟨[.ref x,.str "__class__" tk],[]⟩) Q E ⟨h,g,d,t,os⟩:=by
 have L0:=I.type (M:=model prog w)
 have L1:=ap3 (M:=model prog w) F k (x:=x)
 refine aI7 (aJ1 (aI7 (aJ1 (aI7 (L0.at (aI7 (L1.at ?_)))))))
 show wpAny _ _ (holding [_] (call _ _) >>= ret) _ _ _
 exact aI7 (aQ6 (wpAny_call (ap4 F k I (aJ1 hq))))
theorem ap7 {tk:Tok}{R:Result->Shared->Prop} (F:gC K D) (k:K.In h) (I:iD h x D) (hq:R (.ok (.ret (.ref D))) ⟨h,g,d,t,os⟩):codeAny (model prog w) A (.call (.builtin "BaseException.__getattribute__") ⟨[.ref x,.str "__class__" tk],[]⟩) R ⟨h,g,d,t,os⟩:=
 codeAny_call_builtin PySem.F.excAttr_ValueError.ga.plain PySem.F.entry_bexc_ga (ap5 F k I (ap6 F k I hq))
theorem ap8 {Q:Option Value->Shared->Prop} (F:gC K D) (k:K.In h) (I:iD h x D) (hq:Q (some (.ref D)) ⟨h,g,d,t+1,os⟩):wpAny (model prog w) A (getAttr? (.ref x) "__class__") Q E ⟨h,g,d,t,os⟩:=by
 have L0:=I.type (M:=model prog w)
 have L1:=PySem.W.looks_findIn (M:=model prog w) k F.ga
 have L2:=PySem.W.looks_findIn (M:=model prog w) k F.gt
 have f3:=PySem.F.excAttr_ValueError.ga.bind (.ref x)
 unfold getAttr? getAttrBy? getAttrBy
 refine aI7 (wpAny_mkText (aI7 (wpAny_attempt (aQ6 (aI7 (L0.at (aI7 (L1.at ?_))))))))
 have nx:(onTheHeap (Value.ref D) && Value.builtin "BaseException.__getattribute__" == Value.builtin "object.__getattribute__")=false:=by
  rw [show (Value.builtin "BaseException.__getattribute__" == Value.builtin "object.__getattribute__")=false by decide +kernel,Bool.and_false]
 dsimp only
 rw [if_neg (by rw [nx]; decide)]
 unfold getAttrByItsOwn hookBefore
 repeat (any_goals (first | assumption | (with_reducible refine L2.at ?_) | wp_step))
 exact ap7 F k I (PySem.W.handed_on rfl (aJ1 hq))
end
theorem ap9 {K:PySem.W.Frag}{x D:Addr} (F:gC K D):PySem.W.KitX K (.ref x) (.ref D) (fun h=>iD h x D) where
 ty:=fun _ _ _ I=>I.type
 it:=fun M h k _=>by
  have z:=F.cls
  unfold PySem.W.clsIn at z
  split at z
  ·rename_i c' d' cd' sl' ho
   intro A' Q' E' s' kk q
   unfold isType loadHead
   exact aI7 (wpAny_loadPart (kk _ _ (k _ _ ho)) (aJ1 q))
  ·cases z
 ne:=fun h tp dd its n sl k htp=>by
  have z:=F.cls
  refine aR7.mpr fun q=>?_
  obtain rfl:D=tp:=Value.ref.inj (beq_iff_eq.mp q)
  unfold PySem.W.clsIn at z
  split at z
  ·rename_i ho
   have y:=(k _ _ ho).symm.trans htp
   cases y
  ·cases z
 ca:=fun {_ _ _ _ _ s} k I q=>by
  obtain ⟨h,g,d,t,os⟩:=s
  exact ap8 F k I q
end L2
namespace L2
open PySem PySem.Spec PyProof.Rows
section
variable {X : Cx} {pins : List (Addr × Obj)} {σ : St} {H H' : Hp} {s : Shared} {a : Addr}
theorem a5.reH (I:a5 X pins σ H s) (d:∀ b,b ≠ a->H' b=H b) (ha:∃ x,H a=some x) (tup:∀ xs,H a ≠ some (.tup xs)) (frz:∀ o v,X.H₀ a ≠ some (.frz o v)) (tbl:∀ ps,H a ≠ some (.tbl ps)) (hok:bD X.prog X.w H' s.heap):a5 X pins σ H' s:=by
 have none:∀ b,H b=none->H' b=none:=fun b e=>by
  rw [d b fun z=>?_]; exact e
  obtain ⟨x,hx⟩:=ha
  rw [z,hx] at e; cases e
 refine⟨I.ok,I.os,I.bare,⟨I.base.keep,I.base.slot,fun b o e n hx=>none b (I.base.free b o e n hx),I.base.there,fun b xs q=>?_,fun b o u q=>?_,fun b ps q=>?_⟩,I.loc,I.cell,none _ I.free,fun x c e=>none c (I.freeC x c e),fun p hp=>?_,hok,I.len⟩
 ·have e:=I.base.tups b xs q
  rw [d b fun z=>tup xs (by rw [<- z]; exact e)]; exact e
 ·rw [d b fun z=>frz o u (by rw [<- z]; exact q)]; exact I.base.frzs b o u q
 ·obtain ⟨more,e⟩:=I.base.tbls b ps q
  exact⟨more,by rw [d b fun z=>tbl _ (by rw [<- z]; exact e)]; exact e⟩
 ·obtain ⟨e,n,r⟩:=I.pin p hp
  exact⟨e,none _ n,r⟩
theorem a5.froze {o:Obj}{kvs:List (List aD × V)} (I:a5 X pins σ H s) (h:H a=some (.dT kvs)) (e:s.heap.get? a=some o):a5 X pins σ (upd H a (.frz o (.dT kvs))) s:=by
 have own:∀ {c:Addr}{y:Addr},H c=some (.own y)->c ≠ a:=fun {c y} q z=>by rw [z,h] at q; cases q
 have tp:∀ {c:Addr}{xs:List V},H c=some (.tup xs)->c ≠ a:=fun {c xs} q z=>by rw [z,h] at q; cases q
 refine I.reH (a:=a) (fun b n=>aJ n) ⟨_,h⟩ (fun xs q=>by rw [h] at q; cases q) (fun o' v q=>by have:=I.base.frzs a o' v q; rw [h] at this; cases this) (fun ps q=>by rw [h] at q; cases q) fun b u q=>?_
 by_cases hb:b=a
 ·subst hb
  rw [aV] at q; cases q
  exact⟨e,(I.hok b _ h).stay (fun _ _ _ q=>q) (fun c q=>by rw [aJ (own q)]; exact q) fun c xs q=>by rw [aJ (tp q)]; exact q⟩
 ·rw [aJ hb] at q
  exact (I.hok b u q).stay (fun _ _ _ q=>q) (fun c q=>by rw [aJ (own q)]; exact q) fun c xs q=>by rw [aJ (tp q)]; exact q
theorem a5.thaw {o:Obj}{u:HO} (I:a5 X pins σ H s) (h:H a=some (.frz o u)) (n:∀ o v,X.H₀ a ≠ some (.frz o v)):a5 X pins σ (upd H a u) s:=by
 have own:∀ {c:Addr}{y:Addr},H c=some (.own y)->c ≠ a:=fun {c y} q z=>by rw [z,h] at q; cases q
 have tp:∀ {c:Addr}{xs:List V},H c=some (.tup xs)->c ≠ a:=fun {c xs} q z=>by rw [z,h] at q; cases q
 refine I.reH (a:=a) (fun b n=>aJ n) ⟨_,h⟩ (fun xs q=>by rw [h] at q; cases q) n (fun ps q=>by rw [h] at q; cases q) fun b v q=>?_
 by_cases hb:b=a
 ·subst hb
  rw [aV] at q; cases q
  exact b8.stay (I.hok b _ h).2 (fun _ _ _ q=>q) (fun c q=>by rw [aJ (own q)]; exact q) fun c xs q=>by rw [aJ (tp q)]; exact q
 ·rw [aJ hb] at q
  exact (I.hok b v q).stay (fun _ _ _ q=>q) (fun c q=>by rw [aJ (own q)]; exact q) fun c xs q=>by rw [aJ (tp q)]; exact q
end
def zV (a:Addr) (o:Obj) (ys:List V):It:=
 ⟨fun i H=>(∃ u,H a=some (.frz o u))/\i < ys.length,fun i H v H'=>H'=H/\ys[i]? = some v,fun i H=>(∃ u,H a=some (.frz o u))/\i=ys.length⟩
theorem aq0 {P:Program}{w:World}{K:PySem.W.Frag}{tg:Expr}{o:Obj}{es:Array DictEntry}{ep:Nat}{ys:List V} (a it:Addr) (od:o.ExactDict/\o.data = .dict es ep) (vl:aG ys (es.toList.map (·.key))) :
  fR P w K tg (zV a o ys) [it] it (fun i h=>h.IsKeyIter it a i es.size ep):=by
 have hs:es.size=ys.length:=by
  have:=vl.length
  rw [aJ3,Array.length_toList] at this
  exact this.symm
 refine⟨by simp,fun i h st b hb=>?_,fun i h h' st k=>st.at fun o e=>k it (by simp) o e,?_,?_,fun _ _ _ _ _ st q=>wpAny_pyIter_keyiter st q⟩
 ·obtain rfl:b=it:=by simpa using hb
  obtain ⟨o,e,c,d⟩:=st
  exact⟨o,e,fun v z=>by rw [d] at z; cases z⟩
 ·intro X hP hw hK hc i pins s σ H E I hf st hg
  subst hP hw hK
  obtain ⟨⟨u,hu⟩,hi⟩:=hg
  obtain ⟨f0,f1,f2,f3,f4,f5⟩:=hf it (by simp)
  refine Raw.turn (I.ok.hd hc) st ⟨o,(I.hok a _ hu).1,od.1,od.2⟩ (fun lt h' again sb=>?_) (fun ge=>absurd ge (by omega))
  have I1:a5 X pins σ H { s with heap:=h' }:=I.turned (t':=s.toks) (fun b o hb e=>(sb.2 b hb).trans e) f0 f1 f3 f4 f5
  have hv:=aJ2 hi
  obtain ⟨key,hk,rv⟩:=vl.get hv
  obtain rfl:key=es[i].key:=by
   rw [aJ6] at hk
   simp [lt] at hk
   exact hk.symm
  obtain ⟨o',e,c,d⟩:=id again
  exact⟨es[i].key,rfl,kQ (s:={ s with heap:=h' }) e c d (by decide) ⟨_,H,I1,rv,⟨rfl,hv⟩,again,fun b hb=>(hf b hb).1⟩⟩
 ·intro X hP hw hK hc i pins s σ H E I hf st hg
  subst hP hw hK
  obtain ⟨⟨u,hu⟩,hi⟩:=hg
  obtain ⟨f0,f1,f2,f3,f4,f5⟩:=hf it (by simp)
  exact Raw.turn (I.ok.hd hc) st ⟨o,(I.hok a _ hu).1,od.1,od.2⟩ (fun lt=>absurd lt (by omega)) fun _ h' eb=>⟨rfl,I.turned (t':=s.toks) (fun b o hb e=>eb b o hb e) f0 f1 f3 f4 f5⟩
section
variable {X : Cx} {tg l : Expr} {tl : TE}
def zW (tl:TE):TI:=fun σ H R=>tl σ H fun x H1=>∃ a kvs,x = .ref a/\H1 a=some (.dT kvs)/\∀ o ys,Paired (lD H1) ys (kvs.map (·.1))->R (zV a o ys) (upd H1 a (.frz o (.dT kvs)))
theorem aq1 (hl:PE X l tl):PI X tg l (zW tl):=by
 intro pins s σ H R I h
 refine aH (hl pins s σ H _ I h) fun v s1 h1=>?_
 obtain ⟨x,H1,I1,r1,a,kvs,e,ha,q⟩:=h1
 subst e
 cases r1
 obtain ⟨es,ep,ys,⟨o,e1,e2,e3⟩,far,pk,vl,z⟩:=xQ I1 ha
 refine Raw.made far ⟨o,e1,e2,e3⟩ ?_
 have hf:H1 s1.heap.objs.size=none:=I1.hok.fresh (aJ0 _)
 refine⟨s1.heap.objs.size,[s1.heap.objs.size],_,_,upd H1 a (.frz o (.dT kvs)),rfl,(I1.froze ha e1).kept (t':=s1.toks) fun b o e=>aI8 _ e,aq0 a _ ⟨e2,e3⟩ vl,⟨_,aJ9 _ rfl,rfl,rfl⟩,fun b hb=>?_,q o ys pk⟩
 obtain rfl:b=s1.heap.objs.size:=by simpa using hb
 exact I1.fpOk (aJ0 _) (by rw [aJ (fun z=>by rw [z,ha] at hf; cases hf)]; exact hf)
def zX (X:Cx) (t:TE):TE:=fun σ H Q=>t σ H fun v H'=>∃ a o u,H' a=some (.frz o u)/\(∀ o' v',X.H₀ a ≠ some (.frz o' v'))/\Q v (upd H' a u)
theorem aq2 {e:Expr}{t:TE} (h:PE X e t):PE X e (zX X t):=by
 intro pins s σ H Q I hq
 refine aH (h pins s σ H _ I hq) fun v s1 h1=>?_
 obtain ⟨x,H1,I1,r1,a,o,u,e,n,q⟩:=h1
 exact⟨x,_,I1.thaw e n,r1,q⟩
end
end L2
namespace Raw
open PySem PySem.W PySem.Calls PyProof.Rows
theorem j5 {α β:Type} (f:α->β):∀ (j:Nat) (l:List α),(l.eraseIdx j).map f=(l.map f).eraseIdx j
 | _,[]=>rfl
 | 0,_ :: _=>rfl
 | j+1,x :: r=>by
  show f x :: (r.eraseIdx j).map f=f x :: (r.map f).eraseIdx j
  rw [j5 f j r]
section
variable {prog : Program} {w : World} {K : Type} [DecidableEq K] {knd : HeapKind prog w K} {A : Around} {E : Value → Shared → Prop} {s : Shared} {d a : Addr} {k : K} {xs : List (K × Addr × Value)}
def zY (knd:HeapKind prog w K) (h:Heap) (d:Addr) (xs:List (K × Addr × Value)) (j:Nat):Prop:=∃ o es ep,h.get? d=some o/\o.ExactDict/\o.data = .dict es ep/\es.toList=(xs.eraseIdx j).map (entryOfKey knd)
theorem aq3 {Q:Option DictEntry->Shared->Prop} (hu:knd.room A) (hkey:knd.is s.heap k a) (hm:s.heap.DictOfH knd d xs) (hz:xs.length<=sizeLine) (is:∃ (j:Nat) (p:Addr × Value),xs[j]? = some (k,p))
  (q:∀ (j:Nat) (p:Addr × Value) h',xs[j]? = some (k,p)->zY knd h' d xs j->Heap.SameBut d s.heap h'->Q (some (entryOfKey knd (k,p))) { s with heap:=h',toks:=s.toks+knd.draws k }):wpAny (model prog w) A (Builtin.Dict.takeOut d (.ref a)) Q E s:=by
 obtain ⟨o,es,ep,e1,e2,e3,e4,e5,e6⟩:=hm
 obtain ⟨j0,p0,h0⟩:=is
 unfold Builtin.Dict.takeOut
 try with_reducible refine aQ6 ?_
 apply aI7
 apply knd.pyHash hu hkey
 apply aI7
 refine wpAny_dictFind_heap (s:={ s with toks:=s.toks+knd.draws k }) hu hkey e1 e3 e4 e5 e6 (fun no=>absurd h0 (no j0 p0)) fun j p hj=>?_
 apply aI7
 apply wpAny_dictEntries (s:={ s with toks:=s.toks+knd.draws k }) e1 e3
 rw [entry_at e4 j,hj]
 have sz:=size_of_entries e4
 apply aI7
 refine wpAny_updateDictKeys (hz:=by omega) (s:={ s with toks:=s.toks+knd.draws k }) e1 e3 (aJ1 (q j p _ hj ⟨_,_,ep+1,Heap.get?_update_self _ e1 (Obj.isFreed_of_dict (Obj.data_mapDictKeys e3 _)),e2.mapDictKeys _,Obj.data_mapDictKeys e3 _,?_⟩ (Heap.SameBut.update ..)))
 rw [j5,<- e4]
 obtain ⟨l⟩:=es
 simp
end
section
variable {prog : Program} {w : World} {K : Type} [DecidableEq K] (knd : HeapKind prog w K) (d a : Addr)
theorem aq4:MeetsIn prog w (Builtin.«dict.pop» ⟨[.ref d,.ref a],[]⟩) (fun A R s=>knd.room A.in1/\∃ k xs,knd.is s.heap k a/\s.heap.DictOfH knd d xs/\xs.length<=sizeLine/\(∃ (j:Nat) (p:Addr × Value),xs[j]? = some (k,p))/\
  ∀ (j:Nat) (p:Addr × Value) h',xs[j]? = some (k,p)->zY knd h' d xs j->Heap.SameBut d s.heap h'->R (.ok (.ret p.2)) { s with heap:=h',toks:=s.toks+knd.draws k }):=
 .of_wp fun A R s h=>by
  obtain ⟨hu,k,xs,hk,hm,hz,is,q⟩:=h
  obtain ⟨o,es,ep,e1,e2,e3,e4,e5,e6⟩:=id hm
  have ne:es.isEmpty=false:=by
   obtain ⟨j,p,hj⟩:=is
   have sz:=size_of_entries e4
   have:=(aJ8.mp hj).1
   rw [Array.isEmpty_eq_false_iff,ne_eq,<- Array.size_eq_zero_iff]
   omega
  unfold Builtin.«dict.pop»
  apply aI7
  unfold Builtin.Dict.keyAndDefault
  apply aI7
  apply wpAny_notOrdered_dict hm.typeIs
  change wpAny _ _ (pure (d,Value.ref a,none)) _ _ s
  apply aJ1
  have kp:(keyPart (Value.ref a)).isSome=false:=rfl
  simp only [kp,aK3,aN5]
  refine aI7 (wpAny_dictEntries e1 e3 (aI7 (aJ1 ?_)))
  simp only [ne,aK3,aN5]
  apply aI7
  refine aq3 hu hk hm hz is fun j p h' hj c sb=>?_
  simp only [Option.isNone_some,aK3,aN5]
  exact aI7 (wpAny_letGo (aJ1 ⟨p.2,rfl,q j p h' hj c sb⟩))
end
end Raw
namespace L2
open PySem PySem.Spec PyProof.Rows
theorem Paired.erase {α β:Type}{F:α->β->Prop}:∀ (j:Nat) {l:List α}{m:List β},Paired F l m->Paired F (l.eraseIdx j) (m.eraseIdx j)
 | _,_,_,.nil=>.nil
 | 0,_,_,.cons _ t=>t
 | j+1,_,_,.cons r t=>.cons r (Paired.erase j t)
theorem zZ {α β:Type}{F:α->β->Prop}:∀ {l:List α}{m:List β}{i:Nat}{y:β},Paired F l m->m[i]? = some y->∃ x,l[i]? = some x/\F x y
 | _,_,_,_,.nil,e=>by simp at e
 | _,_,0,_,.cons r _,e=>by simp at e; subst e; exact⟨_,rfl,r⟩
 | _,_,i+1,y,.cons _ t,e=>by
  rw [aM0] at e
  obtain ⟨x,h1,h2⟩:=zZ t e
  exact⟨x,by rw [aM0]; exact h1,h2⟩
theorem A0 {α β:Type}{F:α->β->Prop}:∀ {l:List α}{m:List β}{i:Nat}{x:α},Paired F l m->l[i]? = some x->∃ y,m[i]? = some y/\F x y
 | _,_,_,_,.nil,e=>by simp at e
 | _,_,0,_,.cons r _,e=>by simp at e; subst e; exact⟨_,rfl,r⟩
 | _,_,i+1,x,.cons _ t,e=>by
  rw [aM0] at e
  obtain ⟨y,h1,h2⟩:=A0 t e
  exact⟨y,by rw [aM0]; exact h1,h2⟩
section
variable {X : Cx} {pins : List (Addr × Obj)} {σ : St} {H : Hp} {s : Shared} {a b : Addr} {kvs : List (List aD × V)} {k : List aD} {A : Around} {E : Value → Shared → Prop}
theorem aq5 {Q:Value->Shared->Prop} (hu:A.units+1 < cLine) (I:a5 X pins σ H s) (e:H a=some (.dT kvs)) (eb:H b=some (.tup (k.map kV))) (is:∃ j:Nat,(kvs.map (·.1))[j]? = some k)
  (h:∀ (j:Nat) v w' s',(kvs.map (·.1))[j]? = some k->a5 X pins σ (upd H a (.dT (kvs.eraseIdx j))) s'->aO v w'->Q w' s'):wpAny (model X.prog X.w) A (call (.builtin "dict.pop") [.ref a,.ref b]) Q E s:=by
 obtain ⟨z,hd,xs,rel,dd⟩:=wW I.hok e
 have hz:xs.length<=sizeLine:=by rw [<- Paired.length rel]; exact z
 refine call_meetsIn PySem.F.slot_dict_pop dd.typeIs PySem.F.entry_dict_pop (PySem.F.args_dict_pop_2 _ _) (Raw.aq4 (tupleKind (dM X.prog X.w)) a b) ⟨tupleKind_room_in1 hu,k,xs,jK I.hok eb,dd,hz,?_,fun j p h' hj c sb=>?_⟩
 ·obtain ⟨j,hj⟩:=is
  rw [aJ6] at hj
  cases ej:kvs[j]? with
  | none=>rw [ej] at hj; cases hj
  | some kv=>
   rw [ej] at hj
   cases hj
   obtain ⟨y,hy,r⟩:=A0 rel ej
   exact⟨j,y.2,by rw [hy]; exact congrArg some (Prod.ext r.1.symm rfl)⟩
 ·obtain ⟨kv,hkv,r⟩:=zZ rel hj
  obtain ⟨o,es,ep,h1,h2,h3,h4⟩:=c
  have nd:((xs.eraseIdx j).map (·.1)).Nodup:=by
   obtain ⟨_,_,_,_,_,_,_,_,nd⟩:=dd
   exact nd.sublist ((List.eraseIdx_sublist xs j).map _)
  refine h j kv.2 p.2 _ (by rw [aJ6,hkv]; exact congrArg some r.1) ?_ r.2.2
  refine qZ I (by rw [e]; exact aV2) sb ⟨o,h1⟩ ⟨aM8 (List.length_eraseIdx_le kvs j) z,hd,_,KT.keeps (Paired.erase j rel) fun c ys ec=>?_,o,es,ep,h1,h2,h3,h4,nd⟩
  rw [aJ (uP ec e (fun z=>nomatch z))]
  exact ec
end
section
variable {X : Cx} {o e : Expr} {apos cpos : Pos} {td ty : TE}
def A1 (td ty:TE):TE:=fun σ H Q=>td σ H fun x H1=>∃ a,x = .ref a/\x5 H1 a/\ty σ H1 fun y H2=>∃ kvs k b,H2 a=some (.dT kvs)/\y = .ref b/\H2 b=some (.tup (k.map kV))/\(∃ j:Nat,(kvs.map (·.1))[j]? = some k)/\∀ (j:Nat) v,(kvs.map (·.1))[j]? = some k->Q v (upd H2 a (.dT (kvs.eraseIdx j)))
theorem aq6 (hu:X.A.units+1 < cLine) (ho:PE X o td) (he:PE X e ty) (m:M1 X o "pop" apos e cpos):PE X (.Call (.Attribute o "pop" apos) [e] [] cpos) (A1 td ty):=by
 intro pins s σ H Q I h
 refine wpAny_Call_method m.base m.few m.line PySem.F.plainAttrs_dict PySem.F.slot_dict_pop PySem.F.type_dict_pop (aH (ho pins s σ H _ I h) fun u s1 h1=>?_)
 obtain ⟨x,H1,I1,rx,a,ex,d,q1⟩:=h1
 subst ex
 obtain rfl:u=Value.ref a:=rx
 obtain ⟨t1,t2,_⟩:=ab5 I1 d
 refine⟨t1,t2,?_⟩
 rw [m.trees]
 refine Calls.callWith_builtin rfl (Calls.evalArgs_plain (Calls.spliced_cons (aH (he pins s1 σ H1 _ I1 q1) fun iv s2 h2=>Calls.spliced_nil ?_)))
 obtain ⟨y,H2,I2,ry,kvs,k,b,ea,ey,eb,is,q2⟩:=h2
 subst ey
 obtain rfl:iv=Value.ref b:=ry
 exact aq5 hu I2 ea eb is fun j v w' s3 hj I3 rw'=>⟨v,_,I3,rw',q2 j v hj⟩
end
end L2
namespace Core
open PySem L2 PP
def fO (ns:List Int):Bool:=((ns.zip (ns.drop 1)).map fun p=>decide (p.1 < p.2)).all id
theorem oM {α β:Type}{l:List α}{f:α->β}{i:Nat}{x:α} (h:l[i]? = some x):(l.take (i+1)).map f=(l.take i).map f ++ [f x]:=by
 rw [aO2,h]; simp
theorem oN:∀ {ns:List Int},fO ns=true->ns.Pairwise (· < ·)
 | [],_=>.nil
 | [x],_=>aL8 _ _
 | x :: y :: r,h=>by
  have e:fO (x :: y :: r)=(decide (x < y) && fO (y :: r)):=rfl
  rw [e,aM2] at h
  have ih:=oN h.2
  refine List.pairwise_cons.mpr ⟨fun z hz=>?_,ih⟩
  rcases aK0.mp hz with rfl | hz
  ·exact aS8 h.1
  ·exact Int.lt_trans (aS8 h.1) (List.rel_of_pairwise_cons ih hz)
theorem A2:∀ {ns:List Int},ns.Pairwise (· < ·)->fO ns=true
 | [],_=>rfl
 | [x],_=>rfl
 | x :: y :: r,h=>by
  have e:fO (x :: y :: r)=(decide (x < y) && fO (y :: r)):=rfl
  have h':=List.pairwise_cons.mp h
  rw [e,A2 h'.2,Bool.and_true]
  exact aL7 (h'.1 y aK1)
def kin (ws:List Int) (ls:List (Int × Int)) (S:List Int) (h:Int):Bool:=!decide (h ∈ S) && decide (ws.getD h.toNat 0<=(((bW ls h).filter fun x=>decide (x ∈ S)).length:Int))
def nextOf (ws:List Int) (ls:List (Int × Int)) (S:List Int):List Int:=((List.range ws.length).map fun (i:Nat)=>(i:Int)).filter (kin ws ls S)
def lW (ws:List Int) (ls:List (Int × Int)) (S:List Int):Nat->List Int
 | 0=>S
 | k+1=>lW ws ls S k ++ nextOf ws ls (lW ws ls S k)
def A3 (ws:List Int) (S:List Int):Nat:=(((List.range ws.length).map fun (i:Nat)=>(i:Int)).filter fun x=>!decide (x ∈ S)).length
theorem A4 {α:Type} (p q:α->Bool) (h:∀ x,q x=true->p x=false):∀ L:List α,(L.filter fun x=>!p x && !q x).length+(L.filter q).length=(L.filter fun x=>!p x).length
 | []=>rfl
 | x :: r=>by
  have ih:=A4 p q h r
  cases e1:p x with
  | true=>
   have e2:q x=false:=by
    cases e:q x with
    | false=>rfl
    | true=>have:=h x e; rw [e1] at this; cases this
   simp only [List.filter_cons,e1,e2,Bool.not_true,Bool.false_and,aK3,aN5]
   exact ih
  | false=>
   cases e2:q x with
   | true=>
    simp only [List.filter_cons,e1,e2,Bool.not_true,Bool.not_false,Bool.and_false,aK3,aN5,if_true,aO0]
    omega
   | false=>
    simp only [List.filter_cons,e1,e2,Bool.not_false,Bool.and_true,aK3,aN5,if_true,aO0]
    omega
theorem A5 {ws:List Int}{ls:List (Int × Int)}{S:List Int}{x:Int} (h:kin ws ls S x=true):decide (x ∈ S)=false:=by
 unfold kin at h
 cases e:decide (x ∈ S) with
 | false=>rfl
 | true=>rw [e] at h; cases h
def after (ws:List Int) (ls:List (Int × Int)) (S:List Int) (m:Nat):List (List Int):=(List.range m).map fun k=>nextOf ws ls (lW ws ls S k)
theorem aq7 {ws ns:List Int} (hu:ns.Pairwise (· < ·)) (hin:∀ x ∈ ns,0<=x/\x < (ws.length:Int)):ns.length+A3 ws ns<=ws.length:=by
 have nd:ns.Nodup:=hu.imp fun h=>Int.ne_of_lt h
 have sub:ns ⊆ ((List.range ws.length).map fun (i:Nat)=>(i:Int)).filter fun x=>decide (x ∈ ns):=fun x hx=>by
  refine aP0.mpr ⟨aO9.mpr ⟨x.toNat,aT6.mpr ?_,?_⟩,aL7 hx⟩
  ·have:=hin x hx; omega
  ·have:=hin x hx; omega
 have h1:=nd.length_le_of_subset sub
 have h2:=A4 (fun _=>false) (fun x=>decide (x ∈ ns)) (fun _ _=>rfl) ((List.range ws.length).map fun (i:Nat)=>(i:Int))
 have h3:(((List.range ws.length).map fun (i:Nat)=>(i:Int)).filter fun x=>!false && !decide (x ∈ ns)).length=A3 ws ns:=rfl
 have h4:(((List.range ws.length).map fun (i:Nat)=>(i:Int)).filter fun x=>!false).length<=ws.length:=by
  refine aM8 (List.length_filter_le _ _) ?_
  rw [aJ3,List.length_range]; exact aJ0 _
 rw [h3] at h2
 omega
def cA (ws:List Int) (ls:List (Int × Int)) (ns:List Int) (m:Nat):Prop:=(∀ k < m,nextOf ws ls (lW ws ls ns k) ≠ [])/\nextOf ws ls (lW ws ls ns m) = []
theorem fB {ns:List Int}{i:Nat}{x:PV} (h:(intz ns)[i]? = some x):∃ n,x = .int n/\ns[i]? = some n:=by
 rw [aJ6] at h
 cases e:ns[i]? with
 | none=>rw [e] at h; cases h
 | some n=>rw [e] at h; exact⟨n,(aL5 h).symm,rfl⟩
theorem iE {lo:Int}{n i:Nat}{x:PV} (h:(e8 lo n)[i]? = some x):x = .int (lo+i)/\i < n:=by
 have hi:i < n:=by
  have:=(aJ8.mp h).1
  rwa [dQ] at this
 rw [yN hi] at h
 exact⟨(aL5 h).symm,hi⟩
def rng (n:Nat):List Int:=(List.range n).map fun (i:Nat)=>(i:Int)
theorem hJ (n:Nat):(rng n).length=n:=by unfold rng; rw [aJ3,List.length_range]
theorem tM {n:Nat}{x:Int}:x ∈ rng n ↔ 0<=x/\x < (n:Int):=by
 unfold rng
 rw [aO9]
 constructor
 ·rintro ⟨i,hi,rfl⟩
  have:=aT6.mp hi
  omega
 ·intro h
  exact⟨x.toNat,aT6.mpr (by omega),by omega⟩
theorem oO {α:Type}{l:List α}{p:α->Bool}{i:Nat}{x:α} (h:l[i]? = some x):(l.take (i+1)).filter p=(l.take i).filter p ++ (if p x=true then [x] else []):=by
 rw [aO2,h,List.filter_append]
 congr 1
 cases e:p x <;> simp [e]
theorem dF (a b:List Int):intz (a ++ b)=intz a ++ intz b:=aO5
theorem b6 (a:List Int):(intz a).length=a.length:=aJ3 _
def bP (ws:List Int) (ls:List (Int × Int)):PV:=.tup [.tup (intz ws),.tup (ls.map fun l=>.tup [.int l.1,.int l.2])]
structure Wb (ws:List Int) (ls:List (Int × Int)):Prop where
 few:ws.length<=40
 most:ls.length<=1700
 links:∀ l ∈ ls,(0<=l.1/\l.1 < ws.length)/\0<=l.2/\l.2 < ws.length
def cM (x:PV) (ns:List Int):Prop:=x = .tup (intz ns) ∨ x = .lst (intz ns)
theorem cM.seq {x:PV}{ns:List Int} (h:cM x ns):fV x=some (intz ns):=by rcases h with rfl | rfl <;> rfl
theorem cM.seqT {x:PV}{ns:List Int} (h:cM x ns):seqT x=some (intz ns):=by rcases h with rfl | rfl <;> rfl
theorem oP:∀ (ls:List (Int × Int)),flats (ls.map fun l=>PV.tup [.int l.1,.int l.2])=true
 | []=>rfl
 | l :: r=>by
  show (flat (.tup [.int l.1,.int l.2]) && flats (r.map fun l=>PV.tup [.int l.1,.int l.2]))=true
  rw [oP r]; rfl
theorem aq8 (ws:List Int) (ls:List (Int × Int)):flat (bP ws ls)=true:=by
 show flats [.tup (intz ws),.tup (ls.map fun l=>PV.tup [.int l.1,.int l.2])]=true
 show (flat (.tup (intz ws)) && (flat (.tup (ls.map fun l=>PV.tup [.int l.1,.int l.2])) && true))=true
 show (flats (intz ws) && (flats (ls.map fun l=>PV.tup [.int l.1,.int l.2]) && true))=true
 rw [cD,oP]; rfl
theorem aq9 (ns:List Int):flat (.tup (intz ns))=true:=cD ns
def iF:aX:=fun xs Q=>∃ ws ls,xs = [bP ws ls]/\Q (.int ws.length)
def A6:aL:=(bB (aF fJ (a7 (fK (a6 0) (qC (.int 0))) aA)))
abbrev cH (t:aL) (N:List Str) (p:aX):Prop:=∀ xs Q,p xs Q->t { nx:=fun _=>Q .non,rt:=Q } (dL N xs)
theorem ar0:cH A6 ["web"] iF:=by
 rintro xs Q ⟨ws,ls,rfl,q⟩
 refine⟨_,rfl,_,_,_,rfl,rfl,rfl,_,_,rfl,rfl,trivial,?_⟩
 rw [b6]; exact q
def tN:aX:=fun xs Q=>∃ x ns,xs = [x]/\cM x ns/\ns.length<=1000/\Q (.bl (fO ns))
def inB (n:Nat) (x:Int):Bool:=decide (0<=x) && decide (x < (n:Int))
def oQ:aX:=fun xs Q=>∃ ws ls n,xs = [bP ws ls,.int n]/\Q (.bl (inB ws.length n))
def A7:aL:=(bB (jP (t4 (a6 1) (qC (.int 0))) (sY (a6 1) (aF iF (a7 (a6 0) aA)))))
theorem ar1:cH A7 ["web","number"] oQ:=by
 rintro xs Q ⟨ws,ls,n,rfl,q⟩
 refine⟨_,rfl,_,_,rfl,rfl,_,rfl,?_⟩
 unfold inB at q
 by_cases h:(0:Int)<=n
 ·rw [aL7 h] at q ⊢
  refine b4 ⟨_,rfl,_,rfl,ws,ls,rfl,_,_,rfl,rfl,trivial,?_⟩
  simpa using q
 ·rw [aK5 h] at q ⊢
  exact aW ⟨trivial,by simpa using q⟩
def bQ (n:Nat) (ns:List Int):Bool:=fO ns && (ns.map (inB n)).all id
def oR:aX:=fun xs Q=>∃ ws ls x ns,xs = [bP ws ls,x]/\cM x ns/\ns.length<=1000/\Q (.bl (bQ ws.length ns))
def A8:aL:=(bB (jP (aF tN (a7 (a6 1) aA)) (aF sI (a7 (c7 (dE (a6 1)) [none,some 0] (bF 0) cO (aF oQ (a7 (a6 1) (a7 (a6 0) aA)))) aA))))
theorem lX {x:PV}{ns:List Int} (h:cM x ns):(Slot.sh (flat x) x).tag = .rd->flat x=true:=by
 cases flat x <;> intro z <;> cases z
theorem ar2:cH A8 ["web","numbers"] oR:=by
 rintro xs Q ⟨ws,ls,x,ns,rfl,hx,hl,q⟩
 refine⟨_,rfl,x,ns,rfl,hx,hl,_,rfl,?_⟩
 unfold bQ at q
 cases h:fO ns with
 | false=>rw [h] at q; exact aW ⟨trivial,q⟩
 | true=>
  rw [h] at q
  refine b4 ⟨_,rfl,_,hx.seq,lX hx,by rw [b6]; omega,fun i acc=>acc=(((ns.take i).map (inB ws.length)).map PV.bl),rfl,?_,?_⟩
  ·rintro i y acc hy rfl
   obtain ⟨n,rfl,hn⟩:=fB hy
   have tk:((ns.take (i+1)).map (inB ws.length)).map PV.bl=((ns.take i).map (inB ws.length)).map PV.bl ++ [PV.bl (inB ws.length n)]:=by rw [oM hn,aO5]; rfl
   exact⟨_,rfl,_,rfl,ws,ls,n,rfl,trivial,tk.symm⟩
  ·rintro acc rfl
   rw [b6,aM5]
   exact⟨_,rfl,trivial,by simpa using q⟩
theorem cM.noscr {x:PV}{ns:List Int} (h:cM x ns):∀ ms,([x]:List PV) ≠ [.scr ms]:=by
 rcases h with rfl | rfl <;> intro ms z <;> cases z
structure DS (ps:List (aD × PV)) (S:List Int):Prop where
 has:∀ i:Int,(bS ps (Sum.inl i:aD)).isSome=decide (i ∈ S)
 len:ps.length<=S.length
 fl:flats (ps.map (·.2))=true
theorem DS.nil:DS [] []:=⟨fun i=>rfl,aJ0 _,rfl⟩
section
variable {κ : Type} [DecidableEq κ]
theorem hU {p:κ × PV}{r:List (κ × PV)}{k:κ} (e:p.1=k):bS (p :: r) k=some p.2:=by simp [bS,aQ9,e]
theorem hV {p:κ × PV}{r:List (κ × PV)}{k:κ} (e : ¬ p.1=k):bS (p :: r) k=bS r k:=by simp [bS,aQ9,e]
theorem oS (k:κ):∀ kvs:List (κ × PV),(kvs.any fun kv=>decide (kv.1=k))=(bS kvs k).isSome
 | []=>rfl
 | p :: r=>by
  rw [List.any_cons]
  by_cases e:p.1=k
  ·simp only [hU e,aL7 e,Bool.true_or,Option.isSome_some]
  ·rw [hV e,aK5 e,Bool.false_or]; exact oS k r
theorem A9 (k j:κ) (y:PV):∀ kvs:List (κ × PV),bS (kvs.map fun kv=>if kv.1=k then (kv.1,y) else kv) j=(bS kvs j).map fun x=>if j=k then y else x
 | []=>rfl
 | p :: r=>by
  have ih:=A9 k j y r
  rw [aM9]
  by_cases h:p.1=k
  ·rw [if_pos h]
   by_cases e:p.1=j
   ·rw [hU (p:=(p.1,y)) e,hU e,Option.map_some,if_pos (e.symm.trans h)]
   ·rw [hV (p:=(p.1,y)) e,hV e,ih]
  ·rw [if_neg h]
   by_cases e:p.1=j
   ·rw [hU (p:=p) e,hU e,Option.map_some,if_neg (fun z=>h (e.trans z))]
   ·rw [hV (p:=p) e,hV e,ih]
theorem B0 (k j:κ) (y:PV):∀ kvs:List (κ × PV),bS kvs k=none->bS (kvs ++ [(k,y)]) j=if j=k then some y else bS kvs j
 | [],_=>by
  by_cases e:k=j
  ·rw [if_pos e.symm]; exact hU (p:=(k,y)) e
  ·rw [if_neg (fun z=>e z.symm)]; exact hV (p:=(k,y)) e
 | p :: r,hn=>by
  rw [List.cons_append]
  have hk : ¬ p.1=k:=fun z=>by rw [hU z] at hn; cases hn
  rw [hV hk] at hn
  have ih:=B0 k j y r hn
  by_cases e:p.1=j
  ·rw [hU e,hU e,if_neg (fun z=>hk (e.trans z))]
  ·rw [hV e,hV e,ih]
theorem B1 (kvs:List (κ × PV)) (k j:κ) (y:PV):bS (cL kvs k y) j=if j=k then some y else bS kvs j:=by
 unfold cL
 by_cases a:(kvs.any fun kv=>decide (kv.1=k))=true
 ·rw [if_pos a,A9]
  rw [oS] at a
  by_cases e:j=k
  ·obtain ⟨x,hx⟩:=Option.isSome_iff_exists.mp a
   rw [if_pos e,e,hx,Option.map_some,if_pos rfl]
  ·rw [if_neg e]
   cases bS kvs j with
   | none=>rfl
   | some x=>rw [Option.map_some,if_neg e]
 ·rw [if_neg a]
  refine B0 k j y kvs ?_
  rw [oS] at a
  cases q:bS kvs k with
  | none=>rfl
  | some x=>rw [q] at a; exact (a rfl).elim
theorem tO (kvs:List (κ × PV)) (k:κ) (v:PV):(cL kvs k v).length<=kvs.length+1:=by
 unfold cL
 split
 ·rw [aJ3]; omega
 ·rw [aJ4,aO0,List.length_nil]; omega
end
theorem B2:∀ (xs:List PV),flats xs=true ↔ ∀ x ∈ xs,flat x=true
 | []=>by simp [flats]
 | x :: r=>by
  unfold flats
  rw [aM2,B2 r]; simp
theorem ar3 {κ:Type} [DecidableEq κ] {ps:List (κ × PV)}{k:κ}{v:PV}{p:κ × PV} (h:p ∈ cL ps k v):p.2=v ∨ p ∈ ps:=by
 unfold cL at h
 split at h
 ·obtain ⟨q,hq,e⟩:=aO9.mp h
  split at e
  ·subst e; exact .inl rfl
  ·subst e; exact .inr hq
 ·rcases aL9.mp h with h | h
  ·exact .inr h
  ·rw [aJ5.mp h]; exact .inl rfl
theorem B3 {κ:Type} [DecidableEq κ] {ps:List (κ × PV)}{k:κ}{v:PV} (h:flats (ps.map (·.2))=true) (hv:flat v=true):flats ((cL ps k v).map (·.2))=true:=by
 rw [B2] at h ⊢
 intro x hx
 obtain ⟨p,hp,rfl⟩:=aO9.mp hx
 rcases ar3 hp with e | e
 ·rw [e]; exact hv
 ·exact h _ (aO9.mpr ⟨p,e,rfl⟩)
theorem DS.put {ps:List (aD × PV)}{S:List Int} (h:DS ps S) (x:Int) (v:PV) (hv:flat v=true):DS (cL ps (Sum.inl x:aD) v) (S ++ [x]):=by
 refine⟨fun i=>?_,?_,B3 h.fl hv⟩
 ·rw [B1]
  by_cases e:i=x
  ·subst e; rw [if_pos rfl]; simp
  ·rw [if_neg (fun z=>e (Sum.inl.inj z)),h.has]
   simp [e]
 ·have:=tO ps (Sum.inl x:aD) v
  have:=h.len
  rw [aJ4,aN6]; omega
def k7:aX:=fun xs Q=>∃ x ns,xs = [x]/\cM x ns/\ns.length<=1000/\∀ ps,DS ps ns->Q (.dK ps)
def B4:aL:=(aS (fI 1 (qC (.dK [])))
 (aS (eZ (dE (a6 0)) (bF 2)
  (o9 1 (a6 2) (qC (.bl true))))
 (iQ 1)))
theorem ar4:cH B4 ["hearths","inside","hearth"] k7:=by
 rintro xs Q ⟨x,ns,rfl,hx,hl,q⟩
 refine⟨rfl,rfl,_,rfl,_,hx.seq,lX hx,fun i ρ=>∃ y ps,ρ = [some (.sh (flat x) x),some (.own (.dK ps)),y]/\DS ps (ns.take i),⟨none,[],rfl,DS.nil⟩,?_,?_⟩
 ·rintro i y ρ hy ⟨y0,ps,rfl,d⟩
  obtain ⟨n,rfl,hn⟩:=fB hy
  have hlen:=d.len
  rw [aT5] at hlen
  refine⟨_,rfl,_,rfl,Sum.inl n,rfl,trivial,by omega,_,_,rfl,?_⟩
  rw [aO2,hn]
  exact d.put n _ rfl
 ·rintro ρ ⟨y,ps,rfl,d⟩
  rw [b6,aM5] at d
  exact⟨_,rfl,trivial,q ps d⟩
def oT:aX:=fun xs Q=>∃ x ns ps S,xs = [x,.dK ps]/\cM x ns/\DS ps S/\ns.length<=10000/\Q (.int ((ns.filter fun x=>decide (x ∈ S)).length:Nat))
def B5:aL:=(bB (aF fJ (a7 (c7 (dE (a6 0)) [none,some 1] (bF 0) (aZ (iU false (a6 0) (a6 1))) (a6 0)) aA)))
theorem ar5:cH B5 ["hearths","inside"] oT:=by
 rintro xs Q ⟨x,ns,ps,S,rfl,hx,d,hl,q⟩
 refine⟨_,rfl,_,hx.seq,lX hx,by rw [b6]; omega,fun i acc=>acc=intz ((ns.take i).filter fun x=>decide (x ∈ S)),rfl,?_,?_⟩
 ·rintro i y acc hy rfl
  obtain ⟨n,rfl,hn⟩:=fB hy
  have tk:=oO (p:=fun x=>decide (x ∈ S)) hn
  refine⟨_,rfl,_,rfl,_,.inl ⟨ps,Sum.inl n,rfl,rfl,rfl⟩,_,rfl,?_⟩
  show if (bS ps (Sum.inl n:aD)).isSome=true then _ else _
  rw [d.has n]
  by_cases h:n ∈ S
  ·rw [aL7 h] at tk ⊢
   refine b4 ⟨_,rfl,trivial,?_⟩
   rw [if_pos rfl] at tk
   show _=intz (List.filter _ (List.take (i+1) ns))
   rw [tk,dF]; rfl
  ·rw [aK5 h] at tk ⊢
   refine aW ?_
   rw [if_neg (by decide),aN3] at tk
   show _=intz (List.filter _ (List.take (i+1) ns))
   rw [tk]
 ·rintro acc rfl
  rw [b6,aM5]
  refine⟨_,_,rfl,rfl,trivial,?_⟩
  rw [b6]; exact q
def gD (n:Nat) (ls:List (Int × Int)):List PV:=(List.range n).map fun (k:Nat)=>PV.lst (intz (bW ls k))
def lY:aX:=fun xs Q=>∃ ws ls,xs = [bP ws ls]/\Wb ws ls/\Q (.lst (gD ws.length ls))
theorem ar6 {n:Nat}{ls:List (Int × Int)}{h:Int} (h0:0<=h) (h1:h < (n:Int)):atI (gD n ls) h=some (.lst (intz (bW ls h))):=by
 refine nL h0 ?_
 unfold gD
 rw [aJ6,List.getElem?_range (by omega)]
 show some (PV.lst (intz (bW ls ((h.toNat:Nat):Int))))=_
 rw [show ((h.toNat:Nat):Int)=h by omega]
def k8:aX:=fun xs Q=>∃ ws ls ps S h,xs = [bP ws ls,.lst (gD ws.length ls),.dK ps,.int h]/\Wb ws ls/\DS ps S/\0<=h/\h < (ws.length:Int)/\Q (.bl (kin ws ls S h))
def B6:aL:=(bB (jP (iU true (a6 3) (a6 2)) (t4 (aF oT (a7 (fK (a6 1) (a6 3)) (a7 (a6 2) aA))) (fK (fK (a6 0) (qC (.int 0))) (a6 3)))))
theorem B7 {ws:List Int}{h:Int} (h0:0<=h) (h1:h < (ws.length:Int)):atI (intz ws) h=some (.int (ws.getD h.toNat 0)):=by
 refine nL h0 ?_
 have:h.toNat < ws.length:=by omega
 rw [aJ6,aL2,aJ2 this]; rfl
theorem ar7:cH B6 ["web","around","burning","hearth"] k8:=by
 rintro xs Q ⟨ws,ls,ps,S,h,rfl,wb,d,h0,h1,q⟩
 refine⟨_,rfl,_,rfl,_,.inl ⟨ps,Sum.inl h,rfl,rfl,rfl⟩,_,rfl,?_⟩
 show if (!(bS ps (Sum.inl h:aD)).isSome)=true then _ else _
 rw [d.has h]
 unfold kin at q
 by_cases hm:h ∈ S
 ·rw [aL7 hm] at q ⊢
  exact aW ⟨trivial,by simpa using q⟩
 ·rw [aK5 hm] at q ⊢
  have nl:=nK ls h
  have:=wb.most
  refine b4 ⟨_,rfl,_,rfl,_,_,_,rfl,rfl,ar6 h0 h1,_,rfl,_,bW ls h,ps,S,rfl,.inr rfl,d,by omega,_,rfl,_,_,_,rfl,rfl,rfl,_,rfl,_,_,_,rfl,rfl,B7 h0 h1,_,_,rfl,rfl,trivial,?_⟩
  simpa using q
def tups (rs:List (List Int)):List PV:=rs.map fun r=>PV.tup (intz r)
theorem B8 {rs:List (List Int)}{i:Nat}{x:PV} (h:(tups rs)[i]? = some x):∃ r,x = .tup (intz r)/\rs[i]? = some r:=by
 unfold tups at h
 rw [aJ6] at h
 cases e:rs[i]? with
 | none=>rw [e] at h; cases h
 | some n=>rw [e] at h; exact⟨n,(aL5 h).symm,rfl⟩
theorem k9 (rs:List (List Int)):(tups rs).length=rs.length:=aJ3 _
theorem tP:∀ (rs:List (List Int)),flats (tups rs)=true
 | []=>rfl
 | r :: t=>by
  show (flat (.tup (intz r)) && flats (tups t))=true
  rw [aq9,tP t]; rfl
theorem oU {n:Nat}{ns:List Int} (h:bQ n ns=true):fO ns=true/\∀ x ∈ ns,0<=x/\x < (n:Int):=by
 unfold bQ at h
 rw [aM2,aR1] at h
 refine⟨h.1,fun x hx=>?_⟩
 have:=h.2 _ (aO9.mpr ⟨x,hx,rfl⟩)
 unfold inB at this
 simpa using this
theorem B9 {n:Nat}{ns:List Int} (h:bQ n ns=true):ns.length<=n:=by
 obtain ⟨h1,h2⟩:=oU h
 have:=aq7 (ws:=List.replicate n (0:Int)) (oN h1) (by rw [List.length_replicate]; exact h2)
 rw [List.length_replicate] at this
 omega
end Core
namespace PP
open PySem L2
def tQ (te:aB):aB:=fun ρ Q=>te ρ fun x _=>∃ n:Int,x = .int n/\0<=n/\n<=1000000/\Q (.lst (e8 0 n.toNat)) .fr
def tR:PV->Tg->PV->Tg->PK->Prop:=fun x _ y _ Q=>∃ xs n,x = .tup xs/\y = .int n/\flats xs=true/\xs ≠ []/\2<=n/\n<=1000000/\xs.length<=10/\Q (.tup (List.replicate n.toNat xs).flatten) .fr
abbrev C0 (ta tb:aB):aB:=q2 tR ta tb
def oV:List PV->(PV->Prop)->Prop:=fun xs Q=>∃ ys:List (List Int),xs = [.lst (ys.map fun r=>PV.tup (intz r))]/\ys.length < 64/\(∀ y ∈ ys,y ≠ [])/\∀ zs:List (List Int),zs.Perm ys->zs.Pairwise (fun u v=>HT.dX v u=false)->Q (.lst (zs.map fun r=>PV.tup (intz r)))
def oW:List PV->(PV->Prop)->Prop:=fun xs Q=>∃ ps:List (List aD × PV),xs = [.dT ps]/\Q (.lst (ps.map fun p=>PV.tup (p.1.map kP)))
end PP
namespace Core
open PySem L2 PP
theorem ar8 (g:Tg) (n:Int):Nw g (.int n):=by cases g <;> first | exact trivial | rfl
def fC (x:PV) (ns:List Int):Prop:=x = .scr ns ∨ x = .lst (intz ns)
theorem fC.seq {x:PV}{ns:List Int} (h:fC x ns):fV x=some (intz ns):=by rcases h with rfl | rfl <;> rfl
theorem fC.len {x:PV}{ns:List Int} (h:fC x ns):yH x=some ns.length:=by
 rcases h with rfl | rfl
 ·rfl
 ·show some (intz ns).length=_
  rw [b6]
def j6:aX:=fun xs Q=>∃ x ns k,xs = [x,.int k]/\fC x ns/\0<=k/\Q (.int (ns.getD k.toNat 0))
def C1:aL:=(aS (cF (aZ (sY (a6 1) (aF fJ (a7 (a6 0) aA)))) (bB (fK (a6 0) (a6 1))) cK)
 (bB (qC (.int 0))))
theorem ar9:cH C1 ["script","k"] j6:=by
 rintro xs Q ⟨x,ns,k,rfl,hx,h0,q⟩
 refine⟨_,rfl,_,rfl,_,_,rfl,hx.len,_,_,rfl,rfl,_,rfl,?_⟩
 by_cases h:k < (ns.length:Int)
 ·rw [aL7 h]
  exact b4 ⟨_,rfl,_,rfl,_,_,_,hx.seq,rfl,B7 h0 h,ar8 _ _,q⟩
 ·rw [aK5 h]
  rw [aL2,List.getElem?_eq_none (by omega)] at q
  exact aW ⟨trivial,q⟩
def cU (ls:List (Int × Int)):List PV:=ls.map fun l=>PV.tup [.int l.1,.int l.2]
theorem C2 (ls:List (Int × Int)):(cU ls).length=ls.length:=aJ3 _
def tS (l m:Int × Int):Prop:=l.1 < m.1 ∨ (l.1=m.1/\l.2 < m.2)
structure j7 (n:Int) (ws:List Int) (ls:List (Int × Int)):Prop where
 many:(ws.length:Int)=n
 inn:∀ l ∈ ls,0<=l.1/\l.1 < l.2/\l.2 < n
 most:ls.length<=63
 ord:ls.Pairwise tS
 pos:∀ w ∈ ws,0<=w
abbrev si (n:Int):Option Slot:=some (.sh true (.int n))
def oX:aX:=fun xs Q=>∃ i,xs = [.int i]/\Q (.bl true)
def C3 (K:PySem.W.Frag):aL:=(bB (jP (lO K "int" (a6 0)) (sA (lO K "bool" (a6 0)))))
theorem as0 {K:PySem.W.Frag} (k1:PySem.W.kitOne K (.type "int") (.type "int")=some true) (k2:PySem.W.kitOne K (.type "int") (.type "bool")=some false):cH (C3 K) ["found"] oX:=by
 rintro xs Q ⟨i,rfl,q⟩
 exact⟨_,rfl,_,_,rfl,k1,_,rfl,b4 ⟨_,rfl,_,_,rfl,k2,_,rfl,trivial,q⟩⟩
theorem as1 {ls:List (Int × Int)}{i:Nat}{x:PV} (h:(cU ls)[i]? = some x):∃ l,x = .tup [.int l.1,.int l.2]/\ls[i]? = some l:=by
 unfold cU at h
 rw [aJ6] at h
 cases e:ls[i]? with
 | none=>rw [e] at h; cases h
 | some n=>rw [e] at h; exact⟨n,(aL5 h).symm,rfl⟩
end Core
namespace PySem
theorem as2:fillsNumberSlot (.type "tuple") "mul" = pure false:=
 fillsNumberSlot_seq (id:="tuple.__mul__") (r:=some (.builtin "tuple.__rmul__")) F.slot_tuple_mul.lookup (by decide +kernel) F.slot_tuple_rmul.lookup (by decide +kernel)
theorem as3:seqRepeat? (.type "tuple")=pure (some (.builtin "tuple.__mul__")):=by
 unfold seqRepeat?
 rw [seqSlot_of (T:="tuple") (name:="__mul__") (id:="tuple.__mul__") F.slot_tuple_mul.lookup (by decide +kernel),seqSlot_of (T:="tuple") (name:="__rmul__") (id:="tuple.__rmul__") F.slot_tuple_rmul.lookup (by decide +kernel)]
 rfl
theorem as4 (a:Int) (t:Tok) (l:Addr) (items:Array Value) (n:Nat) (dd:Option Addr) (sl:Array (Option Value)) :
  Meets (Builtin.«int.__rmul__» ⟨[.int a t,.ref l],[]⟩) (fun _ R s=>s.heap.get? l=some { cls:=.type "tuple",dict:=dd,data:=.seq items n,slots:=sl }/\R (.ok (.ret Value.notImplemented)) s):=
 .of_wp fun prog w A R s h=>by obtain ⟨hp,g,d,tk,os⟩:=s; obtain ⟨hl,h⟩:=h; wp_walk; exact⟨_,rfl,h⟩
theorem as5 (l:Addr) (items:Array Value) (n:Nat) (dd:Option Addr) (sl:Array (Option Value)) (x:Int) (u:Tok) (h0:items.isEmpty=false) (h1:2<=x) (h2:items.size * x.toNat<=sizeLine) (h3:x<=1000000) :
  Meets (Builtin.«tuple.__mul__» ⟨[.ref l,.int x u],[]⟩) (fun _ R s=>s.heap.get? l=some { cls:=.type "tuple",dict:=dd,data:=.seq items n,slots:=sl }/\R (.ok (.ret (Value.ref s.heap.objs.size))) { s with heap:=s.heap.push { cls:=Value.type "tuple",data:=Data.seq (List.foldl (fun x1 x2=>x1 ++ x2) #[] (List.replicate x.toNat items)) } }):=
 .of_wp fun prog w A R s h=>by
  obtain ⟨hp,g,d,tk,os⟩:=s; obtain ⟨hl,h⟩:=h
  have c1:(decide (x < -(2 ^ 63)) || decide (x >= 2 ^ 63))=false:=by
   rw [Bool.or_eq_false_iff]; exact⟨aK5 (by omega),aK5 (by omega)⟩
  have c2:(items.isEmpty || x == 1)=false:=by rw [h0,Bool.false_or]; exact aS0.mpr (by omega)
  have c3:(decide (x<=0) || items.isEmpty)=false:=by rw [h0,Bool.or_false]; exact aK5 (by omega)
  have hsz:((items.size:Nat):Int) * x=((items.size * x.toNat:Nat):Int):=by rw [Int.natCast_mul]; congr 1; omega
  have hl63:(sizeLine:Nat)<=(2 ^ 63 - 1) / 8:=by decide
  have c4:decide (((items.size:Nat):Int) * x > (2 ^ 63 - 1) / 8)=false:=aK5 (by rw [hsz]; omega)
  have c5:Builtin.Tuple.tupleTooMany (((items.size:Nat):Int) * x)=false:=by
   rw [hsz]
   unfold Builtin.Tuple.tupleTooMany
   exact aK5 (by omega)
  wp_walk
  refine wpAny_ite_false (by rw [c1]; rfl) ?_
  wp_walk
  refine wpAny_ite_false (by rw [c2]; rfl) ?_
  wp_walk
  refine wpAny_ite_false (by rw [c3]; rfl) ?_
  wp_walk
  refine wpAny_ite_false c4 ?_
  wp_walk
  refine wpAny_ite_false (by rw [c5]; rfl) ?_
  wp_walk
  have f0:∀ (m:Nat) (acc:Array Value),(List.foldl (fun x1 x2=>x1 ++ x2) acc (List.replicate m items)).size=acc.size+m * items.size:=fun m=>by
   induction m with
   | zero=>intro acc; simp
   | succ m ih=>intro acc; rw [aQ3,List.foldl_cons,ih,Array.size_append,Nat.succ_mul]; omega
  have c6:decide ((List.foldl (fun x1 x2=>x1 ++ x2) #[] (List.replicate x.toNat items)).size > sizeLine)=false:=aK5 (by
   rw [f0 x.toNat #[]]
   have:x.toNat * items.size=items.size * x.toNat:=Nat.mul_comm _ _
   simp only [Array.size_empty]
   omega)
  refine wpAny_ite_false c6 ?_
  wp_walk
  exact⟨_,rfl,h⟩
end PySem
namespace PP
open PySem L2 PyProof.Rows
def C4 (K:PySem.W.Frag):R2:=fun x y H Q=>∃ l k xs,x = .ref l/\y = .int k/\aI K H l xs/\xs ≠ []/\2<=k/\k<=1000000/\xs.length * k.toNat<=sizeLine/\∀ p,H p=none->Q (.ref p) (upd H p (.tup (List.replicate k.toNat xs).flatten))
theorem as6 {X:Cx}:bR X (binaryOp .Mult) (C4 X.K):=by
 intro pins s σ H x y v u Q I rx ry h
 obtain ⟨l,k,xs,rfl,rfl,hH,hne,h1,h2,hz,q⟩:=h
 cases rx
 obtain ⟨t,rfl⟩:=ry
 obtain ⟨its,r,p,_⟩:=I.tuple hH
 obtain ⟨⟨cls,dd,data,sl⟩,ho,hc,n,hd⟩:=id p
 simp only at hc hd
 subst hc hd
 have hl:=r.length
 have hemp:its.toArray.isEmpty=false:=by
  cases its with
  | nil=>exact absurd (r.nil_iff.mp rfl) hne
  | cons a b=>rfl
 refine wpAny_binaryOp_repeat_ref (T:="tuple") (U:="int") (by decide) ⟨_,ho,rfl⟩ (fun s'=>typeIs_int s' k t) as2 F.fills_int_mul F.slot_int_rmul as3 F.slot_int_index.lookup
  (call_meets F.slot_int_rmul (typeIs_int s k t) F.entry_int_rmul (F.args_int_rmul_2 _ _) (as4 k t l its.toArray n dd sl)
   ⟨ho,rfl,⟨_,ho,rfl⟩,call_meets F.slot_tuple_mul ⟨_,ho,rfl⟩ F.entry_tuple_mul (F.args_tuple_mul_2 _ _) (as5 l its.toArray n dd sl k t hemp h1 (by rw [aI9,<- hl]; exact hz) h2) ⟨ho,?_⟩⟩)
 have f0:List.foldl (fun x1 x2=>x1 ++ x2) #[] (List.replicate k.toNat its.toArray)=(List.replicate k.toNat its).flatten.toArray:=by
  have:=wP its k.toNat []
  rw [List.nil_append] at this
  exact this
 rw [f0]
 refine⟨.ref s.heap.objs.size,_,I.laid (t':=s.toks) (o:=.tup (List.replicate k.toNat xs).flatten) (fun b ob q=>aI8 _ q) (aJ0 _) ?_,rfl,q _ (I.hok.fresh (aJ0 _))⟩
 exact⟨by rw [Z8,Nat.mul_comm]; exact hz,_,r.rep k.toNat,IsTup.new _ _⟩
theorem Reps.rep {K:PySem.W.Frag}{M:Addr->Prop}{H:Hp}{us:List V}{xs:List PV} (r:Reps K M H us xs):∀ k:Nat,Reps K M H (List.replicate k us).flatten (List.replicate k xs).flatten
 | 0=>.nil
 | k+1=>by rw [aQ3,aQ3,aU5,aU5]; exact r.append (Reps.rep r k)
section
variable {X : Cx} {a b e : Expr} {ta tb te : aB} {tr : bX} {pos p2 p3 pos2 : Pos}
theorem as7:dI X tR (C4 X.K):=by
 rintro W Hs H u v x y g g' Q Q' s n r1 r2 ⟨xs,m,rfl,rfl,f,ne,h1,h2,hl,q⟩ k
 cases r2
 obtain ⟨a,us,rfl,h,r⟩:=r1.sqT
 have lr:=r.length
 refine⟨a,m,us,rfl,rfl,aI.of h,fun z=>ne (by cases xs with | nil=>rfl | cons _ _=>rw [z] at lr; cases lr),h1,h2,lim ?_,fun p hp=>k _ _ _ .fr (aY hp _) (.tup aV (((r.flat f).rep m.toNat).same (aY hp _) fun _ z=>z)) q⟩
 have h3:us.length<=10:=by omega
 have h4:m.toNat<=1000000:=by omega
 calc us.length * m.toNat<=10 * 1000000:=Nat.mul_le_mul h3 h4
  _<=16000000:=by decide
theorem C5 (ha:QE X a ta) (hb:QE X b tb):QE X (.BinOp a .Mult b pos) (q2 tR ta tb):=gY as6 as7 ha hb
theorem as8 {tA:TA} (hg:Gl X "range") (hm:X.mg "range" = none) (ha:PA X [a] tA) (hs:starEach [a] X.env = [(false,eval a X.env)]:=by rfl) :
  PE X (.Call (.Name "range" p2) [a] [] pos) (fun σ H Q=>tA σ H fun vs H1=>∃ j:Int,vs = [.int j]/\∀ r,H1 r=none->Q (.ref r) (upd H1 r (.rng 0 j))):=by
 intro pins s σ H Q I h
 refine Call_ (gK I hg hm boot_range (aO4 (aH (ha pos pins s σ H _ I h) fun us s1 ⟨vs,H1,I1,r1,q1⟩=>?_) hs rfl))
 obtain ⟨j,e,q⟩:=q1
 subst e
 cases r1 with
 | cons r rr=>
  cases rr
  obtain ⟨t,rfl⟩:=r
  refine call_range_1 ?_
  exact⟨.ref s1.heap.objs.size,_,I1.laid (o:=.rng 0 j) (fun b ob q=>aI8 _ q) (aJ0 _) ⟨_,_,_,aJ9 _ rfl⟩,rfl,q _ (I1.hok.fresh (aJ0 _))⟩
theorem C6:∀ {xs:List V}{us:List Value},xs.length=us.length->(∀ (i:Nat) x u,xs[i]? = some x->us[i]? = some u->aO x u)->aG xs us
 | [],[],_,_=>.nil
 | x :: xs,u :: us,hl,h=>.cons (h 0 x u rfl rfl) (C6 (by simpa using hl) fun i y w h1 h2=>h (i+1) y w (by rw [aM0]; exact h1) (by rw [aM0]; exact h2))
theorem as9 {n:Nat}{acc:Array Value} (h:ItemsOf (fun i v=>∃ t,v = .int (0+(i:Int) * 1) t) acc n):aG (gT 0 n) acc.toList:=by
 obtain ⟨h1,h2⟩:=h
 refine C6 (by rw [rH]; simp [h1]) fun i x u hx hu=>?_
 have hi:i < n:=by
  have:=(aJ8.mp hx).1
  rwa [rH] at this
 unfold gT at hx
 rw [aJ6,List.getElem?_range hi] at hx
 cases hx
 obtain ⟨t,rfl⟩:=h2 i u (by rw [<- Array.getElem?_toList]; exact hu)
 exact⟨t,by congr 1; omega⟩
theorem at0 (hc:X.calm=true):bU X (.type "list") (fun xs H Q=>∃ r j,xs = [.ref r]/\H r=some (.rng 0 j)/\0<=j/\j<=1000000/\∀ l,H l=none->Q (.ref l) (upd H l (.lst (gT 0 j.toNat)))):=by
 intro pins s σ H xs us Q I r h
 obtain ⟨p,j,rfl,hq,h0,h1,q⟩:=h
 obtain ⟨u,rfl,rx⟩:=eC r
 cases rx
 obtain ⟨t,u,v,ho⟩:=(show b8 X.prog X.w H s.heap p (.rng 0 j) from I.hok p _ hq)
 refine PySem.call_list_range (a:=0) (b:=j) (c:=1) (n:=j.toNat) (I.ok.hd hc) ho (small_one (by decide) (by decide) (by omega) (by omega)) (by rw [rangeSize_one]; split <;> omega) (by omega) fun h' tk acc' c' kp e it=>?_
 have vv:=as9 it
 have eq:acc'.toList.toArray=acc':=by simp
 exact⟨.ref s.heap.objs.size,_,I.laid (t':=tk) (o:=.lst (gT 0 j.toNat)) kp (aJ0 _) ⟨by rw [rH]; exact lim (by omega),acc'.toList,c',vv,by rw [eq]; exact e⟩,rfl,q _ (I.hok.fresh (aJ0 _))⟩
theorem at2 {K:PySem.W.Frag}{M:Addr->Prop}{H:Hp} (lo:Int) (n:Nat):Reps K M H (gT lo n) (e8 lo n):=by
 unfold gT e8
 generalize List.range n=l
 induction l with
 | nil=>exact .nil
 | cons a r ih=>exact .cons (.int _) ih
theorem C7 (B:Bt X.mg) (ha:QE X a ta) (hc:X.calm=true:=by rfl) (hg:Gl X "list":=by rfl) (hgr:Gl X "range":=by rfl) (hs:starEach [a] X.env = [(false,eval a X.env)]:=by rfl)
  (he:starEach [.Call (.Name "range" p3) [a] [] pos2] X.env=(false,eval (.Call (.Name "range" p3) [a] [] pos2) X.env) :: starEach [] X.env:=by rfl) (hpl:(backTo pos (starEach [] X.env)).any (·.1)=false:=by rfl) :
  QE X (.Call (.Name "list" p2) [.Call (.Name "range" p3) [a] [] pos2] [] pos) (tQ ta):=
 bC (w6 (at0 hc) hg B.list PyProof.Rows.boot_list (cN (as8 hgr B.range (cN ha dH hs) hs) dH he) (he:=he) (hpl:=hpl)) fun σ H Q' h=>by
  obtain ⟨W,ρ,Q,px,q,k⟩:=h
  refine⟨W,ρ,_,px,q,?_⟩
  rintro v H1 x g s r ⟨n,rfl,h0,h1,q⟩
  cases r
  refine⟨n,rfl,fun r hr=>⟨r,n,rfl,aV,h0,h1,fun l hl=>?_⟩⟩
  have S:a9 H (upd (upd H1 r (.rng 0 n)) l (.lst (gT 0 n.toNat))):=(s.trans (aY hr _)).trans (aY hl _)
  exact k _ _ _ .fr S (.lst (((s.trans (aY hr _))).free hl) aV (at2 0 n.toNat)) q
theorem at3:e7 X oW (fun xs H Q=>∃ a kvs,xs = [.ref a]/\H a=some (.dT kvs)/\∀ l ys,H l=none->Paired (lD H) ys (kvs.map (·.1))->Q (.ref l) (upd H l (.lst ys))):=by
 rintro H vs xs Q Q' r ⟨ps,rfl,q⟩ k
 obtain ⟨v,rfl,r1⟩:=r.one
 cases r1 with
 | @dT a kvs _ m h e r2=>
  refine⟨a,kvs,rfl,h,fun l ys hl pr=>k _ _ _ (aY hl _) (.lst hl aV ?_) q⟩
  have kv:∀ (k:List aD),Reps X.K (fun a=>H a=none) H (k.map kV) (k.map kP):=fun k=>by
   induction k with
   | nil=>exact .nil
   | cons a r ih=>exact .cons (by cases a <;> constructor) ih
  have go:∀ {ys:List V}{ks:List (List aD)},Paired (lD H) ys ks->Reps X.K (fun a=>H a=none) H ys (ks.map fun k=>PV.tup (k.map kP)):=fun {ys ks} pr=>by
   induction pr with
   | nil=>exact .nil
   | cons h t ih=>
    obtain ⟨q,rfl,hq⟩:=h
    exact .cons (.tup hq (kv _)) ih
  have e2:(ps.map fun p=>PV.tup (p.1.map kP))=(kvs.map (·.1)).map fun k=>PV.tup (k.map kP):=by rw [e,aR9]; rfl
  rw [e2]
  exact (go pr).same (aY hl _) fun _ z=>z
theorem at4 (B:Bt X.mg) (hc:X.calm=true) (ha:QA X [e] tr) (hg:Gl X "list":=by rfl) (he:starEach [e] X.env=(false,eval e X.env) :: starEach [] X.env:=by rfl) (hpl:(backTo pos (starEach [] X.env)).any (·.1)=false:=by rfl):QE X (.Call (.Name "list" p2) [e] [] pos) (aF oW tr):=
 oD (ae4 hc) at3 hg B.list PyProof.Rows.boot_list ha (he:=he) (hpl:=hpl)
def tT:V->Int
 | .int i=>i
 | _=>0
def j8 (H:Hp):V->List Int
 | .ref a=>match H a with
  | some (.tup us)=>us.map tT
  | _=>[]
 | _=>[]
theorem at5 {H:Hp}{a:Addr}{ns:List Int} (h:H a=some (.tup (ns.map V.int))):j8 H (.ref a)=ns:=by
 show (match H a with | some (.tup us)=>us.map tT | _=>[])=ns
 rw [h]
 show (ns.map V.int).map tT=ns
 rw [aR9]
 exact List.map_id _
theorem C8 {K:PySem.W.Frag}{M:Addr->Prop}{H:Hp}:∀ {us:List V}{ys:List (List Int)},Reps K M H us (ys.map fun r=>PV.tup (intz r))->us.map (j8 H)=ys/\∀ u ∈ us,∃ b,u = .ref b/\H b=some (.tup ((j8 H u).map V.int))
 | _,[],.nil=>⟨rfl,fun u h=>nomatch h⟩
 | _,y :: ys,.cons r t=>by
  obtain ⟨a,us,rfl,h,r1⟩:=r.sqT
  obtain rfl:=r1.ofInts
  obtain ⟨h1,h2⟩:=C8 t
  have hk:=at5 h
  refine⟨by rw [aM9,h1,hk],fun u hu=>?_⟩
  rcases aK0.mp hu with rfl | hu
  ·exact⟨a,rfl,by rw [hk]; exact h⟩
  ·exact h2 u hu
theorem C9 {K:PySem.W.Frag}{M:Addr->Prop}{H:Hp}:∀ {us:List V},(∀ u ∈ us,∃ b,u = .ref b/\H b=some (.tup ((j8 H u).map V.int)))->Reps K M H us ((us.map (j8 H)).map fun r=>PV.tup (intz r))
 | [],_=>.nil
 | u :: us,h=>by
  obtain ⟨b,rfl,hb⟩:=h u aK1
  exact .cons (.tup hb (Reps.intz _)) (C9 fun v hv=>h v (aL0 _ hv))
theorem at6:e7 X oV (xP X.K):=by
 rintro H vs xs Q Q' r ⟨ys,rfl,hl,hne,q⟩ k
 obtain ⟨v,rfl,r1⟩:=r.one
 obtain ⟨a,us,rfl,_,h,r2⟩:=r1.sqL
 obtain ⟨h1,h2⟩:=C8 r2
 have lr:=r2.length
 rw [aJ3] at lr
 refine⟨a,us,j8 H,rfl,aK.of h,by omega,fun y hy=>?_,fun l zs hl' pm so=>?_⟩
 ·obtain ⟨b,rfl,hb⟩:=h2 y hy
  refine⟨b,rfl,aI.of hb,hne _ ?_⟩
  rw [<- h1]; exact aO9.mpr ⟨_,hy,rfl⟩
 ·have hz:∀ u ∈ zs,∃ b,u = .ref b/\H b=some (.tup ((j8 H u).map V.int)):=fun u hu=>h2 u (pm.mem_iff.mp hu)
  refine k _ _ _ (aY hl' _) (.lst hl' aV ((C9 hz).same (aY hl' _) fun _ z=>z)) (q _ ?_ ?_)
  ·rw [<- h1]; exact pm.map _
  ·rw [aR8]; exact so
theorem at7 (B:Bt X.mg) (ha:QA X [e] tr) (hg:Gl X "sorted":=by rfl) (he:starEach [e] X.env=(false,eval e X.env) :: starEach [] X.env:=by rfl) (hpl:(backTo pos (starEach [] X.env)).any (·.1)=false:=by rfl):QE X (.Call (.Name "sorted" p2) [e] [] pos) (aF oV tr):=
 iY ae0 at6 hg B.sorted PyProof.Rows.boot_sorted ha (he:=he) (hpl:=hpl)
end
def E1 (K:PySem.W.Frag):Sp:=fun vs H Q _=>∃ (a:Addr) (ns:List Int),vs = [.ref a]/\(aI K H a (ns.map V.int) ∨ aK K H a (ns.map V.int))/\ns.length<=1000/\∀ H',a9 H H'->Q (.bl (Core.fO ns)) H'
def E2:Sp:=fun vs H Q _=>∃ v ws ls,vs = [v]/\xS H v ws ls/\ws.length<=1000/\ls.length<=2000/\(∀ l ∈ ls,(0<=l.1/\l.1 < ws.length)/\0<=l.2/\l.2 < ws.length)/\
 ∀ (r:Addr) (bs:List Addr) (H':Hp),bs.length=ws.length->gU H H' r bs (fun k=>bW ls k)->Q (.ref r) H'
section
variable {P : Program} {w : World} {K : PySem.W.Frag} {mg : Str → Option Value} {base : Heap} {f : Addr} {fd : FuncData} {k : Nat}
theorem at8 (F:bV P w K mg base cI k f fd ["things"] (E1 K)) (b:eR K fd ["things"] []) (kp:PySem.W.keepIn K (.ref f)=true) (m:mg "rises" = some (.ref f)):Df P w K mg base k "rises" ["things"] Core.tN:=by
 refine⟨f,fd,F.imp fun vs H Q E h=>?_,b,kp,m⟩
 obtain ⟨xs,Qp,r,⟨x,ns,rfl,hx,hl,q⟩,k⟩:=h
 obtain ⟨v,rfl,r1⟩:=r.one
 rcases hx with rfl | rfl
 ·obtain ⟨a,us,rfl,h,r2⟩:=r1.sqT
  obtain rfl:=r2.ofInts
  exact⟨a,ns,rfl,.inl (aI.of h),hl,fun H' s=>k _ H' _ s (.bl _) q⟩
 ·obtain ⟨a,us,rfl,_,h,r2⟩:=r1.sqL
  obtain rfl:=r2.ofInts
  exact⟨a,ns,rfl,.inr (aK.of h),hl,fun H' s=>k _ H' _ s (.bl _) q⟩
theorem nN {M:Addr->Prop}{H:Hp}:∀ {us:List V}{ls:List (Int × Int)},Reps K M H us (ls.map fun l=>PV.tup [.int l.1,.int l.2])->jM H us ls
 | _,[],.nil=>.nil
 | _,l :: ls,.cons r t=>by
  obtain ⟨a,us,rfl,h,r1⟩:=r.sqT
  obtain ⟨u1,u2,rfl,q1,q2⟩:=r1.two
  cases q1; cases q2
  exact .cons ⟨a,rfl,h⟩ (nN t)
theorem at9 {M:Addr->Prop}{H:Hp}{v:V}{ws:List Int}{ls:List (Int × Int)} (r:aE K M H v (Core.bP ws ls)):xS H v ws ls:=by
 obtain ⟨a,us,rfl,h,r1⟩:=aE.sqT r
 obtain ⟨u1,u2,rfl,q1,q2⟩:=r1.two
 obtain ⟨p,up,rfl,hp,rp⟩:=q1.sqT
 obtain ⟨q,uq,rfl,hq,rq⟩:=q2.sqT
 obtain rfl:=rp.ofInts
 exact⟨a,p,q,uq,rfl,h,hp,hq,nN rq⟩
theorem E3 {M:Addr->Prop}{H:Hp}:∀ {bs:List Addr}{ls:List (Int × Int)} (off:Nat),(∀ b ∈ bs,M b)->(∀ (k:Nat) b,bs[k]? = some b->H b=some (.lst ((bW ls ((off+k:Nat):Int)).map V.int)))->Reps K M H (bs.map V.ref) ((List.range' off bs.length).map fun (k:Nat)=>PV.lst (intz (bW ls k)))
 | [],_,_,_,_=>.nil
 | b :: bs,ls,off,hm,h=>by
  refine .cons (.lst (hm b aK1) (h 0 b rfl) (Reps.intz _)) (E3 (off+1) (fun c hc=>hm c (aL0 _ hc)) fun k c hk=>?_)
  have:=h (k+1) c (by rw [aM0]; exact hk)
  rw [show off+1+k=off+(k+1) by omega]; exact this
theorem au0 (F:bV P w K mg base cI k f fd ["web"] E2) (b:eR K fd ["web"] []) (kp:PySem.W.keepIn K (.ref f)=true) (m:mg "near_lists" = some (.ref f)):Df P w K mg base k "near_lists" ["web"] Core.lY:=by
 refine⟨f,fd,F.imp fun vs H Q E h=>?_,b,kp,m⟩
 obtain ⟨xs,Qp,r,⟨ws,ls,rfl,wb,q⟩,k⟩:=h
 obtain ⟨v,rfl,r1⟩:=r.one
 have:=wb.few
 have:=wb.most
 refine⟨v,ws,ls,rfl,at9 r1,by omega,by omega,wb.links,fun t bs H' hb R=>k _ H' _ R.same (.lst R.new R.row ?_) q⟩
 have:=E3 (K:=K) (M:=fun a=>H a=none) (H:=H') (bs:=bs) (ls:=ls) 0 (fun b hb=>(R.news b hb).1) fun k b hk=>by rw [Nat.zero_add]; exact R.rows k b hk
 rw [hb,<- List.range_eq_range'] at this
 exact this
end
end PP
namespace Core
open PySem L2 PP
theorem E4 (n:Nat):e8 0 n=intz (rng n):=by
 unfold e8 rng
 show _=List.map PV.int (List.map (fun (i:Nat)=>(i:Int)) (List.range n))
 rw [aR9]
 refine List.map_congr_left fun i _=>?_
 show PV.int (0+(i:Int))=PV.int (i:Int)
 rw [Int.zero_add]
theorem E5 (n:Nat):(rng n).Nodup:=by
 unfold rng
 rw [List.nodup_iff_pairwise_ne,aR8]
 exact (List.nodup_range (n:=n)).imp fun h e=>h (by omega)
def two (l:Int × Int):List Int:=[l.1,l.2]
def lZ (r:List Int):Int × Int:=(r.getD 0 0,r.getD 1 0)
theorem E6 (ls:List (Int × Int)):cU ls=(ls.map two).map fun r=>PV.tup (intz r):=by
 unfold cU
 rw [aR9]; rfl
theorem au1 {zs:List (List Int)}{ls:List (Int × Int)} (h:zs.Perm (ls.map two)):∃ ls':List (Int × Int),zs=ls'.map two/\ls'.Perm ls:=by
 refine⟨zs.map lZ,?_,?_⟩
 ·rw [aR9]
  have:∀ z ∈ zs,(two ∘ lZ) z=z:=fun z hz=>by
   obtain ⟨l,_,rfl⟩:=aO9.mp (h.mem_iff.mp hz)
   rfl
  rw [List.map_congr_left this,List.map_id']
 ·have:=h.map lZ
  rw [aR9] at this
  have e:ls.map (lZ ∘ two)=ls:=by
   have:∀ l ∈ ls,(lZ ∘ two) l=id l:=fun l _=>rfl
   rw [List.map_congr_left this,List.map_id]
  rw [e] at this
  exact this
theorem au2 {ls:List (Int × Int)} (so:(ls.map two).Pairwise fun u v=>HT.dX v u=false) (nd:ls.Nodup):ls.Pairwise tS:=by
 rw [aR8] at so
 refine (List.pairwise_and_iff.mpr ⟨so,nd⟩).imp fun {a b} h=>?_
 obtain ⟨h1,h2⟩:=h
 unfold two at h1
 rw [HT.kY] at h1
 unfold tS
 by_cases e:b.1=a.1
 ·rw [if_pos e,HT.kY] at h1
  by_cases e2:b.2=a.2
  ·exact absurd (Prod.ext e.symm e2.symm) h2
  ·rw [if_neg e2] at h1
   have:=aT8 h1
   omega
 ·rw [if_neg e] at h1
  have:=aT8 h1
  omega
theorem j7.perm {n:Int}{ws:List Int}{ls ls':List (Int × Int)} (h1:(ws.length:Int)=n) (h2:∀ l ∈ ls,0<=l.1/\l.1 < l.2/\l.2 < n) (h3:ls.length<=63) (nd:ls.Nodup) (h4:∀ w ∈ ws,0<=w) (p:ls'.Perm ls) (so:(ls'.map two).Pairwise fun u v=>HT.dX v u=false):j7 n ws ls':=
 ⟨h1,fun l hl=>h2 l (p.mem_iff.mp hl),by rw [p.length_eq]; exact h3,au2 so (p.nodup_iff.mpr nd),h4⟩
theorem au3 (ws:List Int) (ls:List (Int × Int)):flats [.tup (intz ws),.tup (cU ls)]=true:=aq8 ws ls
def e9 (l:Int × Int):List aD:=[Sum.inl l.1,Sum.inl l.2]
structure DL (n:Int) (ps:List (List aD × PV)) (i:Nat):Prop where
 key:∀ p ∈ ps,∃ l:Int × Int,p.1=e9 l/\0<=l.1/\l.1 < l.2/\l.2 < n
 len:ps.length<=i
 fl:flats (ps.map (·.2))=true
 nd:(ps.map (·.1)).Nodup
theorem au4 {κ:Type} [DecidableEq κ] {ps:List (κ × PV)} (k:κ) (v:PV) (h:(ps.map (·.1)).Nodup):((cL ps k v).map (·.1)).Nodup:=by
 unfold cL
 split
 ·rw [aR9]
  have:((fun x:κ × PV=>x.1) ∘ fun kv:κ × PV=>if kv.1=k then (kv.1,v) else kv)=fun x=>x.1:=by
   funext x
   show (if x.1=k then (x.1,v) else x).1=x.1
   split <;> rfl
  rw [this]; exact h
 ·rename_i hn
  rw [aO5]
  refine aN4.mpr ⟨h,aL8 _ _,fun x hx y hy e=>hn ?_⟩
  obtain ⟨p,hp,rfl⟩:=aO9.mp hx
  rw [aJ5.mp hy] at e
  exact List.any_eq_true.mpr ⟨p,hp,aL7 e⟩
theorem au5 {κ:Type} [DecidableEq κ] {ps:List (κ × PV)}{k:κ}{v:PV}{p:κ × PV} (h:p ∈ cL ps k v):p.1=k ∨ ∃ q ∈ ps,q.1=p.1:=by
 unfold cL at h
 split at h
 ·obtain ⟨q,hq,e⟩:=aO9.mp h
  split at e
  ·subst e; exact .inr ⟨q,hq,rfl⟩
  ·subst e; exact .inr ⟨q,hq,rfl⟩
 ·rcases aL9.mp h with h | h
  ·exact .inr ⟨p,h,rfl⟩
  ·rw [aJ5.mp h]; exact .inl rfl
theorem DL.put {n:Int}{ps:List (List aD × PV)}{i:Nat} (h:DL n ps i) (l:Int × Int) (hl:0<=l.1/\l.1 < l.2/\l.2 < n):DL n (cL ps (e9 l) (.bl true)) (i+1):=by
 refine⟨fun p hp=>?_,?_,B3 h.fl rfl,au4 _ _ h.nd⟩
 ·rcases au5 hp with e | ⟨q,hq,e⟩
  ·exact⟨l,e,hl⟩
  ·obtain ⟨l',e',h'⟩:=h.key q hq
   exact⟨l',e ▸ e',h'⟩
 ·have:=tO ps (e9 l) (.bl true)
  have:=h.len
  omega
theorem DL.links {n:Int}:∀ {ps:List (List aD × PV)},(∀ p ∈ ps,∃ l:Int × Int,p.1=e9 l/\0<=l.1/\l.1 < l.2/\l.2 < n)->∃ ls:List (Int × Int),(ps.map fun p=>PV.tup (p.1.map kP))=cU ls/\(∀ l ∈ ls,0<=l.1/\l.1 < l.2/\l.2 < n)/\ls.length=ps.length/\ps.map (·.1)=ls.map e9
 | [],_=>⟨[],rfl,(fun _ h=>nomatch h),rfl,rfl⟩
 | p :: ps,h=>by
  obtain ⟨l,e,hl⟩:=h p aK1
  obtain ⟨ls,h1,h2,h3,h4⟩:=DL.links (ps:=ps) fun q hq=>h q (aL0 _ hq)
  refine⟨l :: ls,?_,fun m hm=>?_,by rw [aO0,aO0,h3],by rw [aM9,aM9,h4,e]⟩
  ·rw [aM9,h1,e]; rfl
  ·rcases aK0.mp hm with rfl | hm
   ·exact hl
   ·exact h2 m hm
theorem au6 {x:PV}{ns:List Int} (h:fC x ns):(Slot.sh (flat x) x).tag = .rd->flat x=true:=by
 cases flat x <;> intro z <;> cases z
theorem tU (ns:List Int) {k:Int} (h:0<=k):fY (intz ns) (some k) none=intz (ns.drop k.toNat):=by
 unfold fY
 have e1:HT.aP (intz ns).length 0 (some k)=min k.toNat (intz ns).length:=by
  have:=HT.w9 (intz ns).length 0 k.toNat
  rw [show ((k.toNat:Nat):Int)=k by omega] at this
  exact this
 have e2:HT.aP (intz ns).length (intz ns).length none=(intz ns).length:=rfl
 rw [e1,e2,b6]
 rw [List.take_of_length_le (by rw [aS3,b6]; omega)]
 show _=List.map PV.int _
 rw [List.map_drop]
 by_cases hk:k.toNat<=ns.length
 ·rw [Nat.min_eq_left hk]
 ·rw [Nat.min_eq_right (by omega),List.drop_of_length_le (by rw [b6]; omega),List.drop_of_length_le (by rw [b6]; omega)]
theorem tV:∀ {a b:List Int},a.Perm b->a.Pairwise (· <= ·)->b.Pairwise (· <= ·)->a=b:=by
 intro a b h ha hb
 exact h.eq_of_pairwise (fun x y _ _ h1 h2=>Int.le_antisymm h1 h2) ha hb
def E7:aX:=fun xs Q=>∃ ns:List Int,xs = [.scr ns]/\ns.length<=63/\Q (.bl true)
structure au7 (K:PySem.W.Frag):Prop where
 ii:PySem.W.kitOne K (.type "int") (.type "int")=some true
 ib:PySem.W.kitOne K (.type "int") (.type "bool")=some false
 tt:PySem.W.kitOne K (.type "tuple") (.type "tuple")=some true
 ll:PySem.W.kitOne K (.type "list") (.type "list")=some true
 bb:PySem.W.kitOne K (.type "bool") (.type "bool")=some true
theorem E8 (K:PySem.W.Frag):au7 K:=by
 have same:∀ n:String,PySem.W.kitMeta n=true->True:=fun _ _=>trivial
 refine⟨?_,?_,?_,?_,?_⟩
 ·unfold PySem.W.kitOne; rw [if_pos (by decide)]
 ·have e:(if PySem.W.kitMeta "bool" = true then (fastBuiltinMro "int").map (·.contains (Value.type "bool")) else none)=some false:=by decide +kernel
  unfold PySem.W.kitOne
  rw [if_neg (by decide)]
  exact e
 ·unfold PySem.W.kitOne; rw [if_pos (by decide)]
 ·unfold PySem.W.kitOne; rw [if_pos (by decide)]
 ·unfold PySem.W.kitOne; rw [if_pos (by decide)]
theorem j7.wb {n:Int}{ws:List Int}{ls:List (Int × Int)} (h:j7 n ws ls) (hn:n<=40):Wb ws ls:=
 ⟨by have:=h.many; omega,by have:=h.most; omega,fun l hl=>by have:=h.inn l hl; have:=h.many; omega⟩
end Core
namespace PP
open PySem L2 PyProof.Rows
theorem au8 {P:Program}{w:World}{K:PySem.W.Frag}{mg:Str->Option Value}{base:Heap}{k:Nat}{x:Str}{ps N:List Str}{p:aX}{st:Stmt}{f:Addr}{fd:FuncData} (F:cV K x x st f fd) (S:FnScope N ps (aN st))
  (len:∀ xs Q,p xs Q->xs.length=ps.length)
  (body:∀ (cdv:Value) (A:Around) (outer:List Env) (s:Shared) (H:Hp) (E:XK),bE k (A.deeper (envOfC x (aN st) s.heap.objs.size f cdv))->
   ∃ t,dR (cC cI P w K mg base N x (aN st) f cdv A outer s H E).nox (cR st) t/\∀ xs Q,p xs Q->t { nx:=fun _=>Q .non,rt:=Q } (dL N xs)):bV P w K mg base cI (k+1) f fd ps (lJ K p):=by
 refine F.ok S (fun vs H Q E h=>?_) (fun cdv A outer s H vs Q E hr h=>?_)
 ·obtain ⟨xs,Qp,r,q,_⟩:=h
  rw [r.length]; exact len xs Qp q
 ·obtain ⟨xs,Qp,r,q,k⟩:=h
  obtain ⟨t,ht,hq⟩:=body cdv A outer s H E hr
  refine⟨_,ht,fun _=>False,dL N xs,_,oG r,hq xs Qp q,?_,?_,?_,?_⟩
  ·exact fun W' σ' H' ρ' e px q=>k _ _ _ px.same .non q
  ·exact fun v H' x s r q=>k _ _ _ s r q
  ·exact fun W' σ' H' ρ' e px q=>q
  ·exact fun W' σ' H' ρ' e px q=>q
def oY (K:PySem.W.Frag):Sp:=fun vs H Q _=>∃ (a:Addr) (ns:List Int),vs = [.ref a]/\gV K H a ns/\ns.length<=63/\∀ H',Q (.bl true) H'
theorem au9 {P:Program}{w:World}{K:PySem.W.Frag}{mg:Str->Option Value}{base:Heap}{k:Nat}{f:Addr}{fd:FuncData} (F:bV P w K mg base cI k f fd ["script"] (lJ K Core.E7)):bV P w K mg base cI k f fd ["script"] (oY K):=
 F.imp fun vs H Q E h=>by
  obtain ⟨a,ns,rfl,hs,hl,q⟩:=h
  refine⟨[.scr ns],fun z=>z = .bl true,.cons (.scr hs) .nil,⟨ns,rfl,hl,rfl⟩,?_⟩
  rintro v H' x _ r rfl
  cases r
  exact q H'
theorem av0 {K:PySem.W.Frag}{H:Hp}{a:Addr}{ns:List Int} (hO:mU H) (h:aK K H a (ns.map V.int)):gV K H a ns:=by
 rcases h with (h | ⟨o,h⟩) | h
 ·rcases hO a with e | ⟨o,xs,e⟩ <;> (rw [h] at e; cases e)
 ·exact .inl ⟨o,h⟩
 ·exact .inr h
end PP
namespace PyProof.Rows
open PySem
section
variable {prog : Program} {w : World} {A : Around} {E : Value → Shared → Prop} {s : Shared}
theorem av1 {l:Addr}{vs:List Value}{Q:List Value->Shared->Prop} (hl:s.heap.IsTuple l vs.toArray)
  (h:Q vs { s with heap:=(s.heap.push (seqObj "list" #[] 0)).update s.heap.objs.size (Obj.mapSeq (· ++ vs.toArray)) }) (hsz:vs.length<=sizeLine) :
  wpAny (model prog w) A (collect (.ref l)) Q E s:=by
 obtain ⟨o,ho,hc,n,hd⟩:=id hl
 unfold collect
 refine aI7 (wpAny_runValue (codeAny_builtin entry_proto_collect' ?_))
 show wpAny _ _ (do again (.builtin "list.__iadd__" ⟨[<- newList [],.ref l],[]⟩)) _ _ s
 refine aI7 (wpAny_newList (aJ1 ⟨Code.quiet_builtin _ (by decide +kernel),codeAny_builtin entry_list_iadd' ?_⟩))
 show wpAny _ _ (Builtin.List.listExtendWith (.ref s.heap.objs.size) (.ref l) (.ref s.heap.objs.size)) _ _ { s with heap:=s.heap.push (seqObj "list" #[] 0) }
 unfold Builtin.List.listExtendWith
 have ho':(s.heap.push (seqObj "list" #[] 0)).get? l=some o:=aI8 _ ho
 refine aI7 (wpAny_typeOf (T:="tuple") ⟨o,ho',hc⟩ ?_)
 have ht:(Value.type "tuple" == Value.type "tuple")=true:=by rfl
 rw [if_pos (by rw [ht]; simp)]
 refine aI7 (listItems_at ho' hd ?_)
 refine aI7 (listItems_at (xs:=#[]) (n:=0) (aJ9 _ rfl) rfl ?_)
 rw [if_neg (by simp)]
 refine aI7 (listUpdate_at (xs:=#[]) (n:=0) (aJ9 _ rfl) rfl ?_ (aN0 _) (by show (#[] ++ vs.toArray).size<=sizeLine+1; simp only [Array.size_append,aI9,List.length_nil]; omega))
 refine aJ1 ?_
 show wpAny (model prog w) A (do
   let o <- load s.heap.objs.size
   match o.data with
   | .seq xs _=>pure xs.toList
   | _=>unsupported "internal:collect") Q E { s with heap:=(s.heap.push (seqObj "list" #[] 0)).update s.heap.objs.size (Obj.mapSeq (· ++ vs.toArray)) }
 refine aI7 (wpAny_load (get?_update_seq (aJ9 _ rfl) _) ?_)
 show wpAny _ _ (pure ((#[]:Array Value) ++ vs.toArray).toList) Q E _
 rw [show ((#[]:Array Value) ++ vs.toArray).toList=vs by simp]
 exact aJ1 h
theorem av2 {l:Addr}{vs:List Value}{ns:List Int}{Q:Value->Shared->Prop} (hl:s.heap.IsTuple l vs.toArray) (hI:IntsAre vs ns) (h64:vs.length < 64)
  (h:∀ (out:Array Value) (ns':List Int),IntsAre out.toList ns'->ns'.Perm ns->ns'.Pairwise (· <= ·)->Q (.ref (s.heap.objs.size+1)) { s with heap:=sortedAll s.heap vs out }) :
  wpAny (model prog w) A (call (.builtin "sorted") [.ref l]) Q E s:=by
 have hsl:vs.length<=sizeLine:=aM8 (aP3 h64) (by decide)
 refine Calls.call_function_entry kind_sorted plain_sorted entry_sorted (args_sorted1 _) ?_
 unfold Builtin.«sorted»
 refine aI7 (m:=checkCount "sorted" 1 1 _) (aJ1 ?_)
 refine aI7 (av1 hl ?_ hsl)
 refine aI7 (wpAny_newList ?_)
 have hsz:((s.heap.push (seqObj "list" #[] 0)).update s.heap.objs.size (Obj.mapSeq (· ++ vs.toArray))).objs.size=s.heap.objs.size+1:=by
  rw [Heap.size_update,size_push']
 have hoL:(((s.heap.push (seqObj "list" #[] 0)).update s.heap.objs.size (Obj.mapSeq (· ++ vs.toArray))).push (seqObj "list" vs.toArray 0)).get? (s.heap.objs.size+1)=some (seqObj "list" vs.toArray 0):=by
  rw [<- hsz]; exact aJ9 _ rfl
 show wpAny _ _ _ _ _ { s with heap:=((s.heap.push (seqObj "list" #[] 0)).update s.heap.objs.size (Obj.mapSeq (· ++ vs.toArray))).push (seqObj "list" vs.toArray 0) }
 rw [hsz]
 refine aI7 (aQ6 (aP9 slot_list_sort ⟨_,hoL,rfl⟩ entry_list_sort (list_sort_tree hoL hI h64 fun out ns' a1 a2 a3=>⟨_,rfl,?_⟩) (args_list_sort _)))
 exact aJ1 ⟨_,rfl,h out ns' a1 a2 a3⟩
end
end PyProof.Rows
namespace PP
open PySem L2 PyProof.Rows
section
variable {X : Cx} {a b e : Expr} {ta tb te : aB} {tr : bX} {pos p2 : Pos}
theorem av3:bU X (.builtin "sorted") (fun xs H Q=>∃ a ns,xs = [.ref a]/\(aK X.K H a (ns.map V.int) ∨ aI X.K H a (ns.map V.int))/\ns.length < 64/\∀ l (ms:List Int),H l=none->ms.Perm ns->ms.Pairwise (· <= ·)->Q (.ref l) (upd H l (.lst (ms.map V.int)))):=by
 intro pins s σ H xs us Q I r h
 obtain ⟨a,ns,rfl,hs,h64,q⟩:=h
 rcases hs with hs | hs
 ·exact ad8 pins s σ H _ us Q I r ⟨a,ns,rfl,hs,h64,q⟩
 obtain ⟨u,rfl,ru⟩:=eC r
 cases ru
 obtain ⟨its,rv,p,hz⟩:=I.tuple hs
 have hl:=rv.length
 rw [aJ3] at hl
 refine av2 p (mR rv) (by omega) fun out ns' a1 a2 a3=>?_
 obtain ⟨e,he⟩:=sortedAll_at s.heap its out
 have hn:s.heap.objs.size<=s.heap.objs.size+1:=Nat.le_succ _
 have hlen:ns'.length=ns.length:=a2.length_eq
 refine⟨.ref (s.heap.objs.size+1),upd H (s.heap.objs.size+1) (.lst (ns'.map V.int)),I.laid (t':=s.toks) (fun _ _=>sortedAll_old) hn ⟨?_,out.toList,e,mT a1,by simpa using he⟩,rfl,q _ ns' (I.hok.fresh hn) a2 a3⟩
 rw [aJ3,hlen]
 exact aP3 (mV (by omega))
def m3:List PV->(PV->Prop)->Prop:=fun xs Q=>∃ x ns,xs = [x]/\fV x=some (intz ns)/\ns.length < 64/\∀ ms:List Int,ms.Perm ns->ms.Pairwise (· <= ·)->Q (.lst (intz ms))
theorem av4:e7 X m3 (fun xs H Q=>∃ a ns,xs = [.ref a]/\(aK X.K H a (ns.map V.int) ∨ aI X.K H a (ns.map V.int))/\ns.length < 64/\∀ l (ms:List Int),H l=none->ms.Perm ns->ms.Pairwise (· <= ·)->Q (.ref l) (upd H l (.lst (ms.map V.int)))):=by
 rintro H vs xs Q Q' r ⟨x,ns,rfl,e,hl,q⟩ k
 obtain ⟨v,rfl,r1⟩:=r.one
 obtain ⟨a,us,rfl,hs,r2⟩:=r1.seq e
 obtain rfl:=r2.ofInts
 exact⟨a,ns,rfl,hs,hl,fun l ms hl' p o=>k _ _ _ (aY hl' _) (.lst hl' aV (Reps.intz ms)) (q ms p o)⟩
theorem tW (B:Bt X.mg) (ha:QA X [e] tr) (hg:Gl X "sorted":=by rfl) (he:starEach [e] X.env=(false,eval e X.env) :: starEach [] X.env:=by rfl) (hpl:(backTo pos (starEach [] X.env)).any (·.1)=false:=by rfl):QE X (.Call (.Name "sorted" p2) [e] [] pos) (aF m3 tr):=
 iY av3 av4 hg B.sorted PyProof.Rows.boot_sorted ha (he:=he) (hpl:=hpl)
def E9:PV->Tg->PV->Tg->PK->Prop:=fun x _ y _ Q=>∃ xs ys,x = .lst xs/\y = .lst ys/\flats xs=true/\flats ys=true/\xs.length+ys.length<=16000000/\Q (.lst (xs ++ ys)) .fr
abbrev tX (ta tb:aB):aB:=q2 E9 ta tb
theorem av5:dI X E9 wR:=by
 rintro W Hs H u v x y g g' Q Q' s n r1 r2 ⟨xs,ys,rfl,rfl,f1,f2,hl,q⟩ k
 obtain ⟨a,us,rfl,_,h1,q1⟩:=r1.sqL
 obtain ⟨b,ws,rfl,_,h2,q2⟩:=r2.sqL
 have l1:=q1.length
 have l2:=q2.length
 refine⟨a,b,us,ws,rfl,rfl,h1,h2,lim (by omega),fun p hp=>k _ _ _ .fr (aY hp _) (.lst (s.free hp) aV (((q1.flat f1).append (q2.flat f2)).same (aY hp _) fun _ z=>z)) q⟩
theorem F0 (ha:QE X a ta) (hb:QE X b tb):QE X (.BinOp a .Add b pos) (tX ta tb):=gY Z7 av5 ha hb
end
end PP
namespace Zp
open PySem PyProof.Rows
theorem av6 (t b:Addr) (xs ys:Array Value) (n n2:Nat) (dd dd2:Option Addr) (sl sl2:Array (Option Value)) (hx:xs.isEmpty=true):Meets (Builtin.«tuple.__add__» ⟨[.ref t,.ref b],[]⟩)
  (fun _ R s=>s.heap.get? t=some { cls:=.type "tuple",dict:=dd,data:=.seq xs n,slots:=sl }/\s.heap.get? b=some { cls:=.type "tuple",dict:=dd2,data:=.seq ys n2,slots:=sl2 }/\R (.ok (.ret (.ref b))) s):=
 .of_wp fun prog w A R s h=>by
  obtain ⟨h1,h2,h⟩:=h
  have sub:isSubtype (Value.type "tuple") (Value.type "tuple")=pure true:=rfl
  wp_walk
  exact⟨_,rfl,h⟩
end Zp
namespace L2
open PySem PySem.Spec PyProof.Rows
section
variable {X : Cx}
def F1 (K:PySem.W.Frag):R2:=fun x y H Q=>∃ a b xs ys,x = .ref a/\y = .ref b/\aI K H a xs/\aI K H b ys/\xs.length+ys.length<=sizeLine/\
 (xs = []->Q (.ref b) H)/\(xs ≠ []->ys = []->Q (.ref a) H)/\(xs ≠ []->ys ≠ []->∀ p,H p=none->Q (.ref p) (upd H p (.tup (xs ++ ys))))
theorem av7:bR X (binaryOp .Add) (F1 X.K):=by
 intro pins s σ H x y v u Q I rx ry h
 obtain ⟨a,b,xs,ys,ex,ey,ha,hb,hz,q0,q1,q2⟩:=h
 by_cases hx:xs = []
 ·subst ex ey
  cases rx
  cases ry
  obtain ⟨its,r1,p1,_⟩:=I.tuple ha
  obtain ⟨its2,r2,p2,_⟩:=I.tuple hb
  have hi:its = []:=r1.nil_iff.mpr hx
  obtain ⟨⟨cls,dd,data,sl⟩,ho,hc,n,hd⟩:=id p1
  obtain ⟨⟨cls2,dd2,data2,sl2⟩,ho2,hc2,n2,hd2⟩:=id p2
  simp only at hc hd hc2 hd2
  subst hc hd hc2 hd2
  exact concat_meets ⟨_,ho,rfl⟩ ⟨_,ho2,rfl⟩ noFill_tuple_add seq_tuple_add PySem.F.slot_tuple_add PySem.F.entry_tuple_add (PySem.F.args_tuple_add_2 _ _)
   (Zp.av6 a b its.toArray its2.toArray n n2 dd dd2 sl sl2 (by simp [hi])) ⟨ho,ho2,⟨.ref b,H,I,rfl,q0 hx⟩⟩
 ·exact Y0 pins s σ H x y v u Q I rx ry ⟨a,b,xs,ys,ex,ey,ha,hb,hx,hz,q1 hx,q2 hx⟩
end
end L2
namespace PP
open PySem L2 PyProof.Rows
section
variable {X : Cx} {e : Expr} {te : aB} {pos p2 : Pos} {scope : Scope} {N : List Str} {fr : List (Option Nat)} {x y : Str} {tp xp yp : Pos} {kt : Nat} {iter elt : Expr} {ti : dP}
abbrev m5 (x y:Str) (xp yp:Pos) (kt:Nat) (tp:Pos):Expr:=.Tuple [.Name x xp,.Name y yp] kt tp
theorem F3 {ifs:List Expr}{tcs:bI} (hc:X.calm=true) (he:∀ (s:Shared) (H:Hp) (C:Addr) (fp:List Addr),QE (aU X scope N s H C fp b7) elt te) (hi:∀ (s:Shared) (H:Hp) (C:Addr) (fp:List Addr),gS (aU X scope N s H C fp b7) ifs (LT (aU X scope N s H C fp b7) tcs))
  (hN:N.Nodup) (h0:N[0]? = some x) (h1:N[1]? = some y) (hl:∀ (s:Shared) (H:Hp) (C:Addr) (fp:List Addr),(aU X scope N s H C fp b7).env.scope.names.lookup x=some .local) (hl2:∀ (s:Shared) (H:Hp) (C:Addr) (fp:List Addr),(aU X scope N s H C fp b7).env.scope.names.lookup y=some .local) (s:Shared) (H:Hp) :
  iN X scope N (m5 x y xp yp kt tp) ifs elt s H (gM X.K 2 (dB (bL 0) (dB (bL 1) gL))) (LT (X.frm H) tcs) (LE (X.frm H) te):=
 ⟨fun C fp=>kO (X:=aU X scope N s H C fp b7) hc (fQ (dU hN h0 (.inl (hl s H C fp)) (.inr (hl s H C fp))) (fQ (dU hN h1 (.inl (hl2 s H C fp)) (.inr (hl2 s H C fp))) kN)),fun C fp=>hi s H C fp,fun C fp=>he s H C fp⟩
theorem av8 (hi:QI X (m5 x y xp yp kt tp) iter ti) (he:∀ (s:Shared) (H:Hp) (C:Addr) (fp:List Addr),QE (aU X scope N s H C fp b7) elt te)
  (hc:X.calm=true:=by rfl) (S:bO X scope N fr:=by exact bO.of rfl rfl) (hN:N.Nodup:=by decide +kernel) (h0:N[0]? = some x:=by rfl) (h1:N[1]? = some y:=by rfl) (hl:∀ (s:Shared) (H:Hp) (C:Addr) (fp:List Addr),(aU X scope N s H C fp b7).env.scope.names.lookup x=some .local:=by intro _ _ _ _; rfl) (hl2:∀ (s:Shared) (H:Hp) (C:Addr) (fp:List Addr),(aU X scope N s H C fp b7).env.scope.names.lookup y=some .local:=by intro _ _ _ _; rfl) (hf:fr[0]? = some none:=by rfl) (hf2:fr[1]? = some none:=by rfl)
  (hs:∀ x,foldedSetIterable iter X.env x=pure x:=by intro _; rfl):QE X (.ListComp elt [⟨m5 x y xp yp kt tp,iter,[],0⟩] scope pos) (c7 ti fr (lM 0 1) cO te):=
 bC (lB (gh:=fun _=>gM X.K 2 (dB (bL 0) (dB (bL 1) gL))) (tch:=fun H=>LT (X.frm H) cO) (teh:=fun H=>LE (X.frm H) te) hc S hi (F3 hc he (fun _ _ _ _=>oH) hN h0 h1 hl hl2) hs) fun _ _ _=>iT (yP _ 0 1) (fun i e=>by rcases e with e | e <;> (subst e; assumption))
theorem av9 {c:Expr}{tcs:bI} (hi:QI X (m5 x y xp yp kt tp) iter ti) (ht:∀ (s:Shared) (H:Hp) (C:Addr) (fp:List Addr),QT (aU X scope N s H C fp b7) c tcs) (he:∀ (s:Shared) (H:Hp) (C:Addr) (fp:List Addr),QE (aU X scope N s H C fp b7) elt te)
  (hc:X.calm=true:=by rfl) (S:bO X scope N fr:=by exact bO.of rfl rfl) (hN:N.Nodup:=by decide +kernel) (h0:N[0]? = some x:=by rfl) (h1:N[1]? = some y:=by rfl) (hl:∀ (s:Shared) (H:Hp) (C:Addr) (fp:List Addr),(aU X scope N s H C fp b7).env.scope.names.lookup x=some .local:=by intro _ _ _ _; rfl) (hl2:∀ (s:Shared) (H:Hp) (C:Addr) (fp:List Addr),(aU X scope N s H C fp b7).env.scope.names.lookup y=some .local:=by intro _ _ _ _; rfl) (hf:fr[0]? = some none:=by rfl) (hf2:fr[1]? = some none:=by rfl)
  (hs:∀ x,foldedSetIterable iter X.env x=pure x:=by intro _; rfl):QE X (.ListComp elt [⟨m5 x y xp yp kt tp,iter,[c],0⟩] scope pos) (c7 ti fr (lM 0 1) tcs te):=
 bC (lB (gh:=fun _=>gM X.K 2 (dB (bL 0) (dB (bL 1) gL))) (tch:=fun H=>LT (X.frm H) tcs) (teh:=fun H=>LE (X.frm H) te) hc S hi (F3 hc he (fun s H C fp=>nC (ht s H C fp)) hN h0 h1 hl hl2) hs) fun _ _ _=>iT (yP _ 0 1) (fun i e=>by rcases e with e | e <;> (subst e; assumption))
end
section
variable {X : Cx} {a b e o f : Expr} {ta tb te td tk tx : aB} {pos p2 apos cpos : Pos} {σ : L2.St} {H : Hp} {Q' : VK}
theorem aw0 {x:Str}{n:Int}{t:Nat} (hg:Gl X x) (hm:X.mg x=some (.int n t)) (hd:(x == ("__debug__" : Str))=false:=by decide):QE X (.Name x pos) (qC (.int n)):=
 bC (uR (v:=.int n) hg hm ⟨t,rfl⟩ hd) fun _ _ _=>lG fun _=>.int n
end
section
variable {X : Cx} {a b : Expr} {ta tb : aB} {pos : Pos}
def F4:PV->Tg->PV->Tg->PK->Prop:=fun x _ y _ Q=>∃ xs ys,x = .tup xs/\y = .tup ys/\flats xs=true/\flats ys=true/\xs.length+ys.length<=16000000/\Q (.tup (xs ++ ys)) .fr
abbrev oZ (ta tb:aB):aB:=q2 F4 ta tb
theorem aw1:dI X F4 (F1 X.K):=by
 rintro W Hs H u v x y g g' Q Q' s n r1 r2 ⟨xs,ys,rfl,rfl,f1,f2,hl,q⟩ k
 obtain ⟨a,us,rfl,h1,q1⟩:=r1.sqT
 obtain ⟨b,ws,rfl,h2,q2⟩:=r2.sqT
 have l1:=q1.length
 have l2:=q2.length
 refine⟨a,b,us,ws,rfl,rfl,aI.of h1,aI.of h2,lim (by omega),fun z=>?_,fun _ z=>?_,fun _ _ p hp=>k _ _ _ .fr (aY hp _) (.tup aV (((q1.flat f1).append (q2.flat f2)).same (aY hp _) fun _ z=>z)) q⟩
 ·obtain rfl:xs = []:=by cases xs with
   | nil=>rfl
   | cons _ _=>rw [z] at l1; cases l1
  exact k _ _ _ .fr (a9.refl _) (.tup h2 (q2.flat f2)) q
 ·obtain rfl:ys = []:=by cases ys with
   | nil=>rfl
   | cons _ _=>rw [z] at l2; cases l2
  rw [aN3] at q
  exact k _ _ _ .fr (a9.refl _) (.tup h1 (q1.flat f1)) q
theorem tY (ha:QE X a ta) (hb:QE X b tb):QE X (.BinOp a .Add b pos) (oZ ta tb):=gY av7 aw1 ha hb
end
end PP
namespace Core
open PySem L2 PP
section
variable (ws : List Int) (ls : List (Int × Int)) (os ns : List Int)
def bZ:Nat->List Int
 | 0=>[]
 | k+1=>bZ k ++ (os.find? (kin ws ls (ns ++ bZ k))).toList
def fP (k:Nat):Option Int:=os.find? (kin ws ls (ns ++ bZ ws ls os ns k))
def tZ (k:Nat):Prop:=(∀ j < k,fP ws ls os ns j ≠ none)/\fP ws ls os ns k=none
end
section
variable {ws : List Int} {ls : List (Int × Int)} {os ns : List Int}
theorem F5 {k:Nat}{h:Int} (e:fP ws ls os ns k=some h):bZ ws ls os ns (k+1)=bZ ws ls os ns k ++ [h]:=by
 show bZ ws ls os ns k ++ (fP ws ls os ns k).toList=_
 rw [e]; rfl
theorem aw2 {S T:List Int}{h:Int} (hk:kin ws ls S h=true) (st:∀ x ∈ S,x ∈ T) (hn:h ∉ T):kin ws ls T h=true:=by
 unfold kin at hk ⊢
 rw [aM2] at hk ⊢
 refine⟨by rw [aK5 hn]; rfl,aL7 ?_⟩
 have h1:=aS8 hk.2
 have h2:((bW ls h).filter fun x=>decide (x ∈ S)).length<=((bW ls h).filter fun x=>decide (x ∈ T)).length:=by
  rw [<- List.countP_eq_length_filter,<- List.countP_eq_length_filter]
  exact List.countP_mono_left fun x _ hx=>aL7 (st x (aS8 hx))
 omega
def aw3 (ws:List Int) (ls:List (Int × Int)) (T:List Int):Prop:=∀ h ∈ rng ws.length,kin ws ls T h=false
theorem aw4 {k:Nat}{h:Int} (e:fP ws ls os ns k=some h):h ∈ os/\h ∉ ns ++ bZ ws ls os ns k:=
 ⟨List.mem_of_find?_eq_some e,aT8 (A5 (List.find?_some e))⟩
theorem u0 (po:os.Perm (rng ws.length)) (hs:bQ ws.length ns=true):∀ k,(ns ++ bZ ws ls os ns k).Nodup/\∀ x ∈ ns ++ bZ ws ls os ns k,x ∈ rng ws.length
 | 0=>by
  rw [show bZ ws ls os ns 0 = [] from rfl,aN3]
  exact⟨(oN (oU hs).1).imp fun h=>Int.ne_of_lt h,fun x hx=>tM.mpr ((oU hs).2 x hx)⟩
 | k+1=>by
  obtain ⟨i1,i2⟩:=u0 po hs k
  cases e:fP ws ls os ns k with
  | none=>
   have:bZ ws ls os ns (k+1)=bZ ws ls os ns k:=by
    show bZ ws ls os ns k ++ (fP ws ls os ns k).toList=_
    rw [e]; exact aN3 _
   rw [this]; exact⟨i1,i2⟩
  | some h=>
   obtain ⟨n1,n2⟩:=aw4 e
   rw [F5 e,<- aU6]
   refine⟨aN4.mpr ⟨i1,aL8 _ _,fun x hx y hy=>?_⟩,fun x hx=>?_⟩
   ·rw [aJ5.mp hy]; intro z; subst z; exact n2 hx
   ·rcases aL9.mp hx with hx | hx
    ·exact i2 x hx
    ·rw [aJ5.mp hx]; exact po.mem_iff.mp n1
theorem u4 (po:os.Perm (rng ws.length)) (hs:bQ ws.length ns=true) (k:Nat):ns.length+(bZ ws ls os ns k).length<=ws.length:=by
 obtain ⟨i1,i2⟩:=u0 (ls:=ls) po hs k
 have:=i1.length_le_of_subset i2
 rw [hJ,aJ4] at this
 exact this
end
def p4:aX:=fun xs Q=>∃ ws ls x os,xs = [bP ws ls,x]/\ws.length<=40/\cM x os/\os.Perm (rng ws.length)/\Q (.bl true)
def F6:aL:=(bB (q2 (oA 2 false) (aF m3 (a7 (a6 1) aA)) (tQ (aF iF (a7 (a6 0) aA)))))
theorem F7 (n:Nat):(rng n).Pairwise (· <= ·):=by
 unfold rng
 rw [aR8]
 exact List.pairwise_lt_range.imp fun h=>by omega
theorem aw5:cH F6 ["web","numbers"] p4:=by
 rintro xs Q ⟨ws,ls,x,os,rfl,few,hx,po,q⟩
 have lo:=po.length_eq
 rw [hJ] at lo
 refine⟨_,rfl,_,os,rfl,hx.seq,by omega,fun ms pm sm=>?_⟩
 obtain rfl:ms=rng ws.length:=tV (pm.trans po) sm (F7 _)
 refine⟨_,rfl,ws,ls,rfl,_,rfl,by omega,by omega,?_⟩
 rw [E4]
 refine⟨.inr ⟨_,_,rfl,rfl⟩,al3 2 _ _,trivial,?_⟩
 show Q (.bl (c8 3 (.lst (intz (rng ws.length))) (.lst (intz (rng ((ws.length:Int).toNat))))))
 rw [show ((ws.length:Int).toNat)=ws.length from rfl,al2,aL7 rfl]
 exact q
def F8:Option Int->PV
 | none=>.non
 | some h=>.int h
def m6:aX:=fun xs Q=>∃ ws ls ps S x os,xs = [bP ws ls,.lst (gD ws.length ls),.dK ps,x]/\Wb ws ls/\DS ps S/\cM x os/\(∀ h ∈ os,h ∈ rng ws.length)/\Q (F8 (os.find? (kin ws ls S)))
def F9:aL:=(aS (eZ (dE (a6 3)) (bF 4)
  (cF (aZ (aF k8 (a7 (a6 0) (a7 (a6 1) (a7 (a6 2) (a7 (a6 4) aA)))))) (iQ 4) cK))
 (bB (qC .non)))
theorem aw6 {os:List Int}{p:Int->Bool}{i:Nat}{h:Int} (e:(os.take i).find? p=none) (hh:os[i]? = some h):(p h=true->os.find? p=some h)/\(p h=false->(os.take (i+1)).find? p=none):=by
 constructor
 ·intro hp
  have h1:os=os.take (i+1) ++ os.drop (i+1):=(List.take_append_drop _ _).symm
  rw [h1,List.find?_append,aO2,hh,List.find?_append,e]
  simp [hp]
 ·intro hp
  rw [aO2,hh,List.find?_append,e]
  simp [hp]
theorem aw7:cH F9 ["web","around","burning","order","hearth"] m6:=by
 rintro xs Q ⟨ws,ls,ps,S,x,os,rfl,wb,d,hx,inn,q⟩
 refine⟨_,rfl,_,hx.seq,lX hx,fun i ρ=>∃ y,ρ = [some (.sh (flat (bP ws ls)) (bP ws ls)),some (.sh (flat (.lst (gD ws.length ls))) (.lst (gD ws.length ls))),some (.sh (flat (.dK ps)) (.dK ps)),some (.sh (flat x) x),y]/\(os.take i).find? (kin ws ls S)=none,⟨none,rfl,rfl⟩,?_,?_⟩
 ·rintro i y ρ hy ⟨y0,rfl,fn⟩
  obtain ⟨h,rfl,hh⟩:=fB hy
  have hm:=tM.mp (inn h (aL1 hh))
  have ft:=aw6 fn hh
  refine⟨_,rfl,_,rfl,_,rfl,_,rfl,ws,ls,ps,S,h,rfl,wb,d,hm.1,hm.2,_,rfl,?_⟩
  cases hk:kin ws ls S h with
  | true=>
   refine b4 ⟨_,rfl,?_,?_⟩
   ·show Slot.nw (.sh (_ || true) _)
    rw [Bool.or_true]; trivial
   ·rw [ft.1 hk] at q; exact q
  | false=>exact aW ⟨some (.sh (_ || true) (.int h)),rfl,ft.2 hk⟩
 ·rintro ρ ⟨y,rfl,fn⟩
  rw [b6,aM5] at fn
  rw [fn] at q
  exact⟨trivial,q⟩
theorem m7 {i:Nat}{h:Int}{g:Bool}{ρ:b5}{Q:b5->Prop} (q:Q (ρ.set i (some (.sh true (.int h))))):bF i (.int h) g ρ Q:=by
 show Q (ρ.set i (some (.sh (g || true) (.int h))))
 rw [Bool.or_true]; exact q
def aw8 (ns S:List Int):Int:=(ns.length:Int) - (((ns.filter fun x=>decide (x ∈ S)).length:Nat):Int)
def aw9 (ws:List Int) (ls:List (Int × Int)) (S:List Int) (h:Int):Bool:=decide (aw8 (bW ls h) S < ws.getD h.toNat 0)
def stay (ws:List Int) (ls:List (Int × Int)) (S:List Int):List Int:=S.filter (aw9 ws ls S)
end Core
namespace L2
open PySem PySem.Spec PyProof.Rows
theorem G0:∀ (n:Nat) (ns:List Int),n<=ns.length->preSum (fun i=>ns.getD i 0) n=(ns.take n).sum
 | 0,_,_=>by simp [preSum]
 | n+1,ns,h=>by
  show preSum (fun i=>ns.getD i 0) n+ns.getD n 0=_
  have h1:ns[n]? = some (ns[n]'(by omega)):=aJ2 (by omega)
  have h2:ns.take (n+1)=ns.take n ++ [ns[n]'(by omega)]:=by rw [aO2,h1]; rfl
  have h3:ns.getD n 0=ns[n]'(by omega):=by rw [aL2,h1]; rfl
  rw [G0 n ns (by omega),h2,h3,List.sum_append,List.sum_cons,List.sum_nil]
  omega
section
variable {X : Cx}
theorem ax0 (hc:X.calm=true):bU X (.builtin "sum") (fun xs H Q=>∃ (a:Addr) (ns:List Int),xs = [.ref a]/\(aK X.K H a (ns.map V.int) ∨ aI X.K H a (ns.map V.int))/\Q (.int ns.sum) H):=by
 intro pins s σ H xs us Q I r h
 obtain ⟨a,ns,rfl,hq,q⟩:=h
 obtain ⟨u,rfl,ru⟩:=eC r
 cases ru
 have hh:X.A.in1.handled=none:=I.ok.hd hc
 have fin:∀ (its:List Value) (o:Obj) (wr:List Addr) (hw:∀ b ∈ wr,s.heap.objs.size<=b),aG (ns.map V.int) its->∀ s' t',Moved wr (fun a b=>b=a) { s with heap:=s.heap.push o } s'->
   ∃ x H',a5 X pins σ H' s'/\aO x (.int (preSum (fun i=>ns.getD i 0) its.toArray.size) t')/\Q x H':=fun its o wr hw rv s' t' hm=>by
  have hl:=rv.length
  rw [aJ3] at hl
  have e:=Moved.eq_with hm
  have e2:preSum (fun i=>ns.getD i 0) its.toArray.size=ns.sum:=by rw [aI9,<- hl,G0 _ _ (aJ0 _),aM5]
  rw [e2,e]
  refine⟨.int ns.sum,H,I.kept (t':=s'.toks) (h':=s'.heap) fun b o' eb=>hm.heap b o' (fun z=>?_) (aI8 _ eb),⟨t',rfl⟩,q⟩
  exact absurd (aK2 eb) (Nat.not_lt.mpr (hw b z))
 have val:∀ (its:List Value),aG (ns.map V.int) its->∀ (i:Nat) (v:Value),its.toArray[i]? = some v->∃ t,v = .int (ns.getD i 0) t:=fun its rv i v hv=>by
  have hi:its[i]? = some v:=by simpa using hv
  have hl:=rv.length
  rw [aJ3] at hl
  have hil:i < ns.length:=by rw [hl]; exact (aJ8.mp hi).1
  obtain ⟨u,e1,e2⟩:=rv.get (i:=i) (x:=.int ns[i]) (by simp [hil])
  rw [hi] at e1; cases e1
  obtain ⟨t,rfl⟩:=e2
  exact⟨t,by rw [aL2,aJ2 hil]; rfl⟩
 rcases hq with hq | hq
 ·obtain ⟨its,rv,p,hz⟩:=I.list hq
  have hlt:a < s.heap.objs.size:=by obtain ⟨o,e,_⟩:=p.isList; exact aK2 e
  refine call_sum_walkAnyS (wpAny_pyIter_list p.isList ?_)
  refine⟨s.heap.objs.size,_,_,_,_,_,_,fun i=>ns.getD i 0,rfl,(Walks.list hh s.heap.objs.size a (aM4 hlt) its.toArray).toS,⟨⟨_,aJ9 _ rfl,rfl,rfl⟩,p.isList.push _⟩,?_,val its rv,fun s' t' hm=>fin its _ _ ?_ rv s' t' hm⟩
  ·intro b hb
   have hs:(s.heap.push { cls:=.type "list_iterator",data:=.fields #[.ref a,.int 0 0] }).objs.size=s.heap.objs.size+1:=size_push' _ _
   show b < (s.heap.push _).objs.size
   rw [size_push']
   rcases aK0.mp hb with rfl | hb
   ·exact Nat.lt_succ_self _
   ·rw [aJ5.mp hb]; exact Nat.lt_succ_of_lt hlt
  ·intro b hb
   rw [aJ5.mp hb]; exact aJ0 _
 ·obtain ⟨its,rv,p,hz⟩:=I.tuple hq
  have hlt:a < s.heap.objs.size:=by obtain ⟨o,e,_⟩:=p; exact aK2 e
  refine call_sum_walkAnyS (wpAny_pyIter_tuple p ?_)
  refine⟨s.heap.objs.size,_,_,_,_,_,_,fun i=>ns.getD i 0,rfl,(Walks.tuple hh s.heap.objs.size a (aM4 hlt) its.toArray).toS,⟨⟨_,aJ9 _ rfl,rfl,rfl⟩,?_⟩,?_,val its rv,fun s' t' hm=>fin its _ _ ?_ rv s' t' hm⟩
  ·obtain ⟨o,e,h⟩:=p
   exact⟨o,aI8 _ e,h⟩
  ·intro b hb
   show b < (s.heap.push _).objs.size
   rw [size_push']
   rcases aK0.mp hb with rfl | hb
   ·exact Nat.lt_succ_self _
   ·rw [aJ5.mp hb]; exact Nat.lt_succ_of_lt hlt
  ·intro b hb
   rw [aJ5.mp hb]; exact aJ0 _
end
end L2
namespace PP
open PySem L2 PyProof.Rows
section
variable {X : Cx} {a b e : Expr} {ta tb te : aB} {tr : bX} {pos p2 : Pos}
def u5:List PV->(PV->Prop)->Prop:=fun xs Q=>∃ x ns,xs = [x]/\fV x=some (intz ns)/\Q (.int ns.sum)
theorem ax1:e7 X u5 (fun xs H Q=>∃ (a:Addr) (ns:List Int),xs = [.ref a]/\(aK X.K H a (ns.map V.int) ∨ aI X.K H a (ns.map V.int))/\Q (.int ns.sum) H):=by
 rintro H vs xs Q Q' r ⟨x,ns,rfl,e,q⟩ k
 obtain ⟨v,rfl,r1⟩:=r.one
 obtain ⟨a,us,rfl,hs,r2⟩:=r1.seq e
 obtain rfl:=r2.ofInts
 exact⟨a,ns,rfl,hs,k _ _ _ (a9.refl _) (.int _) q⟩
theorem ax2 (B:Bt X.mg) (hc:X.calm=true) (ha:QA X [e] tr) (hg:Gl X "sum":=by rfl) (he:starEach [e] X.env=(false,eval e X.env) :: starEach [] X.env:=by rfl) (hpl:(backTo pos (starEach [] X.env)).any (·.1)=false:=by rfl):QE X (.Call (.Name "sum" p2) [e] [] pos) (aF u5 tr):=
 iY (ax0 hc) ax1 hg B.sum PyProof.Rows.boot_sum ha (he:=he) (hpl:=hpl)
end
end PP
namespace Core
open PySem L2 PP
theorem rP {ls:List (Int × Int)}{wts:List Int} (e:wts.length=ls.length):(ls.zip wts).map (·.2)=wts:=by
 rw [List.map_snd_zip]; omega
section
variable {ws : List Int} {ls : List (Int × Int)} {ns wts : List Int} {m : Nat}
def loose (ls:List (Int × Int)) (wts ns:List Int):List ((Int × Int) × Int):=(ls.zip wts).filter fun z=>!(decide (z.1.1 ∈ ns) && decide (z.1.2 ∈ ns))
end
end Core
set_option maxHeartbeats 1000000
set_option maxHeartbeats 1000000
set_option maxHeartbeats 1000000
set_option maxHeartbeats 1000000
namespace PP
open PySem L2 PyProof.Rows
abbrev dG:=(Str->Prop)->aX
def EX (K:PySem.W.Frag) (H0:Hp) (Ep:Str->Prop):XK:=fun c d H'=>d=none/\a9 H0 H'/\∃ n C,c = .ref C/\PySem.W.nsIn K mainGlobals n=some (some (.ref C))/\Ep n
def G1 (K:PySem.W.Frag) (p:dG):Sp:=fun vs H Q E=>∃ xs Qp Ep,Reps K (fun _=>True) H vs xs/\p Ep xs Qp/\(∀ v H' x,a9 H H'->aE K (fun a=>H a=none) H' v x->Qp x->Q v H')/\
 ∀ n C H',a9 H H'->PySem.W.nsIn K mainGlobals n=some (some (.ref C))->Ep n->E (.ref C) none H'
structure c9 (P:Program) (w:World) (K:PySem.W.Frag) (mg:Str->Option Value) (base:Heap) (k:Nat) (x:Str) (ps:List Str) (p:dG):Prop where
 ex:∃ f fd,bV P w K mg base (dA P w) k f fd ps (G1 K p)/\eR K fd ps []/\PySem.W.keepIn K (.ref f)=true/\mg x=some (.ref f)
section
variable {X : Cx} {σ : L2.St} {H : Hp} {D : cA} {tr : bX} {Q' : VK} {a b c e : Expr} {es : List Expr} {pos p2 cp np hp : Pos} {t : aL} {te : aB} {tc : bI}
def kA (Ep:Str->Prop) (p:dG) (t:bX):aB:=aF (p Ep) t
theorem G2 {p:dG}{Ep:Str->Prop} (h:LE X (kA Ep p tr) σ H Q'):mP (G1 X.K p) [] (EX X.K X.H₀ Ep) (LA X tr) σ H Q':=by
 obtain ⟨W,ρ,Q,px,q,k⟩:=h
 refine⟨W,ρ,_,px,q,fun vs H1 xs s1 r1 q1=>⟨_,_,Ep,by rw [aN3]; exact r1.any,q1,fun v H' x s2 r2 q2=>k v H' x .fr (s1.trans s2) (r2.same (a9.refl _) fun _ z=>s1.free z) q2,fun n C H' s2 z1 z2=>⟨rfl,(px.same.trans s1).trans s2,n,C,rfl,z1,z2⟩⟩⟩
theorem p5 {Ep:Str->Prop}{k j:Nat}{x:Str}{ps:List Str}{p:dG} (hX:k6 X (EX X.K X.H₀ Ep)) (d:c9 X.prog X.w X.K X.mg X.base k x ps p) (hr:bE j X.A) (ha:QA X (e :: es) tr) (hkj:k<=j:=by decide) (hg:Gl X x:=by rfl) (hdb:(x == ("__debug__" : Str))=false:=by decide)
  (he:starEach (e :: es) X.env=(false,eval e X.env) :: starEach es X.env:=by rfl) (hpl:(backTo pos (starEach es X.env)).any (·.1)=false:=by rfl):QE X (.Call (.Name x p2) (e :: es) [] pos) (kA Ep p tr):=by
 obtain ⟨f,fd,F,b,kp,m⟩:=d.ex
 exact bC (mQ F (hr.mono hkj) hg m kp b .nil hX.pass ha hdb he hpl) fun _ _ _=>G2
theorem G3 {k j:Nat}{x:Str}{ps:List Str}{p:dG} (d:c9 X.prog X.w X.K X.mg X.base k x ps p) (hr:bE j X.A) (ha:QA X (e :: es) tr) (hkj:k<=j:=by decide) (hg:Gl X x:=by rfl) (hdb:(x == ("__debug__" : Str))=false:=by decide)
  (he:starEach (e :: es) X.env=(false,eval e X.env) :: starEach es X.env:=by rfl) (hpl:(backTo pos (starEach es X.env)).any (·.1)=false:=by rfl):QE X (.Call (.Name x p2) (e :: es) [] pos) (aF (p fun _=>False) tr):=by
 obtain ⟨f,fd,F,b,kp,m⟩:=d.ex
 refine bC (mQ F (E:=EX X.K X.H₀ fun _=>False) (hr.mono hkj) hg m kp b .nil (fun _ _ _ _ _ _ _ h=>?_) ha hdb he hpl) fun _ _ _ h=>G2 (Ep:=fun _=>False) h
 obtain ⟨_,_,_,_,_,_,_,_,_,_,_,_,z⟩:=h
 exact z.elim
def m8 (Ep:Str->Prop) (n:Str) (t:bX):aL:=fun _ ρ=>t ρ fun xs=>xs.length<=1000/\Ep n
theorem ax3 {Ep:Str->Prop}{n:Str}{C:Addr} (hn:PySem.W.nsIn X.K mainGlobals n=some (some (.ref C))) (h:LS X (m8 Ep n tr) D σ H):zS (EX X.K X.H₀ Ep) C (LA X tr) D σ H:=by
 obtain ⟨W,ρ,D',px,q,k⟩:=h
 exact⟨W,ρ,_,px,q,fun vs H1 xs s1 r z=>⟨by rw [r.length]; exact nW z.1,rfl,px.same.trans s1,n,C,rfl,hn,z.2⟩⟩
structure Xc (K:PySem.W.Frag) (mg:Str->Option Value) (base:Heap) (n:Str):Prop where
 ex:∃ C B newId initId bm,OwnCls n C bm newId mg base/\ExcBaseFacts B newId initId bm/\PySem.W.nsIn K mainGlobals n=some (some (.ref C))
theorem u6 {Ep:Str->Prop}{n:Str} (hX:k6 X (EX X.K X.H₀ Ep)) (x:Xc X.K X.mg X.base n) (ha:QA X (e :: es) tr) (hc:X.calm=true:=by rfl) (hg:Gl X n:=by rfl) (hd:(n == ("__debug__" : Str))=false:=by decide)
  (he:starEach (e :: es) X.env=(false,eval e X.env) :: starEach es X.env:=by rfl) (hpl:(backTo cp (starEach es X.env)).any (·.1)=false:=by rfl):QS X (.Raise (some (.Call (.Name n np) (e :: es) [] cp)) none pos) (m8 Ep n tr):=by
 obtain ⟨C,B,newId,initId,bm,O,FB,hn⟩:=x.ex
 exact cS (ao7 hX hc O FB ha hg hd he hpl) fun _ _ _=>ax3 hn
abbrev kB:=gX->(Str->Prop)->b5->Prop
def LB (X:Cx) (t:kB):TB:=fun D Ex σ H=>∃ (W:Addr->Prop) (ρ:b5) (D':gX) (Ep:Str->Prop),PX X.K X.H₀ W σ ρ H/\t D' Ep ρ/\jQ X W H D' D/\∀ n C H',a9 H H'->PySem.W.nsIn X.K mainGlobals n=some (some (.ref C))->Ep n->Ex (.ref C) none H'
def QB (X:Cx) (sts:List Stmt) (t:kB):Prop:=PB X sts (LB X t)
theorem pbI {sts:List Stmt}{t t':TB} (h:PB X sts t) (m:∀ D Ex σ H,t' D Ex σ H->t D Ex σ H):PB X sts t':=fun pins s σ H D Ex I q=>h pins s σ H D Ex I (m D Ex σ H q)
def G4 (p:dG) (t:bX):kB:=fun D Ep ρ=>t ρ fun xs=>p Ep (xs.map (·.1)) fun _=>D.nx ρ
theorem ax4 {k j:Nat}{x:Str}{ps:List Str}{p:dG} (d:c9 X.prog X.w X.K X.mg X.base k x ps p) (hr:bE j X.A) (ha:∀ E,QA (X.wish E) (e :: es) tr) (hkj:k<=j:=by decide) (hg:Gl X x:=by rfl) (hdb:(x == ("__debug__" : Str))=false:=by decide)
  (he:starEach (e :: es) X.env=(false,eval e X.env) :: starEach es X.env:=by rfl) (hpl:(backTo cp (starEach es X.env)).any (·.1)=false:=by rfl) (hsw:swapsWith (.Call (.Name x p2) (e :: es) [] cp) none pos.line X.env=pure false:=by rfl):QB X [.Expr (.Call (.Name x p2) (e :: es) [] cp) pos] (G4 p tr):=by
 obtain ⟨f,fd,F,b,kp,m⟩:=d.ex
 refine pbI (ap1 (t:=LA X tr) F (hr.mono hkj) hg m kp b (fun E=>ha E) hdb he hpl hsw) fun D Ex σ H h=>?_
 obtain ⟨W,ρ,D',Ep,px,q,k,ke⟩:=h
 exact⟨W,ρ,_,px,q,fun vs H1 xs s1 r q1=>⟨_,_,Ep,r.any,q1,fun v H' x s2 r2 q2=>k.nx W σ H' ρ (Ev.same (s1.trans s2)) (px.mono (s1.trans s2)) q2,fun n C H' s2 z1 z2=>ke n C H' (s1.trans s2) z1 z2⟩⟩
def G5 (D:gX) (i:Nat):gX:={ nx:=fun ρ=>D.nx (ρ.set i none),rt:=D.rt,bk:=fun ρ=>D.bk (ρ.set i none),ct:=fun ρ=>D.ct (ρ.set i none) }
def kC:List Str:=["BadWeb","BadSet","BadOrder","BadPrices","BadBoard","BadDeed","NotWood","NoPaper","NoSuch","TooMany","NoText","OddRound"]
def j9 (n m:Str):Option Bool:=if kC.contains n then some (n == m || m == "HearthError" || m == "ValueError") else none
def u7 (m:Str) (i:Nat) (tb:kB) (ts:aL):aL:=fun D ρ=>tb D (fun n=>j9 n m=some true/\ts (G5 D i) (ρ.set i (some (.sh true (.exc n))))) ρ
theorem ax5 {m:Str}{Ch:Addr}{i:Nat}{tb:kB}{ts:aL} (hs:∀ n C,j9 n m=some true->PySem.W.nsIn X.K mainGlobals n=some (some (.ref C))->PySem.W.subIn X.K (.ref C) (.ref Ch)=some true) (h:LS X (u7 m i tb ts) D σ H):zU X.K Ch i (LB X tb) (LS X ts) D σ H:=by
 obtain ⟨W,ρ,D',px,q,k⟩:=h
 refine⟨W,ρ,D',_,px,q,k,fun n C H' s z1 z2 a C' oe hc na hcl=>?_⟩
 cases hc
 refine⟨hs n C z2.1 z1,W,_,G5 D' i,(px.mono (s.trans (aY na _))).setSh (g:=true) (.exc aV z1 hcl),z2.2,?_⟩
 have k':=k.step (Ev.same (W:=W) (s.trans (aY na (.frz oe (.own a)))))
 exact⟨fun W' σ' H2 ρ' ev px' q'=>k'.nx W' _ H2 _ ev px'.setNone q',k'.rt,fun W' σ' H2 ρ' ev px' q'=>k'.bk W' _ H2 _ ev px'.setNone q',fun W' σ' H2 ρ' ev px' q'=>k'.ct W' _ H2 _ ev px'.setNone q'⟩
structure u8 (K:PySem.W.Frag) (mg:Str->Option Value) (m:Str):Prop where
 ex:∃ Ch,mg m=some (.ref Ch)/\tL K Ch/\∀ n C,j9 n m=some true->PySem.W.nsIn K mainGlobals n=some (some (.ref C))->PySem.W.subIn K (.ref C) (.ref Ch)=some true
theorem ax6 (i:Nat) {m n:Str}{b₀:Stmt}{suite body:List Stmt}{tb:kB}{ts:aL} (ct:u8 X.K X.mg m) (hN:X.N.Nodup) (hb:QB X body tb) (hs:∀ a,dR (X.suite a) (b₀ :: suite) ts) (hstk:X.stack=X.env :: X.outer/\X.env.frame=some X.env.locals:=by exact⟨rfl,rfl⟩) (hi:X.N[i]? = some n:=by rfl) (hl:X.env.scope.names.lookup n=some .local:=by rfl) (hg:Gl X m:=by rfl)
  (hd:(m == ("__debug__" : Str))=false:=by decide):QS X (.Try body [.ExceptHandler (some (.Name m np)) (some n) (b₀ :: suite) hp] [] [] pos) (u7 m i tb ts):=by
 obtain ⟨Ch,hm,c,sub⟩:=ct.ex
 exact cS (ap2 (ts:=LS X ts) hstk hb hg hm c hN hi hl (fun a=>t5 (hs a) fun _ _ _ ⟨W,ρ,D',px,q,k⟩=>⟨W,ρ,D',px,q,⟨k.nx,k.rt,k.bk,k.ct⟩⟩) hd) fun _ _ _=>ax5 sub
def fF:V->Value
 | .ref a=>.ref a
 | .ty n=>.type n
 | _=>.none
def ax7 (K:PySem.W.Frag):List V->Hp->VK->Prop:=fun xs H Q=>∃ v v2 b,xs = [v,v2]/\fF v2 ≠ .none/\((∃ a o C,v = .ref a/\H a=some (.frz o (.own a))/\o.cls = .ref C/\gC K C/\PySem.W.kitOne K (.ref C) (fF v2)=some b) ∨ (v = .non/\PySem.W.kitOne K (.type "NoneType") (fF v2)=some b))/\Q (.bl b) H
theorem ax8:bU X (.builtin "isinstance") (ax7 X.K):=by
 intro pins s σ H xs us Q I r h
 obtain ⟨v,v2,b,rfl,hv,hk,q⟩:=h
 obtain ⟨u,u',rfl,ru,ru'⟩:=kW r
 obtain rfl:u'=fF v2:=by
  cases v2 <;> first | exact ru' | exact absurd rfl hv
 rcases hk with ⟨a,o,C,rfl,hH,hc,F,e⟩ | ⟨rfl,e⟩
 ·obtain ⟨h1,_⟩:=I.hok a _ hH
  cases (show u=Value.ref a from ru)
  exact aN9 (ap9 F) I.kIn ⟨o,h1,hc⟩ e (fun z=>nomatch z) fun tk=>⟨.bl b,H,I.tok tk,rfl,q⟩
 ·cases (show u=Value.none from ru)
  exact aN9 PySem.W.kitx_none I.kIn trivial e (fun z=>nomatch z) fun tk=>⟨.bl b,H,I.tok tk,rfl,q⟩
def ax9 (m:Str):PV->Option Bool
 | .exc n=>j9 n m
 | .non=>some false
 | _=>none
def kD (m:Str) (te:aB):aB:=fun ρ Q=>te ρ fun x _=>∃ b,ax9 m x=some b/\Q (.bl b) .fr
structure u9 (K:PySem.W.Frag) (m:Str) (v2:V):Prop where
 nn:fF v2 ≠ .none
 ex:∀ n C b,PySem.W.nsIn K mainGlobals n=some (some (.ref C))->j9 n m=some b->gC K C/\PySem.W.kitOne K (.ref C) (fF v2)=some b
 no:PySem.W.kitOne K (.type "NoneType") (fF v2)=some false
theorem G6 {x:Str}{v2:V}{px:Pos} (B:Bt X.mg) (A:u9 X.K x v2) (hx:PE X (.Name x px) (tC v2)) (ha:QE X a te) (hg:Gl X "isinstance":=by rfl)
  (he:starEach [a,.Name x px] X.env=(false,eval a X.env) :: starEach [.Name x px] X.env:=by rfl) (he2:starEach [.Name x px] X.env=(false,eval (.Name x px) X.env) :: starEach [] X.env:=by rfl) (hpl:(backTo pos (starEach [.Name x px] X.env)).any (·.1)=false:=by rfl):QE X (.Call (.Name "isinstance" p2) [a,.Name x px] [] pos) (kD x te):=
 bC (kX ax8 hg B.isinst PyProof.Rows.boot_isinstance (cN ha (cN hx dH he2) he) (he:=he) (hpl:=hpl)) fun σ H Q' h=>by
  obtain ⟨W,ρ,Q,px,q,k⟩:=h
  refine⟨W,ρ,_,px,q,?_⟩
  rintro v H1 y g s r ⟨b,e,q⟩
  refine⟨v,v2,b,rfl,A.nn,?_,k _ _ _ .fr s (.bl _) q⟩
  cases r with
  | exc h z c=>
   obtain ⟨F,kt⟩:=A.ex _ _ _ z e
   exact .inl ⟨_,_,_,rfl,h,c,F,kt⟩
  | non=>cases e; exact .inr ⟨rfl,A.no⟩
  | _=>cases e
end
section
variable {X : Cx} {a : Expr} {pos p2 px : Pos} {te : aB}
structure m9 (K:PySem.W.Frag) (mg:Str->Option Value) (m:Str):Prop where
 ex:∃ C,mg m=some (.ref C)/\u9 K m (.ref C)
structure uA (K:PySem.W.Frag) (mg:Str->Option Value):Prop where
 mg:mg "ValueError" = none
 is:u9 K "ValueError" (.ty "ValueError")
theorem G7 {x:Str} (B:Bt X.mg) (A:m9 X.K X.mg x) (ha:QE X a te) (hgx:Gl X x:=by rfl) (hdx:(x == ("__debug__" : Str))=false:=by decide) (hg:Gl X "isinstance":=by rfl)
  (he:starEach [a,.Name x px] X.env=(false,eval a X.env) :: starEach [.Name x px] X.env:=by rfl) (he2:starEach [.Name x px] X.env=(false,eval (.Name x px) X.env) :: starEach [] X.env:=by rfl) (hpl:(backTo pos (starEach [.Name x px] X.env)).any (·.1)=false:=by rfl):QE X (.Call (.Name "isinstance" p2) [a,.Name x px] [] pos) (kD x te):=by
 obtain ⟨C,m,i⟩:=A.ex
 exact G6 B i (uR hgx m rfl hdx) ha hg he he2 hpl
theorem ay0 (B:Bt X.mg) (A:uA X.K X.mg) (ha:QE X a te) (hgx:Gl X "ValueError":=by rfl) (hg:Gl X "isinstance":=by rfl)
  (he:starEach [a,.Name "ValueError" px] X.env=(false,eval a X.env) :: starEach [.Name "ValueError" px] X.env:=by rfl) (he2:starEach [.Name "ValueError" px] X.env=(false,eval (.Name "ValueError" px) X.env) :: starEach [] X.env:=by rfl) (hpl:(backTo pos (starEach [.Name "ValueError" px] X.env)).any (·.1)=false:=by rfl):QE X (.Call (.Name "isinstance" p2) [a,.Name "ValueError" px] [] pos) (kD "ValueError" te):=
 G6 B A.is (uS (v:=.ty "ValueError") hgx A.mg PyProof.Rows.Boot.«ValueError» rfl (by decide) (by decide)) ha hg he he2 hpl
end
structure iG (K:PySem.W.Frag) (C:Addr):Prop where
 cls:PySem.W.isClsIn K C=true
 ty:PySem.W.typeIn K (.ref C)=some (.type "type")
 ga:PySem.W.findIn K (.ref C) "__getattribute__" = some (some (.builtin "BaseException.__getattribute__"))
 gt:PySem.W.findIn K (.ref C) "__getattr__" = some none
 fc:PySem.W.findIn K (.ref C) "__class__" = some (some (.builtin "object.__class__"))
 fg:PySem.W.specialIn K (.builtin "object.__class__") "__get__" = some (some (.builtin "getset_descriptor.__get__"))
 ft:PySem.W.takesIn K (.builtin "object.__class__")=some true
 ob:PySem.W.mroIn K C (.type "object")=some true
 be:PySem.W.mroIn K C (.type "BaseException")=some true
theorem iG.exc {K:PySem.W.Frag}{C:Addr} (h:iG K C):gC K C:=⟨h.cls,h.ga,h.gt,h.fc,h.fg,h.ft,h.ob,h.be⟩
theorem uB {K:PySem.W.Frag}{h₀:Heap}{mg:Str->Option Value}{x:Str}{C:Addr}{bmB:List Value}{newId:String} (X:K.In h₀) (m:mg x=some (.ref C)) (q:PySem.W.excIn K C bmB newId=true):OwnCls x C bmB newId mg h₀:=by
 refine⟨m,?_⟩
 unfold PySem.W.excIn at q
 split at q
 case h_2=>cases q
 rename_i dd cd sl ho
 split at q
 case h_2=>cases q
 rename_i C' bm k0 k1 k2 k3 n k5 hm hs
 simp only [aM2,beq_iff_eq,Bool.not_eq_true'] at q
 obtain ⟨⟨⟨⟨⟨rfl,rfl⟩,dl⟩,ht⟩,hok⟩,hni⟩:=q
 obtain ⟨nm,bs,mro,ns,qn,hd,sn,sub,ab,col,del⟩:=cd
 dsimp only at hm dl hok hni
 subst hm dl
 obtain rfl:sl = #[k0,k1,k2,k3,some (.builtin n),k5]:=by
  obtain ⟨l⟩:=sl
  exact congrArg Array.mk hs
 exact⟨bm,ns,nm,qn,bs,hd,sn,sub,ab,col,dd,k0,k1,k2,k3,k5,_,X _ _ ho,.of_isNs (PySem.W.isNs_of_in X hok),PySem.W.nsMap_none_of_in X hok hni,PySem.W.tail_of_in X ht⟩
theorem p6 {n m:Str}{b:Bool} (h:j9 n m=some b):n ∈ kC/\b=(n == m || m == "HearthError" || m == "ValueError"):=by
 unfold j9 at h
 split at h
 ·rename_i z
  exact⟨by simpa using z,by cases h; rfl⟩
 ·cases h
theorem p7 {K:PySem.W.Frag}{C D:Addr}{b:Bool} (hd:iG K D) (ne:(C == D)=false) (s:PySem.W.subIn K (.ref C) (.ref D)=some b):PySem.W.kitOne K (.ref C) (.ref D)=some b:=by
 have ne':(Value.ref C == Value.ref D)=false:=by
  rw [aS0] at ne ⊢
  exact fun z=>ne (Value.ref.inj z)
 have c:=hd.cls
 unfold PySem.W.isClsIn at c
 unfold PySem.W.kitOne PySem.W.kitCls
 rw [if_neg (by rw [ne']; decide)]
 dsimp only
 rw [if_pos (by rw [c,hd.ty]; decide)]
 exact s
theorem G8 {K:PySem.W.Frag}{C:Addr}:PySem.W.kitOne K (.ref C) (.ref C)=some true:=by
 unfold PySem.W.kitOne
 rw [if_pos (aP1 _)]
theorem uC {K:PySem.W.Frag}{C:Addr} (s:PySem.W.subIn K (.ref C) (.type "ValueError")=some true):PySem.W.kitOne K (.ref C) (.type "ValueError")=some true:=by
 unfold PySem.W.kitOne PySem.W.kitCls
 rw [if_neg (fun z=>by cases beq_iff_eq.mp z)]
 dsimp only
 rw [if_pos (by decide +kernel)]
 exact s
theorem G9 {K:PySem.W.Frag}{D:Addr} (hd:iG K D) (s:PySem.W.subIn K (.type "NoneType") (.ref D)=some false):PySem.W.kitOne K (.type "NoneType") (.ref D)=some false:=by
 have c:=hd.cls
 unfold PySem.W.isClsIn at c
 unfold PySem.W.kitOne PySem.W.kitCls
 rw [if_neg (fun z=>by cases beq_iff_eq.mp z)]
 dsimp only
 rw [if_pos (by rw [c,hd.ty]; decide)]
 exact s
theorem ay1 {K:PySem.W.Frag}:PySem.W.kitOne K (.type "NoneType") (.type "ValueError")=some false:=by
 have e:(if PySem.W.kitMeta "ValueError" = true then (fastBuiltinMro "NoneType").map (·.contains (Value.type "ValueError")) else none)=some false:=by decide +kernel
 unfold PySem.W.kitOne
 rw [if_neg (by decide)]
 exact e
theorem c9.of {P:Program}{w:World}{K:PySem.W.Frag}{mg:Str->Option Value}{base:Heap}{k:Nat}{x:Str}{ps N:List Str}{p:dG}{st:Stmt}{f:Addr}{fd:FuncData} (F:cV K x x st f fd) (m:mg x=some (.ref f)) (S:FnScope N ps (aN st))
  (hb:∀ (kV doc pm:Value) (an:Option Addr) (cdv ct:Value) (us:List Value),us.length=ps.length->bindArgs (PySem.W.fnOf x x (fG st) (cR st) (aN st) .none kV doc pm an cdv ct) ⟨us,[]⟩=pure (ps.zip us))
  (t:(Str->Prop)->aL) (len:∀ Ep xs Q,p Ep xs Q->xs.length=ps.length) (rd:∀ Ep xs Q,p Ep xs Q->t Ep { nx:=fun _=>Q .non,rt:=Q } (dL N xs))
  (body:∀ (cdv:Value) (A:Around) (outer:List Env) (s:Shared) (H:Hp) (E:XK) (Ep:Str->Prop),bE k (A.deeper (envOfC x (aN st) s.heap.objs.size f cdv))->k6 (cC (dA P w) P w K mg base N x (aN st) f cdv A outer s H E) (EX K H Ep)->
   dR (cC (dA P w) P w K mg base N x (aN st) f cdv A outer s H E) (cR st) (t Ep)):c9 P w K mg base (k+1) x ps p:=by
 refine⟨f,fd,F.okX S (fun vs H Q E h=>?_) (fun cdv A outer s H vs Q E hr h=>?_),F.binds hb,F.kp,m⟩
 ·obtain ⟨xs,Qp,Ep,r,q,_⟩:=h
  rw [r.length]; exact len Ep xs Qp q
 ·obtain ⟨xs,Qp,Ep,r,q,k,ke⟩:=h
  have ht:=body cdv A outer s H E Ep hr (ao6 fun c d H' z=>?_)
  ·refine⟨_,ht,fun _=>False,dL N xs,_,oG r,rd Ep xs Qp q,?_,?_,?_,?_⟩
   ·exact fun W' σ' H' ρ' e px q=>k _ _ _ px.same .non q
   ·exact fun v H' x s r q=>k _ _ _ s r q
   ·exact fun W' σ' H' ρ' e px q=>q
   ·exact fun W' σ' H' ρ' e px q=>q
  ·obtain ⟨rfl,s1,n,C,rfl,z1,z2⟩:=z
   exact ke n C H' s1 z1 z2
end PP
namespace Core
open PySem L2 PP
abbrev mB (t:(Str->Prop)->aL) (N:List Str) (p:dG):Prop:=∀ Ep xs Q,p Ep xs Q->t Ep { nx:=fun _=>Q .non,rt:=Q } (dL N xs)
def p9:dG:=fun Ep xs Q=>∃ ws ls x ns,xs = [bP ws ls,x]/\cM x ns/\ns.length<=1000/\(bQ ws.length ns=true->Q (.tup (intz ns)))/\(bQ ws.length ns=false->Ep "BadSet")
def J0 (Ep:Str->Prop):aL:=(aS (cF (iP (aZ (aF oR (a7 (a6 0) (a7 (a6 1) aA))))) (m8 Ep "BadSet" (a7 (qC (.str "a set is of rising hearths of the web")) aA)) cK)
 (bB (aF fL (a7 (a6 1) aA))))
theorem ay2:mB J0 ["web","hearths"] p9:=by
 rintro Ep xs Q ⟨ws,ls,x,ns,rfl,hx,hl,q1,q2⟩
 refine⟨_,rfl,_,rfl,ws,ls,x,ns,rfl,hx,hl,_,rfl,?_⟩
 cases h:bQ ws.length ns with
 | true=>exact aW ⟨_,rfl,⟨_,_,rfl,hx.seqT,cD _,trivial,q1 h⟩,hx.noscr⟩
 | false=>exact b4 ⟨by decide,q2 h⟩
end Core
namespace PP
open PySem L2
mutual
theorem aE.thaw {K:PySem.W.Frag}{M M':Addr->Prop}{H:Hp}{a:Addr}{o:Obj}{kvs:List (List aD × V)}{u:HO} (h:H a=some (.frz o (.dT kvs))):∀ {v:V}{x:PV},flat x=true->aE K M H v x->aE K M' (upd H a u) v x
 | _,_,_,.non=>.non
 | _,_,_,.bl b=>.bl b
 | _,_,_,.int i=>.int i
 | _,_,_,.str x=>.str x
 | _,_,f,.tup e r=>.tup (by rw [aJ (fun z=>by rw [z,h] at e; cases e)]; exact e) (Reps.thaw h (by unfold PP.flat at f; exact f) r)
 | _,_,f,.lst m e r=>by unfold PP.flat at f; cases f
 | _,_,f,.dK m e q r=>by unfold PP.flat at f; cases f
 | _,_,f,.dT m e q r=>by unfold PP.flat at f; cases f
 | _,_,_,.scr e=>.scr (e.elim (fun ⟨o',e'⟩=>.inl ⟨o',by rw [aJ (fun z=>by rw [z,h] at e'; cases e')]; exact e'⟩) .inr)
 | _,_,f,.kt e r=>.kt e (Reps.thaw h (by unfold PP.flat at f; exact f) r)
 | _,_,_,.exc e n c=>.exc (by rw [aJ (fun z=>by rw [z,h] at e; cases e)]; exact e) n c
theorem Reps.thaw {K:PySem.W.Frag}{M M':Addr->Prop}{H:Hp}{a:Addr}{o:Obj}{kvs:List (List aD × V)}{u:HO} (h:H a=some (.frz o (.dT kvs))):∀ {vs:List V}{xs:List PV},flats xs=true->Reps K M H vs xs->Reps K M' (upd H a u) vs xs
 | _,_,_,.nil=>.nil
 | _,_,f,.cons r t=>by
  unfold PP.flats at f
  rw [aM2] at f
  exact .cons (aE.thaw h f.1 r) (Reps.thaw h f.2 t)
end
theorem Reps.keys {K:PySem.W.Frag}{M:Addr->Prop}{H:Hp}:∀ (k:List aD),Reps K M H (k.map kV) (k.map kP)
 | []=>.nil
 | .inl i :: r=>.cons (.int i) (Reps.keys r)
 | .inr x :: r=>.cons (.str x) (Reps.keys r)
theorem J1 {α β:Type}{F:α->β->Prop}:∀ {l:List α}{m:List β}{i:Nat}{x:α},Paired F l m->l[i]? = some x->∃ y,m[i]? = some y/\F x y
 | _,_,_,_,.nil,e=>by simp at e
 | _,_,0,_,.cons r _,e=>by simp at e; subst e; exact⟨_,rfl,r⟩
 | _,_,i+1,x,.cons _ t,e=>by
  rw [aM0] at e
  obtain ⟨y,h1,h2⟩:=J1 t e
  exact⟨y,by rw [aM0]; exact h1,h2⟩
theorem J2:∀ {xs:List PV}{y:PV},flats xs=true->flat y=true->flats (xs ++ [y])=true
 | [],y,_,f=>by show (flat y && flats [])=true; rw [f]; rfl
 | x :: r,y,h,f=>by
  unfold flats at h
  rw [aM2] at h
  show (flat x && flats (r ++ [y]))=true
  rw [h.1,J2 h.2 f]; rfl
theorem ay3 {K:PySem.W.Frag}{H0:Hp}{W:Addr->Prop}{σ:St}{ρ:b5}{H1 H':Hp}{D a:Addr}{o:Obj}{kvs:List (List aD × V)}{acc:List V}{fr:List (Option Nat)} (px:PX K H0 W σ ρ H1) (ha:H1 a=some (.dT kvs)) (hD:upd H1 a (.frz o (.dT kvs)) D=none) (s:a9 (upd H1 a (.frz o (.dT kvs))) H') (hl:H' D=some (.lst acc))
  (fl:∀ m,some m ∈ eI fr ρ->flat m.val=true):PX K (upd H1 a (.frz o (.dT kvs))) (fA D) (cW fr σ) (eI fr ρ) H':=by
 refine⟨by unfold cW eI; rw [aJ3,aJ3],s,fun b z=>by cases z; exact⟨hD,_,hl,rfl⟩,fun i m h=>?_,fun i j x y b h1=>?_⟩
 ·have fm:=fl m (aL1 h)
  unfold eI at h
  rw [aJ6] at h
  cases ef:fr[i]? with
  | none=>rw [ef] at h; cases h
  | some o2=>
   rw [ef] at h
   cases o2 with
   | none=>cases h
   | some j=>
    have h:some ((ρ[j]?).join.map fun m=>Slot.sh false m.val)=some (some m):=h
    cases er:ρ[j]? with
    | none=>rw [er] at h; cases h
    | some o3=>
     rw [er] at h
     cases o3 with
     | none=>cases h
     | some m0=>
      cases h
      obtain ⟨v,ev,r⟩:=px.sl j m0 er
      refine⟨v,?_,?_⟩
      ·unfold cW
       rw [aJ6,ef]
       show some ((σ[j]?).join)=_
       rw [ev]; rfl
      ·have r':aE K (fun _=>False) H1 v m0.val:=(nQ (Hs:=H1) r).flat fm
       refine r'.keep ⟨fun _ _ z=>z.elim,fun _ _ z=>z.elim,fun _ _ z=>z.elim,fun b _ e=>s _ _ ?_,fun b _ _ e=>s _ _ ?_⟩
       ·rw [aJ (fun z=>by rw [z,ha] at e; cases e)]; exact e
       ·rw [aJ (fun z=>by rw [z,ha] at e; cases e)]; exact e
 ·unfold eI at h1
  rw [aJ6] at h1
  cases ef:fr[i]? with
  | none=>rw [ef] at h1; cases h1
  | some o2=>
   rw [ef] at h1
   cases o2 with
   | none=>cases h1
   | some j=>
    have h1:some ((ρ[j]?).join.map fun m=>Slot.sh false m.val)=some (some (Slot.own x)):=h1
    cases er:ρ[j]? with
    | none=>rw [er] at h1; cases h1
    | some o3=>
     rw [er] at h1
     cases o3 with
     | none=>cases h1
     | some m0=>cases h1
section
variable {X : Cx} {σ : St} {H : Hp} {Q' : VK}
def pA (tl:aB) (fr:List (Option Nat)) (p:fX) (tc:bI) (te:aB):aB:=fun ρ Q=>tl ρ fun x _=>∃ ps:List (List aD × PV),x = .dT ps/\ps.length<=16000000/\(∀ m,some m ∈ eI fr ρ->flat m.val=true)/\∃ I:Nat->List PV->Prop,I 0 []/\
 (∀ i k acc,(ps.map (·.1))[i]? = some k->I i acc->p (.tup (k.map kP)) false (eI fr ρ) fun ρ2=>tc ρ2 fun b=>if b=true then te ρ2 fun y gy=>(Nw gy y/\flat y=true)/\I (i+1) (acc ++ [y]) else I (i+1) acc)/\∀ acc,I ps.length acc->Q (.lst acc) .fr
theorem ay4 {tl:aB}{fr:List (Option Nat)}{p:fX}{g:TG}{tc:bI}{te:aB}{own:Nat->Prop} (hg:jU X.K own p g) (ho:∀ i,own i->fr[i]? = some none) (h:LE X (pA tl fr p tc te) σ H Q') :
  zX X (nF (zW (LE X tl)) fr (fun _=>g) (fun H1=>LT (X.frm H1) tc) (fun H1=>LE (X.frm H1) te)) σ H Q':=by
 obtain ⟨W,ρ,Q,px,q,k⟩:=h
 refine⟨W,ρ,_,px,q,?_⟩
 rintro v H1 x g0 s r ⟨ps,rfl,hl,fl,I,i0,turn,fin⟩
 cases r with
 | @dT a kvs _ m ha ek rv=>
 refine⟨a,kvs,rfl,ha,fun o ys pk D hD=>?_⟩
 have px1:=px.mono s
 have lk:ys.length=ps.length:=by
  have:=pk.length
  rw [aJ3] at this
  rw [this]; exact sS ek
 have hDa:D ≠ a:=fun z=>by rw [z,aV] at hD; cases hD
 have hD1:H1 D=none:=by rw [aJ hDa] at hD; exact hD
 have nofr:∀ o' v',X.H₀ a ≠ some (.frz o' v'):=fun o' v' e=>by have:=px1.same _ _ e; rw [ha] at this; cases this
 refine⟨fun i m acc H'=>m=ps.length - i/\i<=ps.length/\a9 (upd H1 a (.frz o (.dT kvs))) H'/\H' D=some (.lst acc)/\∃ zs,Reps X.K (fun _=>False) H' acc zs/\flats zs=true/\zs.length<=i/\I i zs,⟨ps.length,by omega,aN0 _,aY hD _,aV,[],.nil,rfl,aJ0 _,i0⟩,?_⟩
 rintro i m acc H' ⟨rfl,hi,sm,hl',zs,rz,fz,hz,iz⟩
 refine⟨hl',?_⟩
 have fro:H' a=some (.frz o (.dT kvs)):=sm _ _ aV
 by_cases hlt:i < ps.length
 ·refine .inr ⟨⟨⟨_,fro⟩,by omega⟩,fun v2 H2 y=>?_⟩
  obtain ⟨rfl,hy⟩:=y
  obtain ⟨key,hk,q2,rfl,hq2⟩:=J1 pk hy
  rw [ek] at hk
  have rx:aE X.K (Ms (upd H1 a (.frz o (.dT kvs))) (fA D) false) H2 (.ref q2) (.tup (key.map kP)):=.tup (sm _ _ (by rw [aJ (fun z=>by rw [z,ha] at hq2; cases hq2)]; exact hq2)) (Reps.keys key)
  have pxb:=ay3 (fr:=fr) px1 ha hD sm hl' fl
  refine hg (upd H1 a (.frz o (.dT kvs))) (fA D) _ _ H2 _ _ false _ _ pxb rx (turn i key zs hk iz) fun σ2 ρ2 px2 hown hlen q2=>⟨⟨hlen.symm,fun j w e=>?_⟩,?_⟩
  ·by_cases oj:own j
   ·have:=ho j oj
    unfold cW at e
    rw [aJ6,this] at e
    cases e
   ·rw [hown j oj]; exact e
  ·refine⟨fA D,ρ2,_,px2,q2,fun b H4 s4 q4=>?_⟩
   have hl4:=s4 _ _ hl'
   have sm4:=sm.trans s4
   cases b with
   | false=>exact aW ⟨ps.length - (i+1),by omega,rfl,hlt,sm4,hl4,zs,rz.same s4 fun _ z=>z,fz,by omega,by simpa using q4⟩
   | true=>
    refine b4 ⟨fA D,ρ2,_,px2.mono s4,by simpa using q4,?_⟩
    rintro w H5 y gy s5 ryy ⟨⟨nw,fy⟩,q5⟩
    have hl5:=s5 _ _ hl4
    have lr:=rz.length
    refine⟨hl5,fT (by omega),ps.length - (i+1),by omega,rfl,hlt,fun b o' e=>?_,aV,zs ++ [y],?_,J2 fz fy,by rw [aJ4,aN6]; omega,q5⟩
    ·rw [aJ (fun z=>by rw [z,hD] at e; cases e)]
     exact s5 _ _ (sm4 _ _ e)
    ·exact ((rz.same (s4.trans s5) fun _ z=>z).append (.cons (ryy.flat fy) .nil)).keep (.upd hl5 rfl fun b z=>z.elim)
 ·obtain rfl:i=ps.length:=by omega
  refine .inl ⟨⟨⟨_,fro⟩,lk.symm⟩,a,o,.dT kvs,fro,nofr,k _ _ _ .fr (fun b x e=>?_) (.lst (s.free hD1) (by rw [aJ hDa]; exact hl') (Reps.thaw fro fz rz)) (fin zs iz)⟩
  have e1:=s _ _ e
  by_cases hb:b=a
  ·subst hb
   rw [ha] at e1; cases e1
   exact aV
  ·rw [aJ hb]
   exact sm _ _ (by rw [aJ hb]; exact e1)
end
section
variable {X : Cx} {scope : Scope} {N : List Str} {fr : List (Option Nat)} {x : Str} {tp pos : Pos} {iter elt c : Expr} {tl te : aB} {tcs : bI}
theorem ay5 (hi:QE X iter tl) (ht:∀ (s:Shared) (H:Hp) (C:Addr) (fp:List Addr),QT (aU X scope N s H C fp b7) c tcs) (he:∀ (s:Shared) (H:Hp) (C:Addr) (fp:List Addr),QE (aU X scope N s H C fp b7) elt te)
  (hc:X.calm=true:=by rfl) (S:bO X scope N fr:=by exact bO.of rfl rfl) (hN:N.Nodup:=by decide +kernel) (h0:N[0]? = some x:=by rfl) (hl:∀ (s:Shared) (H:Hp) (C:Addr) (fp:List Addr),(aU X scope N s H C fp b7).env.scope.names.lookup x=some .local:=by intro _ _ _ _; rfl) (hf:fr[0]? = some none:=by rfl)
  (hs:∀ x,foldedSetIterable iter X.env x=pure x:=by intro _; rfl):QE X (.ListComp elt [⟨.Name x tp,iter,[c],0⟩] scope pos) (pA tl fr (bF 0) tcs te):=
 bC (aq2 (lB (gh:=fun _=>bL 0) (tch:=fun H=>LT (X.frm H) tcs) (teh:=fun H=>LE (X.frm H) te) hc S (aq1 hi) (lV he (fun s H C fp=>nC (ht s H C fp)) hN h0 hl) hs)) fun _ _ _=>ay4 (iS _ 0) (fun i e=>by subst e; exact hf)
end
theorem mC {us:List Value} (h:us.length=1):∃ a,us = [a]:=List.length_eq_one_iff.mp h
theorem pB {us:List Value} (h:us.length=2):∃ a b,us = [a,b]:=by
 cases us with
 | nil=>cases h
 | cons a r=>
  obtain ⟨b,rfl⟩:=mC (us:=r) (by simpa using h)
  exact⟨a,b,rfl⟩
theorem pC {us:List Value} (h:us.length=3):∃ a b c,us = [a,b,c]:=by
 cases us with
 | nil=>cases h
 | cons a r=>
  obtain ⟨b,c,rfl⟩:=pB (us:=r) (by simpa using h)
  exact⟨a,b,c,rfl⟩
theorem J3 {us:List Value} (h:us.length=4):∃ a b c d,us = [a,b,c,d]:=by
 cases us with
 | nil=>cases h
 | cons a r=>
  obtain ⟨b,c,d,rfl⟩:=pC (us:=r) (by simpa using h)
  exact⟨a,b,c,d,rfl⟩
section
variable {K : PySem.W.Frag} {H0 : Hp} {W W' : Addr → Prop} {σ : St} {ρ : b5} {H Hs : Hp}
theorem PX.grow {nw:Addr->Prop} (p:PX K H0 W σ ρ Hs) (s:a9 Hs H) (h:∀ b,nw b->Hs b=none/\∃ o,H b=some o/\fU o=true):PX K H0 (fun b=>W b ∨ nw b) σ ρ H:=by
 have off:∀ b o,Hs b=some o->¬ nw b:=fun b o e z=>by rw [(h b z).1] at e; cases e
 have kp:∀ g,fH (Ms H0 W g) (Ms H0 (fun b=>W b ∨ nw b) g) Hs H:=fun g=>by
  have m:∀ b o,Ms H0 W g b->Hs b=some o->Ms H0 (fun b=>W b ∨ nw b) g b:=fun b o z e=>by
   cases g with
   | true=>exact⟨fun y=>y.elim z.1 (off b o e),z.2⟩
   | false=>exact fun y=>y.elim z (off b o e)
  exact⟨fun b _ z e=>⟨m b _ z e,s _ _ e⟩,fun b _ z e=>⟨m b _ z e,s _ _ e⟩,fun b _ z e=>⟨m b _ z e,s _ _ e⟩,fun _ _ e=>s _ _ e,fun _ _ _ e=>s _ _ e⟩
 refine⟨p.len,p.same.trans s,fun b z=>?_,fun j m e=>?_,p.dis⟩
 ·rcases z with z | z
  ·obtain ⟨h1,o,h2,h3⟩:=p.wm b z
   exact⟨h1,o,s _ _ h2,h3⟩
  ·exact⟨p.same.free (h b z).1,(h b z).2⟩
 ·obtain ⟨u,e1,q⟩:=p.sl j m e
  refine⟨u,e1,?_⟩
  cases m with
  | sh g y=>exact aE.keep (kp g) q
  | own y=>
   obtain ⟨b,e2,e3,q⟩:=q
   exact⟨b,e2,.inl e3,q.keep (kp true) fun o z=>s _ _ z⟩
theorem PX.name {i:Nat}{a:Addr}{x:PV} (p:PX K H0 W σ ρ H) (wa:W a) (r:eW K (Ms H0 W true) H a x) (free:∀ j y,ρ[j]? = some (some (.own y))->j ≠ i->σ[j]? ≠ some (some (.ref a))):PX K H0 W (σ.set i (some (.ref a))) (ρ.set i (some (.own x))) H:=by
 refine⟨by rw [aM7,aM7]; exact p.len,p.same,p.wm,fun j m h=>?_,fun j k y z b h1 h2 h3 h4=>?_⟩
 ·rcases cJ h with ⟨rfl,hl,e⟩ | ⟨hne,h⟩
  ·cases e
   rw [p.len] at hl
   exact⟨_,aM3 hl,a,rfl,wa,r⟩
  ·obtain ⟨u,e,q⟩:=p.sl j m h
   exact⟨u,by rw [aK4 (Ne.symm hne)]; exact e,q⟩
 ·rcases cJ h1 with ⟨e1,l1,_⟩ | ⟨n1,h1⟩
  ·rcases cJ h2 with ⟨e2,_,_⟩ | ⟨n2,h2⟩
   ·rw [e1,e2]
   ·rw [e1,aM3 (by rw [<- p.len]; exact l1)] at h3
    rw [aK4 (Ne.symm n2)] at h4
    cases h3
    exact absurd h4 (free k z h2 n2)
  ·rw [aK4 (Ne.symm n1)] at h3
   rcases cJ h2 with ⟨e2,l2,_⟩ | ⟨n2,h2⟩
   ·rw [e2,aM3 (by rw [<- p.len]; exact l2)] at h4
    cases h4
    exact absurd h3 (free j y h1 n1)
   ·rw [aK4 (Ne.symm n2)] at h4
    exact p.dis j k y z b h1 h2 h3 h4
end
section
variable {X : Cx} {e : Expr} {te : aB} {D : cA} {σ : St} {H : Hp} {pos : Pos}
def uD (i j:Nat) (te:aB):aL:=fun D ρ=>te ρ fun x g=>∃ xs ps,i ≠ j/\g = .fr/\x = .tup [.lst xs,.dT ps]/\flats xs=true/\flats (ps.map (·.2))=true/\D.nx ((ρ.set i (some (.own (.lst xs)))).set j (some (.own (.dT ps))))
theorem ay6 {i j:Nat} (h:LS X (uD i j te) D σ H):i4 (LE X te) (gM X.K 2 (dB (bL i) (dB (bL j) gL))) D σ H:=by
 obtain ⟨W,ρ,D',px,q,k⟩:=h
 refine⟨W,ρ,_,px,q,?_⟩
 rintro v H1 x g s r ⟨xs,ps,hij,rfl,rfl,f1,f2,q⟩
 obtain ⟨t,us,rfl,ht,r2⟩:=r.sqT
 obtain ⟨u1,u2,rfl,ra,rb⟩:=r2.two
 cases ra with
 | @lst a ws _ ma ea rxs=>
 cases rb with
 | @dT b kvs _ mb eb ek rvs=>
 have hab:a ≠ b:=fun z=>by rw [z,eb] at ea; cases ea
 have p1:=px.grow (nw:=fun c=>c=a ∨ c=b) s (fun c z=>by
  rcases z with rfl | rfl
  ·exact⟨ma,_,ea,rfl⟩
  ·exact⟨mb,_,eb,rfl⟩)
 have off:∀ (l:Nat) (y:PV) (c:Addr),H c=none->ρ[l]? = some (some (.own y))->σ[l]? ≠ some (some (.ref c)):=fun l y c hc h1 h2=>by
  obtain ⟨u,e1,c',e2,e3,_⟩:=px.sl l _ h1
  rw [h2] at e1
  cases e1
  cases e2
  exact (px.new hc).1 e3
 have p2:=p1.name (i:=i) (a:=a) (x:=.lst xs) (.inr (.inl rfl)) ⟨ws,ea,rxs.flat f1⟩ fun l y h1 _=>off l y a ma h1
 have p3:=p2.name (i:=j) (a:=b) (x:=.dT ps) (.inr (.inr rfl)) ⟨kvs,eb,ek,rvs.flat f2⟩ fun l y h1 hlj h2=>by
  rcases cJ h1 with ⟨e1,l1,_⟩ | ⟨n1,h1⟩
  ·rw [e1,aM3 (by rw [<- px.len]; exact l1)] at h2
   cases h2
   exact hab rfl
  ·rw [aK4 (Ne.symm n1)] at h2
   exact off l y b mb h1 h2
 refine⟨t,_,rfl,aI.of ht,rfl,_,_,rfl,_,_,rfl,rfl,?_⟩
 exact k.nx _ _ H1 _ (fun c o hc nc=>⟨s _ _ hc,fun z=>z.elim nc fun z=>by
  rcases z with rfl | rfl
  ·rw [show H c=none from ma] at hc; cases hc
  ·rw [show H c=none from mb] at hc; cases hc⟩) p3 q
theorem ay7 (i j:Nat) {x y:Str}{tp xp yp:Pos}{kt:Nat} (hN:X.N.Nodup) (he:QE X e te) (hx:X.N[i]? = some x:=by rfl) (hy:X.N[j]? = some y:=by rfl) (hlx:gI X.env.scope x:=by first | exact Or.inl rfl | exact Or.inr rfl) (hly:gI X.env.scope y:=by first | exact Or.inl rfl | exact Or.inr rfl)
  (hfx:X.fn x=true ∨ X.env.scope.names.lookup x=some .local:=by first | exact .inl rfl | exact .inr rfl) (hfy:X.fn y=true ∨ X.env.scope.names.lookup y=some .local:=by first | exact .inl rfl | exact .inr rfl) (hc:X.calm=true:=by rfl)
  (hs:swapsWithSole [.Tuple [.Name x xp,.Name y yp] kt tp] e pos.line X.env=pure false:=by rfl) (hw:swappedStores [.Tuple [.Name x xp,.Name y yp] kt tp] e X.env=pure none:=by rfl):QS X (.Assign [.Tuple [.Name x xp,.Name y yp] kt tp] e pos) (uD i j te):=by
 have g:PG X (.Tuple [.Name x xp,.Name y yp] kt tp) (gM X.K 2 (dB (bL i) (dB (bL j) gL))):=kO hc (fQ (dU hN hx hlx hfx) (fQ (dU hN hy hly hfy) kN))
 exact cS (v4 he g hs hw) fun _ _ _=>ay6
end
section
variable {X : Cx} {e : Expr} {tk : aB} {D : cA} {σ : St} {H : Hp} {pos : Pos}
def uE (i:Nat) (tk:aB):aL:=fun D ρ=>∃ ps,ρ[i]? = some (some (.own (.dT ps)))/\tk ρ fun y _=>∃ k,y = .tup (k.map kP)/\(∃ j:Nat,(ps.map (·.1))[j]? = some k)/\∀ j:Nat,(ps.map (·.1))[j]? = some k->D.nx (ρ.set i (some (.own (.dT (ps.eraseIdx j)))))
theorem ay8 {i:Nat} (h:LS X (uE i tk) D σ H):pZ (A1 (eM i) (LE X tk)) D σ H:=by
 obtain ⟨W,ρ,D',px,⟨ps,hi,q⟩,k⟩:=h
 obtain ⟨v,ev,a,rfl,wa,kvs,ea,e1,r⟩:=px.sl i _ hi
 refine⟨_,ev,a,rfl,.inr ⟨kvs,.inl ea⟩,W,ρ,_,px,q,?_⟩
 rintro kv H2 y g s ry ⟨kk,rfl,is,q⟩
 obtain ⟨b,us,rfl,hb,rb⟩:=ry.sqT
 obtain rfl:=o7 rb
 have ea2:=s _ _ ea
 refine⟨kvs,kk,b,ea2,rfl,hb,by rw [e1]; exact is,fun j v hj=>?_⟩
 rw [e1] at hj
 refine k.nx W σ _ _ ((Ev.same s).trans (Ev.upd wa)) ((px.mono s).updT hi ev wa ⟨?_,?_⟩) (q j hj)
 ·rw [Raw.j5,Raw.j5,e1]
 ·rw [Raw.j5,Raw.j5]
  exact ((r.same s fun _ z=>z).eraseIdx j).keep (.upd ea2 rfl fun b m=>⟨jS wa m,m⟩)
theorem ay9 (i:Nat) {x:Str}{apos cpos xpos:Pos} (hu:X.A.units+1 < cLine) (he:QE X e tk) (hm:M1 X (.Name x xpos) "pop" apos e cpos:=by exact⟨rfl,rfl,rfl,rfl⟩) (hN:X.N[i]? = some x:=by rfl) (hv:eL X.env.scope x:=by first | exact Or.inl rfl | exact Or.inr (Or.inl rfl) | exact Or.inr (Or.inr rfl)) (hd:(x == ("__debug__" : Str))=false:=by decide) (hcd:(x == ("__classdict__" : Str))=false:=by decide)
  (hsw:swapsWith (.Call (.Attribute (.Name x xpos) "pop" apos) [e] [] cpos) none pos.line X.env=pure false:=by rfl):QS X (.Expr (.Call (.Attribute (.Name x xpos) "pop" apos) [e] [] cpos) pos) (uE i tk):=
 cS (mI (aq6 hu (gJ hN hv hd hcd) he hm) hsw) fun _ _ _=>ay8
end
def spS (K:PySem.W.Frag) (p:aX):Sp:=fun vs H Q _=>∃ xs Qp,Reps K (fun _=>True) H vs xs/\p xs Qp/\∀ v H' x,a9 H H'->aE K (fun _=>True) H' v x->Qp x->Q v H'
structure kE (P:Program) (w:World) (K:PySem.W.Frag) (mg:Str->Option Value) (base:Heap) (k:Nat) (x:Str) (ps:List Str) (p:aX):Prop where
 ex:∃ f fd,bV P w K mg base cI k f fd ps (spS K p)/\eR K fd ps []/\PySem.W.keepIn K (.ref f)=true/\mg x=some (.ref f)
def kF (X:Cx) (last:TS):List aL->TS
 | []=>last
 | t :: r=>pY (LS X t) (kF X last r)
def mD (i:Nat) (rs:PV->Prop):List aL->aL
 | []=>fun _ ρ=>∃ m,ρ[i]? = some (some m)/\rs m.val
 | t :: r=>fun D ρ=>t { D with nx:=mD i rs r D } ρ
section
variable {X : Cx} {i : Nat}
theorem J4 {rs:PV->Prop}{D':gX}{D:cA} (hrs:∀ v H' x,a9 X.H₀ H'->aE X.K (fun _=>True) H' v x->rs x->D.rt v H'):∀ (ts:List aL) {W:Addr->Prop}{ρ:b5}{H:Hp}{σ:St},PX X.K X.H₀ W σ ρ H->mD i rs ts D' ρ->jQ X W H D' D->kF X (jF (eM i)) ts D σ H
 | [],W,ρ,H,σ,px,q,k=>by
  obtain ⟨m,e,q⟩:=q
  obtain ⟨v,ev,r⟩:=px.sl i m e
  exact⟨v,ev,hrs v H m.val px.same ((nQ (Hs:=H) r).same (a9.refl _) fun _ _=>trivial) q⟩
 | t :: r,W,ρ,H,σ,px,q,k=>⟨W,ρ,{ D' with nx:=mD i rs r D' },px,q,⟨fun W' σ' H' ρ' e px' q'=>J4 hrs r px' q' (k.step e),k.rt,k.bk,k.ct⟩⟩
theorem az0 (i:Nat) {x:Str}{p2 pos:Pos} (hN:X.N[i]? = some x:=by rfl) (hv:eL X.env.scope x:=by first | exact Or.inl rfl | exact Or.inr (Or.inl rfl) | exact Or.inr (Or.inr rfl)) (hd:(x == ("__debug__" : Str))=false:=by decide) (hcd:(x == ("__classdict__" : Str))=false:=by decide) :
  cB X [.Return (some (.Name x p2)) pos] (kF X (jF (eM i)) []):=jE (jG (gJ hN hv hd hcd))
theorem pD {st:Stmt}{sts:List Stmt}{t:aL}{ts:List aL}{last:TS} (h1:QS X st t) (h2:cB X sts (kF X last ts)):cB X (st :: sts) (kF X last (t :: ts)):=kM h1 h2
variable {tr : bX} {e : Expr} {es : List Expr} {pos p2 : Pos}
def uF (p:aX) (t:bX):aB:=fun ρ Q=>t ρ fun xs=>p (xs.map (·.1)) fun z=>Q z .rd
theorem az1 {k j:Nat}{x:Str}{ps:List Str}{p:aX} (d:kE X.prog X.w X.K X.mg X.base k x ps p) (hr:bE j X.A) (ha:QA X (e :: es) tr) (hkj:k<=j:=by decide) (hg:Gl X x:=by rfl) (hdb:(x == ("__debug__" : Str))=false:=by decide)
  (he:starEach (e :: es) X.env=(false,eval e X.env) :: starEach es X.env:=by rfl) (hpl:(backTo pos (starEach es X.env)).any (·.1)=false:=by rfl):QE X (.Call (.Name x p2) (e :: es) [] pos) (uF p tr):=by
 obtain ⟨f,fd,F,b,kp,m⟩:=d.ex
 refine bC (mQ F (hr.mono hkj) hg m kp b .nil r9 ha hdb he hpl) fun σ H Q' h=>?_
 obtain ⟨W,ρ,Q,px,q,k⟩:=h
 exact⟨W,ρ,_,px,q,fun vs H1 xs s1 r1 q1=>⟨_,_,by rw [aN3]; exact r1.any,q1,fun v H' x s2 r2 q2=>k v H' x .rd (s1.trans s2) (r2.same (a9.refl _) fun _ _=>trivial) q2⟩⟩
end
theorem kE.of {P:Program}{w:World}{K:PySem.W.Frag}{mg:Str->Option Value}{base:Heap}{k:Nat}{x:Str}{ps N:List Str}{p:aX}{st:Stmt}{f:Addr}{fd:FuncData} (F:cV K x x st f fd) (m:mg x=some (.ref f)) (S:FnScope N ps (aN st))
  (hb:∀ (kV doc pm:Value) (an:Option Addr) (cdv ct:Value) (us:List Value),us.length=ps.length->bindArgs (PySem.W.fnOf x x (fG st) (cR st) (aN st) .none kV doc pm an cdv ct) ⟨us,[]⟩=pure (ps.zip us))
  (len:∀ xs Q,p xs Q->xs.length=ps.length) (i:Nat) (ts:List aL) (rd:∀ xs Q,p xs Q->mD i Q ts { nx:=fun _=>Q .non,rt:=Q } (dL N xs))
  (body:∀ (cdv:Value) (A:Around) (outer:List Env) (s:Shared) (H:Hp) (E:XK),bE k (A.deeper (PyProof.Rows.envOfC x (aN st) s.heap.objs.size f cdv))->
   cB (cC cI P w K mg base N x (aN st) f cdv A outer s H E).nox (cR st) (kF (cC cI P w K mg base N x (aN st) f cdv A outer s H E).nox (jF (eM i)) ts)):kE P w K mg base (k+1) x ps p:=by
 refine⟨f,fd,F.ok S (fun vs H Q E h=>?_) (fun cdv A outer s H vs Q E hr h=>?_),F.binds hb,F.kp,m⟩
 ·obtain ⟨xs,Qp,r,q,_⟩:=h
  rw [r.length]; exact len xs Qp q
 ·obtain ⟨xs,Qp,r,q,k⟩:=h
  refine⟨_,body cdv A outer s H E hr,J4 (rs:=Qp) (fun v H' x s' r' q'=>k v H' x s' r' q') ts (oG r) (rd xs Qp q) ⟨?_,?_,?_,?_⟩⟩
  ·exact fun W' σ' H' ρ' e px q=>k _ _ _ px.same .non q
  ·exact fun v H' x s' r' q'=>k _ _ _ s' (r'.same (a9.refl _) fun _ _=>trivial) q'
  ·exact fun W' σ' H' ρ' e px q=>q
  ·exact fun W' σ' H' ρ' e px q=>q
end PP
namespace Core
open PySem L2 PP
def kG:aX:=fun xs Q=>∃ c k:Int,xs = [.int c,.int k]/\0<=k/\k<=1000/\∀ z:Int,0<=z->Q (.int z)
def J5:aL:=(aS (bJ 2 (cX (sX (fZ (fZ (cX (a6 0) (qC (.int 1000000007))) (sX (a6 1) (a6 1))) (qC (.int 1))) (qC (.int 48271))) (qC (.int 2147483647))))
 (bB (g6 (cX (sX (a6 2) (a6 2)) (qC (.int 2147483647))) (qC (.int 8)))))
theorem az2:cH J5 ["cell","k","turn"] kG:=by
 rintro xs Q ⟨c,k,rfl,k0,k1,q⟩
 refine⟨_,rfl,_,_,rfl,rfl,(by show (0:Int) < 1000000007; decide),_,rfl,_,rfl,_,_,rfl,rfl,.inl ⟨by show -(2 ^ 64) < k; omega,by show k < 2 ^ 64; omega⟩,_,_,rfl,rfl,_,_,rfl,rfl,_,_,rfl,rfl,.inr ⟨by decide,by decide⟩,_,_,rfl,rfl,(by show (0:Int) < 2147483647; decide),trivial,?_⟩
 dsimp only
 have t0:0<=(c % 1000000007+k * k+1) * 48271 % 2147483647:=aT0 _ (by decide)
 have t1:(c % 1000000007+k * k+1) * 48271 % 2147483647 < 2147483647:=Int.emod_lt_of_pos _ (by decide)
 generalize (c % 1000000007+k * k+1) * 48271 % 2147483647=t at t0 t1
 refine⟨_,rfl,_,rfl,_,_,rfl,rfl,.inl ⟨by show -(2 ^ 64) < t; omega,by show t < 2 ^ 64; omega⟩,_,_,rfl,rfl,(by show (0:Int) < 2147483647; decide),_,_,rfl,rfl,⟨by decide,by decide⟩,trivial,q _ ?_⟩
 have:=aT0 (t * t) (show (2147483647:Int) ≠ 0 by decide)
 omega
def NN (zs:List Int):Prop:=∀ z ∈ zs,(0:Int)<=z
def kH:aX:=fun xs Q=>∃ (w:Int) (ws ds:List Int),xs = [.int w,.lst (intz ws),.lst (intz ds)]/\ws.length<=1000/\ds.length=ws.length/\NN ws/\NN ds/\∀ zs,zs.length=ws.length->NN zs->Q (.lst (intz zs))
def J6:List aL:=[(cF (aZ (g9 (a6 0) (qC (.int 1)))) (bB (c7 (dE (a6 1)) [none] (bF 0) cO (qC (.int 2)))) cK),
 (cF (aZ (g9 (a6 0) (qC (.int 2)))) (bB (aF lI (a7 (a6 2) aA))) cK),
 (cF (aZ (g9 (a6 0) (qC (.int 3)))) (bB (c7 (dE (a6 2)) [none] (bF 0) cO (aF iR (a7 (qC (.int 0)) (a7 (yW (a6 0) (qC (.int 1))) aA))))) cK),
 (cF (aZ (g9 (a6 0) (qC (.int 4)))) (bB (c7 (dE (a6 2)) [none] (bF 0) cO (g6 (fZ (a6 0) (qC (.int 1))) (qC (.int 2))))) cK)]
theorem NN.app {zs:List Int}{z:Int} (h:NN zs) (hz:0<=z):NN (zs ++ [z]):=fun y hy=>by
 rcases aL9.mp hy with hy | hy
 ·exact h y hy
 ·rw [aJ5.mp hy]; exact hz
theorem az3:∀ xs Q,kH xs Q->mD 1 Q J6 { nx:=fun _=>Q .non,rt:=Q } (dL ["way","wants","degrees"] xs):=by
 rintro xs Q ⟨w,ws,ds,rfl,hl,hd,nw,nd,q⟩
 have inv:∀ {i:Nat}{acc:List PV}{z:Int},(∃ zs,acc=intz zs/\zs.length=i/\NN zs)->0<=z->∃ zs,acc ++ [PV.int z]=intz zs/\zs.length=i+1/\NN zs:=fun {i acc z} h hz=>by
  obtain ⟨zs,rfl,h1,h2⟩:=h
  exact⟨zs ++ [z],by rw [dF]; rfl,by rw [aJ4,h1]; rfl,h2.app hz⟩
 refine⟨_,rfl,.inl ⟨_,_,rfl,rfl,_,rfl,?_⟩⟩
 cases h1:(if false=true then !decide (w=1) else decide (w=1)) with
 | true=>
  refine b4 ⟨_,rfl,_,rfl,(fun z=>by cases z),by rw [b6]; omega,fun i acc=>∃ zs,acc=intz zs/\zs.length=i/\NN zs,⟨[],rfl,rfl,fun _ h=>nomatch h⟩,?_,?_⟩
  ·rintro i y acc hy h
   obtain ⟨n,rfl,hn⟩:=fB hy
   exact⟨trivial,inv h (by decide)⟩
  ·rintro acc ⟨zs,rfl,h2,h3⟩
   exact⟨trivial,q zs (by rw [h2,b6]) h3⟩
 | false=>
 refine aW ⟨_,rfl,.inl ⟨_,_,rfl,rfl,_,rfl,?_⟩⟩
 cases h2:(if false=true then !decide (w=2) else decide (w=2)) with
 | true=>exact b4 ⟨_,rfl,_,_,rfl,rfl,cD _,trivial,q ds hd nd⟩
 | false=>
 refine aW ⟨_,rfl,.inl ⟨_,_,rfl,rfl,_,rfl,?_⟩⟩
 cases h3:(if false=true then !decide (w=3) else decide (w=3)) with
 | true=>
  refine b4 ⟨_,rfl,_,rfl,(fun z=>by cases z),by rw [b6]; omega,fun i acc=>∃ zs,acc=intz zs/\zs.length=i/\NN zs,⟨[],rfl,rfl,fun _ h=>nomatch h⟩,?_,?_⟩
  ·rintro i y acc hy h
   obtain ⟨n,rfl,hn⟩:=fB hy
   exact⟨_,rfl,_,_,rfl,rfl,_,_,rfl,trivial,inv h (by split <;> omega)⟩
  ·rintro acc ⟨zs,rfl,h2,h3⟩
   exact⟨trivial,q zs (by rw [h2,b6,hd]) h3⟩
 | false=>
 refine aW ⟨_,rfl,.inl ⟨_,_,rfl,rfl,_,rfl,?_⟩⟩
 cases h4:(if false=true then !decide (w=4) else decide (w=4)) with
 | true=>
  refine b4 ⟨_,rfl,_,rfl,(fun z=>by cases z),by rw [b6]; omega,fun i acc=>∃ zs,acc=intz zs/\zs.length=i/\NN zs,⟨[],rfl,rfl,fun _ h=>nomatch h⟩,?_,?_⟩
  ·rintro i y acc hy h
   obtain ⟨n,rfl,hn⟩:=fB hy
   have n0:0<=n:=nd n (aL1 hn)
   exact⟨_,rfl,_,_,rfl,rfl,_,_,rfl,rfl,⟨by decide,by decide⟩,trivial,inv h (by omega)⟩
  ·rintro acc ⟨zs,rfl,h2,h3⟩
   exact⟨trivial,q zs (by rw [h2,b6,hd]) h3⟩
 | false=>exact aW ⟨_,rfl,q ws rfl nw⟩
abbrev DK (n:Int) (ps:List (List aD × PV)):Prop:=DL n ps ps.length
theorem DL.dk {n:Int}{ps:List (List aD × PV)}{i:Nat} (h:DL n ps i):DK n ps:=⟨h.key,aJ0 _,h.fl,h.nd⟩
theorem DK.nil (n:Int):DK n []:=⟨(fun _ h=>nomatch h),aJ0 _,rfl,.nil⟩
theorem uG:∀ (m:Nat) (l:List Nat),l.Nodup->(∀ x ∈ l,x < m)->l.length<=m
 | 0,[],_,_=>aJ0 _
 | 0,x :: _,_,h=>absurd (h x aK1) (Nat.not_lt_zero _)
 | m+1,l,nd,h=>by
  by_cases hm:m ∈ l
  ·have h1:=uG m (l.erase m) (nd.erase m) fun x hx=>by
    obtain ⟨h2,h3⟩:=(nd.mem_erase_iff).mp hx
    have:=h x h3
    omega
   rw [List.length_erase_of_mem hm] at h1
   omega
  ·have h1:=uG m l nd fun x hx=>by
    have:=h x hx
    have:x ≠ m:=fun z=>hm (z ▸ hx)
    omega
   omega
theorem DK.few {n:Int}{ps:List (List aD × PV)} (h:DK n ps) (hn:n<=8):ps.length < 64:=by
 obtain ⟨ls,_,e2,e3,e4⟩:=DL.links h.key
 have nd:ls.Nodup:=by
  have:=h.nd
  rw [e4] at this
  exact (aR8.mp this).imp fun h e=>h (congrArg e9 e)
 have:=uG 56 (ls.map fun l=>(l.1 * 8+l.2).toNat) (by
  refine aR8.mpr (nd.imp_of_mem fun {a b} ha hb hab e=>hab ?_)
  have:=e2 a ha
  have:=e2 b hb
  exact Prod.ext (by omega) (by omega)) fun x hx=>by
   obtain ⟨l,hl,rfl⟩:=aO9.mp hx
   have:=e2 l hl
   omega
 rw [aJ3,e3] at this
 omega
def pE:aX:=fun xs Q=>∃ c n:Int,xs = [.int c,.int n]/\0<=n/\n<=40/\∀ ws ps,(ws.length:Int)=n->NN ws->DK n ps->Q (.tup [.lst (intz ws),.dT ps])
def J7:aL:=(aS (fI 2 (gW aA))
 (aS (fI 3 (qC (.dT [])))
 (aS (eZ (fW (a6 1)) (bF 4)
  (aS (nY 2 (cX (a6 0) (qC (.int 7))))
  (bJ 0 (g6 (a6 0) (qC (.int 7))))))
 (aS (eZ (fW (a6 1)) (bF 5)
  (eZ (sO (fZ (a6 5) (qC (.int 1))) (a6 1)) (bF 6)
   (aS (cF (aZ (g9 (cX (a6 0) (qC (.int 2))) (qC (.int 1)))) (jV 3 (cE (a7 (a6 5) (a7 (a6 6) aA))) (qC (.bl true))) cK)
   (bJ 0 (g6 (a6 0) (qC (.int 2)))))))
 (nX 2 (nX 3 (bB (sB (a7 (a6 2) (a7 (a6 3) aA))))))))))
theorem az4:cH J7 ["cell","many","wants","links","hearth","one","other"] pE:=by
 rintro xs Q ⟨c,n,rfl,n0,n1,q⟩
 refine⟨by decide,rfl,rfl,rfl,rfl,rfl,?_⟩
 refine⟨_,rfl,n,rfl,by omega,by omega,fun i ρ=>∃ (c:Int) (y:Option Slot) (ws:List Int),ρ = [si c,si n,some (.own (.lst (intz ws))),some (.own (.dT [])),y,none,none]/\ws.length=i/\NN ws,⟨c,none,[],rfl,rfl,fun _ h=>nomatch h⟩,?_,?_⟩
 ·rintro i y ρ hy ⟨c,y0,ws,rfl,hl,hp⟩
  obtain ⟨rfl,hi⟩:=iE hy
  refine m7 ?_
  refine⟨_,rfl,_,rfl,_,_,rfl,rfl,(by show (0:Int) < 7; decide),trivial,by rw [b6]; omega,?_⟩
  refine⟨_,rfl,_,_,rfl,rfl,⟨by decide,by decide⟩,trivial,c / 7,si (0+(i:Int)),ws ++ [c % 7],?_,by rw [aJ4,hl]; rfl,hp.app (aT0 _ (by decide))⟩
  rw [dF]; rfl
 rintro ρ ⟨c,y0,ws,rfl,hl,hp⟩
 rw [dQ] at hl
 have wl:(ws.length:Int)=n:=by omega
 refine⟨_,rfl,n,rfl,by omega,by omega,fun i ρ=>∃ (c:Int) (y z:Option Slot) (ps:List (List aD × PV)),ρ = [si c,si n,some (.own (.lst (intz ws))),some (.own (.dT ps)),y0,y,z]/\DL n ps (i * 40),⟨c,none,none,[],rfl,⟨(fun _ h=>nomatch h),aN0 _,rfl,.nil⟩⟩,?_,?_⟩
 ·rintro i y ρ hy ⟨c,y1,z1,ps,rfl,dl⟩
  obtain ⟨rfl,hi⟩:=iE hy
  refine m7 ?_
  refine⟨_,rfl,_,_,rfl,rfl,_,rfl,_,n,rfl,rfl,⟨by omega,by omega,by omega,by omega⟩,fun j ρ=>∃ (c:Int) (z:Option Slot) (ps:List (List aD × PV)),ρ = [si c,si n,some (.own (.lst (intz ws))),some (.own (.dT ps)),y0,si (0+(i:Int)),z]/\DL n ps (i * 40+j),⟨c,z1,ps,rfl,dl⟩,?_,?_⟩
  ·rintro j y ρ hy ⟨c,z2,ps,rfl,dl⟩
   obtain ⟨rfl,hj⟩:=iE hy
   refine m7 ?_
   have dl1:DL n ps (i * 40+(j+1)):=⟨dl.key,by have:=dl.len; omega,dl.fl,dl.nd⟩
   refine⟨_,rfl,_,_,rfl,rfl,(by show (0:Int) < 2; decide),.inl ⟨_,_,rfl,rfl,_,rfl,?_⟩⟩
   cases h:(if false=true then !decide (c % 2=1) else decide (c % 2=1)) with
   | true=>
    refine b4 ⟨_,rfl,_,rfl,_,rfl,by show 2<=1000; decide,rfl,e9 (0+(i:Int),0+(i:Int)+1+(j:Int)),rfl,trivial,by have:=dl.len; omega,?_⟩
    refine⟨_,rfl,_,_,rfl,rfl,⟨by decide,by decide⟩,trivial,c / 2,si (0+(i:Int)+1+(j:Int)),_,rfl,?_⟩
    exact dl.put _ ⟨by show (0:Int)<=0+(i:Int); omega,by show (0:Int)+(i:Int) < 0+(i:Int)+1+(j:Int); omega,by show (0:Int)+(i:Int)+1+(j:Int) < n; omega⟩
   | false=>exact aW ⟨_,rfl,_,_,rfl,rfl,⟨by decide,by decide⟩,trivial,c / 2,si (0+(i:Int)+1+(j:Int)),ps,rfl,dl1⟩
  ·rintro ρ ⟨c,z2,ps,rfl,dl⟩
   rw [dQ] at dl
   exact⟨c,si (0+(i:Int)),z2,ps,rfl,⟨dl.key,by have:=dl.len; omega,dl.fl,dl.nd⟩⟩
 ·rintro ρ ⟨c,y1,z1,ps,rfl,dl⟩
  refine⟨_,rfl,_,rfl,_,rfl,_,rfl,by show 2<=1000; decide,?_,trivial,q ws ps wl hp dl.dk⟩
  intro p hp
  simp only [aK0,aL4,aQ2] at hp
  rcases hp with rfl | rfl <;> trivial
theorem fC.seqTF {x:PV}{ns:List Int} (h:fC x ns):seqT x=some (intz ns):=by rcases h with rfl | rfl <;> rfl
theorem DK.put {n:Int}{ps:List (List aD × PV)} (h:DK n ps) (l:Int × Int) (hl:0<=l.1/\l.1 < l.2/\l.2 < n):DK n (cL ps (e9 l) (.bl true)):=(DL.put h l hl).dk
theorem DK.cut {n:Int}{ps:List (List aD × PV)} (h:DK n ps) (j:Nat):DK n (ps.eraseIdx j):=
 ⟨fun p hp=>h.key p (List.mem_of_mem_eraseIdx hp),aJ0 _,by
  rw [Raw.j5]
  have:∀ (j:Nat) {xs:List PV},flats xs=true->flats (xs.eraseIdx j)=true:=by
   intro j
   induction j with
   | zero=>
    intro xs h
    cases xs with
    | nil=>rfl
    | cons x r=>unfold flats at h; rw [aM2] at h; exact h.2
   | succ j ih=>
    intro xs h
    cases xs with
    | nil=>rfl
    | cons x r=>
     unfold flats at h
     rw [aM2] at h
     show (flat x && flats (r.eraseIdx j))=true
     rw [h.1,ih h.2]; rfl
  exact this j h.fl,(h.nd).sublist ((List.eraseIdx_sublist ps j).map _)⟩
def pF:aX:=fun xs Q=>∃ x ns,∃ n wy:Int,xs = [x,.int n,.int wy]/\fC x ns/\ns.length<=63/\0<=n/\n<=8/\∀ ws ls,j7 n ws ls->Q (bP ws ls)
def uH:aL:=(aS (eZ (dE (a6 0)) (bF 5)
  (cF (aZ (sZ (a6 1) (qC (.int 0)))) (aS (bJ 6 (aF kG (a7 (a6 5) (a7 (qC (.int 0)) aA))))
   (aS (bJ 7 (cX (a6 6) (a6 1)))
   (aS (bJ 8 (cX (g6 (a6 6) (qC (.int 64))) (a6 1)))
   (cF (aZ (g9 (cX (g6 (a6 6) (qC (.int 4096))) (qC (.int 4))) (qC (.int 0)))) (sG 3 (a6 7) (cX (g6 (a6 6) (qC (.int 16384))) (qC (.int 5)))) (cF (nU (aZ (lP (a6 7) (a6 8))) (aZ (iU false (cE (a7 (aF jT (a7 (a6 7) (a7 (a6 8) aA))) (a7 (aF iR (a7 (a6 7) (a7 (a6 8) aA))) aA))) (a6 4)))) (uE 4 (cE (a7 (aF jT (a7 (a6 7) (a7 (a6 8) aA))) (a7 (aF iR (a7 (a6 7) (a7 (a6 8) aA))) aA)))) (cF (aZ (lP (a6 7) (a6 8))) (jV 4 (cE (a7 (aF jT (a7 (a6 7) (a7 (a6 8) aA))) (a7 (aF iR (a7 (a6 7) (a7 (a6 8) aA))) aA))) (qC (.bl true))) cK)))))) cK))
 (aS (bJ 9 (c7 (fW (a6 1)) [none,some 4] (bF 0) cO (aF fJ (a7 (pA (a6 1) [none,some 0] (bF 0) (aZ (q2 (iV false) (a6 1) (a6 0))) (a6 0)) aA))))
 (bB (cE (a7 (aF fL (a7 (uF kH (a7 (a6 2) (a7 (a6 3) (a7 (a6 9) aA)))) aA)) (a7 (aF fL (a7 (aF oV (a7 (aF oW (a7 (a6 4) aA)) aA)) aA)) aA))))))
def J8:aL:=(aS (fI 3 (c7 (fW (a6 1)) [none] (bF 0) cO (fZ (qC (.int 1)) (cX (a6 0) (qC (.int 2))))))
 (aS (fI 4 (qC (.dT [])))
 (aS (cF (nU (aZ (sZ (aF fJ (a7 (a6 0) aA)) (qC (.int 0)))) (aZ (g9 (cX (fK (a6 0) (qC (.int 0))) (qC (.int 2))) (qC (.int 1))))) (aS (uD 3 4 (aF pE (a7 (g6 (fK (a6 0) (qC (.int 0))) (qC (.int 2))) (a7 (a6 1) aA))))
  (bJ 0 (sW (a6 0) (sV (qC (.int 1))) sU))) cK)
 uH)))
theorem NN.set {zs:List Int}{z:Int} (h:NN zs) (hz:0<=z) (j:Nat):NN (zs.set j z):=fun y hy=>by
 rcases List.mem_or_eq_of_mem_set hy with hy | rfl
 ·exact h y hy
 ·exact hz
theorem K0 {x:PV}{ns:List Int}{n wy:Int}{g:Bool}{ws:List Int}{ps:List (List aD × PV)}{Q:PV->Prop} (hx:fC x ns) (hg:(Slot.sh g x).tag = .rd->flat x=true) (n0:0<=n) (n1:n<=8) (wl:(ws.length:Int)=n) (nw:NN ws) (dk:DK n ps) (q:∀ ws ls,j7 n ws ls->Q (bP ws ls)) :
  uH { nx:=fun _=>Q .non,rt:=Q } [some (.sh g x),si n,si wy,some (.own (.lst (intz ws))),some (.own (.dT ps)),none,none,none,none,none]:=by
 refine⟨_,rfl,_,hx.seq,hg,fun i ρ=>∃ (a b c d:Option Slot) (ws:List Int) (ps:List (List aD × PV)),ρ = [some (.sh g x),si n,si wy,some (.own (.lst (intz ws))),some (.own (.dT ps)),a,b,c,d,none]/\(ws.length:Int)=n/\NN ws/\DK n ps,⟨none,none,none,none,ws,ps,rfl,wl,nw,dk⟩,?_,?_⟩
 ·rintro i y ρ hy ⟨a,b,c,d,ws,ps,rfl,wl,nw,dk⟩
  obtain ⟨cell,rfl,hc⟩:=fB hy
  generalize o0 _ _=gg
  have few:=dk.few n1
  refine⟨_,rfl,_,_,rfl,rfl,_,rfl,?_⟩
  by_cases h1:(0:Int) < n
  ·dsimp only
   rw [aL7 h1]
   refine b4 ⟨_,rfl,cell,0,rfl,by decide,by decide,fun t t0=>⟨trivial,?_⟩⟩
   refine⟨_,rfl,_,rfl,_,_,rfl,rfl,h1,trivial,?_⟩
   refine⟨_,rfl,_,_,rfl,rfl,⟨by decide,by decide⟩,_,rfl,_,_,rfl,rfl,h1,trivial,?_⟩
   dsimp only
   generalize hone:t % n=one
   generalize hoth:t / 64 % n=oth
   have o1:0<=one/\one < n:=by rw [<- hone]; exact⟨aT0 _ (by omega),Int.emod_lt_of_pos _ h1⟩
   have o2:0<=oth/\oth < n:=by rw [<- hoth]; exact⟨aT0 _ (by omega),Int.emod_lt_of_pos _ h1⟩
   have lk:one ≠ oth->0<=(if oth < one then oth else one)/\(if oth < one then oth else one) < (if oth > one then oth else one)/\(if oth > one then oth else one) < n:=fun ne=>by
    split <;> split <;> omega
   refine⟨_,rfl,_,_,rfl,rfl,⟨by decide,by decide⟩,_,_,rfl,rfl,(by show (0:Int) < 4; decide),.inl ⟨_,_,rfl,rfl,_,rfl,?_⟩⟩
   cases h2:(if false=true then !decide (t / 4096 % 4=0) else decide (t / 4096 % 4=0)) with
   | true=>
    refine b4 ⟨_,rfl,_,_,rfl,rfl,⟨by decide,by decide⟩,_,_,rfl,rfl,(by show (0:Int) < 5; decide),_,rfl,_,rfl,one,one.toNat,rfl,?_,trivial,?_⟩
    ·rw [b6]; unfold fS; rw [if_pos o1.1,if_pos (by omega)]
    ·refine⟨some (.sh (gg || true) (.int cell)),si t,si one,si oth,ws.set one.toNat (t / 16384 % 5),ps,?_,by rw [aM7]; exact wl,nw.set (aT0 _ (by decide)) _,dk⟩
     rw [show intz (ws.set one.toNat (t / 16384 % 5))=(intz ws).set one.toNat (.int (t / 16384 % 5)) from List.map_set ..]
     rfl
   | false=>
    refine aW ⟨_,rfl,_,rfl,.inl ⟨_,_,rfl,rfl,_,rfl,?_⟩⟩
    show if (!decide (one=oth))=true then _ else _
    have third:(cF (aZ (lP (a6 7) (a6 8))) (jV 4 (cE (a7 (aF jT (a7 (a6 7) (a7 (a6 8) aA))) (a7 (aF iR (a7 (a6 7) (a7 (a6 8) aA))) aA))) (qC (.bl true))) cK) { nx:=fun ρ=>∃ (a b c d:Option Slot) (ws:List Int) (ps:List (List aD × PV)),ρ = [some (.sh g x),si n,si wy,some (.own (.lst (intz ws))),some (.own (.dT ps)),a,b,c,d,none]/\(ws.length:Int)=n/\NN ws/\DK n ps,rt:=Q,ct:=fun ρ=>∃ (a b c d:Option Slot) (ws:List Int) (ps:List (List aD × PV)),ρ = [some (.sh g x),si n,si wy,some (.own (.lst (intz ws))),some (.own (.dT ps)),a,b,c,d,none]/\(ws.length:Int)=n/\NN ws/\DK n ps,bk:=(aS (bJ 9 (c7 (fW (a6 1)) [none,some 4] (bF 0) cO (aF fJ (a7 (pA (a6 1) [none,some 0] (bF 0) (aZ (q2 (iV false) (a6 1) (a6 0))) (a6 0)) aA)))) (bB (cE (a7 (aF fL (a7 (uF kH (a7 (a6 2) (a7 (a6 3) (a7 (a6 9) aA)))) aA)) (a7 (aF fL (a7 (aF oV (a7 (aF oW (a7 (a6 4) aA)) aA)) aA)) aA))))) { nx:=fun _=>Q .non,rt:=Q } }
      [some (.sh g x),si n,si wy,some (.own (.lst (intz ws))),some (.own (.dT ps)),some (.sh (gg || true) (.int cell)),si t,si one,si oth,none]:=by
     refine⟨_,rfl,_,rfl,.inl ⟨_,_,rfl,rfl,_,rfl,?_⟩⟩
     show if (!decide (one=oth))=true then _ else _
     by_cases h3:one=oth
     ·rw [aL7 h3]
      exact aW ⟨some (.sh (gg || true) (.int cell)),si t,si one,si oth,ws,ps,rfl,wl,nw,dk⟩
     ·rw [aK5 h3]
      refine b4 ⟨_,rfl,_,rfl,_,rfl,_,_,rfl,_,rfl,_,rfl,_,_,rfl,by show 2<=1000; decide,rfl,e9 (if oth < one then oth else one,if oth > one then oth else one),rfl,trivial,by omega,?_⟩
      exact⟨some (.sh (gg || true) (.int cell)),si t,si one,si oth,ws,_,rfl,wl,nw,dk.put _ (lk h3)⟩
    by_cases h3:one=oth
    ·rw [aL7 h3]
     exact aW (aW third)
    ·rw [aK5 h3]
     refine b4 ⟨_,rfl,_,rfl,_,_,rfl,_,rfl,_,rfl,_,_,rfl,by show 2<=1000; decide,rfl,_,rfl,_,.inr ⟨ps,e9 (if oth < one then oth else one,if oth > one then oth else one),rfl,rfl,rfl⟩,_,rfl,?_⟩
     cases hv:(bS ps (e9 (if oth < one then oth else one,if oth > one then oth else one))).isSome with
     | false=>exact aW third
     | true=>
      have is:∃ j:Nat,(ps.map (·.1))[j]? = some (e9 (if oth < one then oth else one,if oth > one then oth else one)):=by
       rw [<- oS] at hv
       obtain ⟨p,hp,e⟩:=List.any_eq_true.mp hv
       have e:=aS8 e
       obtain ⟨j,hj,ej⟩:=List.getElem_of_mem hp
       exact⟨j,by rw [aJ6,aJ2 hj,ej]; exact congrArg some e⟩
      refine b4 ⟨_,rfl,_,rfl,_,rfl,_,_,rfl,_,rfl,_,rfl,_,_,rfl,by show 2<=1000; decide,rfl,e9 (if oth < one then oth else one,if oth > one then oth else one),rfl,is,fun j hj=>?_⟩
      exact⟨some (.sh (gg || true) (.int cell)),si t,si one,si oth,ws,_,rfl,wl,nw,dk.cut j⟩
  ·dsimp only
   rw [aK5 h1]
   exact aW ⟨some (.sh (gg || true) (.int cell)),b,c,d,ws,ps,rfl,wl,nw,dk⟩
 rintro ρ ⟨a,b,c,d,ws,ps,rfl,wl,nw,dk⟩
 have few:=dk.few n1
 refine⟨_,rfl,n,rfl,by omega,by omega,by rw [dQ]; omega,fun i acc=>∃ ds,acc=intz ds/\ds.length=i/\NN ds,⟨[],rfl,rfl,fun _ h=>nomatch h⟩,?_,?_⟩
 ·rintro i y acc hy ⟨ds,rfl,dl,dn⟩
  obtain ⟨rfl,hi⟩:=iE hy
  refine⟨_,rfl,ps,rfl,by omega,?_,fun j acc=>True,trivial,?_,?_⟩
  ·intro m hm
   have hm:some m ∈ [none,some (Slot.sh false (.int (0+(i:Int))))]:=hm
   simp only [aK0,aL4,aQ2,Option.some.injEq,reduceCtorEq,false_or] at hm
   rw [hm]; rfl
  ·rintro j k acc hk _
   have hk':k ∈ ps.map (·.1):=aL1 hk
   obtain ⟨p,hp,rfl⟩:=aO9.mp hk'
   obtain ⟨l,e,_⟩:=dk.key p hp
   rw [e]
   refine⟨_,rfl,_,rfl,_,[l.1,l.2],rfl,rfl,_,rfl,?_⟩
   show if decide (0+(i:Int) ∈ [l.1,l.2])=true then _ else _
   cases decide (0+(i:Int) ∈ [l.1,l.2]) with
   | true=>exact b4 ⟨_,rfl,⟨trivial,rfl⟩,trivial⟩
   | false=>exact aW trivial
  ·rintro acc _
   refine⟨_,_,rfl,rfl,trivial,ds ++ [(acc.length:Int)],by rw [dF]; rfl,by rw [aJ4,dl]; rfl,dn.app (by omega)⟩
 rintro acc ⟨ds,rfl,dl,dn⟩
 rw [dQ] at dl
 obtain ⟨ls,e1,e2,e3,e4⟩:=DL.links dk.key
 have lnd:ls.Nodup:=by
  have:=dk.nd
  rw [e4] at this
  exact (aR8.mp this).imp fun h e=>h (congrArg e9 e)
 refine⟨trivial,_,rfl,_,rfl,_,rfl,wy,ws,ds,rfl,by omega,by omega,nw,dn,fun zs zl zn=>⟨⟨_,_,rfl,rfl,cD _,_,rfl,ps,rfl,ls.map two,?_,by rw [aJ3]; omega,?_,fun us pz so=>?_⟩,fun ns z=>by cases z⟩⟩
 ·show [PV.lst (ps.map fun p=>PV.tup (p.1.map kP))]=_
  rw [e1,E6]
 ·intro y hy z
  obtain ⟨l,_,rfl⟩:=aO9.mp hy
  cases z
 obtain ⟨ls',rfl,pl⟩:=au1 pz
 rw [<- E6]
 exact⟨⟨_,_,rfl,rfl,oP _,by show 2<=1000; decide,au3 _ _,trivial,q zs ls' (j7.perm (by omega) e2 (by omega) lnd zn pl so)⟩,fun ns z=>by cases z⟩
theorem az5:cH J8 ["flow","many","way","wants","links","cell","turn","one","other","degrees"] pF:=by
 rintro xs Q ⟨x,ns,n,wy,rfl,hx,hns,n0,n1,q⟩
 refine⟨_,rfl,n,rfl,by omega,by omega,by rw [dQ]; omega,fun i acc=>∃ ws,acc=intz ws/\ws.length=i/\NN ws,⟨[],rfl,rfl,fun _ h=>nomatch h⟩,?_,?_⟩
 ·rintro i y acc hy ⟨ws,rfl,wl,nw⟩
  obtain ⟨rfl,hi⟩:=iE hy
  have e0:=aT0 (0+(i:Int)) (show (2:Int) ≠ 0 by decide)
  refine⟨_,rfl,_,_,rfl,rfl,(by show (0:Int) < 2; decide),_,_,rfl,rfl,trivial,ws ++ [1+(0+(i:Int)) % 2],by rw [dF]; rfl,by rw [aJ4,wl]; rfl,nw.app (by omega)⟩
 rintro acc ⟨ws,rfl,wl,nw⟩
 rw [dQ] at wl
 refine⟨rfl,cD _,rfl,rfl,?_⟩
 have last:uH { nx:=fun _=>Q .non,rt:=Q } [some (.sh (flat x) x),si n,si wy,some (.own (.lst (intz ws))),some (.own (.dT [])),none,none,none,none,none]:=
  K0 hx (au6 hx) n0 n1 (by omega) nw (DK.nil n) q
 refine⟨_,rfl,_,_,rfl,hx.len,_,_,rfl,rfl,_,rfl,?_⟩
 by_cases h1:(0:Int) < (ns.length:Int)
 ·dsimp only
  rw [aL7 h1]
  have g0:ns[0]? = some (ns[0]'(by omega)):=aJ2 (by omega)
  have i0:L2.atI (intz ns) (0:Int)=some (.int (ns[0]'(by omega))):=qQ (xs:=intz ns) (j:=0) (by rw [aJ6,g0]; rfl)
  refine b4 ⟨_,rfl,_,_,_,hx.seq,rfl,i0,_,_,rfl,rfl,(by show (0:Int) < 2; decide),.inl ⟨_,_,rfl,rfl,_,rfl,?_⟩⟩
  cases h2:(if false=true then !decide (ns[0]'(by omega) % 2=1) else decide (ns[0]'(by omega) % 2=1)) with
  | true=>
   refine b4 ⟨_,rfl,_,_,_,hx.seq,rfl,i0,_,_,rfl,rfl,⟨by decide,by decide⟩,_,rfl,_,n,rfl,n0,by omega,fun ws2 ps wl2 nw2 dk=>⟨_,_,by decide,rfl,rfl,cD _,dk.fl,?_⟩⟩
   refine⟨_,rfl,_,rfl,_,hx.seqTF,cD _,trivial,?_⟩
   have hc:fC (sT x (fY (intz ns) (some 1) none)) (ns.drop 1):=by
    rcases hx with rfl | rfl
    ·exact .inr (by show PV.lst (fY (intz ns) (some 1) none)=_; rw [tU ns (by decide)]; rfl)
    ·exact .inr (by show PV.lst (fY (intz ns) (some 1) none)=_; rw [tU ns (by decide)]; rfl)
   exact K0 (g:=true) hc (fun z=>by cases z) n0 n1 wl2 nw2 dk q
  | false=>exact aW last
 ·dsimp only
  rw [aK5 h1]
  exact aW (aW last)
def pG:aX:=fun xs Q=>∃ c n:Int,xs = [.int c,.int n]/\0<=n/\n<=40/\∀ S,bQ n.toNat S=true->Q (.tup (intz S))
def K1:aL:=(aS (cF (aZ (g9 (cX (a6 0) (qC (.int 2))) (qC (.int 1)))) (bB (aF fL (a7 (c7 (fW (a6 1)) [none,some 0] (bF 0) (aZ (g9 (cX (al4 (a6 1) (fZ (a6 0) (qC (.int 1)))) (qC (.int 2))) (qC (.int 1)))) (a6 0)) aA))) cK)
 (bB (aF fL (a7 (c7 (fW (a6 1)) [none,some 0] (bF 0) (aZ (sY (cX (aF kG (a7 (a6 1) (a7 (a6 0) aA))) (qC (.int 8))) (fZ (qC (.int 1)) (cX (g6 (a6 1) (qC (.int 2))) (qC (.int 7)))))) (a6 0)) aA))))
def gE (i:Nat) (S:List Int):Prop:=S.Pairwise (· < ·)/\∀ x ∈ S,0<=x/\x < (i:Int)
theorem gE.more {i:Nat}{S:List Int} (h:gE i S):gE (i+1) S:=⟨h.1,fun x hx=>by have:=h.2 x hx; omega⟩
theorem gE.app {i:Nat}{S:List Int} (h:gE i S):gE (i+1) (S ++ [(0:Int)+(i:Int)]):=by
 refine⟨aU9.mpr ⟨h.1,aL8 _ _,fun a ha b hb=>?_⟩,fun x hx=>?_⟩
 ·rw [aJ5.mp hb]
  have:=h.2 a ha
  omega
 ·rcases aL9.mp hx with hx | hx
  ·have:=h.2 x hx; omega
  ·rw [aJ5.mp hx]; omega
theorem gE.set {i:Nat}{S:List Int} (h:gE i S):bQ i S=true:=by
 unfold bQ
 rw [A2 h.1,Bool.true_and,aR1]
 intro b hb
 obtain ⟨x,hx,rfl⟩:=aO9.mp hb
 have:=h.2 x hx
 unfold inB
 simp only [id,aM2,aU8]
 exact this
theorem az6:cH K1 ["cell","many"] pG:=by
 rintro xs Q ⟨c,n,rfl,n0,n1,q⟩
 refine⟨_,rfl,_,_,rfl,rfl,(by show (0:Int) < 2; decide),.inl ⟨_,_,rfl,rfl,_,rfl,?_⟩⟩
 cases h1:(if false=true then !decide (c % 2=1) else decide (c % 2=1)) with
 | true=>
  refine b4 ⟨_,rfl,n,rfl,by omega,by omega,by rw [dQ]; omega,fun i acc=>∃ S,acc=intz S/\gE i S,⟨[],rfl,.nil,fun _ h=>nomatch h⟩,?_,?_⟩
  ·rintro i y acc hy ⟨S,rfl,hS⟩
   obtain ⟨rfl,hi⟩:=iE hy
   refine⟨_,rfl,_,rfl,_,_,rfl,rfl,_,_,rfl,rfl,(by show (0:Int)<=0+(i:Int)+1; omega),_,_,rfl,rfl,(by show (0:Int) < 2; decide),.inl ⟨_,_,rfl,rfl,_,rfl,?_⟩⟩
   dsimp only
   generalize (if false=true then _ else _)=b
   cases b with
   | true=>exact b4 ⟨_,rfl,trivial,S ++ [(0:Int)+(i:Int)],by rw [dF]; rfl,hS.app⟩
   | false=>exact aW ⟨S,rfl,hS.more⟩
  ·rintro acc ⟨S,rfl,hS⟩
   rw [dQ] at hS
   exact⟨⟨_,_,rfl,rfl,cD _,trivial,q S hS.set⟩,fun ns z=>by cases z⟩
 | false=>
  refine aW ⟨_,rfl,n,rfl,by omega,by omega,by rw [dQ]; omega,fun i acc=>∃ S,acc=intz S/\gE i S,⟨[],rfl,.nil,fun _ h=>nomatch h⟩,?_,?_⟩
  ·rintro i y acc hy ⟨S,rfl,hS⟩
   obtain ⟨rfl,hi⟩:=iE hy
   refine⟨_,rfl,_,rfl,c,_,rfl,by omega,by omega,fun z z0=>⟨_,_,rfl,rfl,(by show (0:Int) < 8; decide),_,rfl,_,_,rfl,rfl,⟨by decide,by decide⟩,_,_,rfl,rfl,(by show (0:Int) < 7; decide),_,_,rfl,rfl,_,_,rfl,rfl,_,rfl,?_⟩⟩
   dsimp only
   generalize decide ((_:Int) < _)=b
   cases b with
   | true=>exact b4 ⟨_,rfl,trivial,S ++ [(0:Int)+(i:Int)],by rw [dF]; rfl,hS.app⟩
   | false=>exact aW ⟨S,rfl,hS.more⟩
  ·rintro acc ⟨S,rfl,hS⟩
   rw [dQ] at hS
   exact⟨⟨_,_,rfl,rfl,cD _,trivial,q S hS.set⟩,fun ns z=>by cases z⟩
def pH:aX:=fun xs Q=>∃ ws ls h,xs = [bP ws ls,.int h]/\(∀ l ∈ ls,l.1 ≠ l.2)/\ls.length<=1700/\Q (.lst (intz (bW ls h)))
def K2:aL:=(bB (c7 (dE (fK (a6 0) (qC (.int 1)))) [none,none,some 1] (lM 0 1) (aZ (q2 (iV false) (a6 2) (cE (a7 (a6 0) (a7 (a6 1) aA))))) (yW (fZ (a6 0) (a6 1)) (a6 2))))
theorem az7:cH K2 ["web","hearth"] pH:=by
 rintro xs Q ⟨ws,ls,h,rfl,hne,hl,q⟩
 refine⟨_,rfl,_,_,_,rfl,rfl,rfl,cU ls,rfl,(fun z=>oP ls),by rw [C2]; omega,fun i acc=>acc=intz (bW (ls.take i) h),rfl,?_,?_⟩
 ·rintro i y acc hy rfl
  obtain ⟨l,rfl,hi⟩:=as1 hy
  have tk:=xT hi h
  have ne:=hne l (aL1 hi)
  refine⟨_,_,rfl,_,rfl,_,rfl,_,rfl,by show 2<=1000; decide,rfl,h,[l.1,l.2],rfl,rfl,_,rfl,?_⟩
  show if decide (h ∈ [l.1,l.2])=true then _ else _
  by_cases h1:l.1=h
  ·rw [if_pos h1,if_neg (by rw [<- h1]; exact Ne.symm ne)] at tk
   rw [aL7 (by rw [<- h1]; exact aK1)]
   refine b4 ⟨_,rfl,_,rfl,_,_,rfl,rfl,_,rfl,_,_,rfl,rfl,trivial,?_⟩
   dsimp only
   rw [tk,dF,show l.1+l.2 - h=l.2 by omega]
   simp
  ·by_cases h2:l.2=h
   ·rw [if_neg h1,if_pos h2] at tk
    rw [aL7 (by rw [<- h2]; simp)]
    refine b4 ⟨_,rfl,_,rfl,_,_,rfl,rfl,_,rfl,_,_,rfl,rfl,trivial,?_⟩
    dsimp only
    rw [tk,dF,show l.1+l.2 - h=l.1 by omega]
    simp
   ·rw [if_neg h1,if_neg h2] at tk
    rw [aK5 (by simp; exact⟨Ne.symm h1,Ne.symm h2⟩)]
    refine aW ?_
    dsimp only
    rw [tk]; simp
 ·rintro acc rfl
  rw [C2,aM5]
  exact⟨trivial,q⟩
end Core
namespace PP
open PySem L2
section
variable {X : Cx} {te : aB} {pos p2 : Pos} {scope : Scope} {N : List Str} {fr : List (Option Nat)} {x : Str} {tp : Pos} {iter elt : Expr} {ti : dP}
theorem az8 {ifs:List Expr}{tcs:bI} (he:∀ (s:Shared) (H:Hp) (C:Addr) (fp:List Addr),QE (aU X scope N s H C fp b7) elt te) (hi:∀ (s:Shared) (H:Hp) (C:Addr) (fp:List Addr),gS (aU X scope N s H C fp b7) ifs (LT (aU X scope N s H C fp b7) tcs))
  (hN:N.Nodup) (h0:N[0]? = some x) (hl:∀ (s:Shared) (H:Hp) (C:Addr) (fp:List Addr),(aU X scope N s H C fp b7).env.scope.names.lookup x=some .cell) (ho:scope.names.lookup x=some .cell) (s:Shared) (H:Hp) :
  iN X scope N (.Name x tp) ifs elt s H (bL 0) (LT (X.frm H) tcs) (LE (X.frm H) te):=
 ⟨fun C fp=>dU (X:=aU X scope N s H C fp b7) hN h0 (.inr (hl s H C fp)) (.inl (show (scope.names.lookup x == some NameKind.cell)=true by rw [ho]; rfl)),fun C fp=>hi s H C fp,fun C fp=>he s H C fp⟩
theorem az9 {i:Nat}{z:Str}{zp:Pos} (nd:X.N.Nodup) (hi:QI X (.Name x tp) iter ti) (he:∀ (s:Shared) (H:Hp) (C:Addr) (fp:List Addr),QE (aU X scope N s H C fp b7) elt te)
  (hz:X.N[i]? = some z:=by rfl) (hzl:X.env.scope.names.lookup z=some .local:=by rfl) (hsw:swapsWith (.ListComp elt [⟨.Name x tp,iter,[],0⟩] scope p2) (some (.Name z zp)) pos.line X.env=pure true:=by rfl)
  (hc:X.calm=true:=by rfl) (S:bO X scope N fr:=by exact bO.of rfl rfl) (hN:N.Nodup:=by decide +kernel) (h0:N[0]? = some x:=by rfl) (hl:∀ (s:Shared) (H:Hp) (C:Addr) (fp:List Addr),(aU X scope N s H C fp b7).env.scope.names.lookup x=some .cell:=by intro _ _ _ _; rfl) (ho:scope.names.lookup x=some .cell:=by rfl) (hf:fr[0]? = some none:=by rfl)
  (hs:∀ x,foldedSetIterable iter X.env x=pure x:=by intro _; rfl):QS X (.Assign [.Name z zp] (.ListComp elt [⟨.Name x tp,iter,[],0⟩] scope p2) pos) (bJ i (c7 ti fr (bF 0) cO te)):=
 cS (rG (gh:=fun _=>bL 0) (tch:=fun H=>LT (X.frm H) cO) (teh:=fun H=>LE (X.frm H) te) hc S hi (az8 he (fun _ _ _ _=>oH) hN h0 hl ho) nd hz hzl hsw hs) fun D σ H h=>iT (iS _ 0) (fun i e=>by subst e; exact hf) (sE h)
end
end PP
namespace Core
open PySem L2 PP
def aA0 (f:List Int->List (Int × Int)->List Int->(PV->Prop)->Prop):dG:=fun Ep xs Q=>∃ ws ls x ns,xs = [bP ws ls,x]/\Wb ws ls/\cM x ns/\ns.length<=1000/\(bQ ws.length ns=true->f ws ls ns Q)/\(bQ ws.length ns=false->Ep "BadSet")
def bH (hs:List Int):List (List Int):=hs.foldl (fun acc h=>acc ++ acc.map fun p=>p ++ [h]) [[]]
theorem jA (hs:List Int) (h:Int):bH (hs ++ [h])=bH hs ++ (bH hs).map fun p=>p ++ [h]:=by
 unfold bH; rw [List.foldl_append]; rfl
theorem aA1:∀ hs:List Int,∀ k,(bH (hs.take k)).length=2 ^ min k hs.length:=by
 intro hs k
 induction k with
 | zero=>simp [bH]
 | succ k ih=>
  by_cases h:k < hs.length
  ·have tk:hs.take (k+1)=hs.take k ++ [hs[k]]:=by rw [aO2,aJ2 h]; rfl
   rw [tk,jA,aJ4,aJ3,ih,show min (k+1) hs.length=min k hs.length+1 by omega,Nat.pow_succ]
   omega
  ·rw [List.take_of_length_le (by omega),show min (k+1) hs.length=min k hs.length by omega,<- ih,List.take_of_length_le (by omega)]
def pI:aX:=fun xs Q=>∃ x hs,xs = [x]/\cM x hs/\hs.length<=12/\Q (.lst (tups (bH hs)))
def K3:aL:=(aS (bJ 1 (gW (a7 (cE aA) aA)))
 (aS (eZ (dE (a6 0)) (bF 2)
  (bJ 1 (tX (a6 1) (c7 (dE (a6 1)) [none,some 2] (bF 0) cO (oZ (a6 0) (cE (a7 (a6 1) aA)))))))
 (iQ 1)))
theorem aA2:cH K3 ["hearths","chosen","hearth"] pI:=by
 rintro xs Q ⟨x,S,rfl,hx,hl,q⟩
 refine⟨by decide,rfl,by show 1<=1000; decide,rfl,trivial,?_⟩
 refine⟨_,rfl,_,hx.seq,lX hx,fun i ρ=>∃ (y:Option Slot),ρ = [some (.sh (flat x) x),some (.sh true (.lst (tups (bH (S.take i))))),y],⟨none,rfl⟩,?_,?_⟩
 ·rintro i y ρ hy ⟨y0,rfl⟩
  obtain ⟨h,rfl,hi⟩:=fB hy
  have il:i < S.length:=(aJ8.mp hi).1
  have sl:=aA1 S i
  have p8:(bH (S.take i)).length<=4096:=by
   rw [sl]
   exact aM8 (Nat.pow_le_pow_right (by decide) (show min i S.length<=12 by omega)) (by decide)
  have shr:∀ p ∈ bH (S.take i),p.length<=12:=by
   have gen:∀ hs:List Int,∀ p ∈ bH hs,p.length<=hs.length:=by
    intro hs
    have:∀ (n:Nat) (hs:List Int),hs.length=n->∀ p ∈ bH hs,p.length<=hs.length:=by
     intro n
     induction n with
     | zero=>intro hs e p hp; rw [List.eq_nil_of_length_eq_zero e] at hp ⊢; rw [aJ5.mp (show p ∈ [[]] from hp)]; exact aJ0 _
     | succ n ih=>
      intro hs e p hp
      rcases List.eq_nil_or_concat hs with z | ⟨l,a,z⟩
      ·rw [z] at e; cases e
      ·have z:hs=l ++ [a]:=by rw [z]; simp
       subst z
       have le:l.length=n:=by simpa using e
       rw [jA] at hp
       rw [aJ4,aN6]
       rcases aL9.mp hp with z | z
       ·have:=ih l le p z; omega
       ·obtain ⟨r,hr,rfl⟩:=aO9.mp z
        have:=ih l le r hr
        rw [aJ4,aN6]; omega
    exact this hs.length hs rfl
   intro p hp
   have:=gen _ p hp
   rw [aT5] at this
   omega
  have tk:S.take (i+1)=S.take i ++ [h]:=by rw [aO2,hi]; rfl
  refine m7 ?_
  refine⟨_,rfl,_,rfl,_,rfl,(fun z=>by cases z),by rw [k9]; omega,fun j acc=>acc=tups (((bH (S.take i)).take j).map fun p=>p ++ [h]),rfl,?_,?_⟩
  ·rintro j z acc hz rfl
   obtain ⟨p,rfl,hj⟩:=B8 hz
   refine⟨_,rfl,_,rfl,by show 1<=1000; decide,rfl,_,_,rfl,rfl,cD _,rfl,?_,trivial,?_⟩
   ·have:=shr p (aL1 hj)
    rw [b6]
    show p.length+1<=16000000
    omega
   ·show tups _ ++ [PV.tup (intz p ++ intz [h])]=tups (((bH (S.take i)).take (j+1)).map fun p=>p ++ [h])
    rw [aO2,hj,<- dF]
    unfold tups
    rw [aO5,aO5]
    rfl
  ·rintro acc rfl
   rw [k9,aM5]
   refine⟨_,_,rfl,rfl,tP _,tP _,?_,trivial,some (.sh true (.int h)),?_⟩
   ·rw [k9,k9,aJ3]; omega
   ·rw [tk,jA]
    unfold tups
    rw [aO5]; rfl
 ·rintro ρ ⟨y,rfl⟩
  rw [b6,aM5]
  exact⟨_,rfl,trivial,q⟩
section
variable {ws : List Int} {ls : List (Int × Int)}
def cne (ws:List Int) (ls:List (Int × Int)) (S:List Int):Bool:=!decide (S = []) && decide (stay ws ls S=S)
end
theorem aA3 {b:Bool}{A B:Prop} (a:A) (c:B):if b=true then A else B:=by
 cases b with
 | true=>exact b4 a
 | false=>exact aW c
end Core
namespace PP
open PySem L2
section
variable {X : Cx} {D : TD} {σ : List (Option V)} {H : Hp}
theorem aA4 {k j:Nat}{x:Str}{ps:List Str}{p:aX} (d:Df X.prog X.w X.K X.mg X.base k x ps p) (hr:bE j X.A) (hkj:k<=j:=by decide) (hg:Gl X x:=by rfl) (hdb:(x == ("__debug__" : Str))=false:=by decide):QE X (.Call (.Name x p2) [] [] pos) (aF p aA):=by
 obtain ⟨f,fd,F,b,kp,m⟩:=d.ex
 exact bC (W6 F (hr.mono hkj) hg m kp b .nil r9 hdb) fun _ _ _ h=>yB (yJ h)
end
end PP
namespace Core
open PySem L2 PP
def far (ns S:List Int):Bool:=decide (((S.filter fun x=>decide (x ∈ ns)).length:Int)=0)
def pJ:dG:=fun Ep xs Q=>∃ ws ls x ns y os,xs = [bP ws ls,x,y]/\Wb ws ls/\cM x ns/\ns.length<=1000/\cM y os/\os.Perm (rng ws.length)/\(bQ ws.length ns=true->∀ k,tZ ws ls os ns k->Q (.lst (intz (bZ ws ls os ns k))))/\(bQ ws.length ns=false->Ep "BadSet")
def K4 (Ep:Str->Prop):aL:=(aS (fI 3 (aF k7 (a7 (kA Ep p9 (a7 (a6 0) (a7 (a6 1) aA))) aA)))
 (aS (cF (iP (aZ (aF p4 (a7 (a6 0) (a7 (a6 2) aA))))) (m8 Ep "BadOrder" (a7 (qC (.str "each hearth stands in an order once")) aA)) cK)
 (aS (bJ 4 (aF lY (a7 (a6 0) aA)))
 (aS (fI 5 (gW aA))
 (aS (bJ 6 (aF m6 (a7 (a6 0) (a7 (a6 4) (a7 (a6 3) (a7 (a6 2) aA))))))
 (aS (sF (aZ (al5 (a6 6) (qC .non)))
  (aS (nY 5 (a6 6))
  (aS (o9 3 (a6 6) (qC (.bl true)))
  (bJ 6 (aF m6 (a7 (a6 0) (a7 (a6 4) (a7 (a6 3) (a7 (a6 2) aA)))))))))
 (iQ 5)))))))
theorem aA5:mB K4 ["web","seeds","order","burning","around","kindled","hearth"] pJ:=by
 rintro Ep xs Q ⟨ws,ls,x,ns,y,os,rfl,wb,hx,hl,hy,po,q,qe⟩
 refine⟨_,rfl,_,rfl,ws,ls,x,ns,rfl,hx,hl,fun hs=>?_,qe⟩
 have q:=q hs
 have few:=wb.few
 have ln:=B9 hs
 have lo:=po.length_eq
 rw [hJ] at lo
 have inn:∀ h ∈ os,h ∈ rng ws.length:=fun h hh=>po.mem_iff.mp hh
 refine⟨_,ns,rfl,.inl rfl,by omega,fun ps d=>⟨rfl,d.fl,?_⟩⟩
 refine⟨_,rfl,_,rfl,ws,ls,y,os,rfl,few,hy,po,_,rfl,aW ?_⟩
 refine⟨_,rfl,ws,ls,rfl,wb,trivial,?_⟩
 refine⟨by decide,rfl,rfl,rfl,?_⟩
 refine⟨_,rfl,_,rfl,_,rfl,_,rfl,ws,ls,ps,ns,y,os,rfl,wb,d,hy,inn,trivial,?_⟩
 have f0:os.find? (kin ws ls ns)=fP ws ls os ns 0:=by
  show _=os.find? (kin ws ls (ns ++ []))
  rw [aN3]
 rw [f0]
 refine⟨fun n ρ=>∃ k ps,ρ = [some (.sh (flat (bP ws ls)) (bP ws ls)),some (.sh (flat x) x),some (.sh (flat y) y),some (.own (.dK ps)),some (.sh true (.lst (gD ws.length ls))),some (.own (.lst (intz (bZ ws ls os ns k)))),some (.sh true (F8 (fP ws ls os ns k)))]/\
   n+(bZ ws ls os ns k).length=ws.length/\DS ps (ns ++ bZ ws ls os ns k)/\∀ j < k,fP ws ls os ns j ≠ none,⟨ws.length,0,ps,rfl,rfl,by rw [show bZ ws ls os ns 0 = [] from rfl,aN3]; exact d,fun _ z=>absurd z (Nat.not_lt_zero _)⟩,?_⟩
 rintro n ρ ⟨k,ps,rfl,hn,d,ne⟩
 refine⟨_,rfl,rfl,_,rfl,?_⟩
 cases hf:fP ws ls os ns k with
 | none=>exact aW ⟨_,rfl,trivial,q k ⟨ne,hf⟩⟩
 | some h=>
  have e1:=F5 hf
  have l1:=u4 (ls:=ls) po hs (k+1)
  have l0:=u4 (ls:=ls) po hs k
  have dl:=d.len
  rw [aJ4] at dl
  rw [e1,aJ4,aN6] at l1
  refine b4 ⟨_,rfl,_,rfl,trivial,by rw [b6]; omega,?_⟩
  refine⟨ps,rfl,_,rfl,Sum.inl h,rfl,trivial,by omega,?_⟩
  have D7:DS (cL ps (Sum.inl h:aD) (.bl true)) (ns ++ bZ ws ls os ns (k+1)):=by
   rw [e1,<- aU6]; exact d.put h _ rfl
  refine⟨_,rfl,_,rfl,_,rfl,_,rfl,ws,ls,_,_,y,os,rfl,wb,D7,hy,inn,trivial,?_⟩
  refine⟨n - 1,by omega,k+1,_,?_,by rw [e1,aJ4,aN6]; omega,D7,fun j hj=>?_⟩
  ·rw [show intz (bZ ws ls os ns (k+1))=intz (bZ ws ls os ns k) ++ [PV.int h] by rw [e1,dF]; rfl]; rfl
  ·by_cases e:j=k
   ·rw [e,hf]; exact fun z=>nomatch z
   ·exact ne j (by omega)
def pK:dG:=aA0 fun ws ls ns Q=>∀ k,tZ ws ls (rng ws.length) ns k->Q (.tup (intz (bZ ws ls (rng ws.length) ns k)))
def K5 (Ep:Str->Prop):aL:=(bB (aF fL (a7 (kA Ep pJ (a7 (a6 0) (a7 (a6 1) (a7 (tQ (aF iF (a7 (a6 0) aA))) aA)))) aA)))
theorem aA6:mB K5 ["web","seeds"] pK:=by
 rintro Ep xs Q ⟨ws,ls,x,ns,rfl,wb,hx,hl,q,qe⟩
 have few:=wb.few
 refine⟨_,rfl,_,rfl,_,rfl,ws,ls,rfl,_,rfl,by omega,by omega,?_⟩
 rw [E4]
 exact⟨ws,ls,x,ns,_,rng ws.length,rfl,wb,hx,hl,.inr rfl,List.Perm.refl _,fun hs k en=>⟨⟨_,_,rfl,rfl,cD _,trivial,q hs k en⟩,(fun ns e=>by cases e)⟩,qe⟩
def pM:aX:=fun xs Q=>∃ ws ls B h,xs = [bP ws ls,.lst (intz B),.int h]/\(∀ l ∈ ls,l.1 ≠ l.2)/\ls.length<=1700/\0<=h/\h < (ws.length:Int)/\Q (.bl (kin ws ls B h))
def K6:aL:=(aS (cF (aZ (q2 (iV false) (a6 2) (a6 1))) (bB (qC (.bl false))) cK)
 (bB (t4 (aF fJ (a7 (c7 (dE (aF pH (a7 (a6 0) (a7 (a6 2) aA)))) [none,some 1] (bF 0) (aZ (q2 (iV false) (a6 0) (a6 1))) (a6 0)) aA)) (fK (fK (a6 0) (qC (.int 0))) (a6 2)))))
theorem aA7:cH K6 ["web","burning","hearth"] pM:=by
 rintro xs Q ⟨ws,ls,B,h,rfl,hne,hl,h0,h1,q⟩
 have gw:ws[h.toNat]? = some (ws.getD h.toNat 0):=by
  rw [aL2,aJ2 (by omega)]; rfl
 have ix:L2.atI (intz ws) h=some (.int (ws.getD h.toNat 0)):=by
  have:=qQ (xs:=intz ws) (j:=h.toNat) (by rw [aJ6,gw]; rfl)
  rwa [show ((h.toNat:Nat):Int)=h by omega] at this
 unfold kin at q
 refine⟨_,rfl,_,rfl,h,B,rfl,rfl,_,rfl,?_⟩
 show if decide (h ∈ B)=true then _ else _
 cases hb:decide (h ∈ B) with
 | true=>rw [hb] at q; exact b4 ⟨trivial,q⟩
 | false=>
  rw [hb] at q
  refine aW ⟨_,rfl,_,rfl,ws,ls,h,rfl,hne,hl,_,rfl,(fun z=>by cases z),?_,fun j acc=>acc=intz (((bW ls h).take j).filter fun x=>decide (x ∈ B)),rfl,?_,?_⟩
  ·rw [b6]; have:=nK ls h; omega
  ·rintro j z acc hz rfl
   obtain ⟨n,rfl,hn⟩:=fB hz
   have tk:=oO (p:=fun z=>decide (z ∈ B)) hn
   refine⟨_,rfl,_,rfl,n,B,rfl,rfl,_,rfl,?_⟩
   show if decide (n ∈ B)=true then _ else _
   cases hm:decide (n ∈ B) with
   | true=>
    rw [hm] at tk
    refine b4 ⟨_,rfl,trivial,?_⟩
    dsimp only
    rw [tk,dF]; rfl
   | false=>
    rw [hm] at tk
    refine aW ?_
    dsimp only
    rw [tk]; exact congrArg intz (aN3 _).symm
  ·rintro acc rfl
   rw [b6,aM5]
   refine⟨_,_,rfl,rfl,_,rfl,_,_,_,rfl,rfl,rfl,_,rfl,_,_,_,rfl,rfl,ix,_,_,rfl,rfl,trivial,?_⟩
   rw [b6]
   exact q
end Core
namespace PP
open PySem L2
section
variable {X : Cx} {a b e o : Expr} {ta tb te to : aB} {tr : bX} {pos p2 apos cpos : Pos} {σ : St} {H : Hp} {Q' : VK}
def uI:List PV->(PV->Prop)->Prop:=fun xs Q=>(∃ i,xs = [.int i]/\Q (.int i)) ∨ ∃ k,xs = [.bl k]/\Q (.int (if k then 1 else 0))
theorem aA8:e7 X uI (fun xs H Q=>(∃ i,xs = [.int i]/\Q (.int i) H) ∨ ∃ k,xs = [.bl k]/\Q (.int (if k then 1 else 0)) H):=by
 rintro H vs xs Q Q' r (⟨i,rfl,q⟩ | ⟨i,rfl,q⟩) k
 ·obtain ⟨v,rfl,r1⟩:=r.one
  cases r1
  exact .inl ⟨i,rfl,k _ _ _ (a9.refl _) (.int _) q⟩
 ·obtain ⟨v,rfl,r1⟩:=r.one
  cases r1
  exact .inr ⟨i,rfl,k _ _ _ (a9.refl _) (.int _) q⟩
theorem aA9 (B:Bt X.mg) (ha:QA X [e] tr) (hg:Gl X "int":=by rfl) (he:starEach [e] X.env=(false,eval e X.env) :: starEach [] X.env:=by rfl) (hpl:(backTo pos (starEach [] X.env)).any (·.1)=false:=by rfl):QE X (.Call (.Name "int" p2) [e] [] pos) (aF uI tr):=
 oD V8 aA8 hg B.int PyProof.Rows.boot_int ha (he:=he) (hpl:=hpl)
end
end PP
namespace L2
open PySem PySem.Spec PyProof.Rows
def K7 (K:PySem.W.Frag) (a:Addr) (n:Nat):It:=
 ⟨fun i H=>(∃ xs,aK K H a xs/\xs.length=n)/\i < n,fun i H x H'=>H'=H/\∀ xs,aK K H a xs->xs[n - 1 - i]? = some x,fun i H=>i=n⟩
theorem aB0 {P:Program}{w:World}{K:PySem.W.Frag}{tg:Expr} (a it:Addr) (n:Nat):fR P w K tg (K7 K a n) [it] it (fun i h=>h.IsRevIter it a ((n:Int) - 1 - (i:Int))):=by
 refine⟨by simp,fun i h st b hb=>?_,fun i h h' st k=>st.at fun o e=>k it (by simp) o e,?_,?_,fun _ _ _ _ _ st q=>wpAny_pyIter_revIter st q⟩
 ·obtain rfl:b=it:=by simpa using hb
  obtain ⟨o,e,c,d⟩:=st
  exact⟨o,e,fun v z=>by rw [d] at z; cases z⟩
 ·intro X hP hw hK hc i pins s σ H E I hf st hg
  subst hP hw hK
  obtain ⟨⟨xs,hq,hl⟩,hi⟩:=hg
  obtain ⟨its,rv,p,hz⟩:=I.list hq
  have lv:=rv.length
  have hx:xs[n - 1 - i]? = some (xs[n - 1 - i]'(by omega)):=aJ2 (by omega)
  obtain ⟨u,hu,ru⟩:=rv.get hx
  obtain ⟨f0,f1,f2,f3,f4,f5⟩:=hf it (by simp)
  have e0:(n:Int) - 1 - (i:Int)=((n - 1 - i:Nat):Int):=by omega
  rw [e0] at st
  refine wpAny_pyNext_rev_item st p.isList (x:=u) (by simpa using hu) fun h' st' sb=>?_
  have I1:a5 X pins σ H { s with heap:=h' }:=I.turned (t':=s.toks) (fun b o hb e=>(sb.2 b hb).trans e) f0 f1 f3 f4 f5
  have e1:((n - 1 - i:Nat):Int) - 1=(n:Int) - 1 - ((i+1:Nat):Int):=by omega
  rw [e1] at st'
  obtain ⟨o,e,c,d⟩:=id st'
  exact⟨u,rfl,kQ (s:={ s with heap:=h' }) e c d (by decide) ⟨_,H,I1,ru,⟨rfl,fun ys hy=>by rw [I.list_inj hy hq]; exact hx⟩,st',fun b hb=>(hf b hb).1⟩⟩
 ·intro X hP hw hK hc i pins s σ H E I hf st hg
  subst hP hw hK
  have hg:i=n:=hg
  subst hg
  obtain ⟨f0,f1,f2,f3,f4,f5⟩:=hf it (by simp)
  rw [show (i:Int) - 1 - (i:Int) = -1 by omega] at st
  exact wpAny_pyNext_rev_end (I.ok.hd hc) st fun h' eb=>⟨rfl,I.turned (t':=s.toks) (fun b o hb e=>eb b o hb e) f0 f1 f3 f4 f5⟩
section
variable {X : Cx}
def K8 (K:PySem.W.Frag) (ta:TA):TI:=fun σ H R=>ta σ H fun vs H1=>∃ a xs,vs = [.ref a]/\aK K H1 a xs/\R (K7 K a xs.length) H1
theorem aB1 {tg:Expr}{a:Expr}{ta:TA}{p pos:Pos} (hg:Gl X "reversed") (hm:X.mg "reversed" = none) (ha:PA X [a] ta) (hs:starEach [a] X.env = [(false,eval a X.env)]:=by rfl) :
  PI X tg (.Call (.Name "reversed" p) [a] [] pos) (K8 X.K ta):=by
 intro pins s σ H R I h
 refine Call_ (gK I hg hm PyProof.Rows.boot_reversed (aO4 (aH (ha pos pins s σ H _ I h) fun us s1 ⟨vs,H1,I1,r1,q1⟩=>?_) (by rw [hs]; rfl) (by rfl)))
 obtain ⟨a',xs,e,h1,q⟩:=q1
 subst e
 cases r1 with
 | cons r rr=>
  cases rr
  cases r
  obtain ⟨us,rv,p1,_⟩:=I1.list h1
  have lv:=rv.length
  refine call_reversed_list p1.isList ?_
  have st:∀ t:Nat,(s1.heap.push (revObj a' ((us.toArray.size:Int) - 1))).IsRevIter s1.heap.objs.size a' ((xs.length:Int) - 1 - (0:Nat)):=fun _=>by
   rw [aI9,<- lv]
   exact⟨_,aJ9 _ rfl,rfl,by rw [show (xs.length:Int) - 1 - (0:Nat)=(xs.length:Int) - 1 by omega]; rfl⟩
  refine wpAny_pyIter_revIter (st 0) ?_
  refine⟨s1.heap.objs.size,[s1.heap.objs.size],_,_,H1,rfl,I1.kept (t':=s1.toks) fun b o e=>aI8 _ e,aB0 a' _ xs.length,st 0,fun c hc=>?_,q⟩
  obtain rfl:c=s1.heap.objs.size:=by simpa using hc
  exact I1.fpOk (aJ0 _) (I1.hok.fresh (aJ0 _))
end
end L2
namespace PP
open PySem L2
section
variable {X : Cx} {σ : St} {H : Hp} {te : aB} {R : It → Hp → Prop} {a : Expr} {p2 pos : Pos}
def uJ (te:aB):dP:=fun ρ Q=>te ρ fun x g=>∃ xs,x = .lst xs/\g ≠ .rd/\Q xs.reverse (o0 g xs)
theorem aB2 (h:LI X (uJ te) σ H R):K8 X.K (iK (LE X te) iJ) σ H R:=by
 obtain ⟨W,ρ,Q,px,q,k⟩:=h
 refine⟨W,ρ,_,px,q,?_⟩
 rintro v H1 x g s r ⟨xs,rfl,hg,q⟩
 have px1:=px.mono s
 have tw:∀ a,W a->∃ o,H1 a=some o/\fU o=true:=fun a z=>(px1.wm a z).2
 obtain ⟨a,us,rfl,m,ea,r⟩:=r.sqL
 have wa : ¬ W a:=by
  cases g with
  | fr=>exact (px.new m).1
  | nw=>exact m.1
  | sh=>exact m
  | rd=>exact absurd rfl hg
 have lr:=r.length
 have ha:∀ W' H',Ev W H1 W' H'->aK X.K H' a us:=fun W' H' e=>aK.of (e _ _ ea wa).1
 have rr:=lK px (fun z=>absurd z hg) r
 refine⟨a,us,rfl,aK.of ea,k _ _ _ _ s ⟨fun W' H' i e hi=>⟨⟨us,ha W' H' e,rfl⟩,?_⟩,fun W' H' i v H2 e y hi=>?_,fun W' H' e=>?_⟩ q⟩
 ·rw [List.length_reverse] at hi; omega
 ·rw [List.length_reverse] at hi
  obtain ⟨rfl,y⟩:=y
  obtain ⟨x,hx,rx⟩:=rr.get (y us (ha W' _ e))
  refine⟨a9.refl _,x,?_,rx.keep (e.keep tw)⟩
  rw [List.getElem?_reverse hi,<- lr]
  exact hx
 ·show xs.reverse.length=us.length
  rw [List.length_reverse]; omega
theorem aB3 {tg:Expr} (hm:X.mg "reversed" = none) (ha:QE X a te) (hg:Gl X "reversed":=by rfl) (hs:starEach [a] X.env = [(false,eval a X.env)]:=by rfl):QI X tg (.Call (.Name "reversed" p2) [a] [] pos) (uJ te):=oB (aB1 hg hm (cN ha dH hs) hs) fun _ _ _=>aB2
end
end PP
namespace Core
open PySem L2 PP
def cG (h:Int):List Int->List Int
 | []=>[h]
 | a :: r=>if h<=a then h :: a :: r else a :: cG h r
theorem hZ (h:Int):∀ A:List Int,(cG h A).Perm (A ++ [h])
 | []=>List.Perm.refl _
 | a :: r=>by
  show (if h<=a then h :: a :: r else a :: cG h r).Perm _
  split
  ·exact List.perm_append_comm (l₁:=[h]) (l₂:=a :: r)
  ·exact (hZ h r).cons a
theorem pN (h:Int):∀ {A:List Int},A.Pairwise (· <= ·)->(cG h A).Pairwise (· <= ·)
 | [],_=>aL8 _ _
 | a :: r,p=>by
  have p':=List.pairwise_cons.mp p
  show (if h<=a then h :: a :: r else a :: cG h r).Pairwise _
  split
  ·rename_i z
   exact List.pairwise_cons.mpr ⟨fun x hx=>by
    rcases aK0.mp hx with rfl | hx
    ·exact z
    ·exact Int.le_trans z (p'.1 x hx),p⟩
  ·rename_i z
   exact List.pairwise_cons.mpr ⟨fun x hx=>by
    rcases aL9.mp ((hZ h r).mem_iff.mp hx) with hx | hx
    ·exact p'.1 x hx
    ·rw [aJ5] at hx; omega,pN h p'.2⟩
theorem uK (h:Int) (A:List Int):(cG h A).length=A.length+1:=by rw [(hZ h A).length_eq,aJ4]; rfl
theorem uL {h:Int}{A B:List Int} (pa:A.Pairwise (· <= ·)) (p:B.Perm (A ++ [h])) (s:B.Pairwise (· <= ·)):B=cG h A:=tV (p.trans (hZ h A).symm) s (pN h pa)
theorem pO {motive:List Int->Prop} (z:motive []) (sn:∀ L x,motive L->motive (L ++ [x])):∀ L,motive L:=fun L=>by
 have:∀ R:List Int,motive R.reverse:=by
  intro R
  induction R with
  | nil=>exact z
  | cons x r ih=>rw [List.reverse_cons]; exact sn _ _ ih
 have:=this L.reverse
 rwa [List.reverse_reverse] at this
theorem aB4:∀ (L:List Int) {A:List Int},A ∈ bH L->A.Sublist L:=by
 refine pO ?_ ?_
 ·intro A h; rw [show bH [] = [[]] from rfl,aJ5] at h; rw [h]; exact List.Sublist.refl _
 intro L x ih
 intro A h
 rw [jA] at h
 rcases aL9.mp h with h | h
 ·exact (ih h).trans (List.sublist_append_left _ _)
 ·obtain ⟨B,hB,rfl⟩:=aO9.mp h
  exact (ih hB).append (List.Sublist.refl _)
theorem pP {L A:List Int} (h:A ∈ bH L):A.Sublist L:=aB4 L h
theorem K9:∀ (L:List Int),(bH L).length=2 ^ L.length:=by
 refine pO ?_ ?_
 ·rfl
 intro L x ih
 rw [jA,aJ4,aJ3,ih,aJ4]; show _=2 ^ (L.length+1); rw [Nat.pow_succ]; omega
theorem aB5:∀ (L:List Int),(bH L)[0]? = some []:=by
 refine pO ?_ ?_
 ·rfl
 intro L x ih
 have:0 < (bH L).length:=by rw [K9]; exact Nat.two_pow_pos _
 rw [jA,aQ1 this]; exact ih
theorem aB6:∀ (L:List Int),L.Pairwise (· < ·)->∀ (p:Nat) (A:List Int),(bH L)[p]? = some A->∀ h ∈ L,h ∉ A->∃ q:Nat,p < q/\(bH L)[q]? = some (cG h A):=by
 refine pO ?_ ?_
 ·intro _ p A _ h hh; cases hh
 intro L x ih
 intro up p A hA h hh hn
 obtain ⟨u1,u2,u3⟩:=aU9.mp up
 rw [jA] at hA ⊢
 have last:∀ {B:List Int},B.Sublist L->B.Pairwise (· <= ·)/\∀ y ∈ B,y < x:=fun {B} sb=>⟨(u1.sublist sb).imp fun h=>by omega,fun y hy=>u3 y (sb.subset hy) x aK1⟩
 by_cases hp:p < (bH L).length
 ·rw [aQ1 hp] at hA
  have sb:=pP (aL1 hA)
  rcases aL9.mp hh with hh | hh
  ·obtain ⟨q,h1,h2⟩:=ih u1 p A hA h hh hn
   exact⟨q,h1,by rw [aQ1 (aJ8.mp h2).1]; exact h2⟩
  ·rw [aJ5] at hh
   subst hh
   obtain ⟨l1,l2⟩:=last sb
   refine⟨(bH L).length+p,by omega,?_⟩
   rw [aR4 (by omega),Nat.add_sub_cancel_left,aJ6,hA]
   show some (A ++ [h])=some (cG h A)
   rw [uL l1 (List.Perm.refl _) (aU9.mpr ⟨l1,aL8 _ _,fun a ha b hb=>by rw [aJ5] at hb; have:=l2 a ha; omega⟩)]
 ·rw [aR4 (by omega),aJ6] at hA
  cases hB:(bH L)[p - (bH L).length]? with
  | none=>rw [hB] at hA; cases hA
  | some B=>
   rw [hB] at hA
   have hA:B ++ [x]=A:=aL5 hA
   subst hA
   have sb:=pP (aL1 hB)
   rcases aL9.mp hh with hh | hh
   ·obtain ⟨q,h1,h2⟩:=ih u1 _ B hB h hh (fun z=>hn (aP7 _ z))
    refine⟨(bH L).length+q,by omega,?_⟩
    rw [aR4 (by omega),Nat.add_sub_cancel_left,aJ6,h2]
    show some (cG h B ++ [x])=some (cG h (B ++ [x]))
    obtain ⟨l1,l2⟩:=last sb
    have hx:=u3 h hh x aK1
    refine congrArg some (uL (h:=h) (A:=B ++ [x]) ?_ ?_ ?_)
    ·exact aU9.mpr ⟨l1,aL8 _ _,fun a ha b hb=>by rw [aJ5] at hb; have:=l2 a ha; omega⟩
    ·refine ((hZ h B).append_right [x]).trans ?_
     rw [aU6,aU6]
     exact List.Perm.append_left B List.perm_append_comm
    ·exact aU9.mpr ⟨pN h l1,aL8 _ _,fun a ha b hb=>by
      rw [aJ5] at hb
      rcases aL9.mp ((hZ h B).mem_iff.mp ha) with ha | ha
      ·have:=l2 a ha; omega
      ·rw [aJ5] at ha; omega⟩
   ·rw [aJ5] at hh
    subst hh
    exact absurd (aK6 _ aK1) hn
theorem aB7 {L:List Int} (up:L.Pairwise (· < ·)) (p:Nat) (A:List Int) (hA:(bH L)[p]? = some A) (h:Int) (hh:h ∈ L) (hn:h ∉ A):∃ q:Nat,p < q/\(bH L)[q]? = some (cG h A):=aB6 L up p A hA h hh hn
def Wt (ab:List Int->List Int):Nat->List Int->Int
 | 0,_=>1
 | k+1,A=>if ab A = [] then 1 else ((ab A).map fun h=>Wt ab k (cG h A)).sum
def i3 (ab:List Int->List Int) (k:Nat) (A:List Int):List (Int × Int):=(ab A).map fun h=>(h,Wt ab (k - 1) (cG h A))
def mE (ps:List (Int × Int)):Int:=if ps = [] then 1 else (ps.map (·.2)).sum
theorem L4 {ab:List Int->List Int}{k:Nat}{A:List Int} (h:k=0->ab A = []):mE (i3 ab k A)=Wt ab k A:=by
 unfold mE i3
 cases k with
 | zero=>rw [h rfl]; rfl
 | succ k=>
  show _=if ab A = [] then 1 else _
  by_cases e:ab A = []
  ·rw [e]; rfl
  ·rw [if_neg (fun z=>e (List.map_eq_nil_iff.mp z)),if_neg e,aR9]; rfl
def pQ:aX:=fun xs Q=>∃ x ns,xs = [x]/\cM x ns/\ns.length < 64/\∀ ms:List Int,ms.Perm ns->ms.Pairwise (· <= ·)->Q (.tup (intz ms))
def L5:aL:=(bB (aF fL (a7 (aF m3 (a7 (a6 0) aA)) aA)))
theorem aB8:cH L5 ["row"] pQ:=by
 rintro xs Q ⟨x,ns,rfl,hx,hl,q⟩
 exact⟨_,rfl,_,ns,rfl,hx.seq,hl,fun ms pm sm=>⟨⟨_,_,rfl,rfl,cD _,trivial,q ms pm sm⟩,fun _ z=>by cases z⟩⟩
def kI:aX:=fun xs Q=>∃ ps:List (Int × Int),xs = [.lst (cU ps)]/\ps.length<=1000/\Q (.int (mE ps))
def L6:aL:=(aS (cF (iP (sJ (a6 0))) (bB (qC (.int 1))) cK)
 (bB (aF u5 (a7 (c7 (dE (a6 0)) [none,none] (lM 0 1) cO (a6 1)) aA))))
theorem aB9 {ps:List (Int × Int)}{i:Nat}{y:PV} (h:(cU ps)[i]? = some y):∃ p:Int × Int,y = .tup [.int p.1,.int p.2]/\ps[i]? = some p:=by
 unfold cU at h
 rw [aJ6] at h
 cases e:ps[i]? with
 | none=>rw [e] at h; cases h
 | some p=>rw [e] at h; cases h; exact⟨p,rfl,rfl⟩
theorem L7 (ps:List (Int × Int)):(cU ps).length=ps.length:=aJ3 ..
theorem aC0:cH L6 ["choices"] kI:=by
 rintro xs Q ⟨ps,rfl,hl,q⟩
 refine⟨_,rfl,_,rfl,?_⟩
 show if (!!(cU ps).isEmpty)=true then _ else _
 cases ps with
 | nil=>exact b4 ⟨trivial,q⟩
 | cons p r=>
  refine aW ?_
  have e:mE (p :: r)=((p :: r).map (·.2)).sum:=by unfold mE; rw [if_neg (by simp)]
  rw [e] at q
  generalize p :: r=ps at q hl
  refine⟨_,rfl,_,rfl,(fun z=>by cases z),by rw [L7]; omega,fun i acc=>acc=intz ((ps.take i).map (·.2)),rfl,?_,?_⟩
  ·rintro i y acc hy rfl
   obtain ⟨p,rfl,hp⟩:=aB9 hy
   refine⟨_,_,rfl,_,rfl,trivial,?_⟩
   dsimp only
   rw [aO2,hp,aO5,dF]; rfl
  rintro acc rfl
  rw [L7,aM5]
  exact⟨_,_,rfl,rfl,trivial,q⟩
theorem L8 {ws:List Int}{ls:List (Int × Int)}{S T:List Int} (e:∀ x,x ∈ S ↔ x ∈ T) (h:Int):kin ws ls S h=kin ws ls T h:=by
 unfold kin
 have:(fun x=>decide (x ∈ S))=fun x=>decide (x ∈ T):=funext fun x=>decide_eq_decide.mpr (e x)
 rw [this,decide_eq_decide.mpr (e h)]
def eB (ws:List Int) (ls:List (Int × Int)) (ns L:List Int):Prop:=∃ k,tZ ws ls (rng ws.length) ns k/\L.Perm (bZ ws ls (rng ws.length) ns k)/\L.Pairwise (· <= ·)
noncomputable def b9 (ws:List Int) (ls:List (Int × Int)) (ns L A:List Int):List Int:=L.filter (kin ws ls (ns ++ A))
section
variable {ws : List Int} {ls : List (Int × Int)} {ns L : List Int}
theorem eB.nd (h:eB ws ls ns L) (hs:bQ ws.length ns=true):(ns ++ L).Nodup/\∀ x ∈ ns ++ L,x ∈ rng ws.length:=by
 obtain ⟨k,en,p,so⟩:=h
 have ok:=u0 (ws:=ws) (ls:=ls) (ns:=ns) (List.Perm.refl (rng ws.length)) hs k
 have pp:=List.Perm.append_left ns p
 exact⟨pp.nodup_iff.mpr ok.1,fun x hx=>ok.2 x (pp.mem_iff.mp hx)⟩
theorem eB.up (h:eB ws ls ns L) (hs:bQ ws.length ns=true):L.Pairwise (· < ·):=by
 have nd:=(aN4.mp (h.nd hs).1).2.1
 obtain ⟨k,en,p,so⟩:=h
 exact (so.and nd).imp fun {a b} h=>by have:=h.1; have:=h.2; omega
theorem eB.shut (h:eB ws ls ns L):aw3 ws ls (ns ++ L):=by
 obtain ⟨k,en,p,so⟩:=h
 intro x hx
 have:=List.find?_eq_none.mp en.2 x hx
 have e:kin ws ls (ns ++ L) x=kin ws ls (ns ++ bZ ws ls (rng ws.length) ns k) x:=L8 (fun y=>(List.Perm.append_left ns p).mem_iff) x
 rw [e]
 simpa using this
end
abbrev eJ (A:List Int):List aD:=A.map Sum.inl
theorem L9 (A:List Int):(eJ A).map kP=intz A:=by
 rw [aR9]; rfl
theorem aC1 {A B:List Int} (h:eJ A=eJ B):A=B:=(List.map_inj_right fun _ _ e=>by cases e; rfl).mp h
def BR (ws:List Int) (ls:List (Int × Int)) (ns L:List Int) (ps:List (List aD × PV)):Prop:=∀ A ∈ bH L,bS ps (eJ A)=some (.lst (cU (i3 (b9 ws ls ns L) (L.length - A.length) A)))
def pR:dG:=fun Ep xs Q=>∃ ws ls x ns,xs = [bP ws ls,x]/\Wb ws ls/\cM x ns/\ns.length<=1000/\(bQ ws.length ns=true->∀ L,eB ws ls ns L->(L.length<=12->∀ ps,BR ws ls ns L ps->Q (.dT ps))/\(12 < L.length->Ep "TooMany"))/\(bQ ws.length ns=false->Ep "BadSet")
def M0:aL:=(jV 4 (a6 5) (c7 (dE (a6 7)) [none,some 4,some 5] (bF 0) cO (cE (a7 (a6 0) (a7 (aF kI (a7 (o8 (a6 1) (aF pQ (a7 (oZ (a6 2) (cE (a7 (a6 0) aA))) aA))) aA)) aA)))))
def aC2:aL:=(aS (bJ 6 (aF k7 (a7 (oZ (aF fL (a7 (a6 1) aA)) (a6 5)) aA)))
  (aS (bJ 7 (c7 (dE (a6 2)) [none,some 0,some 3,some 6] (bF 0) (aZ (aF k8 (a7 (a6 1) (a7 (a6 2) (a7 (a6 3) (a7 (a6 0) aA)))))) (a6 0)))
  M0))
def M3 (Ep:Str->Prop):aL:=(aS (bJ 2 (aF m3 (a7 (kA Ep pK (a7 (a6 0) (a7 (a6 1) aA))) aA)))
 (aS (cF (aZ (sZ (aF fJ (a7 (a6 2) aA)) (qC (.int 12)))) (m8 Ep "TooMany" (a7 (qC (.str "orders of more than 12 hearths are not counted")) aA)) cK)
 (aS (bJ 3 (aF lY (a7 (a6 0) aA)))
 (aS (fI 4 (qC (.dT [])))
 (aS (eZ (uJ (aF pI (a7 (a6 2) aA))) (bF 5)
  aC2)
 (iQ 4))))))
theorem M4 {ws:List Int}{ls:List (Int × Int)}{ns L A:List Int} (sb:A.Sublist L) (nd:L.Nodup) (e:L.length - A.length=0):b9 ws ls ns L A = []:=by
 have el:A=L:=sb.eq_of_length_le (by omega)
 unfold b9
 rw [List.filter_eq_nil_iff]
 intro x hx
 rw [el]
 unfold kin
 rw [aL7 (aK6 _ hx)]
 simp
theorem aC3:mB M3 ["web","seeds","later","around","branches","lit","burning","able"] pR:=by
 rintro Ep xs Q ⟨ws,ls,x,ns,rfl,wb,hx,hl,q,qe⟩
 have few:=wb.few
 refine⟨_,rfl,_,rfl,ws,ls,x,ns,rfl,wb,hx,hl,fun hs k en=>?_,qe⟩
 have ln:=u4 (ls:=ls) (List.Perm.refl (rng ws.length)) hs k
 refine⟨_,_,rfl,rfl,by omega,fun L pL sL=>⟨trivial,?_⟩⟩
 have hL:eB ws ls ns L:=⟨k,en,pL,sL⟩
 obtain ⟨q0,q1⟩:=q hs L hL
 have lL:=pL.length_eq
 obtain ⟨nd,inn⟩:=hL.nd hs
 have up:=hL.up hs
 have ndL:L.Nodup:=(aN4.mp nd).2.1
 refine⟨_,rfl,_,_,rfl,rfl,_,_,rfl,rfl,_,rfl,?_⟩
 show if decide (((intz L).length:Int) > 12)=true then _ else _
 rw [b6]
 by_cases h12:(L.length:Int) > 12
 ·rw [aL7 h12]
  exact b4 ⟨by show 1<=1000; decide,q1 (by omega)⟩
 rw [aK5 h12]
 have l12:L.length<=12:=by omega
 have q0:=q0 l12
 refine aW ?_
 refine⟨_,rfl,ws,ls,rfl,wb,trivial,?_⟩
 refine⟨rfl,rfl,?_⟩
 have sl:=K9 L
 have p12:2 ^ L.length<=4096:=aM8 (Nat.pow_le_pow_right (by decide) l12) (by decide)
 refine⟨_,rfl,_,L,rfl,.inr rfl,l12,tups (bH L),rfl,(by intro z; cases z),fun i ρ=>∃ (ps:List (List aD × PV)) (y5 y6 y7:Option Slot),ρ = [some (.sh (flat (bP ws ls)) (bP ws ls)),some (.sh (flat x) x),some (.sh true (.lst (intz L))),some (.sh true (.lst (gD ws.length ls))),some (.own (.dT ps)),y5,y6,y7]/\ps.length<=i/\∀ (j:Nat) (A:List Int),(bH L)[j]? = some A->2 ^ L.length - i<=j->bS ps (eJ A)=some (.lst (cU (i3 (b9 ws ls ns L) (L.length - A.length) A))),
  ⟨[],none,none,none,rfl,aJ0 _,fun j A hA hj=>by have:=(aJ8.mp hA).1; omega⟩,?_,?_⟩
 ·rintro i y ρ hy ⟨ps,y5,y6,y7,rfl,pl,inv⟩
  have il:i < (tups (bH L)).length:=by have:=(aJ8.mp hy).1; rwa [List.length_reverse] at this
  rw [List.getElem?_reverse il] at hy
  rw [k9,sl] at il hy
  obtain ⟨A,rfl,hA⟩:=B8 hy
  have sb:=pP (aL1 hA)
  have al:=sb.length_le
  have aUp:A.Pairwise (· <= ·):=(up.sublist sb).imp fun h=>by omega
  have subset:∀ x ∈ A,x ∈ L:=fun x hx=>sb.subset hx
  have nsl:ns.length+L.length<=ws.length:=by rw [lL]; exact ln
  refine⟨_,rfl,⟨_,_,rfl,hx.seqT,cD _,_,rfl,_,_,rfl,rfl,cD _,cD _,by rw [b6,b6]; omega,_,ns ++ A,rfl,.inl (by rw [dF]),by rw [aJ4]; omega,fun bs ds=>⟨trivial,?_⟩⟩,hx.noscr⟩
  refine⟨_,rfl,_,rfl,(fun z=>by cases z),by rw [b6]; omega,fun j acc=>acc=intz ((L.take j).filter (kin ws ls (ns ++ A))),rfl,?_,?_⟩
  ·rintro j z acc hz rfl
   obtain ⟨h,rfl,hh⟩:=fB hz
   have tk:=oO (p:=kin ws ls (ns ++ A)) hh
   have hr:=tM.mp (inn h (aK6 _ (aL1 hh)))
   refine⟨_,rfl,_,rfl,_,rfl,_,rfl,ws,ls,bs,ns ++ A,h,rfl,wb,ds,hr.1,hr.2,_,rfl,?_⟩
   cases hm:kin ws ls (ns ++ A) h with
   | true=>
    rw [hm] at tk
    refine b4 ⟨_,rfl,trivial,?_⟩
    dsimp only
    rw [tk,dF]; rfl
   | false=>
    rw [hm] at tk
    refine aW ?_
    dsimp only
    rw [tk]; exact congrArg intz (aN3 _).symm
  rintro acc rfl
  rw [b6,aM5]
  refine⟨trivial,?_⟩
  have abl:(b9 ws ls ns L A).length<=L.length:=List.length_filter_le _ _
  have abm:∀ h ∈ b9 ws ls ns L A,h ∈ L/\h ∉ A:=fun h hh=>by
   have:=aP0.mp hh
   refine⟨this.1,fun z=>?_⟩
   have k1:=this.2
   unfold kin at k1
   rw [aL7 (aK6 _ z)] at k1
   simp at k1
  have eb:i3 (b9 ws ls ns L) (L.length - A.length) A=(b9 ws ls ns L A).map fun h=>(h,Wt (b9 ws ls ns L) (L.length - A.length - 1) (cG h A)):=rfl
  show M0 _ [some (.sh (flat (bP ws ls)) (bP ws ls)),some (.sh (flat x) x),some (.sh true (.lst (intz L))),some (.sh true (.lst (gD ws.length ls))),some (.own (.dT ps)),some (.sh true (.tup (intz A))),some (.sh true (.dK bs)),some (.sh true (.lst (intz (b9 ws ls ns L A))))]
  refine⟨_,rfl,_,rfl,(fun z=>by cases z),by rw [b6]; omega,fun j acc=>acc=cU (((b9 ws ls ns L A).take j).map fun h=>(h,Wt (b9 ws ls ns L) (L.length - A.length - 1) (cG h A))),rfl,?_,?_⟩
  ·rintro j z acc hz rfl
   obtain ⟨h,rfl,hh⟩:=fB hz
   obtain ⟨hhL,hhA⟩:=abm h (aL1 hh)
   obtain ⟨p,hp1,hp2⟩:=aB7 up _ A hA h hhL hhA
   refine⟨_,rfl,_,rfl,_,rfl,_,rfl,by show 1<=1000; decide,rfl,_,_,rfl,rfl,cD _,rfl,by rw [b6]; show A.length+1<=_; omega,_,A ++ [h],rfl,.inl (by rw [dF]; rfl),by rw [aJ4]; show A.length+1 < _; omega,fun ms pm sm=>?_⟩
   obtain rfl:=uL aUp pm sm
   have sb2:=pP (aL1 hp2)
   have len2:=uK h A
   refine⟨_,.inr ⟨ps,eJ (cG h A),rfl,by rw [L9],(inv p _ hp2 (by omega)).symm⟩,_,rfl,?_,?_⟩
   ·unfold i3
    rw [aJ3]
    have:(b9 ws ls ns L (cG h A)).length<=L.length:=List.length_filter_le _ _
    omega
   rw [L4 (fun e=>M4 sb2 ndL e),len2,show L.length - (A.length+1)=L.length - A.length - 1 by omega]
   refine⟨by show 2<=1000; decide,rfl,trivial,?_⟩
   dsimp only
   rw [aO2,hh,aO5]
   unfold cU
   rw [aO5]; rfl
  rintro acc rfl
  rw [b6,aM5]
  refine⟨ps,rfl,_,rfl,eJ A,(by rw [L9]; rfl),trivial,by omega,cL ps (eJ A) _,some (.sh true (.tup (intz A))),some (.sh true (.dK bs)),some (.sh true (.lst (intz (b9 ws ls ns L A)))),rfl,?_,fun j B hB hj=>?_⟩
  ·have:=tO ps (eJ A) (PV.lst (cU ((b9 ws ls ns L A).map fun h=>(h,Wt (b9 ws ls ns L) (L.length - A.length - 1) (cG h A)))))
   omega
  ·rw [B1]
   by_cases e:eJ B=eJ A
   ·rw [if_pos e,aC1 e]; rfl
   ·rw [if_neg e]
    refine inv j B hB ?_
    have:j ≠ 2 ^ L.length - 1 - i:=fun z=>by
     rw [z,hA] at hB
     cases hB
     exact e rfl
    omega
 ·rintro ρ ⟨ps,y5,y6,y7,rfl,pl,inv⟩
  rw [List.length_reverse,k9,sl] at inv
  refine⟨_,rfl,trivial,q0 ps fun A hA=>?_⟩
  obtain ⟨j,hj⟩:=List.getElem?_of_mem hA
  exact inv j A hj (by omega)
theorem aC4 (L:List Int) : [] ∈ bH L:=aL1 (aB5 L)
noncomputable def mF (ws:List Int) (ls:List (Int × Int)) (ns L:List Int):Int:=Wt (b9 ws ls ns L) L.length []
def jB:dG:=fun Ep xs Q=>∃ ws ls x ns,xs = [bP ws ls,x]/\Wb ws ls/\cM x ns/\ns.length<=1000/\(bQ ws.length ns=true->∀ L,eB ws ls ns L->(L.length<=12->Q (.int (mF ws ls ns L)))/\(12 < L.length->Ep "TooMany"))/\(bQ ws.length ns=false->Ep "BadSet")
def M5 (Ep:Str->Prop):aL:=(bB (aF kI (a7 (o8 (kA Ep pR (a7 (a6 0) (a7 (a6 1) aA))) (cE aA)) aA)))
theorem BR.nil {ws:List Int}{ls:List (Int × Int)}{ns L:List Int}{ps:List (List aD × PV)} (br:BR ws ls ns L ps):bS ps (eJ [])=some (.lst (cU (i3 (b9 ws ls ns L) L.length []))):=br [] (aC4 L)
theorem aC5 {ws:List Int}{ls:List (Int × Int)}{ns L A:List Int}{k:Nat}:(i3 (b9 ws ls ns L) k A).length<=L.length:=by
 unfold i3
 rw [aJ3]
 exact List.length_filter_le _ _
theorem aC6:mB M5 ["web","seeds"] jB:=by
 rintro Ep xs Q ⟨ws,ls,x,ns,rfl,wb,hx,hl,q,qe⟩
 refine⟨_,rfl,_,rfl,ws,ls,x,ns,rfl,wb,hx,hl,fun hs L hL=>⟨fun l12 ps br=>?_,(q hs L hL).2⟩,qe⟩
 refine⟨by decide,rfl,_,.inr ⟨ps,eJ [],rfl,rfl,br.nil.symm⟩,_,rfl,by have:=aC5 (ws:=ws) (ls:=ls) (ns:=ns) (L:=L) (A:=[]) (k:=L.length); omega,trivial,?_⟩
 rw [L4 (fun e=>M4 (List.nil_sublist L) (aN4.mp (hL.nd hs).1).2.1 (by rw [e]; rfl))]
 exact (q hs L hL).1 l12
noncomputable def gF (ws:List Int) (ls:List (Int × Int)) (B:List Int):List Int:=(rng ws.length).filter (kin ws ls B)
noncomputable def Ct (ws:List Int) (ls:List (Int × Int)):Nat->List Int->Int
 | 0,_=>1
 | d+1,B=>((gF ws ls B).map fun h=>Ct ws ls d (B ++ [h])).sum+(if gF ws ls B = [] then 1 else 0)
theorem pS {ws:List Int}{ls:List (Int × Int)}{B:List Int}{h:Int} (k:kin ws ls B h=true):h ∉ B:=aT8 (A5 k)
theorem uM {ws:List Int}{ls:List (Int × Int)}{B:List Int}{h:Int} (nd:B.Nodup) (inn:∀ x ∈ B,x ∈ rng ws.length) (hr:h ∈ rng ws.length) (k:kin ws ls B h=true):(B ++ [h]).Nodup/\(∀ x ∈ B ++ [h],x ∈ rng ws.length)/\B.length < ws.length:=by
 have hn:=pS k
 have nd2:(B ++ [h]).Nodup:=aN4.mpr ⟨nd,aL8 _ _,fun x hx y hy z=>by rw [aJ5] at hy; rw [z,hy] at hx; exact hn hx⟩
 have in2:∀ x ∈ B ++ [h],x ∈ rng ws.length:=fun x hx=>by
  rcases aL9.mp hx with hx | hx
  ·exact inn x hx
  ·rw [aJ5] at hx; rw [hx]; exact hr
 have:=nd2.length_le_of_subset in2
 rw [hJ,aJ4] at this
 exact⟨nd2,in2,this⟩
def iH (d:Nat):aX:=fun xs Q=>∃ ws ls B,xs = [bP ws ls,.lst (intz B)]/\(∀ l ∈ ls,l.1 ≠ l.2)/\Wb ws ls/\B.Nodup/\(∀ x ∈ B,x ∈ rng ws.length)/\ws.length<=B.length+d/\Q (.int (Ct ws ls d B))
def M6 (pc:aX):aL:=(aS (bJ 2 (qC (.int 0)))
 (aS (bJ 3 (qC (.bl true)))
 (aS (eZ (fW (aF fJ (a7 (fK (a6 0) (qC (.int 0))) aA))) (bF 4)
  (cF (aZ (aF pM (a7 (a6 0) (a7 (a6 1) (a7 (a6 4) aA))))) (aS (bJ 2 (fZ (a6 2) (aF pc (a7 (a6 0) (a7 (tX (a6 1) (gW (a7 (a6 4) aA))) aA)))))
   (bJ 3 (qC (.bl false)))) cK))
 (bB (fZ (a6 2) (aF uI (a7 (a6 3) aA)))))))
theorem aC7 {d:Nat}{pc:aX} (hpc:∀ e,d=e+1->pc=iH e):cH (M6 pc) ["web","burning","many","ended","hearth"] (iH d):=by
 rintro xs Q ⟨ws,ls,B,rfl,ne,wb,nd,inn,hd,q⟩
 have few:=wb.few
 have bl:B.length<=ws.length:=by have:=nd.length_le_of_subset inn; rwa [hJ] at this
 refine⟨trivial,trivial,?_⟩
 refine⟨_,rfl,_,_,_,rfl,rfl,rfl,_,_,rfl,rfl,_,rfl,by rw [b6]; omega,by rw [b6]; omega,fun i ρ=>∃ y4:Option Slot,ρ = [some (.sh (flat (bP ws ls)) (bP ws ls)),some (.sh (flat (.lst (intz B))) (.lst (intz B))),si ((((rng ws.length).take i).filter (kin ws ls B)).map fun h=>Ct ws ls (d - 1) (B ++ [h])).sum,some (.sh true (.bl (((rng ws.length).take i).filter (kin ws ls B)).isEmpty)),y4],⟨none,rfl⟩,?_,?_⟩
 ·rintro i y ρ hy ⟨y4,rfl⟩
  obtain ⟨rfl,hi⟩:=iE hy
  rw [b6,aU4] at hi
  have hr:(rng ws.length)[i]? = some (i:Int):=by unfold rng; rw [aJ6,List.getElem?_range hi]; rfl
  have tk:=oO (p:=kin ws ls B) hr
  refine m7 ?_
  rw [Int.zero_add]
  refine⟨_,rfl,_,rfl,_,rfl,ws,ls,B,i,rfl,ne,wb.most,by omega,by omega,_,rfl,?_⟩
  cases hk:kin ws ls B (i:Int) with
  | false=>
   rw [hk] at tk
   refine aW ⟨si i,?_⟩
   rw [tk]; simp
  | true=>
   rw [hk] at tk
   obtain ⟨nd2,in2,lt⟩:=uM nd inn (aL1 hr) hk
   obtain ⟨e,rfl⟩:∃ e,d=e+1:=⟨d - 1,by omega⟩
   obtain rfl:=hpc e rfl
   refine b4 ⟨_,rfl,_,rfl,_,rfl,_,rfl,by show 1<=1000; decide,rfl,_,_,rfl,rfl,cD _,rfl,by rw [b6]; show B.length+1<=_; omega,ws,ls,B ++ [(i:Int)],by rw [dF]; rfl,ne,wb,nd2,in2,by rw [aJ4]; show _<=B.length+1+e; omega,_,_,rfl,rfl,trivial,trivial,si i,?_⟩
   dsimp only
   rw [tk]
   simp
   exact⟨rfl,rfl⟩
 ·rintro ρ ⟨y4,rfl⟩
  rw [dQ,b6,aU4,List.take_of_length_le (by rw [hJ]; exact aJ0 _)]
  refine⟨_,rfl,_,rfl,.inr ⟨_,rfl,_,_,rfl,rfl,trivial,?_⟩⟩
  dsimp only
  have key:((((rng ws.length).filter (kin ws ls B)).map fun h=>Ct ws ls (d - 1) (B ++ [h])).sum+if ((rng ws.length).filter (kin ws ls B)).isEmpty=true then (1:Int) else 0)=Ct ws ls d B:=by
   cases d with
   | zero=>
    have z:(rng ws.length).filter (kin ws ls B) = []:=List.filter_eq_nil_iff.mpr fun h hh hk=>by
     have:=(uM nd inn hh (by simpa using hk)).2.2
     omega
    rw [z]; rfl
   | succ e=>
    show _=_+(if gF ws ls B = [] then (1:Int) else 0)
    unfold gF
    rw [Nat.add_sub_cancel]
    cases (rng ws.length).filter (kin ws ls B) with
    | nil=>rfl
    | cons a r=>rfl
  rw [key]
  exact q
theorem aC8 {ws:List Int}{ls:List (Int × Int)}{ns L A B:List Int} (hL:eB ws ls ns L) (hs:bQ ws.length ns=true) (sub:∀ x ∈ A,x ∈ L) (p:B.Perm (ns ++ A)):gF ws ls B=b9 ws ls ns L A:=by
 obtain ⟨nd,inn⟩:=hL.nd hs
 have up:=hL.up hs
 unfold gF b9
 have e:kin ws ls B=kin ws ls (ns ++ A):=funext fun h=>L8 (fun x=>p.mem_iff) h
 rw [e]
 refine tV ?_ ((F7 _).filter _) ((up.imp fun h=>Int.le_of_lt h).filter _)
 refine (List.perm_ext_iff_of_nodup ((E5 _).filter _) ((aN4.mp nd).2.1.filter _)).mpr fun h=>?_
 rw [aP0,aP0]
 constructor
 ·rintro ⟨h1,h2⟩
  refine⟨?_,h2⟩
  by_cases hz:h ∈ ns ++ L
  ·rcases aL9.mp hz with hz | hz
   ·exact absurd (aP7 _ hz) (pS h2)
   ·exact hz
  ·have:=aw2 h2 (fun x hx=>by
    rcases aL9.mp hx with hx | hx
    ·exact aP7 _ hx
    ·exact aK6 _ (sub x hx)) hz
   rw [hL.shut h h1] at this; cases this
 ·rintro ⟨h1,h2⟩
  exact⟨inn h (aK6 _ h1),h2⟩
theorem M7 {ws:List Int}{ls:List (Int × Int)}{ns L:List Int} (hL:eB ws ls ns L) (hs:bQ ws.length ns=true):∀ (k d:Nat) (A B:List Int),A.Pairwise (· <= ·)->(∀ x ∈ A,x ∈ L)->B.Perm (ns ++ A)->B.Nodup->k=L.length - A.length->ws.length<=B.length+d->Ct ws ls d B=Wt (b9 ws ls ns L) k A
 | k,d,A,B,up,sub,p,nd,hk,hd=>by
  obtain ⟨ndL,inn⟩:=hL.nd hs
  have e:=aC8 hL hs sub p
  have inB:∀ x ∈ B,x ∈ rng ws.length:=fun x hx=>by
   rcases aL9.mp (p.mem_iff.mp hx) with hx | hx
   ·exact inn x (aP7 _ hx)
   ·exact inn x (aK6 _ (sub x hx))
  have room:∀ h ∈ b9 ws ls ns L A,(B ++ [h]).Nodup/\B.length < ws.length:=fun h hh=>by
   rw [<- e] at hh
   have:=aP0.mp hh
   have:=uM nd inB this.1 this.2
   exact⟨this.1,this.2.2⟩
  by_cases z:b9 ws ls ns L A = []
  ·have h1:Ct ws ls d B=1:=by
    cases d with
    | zero=>rfl
    | succ d=>
     show ((gF ws ls B).map _).sum+(if gF ws ls B = [] then (1:Int) else 0)=1
     rw [e,z]; rfl
   have h2:Wt (b9 ws ls ns L) k A=1:=by
    cases k with
    | zero=>rfl
    | succ k=>show (if b9 ws ls ns L A = [] then (1:Int) else _)=1; rw [if_pos z]
   rw [h1,h2]
  ·obtain ⟨h0,hh0⟩:=List.exists_mem_of_ne_nil _ z
   obtain ⟨d,rfl⟩:∃ e,d=e+1:=⟨d - 1,by have:=(room h0 hh0).2; omega⟩
   have ndA:A.Nodup:=(aN4.mp (p.nodup_iff.mp nd)).2.1
   have h0L:=(aP0.mp hh0).1
   have h0A:h0 ∉ A:=fun y=>pS (aP0.mp hh0).2 (aK6 _ y)
   have lt:A.length < L.length:=by
    have n2:(A ++ [h0]).Nodup:=aN4.mpr ⟨ndA,aL8 _ _,fun x hx y hy w=>by rw [aJ5] at hy; rw [w,hy] at hx; exact h0A hx⟩
    have:=n2.length_le_of_subset (l₂:=L) fun x hx=>by
     rcases aL9.mp hx with hx | hx
     ·exact sub x hx
     ·rw [aJ5] at hx; rw [hx]; exact h0L
    rw [aJ4] at this
    exact this
   obtain ⟨k,rfl⟩:∃ e,k=e+1:=⟨k - 1,by omega⟩
   show ((gF ws ls B).map fun h=>Ct ws ls d (B ++ [h])).sum+(if gF ws ls B = [] then (1:Int) else 0)=if b9 ws ls ns L A = [] then 1 else ((b9 ws ls ns L A).map fun h=>Wt (b9 ws ls ns L) k (cG h A)).sum
   rw [if_neg z,e,if_neg z,Int.add_zero]
   refine congrArg List.sum (List.map_congr_left fun h hh=>?_)
   have hL2:=(aP0.mp hh).1
   refine M7 hL hs k d (cG h A) (B ++ [h]) (pN h up) (fun x hx=>?_) ?_ (room h hh).1 (by rw [uK]; omega) (by rw [aJ4]; show _<=B.length+1+d; omega)
   ·rcases aL9.mp ((hZ h A).mem_iff.mp hx) with hx | hx
    ·exact sub x hx
    ·rw [aJ5] at hx; rw [hx]; exact hL2
   ·refine (p.append_right [h]).trans ?_
    rw [aU6]
    exact List.Perm.append_left ns (hZ h A).symm
termination_by k=>k
theorem aC9 {ws:List Int}{ls:List (Int × Int)}{ns L:List Int} (hL:eB ws ls ns L) (hs:bQ ws.length ns=true) {d:Nat} (hd:ws.length<=ns.length+d):Ct ws ls d ns=mF ws ls ns L:=
 M7 hL hs L.length d [] ns .nil (fun _ h=>by cases h) (by rw [aN3]) ((oN (oU hs).1).imp fun h=>Int.ne_of_lt h) rfl hd
abbrev zw:List Int:=List.replicate 13 0
theorem M8:Wb zw []:=⟨by decide,by decide,fun l hl=>by cases hl⟩
theorem M9 (S:List Int) (h:Int):kin zw [] S h = !decide (h ∈ S):=by
 unfold kin
 have e:zw.getD h.toNat 0=0:=by
  rw [aL2,List.getElem?_replicate]
  split <;> rfl
 rw [e]
 have:decide ((0:Int)<=(((bW [] h).filter fun x=>decide (x ∈ S)).length:Int))=true:=aL7 (by omega)
 rw [this,Bool.and_true]
theorem N0 {ns L:List Int} (hL:eB zw [] ns L) (hs:bQ 13 ns=true):ns.length+L.length=13:=by
 obtain ⟨nd,inn⟩:=hL.nd (ws:=zw) hs
 have h1:=nd.length_le_of_subset inn
 have h2:=(E5 13).length_le_of_subset (l₂:=ns ++ L) fun x hx=>by
  have:=hL.shut x hx
  rw [M9] at this
  have this:decide (x ∈ ns ++ L)=true:=by
   cases hz:decide (x ∈ ns ++ L) with
   | true=>rfl
   | false=>rw [hz] at this; cases this
  exact aS8 this
 rw [hJ,aJ4] at h1
 rw [hJ,aJ4] at h2
 have:zw.length=13:=rfl
 omega
def pT:Nat->Int
 | 0=>1
 | k+1=>((k:Int)+1) * pT k
theorem N1 {α:Type} (c:Int):∀ (l:List α),(l.map fun _=>c).sum=(l.length:Int) * c
 | []=>by simp
 | _ :: r=>by
  rw [aM9,List.sum_cons,N1 c r,aO0,Int.natCast_add,Int.add_mul,Int.add_comm]; simp
theorem aD0 {ns L A:List Int} (dis:∀ x ∈ L,x ∉ ns) (nd:L.Nodup) (na:A.Nodup) (sub:∀ x ∈ A,x ∈ L):(b9 zw [] ns L A).length=L.length - A.length:=by
 have h1:b9 zw [] ns L A=L.filter fun x=>!decide (x ∈ A):=by
  unfold b9
  refine List.filter_congr fun x hx=>?_
  rw [M9]
  have:=dis x hx
  simp [this]
 have h2:(L.filter fun x=>decide (x ∈ A)).Perm A:=(List.perm_ext_iff_of_nodup (nd.filter _) na).mpr fun x=>by
  rw [aP0,aU8]
  exact⟨fun z=>z.2,fun z=>⟨sub x z,z⟩⟩
 have h3:∀ M:List Int,M.length=(M.filter fun x=>decide (x ∈ A)).length+(M.filter fun x=>!decide (x ∈ A)).length:=by
  intro M
  induction M with
  | nil=>rfl
  | cons a r ih=>
   by_cases e:a ∈ A
   ·simp only [List.filter_cons,aL7 e,if_true,Bool.not_true,aK3,aN5,aO0]; omega
   ·simp only [List.filter_cons,aK5 e,if_true,Bool.not_false,aK3,aN5,aO0]; omega
 have h4:=h2.length_eq
 have h5:=h3 L
 rw [h1]; omega
theorem N3 {ns L:List Int} (dis:∀ x ∈ L,x ∉ ns) (nd:L.Nodup):∀ (k:Nat) (A:List Int),A.Nodup->(∀ x ∈ A,x ∈ L)->L.length - A.length=k->Wt (b9 zw [] ns L) k A=pT k
 | 0,A,_,_,_=>rfl
 | k+1,A,na,sub,hk=>by
  have ln:=aD0 (ns:=ns) dis nd na sub
  rw [hk] at ln
  show (if b9 zw [] ns L A = [] then (1:Int) else ((b9 zw [] ns L A).map fun h=>Wt (b9 zw [] ns L) k (cG h A)).sum)=((k:Int)+1) * pT k
  rw [if_neg (fun z=>by rw [z] at ln; cases ln)]
  rw [List.map_congr_left (g:=fun _=>pT k) fun h hh=>?_,N1,ln]
  ·push_cast; rfl
  ·have hm:=aP0.mp hh
   have hA:h ∉ A:=fun y=>pS hm.2 (aK6 _ y)
   have pm:=hZ h A
   refine N3 dis nd k (cG h A) (pm.nodup_iff.mpr (aN4.mpr ⟨na,aL8 _ _,fun x hx y hy w=>by rw [aJ5] at hy; rw [w,hy] at hx; exact hA hx⟩)) (fun x hx=>?_) (by rw [uK]; omega)
   rcases aL9.mp (pm.mem_iff.mp hx) with hx | hx
   ·exact sub x hx
   ·rw [aJ5] at hx; rw [hx]; exact hm.1
theorem aD1 {L:List Int} (hL:eB zw [] [5] L):L.length=12/\mF zw [] [5] L=479001600:=by
 have hs:bQ zw.length [5]=true:=by decide
 have ln:=N0 hL hs
 have l12:L.length=12:=by have:([5]:List Int).length=1:=rfl; omega
 obtain ⟨nd,_⟩:=hL.nd hs
 obtain ⟨_,n2,n3⟩:=aN4.mp nd
 refine⟨l12,?_⟩
 unfold mF
 rw [N3 (fun x hx z=>n3 x z x hx rfl) n2 L.length [] .nil (fun _ h=>by cases h) rfl,l12]
 decide
def mG:aX:=fun xs Q=>xs = []/\Q (.bl true)
def N4:aL:=(aS (bJ 0 (gW aA))
 (aS (u7 "HearthError" 1 (G4 jB (a7 (cE (a7 (C0 (cE (a7 (qC (.int 0)) aA)) (qC (.int 13))) (a7 (cE aA) aA))) (a7 (cE aA) aA))) (bJ 0 (gW (a7 (kD "TooMany" (a6 1)) (a7 (kD "ValueError" (a6 1)) (a7 (kD "BadSet" (a6 1)) aA))))))
 (bB (q2 (oA 2 false) (a6 0) (gW (a7 (qC (.bl true)) (a7 (qC (.bl true)) (a7 (qC (.bl false)) aA))))))))
theorem aD2:cH N4 ["signs","e"] mG:=by
 rintro xs Q ⟨rfl,q⟩
 refine⟨by decide,rfl,trivial,?_⟩
 refine⟨by show 1<=1000; decide,rfl,_,_,rfl,rfl,rfl,(by simp),(by decide),(by decide),(by show 1<=10; decide),by decide,rfl,by show 2<=1000; decide,rfl,by decide,rfl,zw,[],_,[],rfl,M8,.inl rfl,by decide,fun hs L hL=>⟨fun l12=>?_,fun _=>?_⟩,fun z=>by cases z⟩
 ·have:=N0 hL hs
  have:([]:List Int).length=0:=rfl
  exfalso; omega
 ·exact⟨by decide,_,rfl,true,(by decide),_,rfl,true,(by decide),_,rfl,false,(by decide),by show 3<=1000; decide,rfl,trivial,_,rfl,by show 3<=1000; decide,rfl,.inr ⟨_,_,rfl,rfl⟩,by decide,trivial,q⟩
def uN:aX:=E7
def N5:aL:=(aS (bJ 1 (cX (aF j6 (a7 (a6 0) (a7 (qC (.int 0)) aA))) (qC (.int 6))))
 (aS (bJ 2 (aF pF (a7 (sW (a6 0) (sV (qC (.int 3))) sU) (a7 (a6 1) (a7 (cX (aF j6 (a7 (a6 0) (a7 (qC (.int 1)) aA))) (qC (.int 8))) aA)))))
 (aS (bJ 3 (aF pG (a7 (aF j6 (a7 (a6 0) (a7 (qC (.int 2)) aA))) (a7 (a6 1) aA))))
 (aS (bJ 4 (aF (jB fun _=>False) (a7 (a6 2) (a7 (aF lI (a7 (a6 3) aA)) aA))))
 (aS (cF (nV (iP (aZ (aF oX (a7 (a6 4) aA)))) (nV (aZ (lP (a6 4) (aF (iH 5) (a7 (a6 2) (a7 (aF lI (a7 (a6 3) aA)) aA))))) (iP (aZ (aF mG aA))))) (bB (qC (.bl false))) cK)
 (bB (s0 (lP (cX (g6 (aF j6 (a7 (a6 0) (a7 (qC (.int 1)) aA))) (qC (.int 8))) (qC (.int 16))) (qC (.int 3))) (g9 (aF (jB fun _=>False) (a7 (cE (a7 (C0 (cE (a7 (qC (.int 0)) aA)) (qC (.int 13))) (a7 (cE aA) aA))) (a7 (cE (a7 (qC (.int 5)) aA)) aA))) (qC (.int 479001600))))))))))
theorem aD3:cH N5 ["script","many","web","seeds","found"] uN:=by
 rintro xs Q ⟨ns,rfl,hl,q⟩
 refine⟨_,rfl,_,ns,0,rfl,.inl rfl,by decide,_,_,rfl,rfl,(by show (0:Int) < 6; decide),trivial,?_⟩
 dsimp only
 have m0:0<=ns.getD (0:Int).toNat 0 % 6:=aT0 _ (by decide)
 have m1:ns.getD (0:Int).toNat 0 % 6 < 6:=Int.emod_lt_of_pos _ (by decide)
 generalize ns.getD (0:Int).toNat 0 % 6=M at m0 m1
 have hc:fC (sT (.scr ns) (fY (intz ns) (some 3) none)) (ns.drop 3):=.inr (by show PV.lst (fY (intz ns) (some 3) none)=_; rw [tU ns (by decide)]; rfl)
 refine⟨_,rfl,_,rfl,_,rfl,cD _,_,rfl,_,rfl,_,ns,1,rfl,.inl rfl,by decide,_,_,rfl,rfl,(by show (0:Int) < 8; decide),_,_,M,_,rfl,hc,by rw [aS3]; omega,by omega,by omega,fun ws ls w=>⟨trivial,?_⟩⟩
 have wl:=w.many
 have wb:Wb ws ls:=w.wb (by omega)
 have ne:∀ l ∈ ls,l.1 ≠ l.2:=fun l hl=>by have:=w.inn l hl; omega
 refine⟨_,rfl,_,ns,2,rfl,.inl rfl,by decide,_,rfl,_,M,rfl,m0,by omega,fun S hS=>⟨trivial,?_⟩⟩
 have hs:bQ ws.length S=true:=by rw [show ws.length=M.toNat by omega]; exact hS
 have sl:=B9 hs
 refine⟨_,rfl,_,rfl,_,_,rfl,rfl,cD _,ws,ls,_,S,rfl,wb,.inr rfl,by omega,fun _ L hL=>?_,fun z=>by rw [hs] at z; cases z⟩
 have nd:=hL.nd hs
 have lL:L.length<=5:=by
  have:=nd.1.length_le_of_subset nd.2
  rw [hJ,aJ4] at this
  omega
 refine⟨fun _=>⟨trivial,?_⟩,fun z=>by omega⟩
 have ndS:S.Nodup:=(aN4.mp nd.1).1
 refine⟨_,rfl,_,rfl,_,rfl,aW ⟨_,rfl,_,rfl,_,rfl,_,_,rfl,rfl,cD _,ws,ls,S,rfl,ne,wb,ndS,fun x hx=>nd.2 x (aP7 _ hx),by omega,.inl ⟨_,_,rfl,rfl,_,rfl,?_⟩⟩⟩
 show if (!decide (mF ws ls S L=Ct ws ls 5 S))=true then _ else _
 rw [aC9 hL hs (d:=5) (by omega),aL7 rfl]
 refine aW ⟨rfl,_,rfl,aW ?_⟩
 refine⟨_,rfl,_,ns,1,rfl,.inl rfl,by decide,_,_,rfl,rfl,⟨by decide,by decide⟩,_,_,rfl,rfl,(by show (0:Int) < 16; decide),.inl ⟨_,_,rfl,rfl,_,rfl,aA3 ⟨trivial,q⟩ ?_⟩⟩
 refine⟨by show 1<=1000; decide,rfl,_,_,rfl,rfl,rfl,(by simp),(by decide),(by decide),(by show 1<=10; decide),by decide,rfl,by show 2<=1000; decide,rfl,by show 1<=1000; decide,rfl,zw,[],_,[5],rfl,M8,.inl rfl,by decide,fun hs L hL=>?_,fun z=>by cases z⟩
 obtain ⟨l12,e⟩:=aD1 hL
 refine⟨fun _=>?_,fun z=>by omega⟩
 rw [e]
 exact .inl ⟨_,_,rfl,rfl,trivial,q⟩
end Core
namespace K_k42
open PySem PySem.W L2 PP Core
theorem _root_.L2.FnScope.au {N P:List Str}{s:Scope} (a:s.kind=.function:=by rfl) (b:s.isCoroutine=false:=by rfl) (c:s.isGenerator=false:=by rfl) (d:N.Nodup:=by decide +kernel) (e:N.take P.length=P:=by rfl) (f:∀ x∈P,s.names.lookup x=some .local∨s.names.lookup x=some .cell:=by decide +kernel) (g:∀ y∈s.names,y.2≠.free:=by decide +kernel):FnScope N P s:=⟨a,b,c,d,e,f,g⟩
def aR (i:Nat):Stmt:=PySem.Challenge.pw_kindleweb_k42_whole_orders_counted.main.body.getD i (.Pass ⟨0,0,0,0⟩)
structure FK (K:Frag) (n:Str) (i:Nat) (f:Addr) (d:FuncData):Prop where
 a:nsIn K mainGlobals n=some (some (.ref f))
 F:cV K n n (aR i) f d
structure FM (K:Frag) (mg:Str->Option Value) (n:Str) (i:Nat) (f:Addr) (d:FuncData):Prop where
 F:cV K n n (aR i) f d
 m:mg n=some (.ref f)
theorem FK.M {K:Frag}{mg:Str->Option Value}{n:Str}{i:Nat}{f:Addr}{d:FuncData}{h:Heap} (z:FK K n i f d) (X:K.In h) (G:h.Ns mainGlobals mg):FM K mg n i f d:=⟨z.F,mg_of X G z.a⟩
abbrev Hb (x:Str) (ps:List Str) (i:Nat):Prop:=∀ (kV doc pm:Value) (an:Option Addr) (cdv ct:Value) (us:List Value),us.length=ps.length->bindArgs (fnOf x x (fG (aR i)) (cR (aR i)) (aN (aR i)) .none kV doc pm an cdv ct) ⟨us,[]⟩=pure (ps.zip us)
theorem N6 {A:Around}{k:Nat} (hr:bE k A):A.units+3 < cLine:=by have:=hr.units; omega
section
variable {P : Program} {w : World} {K : Frag} {mg : Str → Option Value} {base : Heap} {f : Addr} {fd : FuncData} {k i : Nat} {x : Str} {ps N : List Str}
theorem Df.au {p:aX} (F:FM K mg x i f fd) (S:FnScope N ps (aN (aR i))) (body:∀ (cdv:Value) (A:Around) (outer:List Env) (s:Shared) (H:Hp) (E:XK),bE k (A.deeper (PyProof.Rows.envOfC x (aN (aR i)) s.heap.objs.size f cdv))->∃ t,dR (cC cI P w K mg base N x (aN (aR i)) f cdv A outer s H E).nox (cR (aR i)) t/\∀ xs Q,p xs Q->t { nx:=fun _=>Q .non,rt:=Q } (dL N xs)) (hb:Hb x ps i:=by intro _ _ _ _ _ _ us hl; first | (obtain ⟨_,rfl⟩:=mC hl; rfl) | (obtain ⟨_,_,rfl⟩:=pB hl; rfl) | (obtain ⟨_,_,_,rfl⟩:=pC hl; rfl) | (obtain ⟨_,_,_,_,rfl⟩:=J3 hl; rfl) | (obtain ⟨_,_,_,_,_,rfl⟩:=us5 hl; rfl)) (len:∀ xs Q,p xs Q->xs.length=ps.length:=by intro xs Q h; repeat (first | (obtain ⟨rfl,_⟩:=h; rfl) | (obtain ⟨_,h⟩:=h))):Df P w K mg base (k+1) x ps p:=
 Df.of F.F F.m S hb len body
theorem c9.au {p:dG} (F:FM K mg x i f fd) (S:FnScope N ps (aN (aR i))) (t:(Str->Prop)->aL) (rd:∀ Ep xs Q,p Ep xs Q->t Ep { nx:=fun _=>Q .non,rt:=Q } (dL N xs)) (body:∀ (cdv:Value) (A:Around) (outer:List Env) (s:Shared) (H:Hp) (E:XK) (Ep:Str->Prop),bE k (A.deeper (PyProof.Rows.envOfC x (aN (aR i)) s.heap.objs.size f cdv))->k6 (cC (dA P w) P w K mg base N x (aN (aR i)) f cdv A outer s H E) (EX K H Ep)->dR (cC (dA P w) P w K mg base N x (aN (aR i)) f cdv A outer s H E) (cR (aR i)) (t Ep)) (hb:Hb x ps i:=by intro _ _ _ _ _ _ us hl; first | (obtain ⟨_,rfl⟩:=mC hl; rfl) | (obtain ⟨_,_,rfl⟩:=pB hl; rfl) | (obtain ⟨_,_,_,rfl⟩:=pC hl; rfl) | (obtain ⟨_,_,_,_,rfl⟩:=J3 hl; rfl) | (obtain ⟨_,_,_,_,_,rfl⟩:=us5 hl; rfl)) (len:∀ Ep xs Q,p Ep xs Q->xs.length=ps.length:=by intro Ep xs Q h; repeat (first | (obtain ⟨rfl,_⟩:=h; rfl) | (obtain ⟨_,h⟩:=h))):c9 P w K mg base (k+1) x ps p:=
 c9.of F.F F.m S hb t len rd body
end
section
variable {P : Program} {w : World} {K : Frag} {mg : Str → Option Value} {base : Heap} {f : Addr} {fd : FuncData}
theorem nd2:(["ahead","behind"]:List Str).Nodup:=by decide +kernel
abbrev N7:Stmt:=aR 6
theorem scR:FnScope ["things"] ["things"] (aN N7):=.au
theorem uO {ns:List Int}{i:Nat}{x y:V} (h1:(ns.map V.int)[i]? = some x) (h2:((ns.map V.int).drop 1)[i]? = some y):∃ p q:Int,x = .int p/\y = .int q/\(ns.zip (ns.drop 1))[i]? = some (p,q):=by
 rw [aJ6] at h1
 rw [<- List.map_drop,aJ6] at h2
 cases e1:ns[i]? with
 | none=>rw [e1] at h1; cases h1
 | some p=>
  cases e2:(ns.drop 1)[i]? with
  | none=>rw [e2] at h2; cases h2
  | some q=>
   rw [e1] at h1; rw [e2] at h2
   exact⟨p,q,(aL5 h1).symm,(aL5 h2).symm,List.getElem?_zip_eq_some.mpr ⟨e1,e2⟩⟩
theorem aD4 (B:Bt mg) (F:cV K "rises" "rises" N7 f fd):bV P w K mg base cI 1 f fd ["things"] (E1 K):=by
 refine F.ok scR (fun vs H Q E h=>?_) (fun cdv A outer s H vs Q E hr h=>?_)
 ·obtain ⟨a,ns,rfl,_⟩:=h
  rfl
 obtain ⟨a,ns,rfl,hS,hn,q⟩:=h
 have lz:((ns.map V.int).drop 1).length<=sizeLine:=aP3 (fT (by rw [aS3,aJ3]; omega))
 have lz2:((ns.map V.int).drop 1).length<=(ns.map V.int).length:=by rw [aS3]; omega
 have lz3:(ns.zip (ns.drop 1)).length=((ns.map V.int).drop 1).length:=by rw [List.length_zip,aS3,aS3,aJ3]; omega
 rcases hS with hS | hS
 ·refine⟨_,jE (jG (kX (rU rfl) rfl B.all PyProof.Rows.boot_all (cN (xB (N:=["ahead","behind"]) (fr:=[none,none]) rfl (bO.of rfl rfl) (af6 rfl B.zip (cN (pv 0) (cN (qO xX (pv 0) (qN kL) qM) dH)))
   ⟨fun _ _ _ _=>show PG _ _ (gM K 2 (dB (bL 0) (dB (bL 1) gL))) from kO rfl (fQ (dU (i:=0) nd2 rfl (Or.inl rfl) (.inr rfl)) (fQ (dU (i:=1) nd2 rfl (Or.inl rfl) (.inr rfl)) kN)),fun _ _ _ _=>nB,fun _ _ _ _=>qG mM (pv 0) (pv 1) (eO _)⟩) dH))),?_⟩
  refine⟨_,rfl,_,rfl,1,rfl,a,_,rfl,hS,fun p hp=>?_,fun e=>?_⟩
  ·have s1:=aY hp (.tup (dC (ns.map V.int) (some 1) none))
   have hb:aI K (upd H p (.tup (dC (ns.map V.int) (some 1) none))) p ((ns.map V.int).drop 1):=aI.of (by rw [aV,rX])
   refine⟨a,p,_,_,rfl,s1.tup hS,hb,rW (xW (s1.tup hS) hb lz2) (fun i acc _=>acc=((ns.zip (ns.drop 1)).take i).map fun (p:Int × Int)=>V.bl (decide (p.1 < p.2))) lz (fun _ _=>rfl) (fun _ _ _ _ _ h=>h) (fun i x acc D H' hi hR c hP=>?_) (fun D acc H' hD sm hDa hlen hP=>?_)⟩
   ·obtain ⟨T,x1,y1,rfl,hT,h1,h2⟩:=hR
    obtain ⟨m,k,rfl,rfl,hz⟩:=uO h1 h2
    refine⟨T,_,rfl,aI.of hT,rfl,_,_,rfl,_,_,rfl,rfl,((Wk.refl _).set (i:=0) rfl).set (i:=1) rfl,nM ⟨_,rfl,_,rfl,_,_,rfl,rfl,c.yes (a9.refl _) ?_⟩⟩
    rw [oM hz,hP]
   ·refine⟨D,(ns.zip (ns.drop 1)).map fun (p:Int × Int)=>decide (p.1 < p.2),rfl,aK.of ?_,q _ (s1.trans sm)⟩
    rw [hDa,hP,<- lz3,aM5,aR9]; rfl
  ·have hb:aI K H a ((ns.map V.int).drop 1):=by
    have:(ns.map V.int).drop 1=ns.map V.int:=by rw [<- rX]; exact e
    rw [this]; exact hS
   refine⟨a,a,_,_,rfl,hS,hb,rW (xW hS hb lz2) (fun i acc _=>acc=((ns.zip (ns.drop 1)).take i).map fun (p:Int × Int)=>V.bl (decide (p.1 < p.2))) lz (fun _ _=>rfl) (fun _ _ _ _ _ h=>h) (fun i x acc D H' hi hR c hP=>?_) (fun D acc H' hD sm hDa hlen hP=>?_)⟩
   ·obtain ⟨T,x1,y1,rfl,hT,h1,h2⟩:=hR
    obtain ⟨m,k,rfl,rfl,hz⟩:=uO h1 h2
    refine⟨T,_,rfl,aI.of hT,rfl,_,_,rfl,_,_,rfl,rfl,((Wk.refl _).set (i:=0) rfl).set (i:=1) rfl,nM ⟨_,rfl,_,rfl,_,_,rfl,rfl,c.yes (a9.refl _) ?_⟩⟩
    rw [oM hz,hP]
   ·refine⟨D,(ns.zip (ns.drop 1)).map fun (p:Int × Int)=>decide (p.1 < p.2),rfl,aK.of ?_,q _ sm⟩
    rw [hDa,hP,<- lz3,aM5,aR9]; rfl
 ·refine⟨_,jE (jG (kX (rU rfl) rfl B.all PyProof.Rows.boot_all (cN (xB (N:=["ahead","behind"]) (fr:=[none,none]) rfl (bO.of rfl rfl) (ag2 rfl B.zip (cN (pv 0) (cN (qO wK (pv 0) (qN kL) qM) dH)))
   ⟨fun _ _ _ _=>show PG _ _ (gM K 2 (dB (bL 0) (dB (bL 1) gL))) from kO rfl (fQ (dU (i:=0) nd2 rfl (Or.inl rfl) (.inr rfl)) (fQ (dU (i:=1) nd2 rfl (Or.inl rfl) (.inr rfl)) kN)),fun _ _ _ _=>nB,fun _ _ _ _=>qG mM (pv 0) (pv 1) (eO _)⟩) dH))),?_⟩
  refine⟨_,rfl,_,rfl,1,rfl,a,_,rfl,hS,fun p hp=>?_⟩
  have s1:=aY hp (.lst (dC (ns.map V.int) (some 1) none))
  have hb:aK K (upd H p (.lst (dC (ns.map V.int) (some 1) none))) p ((ns.map V.int).drop 1):=aK.of (by rw [aV,rX])
  refine⟨a,p,_,_,rfl,s1.seq hS,hb,rW (ag3 (s1.seq hS) hb lz2) (fun i acc _=>acc=((ns.zip (ns.drop 1)).take i).map fun (p:Int × Int)=>V.bl (decide (p.1 < p.2))) lz (fun _ _=>rfl) (fun _ _ _ _ _ h=>h) (fun i x acc D H' hi hR c hP=>?_) (fun D acc H' hD sm hDa hlen hP=>?_)⟩
  ·obtain ⟨T,x1,y1,rfl,hT,h1,h2⟩:=hR
   obtain ⟨m,k,rfl,rfl,hz⟩:=uO h1 h2
   refine⟨T,_,rfl,aI.of hT,rfl,_,_,rfl,_,_,rfl,rfl,((Wk.refl _).set (i:=0) rfl).set (i:=1) rfl,nM ⟨_,rfl,_,rfl,_,_,rfl,rfl,c.yes (a9.refl _) ?_⟩⟩
   rw [oM hz,hP]
  ·refine⟨D,(ns.zip (ns.drop 1)).map fun (p:Int × Int)=>decide (p.1 < p.2),rfl,aK.of ?_,q _ (s1.trans sm)⟩
   rw [hDa,hP,<- lz3,aM5,aR9]; rfl
abbrev N8:Stmt:=aR 8
theorem pU:FnScope ["web","around","one","other"] ["web"] (aN N8):=.au
theorem aD5 (F:cV K "near_lists" "near_lists" N8 f fd):bV P w K mg base cI 1 f fd ["web"] E2:=by
 refine F.ok pU (fun vs H Q E h=>?_) (fun cdv A outer s H vs Q E hr h=>?_)
 ·obtain ⟨v,ws,ls,rfl,_⟩:=h
  rfl
 obtain ⟨v,ws,ls,rfl,W,hn,hm,hin,q⟩:=h
 refine⟨_,kM (ac7 (i:=1) (N:=["want"]) (fr:=[none]) rfl (bO.of rfl rfl) (vB (kZ qS (pv 0) kL (fun _ _=>rfl)))
   ⟨fun _ _ _ _=>dU (i:=0) (aL8 _ _) rfl (Or.inl rfl) (.inr rfl),fun _ _ _ _=>nB,fun _ _ _ _=>vU dH⟩ pU.nd rfl rfl rfl)
  (kM (vG PassesOwn.never rfl (vB (kZ qS (pv 0) kL (fun _ _=>rfl))) (kO (n:=2) rfl (fQ (dU (i:=2) pU.nd rfl (Or.inl rfl) (.inr rfl)) (fQ (dU (i:=3) pU.nd rfl (Or.inl rfl) (.inr rfl)) kN)) )
   (kM (mI (qW PySem.F.plainAttrs_list PySem.F.slot_list_append PySem.F.type_list_append mS (kZ qR (pv 1) (pv 2) (fun _ _=>rfl)) (cN (pv 3) dH)))
   (jE (mI (qW PySem.F.plainAttrs_list PySem.F.slot_list_append PySem.F.type_list_append mS (kZ qR (pv 1) (pv 3) (fun _ _=>rfl)) (cN (pv 2) dH))))))
  (jE (jG (pv 1)))),?_⟩
 obtain ⟨a,p,q',ys,rfl,ha,hp,hq,hL⟩:=W.at_
 have lw:(ws.map V.int).length=ws.length:=aJ3 _
 refine⟨_,rfl,a,_,_,_,rfl,rfl,aI.of ha,rfl,p,rfl,⟨_,aI.of hp⟩,ac9 (ac8 (aI.of hp)) (fun i acc H'=>∃ bs:List Addr,acc=bs.map V.ref/\bs.length=i/\bs.Nodup/\∀ b ∈ bs,H b=none/\H' b=some (.lst [])) (by rw [lw]; exact aP3 (mV hn))
  (fun D hD=>⟨[],rfl,rfl,List.nodup_nil,fun _ z=>nomatch z⟩) (fun i x acc D H' hx c hPv=>?_) (fun D acc H' hD sm hDa hlen hPv=>?_)⟩
 ·obtain ⟨bs,rfl,hbl,nd,hb⟩:=hPv
  refine⟨wk0 (n:=none),nM ⟨aN0 _,fun r hr'=>?_⟩⟩
  have hrD:r ≠ D:=fun z=>by rw [z,c.acc] at hr'; cases hr'
  have hrH:H r=none:=c.same.free hr'
  refine c.yes (aY hr' _) ⟨bs ++ [r],by simp,by simp [hbl],?_,fun b hm=>?_⟩
  ·refine aN4.mpr ⟨nd,aL8 _ _,fun b hb1 b' hb2 e=>?_⟩
   rw [aJ5.mp hb2] at e
   rw [e] at hb1
   rw [(hb r hb1).2] at hr'; cases hr'
  ·rcases aL9.mp hm with hm | hm
   ·have hbD:b ≠ D:=fun z=>by
     rw [z] at hm
     have:=(hb D hm).2
     rw [c.acc] at this
     have:bs.map V.ref = []:=by injection this with e1; injection e1
     have:bs = []:=List.map_eq_nil_iff.mp this
     rw [this] at hm; simp at hm
    refine⟨(hb b hm).1,?_⟩
    rw [aJ hbD,aJ (cQ (hb b hm).2 hr')]
    exact (hb b hm).2
   ·rw [aJ5.mp hm]
    exact⟨hrH,by rw [aJ hrD,aV]⟩
 ·obtain ⟨bs,rfl,hbl,nd,hb⟩:=hPv
  rw [lw] at hbl
  have R0:gU H H' D bs (fun k=>bW (ls.take 0) k):=by
   refine⟨hD,fun b hm=>⟨(hb b hm).1,fun z=>?_⟩,nd,hDa,fun k b hk=>(hb b (aL1 hk)).2,sm⟩
   rw [z] at hm
   have:=(hb D hm).2
   rw [hDa] at this
   have:bs.map V.ref = []:=by injection this with e1; injection e1
   have:bs = []:=List.map_eq_nil_iff.mp this
   rw [this] at hm; simp at hm
  have lL:=hL.length
  refine⟨_,rfl,a,_,_,_,rfl,rfl,aI.of (sm _ _ ha),rfl,q',rfl,⟨_,aI.of (sm _ _ hq)⟩,T8 (K:=K) (a:=q') (xs:=ys) (fun i σ H2=>∃ x y:Option V,σ = [some (.ref a),some (.ref D),x,y]/\gU H H2 D bs (fun k=>bW (ls.take i) k))
   ⟨none,none,rfl,R0⟩ (fun i σ H2 _ ⟨_,_,_,R⟩=>aI.of (R.same _ _ hq)) ?_ ?_⟩
  ·rintro i y σ H2 hi ⟨x1,x2,rfl,R⟩
   obtain ⟨l,b,hl,rfl,hbt⟩:=hL.get hi
   have hlm:l ∈ ls:=aL1 hl
   obtain ⟨⟨h1,h2⟩,h3,h4⟩:=hin l hlm
   have k1:l.1.toNat < bs.length:=by omega
   have k2:l.2.toNat < bs.length:=by omega
   have e1:bs[l.1.toNat]? = some (bs[l.1.toNat]):=aJ2 k1
   have e2:bs[l.2.toNat]? = some (bs[l.2.toNat]):=aJ2 k2
   refine⟨b,_,rfl,aI.of (R.same _ _ hbt),rfl,_,_,rfl,_,_,rfl,rfl,?_⟩
   refine⟨_,rfl,_,rfl,D,_,_,.ref bs[l.1.toNat],rfl,rfl,aK.of R.row,nL h1 (by rw [aJ6,e1]; rfl),rQ (aK.of (R.rows _ _ e1)),_,rfl,_,_,_,rfl,rfl,R.rows _ _ e1,?_,?_⟩
   ·rw [aJ3]
    have:=nK (ls.take i) (l.1.toNat:Nat)
    rw [aT5] at this
    exact fT (by omega)
   ·have R1:=R.app e1 l.2
    refine⟨_,rfl,_,rfl,D,_,_,.ref bs[l.2.toNat],rfl,rfl,aK.of R1.row,nL h3 (by rw [aJ6,e2]; rfl),rQ (aK.of (R1.rows _ _ e2)),_,rfl,_,_,_,rfl,rfl,R1.rows _ _ e2,?_,?_⟩
    ·rw [aJ3]
     have:=nK (ls.take i) (l.2.toNat:Nat)
     rw [aT5] at this
     split
     ·rw [aJ4,aN6]; exact fT (by omega)
     ·exact fT (by omega)
    ·have R2:=R1.app e2 l.1
     refine⟨_,_,rfl,R2.congr fun k hk=>?_⟩
     rw [xT hl]
     have c1:(k=l.1.toNat) ↔ l.1=(k:Int):=by omega
     have c2:(k=l.2.toNat) ↔ l.2=(k:Int):=by omega
     by_cases d1:k=l.1.toNat
     ·by_cases d2:k=l.2.toNat
      ·rw [if_pos d2,if_pos d1,if_pos (c1.mp d1),if_pos (c2.mp d2)]; simp
      ·rw [if_neg d2,if_pos d1,if_pos (c1.mp d1),if_neg (fun z=>d2 (c2.mpr z))]; simp
     ·by_cases d2:k=l.2.toNat
      ·rw [if_pos d2,if_neg d1,if_neg (fun z=>d1 (c1.mpr z)),if_pos (c2.mp d2)]; simp
      ·rw [if_neg d2,if_neg d1,if_neg (fun z=>d1 (c1.mpr z)),if_neg (fun z=>d2 (c2.mpr z))]; simp
  ·
   rintro σ H2 ⟨x1,x2,rfl,R⟩
   refine⟨_,rfl,q D bs H2 hbl ?_⟩
   rw [lL,aM5] at R
   exact R
theorem aD6:FnScope ["web"] ["web"] (aN (aR 7)):=.au
theorem aD7 (B:Bt mg) (F:FM K mg "hearths_in" 7 f fd)  : Df P w K mg base 1 "hearths_in" ["web"] iF:=
 Df.au F aD6 (fun cdv A outer s H E hr=>by
  exact⟨(A6),(aQ (bK (iB B (a8 (fN (qv 0) aM) aC)))),ar0⟩)
theorem N9:FnScope ["hearths","chosen","hearth"] ["hearths"] (aN (aR 12)):=.au
theorem aD8 (B:Bt mg) (F:FM K mg "sets_among" 12 f fd)  : Df P w K mg base 1 "sets_among" ["hearths"] pI:=
 Df.au F N9 (fun cdv A outer s H E hr=>by
  have nd:=N9.nd
  exact⟨(K3),(aT (bY (i:=1) nd (iX (a8 (cT aC) aC)))
   (aT (hG 2 nd (dS (qv 0))
    (aQ (bY (i:=1) nd (F0 (qv 1) (jZ (N:=["some","hearth"]) (fr:=[none,some 2]) (dS (qv 1)) (fun _ _ _ _=>(tY (qv 0) (cT (a8 (qv 1) aC)))))))))
   (aQ (lU 1)))),aA2⟩)
theorem O0:FnScope ["hearths","inside","hearth"] ["hearths"] (aN (aR 14)):=.au
theorem aD9 (B:Bt mg) (F:FM K mg "marked" 14 f fd)  : Df P w K mg base 1 "marked" ["hearths"] k7:=
 Df.au F O0 (fun cdv A outer s H E hr=>by
  have nd:=O0.nd
  have hu:=i8 hr
  exact⟨(B4),(aT (iZ (i:=1) nd am7)
   (aT (hG 2 nd (dS (qv 0))
    (aQ (zI hu (i:=1) (qv 2) fM)))
   (aQ (lU 1)))),ar4⟩)
theorem aE0:FnScope ["hearths","inside"] ["hearths","inside"] (aN (aR 15)):=.au
theorem aE1 (B:Bt mg) (F:FM K mg "count_inside" 15 f fd)  : Df P w K mg base 1 "count_inside" ["hearths","inside"] oT:=
 Df.au F aE0 (fun cdv A outer s H E hr=>by
  have hu:=i8 hr
  exact⟨(B5),(aQ (bK (iB B (a8 (oI (N:=["hearth","inside"]) (fr:=[none,some 1]) (dS (qv 0)) (fun _ _ _ _=>(zB hu (qv 0) (qv 1))) (fun _ _ _ _=>(qv 0))) aC)))),ar5⟩)
theorem aE2:FnScope ["choices"] ["choices"] (aN (aR 25)):=.au
theorem aE3 (B:Bt mg) (F:FM K mg "ways_on" 25 f fd)  : Df P w K mg base 1 "ways_on" ["choices"] kI:=
 Df.au F aE2 (fun cdv A outer s H E hr=>by
  exact⟨(L6),(aT (cP (lS (am2 (qv 0))) (aQ (bK aM)) cZ)
   (aQ (bK (ax2 B rfl (a8 (av8 (N:=["hearth","many"]) (fr:=[none,none]) (dS (qv 0)) (fun _ _ _ _=>(qv 1))) aC))))),aC0⟩)
theorem aE4:FnScope ["row"] ["row"] (aN (aR 26)):=.au
theorem aE5 (B:Bt mg) (F:FM K mg "set_of" 26 f fd)  : Df P w K mg base 1 "set_of" ["row"] pQ:=
 Df.au F aE4 (fun cdv A outer s H E hr=>by
  exact⟨(L5),(aQ (bK (iC B (a8 (tW B (a8 (qv 0) aC)) aC)))),aB8⟩)
theorem aE6:FnScope ["script","k"] ["script","k"] (aN (aR 28)):=.au
theorem aE7 (B:Bt mg) (F:FM K mg "_law_cell_at" 28 f fd)  : Df P w K mg base 1 "_law_cell_at" ["script","k"] j6:=
 Df.au F aE6 (fun cdv A outer s H E hr=>by
  exact⟨(C1),(aT (cP (zA (qv 1) (iB B (a8 (qv 0) aC))) (aQ (bK (fN (qv 0) (qv 1)))) cZ)
   (aQ (bK aM))),ar9⟩)
theorem aE8:FnScope ["found"] ["found"] (aN (aR 29)):=.au
theorem aE9 (B:Bt mg) (F:FM K mg "_law_whole" 29 f fd)  : Df P w K mg base 1 "_law_whole" ["found"] oX:=
 Df.au F aE8 (fun cdv A outer s H E hr=>by
  exact⟨(C3 K),(aQ (bK (oC (an7 B (qv 0)) (lT (am5 (an8 B (qv 0))))))),as0 (E8 K).ii (E8 K).ib⟩)
theorem O1:FnScope ["cell","k","turn"] ["cell","k"] (aN (aR 30)):=.au
theorem aF0 (B:Bt mg) (F:FM K mg "_law_stir" 30 f fd)  : Df P w K mg base 1 "_law_stir" ["cell","k"] kG:=
 Df.au F O1 (fun cdv A outer s H E hr=>by
  have nd:=O1.nd
  exact⟨(J5),(aT (bY (i:=2) nd (cY (t7 (gA (gA (cY (qv 0) aM) (t7 (qv 1) (qv 1))) aM) aM) aM))
   (aQ (bK (gB (cY (t7 (qv 2) (qv 2)) aM) aM)))),az2⟩)
theorem aF1:FnScope ["way","wants","degrees"] ["way","wants","degrees"] (aN (aR 31)):=.au
theorem aF2 (B:Bt mg) (F:FM K mg "_law_wants" 31 f fd)  : kE P w K mg base 1 "_law_wants" ["way","wants","degrees"] kH:=
 kE.of F.F F.m aF1 (fun _ _ _ _ _ _ us hl=>by obtain ⟨_,_,_,rfl⟩:=pC hl; rfl) (fun xs Q h=>by unfold kH at h; repeat (first | (obtain ⟨rfl,_⟩:=h; rfl) | (obtain ⟨_,h⟩:=h))) 1 J6 az3 (fun cdv A outer s H E hr=>by
  exact (pD (cP (gZ (qv 0) aM) (aQ (bK (jZ (N:=["want"]) (fr:=[none]) (dS (qv 1)) (fun _ _ _ _=>aM)))) cZ)
   (pD (cP (gZ (qv 0) aM) (aQ (bK (tH B (a8 (qv 2) aC)))) cZ)
   (pD (cP (gZ (qv 0) aM) (aQ (bK (jZ (N:=["degree"]) (fr:=[none]) (dS (qv 2)) (fun _ _ _ _=>(oE B rfl (a8 aM (a8 (z9 (qv 0) aM) aC))))))) cZ)
   (pD (cP (gZ (qv 0) aM) (aQ (bK (jZ (N:=["degree"]) (fr:=[none]) (dS (qv 2)) (fun _ _ _ _=>(gB (gA (qv 0) aM) aM))))) cZ)
   (az0 1))))))
theorem O2:FnScope ["cell","many","wants","links","hearth","one","other"] ["cell","many"] (aN (aR 32)):=.au
theorem aF3 (B:Bt mg) (F:FM K mg "_law_by_digits" 32 f fd)  : Df P w K mg base 1 "_law_by_digits" ["cell","many"] pE:=
 Df.au F O2 (fun cdv A outer s H E hr=>by
  have nd:=O2.nd
  have hu:=i8 hr
  exact⟨(J7),(aT (iZ (i:=2) nd (iX aC))
   (aT (iZ (i:=3) nd tF)
   (aT (hG 4 nd (j3 rfl B.range (qv 1))
    (aT (zH 2 (cY (qv 0) aM))
    (aQ (bY (i:=0) nd (gB (qv 0) aM)))))
   (aT (hG 5 nd (j3 rfl B.range (qv 1))
    (aQ (hG 6 nd (an0 rfl B.range (gA (qv 5) aM) (qv 1))
     (aT (cP (gZ (cY (qv 0) aM) aM) (aQ (tG hu (i:=3) (cT (a8 (qv 5) (a8 (qv 6) aC))) fM)) cZ)
     (aQ (bY (i:=0) nd (gB (qv 0) aM)))))))
   (aQ (zG 2 (zG 3 (bK (am6 (a8 (qv 2) (a8 (qv 3) aC))))))))))),az4⟩)
theorem aF4:FnScope ["web","hearth"] ["web","hearth"] (aN (aR 35)):=.au
theorem aF5 (B:Bt mg) (F:FM K mg "_law_near" 35 f fd)  : Df P w K mg base 1 "_law_near" ["web","hearth"] pH:=
 Df.au F aF4 (fun cdv A outer s H E hr=>by
  exact⟨(K2),(aQ (bK (av9 (N:=["one","other","hearth"]) (fr:=[none,none,some 1]) (dS (fN (qv 0) aM)) (fun _ _ _ _=>(oF (qv 2) (cT (a8 (qv 0) (a8 (qv 1) aC))))) (fun _ _ _ _=>(z9 (gA (qv 0) (qv 1)) (qv 2)))))),az7⟩)
theorem aF6:FnScope ["web","number"] ["web","number"] (aN (aR 9)):=.au
theorem aF7 (B:Bt mg) (F:FM K mg "is_hearth" 9 f fd) (d_hearths_in:Df P w K mg base 1 "hearths_in" ["web"] iF):Df P w K mg base 2 "is_hearth" ["web","number"] oQ:=
 Df.au F aF6 (fun cdv A outer s H E hr=>by
  exact⟨(A7),(aQ (bK (oC (t8 (qv 1) aM) (lT (al7 (qv 1) (bG d_hearths_in hr (a8 (qv 0) aC))))))),ar1⟩)
theorem aF8:FnScope ["web","numbers"] ["web","numbers"] (aN (aR 13)):=.au
theorem aF9 (B:Bt mg) (F:FM K mg "has_each_once" 13 f fd) (d_hearths_in:Df P w K mg base 1 "hearths_in" ["web"] iF):Df P w K mg base 2 "has_each_once" ["web","numbers"] p4:=
 Df.au F aF8 (fun cdv A outer s H E hr=>by
  have hu3:=N6 hr
  exact⟨(F6),(aQ (bK (zO hu3 (tW B (a8 (qv 1) aC)) (C7 B (bG d_hearths_in hr (a8 (qv 0) aC)))))),aw5⟩)
theorem aG0:FnScope ["web","around","burning","hearth"] ["web","around","burning","hearth"] (aN (aR 17)):=.au
theorem aG1 (B:Bt mg) (F:FM K mg "can_kindle" 17 f fd) (d_count_inside:Df P w K mg base 1 "count_inside" ["hearths","inside"] oT):Df P w K mg base 2 "can_kindle" ["web","around","burning","hearth"] k8:=
 Df.au F aG0 (fun cdv A outer s H E hr=>by
  have hu:=i8 hr
  exact⟨(B6),(aQ (bK (oC (am1 hu (qv 3) (qv 2)) (lT (t8 (bG d_count_inside hr (a8 (fN (qv 1) (qv 3)) (a8 (qv 2) aC))) (fN (fN (qv 0) aM) (qv 3))))))),ar7⟩)
theorem O3:FnScope ["flow","many","way","wants","links","cell","turn","one","other","degrees"] ["flow","many","way"] (aN (aR 33)):=.au
theorem aG2 (B:Bt mg) (F:FM K mg "_law_web" 33 f fd) (d__law_by_digits:Df P w K mg base 1 "_law_by_digits" ["cell","many"] pE) (d__law_stir:Df P w K mg base 1 "_law_stir" ["cell","k"] kG) (d__law_wants:kE P w K mg base 1 "_law_wants" ["way","wants","degrees"] kH):Df P w K mg base 2 "_law_web" ["flow","many","way"] pF:=
 Df.au F O3 (fun cdv A outer s H E hr=>by
  have nd:=O3.nd
  have hu:=i8 hr
  exact⟨(J8),(aT (ao2 (i:=3) nd (N:=["k"]) (fr:=[none]) (j3 rfl B.range (qv 1)) (fun _ _ _ _=>(gA aM (cY (qv 0) aM))))
   (aT (iZ (i:=4) nd tF)
   (aT (cP (tE (zD (t9 (iB B (a8 (qv 0) aC)) aM) (zC (gZ (cY (fN (qv 0) aM) aM) aM)))) (aT (ay7 3 4 nd (bG d__law_by_digits hr (a8 (gB (fN (qv 0) aM) aM) (a8 (qv 1) aC))))
    (aQ (bY (i:=0) nd (zR (qv 0) (zQ aM) zP)))) cZ)
   (aT (hG 5 nd (dS (qv 0))
    (aQ (cP (t9 (qv 1) aM) (aT (bY (i:=6) nd (bG d__law_stir hr (a8 (qv 5) (a8 aM aC))))
     (aT (bY (i:=7) nd (cY (qv 6) (qv 1)))
     (aT (bY (i:=8) nd (cY (gB (qv 6) aM) (qv 1)))
     (aQ (cP (gZ (cY (gB (qv 6) aM) aM) aM) (aQ (ao3 (i:=3) (qv 7) (cY (gB (qv 6) aM) aM))) (aQ (cP (tE (zD (tD (qv 7) (qv 8)) (zC (zB hu (cT (a8 (tI B rfl (a8 (qv 7) (a8 (qv 8) aC))) (a8 (oE B rfl (a8 (qv 7) (a8 (qv 8) aC))) aC))) (qv 4))))) (aQ (ay9 4 hu (cT (a8 (tI B rfl (a8 (qv 7) (a8 (qv 8) aC))) (a8 (oE B rfl (a8 (qv 7) (a8 (qv 8) aC))) aC))))) (aQ (cP (tD (qv 7) (qv 8)) (aQ (tG hu (i:=4) (cT (a8 (tI B rfl (a8 (qv 7) (a8 (qv 8) aC))) (a8 (oE B rfl (a8 (qv 7) (a8 (qv 8) aC))) aC))) fM)) cZ))))))))) cZ)))
   (aT (az9 (i:=9) nd (N:=["hearth","links"]) (fr:=[none,some 4]) (j3 rfl B.range (qv 1)) (fun _ _ _ _=>(iB B (a8 (ay5 (N:=["pair","hearth"]) (fr:=[none,some 0]) (qv 1) (fun _ _ _ _=>(oF (qv 1) (qv 0))) (fun _ _ _ _=>(qv 0))) aC))))
   (aQ (bK (cT (a8 (iC B (a8 (az1 d__law_wants hr (a8 (qv 2) (a8 (qv 3) (a8 (qv 9) aC)))) aC)) (a8 (iC B (a8 (at7 B (a8 (at4 B rfl (a8 (qv 4) aC)) aC)) aC)) aC)))))))))),az5⟩)
theorem aG3:FnScope ["cell","many"] ["cell","many"] (aN (aR 34)):=.au
theorem aG4 (B:Bt mg) (F:FM K mg "_law_some" 34 f fd) (d__law_stir:Df P w K mg base 1 "_law_stir" ["cell","k"] kG):Df P w K mg base 2 "_law_some" ["cell","many"] pG:=
 Df.au F aG3 (fun cdv A outer s H E hr=>by
  exact⟨(K1),(aT (cP (gZ (cY (qv 0) aM) aM) (aQ (bK (iC B (a8 (oI (N:=["k","cell"]) (fr:=[none,some 0]) (j3 rfl B.range (qv 1)) (fun _ _ _ _=>(gZ (cY (al6 (qv 1) (gA (qv 0) aM)) aM) aM)) (fun _ _ _ _=>(qv 0))) aC)))) cZ)
   (aQ (bK (iC B (a8 (oI (N:=["k","cell"]) (fr:=[none,some 0]) (j3 rfl B.range (qv 1)) (fun _ _ _ _=>(zA (cY (bG d__law_stir hr (a8 (qv 1) (a8 (qv 0) aC))) aM) (gA aM (cY (gB (qv 1) aM) aM)))) (fun _ _ _ _=>(qv 0))) aC))))),az6⟩)
theorem aG5:FnScope ["web","burning","hearth"] ["web","burning","hearth"] (aN (aR 36)):=.au
theorem aG6 (B:Bt mg) (F:FM K mg "_law_kindles" 36 f fd) (d__law_near:Df P w K mg base 1 "_law_near" ["web","hearth"] pH):Df P w K mg base 2 "_law_kindles" ["web","burning","hearth"] pM:=
 Df.au F aG5 (fun cdv A outer s H E hr=>by
  exact⟨(K6),(aT (cP (oF (qv 2) (qv 1)) (aQ (bK fM)) cZ)
   (aQ (bK (t8 (iB B (a8 (oI (N:=["other","burning"]) (fr:=[none,some 1]) (dS (bG d__law_near hr (a8 (qv 0) (a8 (qv 2) aC)))) (fun _ _ _ _=>(oF (qv 0) (qv 1))) (fun _ _ _ _=>(qv 0))) aC)) (fN (fN (qv 0) aM) (qv 2)))))),aA7⟩)
theorem aG7:FnScope ["web","numbers"] ["web","numbers"] (aN (aR 10)):=.au
theorem aG8 (B:Bt mg) (F:FM K mg "is_set" 10 f fd) (d_rises:Df P w K mg base 1 "rises" ["things"] tN) (d_is_hearth:Df P w K mg base 2 "is_hearth" ["web","number"] oQ):Df P w K mg base 3 "is_set" ["web","numbers"] oR:=
 Df.au F aG7 (fun cdv A outer s H E hr=>by
  exact⟨(A8),(aQ (bK (oC (bG d_rises hr (a8 (qv 1) aC)) (lT (an3 B rfl (a8 (jZ (N:=["number","web"]) (fr:=[none,some 0]) (dS (qv 1)) (fun _ _ _ _=>(bG d_is_hearth hr (a8 (qv 1) (a8 (qv 0) aC))))) aC)))))),ar2⟩)
theorem O4:FnScope ["web","around","burning","order","hearth"] ["web","around","burning","order"] (aN (aR 19)):=.au
theorem aG9 (B:Bt mg) (F:FM K mg "first_to_kindle" 19 f fd) (d_can_kindle:Df P w K mg base 2 "can_kindle" ["web","around","burning","hearth"] k8):Df P w K mg base 3 "first_to_kindle" ["web","around","burning","order"] m6:=
 Df.au F O4 (fun cdv A outer s H E hr=>by
  have nd:=O4.nd
  exact⟨(F9),(aT (hG 4 nd (dS (qv 3))
    (aQ (cP (iW (bG d_can_kindle hr (a8 (qv 0) (a8 (qv 1) (a8 (qv 2) (a8 (qv 4) aC)))))) (aQ (lU 4)) cZ)))
   (aQ (bK yZ))),aw7⟩)
theorem aH0:FnScope ["web","hearths"] ["web","hearths"] (aN (aR 11)):=.au
theorem aH1 (B:Bt mg) (F:FM K mg "made_set" 11 f fd) (d_is_set:Df P w K mg base 3 "is_set" ["web","numbers"] oR) (x_BadSet:Xc K mg base "BadSet"):c9 P w K mg base 4 "made_set" ["web","hearths"] p9:=
 c9.au F aH0 J0 ay2 (fun cdv A outer s H E Ep hr hX=>by
  exact (aT (cP (lS (iW (bG d_is_set hr (a8 (qv 0) (a8 (qv 1) aC))))) (aQ (u6 hX x_BadSet (a8 t6 aC))) cZ)
   (aQ (bK (iC B (a8 (qv 1) aC))))))
theorem O5:FnScope ["web","seeds","order","burning","around","kindled","hearth"] ["web","seeds","order"] (aN (aR 18)):=.au
theorem aH2 (B:Bt mg) (F:FM K mg "kindled_by" 18 f fd) (d_marked:Df P w K mg base 1 "marked" ["hearths"] k7) (d_near_lists:Df P w K mg base 1 "near_lists" ["web"] lY) (d_first_to_kindle:Df P w K mg base 3 "first_to_kindle" ["web","around","burning","order"] m6) (d_made_set:c9 P w K mg base 4 "made_set" ["web","hearths"] p9) (d_has_each_once:Df P w K mg base 2 "has_each_once" ["web","numbers"] p4) (x_BadOrder:Xc K mg base "BadOrder"):c9 P w K mg base 5 "kindled_by" ["web","seeds","order"] pJ:=
 c9.au F O5 K4 aA5 (fun cdv A outer s H E Ep hr hX=>by
  have nd:=O5.nd
  have hu:=i8 hr
  exact (aT (iZ (i:=3) nd (bG d_marked hr (a8 (p5 hX d_made_set hr (a8 (qv 0) (a8 (qv 1) aC))) aC)))
   (aT (cP (lS (iW (bG d_has_each_once hr (a8 (qv 0) (a8 (qv 2) aC))))) (aQ (u6 hX x_BadOrder (a8 t6 aC))) cZ)
   (aT (bY (i:=4) nd (bG d_near_lists hr (a8 (qv 0) aC)))
   (aT (iZ (i:=5) nd (iX aC))
   (aT (bY (i:=6) nd (bG d_first_to_kindle hr (a8 (qv 0) (a8 (qv 4) (a8 (qv 3) (a8 (qv 2) aC))))))
   (aT (am8 hX.own (am0 (qv 6) yZ)
    (aT (zH 5 (qv 6))
    (aT (zI hu (i:=3) (qv 6) fM)
    (aQ (bY (i:=6) nd (bG d_first_to_kindle hr (a8 (qv 0) (a8 (qv 4) (a8 (qv 3) (a8 (qv 2) aC))))))))))
   (aQ (lU 5)))))))))
theorem aH3:FnScope ["web","seeds"] ["web","seeds"] (aN (aR 22)):=.au
theorem aH4 (B:Bt mg) (F:FM K mg "first_order" 22 f fd) (d_kindled_by:c9 P w K mg base 5 "kindled_by" ["web","seeds","order"] pJ) (d_hearths_in:Df P w K mg base 1 "hearths_in" ["web"] iF):c9 P w K mg base 6 "first_order" ["web","seeds"] pK:=
 c9.au F aH3 K5 aA6 (fun cdv A outer s H E Ep hr hX=>by
  exact (aQ (bK (iC B (a8 (p5 hX d_kindled_by hr (a8 (qv 0) (a8 (qv 1) (a8 (C7 B (bG d_hearths_in hr (a8 (qv 0) aC))) aC)))) aC)))))
theorem O6:FnScope ["web","seeds","later","around","branches","lit","burning","able"] ["web","seeds"] (aN (aR 24)):=.au
theorem aH5 (B:Bt mg) (F:FM K mg "branches_of" 24 f fd) (d_near_lists:Df P w K mg base 1 "near_lists" ["web"] lY) (d_first_order:c9 P w K mg base 6 "first_order" ["web","seeds"] pK) (d_sets_among:Df P w K mg base 1 "sets_among" ["hearths"] pI) (d_marked:Df P w K mg base 1 "marked" ["hearths"] k7) (d_can_kindle:Df P w K mg base 2 "can_kindle" ["web","around","burning","hearth"] k8) (d_ways_on:Df P w K mg base 1 "ways_on" ["choices"] kI) (d_set_of:Df P w K mg base 1 "set_of" ["row"] pQ) (rv:mg "reversed" = none) (x_TooMany:Xc K mg base "TooMany") {u_MOST_ORDERED:Nat} (m_MOST_ORDERED:mg "MOST_ORDERED" = some (.int 12 u_MOST_ORDERED)):c9 P w K mg base 7 "branches_of" ["web","seeds"] pR:=
 c9.au F O6 M3 aC3 (fun cdv A outer s H E Ep hr hX=>by
  have nd:=O6.nd
  have hu:=i8 hr
  exact (aT (bY (i:=2) nd (tW B (a8 (p5 hX d_first_order hr (a8 (qv 0) (a8 (qv 1) aC))) aC)))
   (aT (cP (t9 (iB B (a8 (qv 2) aC)) (aw0 rfl m_MOST_ORDERED)) (aQ (u6 hX x_TooMany (a8 t6 aC))) cZ)
   (aT (bY (i:=3) nd (bG d_near_lists hr (a8 (qv 0) aC)))
   (aT (iZ (i:=4) nd tF)
   (aT (hG 5 (hp:=hX.own) nd (aB3 rv (bG d_sets_among hr (a8 (qv 2) aC)))
    (aT (bY (i:=6) nd (bG d_marked hr (a8 (tY (iC B (a8 (qv 1) aC)) (qv 5)) aC)))
    (aT (ao1 (i:=7) nd (N:=["hearth","web","around","burning"]) (fr:=[none,some 0,some 3,some 6]) (dS (qv 2)) (fun _ _ _ _=>(iW (bG d_can_kindle hr (a8 (qv 1) (a8 (qv 2) (a8 (qv 3) (a8 (qv 0) aC))))))) (fun _ _ _ _=>(qv 0)))
    (aQ (tG hu (i:=4) (qv 5) (jZ (N:=["hearth","branches","lit"]) (fr:=[none,some 4,some 5]) (dS (qv 7)) (fun _ _ _ _=>(cT (a8 (qv 0) (a8 (bG d_ways_on hr (a8 (zF hu (qv 1) (bG d_set_of hr (a8 (tY (qv 2) (cT (a8 (qv 0) aC))) aC))) aC)) aC))))))))))
   (aQ (lU 4))))))))
theorem aH6:FnScope ["web","seeds"] ["web","seeds"] (aN (aR 23)):=.au
theorem aH7 (B:Bt mg) (F:FM K mg "order_many" 23 f fd) (d_ways_on:Df P w K mg base 1 "ways_on" ["choices"] kI) (d_branches_of:c9 P w K mg base 7 "branches_of" ["web","seeds"] pR):c9 P w K mg base 8 "order_many" ["web","seeds"] jB:=
 c9.au F aH6 M5 aC6 (fun cdv A outer s H E Ep hr hX=>by
  have hu:=i8 hr
  exact (aQ (bK (bG d_ways_on hr (a8 (zF hu (p5 hX d_branches_of hr (a8 (qv 0) (a8 (qv 1) aC))) (cT aC)) aC)))))
theorem O7:FnScope ["web","burning","many","ended","hearth"] ["web","burning"] (aN (aR 37)):=.au
theorem aH8 (B:Bt mg) (F:cV K "_law_count" "_law_count" (aR 37) f fd) (m:mg "_law_count" = some (.ref f)) (d__law_kindles:Df P w K mg base 2 "_law_kindles" ["web","burning","hearth"] pM):∀ d:Nat,Df P w K mg base (2+d+1) "_law_count" ["web","burning"] (iH d):=by
 have hb:∀ (kV doc pm:Value) (an:Option Addr) (cdv ct:Value) (us:List Value),us.length=(["web","burning"]:List Str).length->bindArgs (fnOf "_law_count" "_law_count" (fG (aR 37)) (cR (aR 37)) (aN (aR 37)) .none kV doc pm an cdv ct) ⟨us,[]⟩=pure ((["web","burning"]:List Str).zip us):=fun _ _ _ _ _ _ us hl=>by obtain ⟨_,_,rfl⟩:=pB hl; rfl
 have step:∀ (d k:Nat) (pc:aX),Df P w K mg base k "_law_count" ["web","burning"] pc->k<=2+d->(∀ e,d=e+1->pc=iH e)->Df P w K mg base (2+d+1) "_law_count" ["web","burning"] (iH d):=fun d k pc d_rec hk hpc=>
  Df.of F m O7 hb (fun xs Q h=>by unfold iH at h; repeat (first | (obtain ⟨rfl,_⟩:=h; rfl) | (obtain ⟨_,h⟩:=h))) (fun cdv A outer s H E hr=>by
   have nd:=O7.nd
   have hr0:=hr.mono (show 2<=2+d by omega)
   exact⟨M6 pc,(aT (bY (i:=2) nd aM)
   (aT (bY (i:=3) nd fM)
   (aT (hG 4 nd (j3 rfl B.range (iB B (a8 (fN (qv 0) aM) aC)))
    (aQ (cP (iW (bG d__law_kindles hr0 (a8 (qv 0) (a8 (qv 1) (a8 (qv 4) aC))))) (aT (bY (i:=2) nd (gA (qv 2) (bG d_rec hr (a8 (qv 0) (a8 (F0 (qv 1) (iX (a8 (qv 4) aC))) aC)) hk)))
     (aQ (bY (i:=3) nd fM))) cZ)))
   (aQ (bK (gA (qv 2) (aA9 B (a8 (qv 3) aC)))))))),aC7 hpc⟩)
 intro d
 induction d with
 | zero=>exact step 0 0 (fun _ _=>False) ⟨f,fd,⟨fun vs H Q E h=>by obtain ⟨_,_,_,h,_⟩:=h; exact h.elim,fun A outer s H args us vs Q E _ _ _ _ h=>by obtain ⟨_,_,_,h,_⟩:=h; exact h.elim⟩,F.binds hb,F.kp,m⟩ (aN0 _) (fun e z=>by cases z)
 | succ d ih=>exact step (d+1) _ _ ih (by omega) (fun e z=>by cases z; rfl)
theorem O8:FnScope ["signs","e"] [] (aN (aR 38)):=.au
theorem aH9 (B:Bt mg) (F:cV K "_law_refused" "_law_refused" (aR 38) f fd) (m:mg "_law_refused" = some (.ref f)) (d_order_many:c9 P w K mg base 8 "order_many" ["web","seeds"] jB) (cat_HearthError:u8 K mg "HearthError") (is_BadSet:m9 K mg "BadSet") (is_TooMany:m9 K mg "TooMany") (is_ValueError:uA K mg):Df P w K mg base 9 "_law_refused" [] mG:=
 Df.of F m O8 (fun _ _ _ _ _ _ us hl=>match us,hl with | [],_=>rfl) (fun xs Q h=>by unfold mG at h; repeat (first | (obtain ⟨rfl,_⟩:=h; rfl) | (obtain ⟨_,h⟩:=h))) (fun cdv A outer s H E hr=>by
  have nd:=O8.nd
  have hu3:=N6 hr
  exact⟨(N4),(aT (bY (i:=0) nd (iX aC))
   (aT (ax6 1 cat_HearthError nd (ax4 d_order_many hr (fun _=>(a8 (cT (a8 (C5 (cT (a8 aM aC)) aM) (a8 (cT aC) aC))) (a8 (cT aC) aC)))) (fun _=>(aQ (bY (i:=0) nd (iX (a8 (G7 B is_TooMany (qv 1)) (a8 (ay0 B is_ValueError (qv 1)) (a8 (G7 B is_BadSet (qv 1)) aC))))))))
   (aQ (bK (zO hu3 (qv 0) (iX (a8 fM (a8 fM (a8 fM aC))))))))),aD2⟩)
theorem O9:FnScope ["script","many","web","seeds","found"] ["script"] (aN (aR 39)):=.au
theorem aI0 (B:Bt mg) (F:cV K "law" "law" (aR 39) f fd) (d__law_web:Df P w K mg base 2 "_law_web" ["flow","many","way"] pF) (d__law_some:Df P w K mg base 2 "_law_some" ["cell","many"] pG) (d_order_many:c9 P w K mg base 8 "order_many" ["web","seeds"] jB) (d__law_cell_at:Df P w K mg base 1 "_law_cell_at" ["script","k"] j6) (d__law_whole:Df P w K mg base 1 "_law_whole" ["found"] oX) (d__law_count:Df P w K mg base 8 "_law_count" ["web","burning"] (iH 5)) (d__law_refused:Df P w K mg base 9 "_law_refused" [] mG):bV P w K mg base cI 10 f fd ["script"] (lJ K uN):=
 au8 F O9 (fun xs Q h=>by unfold uN at h; repeat (first | (obtain ⟨rfl,_⟩:=h; rfl) | (obtain ⟨_,h⟩:=h))) (fun cdv A outer s H E hr=>by
  have nd:=O9.nd
  exact⟨(N5),(aT (bY (i:=1) nd (cY (bG d__law_cell_at hr (a8 (qv 0) (a8 aM aC))) aM))
   (aT (bY (i:=2) nd (bG d__law_web hr (a8 (zR (qv 0) (zQ aM) zP) (a8 (qv 1) (a8 (cY (bG d__law_cell_at hr (a8 (qv 0) (a8 aM aC))) aM) aC)))))
   (aT (bY (i:=3) nd (bG d__law_some hr (a8 (bG d__law_cell_at hr (a8 (qv 0) (a8 aM aC))) (a8 (qv 1) aC))))
   (aT (bY (i:=4) nd (G3 d_order_many hr (a8 (qv 2) (a8 (tH B (a8 (qv 3) aC)) aC))))
   (aT (cP (tE (zE (lS (iW (bG d__law_whole hr (a8 (qv 4) aC)))) (zE (tD (qv 4) (bG d__law_count hr (a8 (qv 2) (a8 (tH B (a8 (qv 3) aC)) aC)))) (am3 (lS (iW (aA4 d__law_refused hr))))))) (aQ (bK fM)) cZ)
   (aQ (bK (am4 (al9 (cY (gB (bG d__law_cell_at hr (a8 (qv 0) (a8 aM aC))) aM) aM) aM) (lT (al8 (G3 d_order_many hr (a8 (cT (a8 (C5 (cT (a8 aM aC)) aM) (a8 (cT aC) aC))) (a8 (cT (a8 aM aC)) aC))) aM)))))))))),aD3⟩)
end
set_option autoImplicit true in
theorem aI1 {l:OpenLaw}{w:World}{K:Frag}{h:Heap}{mg:Str->Option Value} (X:K.In h) (G:h.Ns mainGlobals mg) (hfa:mg "law" = some (.ref fa))
  (h0:FK K "rises" 6 f0 d0)
  (h1:FK K "hearths_in" 7 f1 d1)
  (h2:FK K "near_lists" 8 f2 d2)
  (h3:FK K "sets_among" 12 f3 d3)
  (h4:FK K "marked" 14 f4 d4)
  (h5:FK K "count_inside" 15 f5 d5)
  (h6:FK K "ways_on" 25 f6 d6)
  (h7:FK K "set_of" 26 f7 d7)
  (h8:FK K "_law_cell_at" 28 f8 d8)
  (h9:FK K "_law_whole" 29 f9 d9)
  (h10:FK K "_law_stir" 30 f10 d10)
  (h11:FK K "_law_wants" 31 f11 d11)
  (h12:FK K "_law_by_digits" 32 f12 d12)
  (h13:FK K "_law_near" 35 f13 d13)
  (h14:FK K "is_hearth" 9 f14 d14)
  (h15:FK K "has_each_once" 13 f15 d15)
  (h16:FK K "can_kindle" 17 f16 d16)
  (h17:FK K "_law_web" 33 f17 d17)
  (h18:FK K "_law_some" 34 f18 d18)
  (h19:FK K "_law_kindles" 36 f19 d19)
  (h20:FK K "is_set" 10 f20 d20)
  (h21:FK K "first_to_kindle" 19 f21 d21)
  (h22:FK K "made_set" 11 f22 d22)
  (h23:FK K "kindled_by" 18 f23 d23)
  (h24:FK K "first_order" 22 f24 d24)
  (h25:FK K "branches_of" 24 f25 d25)
  (h26:FK K "order_many" 23 f26 d26)
  (h27:FK K "_law_count" 37 f27 d27)
  (h28:FK K "_law_refused" 38 f28 d28)
  (a29:nsIn K mainGlobals "law" = some (some (.ref f29))) (l29:K.lookup f29=some ⟨oc29,od29,.func (fnOf "law" "law" (fG (aR 39)) (cR (aR 39)) (aN (aR 39)) .none kV29 dc29 pm29 an29 cd29 ct29),sl29⟩) (c29:codeIn K cd29 "law" = true) (k29:keepIn K (.ref f29)=true)
  (z_len:nsIn K mainGlobals "len" = some none)
  (z_range:nsIn K mainGlobals "range" = some none)
  (z_tuple:nsIn K mainGlobals "tuple" = some none)
  (z_list:nsIn K mainGlobals "list" = some none)
  (z_sorted:nsIn K mainGlobals "sorted" = some none)
  (z_all:nsIn K mainGlobals "all" = some none)
  (z_any:nsIn K mainGlobals "any" = some none)
  (z_zip:nsIn K mainGlobals "zip" = some none)
  (z_min:nsIn K mainGlobals "min" = some none)
  (z_max:nsIn K mainGlobals "max" = some none)
  (z_sum:nsIn K mainGlobals "sum" = some none)
  (z_isinstance:nsIn K mainGlobals "isinstance" = some none)
  (z_int:nsIn K mainGlobals "int" = some none)
  (z_bool:nsIn K mainGlobals "bool" = some none)
  (z_enumerate:nsIn K mainGlobals "enumerate" = some none)
  (z_reversed:nsIn K mainGlobals "reversed" = some none)
  {u_MOST_ORDERED:Nat} (z_MOST_ORDEREDx:nsIn K mainGlobals "MOST_ORDERED" = some (some (.int 12 u_MOST_ORDERED)))
  {C_HearthError C_BadSet C_BadOrder C_TooMany:Addr}
  (aX_HE:nsIn K mainGlobals "HearthError" = some (some (.ref C_HearthError)))
  (aX_BS:nsIn K mainGlobals "BadSet" = some (some (.ref C_BadSet)))
  (aX_BO:nsIn K mainGlobals "BadOrder" = some (some (.ref C_BadOrder)))
  (aX_TM:nsIn K mainGlobals "TooMany" = some (some (.ref C_TooMany)))
  (zX_BW:nsIn K mainGlobals "BadWeb" = some none)
  (zX_BP:nsIn K mainGlobals "BadPrices" = some none)
  (zX_BB:nsIn K mainGlobals "BadBoard" = some none)
  (zX_BD:nsIn K mainGlobals "BadDeed" = some none)
  (zX_NW:nsIn K mainGlobals "NotWood" = some none)
  (zX_NP:nsIn K mainGlobals "NoPaper" = some none)
  (zX_NS:nsIn K mainGlobals "NoSuch" = some none)
  (zX_NT:nsIn K mainGlobals "NoText" = some none)
  (zX_OR:nsIn K mainGlobals "OddRound" = some none)
  (y_fg:specialIn K (.builtin "object.__class__") "__get__" = some (some (.builtin "getset_descriptor.__get__")))
  (y_ft:takesIn K (.builtin "object.__class__")=some true)
  (z_VE:nsIn K mainGlobals "ValueError" = some none)
  (y1_HE:isClsIn K C_HearthError=true)
  (y2_HE:typeIn K (.ref C_HearthError)=some (.type "type"))
  (y3_HE:findIn K (.ref C_HearthError) "__getattribute__" = some (some (.builtin "BaseException.__getattribute__")))
  (y4_HE:findIn K (.ref C_HearthError) "__getattr__" = some none)
  (y5_HE:findIn K (.ref C_HearthError) "__class__" = some (some (.builtin "object.__class__")))
  (y6_HE:mroIn K C_HearthError (.type "object")=some true)
  (y7_HE:mroIn K C_HearthError (.type "BaseException")=some true)
  (y1_BS:isClsIn K C_BadSet=true)
  (y2_BS:typeIn K (.ref C_BadSet)=some (.type "type"))
  (y3_BS:findIn K (.ref C_BadSet) "__getattribute__" = some (some (.builtin "BaseException.__getattribute__")))
  (y4_BS:findIn K (.ref C_BadSet) "__getattr__" = some none)
  (y5_BS:findIn K (.ref C_BadSet) "__class__" = some (some (.builtin "object.__class__")))
  (y6_BS:mroIn K C_BadSet (.type "object")=some true)
  (y7_BS:mroIn K C_BadSet (.type "BaseException")=some true)
  (y1_BO:isClsIn K C_BadOrder=true)
  (y2_BO:typeIn K (.ref C_BadOrder)=some (.type "type"))
  (y3_BO:findIn K (.ref C_BadOrder) "__getattribute__" = some (some (.builtin "BaseException.__getattribute__")))
  (y4_BO:findIn K (.ref C_BadOrder) "__getattr__" = some none)
  (y5_BO:findIn K (.ref C_BadOrder) "__class__" = some (some (.builtin "object.__class__")))
  (y6_BO:mroIn K C_BadOrder (.type "object")=some true)
  (y7_BO:mroIn K C_BadOrder (.type "BaseException")=some true)
  (y1_TM:isClsIn K C_TooMany=true)
  (y2_TM:typeIn K (.ref C_TooMany)=some (.type "type"))
  (y3_TM:findIn K (.ref C_TooMany) "__getattribute__" = some (some (.builtin "BaseException.__getattribute__")))
  (y4_TM:findIn K (.ref C_TooMany) "__getattr__" = some none)
  (y5_TM:findIn K (.ref C_TooMany) "__class__" = some (some (.builtin "object.__class__")))
  (y6_TM:mroIn K C_TooMany (.type "object")=some true)
  (y7_TM:mroIn K C_TooMany (.type "BaseException")=some true)
  (sB_HE:subIn K (.ref C_HearthError) (.type "BaseException")=some true)
  (s_BS_HE:subIn K (.ref C_BadSet) (.ref C_HearthError)=some true)
  (s_BO_HE:subIn K (.ref C_BadOrder) (.ref C_HearthError)=some true)
  (s_TM_HE:subIn K (.ref C_TooMany) (.ref C_HearthError)=some true)
  (sN_BS:subIn K (.type "NoneType") (.ref C_BadSet)=some false)
  (s_BO_BS:subIn K (.ref C_BadOrder) (.ref C_BadSet)=some false)
  (n_BO_BS:(C_BadOrder == C_BadSet)=false)
  (s_TM_BS:subIn K (.ref C_TooMany) (.ref C_BadSet)=some false)
  (n_TM_BS:(C_TooMany == C_BadSet)=false)
  (sN_TM:subIn K (.type "NoneType") (.ref C_TooMany)=some false)
  (s_BS_TM:subIn K (.ref C_BadSet) (.ref C_TooMany)=some false)
  (n_BS_TM:(C_BadSet == C_TooMany)=false)
  (s_BO_TM:subIn K (.ref C_BadOrder) (.ref C_TooMany)=some false)
  (n_BO_TM:(C_BadOrder == C_TooMany)=false)
  (sV_BS:subIn K (.ref C_BadSet) (.type "ValueError")=some true)
  (sV_BO:subIn K (.ref C_BadOrder) (.type "ValueError")=some true)
  (sV_TM:subIn K (.ref C_TooMany) (.type "ValueError")=some true)
  (q_BO:excIn K C_BadOrder [.type "ValueError",.type "Exception",.type "BaseException",.type "object"] "ValueError.__new__" = true)
  (q_BS:excIn K C_BadSet [.type "ValueError",.type "Exception",.type "BaseException",.type "object"] "ValueError.__new__" = true)
  (q_TM:excIn K C_TooMany [.type "ValueError",.type "Exception",.type "BaseException",.type "object"] "ValueError.__new__" = true)
  : ∃ fd:FuncData,(∀ (s:Shared) (v:Value),BindsTo s fd ⟨[v],[]⟩ [("script",v)])/\∀ base:Heap,K.In base->base.Ns mainGlobals mg->bV l.prog w K mg base cI 10 fa fd ["script"] (oY K):=by
 have e:=hfa.symm.trans (mg_of X G a29)
 cases e
 have F29:=ac0 (st:=aR 39) l29 c29 k29
 have m29:=mg_of X G a29
 have B:Bt mg:=⟨mg_none_of X G z_len,mg_none_of X G z_range,mg_none_of X G z_tuple,mg_none_of X G z_list,mg_none_of X G z_sorted,mg_none_of X G z_all,mg_none_of X G z_any,mg_none_of X G z_zip,mg_none_of X G z_min,mg_none_of X G z_max,mg_none_of X G z_sum,mg_none_of X G z_isinstance,mg_none_of X G z_int,mg_none_of X G z_bool,mg_none_of X G z_enumerate⟩
 have rv:=mg_none_of X G z_reversed
 have m_MOST_ORDERED:=mg_of X G z_MOST_ORDEREDx
 refine⟨fnOf "law" "law" (fG (aR 39)) (cR (aR 39)) (aN (aR 39)) .none kV29 dc29 pm29 an29 cd29 ct29,fun s v=>.of_eq rfl,fun base KB _=>?_⟩
 have XK_HearthError:iG K C_HearthError:=⟨y1_HE,y2_HE,y3_HE,y4_HE,y5_HE,y_fg,y_ft,y6_HE,y7_HE⟩
 have XK_BadSet:iG K C_BadSet:=⟨y1_BS,y2_BS,y3_BS,y4_BS,y5_BS,y_fg,y_ft,y6_BS,y7_BS⟩
 have XK_BadOrder:iG K C_BadOrder:=⟨y1_BO,y2_BO,y3_BO,y4_BO,y5_BO,y_fg,y_ft,y6_BO,y7_BO⟩
 have XK_TooMany:iG K C_TooMany:=⟨y1_TM,y2_TM,y3_TM,y4_TM,y5_TM,y_fg,y_ft,y6_TM,y7_TM⟩
 have cat_HearthError:u8 K mg "HearthError":=⟨C_HearthError,mg_of X G aX_HE,⟨y1_HE,y2_HE,sB_HE⟩,fun n C h2 h1=>by
  obtain ⟨hm,hb⟩:=p6 h2
  simp only [kC,aK0,aL4,aQ2] at hm
  rcases hm with rfl | rfl | rfl | rfl | rfl | rfl | rfl | rfl | rfl | rfl | rfl | rfl
  ·rw [zX_BW] at h1; cases h1
  ·rw [aX_BS] at h1; cases h1; exact s_BS_HE
  ·rw [aX_BO] at h1; cases h1; exact s_BO_HE
  ·rw [zX_BP] at h1; cases h1
  ·rw [zX_BB] at h1; cases h1
  ·rw [zX_BD] at h1; cases h1
  ·rw [zX_NW] at h1; cases h1
  ·rw [zX_NP] at h1; cases h1
  ·rw [zX_NS] at h1; cases h1
  ·rw [aX_TM] at h1; cases h1; exact s_TM_HE
  ·rw [zX_NT] at h1; cases h1
  ·rw [zX_OR] at h1; cases h1⟩
 have is_BadSet:m9 K mg "BadSet":=⟨C_BadSet,mg_of X G aX_BS,fun z=>(by cases z),(fun n C b h1 h2=>by
  obtain ⟨hm,hb⟩:=p6 h2
  simp only [kC,aK0,aL4,aQ2] at hm
  rcases hm with rfl | rfl | rfl | rfl | rfl | rfl | rfl | rfl | rfl | rfl | rfl | rfl
  ·rw [zX_BW] at h1; cases h1
  ·rw [aX_BS] at h1; cases h1; rw [hb,show (("BadSet" : Str) == "BadSet" || ("BadSet" : Str) == "HearthError" || ("BadSet" : Str) == "ValueError")=true by decide]; exact⟨XK_BadSet.exc,G8⟩
  ·rw [aX_BO] at h1; cases h1; rw [hb,show (("BadOrder" : Str) == "BadSet" || ("BadSet" : Str) == "HearthError" || ("BadSet" : Str) == "ValueError")=false by decide]; exact⟨XK_BadOrder.exc,p7 XK_BadSet n_BO_BS s_BO_BS⟩
  ·rw [zX_BP] at h1; cases h1
  ·rw [zX_BB] at h1; cases h1
  ·rw [zX_BD] at h1; cases h1
  ·rw [zX_NW] at h1; cases h1
  ·rw [zX_NP] at h1; cases h1
  ·rw [zX_NS] at h1; cases h1
  ·rw [aX_TM] at h1; cases h1; rw [hb,show (("TooMany" : Str) == "BadSet" || ("BadSet" : Str) == "HearthError" || ("BadSet" : Str) == "ValueError")=false by decide]; exact⟨XK_TooMany.exc,p7 XK_BadSet n_TM_BS s_TM_BS⟩
  ·rw [zX_NT] at h1; cases h1
  ·rw [zX_OR] at h1; cases h1),G9 XK_BadSet sN_BS⟩
 have is_TooMany:m9 K mg "TooMany":=⟨C_TooMany,mg_of X G aX_TM,fun z=>(by cases z),(fun n C b h1 h2=>by
  obtain ⟨hm,hb⟩:=p6 h2
  simp only [kC,aK0,aL4,aQ2] at hm
  rcases hm with rfl | rfl | rfl | rfl | rfl | rfl | rfl | rfl | rfl | rfl | rfl | rfl
  ·rw [zX_BW] at h1; cases h1
  ·rw [aX_BS] at h1; cases h1; rw [hb,show (("BadSet" : Str) == "TooMany" || ("TooMany" : Str) == "HearthError" || ("TooMany" : Str) == "ValueError")=false by decide]; exact⟨XK_BadSet.exc,p7 XK_TooMany n_BS_TM s_BS_TM⟩
  ·rw [aX_BO] at h1; cases h1; rw [hb,show (("BadOrder" : Str) == "TooMany" || ("TooMany" : Str) == "HearthError" || ("TooMany" : Str) == "ValueError")=false by decide]; exact⟨XK_BadOrder.exc,p7 XK_TooMany n_BO_TM s_BO_TM⟩
  ·rw [zX_BP] at h1; cases h1
  ·rw [zX_BB] at h1; cases h1
  ·rw [zX_BD] at h1; cases h1
  ·rw [zX_NW] at h1; cases h1
  ·rw [zX_NP] at h1; cases h1
  ·rw [zX_NS] at h1; cases h1
  ·rw [aX_TM] at h1; cases h1; rw [hb,show (("TooMany" : Str) == "TooMany" || ("TooMany" : Str) == "HearthError" || ("TooMany" : Str) == "ValueError")=true by decide]; exact⟨XK_TooMany.exc,G8⟩
  ·rw [zX_NT] at h1; cases h1
  ·rw [zX_OR] at h1; cases h1),G9 XK_TooMany sN_TM⟩
 have is_ValueError:uA K mg:=⟨mg_none_of X G z_VE,fun z=>(by cases z),(fun n C b h1 h2=>by
  obtain ⟨hm,hb⟩:=p6 h2
  simp only [kC,aK0,aL4,aQ2] at hm
  rcases hm with rfl | rfl | rfl | rfl | rfl | rfl | rfl | rfl | rfl | rfl | rfl | rfl
  ·rw [zX_BW] at h1; cases h1
  ·rw [aX_BS] at h1; cases h1; rw [hb,show (("BadSet" : Str) == "ValueError" || ("ValueError" : Str) == "HearthError" || ("ValueError" : Str) == "ValueError")=true by decide]; exact⟨XK_BadSet.exc,uC sV_BS⟩
  ·rw [aX_BO] at h1; cases h1; rw [hb,show (("BadOrder" : Str) == "ValueError" || ("ValueError" : Str) == "HearthError" || ("ValueError" : Str) == "ValueError")=true by decide]; exact⟨XK_BadOrder.exc,uC sV_BO⟩
  ·rw [zX_BP] at h1; cases h1
  ·rw [zX_BB] at h1; cases h1
  ·rw [zX_BD] at h1; cases h1
  ·rw [zX_NW] at h1; cases h1
  ·rw [zX_NP] at h1; cases h1
  ·rw [zX_NS] at h1; cases h1
  ·rw [aX_TM] at h1; cases h1; rw [hb,show (("TooMany" : Str) == "ValueError" || ("ValueError" : Str) == "HearthError" || ("ValueError" : Str) == "ValueError")=true by decide]; exact⟨XK_TooMany.exc,uC sV_TM⟩
  ·rw [zX_NT] at h1; cases h1
  ·rw [zX_OR] at h1; cases h1),ay1⟩
 have x_BadOrder:Xc K mg base "BadOrder":=⟨C_BadOrder,_,_,_,_,uB KB (mg_of X G aX_BO) q_BO,PySem.F.excBase_ValueError,aX_BO⟩
 have x_BadSet:Xc K mg base "BadSet":=⟨C_BadSet,_,_,_,_,uB KB (mg_of X G aX_BS) q_BS,PySem.F.excBase_ValueError,aX_BS⟩
 have x_TooMany:Xc K mg base "TooMany":=⟨C_TooMany,_,_,_,_,uB KB (mg_of X G aX_TM) q_TM,PySem.F.excBase_ValueError,aX_TM⟩
 have D0:=at8 (aD4 (P:=l.prog) (w:=w) (base:=base) B h0.F) (h0.F.binds (ps:=["things"]) fun _ _ _ _ _ _ us hl=>by obtain ⟨_,rfl⟩:=mC hl; rfl) h0.F.kp (mg_of X G h0.a)
 have D1:=aD7 (P:=l.prog) (w:=w) (base:=base) B (h1.M X G)
 have D2:=au0 (aD5 (P:=l.prog) (w:=w) (mg:=mg) (base:=base) h2.F) (h2.F.binds (ps:=["web"]) fun _ _ _ _ _ _ us hl=>by obtain ⟨_,rfl⟩:=mC hl; rfl) h2.F.kp (mg_of X G h2.a)
 have D3:=aD8 (P:=l.prog) (w:=w) (base:=base) B (h3.M X G)
 have D4:=aD9 (P:=l.prog) (w:=w) (base:=base) B (h4.M X G)
 have D5:=aE1 (P:=l.prog) (w:=w) (base:=base) B (h5.M X G)
 have D6:=aE3 (P:=l.prog) (w:=w) (base:=base) B (h6.M X G)
 have D7:=aE5 (P:=l.prog) (w:=w) (base:=base) B (h7.M X G)
 have D8:=aE7 (P:=l.prog) (w:=w) (base:=base) B (h8.M X G)
 have D9:=aE9 (P:=l.prog) (w:=w) (base:=base) B (h9.M X G)
 have D10:=aF0 (P:=l.prog) (w:=w) (base:=base) B (h10.M X G)
 have D11:=aF2 (P:=l.prog) (w:=w) (base:=base) B (h11.M X G)
 have D12:=aF3 (P:=l.prog) (w:=w) (base:=base) B (h12.M X G)
 have D13:=aF5 (P:=l.prog) (w:=w) (base:=base) B (h13.M X G)
 have D14:=aF7 (P:=l.prog) (w:=w) (base:=base) B (h14.M X G) D1
 have D15:=aF9 (P:=l.prog) (w:=w) (base:=base) B (h15.M X G) D1
 have D16:=aG1 (P:=l.prog) (w:=w) (base:=base) B (h16.M X G) D5
 have D17:=aG2 (P:=l.prog) (w:=w) (base:=base) B (h17.M X G) D12 D10 D11
 have D18:=aG4 (P:=l.prog) (w:=w) (base:=base) B (h18.M X G) D10
 have D19:=aG6 (P:=l.prog) (w:=w) (base:=base) B (h19.M X G) D13
 have D20:=aG8 (P:=l.prog) (w:=w) (base:=base) B (h20.M X G) D0 D14
 have D21:=aG9 (P:=l.prog) (w:=w) (base:=base) B (h21.M X G) D16
 have D22:=aH1 (P:=l.prog) (w:=w) (base:=base) B (h22.M X G) D20 x_BadSet
 have D23:=aH2 (P:=l.prog) (w:=w) (base:=base) B (h23.M X G) D4 D2 D21 D22 D15 x_BadOrder
 have D24:=aH4 (P:=l.prog) (w:=w) (base:=base) B (h24.M X G) D23 D1
 have D25:=aH5 (P:=l.prog) (w:=w) (base:=base) B (h25.M X G) D2 D24 D3 D4 D16 D6 D7 rv x_TooMany m_MOST_ORDERED
 have D26:=aH7 (P:=l.prog) (w:=w) (base:=base) B (h26.M X G) D6 D25
 have D27:=aH8 (P:=l.prog) (w:=w) (base:=base) B h27.F (mg_of X G h27.a) D19 5
 have D28:=aH9 (P:=l.prog) (w:=w) (base:=base) B h28.F (mg_of X G h28.a) D26 cat_HearthError is_BadSet is_TooMany is_ValueError
 exact au9 (aI0 B F29 D17 D18 D26 D8 D9 D27 D28)
theorem aI2 {l:OpenLaw}{q:Program}{loose:List Str}{XP:(Str->Option Value)->Heap->Prop}{YP:World->Heap->Prop}{d:DefRec}{K:Params->Frag} (hn:l.most=some 63) (hdf:d.params.defaults = [])
  (hY:∀ (w:World) (h:Heap),YP w h->(K w.params).In h)
  (F:∀ (w:World) (mg:Str->Option Value) (fa:Addr) (h:Heap),(K w.params).In h->h.Ns mainGlobals mg->mg d.name=some (.ref fa)->
   ∃ fd:FuncData,(∀ (s:Shared) (u:Value),BindsTo s fd ⟨[u],[]⟩ [("script",u)])/\∀ base:Heap,(K w.params).In base->base.Ns mainGlobals mg->bV l.prog w (K w.params) mg base cI 10 fa fd ["script"] (oY (K w.params))) :
  WalkO q loose XP YP l.row.toRowW d [] (fun f vs=>PySem.call f vs):=
 L2.ab9 (n:=63) (k:=10) (x:="script") (CX:=fun _=>cI) (sp:=fun w=>oY (K w.params)) hn (by decide) hdf ⟨rfl,by decide,by decide⟩ hY F (fun _ _ a ns hl hO hS=>⟨a,ns,rfl,av0 hO hS,hl,fun _=>rfl⟩) fun _ _ _ _ _ z=>z
end K_k42
open PySem PySem.W PyProof.Rows
set_option maxRecDepth 100000 in
set_option maxHeartbeats 0 in
theorem PySem.Challenge.cw_kindleweb_k42_whole_orders_counted_holds : PySem.Challenge.rw_kindleweb_k42_whole_orders_counted.Holds := by
 w_on; o_law; k_head; (case hw => w_witness2)
 k_fill
 refine K_k42.aI2 (l := PySem.Challenge.rw_kindleweb_k42_whole_orders_counted) rfl rfl (fun w h Y => PySem.W.kIn_of Y) ?F
 case F =>
  intro w mg fa h KX G hmg
  refine' K_k42.aI1 KX G hmg ?h0 ?h1 ?h2 ?h3 ?h4 ?h5 ?h6 ?h7 ?h8 ?h9 ?h10 ?h11 ?h12 ?h13 ?h14 ?h15 ?h16 ?h17 ?h18 ?h19 ?h20 ?h21 ?h22 ?h23 ?h24 ?h25 ?h26 ?h27 ?h28 ?a29 ?l29 ?c29 ?k29 ?z_len ?z_range ?z_tuple ?z_list ?z_sorted ?z_all ?z_any ?z_zip ?z_min ?z_max ?z_sum ?z_isinstance ?z_int ?z_bool ?z_enumerate ?z_reversed ?z_MOST_ORDEREDx ?aX_HE ?aX_BS ?aX_BO ?aX_TM ?zX_BW ?zX_BP ?zX_BB ?zX_BD ?zX_NW ?zX_NP ?zX_NS ?zX_NT ?zX_OR ?y_fg ?y_ft ?z_VE ?y1_HE ?y2_HE ?y3_HE ?y4_HE ?y5_HE ?y6_HE ?y7_HE ?y1_BS ?y2_BS ?y3_BS ?y4_BS ?y5_BS ?y6_BS ?y7_BS ?y1_BO ?y2_BO ?y3_BO ?y4_BO ?y5_BO ?y6_BO ?y7_BO ?y1_TM ?y2_TM ?y3_TM ?y4_TM ?y5_TM ?y6_TM ?y7_TM ?sB_HE ?s_BS_HE ?s_BO_HE ?s_TM_HE ?sN_BS ?s_BO_BS ?n_BO_BS ?s_TM_BS ?n_TM_BS ?sN_TM ?s_BS_TM ?n_BS_TM ?s_BO_TM ?n_BO_TM ?sV_BS ?sV_BO ?sV_TM ?q_BO ?q_BS ?q_TM
  (case h0 | h1 | h2 | h3 | h4 | h5 | h6 | h7 | h8 | h9 | h10 | h11 | h12 | h13 | h14 | h15 | h16 | h17 | h18 | h19 | h20 | h21 | h22 | h23 | h24 | h25 | h26 | h27 | h28 => exact ⟨by k_is, ⟨⟨_, _, _, _, _, _, _, _, _, rfl, by k_is, by k_is⟩, by k_is⟩⟩)
  (case a29|l29|c29|k29|z_len|z_range|z_tuple|z_list|z_sorted|z_all|z_any|z_zip|z_min|z_max|z_sum|z_isinstance|z_int|z_bool|z_enumerate|z_reversed|z_MOST_ORDEREDx|aX_HE|aX_BS|aX_BO|aX_TM|zX_BW|zX_BP|zX_BB|zX_BD|zX_NW|zX_NP|zX_NS|zX_NT|zX_OR|y_fg|y_ft|z_VE|y1_HE|y2_HE|y3_HE|y4_HE|y5_HE|y6_HE|y7_HE|y1_BS|y2_BS|y3_BS|y4_BS|y5_BS|y6_BS|y7_BS|y1_BO|y2_BO|y3_BO|y4_BO|y5_BO|y6_BO|y7_BO|y1_TM|y2_TM|y3_TM|y4_TM|y5_TM|y6_TM|y7_TM|sB_HE|s_BS_HE|s_BO_HE|s_TM_HE|sN_BS|s_BO_BS => k_is)
  (case n_BO_BS => decide)
  (case s_TM_BS => k_is)
  (case n_TM_BS => decide)
  (case sN_TM|s_BS_TM => k_is)
  (case n_BS_TM => decide)
  (case s_BO_TM => k_is)
  (case n_BO_TM => decide)
  (case sV_BS|sV_BO|sV_TM => k_is)
  (case q_BO|q_BS|q_TM => k_exc)


