import PyProof.Rows.All
import Wide.All
import OpenK.AllK
import Wide.FinOn
import Lean
import PyProof.EqAt
import PyProof.EqKinds
import PyProof.TupleCall
import PyProof.NeKinds
import PyProof.Draws
import PyProof.ZipIter
import PyProof.DictUpdate
import PyProof.AutoSeq1
import PyProof.ListRange
import PyProof.ListMulRoad
import PyProof.FactsAll.tuple_2
import PyProof.Rows.SortShell
import PyProof.EnumFor
import PyProof.EnumMake
import PyProof.EnumStmt
import PyProof.Rows.SortWalk
import KE.KDictList
import PyProof.SumAny
import PyProof.ConsumeWalk
import PyProof.WalksMore
import PyProof.Rows.TupAssign
import PyProof.ExcArgsOwn
import PySem.Challenge.RW_kindleweb_k69_weights_refused
set_option Elab.async false
set_option linter.all false
set_option maxRecDepth 100000
set_option maxHeartbeats 4000000
section
open PySem PySem.Spec PyProof.Rows
def aQ0:=@wpAny_bind
def aQ1:=@Heap.get?_push_of_some
def aQ2:=@List.mem_cons
def aQ3:=@List.length_map
def aQ4:=@List.not_mem_nil
def aQ5:=@wpAny_pure
def aQ6:=@Nat.le_refl
def aQ7:=@List.getElem?_eq_some_iff
def aQ8:=@List.length_append
def aQ9:=@Nat.lt_of_lt_of_le
def aR0:=@Heap.lt_size
def aR1:=@List.mem_cons_of_mem
def aR2:=@List.mem_cons_self
def aR3:=@List.size_toArray
def aR4:=@decide_eq_false
def aR5:=@Heap.get?_push_size
def aR6:=@List.getElem?_map
def aR7:=@List.getElem?_eq_getElem
def aR8:=@List.mem_singleton
def aR9:=@decide_eq_true
def aS0:=@Nat.le_add_right
def aS2:=@List.getD_eq_getElem?_getD
def aS3:=@Bool.false_ne_true
def aS4:=@Bool.false_eq_true
def aS5:=@List.getElem?_set_ne
def aS6:=@or_false
def aS7:=@Option.some.inj
def aS8:=@Nat.ne_of_lt
def aS9:=@List.map_append
def aT0:=@List.length_take
def aT1:=@List.mem_of_getElem?
def aT3:=@List.length_singleton
def aT4:=@Int.emod_nonneg
def aT6:=@List.take_length
def aT7:=@Nat.zero_le
def aT9:=@List.length_drop
def aU0:=@Nat.le_trans
def aU1:=@List.length_cons
def aU2:=@Nat.lt_irrefl
def aU3:=@List.mem_append_right
def aU5:=@PySem.mem_of_lookup
def aU7:=@PyProof.Rows.callWith_type1
def aU8:=@List.map_cons
def aV1:=@wpAny_field
def aV2:=@wpAny_callSpecial?_slot
def aV3:=@List.pairwise_singleton
def aV4:=@Array.length_toList
def aV6:=@List.mem_append
def aV7:=@List.append_nil
def aV8:=@List.lookup_cons
def aV9:=@List.take_add_one
def aW0:=@wpAny_mono
def aW1:=@wpAny_setField_rec
def aW2:=@Int.emod_lt_of_pos
def aW4:=@List.length_set
def aW5:=@Bool.and_eq_true
def aW6:=@PySem.F.plainAttrs_list
def aX0:=@if_false
def aX1:=@List.getElem?_set_self
def aX2:=@List.mem_map
def aX3:=@wpAny_call_entry
def aX4:=@Nat.le_of_lt
def aX5:=@wpAny_newObj_type
def aX6:=@List.getElem?_cons_succ
def aX7:=@Heap.size_push
def aX9:=@Nat.ne_of_gt
def aY1:=@List.pairwise_iff_getElem
def aY3:=@PySem.F.slot_list_append
def aY4:=@PySem.F.type_list_append
def aY6:=@Bool.eq_iff_iff
def aY7:=@List.find?_cons
def aY9:=@wpAny_pyIter_tuple
def aZ1:=@Nat.le_of_not_lt
def aZ2:=@Array.getD_eq_getD_getElem?
def aZ3:=@wpAny_truthy_bool
def aZ4:=@Bool.eq_false_iff
def aZ5:=@List.length_range
def aZ6:=@PyProof.Rows.slot_tuple_getitem
def aZ7:=@List.any_cons
def ba1:=@List.map_map
def ba4:=@decide_eq_true_eq
def ba5:=@List.nodup_append
def ba7:=@Heap.SameBut.update
def bb0:=@of_decide_eq_false
def bb1:=@wpAny_seqItems
def bb2:=@PySem.F.excBase_ValueError
def bb3:=@wpAny_execs_nil
def bb4:=@wpAny_passesOwn
def bb7:=@List.pairwise_map
def bb9:=@wpAny_holding
def bc1:=@List.mem_range
end
namespace L2
open PySem PySem.Spec PyProof.Rows
abbrev aC:=Sum Int Str
def kU:aC->Value->Bool
 | .inl k,v=>Value.isInt k v
 | .inr x,v=>Value.isStrOf x v
def U2 (w:World):aC->Int
 | .inl k=>hashInt k
 | .inr x=>hashStr w x
theorem i3:∀ {k:aC}{v:Value},kU k v=true->(∃ i t,k=Sum.inl i/\v=Value.int i t) ∨ (∃ x t,k=Sum.inr x/\v=Value.str x t)
 | .inl i,v,h=>by
  obtain ⟨t,e⟩:=Value.isInt_shape (k:=i) (v:=v) h
  exact .inl ⟨i,t,rfl,e⟩
 | .inr x,v,h=>by
  obtain ⟨t,e⟩:=Value.isStrOf_shape (x:=x) (v:=v) h
  exact .inr ⟨x,t,rfl,e⟩
theorem U3 (i:Int) (t:Tok):kU (.inl i) (.int i t)=true:=by simp [kU,Value.isInt]
theorem U4 (x:Str) (t:Tok):kU (.inr x) (.str x t)=true:=by simp [kU,Value.isStrOf]
theorem U5 (a b:Int):decide ((Sum.inl a:aC)=Sum.inl b)=(a == b):=by
 by_cases e:a=b
 ·subst e; simp
 ·have h : ¬ (Sum.inl a:aC)=Sum.inl b:=fun q=>e (Sum.inl.inj q)
  rw [aR4 h]
  exact (beq_eq_false_iff_ne.mpr e).symm
theorem U6 (a b:Str):decide ((Sum.inr a:aC)=Sum.inr b)=decide (a=b):=by
 by_cases e:a=b
 ·subst e; simp
 ·have h : ¬ (Sum.inr a:aC)=Sum.inr b:=fun q=>e (Sum.inr.inj q)
  rw [aR4 h,aR4 e]
theorem U7 (a:Int) (b:Str):decide ((Sum.inl a:aC)=Sum.inr b)=false:=aR4 (fun q=>nomatch q)
theorem U8 (a:Str) (b:Int):decide ((Sum.inr a:aC)=Sum.inl b)=false:=aR4 (fun q=>nomatch q)
def dG (prog:Program) (w:World):PySem.KeyKind prog w aC where
 is:=kU
 hash:=U2 w
 inj:=fun v a b ha hb=>by
  rcases i3 ha with ⟨i,t,rfl,rfl⟩ | ⟨x,t,rfl,rfl⟩
  ·rcases i3 hb with ⟨j,u,rfl,e⟩ | ⟨y,u,rfl,e⟩
   ·injection e with e1 _; rw [e1]
   ·exact nomatch e
  ·rcases i3 hb with ⟨j,u,rfl,e⟩ | ⟨y,u,rfl,e⟩
   ·exact nomatch e
   ·injection e with e1 _; rw [e1]
 byValue:=fun k v h=>by
  rcases i3 h with ⟨i,t,rfl,rfl⟩ | ⟨x,t,rfl,rfl⟩ <;> rfl
 pyHash:=fun hv h=>by
  rcases i3 hv with ⟨i,t,rfl,rfl⟩ | ⟨x,t,rfl,rfl⟩
  ·exact wpAny_pyHash_int h
  ·exact wpAny_pyHash_str h
 eqBool:=fun hu hv h=>by
  rcases i3 hu with ⟨i,t,rfl,rfl⟩ | ⟨x,t,rfl,rfl⟩
  ·rcases i3 hv with ⟨j,u,rfl,rfl⟩ | ⟨y,u,rfl,rfl⟩
   ·rw [U5] at h; exact wpAny_eqBool_int h
   ·rw [U7] at h; exact SeqAt.EqAt.int_str i t y u _ _ _ _ h
  ·rcases i3 hv with ⟨j,u,rfl,rfl⟩ | ⟨y,u,rfl,rfl⟩
   ·rw [U8] at h; exact SeqAt.EqAt.str_int x t j u _ _ _ _ h
   ·rw [U6] at h; exact wpAny_eqBool_str h
 «strs»:=fun k x t v h=>by
  rcases i3 h with ⟨i,u,rfl,e⟩ | ⟨y,u,rfl,e⟩
  ·exact nomatch e
  ·injection e with e1 _
   subst e1
   cases v <;> rfl
theorem U9 (prog:Program) (w:World) (i:Int) (t:Tok):(dG prog w).is (.inl i) (.int i t)=true:=U3 i t
theorem V0 (prog:Program) (w:World) (x:Str) (t:Tok):(dG prog w).is (.inr x) (.str x t)=true:=U4 x t
inductive V where
 | non | bl (b:Bool) | int (i:Int) | str (x:Str) | byt (b:Array UInt8) | flt (b:UInt64) | ref (a:Addr) | ty (n:String)
 deriving DecidableEq
def aT:V->Value->Prop
 | .non,u=>u=Value.none
 | .bl b,u=>u=Value.bool b
 | .int i,u=>∃ t,u=Value.int i t
 | .str x,u=>∃ t,u=Value.str x t
 | .byt b,u=>∃ t,u=Value.bytes b t
 | .flt b,u=>∃ t,u=Value.float b t
 | .ref a,u=>u=Value.ref a
 | .ty n,u=>u=Value.type n
abbrev aR:List V->List Value->Prop:=Paired aT
theorem aR.length {xs:List V}{us:List Value} (r:aR xs us):xs.length=us.length:=Paired.length r
theorem aR.get:∀ {xs:List V}{us:List Value}{i:Nat}{x:V},aR xs us->xs[i]? = some x->∃ u,us[i]? = some u/\aT x u
 | _,_,_,_,.nil,e=>by simp at e
 | _,_,0,_,.cons r _,e=>by simp at e; subst e; exact⟨_,rfl,r⟩
 | _,_,i+1,x,.cons _ t,e=>by
  obtain ⟨u,h1,h2⟩:=aR.get (i:=i) (x:=x) t (by simpa using e)
  exact⟨u,by simpa using h1,h2⟩
theorem aR.append:∀ {xs ys:List V}{us ws:List Value},aR xs us->aR ys ws->aR (xs ++ ys) (us ++ ws)
 | _,_,_,_,.nil,s=>s
 | _,_,_,_,.cons r t,s=>.cons r (aR.append t s)
theorem aR.take:∀ {xs:List V}{us:List Value} (n:Nat),aR xs us->aR (xs.take n) (us.take n)
 | _,_,0,_=>.nil
 | _,_,_+1,.nil=>.nil
 | _,_,n+1,.cons r t=>.cons r (aR.take n t)
theorem aR.drop:∀ {xs:List V}{us:List Value} (n:Nat),aR xs us->aR (xs.drop n) (us.drop n)
 | _,_,0,r=>r
 | _,_,_+1,.nil=>.nil
 | _,_,n+1,.cons _ t=>aR.drop n t
def fI:Option V->Option Value->Prop
 | some v,some u=>aT v u
 | none,none=>True
 | _,_=>False
def KV {κ:Type}:List (κ × V)->List (κ × Value)->Prop:=Paired fun (p:κ × V) (q:κ × Value)=>p.1=q.1/\aT p.2 q.2
def kV:aC->V
 | .inl i=>.int i
 | .inr x=>.str x
inductive HO where
 | lst (xs:List V)
 | tup (xs:List V)
 | dK (kvs:List (aC × V)) | dT (kvs:List (List aC × V))
 | set (S:Int->Bool) (n:Nat)
 | ins (C dx:Addr) (fs:List (Str × V))
 | own (x:Addr)
 | xd (fs:List (Str × V))
 | met (f x:Addr)
 | rng (lo hi:Int)
 | frz (o:Obj) (u:HO)
 | tbl (ps:Array Value)
 | ext (φ:Heap->Prop)
abbrev Hp:=Addr->Option HO
def upd (H:Hp) (a:Addr) (o:HO):Hp:=fun b=>if b=a then some o else H b
theorem aZ {H:Hp}{a:Addr}{o:HO}:upd H a o a=some o:=by unfold upd; rw [if_pos rfl]
theorem aJ {H:Hp}{a b:Addr}{o:HO} (h:b ≠ a):upd H a o b=H b:=by unfold upd; rw [if_neg h]
theorem V1 {H:Hp}{a b:Addr}{o u:HO} (h:H a=some o) (h':H b=some u) (d:o ≠ u):a ≠ b:=by
 intro e; subst e; rw [h] at h'; exact d (aS7 h')
theorem bS {H:Hp}{a b:Addr}{o:HO} (h:H a=some o) (h':H b=none):a ≠ b:=by
 intro e; subst e; rw [h] at h'; cases h'
def gQ (h:Heap) (a:Addr):Prop:=∀ o,h.get? a=some o->o.dict=none
theorem gQ.new (h:Heap) (o:Obj) (d:o.dict=none) (s:o.isFreed=false:=by rfl):gQ (h.push o) h.objs.size:=fun u e=>by
 rw [aR5 h (o:=o) s] at e
 cases e; exact d
theorem gQ.stay {h h':Heap}{a:Addr}{o:Obj} (n:gQ h a) (e:h.get? a=some o) (e':h'.get? a=some o):gQ h' a:=fun u hu=>by
 rw [e'] at hu; cases hu; exact n _ e
section
variable (P : Program) (w : World)
def bY (H:Hp) (h:Heap) (a:Addr):HO->Prop
 | .lst xs=>xs.length<=sizeLine/\∃ (its:List Value) (n:Nat),aR xs its/\h.get? a=some { cls:=.type "list",data:=.seq its.toArray n }
 | .tup xs=>xs.length<=sizeLine/\∃ its:List Value,aR xs its/\IsTup h a its.toArray/\gQ h a
 | .dK kvs=>kvs.length<=sizeLine/\(a == sysModules)=false/\∃ vs,KV kvs vs/\h.DictOf (dG P w) a vs
 | .dT kvs=>kvs.length<=sizeLine/\(a == sysModules)=false/\∃ xs:List (List aC × Addr × Value),
   Paired (fun (p:List aC × V) (q:List aC × Addr × Value)=>p.1=q.1/\H q.2.1=some (.tup (p.1.map kV))/\aT p.2 q.2.2) kvs xs/\
   ∃ o es ep,h.get? a=some o/\o.ExactDict/\o.data = .dict es ep/\es.toList=xs.map (entryOfKey (tupleKind (dG P w)))/\(xs.map (·.1)).Nodup
 | .set S n=>h.SetOf (intKind P w) a S n
 | .ins C dx fs=>H dx=some (.own a)/\fs.length<=1000/\dx ≠ a/\h.get? a=some (PySem.W.instObj C dx)/\
   ∃ mA,h.Ns1 dx mA/\(∀ f,fI (fs.lookup f) (mA f))/\PySem.Within mA (fs.map (·.1))
 | .own _=>∃ o,h.get? a=some o
 | .xd fs=>∃ mA,h.Ns1 a mA/\∀ f,fI (fs.lookup f) (mA f)
 | .rng lo hi=>∃ t u v,h.get? a=some { cls:=.type "range",data:=.fields #[.int lo t,.int hi u,.int 1 v] }
 | .frz o u=>h.get? a=some o/\bY H h a u
 | .tbl ps=>h.get? a=some { cls:=.none,data:=.fields ps }
 | .met f x=>h.get? a=some (PySem.W.methodObj (.ref f) (.ref x))
 | .ext φ=>φ h/\(∃ o,h.get? a=some o)/\∀ h1 h2:Heap,φ h1->(∀ o,h1.get? a=some o->h2.get? a=some o)->φ h2
def bM (H:Hp) (h:Heap):Prop:=∀ a o,H a=some o->bY P w H h a o
end
section
variable {P : Program} {w : World} {H H' : Hp} {h h' : Heap} {a : Addr} {o : HO}
theorem bY.lt (x:bY P w H h a o):a < h.objs.size:=by
 cases o with
 | lst xs=>obtain ⟨_,_,_,_,e⟩:=x; exact aR0 e
 | tup xs=>obtain ⟨_,_,_,p,_⟩:=x; exact p.lt
 | dK kvs=>obtain ⟨_,_,_,_,o,_,_,e,_⟩:=x; exact aR0 e
 | dT kvs=>obtain ⟨_,_,_,_,o,_,_,e,_⟩:=x; exact aR0 e
 | set S n=>obtain ⟨o,_,_,_,e,_⟩:=x; exact aR0 e
 | ins C dx fs=>obtain ⟨_,_,_,e,_⟩:=x; exact aR0 e
 | own y=>obtain ⟨_,e⟩:=x; exact aR0 e
 | xd fs=>obtain ⟨_,⟨_,_,_,e,_⟩,_⟩:=x; exact aR0 e
 | rng lo hi=>obtain ⟨_,_,_,e⟩:=x; exact aR0 e
 | frz ob u=>obtain ⟨e,_⟩:=x; exact aR0 e
 | tbl ps=>exact aR0 (show h.get? a=some _ from x)
 | met f y=>exact aR0 (show h.get? a=some _ from x)
 | ext φ=>obtain ⟨_,⟨_,e⟩,_⟩:=x; exact aR0 e
theorem Paired.mapP {α β:Type}{F G:α->β->Prop}:∀ {l₁:List α}{l₂:List β},Paired F l₁ l₂->(∀ a b,F a b->G a b)->Paired G l₁ l₂
 | _,_,.nil,_=>.nil
 | _,_,.cons r t,f=>.cons (f _ _ r) (Paired.mapP t f)
theorem bY.stay (x:bY P w H h a o) (k:∀ b u,(b=a ∨ H b=some (.own a))->h.get? b=some u->h'.get? b=some u)
  (ho:∀ b,H b=some (.own a)->H' b=some (.own a)) (ht:∀ b xs,H b=some (.tup xs)->H' b=some (.tup xs)):bY P w H' h' a o:=by
 induction o with
 | lst xs=>obtain ⟨z,its,n,r,e⟩:=x; exact⟨z,its,n,r,k _ _ (.inl rfl) e⟩
 | tup xs=>obtain ⟨z,its,r,⟨ob,e,c⟩,nd⟩:=x; exact⟨z,its,r,⟨ob,k _ _ (.inl rfl) e,c⟩,nd.stay e (k _ _ (.inl rfl) e)⟩
 | dK kvs=>obtain ⟨z,y,vs,r,ob,es,ep,e,c⟩:=x; exact⟨z,y,vs,r,ob,es,ep,k _ _ (.inl rfl) e,c⟩
 | dT kvs=>
  obtain ⟨z,y,xs,r,ob,es,ep,e,c⟩:=x
  exact⟨z,y,xs,Paired.mapP r fun p q z=>⟨z.1,ht _ _ z.2.1,z.2.2⟩,ob,es,ep,k _ _ (.inl rfl) e,c⟩
 | set S n=>obtain ⟨ob,es,ep,t,e,c⟩:=x; exact⟨ob,es,ep,t,k _ _ (.inl rfl) e,c⟩
 | ins C dx fs=>
  obtain ⟨d,z,ne,e,mA,⟨od,es,ep,e2,c⟩,r⟩:=x
  exact⟨ho _ d,z,ne,k _ _ (.inl rfl) e,mA,⟨od,es,ep,k _ _ (.inr d) e2,c⟩,r⟩
 | own y=>obtain ⟨ob,e⟩:=x; exact⟨ob,k _ _ (.inl rfl) e⟩
 | xd fs=>obtain ⟨mA,⟨od,es,ep,e,c⟩,r⟩:=x; exact⟨mA,⟨od,es,ep,k _ _ (.inl rfl) e,c⟩,r⟩
 | rng lo hi=>obtain ⟨t,u,v,e⟩:=x; exact⟨t,u,v,k _ _ (.inl rfl) e⟩
 | frz ob u ih=>obtain ⟨e,q⟩:=x; exact⟨k _ _ (.inl rfl) e,ih q⟩
 | tbl ps=>
  have e:h.get? a=some { cls:=.none,data:=.fields ps }:=x
  show h'.get? a=some { cls:=.none,data:=.fields ps }
  exact k a _ (.inl rfl) e
 | met f y=>
  have e:h.get? a=some (PySem.W.methodObj (.ref f) (.ref y)):=x
  show h'.get? a=some (PySem.W.methodObj (.ref f) (.ref y))
  exact k a _ (.inl rfl) e
 | ext φ=>obtain ⟨p,⟨o,e⟩,st⟩:=x; exact⟨st _ _ p fun o q=>k _ _ (.inl rfl) q,⟨o,k _ _ (.inl rfl) e⟩,st⟩
theorem bM.lt (x:bM P w H h) (e:H a=some o):a < h.objs.size:=(x a o e).lt
theorem bM.fresh (x:bM P w H h) (e:h.objs.size<=a):H a=none:=by
 cases q:H a with
 | none=>rfl
 | some u=>exact absurd (aQ9 (x.lt q) e) (aU2 _)
theorem bM.kept (x:bM P w H h) (k:∀ b u,h.get? b=some u->h'.get? b=some u):bM P w H h':=fun a o e=>
 (x a o e).stay (fun b u _ q=>k b u q) (fun _ q=>q) fun _ _ q=>q
theorem bM.laid (x:bM P w H h) (k:∀ b u,h.get? b=some u->h'.get? b=some u) (hp:h.objs.size<=a) (new:bY P w (upd H a o) h' a o):bM P w (upd H a o) h':=fun b u e=>by
 have hn:=x.fresh hp
 by_cases hb:b=a
 ·subst hb; rw [aZ] at e; cases e; exact new
 ·rw [aJ hb] at e
  exact (x b u e).stay (fun c v _ q=>k c v q) (fun c q=>by rw [aJ (bS q hn)]; exact q) fun c xs q=>by rw [aJ (bS q hn)]; exact q
end
def Rd (H:Hp) (a:Addr) (u:HO):Prop:=H a=some u ∨ ∃ o,H a=some (.frz o u)
theorem Rd.ok {P:Program}{w:World}{H:Hp}{h:Heap}{a:Addr}{u:HO} (r:Rd H a u) (x:bM P w H h):bY P w H h a u:=by
 rcases r with r | ⟨o,r⟩
 ·exact x a u r
 ·obtain ⟨_,q⟩:=x a _ r
  exact q
def m9:Option HO->Prop
 | some (.lst _)=>True
 | some (.dK _)=>True
 | some (.dT _)=>True
 | some (.set _ _)=>True
 | some (.ins _ _ _)=>True
 | some (.ext _)=>True
 | _=>False
section
variable {P : Program} {w : World} {H : Hp} {h h' : Heap} {x e : Addr} {o' : HO}
theorem bM.write (ok:bM P w H h) (mu:m9 (H x)) (he:e=x ∨ H e=some (.own x)) (k:∀ b u,b ≠ e->h.get? b=some u->h'.get? b=some u) (heo:∃ u,h'.get? e=some u)
  (new:bY P w (upd H x o') h' x o'):bM P w (upd H x o') h':=fun b u q=>by
 have nown:∀ c y,H c=some (.own y)->c ≠ x:=fun c y r z=>by subst z; rw [r] at mu; exact mu
 have ntup:∀ c xs,H c=some (.tup xs)->c ≠ x:=fun c xs r z=>by subst z; rw [r] at mu; exact mu
 by_cases hb:b=x
 ·subst hb; rw [aZ] at q; cases q; exact new
 ·rw [aJ hb] at q
  by_cases hbe:b=e
  ·have q':H b=some (.own x):=by
    rcases he with z | z
    ·exact absurd (hbe.trans z) hb
    ·rw [hbe]; exact z
   rw [q] at q'; cases q'
   obtain ⟨v,hv⟩:=heo
   exact⟨v,by rw [hbe]; exact hv⟩
  ·refine (ok b u q).stay (fun c v hc r=>k c v ?_ r) (fun c r=>by rw [aJ (nown c b r)]; exact r) fun c xs r=>by rw [aJ (ntup c xs r)]; exact r
   rcases hc with rfl | hc
   ·exact hbe
   ·rintro rfl
    rcases he with z | z
    ·exact nown c b hc z
    ·rw [hc] at z; cases z; exact hb rfl
end
structure Un (fs ex:List Addr) (H H':Hp) (h h':Heap):Prop where
 keep:∀ b o,h.get? b=some o->H b=none->b ∉ fs->b ∉ ex->h'.get? b=some o
 slot:∀ b o,h.get? b=some o->H b=none->b ∈ fs->b ∉ ex->∃ sl,h'.get? b=some { o with slots:=sl }
 free:∀ b o,h.get? b=some o->H b=none->b ∉ ex->H' b=none
 there:∀ b o,h.get? b=some o->b ∉ ex->∃ o',h'.get? b=some o'
 tups:∀ b xs,H b=some (.tup xs)->H' b=some (.tup xs)
 frzs:∀ b o u,H b=some (.frz o u)->H' b=some (.frz o u)
 tbls:∀ b ps,H b=some (.tbl ps)->∃ more,H' b=some (.tbl (ps ++ more))
section
variable {fs fs' ex ex' : List Addr} {H H1 H2 : Hp} {h h1 h2 h' : Heap} {a x e : Addr} {o : HO}
theorem Un.any (u:Un fs ex H H1 h h1) {b:Addr}{ob:Obj} (q:h.get? b=some ob) (n:H b=none) (hx:b ∉ ex):∃ sl,h1.get? b=some { ob with slots:=sl }:=by
 by_cases hb:b ∈ fs
 ·exact u.slot b ob q n hb hx
 ·exact⟨ob.slots,u.keep b ob q n hb hx⟩
theorem Un.kept (k:∀ b u,h.get? b=some u->h'.get? b=some u):Un fs ex H H h h':=
 ⟨fun b ob q _ _ _=>k b ob q,fun b ob q _ _ _=>⟨ob.slots,k b ob q⟩,fun _ _ _ n _=>n,fun b ob q _=>⟨ob,k b ob q⟩,fun _ _ q=>q,fun _ _ _ q=>q,fun _ ps q=>⟨#[],by rw [q]; simp⟩⟩
theorem Un.refl:Un fs ex H H h h:=Un.kept fun _ _ q=>q
theorem Un.laid (k:∀ b u,h.get? b=some u->h'.get? b=some u) (hp:h.objs.size<=a) (hn:H a=none):Un fs ex H (upd H a o) h h' where
 keep:=fun b u q _ _ _=>k b u q
 slot:=fun b u q _ _ _=>⟨u.slots,k b u q⟩
 free:=fun b u q n _=>by rw [aJ (aS8 (aQ9 (aR0 q) hp))]; exact n
 there:=fun b u q _=>⟨u,k b u q⟩
 tups:=fun b xs q=>by rw [aJ (bS q hn)]; exact q
 frzs:=fun b u xs q=>by rw [aJ (bS q hn)]; exact q
 tbls:=fun b ps q=>⟨#[],by rw [aJ (bS q hn),q]; simp⟩
theorem Un.write (mu:m9 (H x)) (he:e=x ∨ H e=some (.own x)) (k:∀ b u,b ≠ e->h.get? b=some u->h'.get? b=some u) (heo:∃ u,h'.get? e=some u):Un fs ex H (upd H x o) h h':=by
 have hx:∀ b,H b=none->b ≠ x:=fun b n z=>by subst z; rw [n] at mu; exact mu
 have hb:∀ b,H b=none->b ≠ e:=fun b n z=>by
  subst z
  rcases he with r | r
  ·exact hx b n r
  ·rw [n] at r; cases r
 have hm:∀ b u,H b=some u->¬ m9 (some u)->b ≠ x:=fun b u q nm z=>by subst z; rw [q] at mu; exact nm mu
 refine⟨fun b u q n _ _=>k b u (hb b n) q,fun b u q n _ _=>⟨u.slots,k b u (hb b n) q⟩,fun b u q n _=>by rw [aJ (hx b n)]; exact n,fun b u q _=>?_,
  fun b xs q=>by rw [aJ (hm b _ q fun z=>z)]; exact q,fun b u xs q=>by rw [aJ (hm b _ q fun z=>z)]; exact q,fun b ps q=>⟨#[],by rw [aJ (hm b _ q fun z=>z),q]; simp⟩⟩
 by_cases hbe:b=e
 ·subst hbe; exact heo
 ·exact⟨u,k b u hbe q⟩
end
def oC (h:Heap) (H:Hp):List Addr:=(List.range h.objs.size).filter fun a=>(H a).isSome
def i4 (h:Heap) (H:Hp):Heap:=PySem.W.hideAll h (oC h H)
theorem V2 (h:Heap) (H:Hp):(i4 h H).objs.size=h.objs.size:=PySem.W.hideAll_size _ _
theorem V3 {h:Heap}{H:Hp}{b:Addr}{o:Obj} (e:h.get? b=some o) (n:H b=none):(i4 h H).get? b=some o:=
 PySem.W.hideAll_get _ e fun hm=>by
  have q:(H b).isSome=true:=(List.mem_filter.mp hm).2
  rw [n] at q; simp at q
theorem V4 {h:Heap}{H:Hp}{b:Addr}{o:Obj} (e:(i4 h H).get? b=some o):h.get? b=some o/\H b=none:=by
 have e':h.get? b=some o:=PySem.W.of_hideAll (oC h H) e
 refine⟨e',?_⟩
 cases q:H b with
 | none=>rfl
 | some x=>
  have hm:b ∈ oC h H:=List.mem_filter.mpr ⟨bc1.mpr (aR0 e'),by simp [q]⟩
  have z:(i4 h H).get? b=none:=PySem.W.hideAll_none (oC h H) hm
  rw [z] at e; cases e
def mB (g h:Heap) (L:Addr):List (Addr × Obj):=(List.range h.objs.size).filterMap fun a=>if a=L ∨ (g.get? a).isSome=true then none else (h.get? a).map fun o=>(a,o)
theorem w9 {g h:Heap}{L a:Addr}{o:Obj} (h1:a ≠ L) (h2:g.get? a=none) (h3:h.get? a=some o):(a,o) ∈ mB g h L:=
 List.mem_filterMap.mpr ⟨a,bc1.mpr (aR0 h3),by simp [h1,h2,h3]⟩
theorem V5 {g h:Heap}{L:Addr}{p:Addr × Obj} (hp:p ∈ mB g h L):p.1 ≠ L/\g.get? p.1=none/\h.get? p.1=some p.2:=by
 obtain ⟨b,_,e⟩:=List.mem_filterMap.mp hp
 split at e
 ·cases e
 ·rename_i hn
  cases q:h.get? b with
  | none=>rw [q] at e; simp at e
  | some u=>
   rw [q] at e
   simp only [Option.map_some,Option.some.injEq] at e
   subst e
   refine⟨fun z=>hn (.inl z),?_,q⟩
   show g.get? b=none
   cases r:g.get? b with
   | none=>rfl
   | some v=>exact (hn (.inr (by simp [r]))).elim
def cI (g h:Heap) (L d:Addr):List (Addr × Obj):=(mB g h L).filter fun p=>decide (p.1 ≠ d)
theorem V6 {g h:Heap}{L:Addr}:News g L h (mB g h L):=fun p hp=>let ⟨a,b,c⟩:=V5 hp; ⟨c,a,b⟩
structure Mod (K:PySem.W.Frag) (mg:Str->Option Value) (base:Heap):Prop where
 kin:K.In base
 glob:base.Ns mainGlobals mg
 blt:∃ mb,base.Ns builtinsNs mb/\∀ x:Str,x ≠ "__name__"->mb x=bootBuiltins x
 nolimit:base.NoLimit
structure Cx where
 prog:Program
 w:World
 K:PySem.W.Frag
 mg:Str->Option Value
 base:Heap
 A:Around
 N:List Str
 s₀:Shared
 H₀:Hp
 env:Env
 outer:List Env
 stack:List Env
 ex:List Addr
 fn:Str->Bool
 calm:Bool
 pn:List (Addr × Obj)
 xe:Value->Shared->Prop
def bH (l:List Env):List Addr:=l.filterMap (·.frame)
abbrev Cx.fs (X:Cx):List Addr:=bH X.outer
def gR (sc:Scope) (x:Str):Prop:=sc.names.lookup x=some .local ∨ sc.names.lookup x=some .cell ∨ sc.names.lookup x=some .free
def i5 (sc:Scope) (x:Str):Prop:=sc.names.lookup x=some .local ∨ sc.names.lookup x=some .cell
def V7 (env:Env) (h:Heap) (m:Str->Option Value) (x:Str) (u:Value):Prop:=
 (env.kindOf x=some .local/\m x=some u) ∨ ((env.kindOf x=some .cell ∨ env.kindOf x=some .free)/\∃ c,env.cells.lookup x=some c/\h.IsCell c (some u))
structure Cx.Ok (X:Cx):Prop where
 mod:Mod X.K X.mg X.base
 kind:X.env.scope.kind = .function
 glob:X.env.globals=mainGlobals
 blt:X.env.builtins=builtinsNs
 above:X.s₀.heap.objs.size<=X.env.locals
 inj:∀ x y c,X.env.cells.lookup x=some c->X.env.cells.lookup y=some c->x=y
 has:∀ x,(X.env.kindOf x=some .cell ∨ X.env.kindOf x=some .free)->∃ c,X.env.cells.lookup x=some c
 cab:∀ x c,X.fn x=true->X.env.cells.lookup x=some c->X.s₀.heap.objs.size<=c
 hd:X.calm=true->X.A.handled=none
 frames:X.A.frames=some X.stack
 stk:X.stack=X.outer ∨ (X.stack=X.env :: X.outer/\X.env.frame=some X.env.locals)
 exf:∀ b ∈ X.ex,b ≠ X.env.locals/\∀ x c,X.env.cells.lookup x=some c->c ≠ b
 bs:∀ b o,X.base.get? b=some o->X.s₀.heap.get? b=some o/\X.H₀ b=none
 bsz:X.base.objs.size<=X.s₀.heap.objs.size
 noex:∀ b o,X.base.get? b=some o->b ∉ X.ex
 exfs:∀ b ∈ X.ex,b ∉ X.fs
 funs:X.s₀.heap.FunFrames X.base X.outer
 frf:∀ b ∈ X.fs,X.H₀ b=none
structure a7 (X:Cx) (pins:List (Addr × Obj)) (σ:List (Option V)) (H:Hp) (s:Shared):Prop where
 ok:X.Ok
 os:s.os=X.s₀.os
 bare:AllBare s.gens
 base:Un X.fs X.ex X.H₀ H X.s₀.heap s.heap
 loc:∃ m,s.heap.Ns X.env.locals m/\∀ (i:Nat) (x:Str) (v:V),X.N[i]? = some x->σ[i]? = some (some v)->gR X.env.scope x->∃ u,aT v u/\V7 X.env s.heap m x u
 cell:∀ x c,X.env.cells.lookup x=some c->∃ v,s.heap.IsCell c v
 free:H X.env.locals=none
 freeC:∀ x c,X.env.cells.lookup x=some c->H c=none
 pin:∀ p ∈ X.pn ++ pins,s.heap.get? p.1=some p.2/\H p.1=none/\p.1 ≠ X.env.locals/\p.1 ∉ X.fs/\∀ v,p.2.data ≠ .cell v
 hok:bM X.prog X.w H s.heap
 len:σ.length=X.N.length
section
variable {X : Cx} {pins : List (Addr × Obj)} {σ : List (Option V)} {H H' : Hp} {s : Shared} {h' : Heap}
theorem Cx.Ok.nofr (ok:X.Ok) {b:Addr}{o:Obj} (e:X.base.get? b=some o):b ∉ X.fs:=fun hb=>by
 have:=(ok.funs.mem hb).1
 rw [e] at this; cases this
theorem a7.bs (I:a7 X pins σ H s):∀ b o,X.base.get? b=some o->s.heap.get? b=some o/\H b=none:=fun b o e=>
 ⟨I.base.keep b o (I.ok.bs b o e).1 (I.ok.bs b o e).2 (I.ok.nofr e) (I.ok.noex b o e),I.base.free b o (I.ok.bs b o e).1 (I.ok.bs b o e).2 (I.ok.noex b o e)⟩
theorem a7.bk (I:a7 X pins σ H s):∀ b o,X.base.get? b=some o->s.heap.get? b=some o:=fun b o e=>(I.bs b o e).1
theorem a7.mod (I:a7 X pins σ H s):Mod X.K X.mg X.base:=I.ok.mod
theorem a7.kIn (I:a7 X pins σ H s):X.K.In s.heap:=I.ok.mod.kin.keeps I.bk
theorem a7.fr (I:a7 X pins σ H s):∃ m,Fr X.base X.env.locals s.heap m:=
 let ⟨m,hn,_⟩:=I.loc
 ⟨m,hn,I.bk,aU0 I.ok.bsz I.ok.above⟩
theorem a7.lt (I:a7 X pins σ H s):X.env.locals < s.heap.objs.size:=let ⟨_,hn,_⟩:=I.loc; hn.lt
theorem a7.sz (I:a7 X pins σ H s):X.s₀.heap.objs.size<=s.heap.objs.size:=aU0 I.ok.above (aX4 I.lt)
theorem a7.nofs (I:a7 X pins σ H s) {a:Addr} (h:s.heap.objs.size<=a):a ∉ X.fs:=fun hb=>by
 obtain ⟨_,o,ho,_⟩:=I.ok.funs.mem hb
 exact absurd (aQ9 (aR0 ho) (aU0 I.sz h)) (aU2 _)
theorem a7.cne (I:a7 X pins σ H s):∀ x c,X.env.cells.lookup x=some c->c ≠ X.env.locals:=fun x c e z=>by
 obtain ⟨v,o,ho,hd⟩:=I.cell x c e
 obtain ⟨m,⟨o',es,ep,ho',hd',_⟩,_⟩:=I.loc
 rw [z,ho'] at ho; cases ho; rw [hd'] at hd; cases hd
theorem a7.funs (I:a7 X pins σ H s):s.heap.FunFrames X.base X.outer:=by
 have all:∀ (l:List Env),(∀ b ∈ bH l,b ∈ X.fs)->X.s₀.heap.FunFrames X.base l->s.heap.FunFrames X.base l:=by
  intro l
  induction l with
  | nil=>intro _ _; trivial
  | cons env r ih=>
   intro hs hl
   obtain ⟨hk,⟨L,o,hf,hn,ho,hd⟩,hr⟩:=hl
   have hL:L ∈ X.fs:=hs L (by unfold bH; rw [List.filterMap_cons,hf]; exact aR2)
   obtain ⟨sl,e⟩:=I.base.slot L o ho (I.ok.frf L hL) hL fun z=>I.ok.exfs L z hL
   exact⟨hk,⟨L,_,hf,hn,e,hd⟩,ih (fun b hb=>hs b (by unfold bH; rw [List.filterMap_cons,hf]; exact aR1 _ hb)) hr⟩
 exact all X.outer (fun _ hb=>hb) I.ok.funs
theorem a7.stack (I:a7 X pins σ H s):s.heap.FunFrames X.base X.stack:=by
 rcases I.ok.stk with e | ⟨e,hf⟩
 ·rw [e]; exact I.funs
 ·rw [e]
  obtain ⟨m,hn,_⟩:=I.loc
  refine .cons (by rw [I.ok.kind]; decide) hf hn ?_ I.funs
  exact Heap.get?_none_of_le (aU0 I.ok.bsz I.ok.above)
theorem a7.stkSub (I:a7 X pins σ H s):∀ b ∈ bH X.stack,b ∈ X.env.locals :: X.fs:=fun b hb=>by
 rcases I.ok.stk with e | ⟨e,hf⟩
 ·rw [e] at hb; exact aR1 _ hb
 ·rw [e] at hb
  unfold bH at hb
  rw [List.filterMap_cons,hf] at hb
  exact hb
theorem a7.stkFree (I:a7 X pins σ H s):∀ b ∈ bH X.stack,H b=none:=fun b hb=>by
 rcases aQ2.mp (I.stkSub b hb) with e | hb
 ·rw [e]; exact I.free
 ·obtain ⟨_,o,ho,_⟩:=I.ok.funs.mem hb
  exact I.base.free b o ho (I.ok.frf b hb) fun z=>I.ok.exfs b z hb
theorem a7.step {g':Array GenState}{t':Nat}{d':Drawn}{ch:List Addr} (I:a7 X pins σ H s)
  (hch:∀ b ∈ ch,(b ∈ X.ex ∨ X.s₀.heap.objs.size<=b)/\b ≠ X.env.locals/\(∀ x c,X.env.cells.lookup x=some c->c ≠ b)/\∀ p ∈ X.pn ++ pins,p.1 ≠ b)
  (keep:∀ b o,b ≠ X.env.locals->b ∉ X.fs->b ∉ ch->s.heap.get? b=some o->H b=none->h'.get? b=some o)
  (slot:∀ b o,b ≠ X.env.locals->b ∈ X.fs->b ∉ ch->s.heap.get? b=some o->H b=none->∃ sl,h'.get? b=some { o with slots:=sl }) (free:∀ b o,b ∉ ch->s.heap.get? b=some o->H b=none->H' b=none)
  (there:∀ b o,b ∉ ch->s.heap.get? b=some o->∃ o',h'.get? b=some o')
  (tups:∀ b xs,H b=some (.tup xs)->H' b=some (.tup xs)) (frzs:∀ b o u,H b=some (.frz o u)->H' b=some (.frz o u)) (tbls:∀ b ps,H b=some (.tbl ps)->∃ more,H' b=some (.tbl (ps ++ more)))
  (ns:∀ m,s.heap.Ns X.env.locals m->h'.Ns X.env.locals m) (hok:bM X.prog X.w H' h') (hg:AllBare g') :
  a7 X pins σ H' { s with heap:=h',gens:=g',drawn:=d',toks:=t' }:=by
 have neL:∀ b o,X.s₀.heap.get? b=some o->b ≠ X.env.locals:=fun b o e=>aS8 (aQ9 (aR0 e) I.ok.above)
 have neC:∀ b o,X.s₀.heap.get? b=some o->b ∉ X.ex->b ∉ ch:=fun b o e hx hb=>by
  rcases (hch b hb).1 with z | z
  ·exact hx z
  ·exact absurd (aQ9 (aR0 e) z) (aU2 _)
 have cellK:∀ x c,X.env.cells.lookup x=some c->∀ v,s.heap.IsCell c v->h'.IsCell c v:=fun x c e v ⟨o,ho,hd⟩=>by
  have nch:c ∉ ch:=fun z=>(hch c z).2.2.1 x c e rfl
  by_cases hc:c ∈ X.fs
  ·obtain ⟨sl,q⟩:=slot c o (I.cne x c e) hc nch ho (I.freeC x c e)
   exact⟨_,q,hd⟩
  ·exact⟨o,keep c o (I.cne x c e) hc nch ho (I.freeC x c e),hd⟩
 refine⟨I.ok,I.os,hg,⟨fun b o e n hb hx=>?_,fun b o e n hb hx=>?_,fun b o e n hx=>?_,fun b o e hx=>?_,fun b xs e=>tups b xs (I.base.tups b xs e),fun b o xs e=>frzs b o xs (I.base.frzs b o xs e),fun b ps e=>?_⟩,?_,fun x c e=>?_,?_,fun x c e=>?_,fun p hp=>?_,hok,I.len⟩
 ·exact keep b o (neL b o e) hb (neC b o e hx) (I.base.keep b o e n hb hx) (I.base.free b o e n hx)
 ·obtain ⟨sl,e1⟩:=I.base.slot b o e n hb hx
  obtain ⟨sl',e2⟩:=slot b _ (neL b o e) hb (neC b o e hx) e1 (I.base.free b o e n hx)
  exact⟨sl',e2⟩
 ·obtain ⟨o',e1⟩:=I.base.there b o e hx
  exact free b o' (neC b o e hx) e1 (I.base.free b o e n hx)
 ·obtain ⟨o',e1⟩:=I.base.there b o e hx
  exact there b o' (neC b o e hx) e1
 ·obtain ⟨m1,e1⟩:=I.base.tbls b ps e
  obtain ⟨m2,e2⟩:=tbls b _ e1
  exact⟨m1 ++ m2,by rw [e2,Array.append_assoc]⟩
 ·obtain ⟨m,hn,hl⟩:=I.loc
  refine⟨m,ns m hn,fun i x v e1 e2 e3=>?_⟩
  obtain ⟨u,r,l⟩:=hl i x v e1 e2 e3
  refine⟨u,r,?_⟩
  rcases l with l | ⟨k,c,e,z⟩
  ·exact .inl l
  ·exact .inr ⟨k,c,e,cellK x c e _ z⟩
 ·obtain ⟨v,z⟩:=I.cell x c e
  exact⟨v,cellK x c e v z⟩
 ·obtain ⟨m,⟨o,_,_,ho,_⟩,_⟩:=I.loc
  exact free _ o (fun z=>(hch _ z).2.1 rfl) ho I.free
 ·obtain ⟨v,o,ho,hd⟩:=I.cell x c e
  exact free c o (fun z=>(hch c z).2.2.1 x c e rfl) ho (I.freeC x c e)
 ·obtain ⟨e,n,ne,nf,d⟩:=I.pin p hp
  have nch:p.1 ∉ ch:=fun z=>(hch p.1 z).2.2.2 p hp rfl
  exact⟨keep p.1 p.2 ne nf nch e n,free p.1 p.2 nch e n,ne,nf,d⟩
theorem a7.un {t':Nat} (I:a7 X pins σ H s) (u:Un X.fs [] H H' s.heap h') (hok:bM X.prog X.w H' h'):a7 X pins σ H' { s with heap:=h',toks:=t' }:=by
 obtain ⟨m,⟨o,es,ep,ho,r⟩,_⟩:=id I.loc
 obtain ⟨sl,hL⟩:=u.any ho I.free (by simp)
 exact I.step (g':=s.gens) (d':=s.drawn) (ch:=[]) (fun _ z=>nomatch z) (fun b o _ hb _ e n=>u.keep b o e n hb (by simp)) (fun b o _ hb _ e n=>u.slot b o e n hb (by simp)) (fun b o _ e n=>u.free b o e n (by simp)) (fun b o _ e=>u.there b o e (by simp)) u.tups u.frzs u.tbls (fun m' hm=>by
  obtain ⟨o',es',ep',ho',r'⟩:=hm
  rw [ho] at ho'; cases ho'
  exact⟨_,es',ep',hL,r'⟩) hok I.bare
theorem a7.call {g':Array GenState}{t':Nat}{d':Drawn}{ch:List Addr} (I:a7 X pins σ H s) (u:Un (bH X.stack) ch H H' s.heap h') (hok:bM X.prog X.w H' h') (hg:AllBare g')
  (hch:∀ b ∈ ch,(b ∈ X.ex ∨ X.s₀.heap.objs.size<=b)/\b ≠ X.env.locals/\(∀ x c,X.env.cells.lookup x=some c->c ≠ b)/\∀ p ∈ X.pn ++ pins,p.1 ≠ b) :
  a7 X pins σ H' { s with heap:=h',gens:=g',drawn:=d',toks:=t' }:=by
 obtain ⟨m,⟨o,es,ep,ho,r⟩,_⟩:=id I.loc
 obtain ⟨sl,hL⟩:=u.any ho I.free fun z=>(hch _ z).2.1 rfl
 exact I.step (ch:=ch) hch (fun b o hL hb hc e n=>u.keep b o e n (fun z=>(aQ2.mp (I.stkSub b z)).elim hL hb) hc) (fun b o _ _ hc e n=>u.any e n hc) (fun b o hc e n=>u.free b o e n hc) (fun b o hc e=>u.there b o e hc) u.tups u.frzs u.tbls (fun m' hm=>by
  obtain ⟨o',es',ep',ho',r'⟩:=hm
  rw [ho] at ho'; cases ho'
  exact⟨_,es',ep',hL,r'⟩) hok hg
theorem a7.turned {t':Nat}{it:Addr} (I:a7 X pins σ H s) (k:∀ b o,b ≠ it->s.heap.get? b=some o->h'.get? b=some o) (hn:H it=none) (hL:it ≠ X.env.locals)
  (h1:it ∈ X.ex ∨ X.s₀.heap.objs.size<=it) (h2:∀ x c,X.env.cells.lookup x=some c->c ≠ it) (h3:∀ p ∈ X.pn ++ pins,p.1 ≠ it):a7 X pins σ H { s with heap:=h',toks:=t' }:=by
 have nit:∀ b u,H b=some u->b ≠ it:=fun b u e z=>by rw [z,hn] at e; cases e
 refine I.step (g':=s.gens) (d':=s.drawn) (ch:=[it]) (fun b hb=>?_) (fun b o _ _ hc e _=>k b o (fun z=>hc (by simp [z])) e) (fun b o _ _ hc e _=>⟨o.slots,k b o (fun z=>hc (by simp [z])) e⟩) (fun _ _ _ _ n=>n)
  (fun b o hc e=>⟨o,k b o (fun z=>hc (by simp [z])) e⟩) (fun _ _ e=>e) (fun _ _ _ e=>e) (fun b ps e=>⟨#[],by rw [e]; simp⟩) (fun m hm=>?_) (fun b u e=>?_) I.bare
 ·have e:b=it:=by simpa using hb
  subst e
  exact⟨h1,hL,h2,h3⟩
 ·obtain ⟨o,es,ep,ho,r⟩:=hm
  exact⟨o,es,ep,k _ o (Ne.symm hL) ho,r⟩
 ·refine (I.hok b u e).stay (fun c v hc q=>k c v ?_ q) (fun _ q=>q) fun _ _ q=>q
  rcases hc with z | z
  ·rw [z]; exact nit b u e
  ·exact nit c _ z
theorem a7.tok (I:a7 X pins σ H s) (t:Nat):a7 X pins σ H { s with toks:=t }:=I.un (h':=s.heap) (t':=t) Un.refl I.hok
theorem a7.kept {t':Nat} (I:a7 X pins σ H s) (k:∀ b u,s.heap.get? b=some u->h'.get? b=some u):a7 X pins σ H { s with heap:=h',toks:=t' }:=I.un (Un.kept k) (I.hok.kept k)
theorem a7.laid {a:Addr}{o:HO}{t':Nat} (I:a7 X pins σ H s) (k:∀ b u,s.heap.get? b=some u->h'.get? b=some u) (hp:s.heap.objs.size<=a) (new:bY X.prog X.w (upd H a o) h' a o) :
  a7 X pins σ (upd H a o) { s with heap:=h',toks:=t' }:=I.un (Un.laid k hp (I.hok.fresh hp)) (I.hok.laid k hp new)
theorem a7.write {x e:Addr}{o:HO}{t':Nat} (I:a7 X pins σ H s) (mu:m9 (H x)) (he:e=x ∨ H e=some (.own x)) (k:∀ b u,b ≠ e->s.heap.get? b=some u->h'.get? b=some u) (heo:∃ u,h'.get? e=some u)
  (new:bY X.prog X.w (upd H x o) h' x o):a7 X pins σ (upd H x o) { s with heap:=h',toks:=t' }:=I.un (Un.write mu he k heo) (I.hok.write mu he k heo new)
theorem a7.weak {σ':List (Option V)} (I:a7 X pins σ H s) (hl:σ'.length=σ.length) (w:∀ (i:Nat) v,σ'[i]? = some (some v)->σ[i]? = some (some v)):a7 X pins σ' H s:=
 ⟨I.ok,I.os,I.bare,I.base,let ⟨m,hn,hl'⟩:=I.loc; ⟨m,hn,fun i x v e1 e2 e3=>hl' i x v e1 (w i v e2) e3⟩,I.cell,I.free,I.freeC,I.pin,I.hok,hl.trans I.len⟩
theorem a7.pins_of {pins':List (Addr × Obj)} (I:a7 X pins σ H s) (h:∀ p ∈ pins',s.heap.get? p.1=some p.2/\H p.1=none/\p.1 ≠ X.env.locals/\p.1 ∉ X.fs/\∀ v,p.2.data ≠ .cell v):a7 X pins' σ H s:=
 ⟨I.ok,I.os,I.bare,I.base,I.loc,I.cell,I.free,I.freeC,fun p hp=>(aV6.mp hp).elim (fun z=>I.pin p (List.mem_append_left _ z)) (h p),I.hok,I.len⟩
theorem rQ {N:List Str} (hN:N.Nodup) {i j:Nat}{x:Str} (a:N[i]? = some x) (b:N[j]? = some x):i=j:=by
 obtain ⟨h1,e1⟩:=aQ7.mp a
 obtain ⟨h2,e2⟩:=aQ7.mp b
 exact (List.getElem_inj hN).mp (e1.trans e2.symm)
theorem rR {M:Model}{A:Around}{E:Value->Shared->Prop}{i:Nat}{x:Str}{v:V}{u:Value}{Q:Unit->Shared->Prop} (I:a7 X pins σ H s) (hN:X.N.Nodup) (hi:X.N[i]? = some x) (hx:i5 X.env.scope x) (r:aT v u)
  (h:∀ s',a7 X pins (σ.set i (some v)) H s'->(∃ a,Heap.SameBut a s.heap s'.heap/\(a=X.env.locals ∨ X.env.cells.lookup x=some a))->Q () s') (hf:X.fn x=true ∨ X.env.scope.names.lookup x=some .local:=by first | exact .inl rfl | exact .inr rfl | assumption):wpAny M A (storeName X.env x u) Q E s:=by
 obtain ⟨m,hn,hl⟩:=id I.loc
 have hcls:(X.env.scope.kind == .class || (X.env.scope.kind == .module && X.env.locals != X.env.globals))=false:=by rw [I.ok.kind]; rfl
 have hiσ:i < σ.length:=by rw [I.len]; exact (aQ7.mp hi).1
 have cne:=I.cne
 have tracked:∀ {a:Addr}{h':Heap},(∃ o,s.heap.get? a=some o/\H a=none)->Heap.SameBut a s.heap h'->bM X.prog X.w H h':=fun {a h'} ha hs b ob e=>by
  obtain ⟨_,_,hfree⟩:=ha
  refine (I.hok b ob e).stay (fun c w' hc q=>(hs.2 c ?_).trans q) (fun _ q=>q) fun _ _ q=>q
  rintro rfl
  rcases hc with rfl | hc
  ·rw [hfree] at e; cases e
  ·rw [hfree] at hc; cases hc
 rcases hx with hk | hk
 ·refine wpAny_storeName_local hk hn (fun h' hn' hs=>?_) hcls
  obtain ⟨oL,_,_,hoL,_⟩:=id hn
  refine h _ ⟨I.ok,I.os,I.bare,⟨fun b o e n hb hx=>?_,fun b o e n hb hx=>?_,I.base.free,fun b o e hx=>?_,I.base.tups,I.base.frzs,I.base.tbls⟩,⟨_,hn',fun j y v' e1 e2 e3=>?_⟩,fun y c e=>?_,I.free,I.freeC,fun p hp=>?_,tracked ⟨oL,hoL,I.free⟩ hs,by simpa using I.len⟩ ⟨_,hs,.inl rfl⟩
  ·exact (hs.2 b (aS8 (aQ9 (aR0 e) I.ok.above))).trans (I.base.keep b o e n hb hx)
  ·obtain ⟨sl,e1⟩:=I.base.slot b o e n hb hx
   exact⟨sl,(hs.2 b (aS8 (aQ9 (aR0 e) I.ok.above))).trans e1⟩
  ·obtain ⟨o',e1⟩:=I.base.there b o e hx
   exact⟨o',(hs.2 b (aS8 (aQ9 (aR0 e) I.ok.above))).trans e1⟩
  ·by_cases hj:j=i
   ·subst hj
    rw [hi] at e1; cases e1
    rw [aX1 hiσ] at e2
    cases e2
    exact⟨u,r,.inl ⟨hk,by simp⟩⟩
   ·rw [aS5 (Ne.symm hj)] at e2
    obtain ⟨u',r',q⟩:=hl j y v' e1 e2 e3
    refine⟨u',r',?_⟩
    rcases q with ⟨k,e⟩ | ⟨k,c,e,z⟩
    ·refine .inl ⟨k,?_⟩
     have:y ≠ x:=fun e=>hj (rQ hN e1 (e ▸ hi))
     simp [this,e]
    ·exact .inr ⟨k,c,e,z.sameBut hs (cne y c e)⟩
  ·obtain ⟨w',z⟩:=I.cell y c e
   exact⟨w',z.sameBut hs (cne y c e)⟩
  ·obtain ⟨e,n,ne,nf,d⟩:=I.pin p hp
   exact⟨(hs.2 p.1 ne).trans e,n,ne,nf,d⟩
 ·have hfn:X.fn x=true:=by
   rcases hf with z | z
   ·exact z
   ·rw [z] at hk; cases hk
  obtain ⟨c,hc⟩:=I.ok.has x (.inl hk)
  obtain ⟨w',z⟩:=I.cell x c hc
  refine wpAny_storeName_cell I.ok.kind hk hc z (fun h' hc' hs=>?_)
  obtain ⟨oc,hoc,hocd⟩:=id z
  refine h { s with heap:=h' } ⟨I.ok,I.os,I.bare,⟨fun b o e n hb hx=>?_,fun b o e n hb hx=>?_,I.base.free,fun b o e hx=>?_,I.base.tups,I.base.frzs,I.base.tbls⟩,⟨m,hn.sameBut hs (Ne.symm (cne x c hc)),fun j y v' e1 e2 e3=>?_⟩,fun y c' e=>?_,I.free,I.freeC,fun p hp=>?_,tracked ⟨oc,hoc,I.freeC x c hc⟩ hs,by simpa using I.len⟩ ⟨c,hs,.inr hc⟩
  ·exact (hs.2 b (aS8 (aQ9 (aR0 e) (I.ok.cab x c hfn hc)))).trans (I.base.keep b o e n hb hx)
  ·obtain ⟨sl,e1⟩:=I.base.slot b o e n hb hx
   exact⟨sl,(hs.2 b (aS8 (aQ9 (aR0 e) (I.ok.cab x c hfn hc)))).trans e1⟩
  ·obtain ⟨o',e1⟩:=I.base.there b o e hx
   exact⟨o',(hs.2 b (aS8 (aQ9 (aR0 e) (I.ok.cab x c hfn hc)))).trans e1⟩
  ·by_cases hj:j=i
   ·subst hj
    rw [hi] at e1; cases e1
    rw [aX1 hiσ] at e2
    cases e2
    exact⟨u,r,.inr ⟨.inl hk,c,hc,hc'⟩⟩
   ·rw [aS5 (Ne.symm hj)] at e2
    obtain ⟨u',r',q⟩:=hl j y v' e1 e2 e3
    refine⟨u',r',?_⟩
    rcases q with q | ⟨k,c',e,z'⟩
    ·exact .inl q
    ·refine .inr ⟨k,c',e,z'.sameBut hs ?_⟩
     rintro rfl
     exact hj (rQ hN e1 (I.ok.inj _ _ _ e hc ▸ hi))
  ·by_cases hcc:c'=c
   ·subst hcc; exact⟨_,hc'⟩
   ·obtain ⟨w2,z2⟩:=I.cell y c' e
    exact⟨w2,z2.sameBut hs hcc⟩
  ·obtain ⟨e,n,ne,nf,d⟩:=I.pin p hp
   refine⟨(hs.2 p.1 ?_).trans e,n,ne,nf,d⟩
   intro q
   rw [q,hoc] at e
   have q':oc=p.2:=aS7 e
   exact d w' (by rw [<- q']; exact hocd)
theorem rS {M:Model}{A:Around}{E:Value->Shared->Prop}{i:Nat}{x:Str}{v:V}{u:Value}{Q:Unit->Shared->Prop} (I:a7 X pins σ H s) (hN:X.N.Nodup) (hi:X.N[i]? = some x) (hx:i5 X.env.scope x) (r:aT v u)
  (h:∀ s',a7 X pins (σ.set i (some v)) H s'->Q () s') (hf:X.fn x=true ∨ X.env.scope.names.lookup x=some .local:=by first | exact .inl rfl | exact .inr rfl | assumption):wpAny M A (storeName X.env x u) Q E s:=
 rR I hN hi hx r (fun s' I' _=>h s' I') hf
theorem a7.call' {s':Shared}{ch:List Addr} (I:a7 X pins σ H s) (ho:s'.os=s.os) (u:Un (bH X.stack) ch H H' s.heap s'.heap) (hok:bM X.prog X.w H' s'.heap) (hg:AllBare s'.gens)
  (hch:∀ b ∈ ch,(b ∈ X.ex ∨ X.s₀.heap.objs.size<=b)/\b ≠ X.env.locals/\(∀ x c,X.env.cells.lookup x=some c->c ≠ b)/\∀ p ∈ X.pn ++ pins,p.1 ≠ b):a7 X pins σ H' s':=by
 obtain ⟨h',g',d',t',o'⟩:=s'
 have e:o'=s.os:=ho
 subst e
 exact I.call (g':=g') (t':=t') (d':=d') u hok hg hch
end
abbrev XK:=Value->Option Addr->Hp->Prop
abbrev St:=List (Option V)
abbrev VK:=V->Hp->Prop
abbrev TE:=St->Hp->VK->Prop
abbrev TT:=St->Hp->(Bool->Hp->Prop)->Prop
abbrev TA:=St->Hp->(List V->Hp->Prop)->Prop
structure cR where
 nx:St->Hp->Prop
 rt:VK
 bk:St->Hp->Prop:=fun _ _=>False
 ct:St->Hp->Prop:=fun _ _=>False
abbrev TS:=cR->St->Hp->Prop
def EP (X:Cx) (pins:List (Addr × Obj)) (σ:St) (Q:VK) (u:Value) (s':Shared):Prop:=∃ v H',a7 X pins σ H' s'/\aT v u/\Q v H'
def TP (X:Cx) (pins:List (Addr × Obj)) (σ:St) (Q:Bool->Hp->Prop) (b:Bool) (s':Shared):Prop:=∃ H',a7 X pins σ H' s'/\Q b H'
def AP (X:Cx) (pins:List (Addr × Obj)) (σ:St) (Q:List V->Hp->Prop) (us:List Value) (s':Shared):Prop:=∃ vs H',a7 X pins σ H' s'/\aR vs us/\Q vs H'
def SP (X:Cx) (pins:List (Addr × Obj)) (D:cR) (f:Flow) (s':Shared):Prop:=
 match f with
 | .next=>∃ σ' H',a7 X pins σ' H' s'/\D.nx σ' H'
 | .brk=>∃ σ' H',a7 X pins σ' H' s'/\D.bk σ' H'
 | .cont=>∃ σ' H',a7 X pins σ' H' s'/\D.ct σ' H'
 | .ret u=>∃ v σ' H',a7 X pins σ' H' s'/\aT v u/\D.rt v H'
def PE (X:Cx) (e:Expr) (t:TE):Prop:=
 ∀ (pins:List (Addr × Obj)) (s:Shared) (σ:St) (H:Hp) (Q:VK),a7 X pins σ H s->t σ H Q->wpAny (model X.prog X.w) X.A (eval e X.env) (EP X pins σ Q) X.xe s
def PT (X:Cx) (e:Expr) (t:TT):Prop:=
 ∀ (pins:List (Addr × Obj)) (s:Shared) (σ:St) (H:Hp) (Q:Bool->Hp->Prop),a7 X pins σ H s->t σ H Q->wpAny (model X.prog X.w) X.A (isTrue e X.env (eval e X.env)) (TP X pins σ Q) X.xe s
def PW (X:Cx) (e:Expr) (t:TT):Prop:=
 ∀ (whole:Sem Value) (pins:List (Addr × Obj)) (s:Shared) (σ:St) (H:Hp) (Q:Bool->Hp->Prop),a7 X pins σ H s->t σ H Q->wpAny (model X.prog X.w) X.A (isTrue e X.env whole) (TP X pins σ Q) X.xe s
theorem PW.pt {X:Cx}{e:Expr}{t:TT} (h:PW X e t):PT X e t:=h _
def PA (X:Cx) (es:List Expr) (t:TA):Prop:=
 ∀ (pos:Pos) (pins:List (Addr × Obj)) (s:Shared) (σ:St) (H:Hp) (Q:List V->Hp->Prop),a7 X pins σ H s->t σ H Q->wpAny (model X.prog X.w) X.A (spliced (backTo pos (starEach es X.env))) (AP X pins σ Q) X.xe s
def PS (X:Cx) (st:Stmt) (t:TS):Prop:=
 ∀ (pins:List (Addr × Obj)) (s:Shared) (σ:St) (H:Hp) (D:cR),a7 X pins σ H s->t D σ H->wpAny (model X.prog X.w) X.A (exec st X.env) (SP X pins D) X.xe s
def dB (X:Cx) (st:List Stmt) (t:TS):Prop:=
 ∀ (pins:List (Addr × Obj)) (s:Shared) (σ:St) (H:Hp) (D:cR),a7 X pins σ H s->t D σ H->wpAny (model X.prog X.w) X.A (execs st X.env) (SP X pins D) X.xe s
theorem aK {α:Type}{t:Sem α}{Q Q':α->Shared->Prop}{M:Model}{A:Around}{E:Value->Shared->Prop}{s:Shared} (h:wpAny M A t Q E s) (hQ:∀ a s,Q a s->Q' a s):wpAny M A t Q' E s:=aW0 h hQ fun _ _ x=>x
section
variable {X : Cx}
theorem bin {a b:Expr}{ta tb:TE} (ha:PE X a ta) (hb:PE X b tb) {pins:List (Addr × Obj)}{s:Shared}{σ:St}{H:Hp}{R:V->V->Hp->Prop} (I:a7 X pins σ H s) (h:ta σ H fun x H1=>tb σ H1 fun y H2=>R x y H2)
  {α:Type}{Q:α->Shared->Prop}{f:Value->Value->Sem α}
  (hf:∀ v u s2 x y H2,a7 X pins σ H2 s2->aT x v->aT y u->R x y H2->wpAny (model X.prog X.w) X.A (f v u) Q X.xe s2) :
  wpAny (model X.prog X.w) X.A (eval a X.env) (fun v s₁=>wpAny (model X.prog X.w) X.A (eval b X.env) (fun u s₂=>wpAny (model X.prog X.w) X.A (f v u) Q X.xe s₂) X.xe s₁) X.xe s:=by
 refine aK (ha pins s σ H _ I h) fun v s1 ⟨x,H1,I1,r1,q1⟩=>?_
 refine aK (hb pins s1 σ H1 _ I1 q1) fun u s2 ⟨y,H2,I2,r2,q2⟩=>?_
 exact hf v u s2 x y H2 I2 r1 r2 q2
def iZ (i:Nat):TE:=fun σ H Q=>∃ v,σ[i]? = some (some v)/\Q v H
def tC (v:V):TE:=fun _ H Q=>Q v H
theorem jZ {i:Nat}{x:Str}{pos:Pos} (hN:X.N[i]? = some x) (hv:gR X.env.scope x) (hd:(x == ("__debug__" : Str))=false:=by decide) (hcd:(x == ("__classdict__" : Str))=false:=by decide):PE X (.Name x pos) (iZ i):=by
 intro pins s σ H Q I h
 obtain ⟨v,e,h⟩:=h
 obtain ⟨m,hn,hl⟩:=I.loc
 obtain ⟨u,r,l⟩:=hl i x v hN e hv
 have fin:EP X pins σ Q u s:=⟨v,H,I,r,h⟩
 rcases l with ⟨hk,hm⟩ | ⟨hk,c,hc,hcell⟩
 ·exact wpAny_Name (wpAny_loadName_local I.ok.kind hk hn hm fin) hd
 ·rcases hk with hk | hk
  ·exact wpAny_Name (wpAny_loadName_cell I.ok.kind hk hc hcell fin) hd
  ·exact wpAny_Name (wpAny_loadName_free I.ok.kind hk hc hcell fin hcd) hd
theorem fJ {i j pos}:PE X (.Constant (.int i) j pos) (tC (.int i)):=fun _ _ _ H _ I h=>wpAny_Constant_int ⟨.int i,H,I.tok _,⟨_,rfl⟩,h⟩
theorem V8 {b j pos}:PE X (.Constant (.bool b) j pos) (tC (.bl b)):=fun _ _ _ H _ I h=>Constant_bool ⟨.bl b,H,I,rfl,h⟩
theorem V9 {j pos}:PE X (.Constant .none j pos) (tC .non):=fun _ _ _ H _ I h=>Constant_none ⟨.non,H,I,rfl,h⟩
theorem W0 {x j pos}:PE X (.Constant (.str x) j pos) (tC (.str x)):=fun _ _ _ H _ I h=>Calls.Constant_str ⟨.str x,H,I.tok _,⟨_,rfl⟩,h⟩
def Gl (X:Cx) (x:Str):Prop:=X.env.kindOf x=some .globalImplicit
theorem mC {E:Value->Shared->Prop}{pins:List (Addr × Obj)}{s:Shared}{σ:St}{H:Hp}{x:Str}{u:Value}{pos:Pos}{Q:Value->Shared->Prop} (I:a7 X pins σ H s) (hg:Gl X x) (hm:X.mg x=some u) (h:Q u s)
  (hd:(x == ("__debug__" : Str))=false:=by decide):wpAny (model X.prog X.w) X.A (eval (.Name x pos) X.env) Q E s:=
 Calls.Name_function_global I.ok.kind hg (Calls.loadGlobal_global (by rw [I.ok.glob]; exact I.mod.glob.keeps I.bk) hm h) hd
theorem gS {E:Value->Shared->Prop}{pins:List (Addr × Obj)}{s:Shared}{σ:St}{H:Hp}{x:Str}{u:Value}{pos:Pos}{Q:Value->Shared->Prop} (I:a7 X pins σ H s) (hg:Gl X x) (hm:X.mg x=none) (hv:bootBuiltins x=some u) (h:Q u s)
  (hn:x ≠ "__name__":=by decide) (hd:(x == ("__debug__" : Str))=false:=by decide):wpAny (model X.prog X.w) X.A (eval (.Name x pos) X.env) Q E s:=by
 obtain ⟨mb,h1,h2⟩:=I.mod.blt
 exact Calls.Name_function_global I.ok.kind hg (Calls.loadGlobal_builtin (by rw [I.ok.glob]; exact I.mod.glob.keeps I.bk) hm (by rw [I.ok.blt]; exact h1.keeps I.bk) ((h2 x hn).trans hv) h) hd
theorem wA {x:Str}{v:V}{u:Value}{pos:Pos} (hg:Gl X x) (hm:X.mg x=some u) (r:aT v u) (hd:(x == ("__debug__" : Str))=false:=by decide):PE X (.Name x pos) (tC v):=
 fun _ _ _ H _ I h=>mC I hg hm ⟨v,H,I,r,h⟩ hd
theorem W5 {x:Str}{v:V}{u:Value}{pos:Pos} (hg:Gl X x) (hm:X.mg x=none) (hv:bootBuiltins x=some u) (r:aT v u) (hn:x ≠ "__name__":=by decide) (hd:(x == ("__debug__" : Str))=false:=by decide):PE X (.Name x pos) (tC v):=
 fun _ _ _ H _ I h=>gS I hg hm hv ⟨v,H,I,r,h⟩ hn hd
variable {a b : Expr} {ta tb : TE} {pos : Pos}
def PC (X:Cx) (op:CmpOp) (a b:Expr) (t:TE):Prop:=
 ∀ (pins:List (Addr × Obj)) (s:Shared) (σ:St) (H:Hp) (Q:VK),a7 X pins σ H s->t σ H Q->
  wpAny (model X.prog X.w) X.A (eval a X.env) (fun v s₁=>wpAny (model X.prog X.w) X.A (eval b X.env) (fun u s₂=>wpAny (model X.prog X.w) X.A (compareOp op v u) (EP X pins σ Q) X.xe s₂) X.xe s₁) X.xe s
def tB (t:TE):TT:=fun σ H Q=>t σ H fun x H1=>∃ c,x = .bl c/\Q c H1
theorem W6 {op:CmpOp}{t:TE} (h:PC X op a b t) (h1:behindInMarks op b=false:=by first | exact nobehind _ (by decide) (by decide) | rfl):PE X (.Compare a [op] [b] pos) t:=fun pins s σ H Q I hw=>wpAny_Compare1 (h pins s σ H Q I hw) h1
theorem wB {op:CmpOp}{t:TE} (h:PC X op a b t) (h1:behindInMarks op b=false:=by first | exact nobehind _ (by decide) (by decide) | rfl):PT X (.Compare a [op] [b] pos) (tB t):=by
 intro pins s σ H Q I hw
 refine wpAny_isTrue_Compare1 (aK (h pins s σ H _ I hw) fun v s1 h1=>aK h1 fun u s2 h2=>aK h2 fun c s3 ⟨x,H1,I1,r1,q1⟩=>?_) h1
 obtain ⟨d,rfl,q⟩:=q1
 cases r1
 exact aZ3 ⟨H1,I1,q⟩
theorem W7 {e:Expr}{t:TE} (h:PE X e t) (he:∀ whole,isTrue e X.env whole=(do let v <- whole; standAt e.pos; holding [v] (truthy v)):=by intro _; rfl):PT X e (tB t):=by
 intro pins s σ H Q I hw
 refine isTrue_plain (aK (h pins s σ H _ I hw) fun v s1 ⟨x,H1,I1,r1,q1⟩=>?_) (he _)
 obtain ⟨d,rfl,q⟩:=q1
 cases r1
 exact aZ3 ⟨H1,I1,q⟩
variable {tA tB' : TT} {cI : List Expr}
def wC (t u:TT):TT:=fun σ H Q=>t σ H fun c H1=>if c=true then u σ H1 Q else Q false H1
def wD (t u:TT):TT:=fun σ H Q=>t σ H fun c H1=>if c=true then Q true H1 else u σ H1 Q
def wE (t:TT):TT:=fun σ H Q=>t σ H fun c H1=>Q (!c) H1
theorem W8 (ha:PT X a tA):PW X (.BoolOp .And [a] pos) tA:=by
 intro wh pins s σ H Q I h
 refine isTrue_and (aK (ha pins s σ H Q I h) fun c s1 e=>?_)
 cases c with
 | true=>exact isTrue_and_nil e
 | false=>exact e
theorem W9 (ha:PT X a tA):PW X (.BoolOp .Or [a] pos) tA:=by
 intro wh pins s σ H Q I h
 refine isTrue_or (aK (ha pins s σ H Q I h) fun c s1 e=>?_)
 cases c with
 | false=>exact isTrue_or_nil e
 | true=>exact e
theorem X0 (ha:PT X a tA) (hb:PW X (.BoolOp .And (b :: cI) pos) tB'):PW X (.BoolOp .And (a :: b :: cI) pos) (wC tA tB'):=by
 intro wh pins s σ H Q I h
 refine isTrue_and (aK (ha pins s σ H _ I h) fun c s1 ⟨H1,I1,q1⟩=>?_)
 cases c with
 | true=>exact hb wh pins s1 σ H1 Q I1 q1
 | false=>exact⟨H1,I1,q1⟩
theorem X1 (ha:PT X a tA) (hb:PW X (.BoolOp .Or (b :: cI) pos) tB'):PW X (.BoolOp .Or (a :: b :: cI) pos) (wD tA tB'):=by
 intro wh pins s σ H Q I h
 refine isTrue_or (aK (ha pins s σ H _ I h) fun c s1 ⟨H1,I1,q1⟩=>?_)
 cases c with
 | true=>exact⟨H1,I1,q1⟩
 | false=>exact hb wh pins s1 σ H1 Q I1 q1
theorem X2 (ha:PT X a tA):PT X (.UnaryOp .Not a pos) (wE tA):=by
 intro pins s σ H Q I h
 exact isTrue_not (ha pins s σ H (fun c H1=>Q (!c) H1) I h)
def wF (ta tb:TE):TE:=fun σ H Q=>ta σ H fun x H1=>∃ c,x = .bl c/\if c=true then tb σ H1 Q else Q (.bl false) H1
def wG (ta tb:TE):TE:=fun σ H Q=>ta σ H fun x H1=>∃ c,x = .bl c/\if c=true then Q (.bl true) H1 else tb σ H1 Q
theorem X3 {op}{t:TE} (h:PE X a t):PE X (.BoolOp op [a] pos) t:=fun pins s σ H Q I hw=>BoolOp_one (h pins s σ H Q I hw)
theorem X4 (ha:PE X a ta) (hb:PE X (.BoolOp .And (b :: cI) pos) tb):PE X (.BoolOp .And (a :: b :: cI) pos) (wF ta tb):=by
 intro pins s σ H Q I h
 refine BoolOp_and (aK (ha pins s σ H _ I h) fun v s1 ⟨x,H1,I1,r1,q1⟩=>?_)
 obtain ⟨c,rfl,q1⟩:=q1
 cases r1
 refine aZ3 ?_
 cases c with
 | true=>exact hb pins s1 σ H1 Q I1 q1
 | false=>exact⟨.bl false,H1,I1,rfl,q1⟩
theorem X5 (ha:PE X a ta) (hb:PE X (.BoolOp .Or (b :: cI) pos) tb):PE X (.BoolOp .Or (a :: b :: cI) pos) (wG ta tb):=by
 intro pins s σ H Q I h
 refine BoolOp_or (aK (ha pins s σ H _ I h) fun v s1 ⟨x,H1,I1,r1,q1⟩=>?_)
 obtain ⟨c,rfl,q1⟩:=q1
 cases r1
 refine aZ3 ?_
 cases c with
 | false=>exact hb pins s1 σ H1 Q I1 q1
 | true=>exact⟨.bl true,H1,I1,rfl,q1⟩
end
def aH (K:PySem.W.Frag) (H:Hp) (a:Addr) (xs:List V):Prop:=
 Rd H a (.lst xs) ∨
  ∃ (o:Obj) (its:Array Value) (n:Nat),K.lookup a=some o/\o.cls = .type "list"/\o.dict=none/\o.data = .seq its n/\its.size<=sizeLine/\aR xs its.toList
def aF (K:PySem.W.Frag) (H:Hp) (a:Addr) (xs:List V):Prop:=
 Rd H a (.tup xs) ∨
  ∃ (o:Obj) (its:Array Value) (n:Nat),K.lookup a=some o/\o.cls = .type "tuple"/\o.data = .seq its n/\its.size<=sizeLine/\aR xs its.toList
def X6:Value->Option V
 | .none=>some .non
 | .bool b=>some (.bl b)
 | .int i _=>some (.int i)
 | .str x _=>some (.str x)
 | .bytes b _=>some (.byt b)
 | .float b _=>some (.flt b)
 | .ref a=>some (.ref a)
 | .type n=>some (.ty n)
 | _=>none
theorem aT.abs {x:V}{u:Value} (r:aT x u):X6 u=some x:=by
 cases x with
 | non=>cases r; rfl
 | bl _=>cases r; rfl
 | int _=>obtain ⟨t,rfl⟩:=r; rfl
 | str _=>obtain ⟨t,rfl⟩:=r; rfl
 | byt _=>obtain ⟨t,rfl⟩:=r; rfl
 | flt _=>obtain ⟨t,rfl⟩:=r; rfl
 | ref _=>cases r; rfl
 | ty _=>cases r; rfl
theorem aT.inj {x y:V}{u:Value} (r:aT x u) (q:aT y u):x=y:=aS7 (r.abs.symm.trans q.abs)
theorem aR.inj:∀ {xs ys:List V}{us:List Value},aR xs us->aR ys us->xs=ys
 | _,_,_,.nil,.nil=>rfl
 | _,_,_,.cons r t,.cons r' t'=>by rw [r.inj r',aR.inj t t']
section
variable {X : Cx} {pins : List (Addr × Obj)} {σ : St} {H : Hp} {s : Shared} {a : Addr} {xs ys : List V}
theorem aH.of {K:PySem.W.Frag} (h:H a=some (.lst xs)):aH K H a xs:=.inl (.inl h)
theorem aF.of {K:PySem.W.Frag} (h:H a=some (.tup xs)):aF K H a xs:=.inl (.inl h)
theorem a7.list (I:a7 X pins σ H s) (h:aH X.K H a xs):∃ its:List Value,aR xs its/\PlainL s.heap a its.toArray/\xs.length<=sizeLine:=by
 rcases h with h | ⟨o,its,n,hk,hc,hd,hs,hz,r⟩
 ·obtain ⟨z,its,n,r,e⟩:=h.ok I.hok
  exact⟨its,r,⟨_,n,e,rfl,rfl,rfl⟩,z⟩
 ·refine⟨its.toList,r,⟨o,n,I.kIn a o hk,hc,hd,by simpa using hs⟩,?_⟩
  have e:=r.length
  simp only [aV4] at e
  omega
theorem a7.tuple (I:a7 X pins σ H s) (h:aF X.K H a xs):∃ its:List Value,aR xs its/\IsTup s.heap a its.toArray/\xs.length<=sizeLine:=by
 rcases h with h | ⟨o,its,n,hk,hc,hs,hz,r⟩
 ·obtain ⟨z,its,r,p,_⟩:=h.ok I.hok
  exact⟨its,r,p,z⟩
 ·refine⟨its.toList,r,⟨o,I.kIn a o hk,hc,n,by simpa using hs⟩,?_⟩
  have e:=r.length
  simp only [aV4] at e
  omega
theorem a7.list_inj (I:a7 X pins σ H s) (h:aH X.K H a xs) (h':aH X.K H a ys):xs=ys:=by
 obtain ⟨its,r,⟨o,n,e,_,_,d⟩,_⟩:=I.list h
 obtain ⟨its',r',⟨o',n',e',_,_,d'⟩,_⟩:=I.list h'
 rw [e] at e'; cases e'
 rw [d] at d'
 injection d' with d1 _
 have:its=its':=by simpa using congrArg Array.toList d1
 subst this
 exact r.inj r'
theorem a7.tuple_inj (I:a7 X pins σ H s) (h:aF X.K H a xs) (h':aF X.K H a ys):xs=ys:=by
 obtain ⟨its,r,⟨o,e,_,n,d⟩,_⟩:=I.tuple h
 obtain ⟨its',r',⟨o',e',_,n',d'⟩,_⟩:=I.tuple h'
 rw [e] at e'; cases e'
 rw [d] at d'
 injection d' with d1 _
 have:its=its':=by simpa using congrArg Array.toList d1
 subst this
 exact r.inj r'
end
abbrev Cx.wish (X:Cx) (E:Value->Shared->Prop):Cx:={ X with xe:=E }
abbrev Cx.nox (X:Cx):Cx:=X.wish fun _ _=>False
theorem Cx.Ok.wish {X:Cx} (ok:X.Ok) (E:Value->Shared->Prop):(X.wish E).Ok:=
 ⟨ok.mod,ok.kind,ok.glob,ok.blt,ok.above,ok.inj,ok.has,ok.cab,ok.hd,ok.frames,ok.stk,ok.exf,ok.bs,ok.bsz,ok.noex,ok.exfs,ok.funs,ok.frf⟩
theorem Cx.Ok.unwish {X:Cx}{E:Value->Shared->Prop} (ok:(X.wish E).Ok):X.Ok:=
 ⟨ok.mod,ok.kind,ok.glob,ok.blt,ok.above,ok.inj,ok.has,ok.cab,ok.hd,ok.frames,ok.stk,ok.exf,ok.bs,ok.bsz,ok.noex,ok.exfs,ok.funs,ok.frf⟩
section
variable {X : Cx} {pins : List (Addr × Obj)} {σ : St} {H : Hp} {s : Shared} {E : Value → Shared → Prop}
theorem a7.wish (I:a7 X pins σ H s) (E:Value->Shared->Prop):a7 (X.wish E) pins σ H s:=⟨I.ok.wish E,I.os,I.bare,I.base,I.loc,I.cell,I.free,I.freeC,I.pin,I.hok,I.len⟩
theorem a7.unwish (I:a7 (X.wish E) pins σ H s):a7 X pins σ H s:=⟨I.ok.unwish,I.os,I.bare,I.base,I.loc,I.cell,I.free,I.freeC,I.pin,I.hok,I.len⟩
theorem SP.unwish {D:cR}{f:Flow}{s':Shared} (h:SP (X.wish E) pins D f s'):SP X pins D f s':=by
 cases f with
 | next=>obtain ⟨σ',H',I,q⟩:=h; exact⟨σ',H',I.unwish,q⟩
 | brk=>obtain ⟨σ',H',I,q⟩:=h; exact⟨σ',H',I.unwish,q⟩
 | cont=>obtain ⟨σ',H',I,q⟩:=h; exact⟨σ',H',I.unwish,q⟩
 | ret u=>obtain ⟨v,σ',H',I,r,q⟩:=h; exact⟨v,σ',H',I.unwish,r,q⟩
theorem dB.nox {st:List Stmt}{t:TS} (h:dB X.nox st t):dB X st t:=fun pins s σ H D I hw=>
 aW0 (h pins s σ H D (I.wish _) hw) (fun _ _ q=>q.unwish) fun _ _ z=>False.elim z
end
section
variable {X : Cx} {st : Stmt} {cI : List Stmt} {t u : TS} {e : Expr} {te : TE} {pos : Pos}
def wH:TS:=fun D σ H=>D.nx σ H
def wI (t u:TS):TS:=fun D σ H=>t { D with nx:=u D } σ H
theorem X7:dB X [] wH:=fun _ _ σ H _ I h=>bb3 ⟨σ,H,I,h⟩
theorem j2 (h1:PS X st t) (h2:dB X cI u):dB X (st :: cI) (wI t u):=by
 intro pins s σ H D I h
 refine wpAny_execs_cons (aK (h1 pins s σ H { D with nx:=u D } I h) fun f s1 q=>?_)
 cases f with
 | next=>
  obtain ⟨σ',H',I',q⟩:=q
  exact h2 pins s1 σ' H' D I' q
 | ret v=>exact q
 | brk=>exact q
 | cont=>exact q
theorem k6 (h1:PS X st t):dB X [st] t:=by
 intro pins s σ H D I h
 refine wpAny_execs_cons (aK (h1 pins s σ H D I h) fun f s1 q=>?_)
 cases f with
 | next=>exact bb3 q
 | ret v=>exact q
 | brk=>exact q
 | cont=>exact q
theorem a7.quiet {pins:List (Addr × Obj)}{σ:St}{H:Hp}{s:Shared} (I:a7 X pins σ H s):interactive X.env=false:=by simp [interactive,I.ok.kind]
def oD (te:TE):TS:=fun D σ H=>te σ H fun _ H1=>D.nx σ H1
theorem k7 (he:PE X e te) (hs:swapsWith e none pos.line X.env=pure false:=by rfl):PS X (.Expr e pos) (oD te):=by
 intro pins s σ H D I h
 exact wpAny_Expr_any (aK (he pins s σ H _ I h) fun v s1 ⟨x,H1,I1,r1,q1⟩=>⟨σ,H1,I1,q1⟩) I.quiet hs
def rT (te:TE):TS:=fun D σ H=>te σ H D.rt
theorem kW (he:PE X e te):PS X (.Return (some e) pos) (rT te):=by
 intro pins s σ H D I h
 exact wpAny_Return_some (aK (he pins s σ H _ I h) fun v s1 ⟨x,H1,I1,r1,q1⟩=>⟨x,σ,H1,I1,r1,q1⟩)
def wJ (c:TT) (t u:TS):TS:=fun D σ H=>c σ H fun b H1=>if b=true then t D σ H1 else u D σ H1
theorem X8 {c:Expr}{a b:List Stmt}{tc:TT} (hc:PT X c tc) (ha:dB X a t) (hb:dB X b u):PS X (.If c a b pos) (wJ tc t u):=by
 intro pins s σ H D I h
 refine wpAny_If (aK (hc pins s σ H _ I h) fun d s1 ⟨H1,I1,q1⟩=>?_)
 cases d with
 | true=>exact ha pins s1 σ H1 D I1 q1
 | false=>exact hb pins s1 σ H1 D I1 q1
end
abbrev TG:=V->St->Hp->(St->Hp->Prop)->Prop
abbrev k8:=List V->St->Hp->(St->Hp->Prop)->Prop
def PG (X:Cx) (target:Expr) (t:TG):Prop:=
 ∀ (pins:List (Addr × Obj)) (s:Shared) (σ:St) (H:Hp) (v:V) (u:Value) (Q:St->Hp->Prop),a7 X pins σ H s->aT v u->t v σ H Q->
  wpAny (model X.prog X.w) X.A (assign target X.env u) (fun _ s'=>∃ σ' H',a7 X pins σ' H' s'/\Q σ' H') X.xe s
def oE (X:Cx) (ts:List Expr) (t:k8):Prop:=
 ∀ (pins:List (Addr × Obj)) (s:Shared) (σ:St) (H:Hp) (vs:List V) (us:List Value) (Q:St->Hp->Prop),a7 X pins σ H s->aR vs us->t vs σ H Q->
  wpAny (model X.prog X.w) X.A (assignInOrder ((assignEach ts X.env).map (·.2)) us) (fun _ s'=>∃ σ' H',a7 X pins σ' H' s'/\Q σ' H') X.xe s
section
variable {X : Cx} {pos : Pos}
def cJ (i:Nat):TG:=fun v σ H Q=>Q (σ.set i (some v)) H
theorem dQ {i:Nat}{x:Str} (hN:X.N.Nodup) (hi:X.N[i]? = some x) (hx:i5 X.env.scope x) (hf:X.fn x=true ∨ X.env.scope.names.lookup x=some .local:=by first | exact .inl rfl | exact .inr rfl | assumption):PG X (.Name x pos) (cJ i):=by
 intro pins s σ H v u Q I r h
 exact wpAny_assign_Name (rS I hN hi hx r (fun s' I'=>⟨_,H,I',h⟩) hf)
def j3:k8:=fun vs σ H Q=>vs = []/\Q σ H
def eG (t:TG) (u:k8):k8:=fun vs σ H Q=>∃ v r,vs=v :: r/\t v σ H fun σ' H'=>u r σ' H' Q
theorem kX:oE X [] j3:=by
 intro pins s σ H vs us Q I r h
 obtain ⟨e,h⟩:=h
 subst e
 cases r
 exact assignInOrder_nil ⟨σ,H,I,h⟩
theorem fL {e:Expr}{es:List Expr}{t:TG}{u:k8} (h1:PG X e t) (h2:oE X es u)
  (hs:(assignEach (e :: es) X.env).map (·.2)=assign e X.env :: (assignEach es X.env).map (·.2):=by rfl):oE X (e :: es) (eG t u):=by
 intro pins s σ H vs us Q I r h
 obtain ⟨v,vr,e1,h⟩:=h
 subst e1
 cases r with
 | cons r rr=>
  rw [hs]
  refine assignInOrder_cons (aK (h1 pins s σ H _ _ _ I r h) fun _ s1 ⟨σ1,H1,I1,q1⟩=>?_)
  exact h2 pins s1 σ1 H1 _ _ Q I1 rr q1
def j4 (K:PySem.W.Frag) (n:Nat) (t:k8):TG:=fun v σ H Q=>∃ a xs,v = .ref a/\aF K H a xs/\xs.length=n/\t xs σ H Q
theorem kY {es:List Expr}{k:Nat}{t:k8}{n:Nat} (hc:X.calm=true) (h:oE X es t)
  (hn:(assignEach es X.env).length=n:=by rfl) (hst:(assignEach es X.env).findIdx? (·.1)=none:=by rfl):PG X (.Tuple es k pos) (j4 X.K n t):=by
 intro pins s σ H v u Q I r hw
 obtain ⟨a,xs,e1,hq,hl,hw⟩:=hw
 subst e1
 cases r
 obtain ⟨its,rv,ht,hz⟩:=I.tuple hq
 refine assign_Tuple_tuple (I.ok.hd hc) ht (by simp [hn,<- hl,rv.length]) hst fun h' hx=>?_
 have I1:a7 X pins σ H { s with heap:=h' }:=I.kept (t':=s.toks) fun b o e=>hx b o (aS8 (aR0 e)) e
 exact h pins _ σ H xs _ Q I1 (by simpa using rv) hw
def mD (te:TE) (g:TG):TS:=fun D σ H=>te σ H fun x H1=>g x σ H1 D.nx
theorem rV {i:Nat}{x:Str}{e:Expr}{te:TE}{pos':Pos} (hN:X.N.Nodup) (hi:X.N[i]? = some x) (hx:i5 X.env.scope x) (he:PE X e te) (hs:swapsWith e (some (.Name x pos')) pos.line X.env=pure false:=by rfl) (hf:X.fn x=true ∨ X.env.scope.names.lookup x=some .local:=by first | exact .inl rfl | exact .inr rfl | assumption) :
  PS X (.Assign [.Name x pos'] e pos) (mD te (cJ i)):=by
 intro pins s σ H D I h
 refine wpAny_Assign_Name (aK (he pins s σ H _ I h) fun v s1 ⟨y,H1,I1,r1,q1⟩=>?_) hs
 exact rS I1 hN hi hx r1 (fun s2 I2=>⟨_,H1,I2,q1⟩) hf
end
section
variable {X : Cx} {pos : Pos}
def wK (c:TT) (tb:TS):TS:=fun D σ H=>∃ W:Nat->St->Hp->Prop,(∃ m,W m σ H)/\∀ m σ H,W m σ H->
 c σ H fun b H1=>if b=true then ∃ N:St->Hp->Prop,(∀ σ' H',N σ' H'->∃ m',m' < m/\W m' σ' H')/\tb { D with nx:=N,ct:=N,bk:=D.nx } σ H1 else D.nx σ H1
theorem X9 {c:Expr}{body:List Stmt}{tc:TT}{tb:TS} (hp:PassesOwn (model X.prog X.w) X.A X.env X.xe) (hc:PT X c tc) (hb:dB X body tb):PS X (.While c body [] pos) (wK tc tb):=by
 intro pins s σ H D I h
 obtain ⟨W,⟨m0,w0⟩,turn⟩:=h
 refine wpAny_While (codeAny_whileLoop (fun n s'=>∃ σ' H',a7 X pins σ' H' s'/\W n σ' H') ?_ m0 ⟨σ,H,I,w0⟩)
 rintro n s1 ⟨σ1,H1,I1,w1⟩
 refine bb4 hp (aK (hc pins s1 σ1 H1 _ I1 (turn n σ1 H1 w1)) fun b s2 ⟨H2,I2,q2⟩=>?_)
 cases b with
 | true=>
  obtain ⟨N,hN,q2⟩:=q2
  rw [if_pos rfl]
  refine bb4 hp (aK (hb pins s2 σ1 H2 _ I2 q2) fun f s3 q3=>?_)
  cases f with
  | next=>
   obtain ⟨σ3,H3,I3,n3⟩:=q3
   obtain ⟨m',hm,w3⟩:=hN σ3 H3 n3
   exact⟨m',hm,σ3,H3,I3,w3⟩
  | cont=>
   obtain ⟨σ3,H3,I3,n3⟩:=q3
   obtain ⟨m',hm,w3⟩:=hN σ3 H3 n3
   exact⟨m',hm,σ3,H3,I3,w3⟩
  | brk=>exact q3
  | ret v=>exact q3
 | false=>
  rw [if_neg aS3]
  exact bb3 ⟨σ1,H2,I2,q2⟩
end
structure It where
 go:Nat->Hp->Prop
 yld:Nat->Hp->V->Hp->Prop
 stop:Nat->Hp->Prop
def fM (X:Cx) (pins:List (Addr × Obj)) (H:Hp) (b:Addr):Prop:=
 H b=none/\b ≠ X.env.locals/\b ∉ X.fs/\(b ∈ X.ex ∨ X.s₀.heap.objs.size<=b)/\(∀ x c,X.env.cells.lookup x=some c->c ≠ b)/\∀ p ∈ X.pn ++ pins,p.1 ≠ b
theorem a7.fpOk {X:Cx}{pins:List (Addr × Obj)}{σ:St}{H H':Hp}{s:Shared}{b:Addr} (I:a7 X pins σ H s) (hb:s.heap.objs.size<=b) (hn:H' b=none):fM X pins H' b:=by
 refine⟨hn,aX9 (aQ9 I.lt hb),I.nofs hb,.inr (aU0 I.sz hb),fun x c e z=>?_,fun p hp z=>?_⟩
 ·obtain ⟨v,q⟩:=I.cell x c e
  exact absurd (aQ9 q.lt (by rw [z]; exact hb)) (aU2 _)
 ·exact absurd (aQ9 (aR0 (I.pin p hp).1) (by rw [z]; exact hb)) (aU2 _)
structure gA (P:Program) (w:World) (K:PySem.W.Frag) (tg:Expr) (J:It) (fp:List Addr) (it:Addr) (tn:Nat->Heap->Prop):Prop where
 mem:it ∈ fp
 obj:∀ i h,tn i h->∀ b ∈ fp,∃ o,h.get? b=some o/\∀ v,o.data ≠ .cell v
 keep:∀ i h h',tn i h->(∀ b ∈ fp,∀ o,h.get? b=some o->h'.get? b=some o)->tn i h'
 item:∀ (X:Cx),X.prog=P->X.w=w->X.K=K->X.calm=true->∀ (i:Nat) (pins:List (Addr × Obj)) (s:Shared) (σ:St) (H:Hp) (E:Value->Shared->Prop),a7 X pins σ H s->(∀ b ∈ fp,fM X pins H b)->tn i s.heap->J.go i H->
  wpAny (model P w) X.A (pyNext (.ref it)) (fun r s1=>∃ u,r=some u/\
   wpAny (model P w) X.A (letOwnedTupleGo tg (.ref it) u) (fun _ s2=>∃ x H',a7 X pins σ H' s2/\aT x u/\J.yld i H x H'/\tn (i+1) s2.heap/\∀ b ∈ fp,H' b=none) E s1) E s
 done:∀ (X:Cx),X.prog=P->X.w=w->X.K=K->X.calm=true->∀ (i:Nat) (pins:List (Addr × Obj)) (s:Shared) (σ:St) (H:Hp) (E:Value->Shared->Prop),a7 X pins σ H s->(∀ b ∈ fp,fM X pins H b)->tn i s.heap->J.stop i H->
  wpAny (model P w) X.A (pyNext (.ref it)) (fun r s1=>r=none/\a7 X pins σ H s1) E s
 self:∀ (A:Around) (i:Nat) (s:Shared) (Q:Value->Shared->Prop) (E:Value->Shared->Prop),tn i s.heap->Q (.ref it) s->wpAny (model P w) A (pyIter (.ref it)) Q E s
abbrev TI:=St->Hp->(It->Hp->Prop)->Prop
def wL (X:Cx) (pins:List (Addr × Obj)) (σ:St) (tg:Expr) (R:It->Hp->Prop) (itv:Value) (s2:Shared):Prop:=
 ∃ (it:Addr) (fp:List Addr) (tn:Nat->Heap->Prop) (J:It) (H':Hp),itv = .ref it/\a7 X pins σ H' s2/\gA X.prog X.w X.K tg J fp it tn/\tn 0 s2.heap/\(∀ b ∈ fp,fM X pins H' b)/\R J H'
def PI (X:Cx) (tg iter:Expr) (wi:TI):Prop:=
 ∀ (pins:List (Addr × Obj)) (s:Shared) (σ:St) (H:Hp) (R:It->Hp->Prop),a7 X pins σ H s->wi σ H R->
  wpAny (model X.prog X.w) X.A (eval iter X.env) (fun v s1=>wpAny (model X.prog X.w) X.A (pyIter v) (wL X pins σ tg R) X.xe s1) X.xe s
theorem rW {M:Model}{A:Around}{E:Value->Shared->Prop}{s:Shared}{tg:Expr}{it:Addr}{u:Value}{o:Obj}{n:String}{vs:Array Value}{Q:Unit->Shared->Prop} (ho:s.heap.get? it=some o) (hc:o.cls = .type n) (hd:o.data = .fields vs)
    (hn : ["enumerate","zip","dict_itemiterator","dict_reverseitemiterator","odict_iterator","itertools.zip_longest","itertools.pairwise"].contains n=false) (hQ:Q () s):wpAny M A (letOwnedTupleGo tg (.ref it) u) Q E s:=by
  unfold letOwnedTupleGo
  cases tg <;> first
    | exact aQ5 hQ
    | (cases u <;> first
        | exact aQ5 hQ
        | (refine aQ0 (wpAny_load ho ?_)
           rw [hc,hd]
           show wpAny M A (if (["enumerate","zip","dict_itemiterator","dict_reverseitemiterator","odict_iterator","itertools.zip_longest","itertools.pairwise"].contains n && vs[0]? == some (rawInt _))=true then _ else _) Q E s
           rw [if_neg (by intro h; rw [hn,Bool.false_and] at h; cases h)]
           exact aQ5 hQ))
def kZ (K:PySem.W.Frag) (a:Addr):It:=
 ⟨fun i H=>∃ xs x,aH K H a xs/\xs[i]? = some x,fun i H x H'=>H'=H/\∀ xs,aH K H a xs->xs[i]? = some x,fun i H=>∃ xs,aH K H a xs/\xs.length<=i⟩
def j5 (K:PySem.W.Frag) (a:Addr):It:=
 ⟨fun i H=>∃ xs x,aF K H a xs/\xs[i]? = some x,fun i H x H'=>H'=H/\∀ xs,aF K H a xs->xs[i]? = some x,fun i H=>∃ xs,aF K H a xs/\xs.length<=i⟩
def mE (lo:Int) (n:Nat):It:=⟨fun i _=>i < n,fun i H x H'=>H'=H/\x = .int (lo+i),fun i _=>n<=i⟩
theorem Y0 {P:Program}{w:World}{K:PySem.W.Frag}{tg:Expr} (a it:Addr):gA P w K tg (kZ K a) [it] it (fun i h=>h.IsListIter it a i) where
 mem:=by simp
 obj:=fun i h st b hb=>by
  have e:b=it:=by simpa using hb
  subst e
  obtain ⟨o,e,c,d⟩:=st
  exact⟨o,e,fun v z=>by rw [d] at z; cases z⟩
 keep:=fun i h h' st k=>st.at fun o e=>k it (by simp) o e
 item:=by
  intro X hP hw hK hc i pins s σ H E I hf st hg
  subst hP hw hK
  obtain ⟨xs,x,hq,hx⟩:=hg
  obtain ⟨its,rv,p,hz⟩:=I.list hq
  obtain ⟨u,hu,ru⟩:=rv.get hx
  obtain ⟨f0,f1,f2,f3,f4,f5⟩:=hf it (by simp)
  refine wpAny_pyNext_list_item st p.isList (x:=u) (by simpa using hu) fun h' st' sb=>?_
  have I1:a7 X pins σ H { s with heap:=h' }:=I.turned (t':=s.toks) (fun b o hb e=>(sb.2 b hb).trans e) f0 f1 f3 f4 f5
  obtain ⟨o,e,c,d⟩:=id st'
  exact⟨u,rfl,rW (s:={ s with heap:=h' }) e c d (by decide) ⟨x,H,I1,ru,⟨rfl,fun ys hy=>by rw [I.list_inj hy hq]; exact hx⟩,st',fun b hb=>(hf b hb).1⟩⟩
 done:=by
  intro X hP hw hK hc i pins s σ H E I hf st hg
  subst hP hw hK
  obtain ⟨xs,hq,hx⟩:=hg
  obtain ⟨its,rv,p,hz⟩:=I.list hq
  obtain ⟨f0,f1,f2,f3,f4,f5⟩:=hf it (by simp)
  have hl:=rv.length
  exact wpAny_pyNext_list_end (I.ok.hd hc) st p.isList (by simp; omega) fun h' eb=>⟨rfl,I.turned (t':=s.toks) (fun b o hb e=>eb b o hb e) f0 f1 f3 f4 f5⟩
 self:=fun _ _ _ _ _ st h=>wpAny_pyIter_listiter st h
theorem wM {P:Program}{w:World}{K:PySem.W.Frag}{tg:Expr} (a it:Addr):gA P w K tg (j5 K a) [it] it (fun i h=>h.IsTupleIter it a i) where
 mem:=by simp
 obj:=fun i h st b hb=>by
  have e:b=it:=by simpa using hb
  subst e
  obtain ⟨o,e,c,d⟩:=st
  exact⟨o,e,fun v z=>by rw [d] at z; cases z⟩
 keep:=fun i h h' st k=>st.at fun o e=>k it (by simp) o e
 item:=by
  intro X hP hw hK hc i pins s σ H E I hf st hg
  subst hP hw hK
  obtain ⟨xs,x,hq,hx⟩:=hg
  obtain ⟨its,rv,p,hz⟩:=I.tuple hq
  obtain ⟨u,hu,ru⟩:=rv.get hx
  obtain ⟨f0,f1,f2,f3,f4,f5⟩:=hf it (by simp)
  refine wpAny_pyNext_tuple_item st (show s.heap.IsTuple a its.toArray from p) (x:=u) (by simpa using hu) fun h' st' sb=>?_
  have I1:a7 X pins σ H { s with heap:=h' }:=I.turned (t':=s.toks) (fun b o hb e=>(sb.2 b hb).trans e) f0 f1 f3 f4 f5
  obtain ⟨o,e,c,d⟩:=id st'
  exact⟨u,rfl,rW (s:={ s with heap:=h' }) e c d (by decide) ⟨x,H,I1,ru,⟨rfl,fun ys hy=>by rw [I.tuple_inj hy hq]; exact hx⟩,st',fun b hb=>(hf b hb).1⟩⟩
 done:=by
  intro X hP hw hK hc i pins s σ H E I hf st hg
  subst hP hw hK
  obtain ⟨xs,hq,hx⟩:=hg
  obtain ⟨its,rv,p,hz⟩:=I.tuple hq
  obtain ⟨f0,f1,f2,f3,f4,f5⟩:=hf it (by simp)
  have hl:=rv.length
  exact wpAny_pyNext_tuple_end (I.ok.hd hc) st (show s.heap.IsTuple a its.toArray from p) (by simp; omega) fun h' eb=>⟨rfl,I.turned (t':=s.toks) (fun b o hb e=>eb b o hb e) f0 f1 f3 f4 f5⟩
 self:=fun _ _ _ _ _ st h=>wpAny_pyIter_tupleiter st h
theorem Y1 {P:Program}{w:World}{K:PySem.W.Frag}{tg:Expr} (it:Addr) (lo:Int) (n:Nat):gA P w K tg (mE lo n) [it] it (fun i h=>IsRangeIter h it (lo+(i:Nat) * 1) ((n:Int) - (i:Nat)) 1) where
 mem:=by simp
 obj:=fun i h st b hb=>by
  have e:b=it:=by simpa using hb
  subst e
  exact⟨_,st,fun v z=>by
   have z':Data.fields _=Data.cell v:=z
   cases z'⟩
 keep:=fun i h h' st k=>k it (by simp) _ st
 item:=by
  intro X hP hw hK hc i pins s σ H E I hf st hg
  subst hP hw hK
  obtain ⟨f0,f1,f2,f3,f4,f5⟩:=hf it (by simp)
  have W:=Walks.range (prog:=X.prog) (w:=X.w) (I.ok.hd hc) it lo 1 n
  refine W.item i s _ _ hg st fun v h' tk hv st' kk=>?_
  obtain ⟨t,rfl⟩:=hv
  have I1:a7 X pins σ H { s with heap:=h',toks:=tk }:=I.turned (fun b o hb e=>kk b o (by simpa using hb) e) f0 f1 f3 f4 f5
  refine⟨_,rfl,rW (s:={ s with heap:=h',toks:=tk }) (n:="range_iterator") st' rfl rfl (by decide) ⟨.int (lo+i),H,I1,⟨t,?_⟩,⟨rfl,rfl⟩,st',fun b hb=>(hf b hb).1⟩⟩
  rw [Int.mul_one]
 done:=by
  intro X hP hw hK hc i pins s σ H E I hf st hg
  subst hP hw hK
  obtain ⟨f0,f1,f2,f3,f4,f5⟩:=hf it (by simp)
  exact wpAny_pyNext_range_end (I.ok.hd hc) st (by have:n<=i:=hg; omega) fun h' eb=>⟨rfl,I.turned (t':=s.toks) (fun b o hb e=>eb b o hb e) f0 f1 f3 f4 f5⟩
 self:=fun _ _ _ _ _ st h=>wpAny_pyIter_rangeiter st h
section
variable {X : Cx} {tg : Expr}
def Y2 (K:PySem.W.Frag) (tl:TE):TI:=fun σ H R=>tl σ H fun x H1=>∃ a,x = .ref a/\(∃ xs,aF K H1 a xs)/\R (j5 K a) H1
theorem rX {l:Expr}{tl:TE} (hl:PE X l tl):PI X tg l (Y2 X.K tl):=by
 intro pins s σ H R I h
 refine aK (hl pins s σ H _ I h) fun v s1 ⟨x,H1,I1,r1,q1⟩=>?_
 obtain ⟨a,e,⟨xs,hq⟩,q⟩:=q1
 subst e
 cases r1
 obtain ⟨its,rv,p,hz⟩:=I1.tuple hq
 refine aY9 (show s1.heap.IsTuple a its.toArray from p) ?_
 refine⟨s1.heap.objs.size,[s1.heap.objs.size],_,_,H1,rfl,I1.kept (t':=s1.toks) fun b o e=>aQ1 _ e,wM a _,⟨_,aR5 _ rfl,rfl,rfl⟩,fun b hb=>?_,q⟩
 have e:b=s1.heap.objs.size:=by simpa using hb
 subst e
 exact I1.fpOk (aQ6 _) (I1.hok.fresh (aQ6 _))
theorem wN {pins:List (Addr × Obj)}{σ:St}{H:Hp}{s:Shared}{R:It->Hp->Prop}{E:Value->Shared->Prop}{lo hi:Int}{t u v:Tok}{tk:Nat} (I:a7 X pins σ H s) (h1 : -(2 ^ 62)<=lo) (h2:lo < 2 ^ 62) (h3 : -(2 ^ 62)<=hi) (h4:hi < 2 ^ 62)
  (q:R (mE lo (hi - lo).toNat) H):wpAny (model X.prog X.w) X.A (pyIter (.ref s.heap.objs.size)) (wL X pins σ tg R) E { s with heap:=s.heap.push { cls:=.type "range",data:=.fields #[.int lo t,.int hi u,.int 1 v] },toks:=tk }:=by
 refine wpAny_pyIter_range (IsRange.new ..) (small_one h1 h2 h3 h4) ?_
 have I1:a7 X pins σ H { s with heap:=s.heap.push { cls:=.type "range",data:=.fields #[.int lo t,.int hi u,.int 1 v] },toks:=tk }:=I.kept fun b o e=>aQ1 _ e
 refine⟨(s.heap.push { cls:=.type "range",data:=.fields #[.int lo t,.int hi u,.int 1 v] }).objs.size,[(s.heap.push { cls:=.type "range",data:=.fields #[.int lo t,.int hi u,.int 1 v] }).objs.size],_,_,H,rfl,
  I1.kept (t':=tk) fun b o e=>aQ1 _ e,Y1 _ lo (hi - lo).toNat,?_,fun b hb=>?_,q⟩
 ·have e1:lo+((0:Nat):Int) * 1=lo:=by simp
  have e2:(((hi - lo).toNat:Nat):Int) - ((0:Nat):Int)=Builtin.Range.rangeSize lo hi 1:=by rw [rangeSize_one]; split <;> omega
  show IsRangeIter _ _ (lo+((0:Nat):Int) * 1) ((((hi - lo).toNat:Nat):Int) - ((0:Nat):Int)) 1
  rw [e1,e2]
  exact aR5 _ rfl
 ·have e:b=(s.heap.push { cls:=.type "range",data:=.fields #[.int lo t,.int hi u,.int 1 v] }).objs.size:=by simpa using hb
  subst e
  exact I1.fpOk (aQ6 _) (I1.hok.fresh (aQ6 _))
def wO (ta:TA):TI:=fun σ H R=>ta σ H fun vs H1=>∃ j:Int,vs = [.int j]/\-(2 ^ 62)<=j/\j < 2 ^ 62/\R (mE 0 j.toNat) H1
def wP (ta:TA):TI:=fun σ H R=>ta σ H fun vs H1=>∃ i j:Int,vs = [.int i,.int j]/\(-(2 ^ 62)<=i/\i < 2 ^ 62/\-(2 ^ 62)<=j/\j < 2 ^ 62)/\R (mE i (j - i).toNat) H1
theorem Y3 {a:Expr}{ta:TA}{p pos:Pos} (hg:Gl X "range") (hm:X.mg "range" = none) (ha:PA X [a] ta) (hs:starEach [a] X.env = [(false,eval a X.env)]:=by rfl):PI X tg (.Call (.Name "range" p) [a] [] pos) (wO ta):=by
 intro pins s σ H R I h
 refine Call_ (gS I hg hm boot_range (aU7 (aK (ha pos pins s σ H _ I h) fun us s1 ⟨vs,H1,I1,r1,q1⟩=>?_) hs rfl))
 obtain ⟨j,e,q1,q2,q⟩:=q1
 subst e
 cases r1 with
 | cons r rr=>
  cases rr
  obtain ⟨t,rfl⟩:=r
  exact call_range_1 (wN I1 (by omega) (by omega) q1 q2 (by simpa using q))
theorem Y4 {a b:Expr}{ta:TA}{p pos:Pos} (hg:Gl X "range") (hm:X.mg "range" = none) (ha:PA X [a,b] ta) (hs:starEach [a,b] X.env = [(false,eval a X.env),(false,eval b X.env)]:=by rfl) (hs2:starEach [b] X.env = [(false,eval b X.env)]:=by rfl) :
  PI X tg (.Call (.Name "range" p) [a,b] [] pos) (wP ta):=by
 intro pins s σ H R I h
 refine Call_ (gS I hg hm boot_range (aU7 (aK (ha pos pins s σ H _ I h) fun us s1 ⟨vs,H1,I1,r1,q1⟩=>?_) (by rw [hs,hs2]) (by rw [hs2]; rfl)))
 obtain ⟨i,j,e,⟨q1,q2,q3,q4⟩,q⟩:=q1
 subst e
 cases r1 with
 | cons r rr=>
  cases rr with
  | cons r' rr=>
   cases rr
   obtain ⟨t,rfl⟩:=r
   obtain ⟨t',rfl⟩:=r'
   exact call_range_2 (wN I1 q1 q2 q3 q4 q)
def wQ (wi:TI) (g:TG) (tb:TS):TS:=fun D σ H=>wi σ H fun J H1=>∃ W:Nat->Nat->St->Hp->Prop,(∃ m,W 0 m σ H1)/\∀ i m σ H,W i m σ H->
 (J.stop i H/\D.nx σ H) ∨ (J.go i H/\∃ N:St->Hp->Prop,(∀ σ' H',N σ' H'->∃ m',m' < m/\W (i+1) m' σ' H')/\∀ x H',J.yld i H x H'->g x σ H' fun σ2 H2=>tb { D with nx:=N,ct:=N,bk:=D.nx } σ2 H2)
def mF (fp:List Addr) (h:Heap):List (Addr × Obj):=fp.filterMap fun b=>(h.get? b).map fun o=>(b,o)
theorem oF {fp:List Addr}{h:Heap}{b:Addr}{o:Obj} (hb:b ∈ fp) (e:h.get? b=some o):(b,o) ∈ mF fp h:=List.mem_filterMap.mpr ⟨b,hb,by rw [e]; rfl⟩
theorem Y5 {fp:List Addr}{h:Heap}{p:Addr × Obj} (hp:p ∈ mF fp h):p.1 ∈ fp/\h.get? p.1=some p.2:=by
 obtain ⟨b,hb,e⟩:=List.mem_filterMap.mp hp
 cases q:h.get? b with
 | none=>rw [q] at e; cases e
 | some o=>
  rw [q] at e
  have e':(b,o)=p:=aS7 e
  subst e'
  exact⟨hb,q⟩
theorem a7.pinned {pins:List (Addr × Obj)}{σ:St}{H:Hp}{s:Shared}{fp:List Addr} (I:a7 X pins σ H s) (hf:∀ b ∈ fp,fM X pins H b) (ho:∀ b ∈ fp,∃ o,s.heap.get? b=some o/\∀ v,o.data ≠ .cell v):a7 X (pins ++ mF fp s.heap) σ H s:=
 I.pins_of fun p hp=>(aV6.mp hp).elim (fun z=>I.pin p (aU3 _ z)) fun z=>by
  obtain ⟨hb,e⟩:=Y5 z
  obtain ⟨f0,f1,f2,_⟩:=hf p.1 hb
  obtain ⟨o,e',d⟩:=ho p.1 hb
  rw [e] at e'; cases e'
  exact⟨e,f0,f1,f2,d⟩
theorem a7.unpinned {pins pl:List (Addr × Obj)}{σ:St}{H:Hp}{s:Shared} (I:a7 X (pins ++ pl) σ H s):a7 X pins σ H s:=I.pins_of fun p hp=>I.pin p (aU3 _ (List.mem_append_left _ hp))
theorem rY {iter:Expr}{body:List Stmt}{wi:TI}{g:TG}{tb:TS}{pos:Pos} (hp:PassesOwn (model X.prog X.w) X.A X.env X.xe) (hc:X.calm=true) (hi:PI X tg iter wi) (hg:PG X tg g) (hb:dB X body tb)
  (hs:∀ x,foldedSetIterable iter X.env x=pure x:=by intro _; rfl):PS X (.For tg iter body [] pos) (wQ wi g tb):=by
 intro pins s σ H D I h
 refine wpAny_For (aK (hi pins s σ H _ I h) fun v s1 h1=>aK h1 fun itv s2 h2=>?_) hs
 obtain ⟨it,fp,tn,J,H2,e,I2,T,st2,f2,W,⟨m0,w0⟩,turn⟩:=h2
 subst e
 have stat:∀ {H':Hp},(∀ b ∈ fp,H' b=none)->∀ b ∈ fp,fM X pins H' b:=fun hn b hb=>⟨hn b hb,(f2 b hb).2⟩
 refine codeAny_forLoop_any (fun n s'=>∃ i σ' H',a7 X pins σ' H' s'/\tn i s'.heap/\(∀ b ∈ fp,H' b=none)/\W i n σ' H') ?_ m0 ⟨0,σ,H2,I2,st2,fun b hb=>(f2 b hb).1,w0⟩
 rintro n s3 ⟨i,σ3,H3,I3,st3,fr3,w3⟩
 rcases turn i n σ3 H3 w3 with ⟨stop,qn⟩ | ⟨go,N,hN,step⟩
 ·refine bb4 hp (aK (T.done X rfl rfl rfl hc i pins s3 σ3 H3 X.xe I3 (stat fr3) st3 stop) fun r s4 ⟨hr,I4⟩=>?_)
  subst hr
  exact bb3 ⟨σ3,H3,I4,qn⟩
 ·refine bb4 hp (aK (T.item X rfl rfl rfl hc i pins s3 σ3 H3 X.xe I3 (stat fr3) st3 go) fun r s4 ⟨u,hr,h4⟩=>?_)
  subst hr
  refine bb4 hp (aK h4 fun _ s5 ⟨x,H5,I5,r5,y5,st5,fr5⟩=>?_)
  have I5':=I5.pinned (stat fr5) (T.obj _ _ st5)
  refine bb4 hp (aK (hg _ s5 σ3 H5 x u _ I5' r5 (step x H5 y5)) fun _ s6 ⟨σ6,H6,I6,q6⟩=>?_)
  refine bb4 hp (aK (hb _ s6 σ6 H6 _ I6 q6) fun f s7 q7=>?_)
  have again:∀ {σ7:St}{H7:Hp},a7 X (pins ++ mF fp s5.heap) σ7 H7 s7->N σ7 H7->∃ m,m < n/\∃ i σ' H',a7 X pins σ' H' s7/\tn i s7.heap/\(∀ b ∈ fp,H' b=none)/\W i m σ' H':=fun {σ7 H7} I7 n7=>by
   obtain ⟨m',hm,w7⟩:=hN σ7 H7 n7
   refine⟨m',hm,i+1,σ7,H7,I7.unpinned,T.keep _ _ _ st5 fun b hb o e=>(I7.pin (b,o) (aU3 _ (aU3 _ (oF hb e)))).1,fun b hb=>?_,w7⟩
   obtain ⟨o,e,d⟩:=T.obj _ _ st5 b hb
   exact (I7.pin (b,o) (aU3 _ (aU3 _ (oF hb e)))).2.1
  cases f with
  | next=>obtain ⟨σ7,H7,I7,n7⟩:=q7; exact again I7 n7
  | cont=>obtain ⟨σ7,H7,I7,n7⟩:=q7; exact again I7 n7
  | brk=>obtain ⟨σ7,H7,I7,q7⟩:=q7; exact⟨σ7,H7,I7.unpinned,q7⟩
  | ret v=>obtain ⟨x7,σ7,H7,I7,r7,q7⟩:=q7; exact⟨x7,σ7,H7,I7.unpinned,r7,q7⟩
end
theorem aP4 {K:PySem.W.Frag}{a:Addr}{xs:List V}{g:TG}{tb:TS}{D:cR}{σ:St}{H:Hp} (Pv:Nat->St->Hp->Prop) (h0:Pv 0 σ H) (hl:∀ i σ H,i<=xs.length->Pv i σ H->aH K H a xs)
  (hs:∀ i x σ H,xs[i]? = some x->Pv i σ H->g x σ H fun σ2 H2=>tb { D with nx:=Pv (i+1),ct:=Pv (i+1),bk:=D.nx } σ2 H2) (hd:∀ σ H,Pv xs.length σ H->D.nx σ H) :
  ∃ W:Nat->Nat->St->Hp->Prop,(∃ m,W 0 m σ H)/\∀ i m σ H,W i m σ H->
   ((kZ K a).stop i H/\D.nx σ H) ∨ ((kZ K a).go i H/\∃ N:St->Hp->Prop,(∀ σ' H',N σ' H'->∃ m',m' < m/\W (i+1) m' σ' H')/\∀ x H',(kZ K a).yld i H x H'->g x σ H' fun σ2 H2=>tb { D with nx:=N,ct:=N,bk:=D.nx } σ2 H2):=by
 refine⟨fun i m σ H=>m=xs.length - i/\i<=xs.length/\Pv i σ H,⟨xs.length,by simp,aT7 _,h0⟩,?_⟩
 rintro i m σ H ⟨rfl,hi,p⟩
 have q:=hl i σ H hi p
 by_cases hlt:i < xs.length
 ·refine .inr ⟨⟨xs,xs[i],q,by simp [hlt]⟩,Pv (i+1),fun σ' H' p'=>⟨xs.length - (i+1),by omega,rfl,hlt,p'⟩,fun x H' y=>?_⟩
  obtain ⟨e,y⟩:=y
  subst e
  exact hs i x σ _ (y xs q) p
 ·have e:i=xs.length:=by omega
  subst e
  exact .inl ⟨⟨xs,q,aQ6 _⟩,hd σ H p⟩
theorem Y6 {K:PySem.W.Frag}{a:Addr}{xs:List V}{g:TG}{tb:TS}{D:cR}{σ:St}{H:Hp} (Pv:Nat->St->Hp->Prop) (h0:Pv 0 σ H) (hl:∀ i σ H,i<=xs.length->Pv i σ H->aF K H a xs)
  (hs:∀ i x σ H,xs[i]? = some x->Pv i σ H->g x σ H fun σ2 H2=>tb { D with nx:=Pv (i+1),ct:=Pv (i+1),bk:=D.nx } σ2 H2) (hd:∀ σ H,Pv xs.length σ H->D.nx σ H) :
  ∃ W:Nat->Nat->St->Hp->Prop,(∃ m,W 0 m σ H)/\∀ i m σ H,W i m σ H->
   ((j5 K a).stop i H/\D.nx σ H) ∨ ((j5 K a).go i H/\∃ N:St->Hp->Prop,(∀ σ' H',N σ' H'->∃ m',m' < m/\W (i+1) m' σ' H')/\∀ x H',(j5 K a).yld i H x H'->g x σ H' fun σ2 H2=>tb { D with nx:=N,ct:=N,bk:=D.nx } σ2 H2):=by
 refine⟨fun i m σ H=>m=xs.length - i/\i<=xs.length/\Pv i σ H,⟨xs.length,by simp,aT7 _,h0⟩,?_⟩
 rintro i m σ H ⟨rfl,hi,p⟩
 have q:=hl i σ H hi p
 by_cases hlt:i < xs.length
 ·refine .inr ⟨⟨xs,xs[i],q,by simp [hlt]⟩,Pv (i+1),fun σ' H' p'=>⟨xs.length - (i+1),by omega,rfl,hlt,p'⟩,fun x H' y=>?_⟩
  obtain ⟨e,y⟩:=y
  subst e
  exact hs i x σ _ (y xs q) p
 ·have e:i=xs.length:=by omega
  subst e
  exact .inl ⟨⟨xs,q,aQ6 _⟩,hd σ H p⟩
abbrev R2:=V->V->Hp->VK->Prop
def cC (X:Cx) (f:Value->Value->Sem Value) (r:R2):Prop:=
 ∀ (pins:List (Addr × Obj)) (s:Shared) (σ:St) (H:Hp) (x y:V) (v u:Value) (Q:VK),a7 X pins σ H s->aT x v->aT y u->r x y H Q->
  wpAny (model X.prog X.w) X.A (f v u) (EP X pins σ Q) X.xe s
def rZ (X:Cx) (f:Value->Sem Value) (r:V->Hp->VK->Prop):Prop:=
 ∀ (pins:List (Addr × Obj)) (s:Shared) (σ:St) (H:Hp) (x:V) (v:Value) (Q:VK),a7 X pins σ H s->aT x v->r x H Q->
  wpAny (model X.prog X.w) X.A (f v) (EP X pins σ Q) X.xe s
def cS (X:Cx) (f:Value) (r:List V->Hp->VK->Prop):Prop:=
 ∀ (pins:List (Addr × Obj)) (s:Shared) (σ:St) (H:Hp) (xs:List V) (us:List Value) (Q:VK),a7 X pins σ H s->aR xs us->r xs H Q->
  wpAny (model X.prog X.w) X.A (call f us) (EP X pins σ Q) X.xe s
def Y7 (X:Cx) (r:V->Hp->(Bool->Hp->Prop)->Prop):Prop:=
 ∀ (pins:List (Addr × Obj)) (s:Shared) (σ:St) (H:Hp) (x:V) (v:Value) (Q:Bool->Hp->Prop),a7 X pins σ H s->aT x v->r x H Q->
  wpAny (model X.prog X.w) X.A (truthy v) (TP X pins σ Q) X.xe s
def mG (r:R2) (ta tb:TE):TE:=fun σ H Q=>ta σ H fun x H1=>tb σ H1 fun y H2=>r x y H2 Q
def Y8 (r:V->Hp->VK->Prop) (ta:TE):TE:=fun σ H Q=>ta σ H fun x H1=>r x H1 Q
def rI (C:Int->Int->Prop) (g:Int->Int->V):R2:=fun x y H Q=>∃ i j,x = .int i/\y = .int j/\C i j/\Q (g i j) H
def gT (g:Int->Int->V):R2:=fun x y H Q=>∃ i j,x = .int i/\y = .int j/\Q (g i j) H
def rU (g:Int->V):V->Hp->VK->Prop:=fun x H Q=>∃ i,x = .int i/\Q (g i) H
section
variable {X : Cx} {a b c : Expr} {ta tb tc : TE} {pos : Pos}
theorem sA (ha:PE X a ta) (hb:PE X b tb) {pins:List (Addr × Obj)}{s:Shared}{σ:St}{H:Hp}{R:V->V->Hp->Prop} (I:a7 X pins σ H s)
  (h:ta σ H fun x H1=>tb σ H1 fun y H2=>R x y H2) {Q:Value->Shared->Prop}{f:Value->Value->Sem Value}
  (hf:∀ v u s2 x y H2,a7 X pins σ H2 s2->aT x v->aT y u->R x y H2->wpAny (model X.prog X.w) X.A (f v u) Q X.xe s2) :
  wpAny (model X.prog X.w) X.A (eval a X.env) (fun v s₁=>wpAny (model X.prog X.w) X.A (eval b X.env) (fun u s₂=>wpAny (model X.prog X.w) X.A (f v u) Q X.xe s₂) X.xe s₁) X.xe s:=by
 refine aK (ha pins s σ H _ I h) fun v s1 ⟨x,H1,I1,r1,q1⟩=>?_
 refine aK (hb pins s1 σ H1 _ I1 q1) fun u s2 ⟨y,H2,I2,r2,q2⟩=>?_
 exact hf v u s2 x y H2 I2 r1 r2 q2
theorem Y9 {op:Operator}{r:R2} (ho:cC X (binaryOp op) r) (ha:PE X a ta) (hb:PE X b tb):PE X (.BinOp a op b pos) (mG r ta tb):=by
 intro pins s σ H Q I h
 exact wpAny_BinOp (sA ha hb I h fun v u s2 x y H2 I2 rx ry q=>ho pins s2 σ H2 x y v u Q I2 rx ry q)
theorem Z0 {op:UnaryOp}{r:V->Hp->VK->Prop} (ho:rZ X (unaryOp op) r) (ha:PE X a ta):PE X (.UnaryOp op a pos) (Y8 r ta):=by
 intro pins s σ H Q I h
 exact UnaryOp_ (aK (ha pins s σ H _ I h) fun v s1 ⟨x,H1,I1,r1,q1⟩=>ho pins s1 σ H1 x v Q I1 r1 q1)
theorem oG {f:Value->Value->Sem Value}{C:Int->Int->Prop}{g:Int->Int->Int}
  (rule:∀ (i j:Int) (t u:Tok) (s:Shared) (Q:Value->Shared->Prop) (E:Value->Shared->Prop),C i j->Q (.int (g i j) s.toks) { s with toks:=s.toks+1 }->wpAny (model X.prog X.w) X.A (f (.int i t) (.int j u)) Q E s) :
  cC X f (rI C fun i j=>.int (g i j)):=by
 intro pins s σ H x y v u Q I rx ry h
 obtain ⟨i,j,rfl,rfl,hc,q⟩:=h
 obtain ⟨t,rfl⟩:=rx
 obtain ⟨t',rfl⟩:=ry
 exact rule i j t t' s _ _ hc ⟨.int (g i j),H,I.tok _,⟨_,rfl⟩,q⟩
theorem wR {f:Value->Value->Sem Value}{g:Int->Int->Int}
  (rule:∀ (i j:Int) (t u:Tok) (s:Shared) (Q:Value->Shared->Prop) (E:Value->Shared->Prop),Q (.int (g i j) s.toks) { s with toks:=s.toks+1 }->wpAny (model X.prog X.w) X.A (f (.int i t) (.int j u)) Q E s) :
  cC X f (gT fun i j=>.int (g i j)):=by
 intro pins s σ H x y v u Q I rx ry h
 obtain ⟨i,j,rfl,rfl,q⟩:=h
 obtain ⟨t,rfl⟩:=rx
 obtain ⟨t',rfl⟩:=ry
 exact rule i j t t' s _ _ ⟨.int (g i j),H,I.tok _,⟨_,rfl⟩,q⟩
theorem oH {f:Value->Value->Sem Value}{g:Int->Int->Bool}
  (rule:∀ (i j:Int) (t u:Tok) (s:Shared) (Q:Value->Shared->Prop) (E:Value->Shared->Prop),Q (.bool (g i j)) s->wpAny (model X.prog X.w) X.A (f (.int i t) (.int j u)) Q E s) :
  cC X f (gT fun i j=>.bl (g i j)):=by
 intro pins s σ H x y v u Q I rx ry h
 obtain ⟨i,j,rfl,rfl,q⟩:=h
 obtain ⟨t,rfl⟩:=rx
 obtain ⟨t',rfl⟩:=ry
 exact rule i j t t' s _ _ ⟨.bl (g i j),H,I,rfl,q⟩
def sB (i j:Int):Prop:=0 < j/\j < 1073741824
def sC (i j:Int):Prop:=0<=j/\j<=1000000/\i.natAbs < 2 ^ 64
def mH (i j:Int):Prop:=(-(2 ^ 64) < i/\i < 2 ^ 64) ∨ (-(2 ^ 64) < j/\j < 2 ^ 64)
theorem mH.ok {i j:Int} (h:mH i j):IntMulOk i j:=by
 rcases h with ⟨h1,h2⟩ | ⟨h1,h2⟩
 ·exact .of_left (intBits_le_64 h1 h2)
 ·exact .of_right (intBits_le_64 h1 h2)
theorem Z1:cC X (binaryOp .Add) (gT fun i j=>.int (i+j)):=wR fun _ _ _ _ _ _ _ q=>add_int q
theorem Z2:cC X (binaryOp .Sub) (gT fun i j=>.int (i - j)):=wR fun _ _ _ _ _ _ _ q=>sub_int q
theorem Z3:cC X (binaryOp .Mult) (rI mH fun i j=>.int (i * j)):=oG fun _ _ _ _ _ _ _ hc q=>mul_int q hc.ok
theorem Z4:cC X (binaryOp .FloorDiv) (rI sB fun i j=>.int (i / j)):=oG fun i j _ _ _ _ _ hc q=>by
 have h1:(0:Int) < j:=hc.1
 have h2:j < 1073741824:=hc.2
 exact floordiv_int (by omega) (by rw [Int.fdiv_eq_ediv_of_nonneg i (by omega)]; exact q) (.inl (PyProof.noPylong_small (by omega)))
theorem Z5:cC X (binaryOp .Mod) (rI (fun _ j=>0 < j) fun i j=>.int (i % j)):=oG fun i j _ _ _ _ _ hc q=>by
 have h1:(0:Int) < j:=hc
 exact mod_int' (by omega) (by rw [Int.fmod_eq_emod_of_nonneg i (by omega)]; exact q)
theorem Z6:cC X (binaryOp .Pow) (rI sC fun i j=>.int (i ^ j.toNat)):=oG fun _ _ _ _ _ _ _ hc q=>pow_int_small hc.1 hc.2.1 hc.2.2 q
theorem Z7 {f:Value->Sem Value}{g:Int->Int}
  (rule:∀ (i:Int) (t:Tok) (s:Shared) (Q:Value->Shared->Prop) (E:Value->Shared->Prop),Q (.int (g i) s.toks) { s with toks:=s.toks+1 }->wpAny (model X.prog X.w) X.A (f (.int i t)) Q E s) :
  rZ X f (rU fun i=>.int (g i)):=by
 intro pins s σ H x v Q I rx h
 obtain ⟨i,rfl,q⟩:=h
 obtain ⟨t,rfl⟩:=rx
 exact rule i t s _ _ ⟨.int (g i),H,I.tok _,⟨_,rfl⟩,q⟩
theorem Z8:rZ X (unaryOp .USub) (rU fun i=>.int (-i)):=Z7 fun _ _ _ _ _ q=>neg_int q
end
def wS:V->V->Bool
 | .non,.non=>true | .non,.int _=>true | .int _,.non=>true | .non,.bl _=>true | .bl _,.non=>true | .non,.str _=>true | .str _,.non=>true
 | .int _,.int _=>true | .bl _,.bl _=>true | .str _,.str _=>true | .byt _,.byt _=>true
 | .int _,.str _=>true | .str _,.int _=>true | .bl _,.str _=>true | .str _,.bl _=>true
 | _,_=>false
def sD:R2:=fun x y H Q=>wS x y=true/\Q (.bl (decide (x=y))) H
def sE:R2:=fun x y H Q=>wS x y=true/\Q (.bl (!decide (x=y))) H
theorem wT {i j:Int}:decide (V.int i=V.int j)=(i == j):=by
 rw [aY6]
 simp
theorem wU {i j:Bool}:decide (V.bl i=V.bl j)=(i == j):=by
 rw [aY6]
 simp
theorem wV {i j:Str}:decide (V.str i=V.str j)=(i == j):=by
 rw [aY6]
 simp
theorem wW {i j:Array UInt8}:decide (V.byt i=V.byt j)=(i.toList == j.toList):=by
 rw [aY6]
 cases i
 cases j
 simp
section
variable {X : Cx} {a b c : Expr} {ta tb tc : TE} {pos : Pos}
theorem bN {pins:List (Addr × Obj)}{σ:St}{H:Hp}{s:Shared}{Q:VK}{k k':Bool} (I:a7 X pins σ H s) (q:Q (.bl k) H) (e:k=k'):EP X pins σ Q (.bool k') s:=by
 subst e
 exact⟨.bl k,H,I,rfl,q⟩
theorem wX:cC X (compareOp .Eq) sD:=by
 intro pins s σ H x y v u Q I rx ry h
 obtain ⟨hs,q⟩:=h
 cases x with
 | non=>
  cases rx
  cases y with
  | non=>cases ry; exact PySem.EqNone.eq_none_none (bN I q (by simp))
  | bl j=>cases ry; exact PySem.EqNone.eq_none_bool (bN I q (by simp))
  | int j=>obtain ⟨t',rfl⟩:=ry; exact PySem.EqNone.eq_none_int (bN I q (by simp))
  | str j=>obtain ⟨t',rfl⟩:=ry; exact PySem.EqNone.eq_none_str (bN I q (by simp))
  | _=>exact absurd (show false=true from hs) aS3
 | bl i=>
  cases rx
  cases y with
  | non=>cases ry; exact PySem.EqNone.eq_bool_none (bN I q (by simp))
  | bl j=>cases ry; exact eq_bool (bN I q wU)
  | str j=>obtain ⟨t',rfl⟩:=ry; exact PySem.EqMixed.eq_bool_str (bN I q (by simp))
  | _=>exact absurd (show false=true from hs) aS3
 | int i=>
  obtain ⟨t,rfl⟩:=rx
  cases y with
  | non=>cases ry; exact PySem.EqNone.eq_int_none (bN I q (by simp))
  | int j=>obtain ⟨t',rfl⟩:=ry; exact eq_int (bN I q wT)
  | str j=>obtain ⟨t',rfl⟩:=ry; exact PySem.EqMixed.eq_int_str (bN I q (by simp))
  | _=>exact absurd (show false=true from hs) aS3
 | str i=>
  obtain ⟨t,rfl⟩:=rx
  cases y with
  | non=>cases ry; exact PySem.EqNone.eq_str_none (bN I q (by simp))
  | bl j=>cases ry; exact PySem.EqMixed.eq_str_bool (bN I q (by simp))
  | int j=>obtain ⟨t',rfl⟩:=ry; exact PySem.EqMixed.eq_str_int (bN I q (by simp))
  | str j=>obtain ⟨t',rfl⟩:=ry; exact eq_str (bN I q wV)
  | _=>exact absurd (show false=true from hs) aS3
 | byt i=>
  obtain ⟨t,rfl⟩:=rx
  cases y with
  | byt j=>obtain ⟨t',rfl⟩:=ry; exact PySem.W.eq_bytes (bN I q wW)
  | _=>exact absurd (show false=true from hs) aS3
 | _=>cases y <;> exact absurd (show false=true from hs) aS3
theorem wY:cC X (compareOp .NotEq) sE:=by
 intro pins s σ H x y v u Q I rx ry h
 obtain ⟨hs,q⟩:=h
 cases x with
 | non=>
  cases rx
  cases y with
  | non=>cases ry; exact PySem.EqNone.ne_none_none (bN I q (by simp))
  | bl j=>cases ry; exact PySem.EqNone.ne_none_bool (bN I q (by simp))
  | int j=>obtain ⟨t',rfl⟩:=ry; exact PySem.EqNone.ne_none_int (bN I q (by simp))
  | str j=>obtain ⟨t',rfl⟩:=ry; exact PySem.EqNone.ne_none_str (bN I q (by simp))
  | _=>exact absurd (show false=true from hs) aS3
 | bl i=>
  cases rx
  cases y with
  | non=>cases ry; exact PySem.EqNone.ne_bool_none (bN I q (by simp))
  | bl j=>cases ry; exact ne_bool (bN I q (congrArg not wU))
  | str j=>obtain ⟨t',rfl⟩:=ry; exact PySem.EqMixed.ne_bool_str (bN I q (by simp))
  | _=>exact absurd (show false=true from hs) aS3
 | int i=>
  obtain ⟨t,rfl⟩:=rx
  cases y with
  | non=>cases ry; exact PySem.EqNone.ne_int_none (bN I q (by simp))
  | int j=>obtain ⟨t',rfl⟩:=ry; exact ne_int (bN I q (congrArg not wT))
  | str j=>obtain ⟨t',rfl⟩:=ry; exact PySem.EqMixed.ne_int_str (bN I q (by simp))
  | _=>exact absurd (show false=true from hs) aS3
 | str i=>
  obtain ⟨t,rfl⟩:=rx
  cases y with
  | non=>cases ry; exact PySem.EqNone.ne_str_none (bN I q (by simp))
  | bl j=>cases ry; exact PySem.EqMixed.ne_str_bool (bN I q (by simp))
  | int j=>obtain ⟨t',rfl⟩:=ry; exact PySem.EqMixed.ne_str_int (bN I q (by simp))
  | str j=>obtain ⟨t',rfl⟩:=ry; exact ne_str (bN I q (congrArg not wV))
  | _=>exact absurd (show false=true from hs) aS3
 | byt i=>
  obtain ⟨t,rfl⟩:=rx
  cases y with
  | byt j=>obtain ⟨t',rfl⟩:=ry; exact PySem.W.ne_bytes (bN I q (congrArg not wW))
  | _=>exact absurd (show false=true from hs) aS3
 | _=>cases y <;> exact absurd (show false=true from hs) aS3
theorem oI:cC X (compareOp .Lt) (gT fun i j=>.bl (decide (i < j))):=oH fun _ _ _ _ _ _ _ q=>lt_int q
theorem Z9:cC X (compareOp .LtE) (gT fun i j=>.bl (decide (i<=j))):=oH fun _ _ _ _ _ _ _ q=>le_int q
theorem aa0:cC X (compareOp .Gt) (gT fun i j=>.bl (decide (j < i))):=oH fun _ _ _ _ _ _ _ q=>gt_int q
theorem wZ:cC X (compareOp .GtE) (gT fun i j=>.bl (decide (j<=i))):=oH fun _ _ _ _ _ _ _ q=>ge_int q
theorem aa1:cC X (compareOp .Is) (fun x y H Q=>y = .non/\Q (.bl (decide (x = .non))) H):=by
 intro pins s σ H x y v u Q I rx ry h
 obtain ⟨rfl,q⟩:=h
 cases ry
 refine is_none_gen (bN I q ?_)
 cases x <;> first
  | (cases rx; rfl)
  | (obtain ⟨t,rfl⟩:=rx; rfl)
theorem aa2:cC X (compareOp .IsNot) (fun x y H Q=>y = .non/\Q (.bl (!decide (x = .non))) H):=by
 intro pins s σ H x y v u Q I rx ry h
 obtain ⟨rfl,q⟩:=h
 cases ry
 refine isnot_none_gen (bN I q ?_)
 cases x <;> first
  | (cases rx; rfl)
  | (obtain ⟨t,rfl⟩:=rx; rfl)
theorem eN (b:Expr) {op:CmpOp} (h:op ≠ .In:=by decide) (h2:op ≠ .NotIn:=by decide):behindInMarks op b=false:=by
 have e1:(op == CmpOp.In)=false:=by cases op <;> first | rfl | exact absurd rfl h
 have e2:(op == CmpOp.NotIn)=false:=by cases op <;> first | rfl | exact absurd rfl h2
 cases b <;> simp [behindInMarks,e1,e2]
theorem sF {op:CmpOp}{r:R2} (ho:cC X (compareOp op) r) (ha:PE X a ta) (hb:PE X b tb) (hm:behindInMarks op b=false):PE X (.Compare a [op] [b] pos) (mG r ta tb):=by
 intro pins s σ H Q I h
 exact wpAny_Compare1 (sA ha hb I h fun v u s2 x y H2 I2 rx ry q=>ho pins s2 σ H2 x y v u Q I2 rx ry q) hm
def aa3 (t:TE):TT:=fun σ H Q=>t σ H fun x H'=>∃ k,x = .bl k/\Q k H'
theorem aa4 {op:CmpOp}{r:R2} (ho:cC X (compareOp op) r) (ha:PE X a ta) (hb:PE X b tb) (hm:behindInMarks op b=false):PT X (.Compare a [op] [b] pos) (aa3 (mG r ta tb)):=by
 intro pins s σ H Q I h
 refine wpAny_isTrue_Compare1 (aK (ha pins s σ H _ I h) fun v s1 ⟨x,H1,I1,r1,q1⟩=>aK (hb pins s1 σ H1 _ I1 q1) fun u s2 ⟨y,H2,I2,r2,q2⟩=>
  aK (ho pins s2 σ H2 x y v u _ I2 r1 r2 q2) fun c s3 ⟨z,H3,I3,r3,k,e,q3⟩=>?_) hm
 subst e
 cases r3
 exact aZ3 ⟨H3,I3,q3⟩
def sG (K:PySem.W.Frag) (x:V) (H:Hp) (k:Bool):Prop:=
 match x with
 | .non=>k=false
 | .bl b=>k=b
 | .int i=>k=(i != 0)
 | .str y=>y.length<=sizeLine/\k=((y.length:Int) != 0)
 | .byt y=>y.size<=sizeLine/\k=((y.size:Int) != 0)
 | .ref p=>(∃ xs,aH K H p xs/\k = !xs.isEmpty) ∨ (∃ xs,aF K H p xs/\k = !xs.isEmpty) ∨ ∃ kvs,H p=some (.dK kvs)/\k = !kvs.isEmpty
 | _=>False
theorem aa5 {κ:Type}{kvs:List (κ × V)}{vs:List (κ × Value)} (r:KV kvs vs):(!vs.isEmpty) = !kvs.isEmpty:=by
 cases r <;> rfl
theorem x3 {xs:List V}{its:List Value} (r:aR xs its):(!its.toArray.isEmpty) = !xs.isEmpty:=by
 cases r <;> simp
theorem mI:(sizeLine:Nat) < 2 ^ 63:=by rw [sizeLine_eq]; decide
theorem aa6:Y7 X (fun x H Q=>∃ k,sG X.K x H k/\Q k H):=by
 intro pins s σ H x v Q I rx h
 obtain ⟨k,e,q⟩:=h
 have hl:=mI
 have hs:sizeLine=16777216:=sizeLine_eq
 cases x with
 | non=>
  cases rx
  have e':k=false:=e
  subst e'
  exact truthy_none ⟨H,I,q⟩
 | bl b=>
  cases rx
  have e':k=b:=e
  subst e'
  exact aZ3 ⟨H,I,q⟩
 | int i=>
  obtain ⟨t,rfl⟩:=rx
  have e':k=(i != 0):=e
  subst e'
  exact PySem.P.truthy_int ⟨H,I,q⟩
 | str y=>
  obtain ⟨t,rfl⟩:=rx
  obtain ⟨hy,e'⟩:y.length<=sizeLine/\k=((y.length:Int) != 0):=e
  subst e'
  exact PySem.P.truthy_str (by omega) ⟨H,I.tok _,q⟩
 | byt y=>
  obtain ⟨t,rfl⟩:=rx
  obtain ⟨hy,e'⟩:y.size<=sizeLine/\k=((y.size:Int) != 0):=e
  subst e'
  exact PySem.W.truthy_bytes (by omega) ⟨H,I.tok _,q⟩
 | ref p=>
  cases rx
  have e':(∃ xs,aH X.K H p xs/\k = !xs.isEmpty) ∨ (∃ xs,aF X.K H p xs/\k = !xs.isEmpty) ∨ ∃ kvs,H p=some (.dK kvs)/\k = !kvs.isEmpty:=e
  rcases e' with ⟨xs,hx,e'⟩ | ⟨xs,hx,e'⟩ | ⟨kvs,hx,e'⟩
  ·subst e'
   obtain ⟨its,r,pl,hz⟩:=I.list hx
   have hlen:=r.length
   exact wpAny_truthy_list pl.isList (by simp only [aR3]; omega) ⟨H,I.tok _,by rw [x3 r]; exact q⟩
  ·subst e'
   obtain ⟨its,r,pl,hz⟩:=I.tuple hx
   have hlen:=r.length
   exact truthy_tuple pl (by simp only [aR3]; omega) ⟨H,I.tok _,by rw [x3 r]; exact q⟩
  ·subst e'
   obtain ⟨hz,hS,vs,r,m⟩:kvs.length<=sizeLine/\(p == sysModules)=false/\∃ vs,KV kvs vs/\s.heap.DictOf (dG X.prog X.w) p vs:=I.hok p _ hx
   have hlen:kvs.length=vs.length:=Paired.length r
   exact wpAny_truthy_dict hS m (by omega) ⟨H,I.tok _,by rw [aa5 r]; exact q⟩
 | _=>exact (show False from e).elim
theorem aa7 (ha:PE X a ta) (he:∀ whole,isTrue a X.env whole=(do let v <- whole; standAt a.pos; holding [v] (truthy v))) :
  PT X a (fun σ H Q=>ta σ H fun x H'=>∃ k,sG X.K x H' k/\Q k H'):=by
 intro pins s σ H Q I h
 exact isTrue_plain (aK (ha pins s σ H _ I h) fun v s1 ⟨x,H1,I1,r1,q1⟩=>aa6 pins s1 σ H1 x v Q I1 r1 q1) (he _)
theorem eI {x:V}{us:List Value} (r:aR [x] us):∃ u,us = [u]/\aT x u:=by
 cases r with
 | cons r1 r2=>cases r2; exact⟨_,rfl,r1⟩
theorem sH {x y:V}{us:List Value} (r:aR [x,y] us):∃ u w',us = [u,w']/\aT x u/\aT y w':=by
 cases r with
 | cons r1 r2=>
  cases r2 with
  | cons r3 r4=>cases r4; exact⟨_,_,rfl,r1,r3⟩
theorem aa8 (hc:X.calm=true):cS X (.builtin "max") (fun xs H Q=>∃ i j,xs = [.int i,.int j]/\Q (.int (if j > i then j else i)) H):=by
 intro pins s σ H xs us Q I r h
 obtain ⟨i,j,rfl,q⟩:=h
 obtain ⟨u,w',rfl,⟨t,rfl⟩,⟨t',rfl⟩⟩:=sH r
 refine max_two_ints (I.ok.hd hc) fun h' tk k=>⟨_,H,I.kept k,?_,q⟩
 by_cases hj:j > i
 ·rw [if_pos hj,if_pos hj]; exact⟨_,rfl⟩
 ·rw [if_neg hj,if_neg hj]; exact⟨_,rfl⟩
theorem aa9 (hc:X.calm=true):cS X (.builtin "min") (fun xs H Q=>∃ i j,xs = [.int i,.int j]/\Q (.int (if j < i then j else i)) H):=by
 intro pins s σ H xs us Q I r h
 obtain ⟨i,j,rfl,q⟩:=h
 obtain ⟨u,w',rfl,⟨t,rfl⟩,⟨t',rfl⟩⟩:=sH r
 refine min_two_ints (I.ok.hd hc) fun h' tk k=>⟨_,H,I.kept k,?_,q⟩
 by_cases hj:j < i
 ·rw [if_pos hj,if_pos hj]; exact⟨_,rfl⟩
 ·rw [if_neg hj,if_neg hj]; exact⟨_,rfl⟩
theorem ab0:cS X (.type "int") (fun xs H Q=>(∃ i,xs = [.int i]/\Q (.int i) H) ∨ ∃ k,xs = [.bl k]/\Q (.int (if k then 1 else 0)) H):=by
 intro pins s σ H xs us Q I r h
 rcases h with ⟨i,rfl,q⟩ | ⟨k,rfl,q⟩
 ·obtain ⟨u,rfl,t,rfl⟩:=eI r
  exact call_int_int ⟨.int i,H,I,⟨_,rfl⟩,q⟩
 ·obtain ⟨u,rfl,r1⟩:=eI r
  cases r1
  exact call_int_bool ⟨.int (if k then 1 else 0),H,I.tok _,⟨_,rfl⟩,q⟩
end
theorem fI.some_of {v:V}{o:Option Value} (r:fI (some v) o):∃ u,o=some u/\aT v u:=by
 cases o with
 | none=>exact (show False from r).elim
 | some u=>exact⟨u,rfl,r⟩
structure bT (k:Nat) (A:Around):Prop where
 hd:A.handled=none
 dp:A.depth+3 * k+5 < recursionLimit
 un:A.units+16 * k+200 < cLine
theorem bT.mono {j k:Nat}{A:Around} (r:bT k A) (h:j<=k):bT j A:=⟨r.hd,by have:=r.dp; omega,by have:=r.un; omega⟩
theorem bT.deeper {k:Nat}{A:Around} (r:bT (k+1) A) (env:Env):bT k (A.deeper env):=
 ⟨r.hd,by have:=r.dp; show A.depth+1+3 * k+5 < _; omega,by have:=r.un; show A.units+3+16 * k+200 < _; omega⟩
theorem bT.depth {k:Nat}{A:Around} (r:bT k A):A.depth < recursionLimit:=by have:=r.dp; omega
theorem bT.units {k:Nat}{A:Around} (r:bT k A):A.units+64 < cLine:=by have:=r.un; omega
def gU:TA:=fun _ H Q=>Q [] H
def fN (ta:TE) (tr:TA):TA:=fun σ H Q=>ta σ H fun x H1=>tr σ H1 fun xs H2=>Q (x :: xs) H2
section
variable {X : Cx} {e : Expr} {es : List Expr} {te : TE} {t : TA} {pos : Pos}
theorem cK:PA X [] gU:=fun _ _ _ _ H Q I h=>Calls.spliced_nil ⟨[],H,I,.nil,h⟩
theorem bO (ha:PE X e te) (hr:PA X es t) (hs:starEach (e :: es) X.env=(false,eval e X.env) :: starEach es X.env:=by rfl):PA X (e :: es) (fN te t):=by
 intro pos pins s σ H Q I h
 rw [hs]
 show wpAny _ _ (spliced ((false,eval e X.env) :: backTo pos (starEach es X.env))) _ _ s
 refine Calls.spliced_cons (aK (ha pins s σ H _ I h) fun u s1 ⟨x,H1,I1,r1,q1⟩=>?_)
 exact aK (hr pos pins s1 σ H1 _ I1 q1) fun us s2 ⟨xs,H2,I2,r2,q2⟩=>⟨x :: xs,H2,I2,.cons r1 r2,q2⟩
def x4 (t:TA):TE:=fun σ H Q=>t σ H fun xs H1=>xs.length<=sizeLine/\∀ p,H1 p=none->Q (.ref p) (upd H1 p (.tup xs))
def sI (t:TA):TE:=fun σ H Q=>t σ H fun xs H1=>xs.length<=sizeLine/\∀ p,H1 p=none->Q (.ref p) (upd H1 p (.lst xs))
theorem sJ {x1} (h:PA X es t):PE X (.Tuple es x1 pos) (x4 t):=by
 intro pins s σ H Q I hq
 refine wpAny_Tuple_spliced (aK (h pos pins s σ H _ I hq) fun us s1 ⟨xs,H1,I1,r,z,q⟩=>⟨by rw [<- r.length]; exact z,?_⟩)
 have hf:H1 s1.heap.objs.size=none:=I1.hok.fresh (aQ6 _)
 refine⟨.ref s1.heap.objs.size,upd H1 s1.heap.objs.size (.tup xs),I1.laid (t':=s1.toks) (fun b u e=>aQ1 _ e) (aQ6 _) ?_,rfl,q _ hf⟩
 exact⟨z,us,r,⟨_,aR5 _ rfl,rfl,_,rfl⟩,gQ.new _ _ rfl⟩
theorem oJ (h:PA X es t):PE X (.List es pos) (sI t):=by
 intro pins s σ H Q I hq
 refine wpAny_List_spliced (aK (h pos pins s σ H _ I hq) fun us s1 ⟨xs,H1,I1,r,z,q⟩=>⟨by rw [<- r.length]; exact z,?_⟩)
 have hf:H1 s1.heap.objs.size=none:=I1.hok.fresh (aQ6 _)
 refine⟨.ref s1.heap.objs.size,upd H1 s1.heap.objs.size (.lst xs),I1.laid (t':=s1.toks) (fun b u e=>aQ1 _ e) (aQ6 _) ?_,rfl,q _ hf⟩
 exact⟨z,us,0,r,aR5 _ rfl⟩
end
abbrev Sp:=List V->Hp->VK->XK->Prop
abbrev fO:=List Env->Hp->Shared->XK->Value->Shared->Prop
structure oK (P:Program) (w:World) (K:PySem.W.Frag) (mg:Str->Option Value) (base:Heap) (A:Around) (outer:List Env) (s:Shared) (H:Hp):Prop where
 frames:A.frames=some outer
 mod:Mod K mg base
 bs:∀ b o,base.get? b=some o->s.heap.get? b=some o/\H b=none
 bsz:base.objs.size<=s.heap.objs.size
 funs:s.heap.FunFrames base outer
 frf:∀ b ∈ bH outer,H b=none
 hok:bM P w H s.heap
 bare:AllBare s.gens
def CE (outer:List Env) (P:Program) (w:World) (H:Hp) (s:Shared) (Q:VK) (u:Value) (s':Shared):Prop:=
 ∃ v H',s'.os=s.os/\AllBare s'.gens/\Un (bH outer) [] H H' s.heap s'.heap/\bM P w H' s'.heap/\aT v u/\Q v H'
def CR (CX:fO) (outer:List Env) (P:Program) (w:World) (H:Hp) (s:Shared) (Q:VK) (E:XK) (r:Result) (s':Shared):Prop:=
 match r with
 | .ok (.ret u)=>CE outer P w H s Q u s'
 | .ok _=>False
 | .error e=>CX outer H s E e s'
structure bJ (P:Program) (w:World) (K:PySem.W.Frag) (mg:Str->Option Value) (base:Heap) (CX:fO) (k:Nat) (f:Addr) (fd:FuncData) (ps:List Str) (sp:Sp):Prop where
 len:∀ vs H Q E,sp vs H Q E->vs.length=ps.length
 run:∀ (A:Around) (outer:List Env) (s:Shared) (H:Hp) (args:Args) (us:List Value) (vs:List V) (Q:VK) (E:XK),bT k A->oK P w K mg base A outer s H->BindsTo s fd args (ps.zip us)->aR vs us->sp vs H Q E->
  codeAny (model P w) A (.call (.ref f) args) (CR CX outer P w H s Q E) s
theorem bJ.imp {P:Program}{w:World}{K:PySem.W.Frag}{mg:Str->Option Value}{base:Heap}{CX:fO}{k:Nat}{f:Addr}{fd:FuncData}{ps:List Str}{sp sp':Sp} (F:bJ P w K mg base CX k f fd ps sp)
  (h:∀ vs H Q E,sp' vs H Q E->sp vs H Q E):bJ P w K mg base CX k f fd ps sp':=
 ⟨fun vs H Q E q=>F.len vs H Q E (h _ _ _ _ q),fun A outer s H args us vs Q E hr he hb hv hs=>F.run A outer s H args us vs Q E hr he hb hv (h _ _ _ _ hs)⟩
section
variable {X : Cx} {pins : List (Addr × Obj)} {σ : St} {H : Hp} {s s' : Shared}
theorem a7.env0 (I:a7 X pins σ H s):oK X.prog X.w X.K X.mg X.base X.A X.stack s H:=
 ⟨I.ok.frames,I.ok.mod,I.bs,aU0 I.ok.bsz I.sz,I.stack,I.stkFree,I.hok,I.bare⟩
theorem a7.after {Q:VK}{u:Value} (I:a7 X pins σ H s) (h:CE X.stack X.prog X.w H s Q u s'):EP X pins σ Q u s':=by
 obtain ⟨v,H',os,bare,un,hok,r,q⟩:=h
 obtain ⟨hh,g,d,t,os'⟩:=s'
 obtain rfl:os'=s.os:=os
 exact⟨v,H',I.call (h':=hh) (g':=g) (d':=d) (t':=t) (ch:=[]) un hok bare (fun b z=>absurd z (by simp)),r,q⟩
end
def sK (sp:Sp) (dvs:List V) (E:XK) (t:TA):TE:=fun σ H Q=>t σ H fun vs H1=>sp (vs ++ dvs) H1 Q E
def gB (K:PySem.W.Frag) (fd:FuncData) (ps:List Str) (ds:List Value):Prop:=
 ∀ (s:Shared) (us:List Value),K.In s.heap->(us ++ ds).length=ps.length->BindsTo s fd ⟨us,[]⟩ (ps.zip (us ++ ds))
theorem gB.all {K:PySem.W.Frag}{fd:FuncData}{ps:List Str} (h:∀ us:List Value,us.length=ps.length->bindArgs fd ⟨us,[]⟩=pure (ps.zip us)):gB K fd ps []:=fun s us _ hl=>by
 rw [aV7] at hl ⊢
 exact .of_eq (h us hl)
def mJ (CX:fO) (X:Cx) (E:XK):Prop:=∀ (pins:List (Addr × Obj)) (σ:St) (H:Hp) (s:Shared) (e:Value) (s':Shared),a7 X pins σ H s->CX X.stack H s E e s'->X.xe e s'
section
variable {X : Cx} {CX : fO} {k : Nat} {f C : Addr} {fd : FuncData} {ps : List Str} {sp : Sp} {dvs : List V} {ds : List Value} {E : XK} {x m : Str} {p pos apos : Pos} {e o : Expr} {es : List Expr} {ta : TE} {t : TA}
theorem ab1 {pins:List (Addr × Obj)}{σ:St}{H:Hp}{s:Shared}{Q:VK}{us:List Value}{vs:List V} (F:bJ X.prog X.w X.K X.mg X.base CX k f fd ps sp) (hr:bT k X.A) (hb:gB X.K fd ps ds) (hd:aR dvs ds) (hx:mJ CX X E)
  (I:a7 X pins σ H s) (r:aR vs us) (h:sp (vs ++ dvs) H Q E):wpAny (model X.prog X.w) X.A (call (.ref f) us) (EP X pins σ Q) X.xe s:=by
 have r2:aR (vs ++ dvs) (us ++ ds):=r.append hd
 have hl:(us ++ ds).length=ps.length:=by rw [<- r2.length]; exact F.len _ _ _ _ h
 refine wpAny_call (codeAny_mono (F.run X.A X.stack s H ⟨us,[]⟩ (us ++ ds) (vs ++ dvs) Q E hr I.env0 (hb s us I.kIn hl) r2 h) fun r s' hq=>?_)
 cases r with
 | error e=>exact hx pins σ H s e s' I hq
 | ok fl=>
  cases fl with
  | ret u=>exact I.after hq
  | next=>exact False.elim hq
  | brk=>exact False.elim hq
  | cont=>exact False.elim hq
theorem oM (F:bJ X.prog X.w X.K X.mg X.base CX k f fd ps sp) (hr:bT k X.A) (hg:Gl X x) (hm:X.mg x=some (.ref f)) (hk:PySem.W.keepIn X.K (.ref f)=true) (hb:gB X.K fd ps ds) (hd:aR dvs ds) (hx:mJ CX X E)
  (ha:PA X (e :: es) t) (hdb:(x == ("__debug__" : Str))=false:=by decide) (he:starEach (e :: es) X.env=(false,eval e X.env) :: starEach es X.env:=by rfl) (hpl:(backTo pos (starEach es X.env)).any (·.1)=false:=by rfl) :
  PE X (.Call (.Name x p) (e :: es) [] pos) (sK sp dvs E t):=by
 intro pins s σ H Q I h
 refine wpAny_Call_Name_kw (mC I hg hm ?_ hdb)
 refine PySem.W.callWith_K (h₀:=X.base) I.ok.mod.kin hk (aK (ha pos pins s σ H _ I h) fun us s1 ⟨vs,H1,I1,r,q⟩=>⟨I1.kIn,?_⟩) he hpl
 exact ab1 F hr hb hd hx I1 r q
end
def PK (X:Cx) (kws:List Keyword) (t:TA):Prop:=
 ∀ (pos:Pos) (pins:List (Addr × Obj)) (s:Shared) (σ:St) (H:Hp) (Q:List V->Hp->Prop),a7 X pins σ H s->t σ H Q->wpAny (model X.prog X.w) X.A (evalAll ((backToKw pos (keywordEach kws X.env)).map (·.2))) (AP X pins σ Q) X.xe s
structure FnScope (N P:List Str) (sc:Scope):Prop where
 kind:sc.kind = .function
 co:sc.isCoroutine=false
 gen:sc.isGenerator=false
 nd:N.Nodup
 pre:N.take P.length=P
 par:∀ x ∈ P,sc.names.lookup x=some .local ∨ sc.names.lookup x=some .cell
 nofree:∀ y ∈ sc.names,y.2 ≠ .free
theorem x5 {kindOf:Str->Option NameKind}{x:Str}:∀ {binds:List (Str × Value)}{m:Str->Option Value},(∀ v,(x,v) ∉ binds)->bindL kindOf binds m x=m x
 | [],_,_=>rfl
 | (n,v) :: r,m,h=>by
  unfold bindL
  rw [x5 fun w hw=>h w (aR1 _ hw)]
  split
  ·have:x ≠ n:=by rintro rfl; exact h v aR2
   simp [this]
  ·rfl
theorem x6 {kindOf:Str->Option NameKind}{x:Str}:∀ {binds:List (Str × Value)}{m:Str->Option Value},(∀ v,(x,v) ∉ binds)->bindC kindOf binds m x=m x
 | [],_,_=>rfl
 | (n,v) :: r,m,h=>by
  unfold bindC
  rw [x6 fun w hw=>h w (aR1 _ hw)]
  split
  ·rfl
  ·have:x ≠ n:=by rintro rfl; exact h v aR2
   simp [this]
theorem x8 {kindOf:Str->Option NameKind}{x:Str}{v:Value}:∀ {P:List Str}{vs:List Value}{i:Nat}{m:Str->Option Value},P.Nodup->P[i]? = some x->vs[i]? = some v->kindOf x=some .local->
  bindL kindOf (P.zip vs) m x=some v
 | [],_,_,_,_,h,_,_=>by simp at h
 | _ :: _,[],_,_,_,_,h,_=>by simp at h
 | p :: P,w :: vs,0,m,nd,h1,h2,hk=>by
  simp at h1 h2; subst h1; subst h2
  show bindL kindOf ((p,w) :: P.zip vs) m p=_
  unfold bindL
  rw [x5 fun v hv=>(List.nodup_cons.mp nd).1 (List.of_mem_zip hv).1,if_pos hk]
  simp
 | p :: P,w :: vs,i+1,m,nd,h1,h2,hk=>by
  show bindL kindOf ((p,w) :: P.zip vs) m x=_
  unfold bindL
  exact x8 (i:=i) (List.nodup_cons.mp nd).2 (by simpa using h1) (by simpa using h2) hk
theorem x9 {kindOf:Str->Option NameKind}{x:Str}{v:Value}:∀ {P:List Str}{vs:List Value}{i:Nat}{m:Str->Option Value},P.Nodup->P[i]? = some x->vs[i]? = some v->kindOf x ≠ some .local->
  bindC kindOf (P.zip vs) m x=some v
 | [],_,_,_,_,h,_,_=>by simp at h
 | _ :: _,[],_,_,_,_,h,_=>by simp at h
 | p :: P,w :: vs,0,m,nd,h1,h2,hk=>by
  simp at h1 h2; subst h1; subst h2
  show bindC kindOf ((p,w) :: P.zip vs) m p=_
  unfold bindC
  rw [x6 fun v hv=>(List.nodup_cons.mp nd).1 (List.of_mem_zip hv).1,if_neg hk]
  simp
 | p :: P,w :: vs,i+1,m,nd,h1,h2,hk=>by
  show bindC kindOf ((p,w) :: P.zip vs) m x=_
  unfold bindC
  exact x9 (i:=i) (List.nodup_cons.mp nd).2 (by simpa using h1) (by simpa using h2) hk
def fQ (N:List Str) (vs:List V):St:=vs.map some ++ List.replicate (N.length - vs.length) none
def cT (CX:fO) (P:Program) (w:World) (K:PySem.W.Frag) (mg:Str->Option Value) (base:Heap) (N:List Str) (qual:Str) (scope:Scope) (f:Addr) (cd:Value) (A:Around) (outer:List Env) (s:Shared) (H:Hp) (E:XK):Cx where
 prog:=P
 w:=w
 K:=K
 mg:=mg
 base:=base
 A:=A.deeper (envOfC qual scope s.heap.objs.size f cd)
 N:=N
 s₀:=s
 H₀:=H
 env:=envOfC qual scope s.heap.objs.size f cd
 outer:=outer
 stack:=envOfC qual scope s.heap.objs.size f cd :: outer
 ex:=[]
 calm:=true
 fn:=fun _=>true
 pn:=[]
 xe:=fun e s'=>wpAny (model P w) (A.deeper (envOfC qual scope s.heap.objs.size f cd)) (leaving (envOfC qual scope s.heap.objs.size f cd) e) (fun _ s''=>CX outer H s E e s'') (fun e' s''=>CX outer H s E e' s'') s'
theorem xA {sc:Scope}{n:Nat}{x:Str} (h:sc.names.lookup x=some .cell):∃ c,(cellsFrom n sc.names []).lookup x=some c:=by
 have q:=PySem.W.cellsFrom_some sc.names n [] (.inl h)
 exact Option.isSome_iff_exists.mp q
theorem ab2 {CX:fO}{P:Program}{w:World}{K:PySem.W.Frag}{mg:Str->Option Value}{base:Heap}{N ps:List Str}{qual:Str}{scope:Scope}{f:Addr}{cd:Value}{A:Around}{outer:List Env}{s s1:Shared}{H:Hp}{E:XK}{us:List Value}{vs:List V}
  (S:FnScope N ps scope) (hd:A.handled=none) (e0:oK P w K mg base A outer s H) (hl:vs.length=ps.length) (r:aR vs us)
  (x:InCallC s s.heap.objs.size (bindL (envOfC qual scope s.heap.objs.size f cd).kindOf (ps.zip us) fun _=>none) (cellsFrom (s.heap.objs.size+1) scope.names []) (bindC (envOfC qual scope s.heap.objs.size f cd).kindOf (ps.zip us) fun _=>none) s1) :
  a7 (cT CX P w K mg base N qual scope f cd A outer s H E) [] (fQ N vs) H s1:=by
 have hpl:ps.length<=N.length:=by have:=congrArg List.length S.pre; rw [aT0] at this; omega
 obtain ⟨h1,tk,rfl,hk⟩:=x.done
 have noA:∀ b:Addr,b ∉ (cT CX P w K mg base N qual scope f cd A outer s H E).ex:=fun b z=>absurd (show b ∈ ([]:List Addr) from z) (by simp)
 refine⟨⟨e0.mod,S.kind,rfl,rfl,aQ6 _,fun y z c h1 h2=>?_,fun y hy=>?_,fun y c _ h=>?_,fun _=>hd,Around.frames_deeper e0.frames,.inr ⟨rfl,rfl⟩,fun b z=>absurd z (noA b),e0.bs,e0.bsz,fun b _ _=>noA b,fun b z=>absurd z (noA b),e0.funs,e0.frf⟩,
  rfl,e0.bare,Un.kept hk,⟨_,x.toInCall.ns,fun i y v h1 h2 h3=>?_⟩,fun y c h=>⟨_,x.cell y c h⟩,e0.hok.fresh (aQ6 _),fun y c h=>?_,fun p hp=>absurd (show p ∈ ([]:List (Addr × Obj)) from hp) (by simp),e0.hok.kept hk,?_⟩
 ·exact name_of_addr x.apart (aU5 h1) (aU5 h2)
 ·have hy:scope.names.lookup y=some .cell ∨ scope.names.lookup y=some .free:=hy
  rcases hy with hy | hy
  ·exact xA hy
  ·exact absurd rfl (S.nofree _ (aU5 hy))
 ·exact aX4 (x.above y c (aU5 h))
 ·have hi:i < vs.length:=by
   unfold fQ at h2
   by_cases hi:i < vs.length
   ·exact hi
   ·rw [List.getElem?_append_right (by simpa using hi)] at h2
    rw [List.getElem?_replicate] at h2
    split at h2 <;> cases h2
  have ha:vs[i]? = some v:=by
   unfold fQ at h2
   rw [List.getElem?_append_left (by simpa using hi),aR6] at h2
   cases e:vs[i]? with
   | none=>rw [e] at h2; cases h2
   | some a=>rw [e] at h2; cases h2; rfl
  obtain ⟨u,hu,rv⟩:=r.get ha
  have hp:ps[i]? = some y:=by
   rw [<- S.pre,List.getElem?_take_of_lt (by omega)]; exact h1
  have ndP:ps.Nodup:=by rw [<- S.pre]; exact S.nd.sublist (List.take_sublist _ _)
  refine⟨u,rv,?_⟩
  rcases S.par y (aT1 hp) with k | k
  ·exact .inl ⟨k,x8 ndP hp hu k⟩
  ·obtain ⟨c,e⟩:=xA (n:=s.heap.objs.size+1) k
   refine .inr ⟨.inl k,c,e,?_⟩
   have q:=x.cell y c e
   rw [x9 ndP hp hu (by show scope.names.lookup y ≠ _; rw [k]; decide)] at q
   exact q
 ·exact e0.hok.fresh (aX4 (x.above y c (aU5 h)))
 ·unfold fQ
  show _=N.length
  rw [aQ8,aQ3,List.length_replicate]
  omega
theorem xB {CX:fO}{P:Program}{w:World}{K:PySem.W.Frag}{mg:Str->Option Value}{base:Heap}{k:Nat}{f:Addr}{name qual:Str}{params:Arguments}{body:List Stmt}{scope:Scope}{dV kV doc pm cdv ct oc:Value}{an od:Option Addr}
  {osl:Array (Option Value)}{N ps:List Str}{sp:Sp} (lk:K.lookup f=some ⟨oc,od,.func (PySem.W.fnOf name qual params body scope dV kV doc pm an cdv ct),osl⟩) (hcd:PySem.W.codeIn K cdv qual=true) (S:FnScope N ps scope)
  (len:∀ vs H Q E,sp vs H Q E->vs.length=ps.length)
  (hbody:∀ (A:Around) (outer:List Env) (s:Shared) (H:Hp) (vs:List V) (Q:VK) (E:XK),bT k (A.deeper (envOfC qual scope s.heap.objs.size f cdv))->sp vs H Q E->
   ∃ t,dB (cT CX P w K mg base N qual scope f cdv A outer s H E) body t/\t { nx:=fun _ H'=>Q .non H',rt:=Q } (fQ N vs) H) :
  bJ P w K mg base CX (k+1) f (PySem.W.fnOf name qual params body scope dV kV doc pm an cdv ct) ps sp:=by
 refine⟨len,fun A outer s H args us vs Q E hr e0 hb r hsp=>?_⟩
 have hl:=len _ _ _ _ hsp
 have KX:K.In s.heap:=e0.mod.kin.keeps fun b o e=>(e0.bs b o e).1
 have lim:s.heap.NoLimit:=e0.mod.nolimit.keeps fun b o e=>(e0.bs b o e).1
 have hkind:∀ y ∈ ps.zip us,scope.names.lookup y.1=some .local ∨ (scope.names.lookup y.1=some .cell/\((cellsFrom (s.heap.objs.size+1) scope.names []).lookup y.1).isSome=true):=fun ⟨n,v⟩ hy=>by
  rcases S.par n (List.of_mem_zip hy).1 with q | q
  ·exact .inl q
  ·exact .inr ⟨q,PySem.W.cellsFrom_some _ _ _ (.inl q)⟩
 refine codeAny_call_function hr.depth (KX _ _ lk) rfl S.co S.gen rfl (PySem.W.codeRec_of KX hcd) (hb _ _ _ _ ?_)
 refine wpAny_newFunctionEnv_cells S.kind hkind fun env he s1 x=>?_
 subst he
 refine⟨lim.keeps x.toInCall.keep,codeAny_func ?_⟩
 obtain ⟨t,ht,hq⟩:=hbody A outer s H vs Q E (hr.deeper _) hsp
 have I:a7 (cT CX P w K mg base N qual scope f cdv A outer s H E) [] (fQ N vs) H s1:=ab2 S hr.hd e0 hl r x
 refine aW0 (ht [] s1 (fQ N vs) H _ I hq) (fun fl s' hs=>?_) fun e s' hs=>hs
 have fin:∀ {σ':St}{H':Hp}{v:V}{u:Value},a7 (cT CX P w K mg base N qual scope f cdv A outer s H E) [] σ' H' s'->aT v u->Q v H'->CE outer P w H s Q u s':=
  fun {σ' H' v u} J rv q=>⟨v,H',J.os,J.bare,J.base,J.hok,rv,q⟩
 cases fl with
 | ret u=>
  obtain ⟨v,σ',H',J,rv,q⟩:=hs
  exact fin J rv q
 | next=>
  obtain ⟨σ',H',J,q⟩:=hs
  exact fin (v:=V.non) (u:=Value.none) J rfl q
 | brk=>
  obtain ⟨_,_,_,q⟩:=hs
  exact False.elim q
 | cont=>
  obtain ⟨_,_,_,q⟩:=hs
  exact False.elim q
section
variable {X : Cx} {x : Str} {p pos : Pos} {e : Expr} {es : List Expr} {t : TA} {id T : String} {r : List V → Hp → VK → Prop}
def sL (r:List V->Hp->VK->Prop) (t:TA):TE:=fun σ H Q=>t σ H fun vs H1=>r vs H1 Q
theorem mK (hc:cS X (.builtin id) r) (hg:Gl X x) (hm:X.mg x=none) (hv:bootBuiltins x=some (.builtin id)) (ha:PA X (e :: es) t) (hn:x ≠ "__name__":=by decide) (hdb:(x == ("__debug__" : Str))=false:=by decide)
  (he:starEach (e :: es) X.env=(false,eval e X.env) :: starEach es X.env:=by rfl) (hpl:(backTo pos (starEach es X.env)).any (·.1)=false:=by rfl):PE X (.Call (.Name x p) (e :: es) [] pos) (sL r t):=by
 intro pins s σ H Q I h
 refine wpAny_Call_Name_kw (gS I hg hm hv ?_ hn hdb)
 exact PyProof.Rows.callWith_builtin1 (aK (ha pos pins s σ H _ I h) fun us s1 ⟨vs,H1,I1,r1,q1⟩=>hc pins s1 σ H1 vs us Q I1 r1 q1) he hpl
theorem ab3 (hc:cS X (.type T) r) (hg:Gl X x) (hm:X.mg x=none) (hv:bootBuiltins x=some (.type T)) (ha:PA X (e :: es) t) (hn:x ≠ "__name__":=by decide) (hdb:(x == ("__debug__" : Str))=false:=by decide)
  (he:starEach (e :: es) X.env=(false,eval e X.env) :: starEach es X.env:=by rfl) (hpl:(backTo pos (starEach es X.env)).any (·.1)=false:=by rfl):PE X (.Call (.Name x p) (e :: es) [] pos) (sL r t):=by
 intro pins s σ H Q I h
 refine wpAny_Call_Name_kw (gS I hg hm hv ?_ hn hdb)
 exact aU7 (aK (ha pos pins s σ H _ I h) fun us s1 ⟨vs,H1,I1,r1,q1⟩=>hc pins s1 σ H1 vs us Q I1 r1 q1) he hpl
end
end L2
namespace HT
open PySem PyProof.Rows
def eO:List Int->List Int->Bool
 | [],[]=>false
 | [],_ :: _=>true
 | _ :: _,[]=>false
 | x :: xs,y :: ys=>if x=y then eO xs ys else decide (x < y)
theorem mL (x y:Int) (xs ys:List Int):eO (x :: xs) (y :: ys)=if x=y then eO xs ys else decide (x < y):=rfl
section
variable {prog : Program} {w : World} {A : Around} {E : Value → Shared → Prop} {s : Shared}
theorem ab4 {t b:Addr}{vs ws:List Value}{Q:Value->Shared->Prop} (ht:IsTup s.heap t vs.toArray) (hb:IsTup s.heap b ws.toArray) (hv:vs ≠ [])
  (h1:ws = []->Q (.ref t) s) (h2:ws ≠ []->Q (.ref s.heap.objs.size) { s with heap:=s.heap.push { cls:=.type "tuple",data:=.seq (vs ++ ws).toArray } })
  (hsz:vs.length+ws.length<=sizeLine):wpAny (model prog w) A (binaryOp .Add (.ref t) (.ref b)) Q E s:=by
 obtain ⟨⟨cls,dd,data,sl⟩,ho,hc,n,hd⟩:=id ht
 obtain ⟨⟨cls2,dd2,data2,sl2⟩,ho2,hc2,n2,hd2⟩:=id hb
 simp only at hc hd hc2 hd2
 subst hc hd hc2 hd2
 have e:vs.toArray ++ ws.toArray=(vs ++ ws).toArray:=by simp
 by_cases hw:ws = []
 ·exact concat_meets ⟨_,ho,rfl⟩ ⟨_,ho2,rfl⟩ noFill_tuple_add seq_tuple_add PySem.F.slot_tuple_add PySem.F.entry_tuple_add (PySem.F.args_tuple_add_2 _ _)
   (tuple_addW1 t b vs.toArray ws.toArray n n2 dd dd2 sl sl2 (by simpa using hv) (by simp [hw])) ⟨ho,ho2,h1 hw⟩
 ·refine concat_meets ⟨_,ho,rfl⟩ ⟨_,ho2,rfl⟩ noFill_tuple_add seq_tuple_add PySem.F.slot_tuple_add PySem.F.entry_tuple_add (PySem.F.args_tuple_add_2 _ _)
   (tuple_addW2 t b vs.toArray ws.toArray n n2 dd dd2 sl sl2 (by simpa using hv) (by simpa using hw) (by rw [aR3,aR3]; exact hsz)) ⟨ho,ho2,?_⟩
  rw [e]
  exact h2 hw
def aS (n d:Nat):Option Int->Nat
 | none=>d
 | some v=>if v < 0 then (v+(n:Int)).toNat else min v.toNat n
theorem ab5 (n d:Nat):aS n d none=d:=rfl
theorem xC (n d k:Nat):aS n d (some (k:Int))=min k n:=by
 show (if (k:Int) < 0 then ((k:Int)+(n:Int)).toNat else min (k:Int).toNat n)=min k n
 rw [if_neg (by omega),Int.toNat_natCast]
theorem ab6 (n d:Nat) (hd:d<=n) (o:Option Int):aS n d o<=n:=by
 cases o with
 | none=>exact hd
 | some v=>
  show (if v < 0 then (v+(n:Int)).toNat else min v.toNat n)<=n
  by_cases hv:v < 0
  ·rw [if_pos hv]; omega
  ·rw [if_neg hv]; exact Nat.min_le_right _ _
theorem xD (v:Int) (n d:Nat):(if v < 0 then max (v+(n:Int)) 0 else min v (n:Int))=((aS n d (some v):Nat):Int):=by
 show (if v < 0 then max (v+(n:Int)) 0 else min v (n:Int))=(((if v < 0 then (v+(n:Int)).toNat else min v.toNat n):Nat):Int)
 by_cases hv:v < 0
 ·simp only [if_pos hv]; omega
 ·simp only [if_neg hv]; omega
theorem ab7 (lo hi:Option Int) (n:Nat):Builtin.Slice.sliceAdjust lo hi 1 (n:Int)=(((aS n 0 lo:Nat):Int),((aS n n hi:Nat):Int)):=by
 have h1 : ¬ ((1:Int) < 0):=by omega
 unfold Builtin.Slice.sliceAdjust
 simp only [h1,aX0]
 refine Prod.ext ?_ ?_
 ·cases lo with
  | none=>rfl
  | some v=>exact xD v n 0
 ·cases hi with
  | none=>rfl
  | some v=>exact xD v n n
theorem ab8 (i j:Nat):Builtin.Slice.slicePlaces (i:Int) (j:Int) 1=j - i:=by
 unfold Builtin.Slice.slicePlaces
 have h1:(1:Int) > 0:=by omega
 simp only [h1,if_true,Int.ediv_one]
 split <;> omega
theorem xE {v:Value}{o:Option Int}{Q:Option Int->Shared->Prop} (p:IsPart v o) (h:Q o s):wpAny (model prog w) A (Builtin.Slice.slicePartIndex v) Q E s:=by
 cases p with
 | none=>exact slicePart_none h
 | int i t=>exact slicePart_int h
theorem xF {sl:Addr}{vl vu:Value}{lo hi:Option Int}{n:Nat}{Q:Int × Int × Nat->Shared->Prop} (hs:s.heap.IsSliceOf sl vl vu .none) (pl:IsPart vl lo) (pu:IsPart vu hi)
  (h:Q (((aS n 0 lo:Nat):Int),1,aS n n hi - aS n 0 lo) s):wpAny (model prog w) A (Builtin.Slice.sliceApplied (.ref sl) (pure (n:Int))) Q E s:=by
 obtain ⟨os,hos,hcs,hds⟩:=id hs
 unfold Builtin.Slice.sliceApplied Builtin.Slice.sliceFields
 refine aQ0 (aQ0 (aV1 hos hds (x:=vl) rfl (aQ0 (aV1 hos hds (x:=vu) rfl (aQ0 (aV1 hos hds (x:=.none) rfl (aQ5 ?_)))))))
 refine aQ0 (slicePart_none ?_)
 show wpAny _ _ (if ((1:Int) == 0)=true then _ else _) _ _ s
 rw [if_neg (by decide)]
 refine aQ0 (xE pl (aQ0 (xE pu (aQ0 (aQ5 ?_)))))
 show wpAny _ _ (match Builtin.Slice.sliceAdjust lo hi 1 (n:Int) with | (lo,hi)=>pure (lo,(1:Int),Builtin.Slice.slicePlaces lo hi 1)) _ _ s
 rw [ab7 lo hi n]
 show wpAny _ _ (pure (((aS n 0 lo:Nat):Int),(1:Int),Builtin.Slice.slicePlaces ((aS n 0 lo:Nat):Int) ((aS n n hi:Nat):Int) 1)) _ _ s
 rw [ab8]
 exact aQ5 h
theorem ab9 (xs:Array Value) (i k:Nat):((List.range k).filterMap fun (m:Nat)=>xs[((i:Int)+(m:Int) * 1).toNat]?).toArray=((xs.toList.drop i).take k).toArray:=by
 have e:(fun (m:Nat)=>xs[((i:Int)+(m:Int) * 1).toNat]?)=fun m=>xs[i+m]?:=by
  funext m
  have:((i:Int)+(m:Int) * 1).toNat=i+m:=by omega
  rw [this]
 rw [e]
 have:=pick_run xs i k
 rw [List.filterMap_map] at this
 have e2:((fun x=>xs[x]?) ∘ fun x=>i+x)=fun m=>xs[i+m]?:=rfl
 rw [e2] at this
 rw [this]
theorem ac0 {t sl:Addr}{items:Array Value}{vl vu:Value}{lo hi:Option Int}{Q:Value->Shared->Prop} (ht:IsTup s.heap t items) (hs:s.heap.IsSliceOf sl vl vu .none) (pl:IsPart vl lo) (pu:IsPart vu hi)
  (hw : ¬ (aS items.size 0 lo=0/\aS items.size items.size hi=items.size))
  (h:Q (.ref s.heap.objs.size) { s with heap:=s.heap.push { cls:=.type "tuple",data:=.seq ((items.toList.drop (aS items.size 0 lo)).take (aS items.size items.size hi - aS items.size 0 lo)).toArray } })
  (hsz:items.size<=sizeLine):wpAny (model prog w) A (getItem (.ref t) (.ref sl)) Q E s:=by
 have htake:sizeOk (.seq ((items.toList.drop (aS items.size 0 lo)).take (aS items.size items.size hi - aS items.size 0 lo)).toArray):=by
  show ((items.toList.drop (aS items.size 0 lo)).take (aS items.size items.size hi - aS items.size 0 lo)).toArray.size<=sizeLine
  rw [aR3,aT0,aT9,aV4]
  omega
 have hj:aS items.size items.size hi<=items.size:=ab6 _ _ (aQ6 _) hi
 obtain ⟨os,hos,hcs,hds⟩:=id hs
 have hTs:s.TypeIs (.ref sl) "slice":=⟨os,hos,hcs⟩
 unfold getItem
 try with_reducible refine bb9 ?_
 first | refine aQ0 (aQ5 ?_) | skip
 refine aQ0 (wpAny_sequenceKey ht.typeIs (by decide) ?_)
 refine aQ0 (aV2 (name:=Str.ofString "__getitem__") ht.typeIs aZ6
  (aX3 aZ6 ht.typeIs entry_tuple_getitem ?_ (args_tuple_getitem _ _)))
 show wpAny _ _ (Builtin.Tuple.tupleItemsOf (.ref t) >>= _) _ _ s
 refine aQ0 (tupleItemsOf_ ht ?_)
 refine aQ0 (wpAny_typeOf hTs ?_)
 rw [if_pos (by decide)]
 refine aQ0 (xF hs pl pu ?_)
 have hno : ¬ ((((aS items.size 0 lo:Nat):Int) == 0 && (1:Int) == 1 && (aS items.size items.size hi - aS items.size 0 lo) == items.size)=true):=by
  intro q
  rw [aW5,aW5] at q
  have q1:((aS items.size 0 lo:Nat):Int)=0:=eq_of_beq q.1.1
  have q2:aS items.size items.size hi - aS items.size 0 lo=items.size:=eq_of_beq q.2
  exact hw ⟨by omega,by omega⟩
 show wpAny _ _ (if (((aS items.size 0 lo:Nat):Int) == 0 && (1:Int) == 1 && (aS items.size items.size hi - aS items.size 0 lo) == items.size)=true then _ else _) _ _ s
 rw [if_neg hno,ab9]
 first
  | exact aQ0 (m:=Builtin.Tuple.tupleExact _) (aX5 (aQ5 ⟨_,rfl,aQ5 h⟩) htake)
  | exact aQ0 (m:=Builtin.Tuple.tupleExact _) (aX5 (aQ0 (aQ5 (aQ5 ⟨_,rfl,aQ5 h⟩))) htake)
  | exact aQ0 (aQ0 (m:=Builtin.Tuple.tupleExact _) (aX5 (aQ5 (aQ5 ⟨_,rfl,aQ5 h⟩)) htake))
  | exact aQ0 (aQ0 (m:=Builtin.Tuple.tupleExact _) (aX5 (aQ5 ⟨_,rfl,aQ5 h⟩) htake))
end
end HT
namespace L2
open PySem PySem.Spec PyProof.Rows
abbrev TO:=St->Hp->(Option Int->Hp->Prop)->Prop
def PO (X:Cx) (e:Option Expr) (t:TO):Prop:=
 ∀ (pins:List (Addr × Obj)) (s:Shared) (σ:St) (H:Hp) (Q:Option Int->Hp->Prop),a7 X pins σ H s->t σ H Q->
  wpAny (model X.prog X.w) X.A (evalPart e X.env) (fun u s'=>∃ o H',a7 X pins σ H' s'/\IsPart u o/\Q o H') X.xe s
def ac1:TO:=fun _ H Q=>Q none H
def ac2 (t:TE):TO:=fun σ H Q=>t σ H fun x H1=>∃ i,x = .int i/\Q (some i) H1
theorem mM {ns:List Int}:∀ {us:List Value},aR (ns.map V.int) us->IntsAre us ns:=by
 induction ns with
 | nil=>intro us r; rw [List.map_nil] at r; cases r; exact .nil
 | cons n ns ih=>
  intro us r
  rw [aU8] at r
  cases r with
  | cons r1 r2=>
   obtain ⟨t,e⟩:=r1
   subst e
   exact .cons n t (ih r2)
section
variable {X : Cx} {e : Expr} {te : TE} {lo hi : Option Expr} {tl th : TO} {pos p2 : Pos}
theorem sM:PO X none ac1:=by
 intro pins s σ H Q I h
 rw [evalPart_none]
 exact aQ5 ⟨none,H,I,.none,h⟩
theorem sN (h:PE X e te):PO X (some e) (ac2 te):=by
 intro pins s σ H Q I hw
 rw [evalPart_some]
 refine aK (h pins s σ H _ I hw) fun u s1 ⟨x,H1,I1,r1,q1⟩=>?_
 obtain ⟨i,rfl,q⟩:=q1
 obtain ⟨t,rfl⟩:=r1
 exact⟨some i,H1,I1,.int i t,q⟩
def j6 (X:Cx) (r:V->Option Int->Option Int->Hp->VK->Prop):Prop:=
 ∀ (pins:List (Addr × Obj)) (s:Shared) (σ:St) (H:Hp) (x:V) (v vl vu:Value) (lo hi:Option Int) (sl:Addr) (Q:VK),a7 X pins σ H s->aT x v->s.heap.IsSliceOf sl vl vu .none->IsPart vl lo->IsPart vu hi->r x lo hi H Q->
  ∃ T id,typeLookup (.type T) "__getitem__" = pure (some (.builtin id))/\s.TypeIs v T/\wpAny (model X.prog X.w) X.A (getItem v (.ref sl)) (EP X pins σ Q) X.xe s
theorem j6.or {r r':V->Option Int->Option Int->Hp->VK->Prop} (h:j6 X r) (h':j6 X r'):j6 X (fun x lo hi H Q=>r x lo hi H Q ∨ r' x lo hi H Q):=by
 intro pins s σ H x v vl vu lo hi sl Q I rx hs pl pu q
 rcases q with q | q
 ·exact h pins s σ H x v vl vu lo hi sl Q I rx hs pl pu q
 ·exact h' pins s σ H x v vl vu lo hi sl Q I rx hs pl pu q
def tSl (r:V->Option Int->Option Int->Hp->VK->Prop) (te:TE) (tl th:TO):TE:=fun σ H Q=>te σ H fun x H1=>tl σ H1 fun l H2=>th σ H2 fun u H3=>r x l u H3 Q
theorem sO {r:V->Option Int->Option Int->Hp->VK->Prop} (hr:j6 X r) (he:PE X e te) (hl:PO X lo tl) (hu:PO X hi th):PE X (.Subscript e (.Slice lo hi none p2) pos) (tSl r te tl th):=by
 intro pins s σ H Q I h
 refine Subscript_ (aK (he pins s σ H _ I h) fun v s1 ⟨x,H1,I1,r1,q1⟩=>?_)
 refine wpAny_Slice (aK (hl pins s1 σ H1 _ I1 q1) fun vl s2 ⟨l,H2,I2,pl,q2⟩=>aK (hu pins s2 σ H2 _ I2 q2) fun vu s3 ⟨u,H3,I3,pu,q3⟩=>?_)
 rw [evalPart_none]
 refine aQ5 ?_
 have I4:a7 X pins σ H3 { s3 with heap:=s3.heap.push { cls:=.type "slice",data:=.fields #[vl,vu,.none] } }:=I3.kept (t':=s3.toks) fun b ob q=>aQ1 _ q
 obtain ⟨T,id,hT,ht,hg⟩:=hr pins { s3 with heap:=s3.heap.push { cls:=.type "slice",data:=.fields #[vl,vu,.none] } } σ H3 x v vl vu l u s3.heap.objs.size Q I4 r1 (Heap.IsSliceOf.new ..) pl pu q3
 show wpAny (model X.prog X.w) X.A (subscriptTail e (.Slice lo hi none p2) v (.ref s3.heap.objs.size)) (EP X pins σ Q) X.xe { s3 with heap:=s3.heap.push { cls:=.type "slice",data:=.fields #[vl,vu,.none] } }
 exact tail_any (ops:=[.ref s3.heap.objs.size,v]) ht hT hg (by with_unfolding_all rfl)
def dH (xs:List V) (lo hi:Option Int):List V:=(xs.drop (HT.aS xs.length 0 lo)).take (HT.aS xs.length xs.length hi - HT.aS xs.length 0 lo)
theorem xG (xs:List V) (lo hi:Option Int):(dH xs lo hi).length<=xs.length:=by
 unfold dH
 rw [aT0,aT9]
 omega
def ac3 (K:PySem.W.Frag):V->Option Int->Option Int->Hp->VK->Prop:=fun x lo hi H Q=>∃ a xs,x = .ref a/\aF K H a xs/\
 ¬ (HT.aS xs.length 0 lo=0/\HT.aS xs.length xs.length hi=xs.length)/\∀ p,H p=none->Q (.ref p) (upd H p (.tup (dH xs lo hi)))
theorem ac4:j6 X (ac3 X.K):=by
 intro pins s σ H x v vl vu lo hi sl Q I rx hs pl pu h
 obtain ⟨a,xs,rfl,hx,hw,q⟩:=h
 cases rx
 obtain ⟨its,r,ht,hz⟩:=I.tuple hx
 have hlen:its.toArray.size=xs.length:=by rw [aR3]; exact r.length.symm
 refine⟨"tuple",_,PyProof.Rows.slot_tuple_getitem.lookup,ht.typeIs,?_⟩
 refine HT.ac0 ht hs pl pu (by rw [hlen]; exact hw) ?_ (by rw [hlen]; exact hz)
 rw [hlen]
 refine⟨.ref s.heap.objs.size,_,I.laid (t':=s.toks) (o:=.tup (dH xs lo hi)) (fun b ob q=>aQ1 _ q) (aQ6 _) ?_,rfl,q _ (I.hok.fresh (aQ6 _))⟩
 exact⟨aU0 (xG xs lo hi) hz,_,(r.drop (HT.aS xs.length 0 lo)).take (HT.aS xs.length xs.length hi - HT.aS xs.length 0 lo),IsTup.new _ _,gQ.new _ _ rfl⟩
def ac5 (K:PySem.W.Frag):R2:=fun x y H Q=>∃ a b xs ys,x = .ref a/\y = .ref b/\aF K H a xs/\aF K H b ys/\xs ≠ []/\xs.length+ys.length<=sizeLine/\
 (ys = []->Q (.ref a) H)/\(ys ≠ []->∀ p,H p=none->Q (.ref p) (upd H p (.tup (xs ++ ys))))
theorem aR.nil_iff {xs:List V}{us:List Value} (r:aR xs us):us = [] ↔ xs = []:=by
 cases r with
 | nil=>simp
 | cons _ _=>simp
theorem ac6:cC X (binaryOp .Add) (ac5 X.K):=by
 intro pins s σ H x y v u Q I rx ry h
 obtain ⟨a,b,xs,ys,rfl,rfl,ha,hb,hx,hz,q1,q2⟩:=h
 cases rx
 cases ry
 obtain ⟨its,r1,p1,_⟩:=I.tuple ha
 obtain ⟨its2,r2,p2,_⟩:=I.tuple hb
 refine HT.ab4 p1 p2 (fun z=>hx (r1.nil_iff.mp z)) (fun z=>⟨.ref a,H,I,rfl,q1 (r2.nil_iff.mp z)⟩) (fun z=>?_) (by rw [<- r1.length,<- r2.length]; exact hz)
 refine⟨.ref s.heap.objs.size,_,I.laid (t':=s.toks) (o:=.tup (xs ++ ys)) (fun b ob q=>aQ1 _ q) (aQ6 _) ?_,rfl,q2 (fun w=>z (r2.nil_iff.mpr w)) _ (I.hok.fresh (aQ6 _))⟩
 exact⟨by rw [aQ8]; exact hz,_,r1.append r2,IsTup.new _ _,gQ.new _ _ rfl⟩
end
def k9 (n:Nat) (i:Int):Option Nat:=if 0<=i then (if i < n then some i.toNat else none) else if -(n:Int)<=i then some (i+n).toNat else none
def atI {α:Type} (xs:List α) (i:Int):Option α:=(k9 xs.length i).bind fun j=>xs[j]?
theorem ac7 {n:Nat}{i:Int}{j:Nat} (h:k9 n i=some j):seqIndex? i n=some j/\j < n/\-(n:Int)<=i/\i < n:=by
 unfold k9 at h
 by_cases h0:0<=i
 ·rw [if_pos h0] at h
  by_cases h1:i < n
  ·rw [if_pos h1] at h
   have e:i.toNat=j:=aS7 h
   exact⟨by rw [seqIndex_of h0 h1,e],by omega,by omega,h1⟩
  ·rw [if_neg h1] at h; cases h
 ·rw [if_neg h0] at h
  by_cases h1 : -(n:Int)<=i
  ·rw [if_pos h1] at h
   have e:(i+n).toNat=j:=aS7 h
   exact⟨by rw [seqIndex_neg (by omega) h1,e],by omega,h1,by omega⟩
  ·rw [if_neg h1] at h; cases h
theorem sP {α:Type}{xs:List α}{i:Int}{v:α} (h:atI xs i=some v):∃ j,seqIndex? i xs.length=some j/\xs[j]? = some v/\j < xs.length/\-(xs.length:Int)<=i/\i < xs.length:=by
 unfold atI at h
 cases e:k9 xs.length i with
 | none=>rw [e] at h; cases h
 | some j=>
  rw [e] at h
  obtain ⟨h1,h2,h3,h4⟩:=ac7 e
  exact⟨j,h1,h,h2,h3,h4⟩
theorem ac8 {α:Type}{xs:List α}{j:Nat}{v:α} (h:xs[j]? = some v):atI xs (j:Int)=some v:=by
 have hj:j < xs.length:=(aQ7.mp h).1
 have e:k9 xs.length (j:Int)=some j:=by
  unfold k9
  rw [if_pos (by omega),if_pos (by omega)]; simp
 unfold atI; rw [e]; exact h
def xH (b:Expr):Prop:=∀ o i,subscripted b false o i=operate [o,i] (getItem o i)
def i6 (X:Cx) (r:R2):Prop:=
 ∀ (value slice:Expr) (pins:List (Addr × Obj)) (s:Shared) (σ:St) (H:Hp) (x y:V) (v u:Value) (Q:VK),a7 X pins σ H s->aT x v->aT y u->r x y H Q->
  subscripted slice false v u=operate [v,u] (getItem v u)->wpAny (model X.prog X.w) X.A (subscriptTail value slice v u) (EP X pins σ Q) X.xe s
def MtR (X:Cx) (id:String) (r:V->List V->Hp->VK->Prop):Prop:=
 ∀ (pins:List (Addr × Obj)) (s:Shared) (σ:St) (H:Hp) (x:V) (xs:List V) (v:Value) (us:List Value) (Q:VK),a7 X pins σ H s->aT x v->aR xs us->r x xs H Q->
  wpAny (model X.prog X.w) X.A (call (.builtin id) (v :: us)) (EP X pins σ Q) X.xe s
section
variable {X : Cx} {a b : Expr} {ta tb : TE} {pos : Pos}
theorem i6.or {r r':R2} (h:i6 X r) (h':i6 X r'):i6 X (fun x y H Q=>r x y H Q ∨ r' x y H Q):=by
 intro value slice pins s σ H x y v u Q I rx ry q hs
 rcases q with q | q
 ·exact h value slice pins s σ H x y v u Q I rx ry q hs
 ·exact h' value slice pins s σ H x y v u Q I rx ry q hs
theorem eQ {r:R2} (hr:i6 X r) (ha:PE X a ta) (hb:PE X b tb) (hs:xH b):PE X (.Subscript a b pos) (mG r ta tb):=by
 intro pins s σ H Q I h
 exact Subscript_ (sA ha hb I h fun v u s2 x y H2 I2 rx ry q=>hr a b pins s2 σ H2 x y v u Q I2 rx ry q (hs _ _))
def xI (K:PySem.W.Frag):R2:=fun x y H Q=>∃ p xs i v,x = .ref p/\y = .int i/\aH K H p xs/\atI xs i=some v/\Q v H
def xJ (K:PySem.W.Frag):R2:=fun x y H Q=>∃ p xs i v,x = .ref p/\y = .int i/\aF K H p xs/\atI xs i=some v/\Q v H
def xK:R2:=fun x y H Q=>∃ z i c,x = .str z/\y = .int i/\z.length<=sizeLine/\atI z.cps.toList i=some c/\Q (.str ⟨#[c]⟩) H
theorem mO:i6 X (xI X.K):=by
 intro value slice pins s σ H x y v u Q I rx ry h hs
 obtain ⟨p,xs,i,z,rfl,rfl,hq,he,q⟩:=h
 cases rx
 obtain ⟨t,rfl⟩:=ry
 obtain ⟨its,r,pl,hz⟩:=I.list hq
 obtain ⟨j,h1,h2,h3,h4,h5⟩:=sP he
 obtain ⟨w,ew,rw'⟩:=r.get h2
 have hl:=r.length
 have hn:=mI
 have fin:EP X pins σ Q w s:=⟨z,H,I,rw',q⟩
 by_cases h0:0<=i
 ·have hj:i.toNat=j:=by
   rw [seqIndex_of h0 h5] at h1
   exact aS7 h1
  exact item_listR pl.isList h0 (by omega) (by rw [hj]; simpa using ew) fin hs
 ·have hj:(i+(its.toArray.size:Int)).toNat=j:=by
   rw [seqIndex_neg (by omega) h4] at h1
   rw [aR3,<- hl]
   exact aS7 h1
  exact subscriptTail_builtinR (x:=w) pl.isList.typeIs slot_list_getitem.lookup
   (wpAny_getItem_list_neg (Q:=fun r s'=>r=w/\EP X pins σ Q r s') pl.isList (by omega) (by rw [aR3] <;> omega) (by omega) (by rw [hj]; simpa using ew) ⟨rfl,fin⟩) hs
theorem gV:i6 X (xJ X.K):=by
 intro value slice pins s σ H x y v u Q I rx ry h hs
 obtain ⟨p,xs,i,z,rfl,rfl,hq,he,q⟩:=h
 cases rx
 obtain ⟨t,rfl⟩:=ry
 obtain ⟨its,r,pl,hz⟩:=I.tuple hq
 obtain ⟨j,h1,h2,h3,h4,h5⟩:=sP he
 obtain ⟨w,ew,rw'⟩:=r.get h2
 have hl:=r.length
 have hn:=mI
 have fin:EP X pins σ Q w s:=⟨z,H,I,rw',q⟩
 exact subscriptTail_builtinR (x:=w) pl.typeIs slot_tuple_getitem.lookup
  (getItem_tuple (j:=j) (Q:=fun r s'=>r=w/\EP X pins σ Q r s') pl (by omega) (by omega) (by rw [aR3,<- hl]; exact h1) (by simpa using ew) ⟨rfl,fin⟩) hs
theorem ac9:i6 X xK:=by
 intro value slice pins s σ H x y v u Q I rx ry h hs
 obtain ⟨z,i,c,rfl,rfl,hz,he,q⟩:=h
 obtain ⟨t,rfl⟩:=rx
 obtain ⟨t',rfl⟩:=ry
 obtain ⟨j,h1,h2,h3,h4,h5⟩:=sP he
 have hl:z.cps.toList.length=z.length:=by simp [Str.length]
 rw [hl] at h1 h4 h5
 have hn:=mI
 exact tail_any (typeIs_str s z t) slot_str_getitem.lookup (getItem_str (c:=c) (by
  have e1:decide (i < -(2 ^ 63:Int))=false:=aR4 (by omega)
  have e2:decide (i >= 2 ^ 63)=false:=aR4 (by omega)
  rw [e1,e2,Bool.or_false]) (by rw [h1]; simpa using h2) ⟨.str ⟨#[c]⟩,H,I.tok _,⟨_,rfl⟩,q⟩) hs
def xL (K:PySem.W.Frag):R2:=fun x y H Q=>xI K x y H Q ∨ xJ K x y H Q ∨ xK x y H Q
theorem ad0:i6 X (xL X.K):=mO.or (gV.or ac9)
theorem ad1 (lo hi:Option Int) (n:Nat):(sliceBounds lo hi none n).1=((HT.aS n 0 lo:Nat):Int)/\(sliceBounds lo hi none n).2.1=((HT.aS n n hi:Nat):Int)/\(sliceBounds lo hi none n).2.2=1:=by
 refine⟨?_,?_,rfl⟩
 ·cases lo with
  | none=>simp [sliceBounds,HT.aS]
  | some i=>
   simp only [sliceBounds,HT.aS,Option.getD_none,show (1:Int) > 0 by decide,if_true]
   by_cases h:i < 0
   ·simp only [h,if_true] <;> omega
   ·simp only [h,aX0] <;> omega
 ·cases hi with
  | none=>simp [sliceBounds,HT.aS]
  | some i=>
   simp only [sliceBounds,HT.aS,Option.getD_none,show (1:Int) > 0 by decide,if_true]
   by_cases h:i < 0
   ·simp only [h,if_true] <;> omega
   ·simp only [h,aX0] <;> omega
theorem ad2 (its:List Value) (lo hi:Option Int):slicePick its.toArray lo hi none=((its.drop (HT.aS its.length 0 lo)).take (HT.aS its.length its.length hi - HT.aS its.length 0 lo)).toArray:=by
 obtain ⟨h1,h2,h3⟩:=ad1 lo hi its.toArray.size
 unfold slicePick
 rw [h1,h2,h3]
 simp only [sliceRange_one,pick_run,aR3] <;> rfl
def ad3 (K:PySem.W.Frag):V->Option Int->Option Int->Hp->VK->Prop:=fun x lo hi H Q=>∃ a xs,x = .ref a/\aH K H a xs/\∀ p,H p=none->Q (.ref p) (upd H p (.lst (dH xs lo hi)))
theorem xM:j6 X (ad3 X.K):=by
 intro pins s σ H x v vl vu lo hi sl Q I rx hs pl pu h
 obtain ⟨a,xs,rfl,hx,q⟩:=h
 cases rx
 obtain ⟨its,r,ht,hz⟩:=I.list hx
 have hlen:=r.length
 refine⟨"list",_,slot_list_getitem.lookup,ht.isList.typeIs,?_⟩
 refine wpAny_getItem_list_slice ht.isList hs pl pu .none (by simp) ?_ (by rw [aR3] <;> omega)
 rw [ad2,<- hlen]
 refine⟨.ref s.heap.objs.size,_,I.laid (t':=s.toks) (o:=.lst (dH xs lo hi)) (fun b ob q=>aQ1 _ q) (aQ6 _) ?_,rfl,q _ (I.hok.fresh (aQ6 _))⟩
 exact⟨aU0 (xG xs lo hi) hz,_,0,(r.drop (HT.aS xs.length 0 lo)).take (HT.aS xs.length xs.length hi - HT.aS xs.length 0 lo),aR5 _ rfl⟩
def i7:V->Bool
 | .non=>true
 | .bl _=>true
 | .int _=>true
 | .str _=>true
 | _=>false
def gC:V->V->Bool
 | .non,.non=>true
 | .bl a,.bl b=>a == b
 | .bl a,.int b=>(if a then 1 else 0) == b
 | .int a,.bl b=>a == (if b then 1 else 0)
 | .int a,.int b=>a == b
 | .str a,.str b=>a == b
 | _,_=>false
theorem ad4 {A:Around}{s:Shared}{y x:V}{u v:Value} (ry:aT y u) (rx:aT x v) (fy:i7 y=true) (fx:i7 x=true):SeqAt.EqAt A s u v (gC y x):=by
 cases y with
 | non=>
  cases ry
  cases x with
  | non=>cases rx; exact SeqAt.EqAt.same _
  | bl b=>cases rx; exact SeqAt.EqAt.none_bool b
  | int b=>obtain ⟨t,rfl⟩:=rx; exact SeqAt.EqAt.none_int b t
  | str b=>obtain ⟨t,rfl⟩:=rx; exact SeqAt.EqAt.none_str b t
  | _=>exact absurd (show false=true from fx) aS3
 | bl a=>
  cases ry
  cases x with
  | non=>cases rx; exact SeqAt.EqAt.bool_none a
  | bl b=>cases rx; exact SeqAt.EqAt.bool_bool a b
  | int b=>obtain ⟨t,rfl⟩:=rx; exact SeqAt.EqAt.bool_int a b t
  | str b=>obtain ⟨t,rfl⟩:=rx; exact SeqAt.EqAt.bool_str a b t
  | _=>exact absurd (show false=true from fx) aS3
 | int a=>
  obtain ⟨t',rfl⟩:=ry
  cases x with
  | non=>cases rx; exact SeqAt.EqAt.int_none a t'
  | bl b=>cases rx; exact SeqAt.EqAt.int_bool a t' b
  | int b=>obtain ⟨t,rfl⟩:=rx; exact SeqAt.EqAt.int_int a t' b t
  | str b=>obtain ⟨t,rfl⟩:=rx; exact SeqAt.EqAt.int_str a t' b t
  | _=>exact absurd (show false=true from fx) aS3
 | str a=>
  obtain ⟨t',rfl⟩:=ry
  cases x with
  | non=>cases rx; exact SeqAt.EqAt.str_none a t'
  | bl b=>cases rx; exact SeqAt.EqAt.str_bool a t' b
  | int b=>obtain ⟨t,rfl⟩:=rx; exact SeqAt.EqAt.str_int a t' b t
  | str b=>obtain ⟨t,rfl⟩:=rx; exact SeqAt.EqAt.str_str a t' b t
  | _=>exact absurd (show false=true from fx) aS3
 | _=>exact absurd (show false=true from fy) aS3
def i8 (x:V) (u:Value):Bool:=match u with
 | .none=>gC .non x
 | .bool b=>gC (.bl b) x
 | .int i _=>gC (.int i) x
 | .str z _=>gC (.str z) x
 | _=>false
theorem xN {x y:V}{u:Value} (r:aT y u) (f:i7 y=true):i8 x u=gC y x:=by
 cases y with
 | non=>cases r; rfl
 | bl b=>cases r; rfl
 | int i=>obtain ⟨t,rfl⟩:=r; rfl
 | str z=>obtain ⟨t,rfl⟩:=r; rfl
 | _=>exact absurd (show false=true from f) aS3
theorem sQ {x:V}:∀ {xs:List V}{us:List Value},aR xs us->xs.all i7=true->us.any (i8 x)=xs.any fun y=>gC y x
 | _,_,.nil,_=>rfl
 | y :: xs,u :: us,.cons r t,f=>by
  rw [List.all_cons,aW5] at f
  rw [aZ7,aZ7,xN r f.1,sQ t f.2]
theorem sR {A:Around}{s:Shared}{x:V}{v:Value} (rx:aT x v) (fx:i7 x=true):∀ {xs:List V}{us:List Value},aR xs us->xs.all i7=true->∀ u ∈ us,SeqAt.EqAt A s u v (i8 x u)
 | _,_,.nil,_=>fun u hu=>by cases hu
 | y :: xs,u :: us,.cons r t,f=>fun u' hu=>by
  rw [List.all_cons,aW5] at f
  rcases aQ2.mp hu with rfl | hu
  ·rw [xN r f.1]; exact ad4 r rx f.1 fx
  ·exact sR rx fx t f.2 u' hu
def kA (x:V) (xs:List V):Bool:=xs.any fun y=>gC y x
def xO (K:PySem.W.Frag) (neg:Bool):R2:=fun x y H Q=>∃ p xs,y = .ref p/\(aH K H p xs ∨ aF K H p xs)/\i7 x=true/\xs.all i7=true/\Q (.bl (if neg then !kA x xs else kA x xs)) H
theorem ad5:cC X (compareOp .In) (xO X.K false):=by
 intro pins s σ H x y v u Q I rx ry h
 obtain ⟨p,xs,rfl,hq,fx,fs,q⟩:=h
 cases ry
 rcases hq with hq | hq
 ·obtain ⟨its,r,pl,hz⟩:=I.list hq
  refine SeqAt.in_listAt (i8 x) pl.isList (fun w hw=>sR rx fx r fs w (by simpa using hw)) ⟨.bl _,H,I,rfl,?_⟩
  rw [show its.toArray.any (i8 x)=its.any (i8 x) by simp,sQ r fs]
  exact q
 ·obtain ⟨its,r,pl,hz⟩:=I.tuple hq
  refine SeqAt.in_tupleAt (i8 x) pl (fun w hw=>sR rx fx r fs w (by simpa using hw)) ⟨.bl _,H,I,rfl,?_⟩
  rw [show its.toArray.any (i8 x)=its.any (i8 x) by simp,sQ r fs]
  exact q
theorem xP:cS X (.builtin "len") (fun xs H Q=>∃ p ys,xs = [.ref p]/\(aH X.K H p ys ∨ aF X.K H p ys)/\Q (.int ys.length) H):=by
 intro pins s σ H xs us Q I r h
 obtain ⟨p,ys,rfl,hq,q⟩:=h
 obtain ⟨u,rfl,rx⟩:=eI r
 cases rx
 have hn:=mI
 rcases hq with hq | hq
 ·obtain ⟨its,r',pl,hz⟩:=I.list hq
  have hlen:=r'.length
  exact Calls.call_len_list pl.isList (by simp only [aR3] <;> omega) ⟨.int ys.length,H,I.tok _,⟨s.toks+1,by rw [aR3,hlen]⟩,q⟩
 ·obtain ⟨its,r',pl,hz⟩:=I.tuple hq
  have hlen:=r'.length
  exact len_tuple pl (by simp only [aR3] <;> omega) ⟨.int ys.length,H,I.tok _,⟨s.toks+1,by rw [aR3,hlen]⟩,q⟩
theorem cS.or {f:Value}{r r':List V->Hp->VK->Prop} (h:cS X f r) (h':cS X f r'):cS X f (fun xs H Q=>r xs H Q ∨ r' xs H Q):=by
 intro pins s σ H xs us Q I rs q
 rcases q with q | q
 ·exact h pins s σ H xs us Q I rs q
 ·exact h' pins s σ H xs us Q I rs q
theorem ad6:cS X (.type "list") (fun xs H Q=>∃ p ys,xs = [.ref p]/\(aH X.K H p ys ∨ aF X.K H p ys)/\∀ l,H l=none->Q (.ref l) (upd H l (.lst ys))):=by
 intro pins s σ H xs us Q I r h
 obtain ⟨p,ys,rfl,hq,q⟩:=h
 obtain ⟨u,rfl,rx⟩:=eI r
 cases rx
 have fin:∀ (its:List Value),aR ys its->ys.length<=sizeLine->∀ (h':Heap) (c':Nat),(∀ b o',s.heap.get? b=some o'->h'.get? b=some o')->
   h'.get? s.heap.objs.size=some { cls:=.type "list",dict:=none,data:=.seq its.toArray c',slots:=#[] }->EP X pins σ Q (.ref s.heap.objs.size) { s with heap:=h' }:=fun its r' hz h' c' kp e=>
  ⟨.ref s.heap.objs.size,_,I.laid (t':=s.toks) kp (aQ6 _) (show bY X.prog X.w _ h' _ (.lst ys) from ⟨hz,its,c',r',e⟩),rfl,q _ (I.hok.fresh (aQ6 _))⟩
 rcases hq with hq | hq
 ·obtain ⟨its,r',pl,hz⟩:=I.list hq
  have hlen:=r'.length
  obtain ⟨o,ho,hc,n,hd⟩:=pl.isList
  exact call_list_seq p (.inl rfl) ho hc hd (fun h' c' kp e=>fin its r' hz h' c' kp e) (by simp only [aR3] <;> omega)
 ·obtain ⟨its,r',pl,hz⟩:=I.tuple hq
  have hlen:=r'.length
  obtain ⟨o,ho,hc,n,hd⟩:=pl
  exact call_list_seq p (.inr rfl) ho hc hd (fun h' c' kp e=>fin its r' hz h' c' kp e) (by simp only [aR3] <;> omega)
theorem ad7:cS X (.type "tuple") (fun xs H Q=>∃ p ys,xs = [.ref p]/\((aH X.K H p ys/\∀ l,H l=none->Q (.ref l) (upd H l (.tup ys))) ∨ (aF X.K H p ys/\Q (.ref p) H))):=by
 intro pins s σ H xs us Q I r h
 obtain ⟨p,ys,rfl,h⟩:=h
 obtain ⟨u,rfl,rx⟩:=eI r
 cases rx
 rcases h with ⟨hq,q⟩ | ⟨hq,q⟩
 ·obtain ⟨its,r',pl,hz⟩:=I.list hq
  have hlen:=r'.length
  refine call_tuple_list pl.isList (fun h' kp=>?_) (by simp only [aR3] <;> omega)
  have I1:a7 X pins σ H { s with heap:=h' }:=I.kept (t':=s.toks) kp
  have I2:a7 X pins σ (upd H h'.objs.size (.tup ys)) { s with heap:=h'.push { cls:=.type "tuple",data:=.seq its.toArray } }:=
   I1.laid (t':=s.toks) (fun b o e=>aQ1 _ e) (aQ6 _) (show bY X.prog X.w _ _ _ (.tup ys) from ⟨hz,its,r',IsTup.new _ _,gQ.new _ _ rfl⟩)
  exact⟨.ref h'.objs.size,_,I2,rfl,q _ (I1.hok.fresh (aQ6 _))⟩
 ·obtain ⟨its,r',pl,hz⟩:=I.tuple hq
  exact call_tuple_same pl ⟨.ref p,H,I,rfl,q⟩
def gD (K:PySem.W.Frag) (T:String) (x:V) (H:Hp):Prop:=match x with
 | .str _=>T="str"
 | .int _=>T="int"
 | .ref p=>(T="list"/\∃ xs,aH K H p xs) ∨ (T="tuple"/\∃ o,K.lookup p=some o/\o.cls = .type "tuple"/\o.dict=none) ∨
   (T="dict"/\((∃ kvs,H p=some (.dK kvs)) ∨ ∃ kvs,H p=some (.dT kvs))) ∨ (T="set"/\∃ S n,H p=some (.set S n))
 | _=>False
theorem ad8 {pins:List (Addr × Obj)}{σ:St}{H:Hp}{s:Shared}{T:String}{x:V}{v:Value} (I:a7 X pins σ H s) (r:aT x v) (ty:gD X.K T x H) :
  s.TypeIs v T/\∀ a,v = .ref a->∃ ob,s.heap.get? a=some ob/\ob.dict=none:=by
 cases x with
 | str z=>
  obtain ⟨t,rfl⟩:=r
  cases (show T="str" from ty)
  exact⟨typeIs_str s z t,fun _ e=>nomatch e⟩
 | int i=>
  obtain ⟨t,rfl⟩:=r
  cases (show T="int" from ty)
  exact⟨typeIs_int s i t,fun _ e=>nomatch e⟩
 | ref p=>
  cases r
  rcases ty with ⟨rfl,xs,hq⟩ | ⟨rfl,o,hk,hc,hd⟩ | ⟨rfl,hk⟩ | ⟨rfl,S,n,hk⟩
  ·obtain ⟨its,_,pl,_⟩:=I.list hq
   refine⟨pl.isList.typeIs,fun a e=>?_⟩
   cases e
   obtain ⟨o,n,e,c,hd,_⟩:=pl
   exact⟨o,e,hd⟩
  ·refine⟨⟨o,I.kIn p o hk,hc⟩,fun a e=>?_⟩
   cases e
   exact⟨o,I.kIn _ o hk,hd⟩
  ·have z:∃ o,s.heap.get? p=some o/\o.ExactDict:=by
    rcases hk with ⟨kvs,hk⟩ | ⟨kvs,hk⟩
    ·obtain ⟨_,_,_,_,o,_,_,e,ex,_⟩:=I.hok p _ hk
     exact⟨o,e,ex⟩
    ·obtain ⟨_,_,_,_,o,_,_,e,ex,_⟩:=I.hok p _ hk
     exact⟨o,e,ex⟩
   obtain ⟨o,e,ex⟩:=z
   refine⟨⟨o,e,ex.1⟩,fun a e2=>?_⟩
   cases e2
   exact⟨o,e,ex.2.1⟩
  ·obtain ⟨o,_,_,_,e,ex,_⟩:=I.hok p _ hk
   refine⟨⟨o,e,ex.1⟩,fun a e2=>?_⟩
   cases e2
   exact⟨o,e,ex.2.1⟩
 | _=>exact False.elim ty
def mQ (K:PySem.W.Frag) (T:String) (r:V->List V->Hp->VK->Prop) (to:TE) (t:TA):TE:=fun σ H Q=>to σ H fun x H1=>gD K T x H1/\t σ H1 fun xs H2=>r x xs H2 Q
variable {o e : Expr} {es : List Expr} {to : TE} {t : TA} {name : Str} {apos cpos : Pos} {T id : String} {r : V → List V → Hp → VK → Prop}
theorem j7 (pa:PlainAttrs T) (slot:Slot T name id) (hty:typeOf (.builtin id)=pure (.type "method_descriptor")) (hm:MtR X id r) (ho:PE X o to) (ha:PA X (e :: es) t)
  (hbase:attributeBase o name X.env (eval o X.env)=eval o X.env:=by rfl)
  (hfew:((backTo cpos (starEach (e :: es) X.env)).all (fun x=>!x.1) && (backToKw cpos (keywordEach [] X.env)).all (fun x=>x.1.isSome)
   && decide ((e :: es).length+([]:List Keyword).length+(if ([]:List Keyword).isEmpty then 0 else 1) < 30))=true:=by rfl)
  (hline:(apos.endLine == cpos.line)=true:=by rfl) (hs:starEach (e :: es) X.env=(false,eval e X.env) :: starEach es X.env:=by rfl) (hplain:(backTo cpos (starEach es X.env)).any (·.1)=false:=by rfl) :
  PE X (.Call (.Attribute o name apos) (e :: es) [] cpos) (mQ X.K T r to t):=by
 intro pins s σ H Q I h
 refine wpAny_Call_method_late hbase hfew hline rfl (aK (ho pins s σ H _ I h) fun v s1 ⟨x,H1,I1,r1,ty,q1⟩=>?_)
 obtain ⟨h1,h2⟩:=ad8 I1 r1 ty
 refine⟨T,id,pa,slot,hty,h1,h2,?_⟩
 have hA:=ha cpos pins s1 σ H1 _ I1 q1
 rw [hs] at hA ⊢
 refine Calls.callWith_builtin (by show (false || (backTo cpos (starEach es X.env)).any (·.1))=false; rw [hplain] <;> rfl) (Calls.evalArgs_plain ?_)
 exact aK hA fun us s2 ⟨vs,H2,I2,r2,q2⟩=>hm pins s2 σ H2 x vs v us Q I2 r1 r2 q2
end
def oN (X:Cx) (id:String) (r:V->List V->Hp->VK->Prop):Prop:=
 ∀ (pins:List (Addr × Obj)) (s:Shared) (σ:St) (H:Hp) (x:V) (xs:List V) (v:Value) (us:List Value) (Q:VK),a7 X pins σ H s->aT x v->aR xs us->r x xs H Q->
  wpAny (model X.prog X.w) X.A (call (.builtin id) (v :: us)) (EP X pins σ Q) X.xe s
theorem aR.one {x:V}{us:List Value} (h:aR [x] us):∃ u,us = [u]/\aT x u:=by
 cases h with
 | cons r t=>
  cases t
  exact⟨_,rfl,r⟩
section
variable {X : Cx} {pins : List (Addr × Obj)} {σ : St} {H : Hp} {s : Shared} {l b : Addr} {xs ys zs : List V}
theorem a7.lset {its its':List Value}{n:Nat}{f:Array Value->Array Value}{t':Nat} (I:a7 X pins σ H s) (hH:H l=some (.lst xs))
  (e:s.heap.get? l=some { cls:=.type "list",data:=.seq its.toArray n }) (hf:f its.toArray=its'.toArray) (hv:aR ys its') (hz:ys.length<=sizeLine) :
  a7 X pins σ (upd H l (.lst ys)) { s with heap:=s.heap.update l (Obj.mapSeq f),toks:=t' }:=by
 have q:=PySem.IsL.update e f
 rw [hf] at q
 refine I.write (x:=l) (e:=l) (by rw [hH]; exact trivial) (.inl rfl) (fun b' u hb hu=>(Heap.get?_update_other s.heap (Obj.mapSeq f) (Ne.symm hb)).trans hu) ⟨_,q⟩ ?_
 exact⟨hz,its',_,hv,q⟩
theorem a7.lnew {its:List Value}{t':Nat} (I:a7 X pins σ H s) (hv:aR ys its) (hz:ys.length<=sizeLine) :
  a7 X pins σ (upd H s.heap.objs.size (.lst ys)) { s with heap:=s.heap.push { cls:=.type "list",data:=.seq its.toArray },toks:=t' }:=
 I.laid (fun _ _ q=>aQ1 _ q) (aQ6 _) ⟨hz,its,0,hv,aR5 _ rfl⟩
theorem a7.fresh (I:a7 X pins σ H s):H s.heap.objs.size=none:=I.hok.fresh (aQ6 _)
theorem a7.lstM (I:a7 X pins σ H s) (hH:H l=some (.lst xs)):xs.length<=sizeLine/\∃ (its:List Value) (n:Nat),aR xs its/\xs.length=its.length/\s.heap.get? l=some { cls:=.type "list",data:=.seq its.toArray n }:=by
 obtain ⟨z,its,n,r,e⟩:=I.hok l _ hH
 exact⟨z,its,n,r,r.length,e⟩
theorem ad9 {n:Nat} (h:n<=sizeLine):Builtin.List.listTooLong n=false:=by
 unfold Builtin.List.listTooLong
 exact aR4 (by omega)
end
section
variable {X : Cx}
def sS:V->List V->Hp->VK->Prop:=fun x vs H Q=>∃ l xs y,x = .ref l/\vs = [y]/\H l=some (.lst xs)/\xs.length < sizeLine/\Q .non (upd H l (.lst (xs ++ [y])))
theorem kB:oN X "list.append" sS:=by
 intro pins s σ H x vs v us Q I rx rv h
 obtain ⟨l,xs,y,rfl,rfl,hH,hz,q⟩:=h
 cases rx
 obtain ⟨u,rfl,ru⟩:=rv.one
 obtain ⟨z,its,n,r,hl,e⟩:=I.lstM hH
 refine call_meets F.slot_list_append ⟨_,e,rfl⟩ F.entry_list_append (F.args_list_append_2 _ _) (PySem.list_append l its.toArray n u (by rw [aR3]; omega)) ⟨e,?_⟩
 refine⟨.non,_,I.lset (its':=its ++ [u]) hH e (by simp) (r.append (.cons ru .nil)) ?_,rfl,q⟩
 rw [aQ8,aT3]
 omega
def ae0:V->List V->Hp->VK->Prop:=fun x vs H Q=>∃ l b xs zs,x = .ref l/\vs = [.ref b]/\H l=some (.lst xs)/\H b=some (.lst zs)/\xs.length+zs.length<=sizeLine/\Q .non (upd H l (.lst (xs ++ zs)))
theorem aP5:oN X "list.extend" ae0:=by
 intro pins s σ H x vs v us Q I rx rv h
 obtain ⟨l,b,xs,zs,rfl,rfl,hH,hB,hz,q⟩:=h
 cases rx
 obtain ⟨u,rfl,ru⟩:=rv.one
 cases ru
 obtain ⟨z,its,n,r,hl,e⟩:=I.lstM hH
 obtain ⟨z2,its2,n2,r2,hl2,e2⟩:=I.lstM hB
 have hsz:its.toArray.size+its2.toArray.size<=sizeLine:=by rw [aR3,aR3]; omega
 have hlong : ¬ (!its.toArray.isEmpty && Builtin.List.listTooLong (its.toArray.size+its2.toArray.size))=true:=by
  rw [ad9 hsz,Bool.and_false]
  exact aS3
 refine call_meets F.slot_list_extend ⟨_,e,rfl⟩ F.entry_list_extend (F.args_list_extend_2 _ _)
  (AutoSeq1.list_extend_list_list_0 l its.toArray n b its2.toArray n2 hlong (by rw [aR3]; omega) (by omega)) ⟨e,e2,?_⟩
 refine⟨.non,_,I.lset (its':=its ++ its2) hH e (by simp) (r.append r2) ?_,rfl,q⟩
 rw [aQ8]
 omega
def xQ:R2:=fun x y H Q=>∃ l b xs zs,x = .ref l/\y = .ref b/\H l=some (.lst xs)/\H b=some (.lst zs)/\xs.length+zs.length<=sizeLine/\∀ p,H p=none->Q (.ref p) (upd H p (.lst (xs ++ zs)))
theorem ae1:cC X (binaryOp .Add) xQ:=by
 intro pins s σ H x y v u Q I rx ry h
 obtain ⟨l,b,xs,zs,rfl,rfl,hH,hB,hz,q⟩:=h
 cases rx
 cases ry
 obtain ⟨z,its,n,r,hl,e⟩:=I.lstM hH
 obtain ⟨z2,its2,n2,r2,hl2,e2⟩:=I.lstM hB
 refine PySem.P.add_list e e2 ?_ (by rw [aR3,aR3]; omega)
 have ea:its.toArray ++ its2.toArray=(its ++ its2).toArray:=by simp
 rw [ea]
 exact⟨.ref _,_,I.lnew (t':=s.toks) (r.append r2) (by rw [aQ8]; omega),rfl,q _ I.fresh⟩
end
section
variable {κ : Type} [DecidableEq κ]
def eJ (kvs:List (κ × V)) (k:κ):Option V:=(kvs.find? fun kv=>decide (kv.1=k)).map (·.2)
def dC (kvs:List (κ × V)) (k:κ) (v:V):List (κ × V):=
 if (kvs.any fun kv=>decide (kv.1=k))=true then kvs.map (fun kv=>if kv.1=k then (kv.1,v) else kv) else kvs ++ [(k,v)]
theorem sU {p:κ × V}{r:List (κ × V)}{k:κ} (e:p.1=k):eJ (p :: r) k=some p.2:=by simp [eJ,aY7,e]
theorem sV {p:κ × V}{r:List (κ × V)}{k:κ} (e : ¬ p.1=k):eJ (p :: r) k=eJ r k:=by simp [eJ,aY7,e]
theorem xR (k:κ):∀ kvs:List (κ × V),(kvs.any fun kv=>decide (kv.1=k))=(eJ kvs k).isSome
 | []=>rfl
 | p :: r=>by
  rw [aZ7]
  by_cases e:p.1=k
  ·simp only [sU e,aR9 e,Bool.true_or,Option.isSome_some]
  ·rw [sV e,aR4 e,Bool.false_or]; exact xR k r
theorem sW (kvs:List (κ × V)) (k:κ) (v:V):(dC kvs k v).length<=kvs.length+1:=by
 unfold dC
 split
 ·rw [aQ3]; omega
 ·rw [aQ8,aU1,List.length_nil]; omega
theorem fI.isSome_eq {o:Option V}{u:Option Value} (r:fI o u):o.isSome=u.isSome:=by
 cases o with
 | none=>cases u with
  | none=>rfl
  | some _=>exact (show False from r).elim
 | some _=>cases u with
  | none=>exact (show False from r).elim
  | some _=>rfl
theorem fI.getD {o:Option V}{u:Option Value}{d:V}{d':Value} (r:fI o u) (rd:aT d d'):aT (o.getD d) (u.getD d'):=by
 cases o with
 | none=>cases u with
  | none=>exact rd
  | some _=>exact (show False from r).elim
 | some _=>cases u with
  | none=>exact (show False from r).elim
  | some _=>exact r
theorem KV.val {kvs:List (κ × V)}{vs:List (κ × Value)} (r:KV kvs vs) (k:κ):fI (eJ kvs k) (valueAt vs k):=by
 unfold KV at r
 induction r with
 | nil=>exact True.intro
 | @cons p q ps qs h t ih=>
  obtain ⟨h1,h2⟩:=h
  by_cases e:p.1=k
  ·have e':q.1=k:=h1.symm.trans e
   have b:valueAt (q :: qs) k=some q.2:=by simp [valueAt,aY7,e']
   rw [sU e,b]; exact h2
  ·have e' : ¬ q.1=k:=fun z=>e (h1.trans z)
   have b:valueAt (q :: qs) k=valueAt qs k:=by simp [valueAt,aY7,e']
   rw [sV e,b]; exact ih
theorem KV.any {kvs:List (κ × V)}{vs:List (κ × Value)} (r:KV kvs vs) (k:κ):(kvs.any fun kv=>decide (kv.1=k))=vs.any fun kv=>decide (kv.1=k):=by
 unfold KV at r
 induction r with
 | nil=>rfl
 | cons h t ih=>rw [aZ7,aZ7,ih,h.1]
theorem KV.repl {kvs:List (κ × V)}{vs:List (κ × Value)} (r:KV kvs vs) (k:κ) {y:V}{u:Value} (ry:aT y u) :
  KV (kvs.map fun kv=>if kv.1=k then (kv.1,y) else kv) (vs.map fun kv=>if kv.1=k then (kv.1,u) else kv):=by
 unfold KV at r ⊢
 induction r with
 | nil=>exact .nil
 | @cons p q ps qs h t ih=>
  rw [aU8,aU8]
  refine .cons ?_ ih
  obtain ⟨h1,h2⟩:=h
  by_cases e:p.1=k
  ·rw [if_pos e,if_pos (h1.symm.trans e)]; exact⟨h1,ry⟩
  ·rw [if_neg e,if_neg (fun z=>e (h1.trans z))]; exact⟨h1,h2⟩
theorem KV.put {kvs:List (κ × V)}{vs:List (κ × Value)} (r:KV kvs vs) (k:κ) {y:V}{u:Value} (ry:aT y u):KV (dC kvs k y) (stored vs k u):=by
 unfold dC stored
 rw [r.any k]
 by_cases e:(vs.any fun kv=>decide (kv.1=k))=true
 ·rw [if_pos e,if_pos e]; exact r.repl k ry
 ·rw [if_neg e,if_neg e]; exact Paired.snoc r ⟨rfl,ry⟩
theorem KV.length {kvs:List (κ × V)}{vs:List (κ × Value)} (r:KV kvs vs):kvs.length=vs.length:=Paired.length r
end
theorem l0 {P:Program}{w:World}{k:aC}{u:Value} (r:aT (kV k) u):(dG P w).is k u=true:=by
 cases k with
 | inl i=>obtain ⟨t,e⟩:=(show ∃ t,u=Value.int i t from r); subst e; exact U9 P w i t
 | inr x=>obtain ⟨t,e⟩:=(show ∃ t,u=Value.str x t from r); subst e; exact V0 P w x t
theorem xS {P:Program}{w:World}:∀ {ks:List aC}{us:List Value},aR (ks.map kV) us->ItemsAre (dG P w) ks us
 | [],_,r=>by rw [List.map_nil] at r; cases r; exact .nil
 | k :: ks,_,r=>by
  rw [aU8] at r
  cases r with
  | cons h t=>exact .cons (l0 h) (xS t)
abbrev KT (H:Hp):List (List aC × V)->List (List aC × Addr × Value)->Prop:=Paired fun p q=>p.1=q.1/\H q.2.1=some (.tup (p.1.map kV))/\aT p.2 q.2.2
theorem KT.val {H:Hp}{kvs:List (List aC × V)}{xs:List (List aC × Addr × Value)} (r:KT H kvs xs) (k:List aC):fI (eJ kvs k) ((atKey xs k).map (·.2)):=by
 induction r with
 | nil=>exact True.intro
 | @cons p q ps qs h t ih=>
  obtain ⟨h1,_,h2⟩:=h
  by_cases e:p.1=k
  ·have e':q.1=k:=h1.symm.trans e
   have b:atKey (q :: qs) k=some q.2:=by simp [atKey,aY7,e']
   rw [sU e,b]; exact h2
  ·have e' : ¬ q.1=k:=fun z=>e (h1.trans z)
   have b:atKey (q :: qs) k=atKey qs k:=by simp [atKey,aY7,e']
   rw [sV e,b]; exact ih
theorem KT.repl {H:Hp}{kvs:List (List aC × V)}{xs:List (List aC × Addr × Value)} (r:KT H kvs xs) (k:List aC) {y:V}{u:Value} (ry:aT y u) :
  KT H (kvs.map fun kv=>if kv.1=k then (kv.1,y) else kv) (xs.map (putAt k u)):=by
 induction r with
 | nil=>exact .nil
 | @cons p q ps qs h t ih=>
  rw [aU8,aU8]
  refine .cons ?_ ih
  obtain ⟨h1,h2,h3⟩:=h
  unfold putAt
  by_cases e:p.1=k
  ·rw [if_pos e,if_pos (h1.symm.trans e)]; exact⟨h1,h2,ry⟩
  ·rw [if_neg e,if_neg (fun z=>e (h1.trans z))]; exact⟨h1,h2,h3⟩
theorem KT.put {H:Hp}{kvs:List (List aC × V)}{xs:List (List aC × Addr × Value)} (r:KT H kvs xs) (k:List aC) {b:Addr}{y:V}{u:Value} (hb:H b=some (.tup (k.map kV))) (ry:aT y u) :
  KT H (dC kvs k y) (storedH xs k b u):=by
 have e:(kvs.any fun kv=>decide (kv.1=k))=(atKey xs k).isSome:=by
  rw [xR,(r.val k).isSome_eq,Option.isSome_map]
 unfold dC storedH
 rw [e]
 by_cases q:(atKey xs k).isSome=true
 ·rw [if_pos q,if_pos q]; exact r.repl k ry
 ·rw [if_neg q,if_neg q]; exact Paired.snoc r ⟨rfl,hb,ry⟩
theorem KT.keeps {H H':Hp}{kvs:List (List aC × V)}{xs:List (List aC × Addr × Value)} (r:KT H kvs xs) (ht:∀ b ys,H b=some (.tup ys)->H' b=some (.tup ys)):KT H' kvs xs:=
 Paired.mapP r fun _ _ z=>⟨z.1,ht _ _ z.2.1,z.2.2⟩
section
variable {P : Program} {w : World} {H : Hp} {h : Heap} {a : Addr}
theorem xT {u:HO} (ok:bM P w H h) (e:Rd H a u):bY P w H h a u:=e.ok ok
theorem j8 {kvs:List (aC × V)} (ok:bM P w H h) (e:Rd H a (.dK kvs)):kvs.length<=sizeLine/\(a == sysModules)=false/\∃ vs,KV kvs vs/\h.DictOf (dG P w) a vs:=
 show bY P w H h a (.dK kvs) from xT ok e
theorem sX {kvs:List (aC × V)} (ok:bM P w H h) (e:H a=some (.dK kvs)):kvs.length<=sizeLine/\(a == sysModules)=false/\∃ vs,KV kvs vs/\h.DictOf (dG P w) a vs:=j8 ok (.inl e)
theorem l8 {ks:List aC} (ok:bM P w H h) (e:H a=some (.tup (ks.map kV))):(tupleKind (dG P w)).is h ks a:=by
 obtain ⟨_,its,r,⟨o,h1,h2,n,h3⟩,_⟩:=(show bY P w H h a (.tup (ks.map kV)) from ok a _ e)
 exact⟨o,its.toArray,n,h1,h2,h3,by simpa using xS r⟩
theorem kC {kvs:List (List aC × V)} (ok:bM P w H h) (e:Rd H a (.dT kvs)):kvs.length<=sizeLine/\(a == sysModules)=false/\
  ∃ xs,KT H kvs xs/\h.DictOfH (tupleKind (dG P w)) a xs:=by
 obtain ⟨z,y,xs,r,o,es,ep,h1,h2,h3,h4,h5⟩:=(show bY P w H h a (.dT kvs) from xT ok e)
 refine⟨z,y,xs,r,o,es,ep,h1,h2,h3,h4,fun x hx=>?_,h5⟩
 have all:∀ {l:List (List aC × V)}{m:List (List aC × Addr × Value)},KT H l m->∀ x ∈ m,(tupleKind (dG P w)).is h x.1 x.2.1:=by
  intro l m q
  induction q with
  | nil=>intro x hx; exact nomatch hx
  | @cons p q ps qs hq t ih=>
   intro x hx
   rcases aQ2.mp hx with e | hx
   ·subst e
    exact l8 ok (by rw [<- hq.1]; exact hq.2.1)
   ·exact ih x hx
 exact all r x hx
theorem ae2 {kvs:List (List aC × V)} (ok:bM P w H h) (e:H a=some (.dT kvs)):kvs.length<=sizeLine/\(a == sysModules)=false/\
  ∃ xs,KT H kvs xs/\h.DictOfH (tupleKind (dG P w)) a xs:=kC ok (.inl e)
end
def dR (H:Hp) (a:Addr) (y:V) (r:Option V):Prop:=
 (∃ kvs k,Rd H a (.dK kvs)/\y=kV k/\r=eJ kvs k) ∨ ∃ kvs k b,Rd H a (.dT kvs)/\y = .ref b/\H b=some (.tup (k.map kV))/\r=eJ kvs k
def j9 (H:Hp) (a:Addr) (y v:V) (H':Hp):Prop:=
 (∃ kvs k,H a=some (.dK kvs)/\y=kV k/\kvs.length < sizeLine/\H'=upd H a (.dK (dC kvs k v))) ∨
 ∃ kvs k b,H a=some (.dT kvs)/\y = .ref b/\H b=some (.tup (k.map kV))/\kvs.length < sizeLine/\H'=upd H a (.dT (dC kvs k v))
theorem dR.k {H:Hp}{a:Addr}{kvs:List (aC × V)}{k:aC} (e:H a=some (.dK kvs)):dR H a (kV k) (eJ kvs k):=.inl ⟨kvs,k,.inl e,rfl,rfl⟩
theorem dR.t {H:Hp}{a b:Addr}{kvs:List (List aC × V)}{k:List aC} (e:H a=some (.dT kvs)) (eb:H b=some (.tup (k.map kV))):dR H a (.ref b) (eJ kvs k):=.inr ⟨kvs,k,b,.inl e,rfl,eb,rfl⟩
theorem j9.k {H:Hp}{a:Addr}{kvs:List (aC × V)}{k:aC}{v:V} (e:H a=some (.dK kvs)) (hl:kvs.length < sizeLine):j9 H a (kV k) v (upd H a (.dK (dC kvs k v))):=.inl ⟨kvs,k,e,rfl,hl,rfl⟩
theorem j9.t {H:Hp}{a b:Addr}{kvs:List (List aC × V)}{k:List aC}{v:V} (e:H a=some (.dT kvs)) (eb:H b=some (.tup (k.map kV))) (hl:kvs.length < sizeLine) :
  j9 H a (.ref b) v (upd H a (.dT (dC kvs k v))):=.inr ⟨kvs,k,b,e,rfl,eb,hl,rfl⟩
section
variable {X : Cx} {pins : List (Addr × Obj)} {σ : St} {H : Hp} {s : Shared} {a : Addr} {y v : V} {u r : Value} {o : Option V} {A : Around} {E : Value → Shared → Prop}
theorem a7.big (I:a7 X pins σ H s):sysModules < s.heap.objs.size:=by
 have h:mainGlobals < s.heap.objs.size:=(I.mod.glob.keeps I.bk).lt
 exact Nat.lt_trans (by decide) h
theorem ae3 {Q:Value->Shared->Prop} (hu:A.units+1 < cLine) (I:a7 X pins σ H s) (g:dR H a y (some v)) (ry:aT y u) (h:∀ w' s',a7 X pins σ H s'->aT v w'->Q w' s') :
  wpAny (model X.prog X.w) A (getItem (.ref a) u) Q E s:=by
 rcases g with ⟨kvs,k,e,ey,l⟩ | ⟨kvs,k,b,e,ey,eb,l⟩
 ·subst ey
  obtain ⟨z,hd,vs,rel,dd⟩:=j8 I.hok e
  obtain ⟨w',hw,rw'⟩:=fI.some_of (v:=v) (o:=valueAt vs k) (by rw [l]; exact rel.val k)
  exact wpAny_getItem_of (l0 ry) dd.mapOf hw (h w' _ (I.tok _) rw')
 ·subst ey
  cases (show u=Value.ref b from ry)
  obtain ⟨z,hd,xs,rel,dd⟩:=kC I.hok e
  obtain ⟨w',hw,rw'⟩:=fI.some_of (v:=v) (o:=(atKey xs k).map (·.2)) (by rw [l]; exact rel.val k)
  obtain ⟨p,hp,hp2⟩:=Option.map_eq_some_iff.mp hw
  refine wpAny_getItem_heap (tupleKind_room_in1 hu) (l8 I.hok eb) dd hp ?_
  rw [hp2]
  exact h w' _ (I.tok _) rw'
theorem ae4 {Q:Value->Shared->Prop} (hu:A.units+1 < cLine) (I:a7 X pins σ H s) (g:dR H a y o) (ry:aT y u) (h:∀ s',a7 X pins σ H s'->Q (.bool o.isSome) s') :
  wpAny (model X.prog X.w) A (compareOp .In u (.ref a)) Q E s:=by
 rcases g with ⟨kvs,k,e,ey,l⟩ | ⟨kvs,k,b,e,ey,eb,l⟩
 ·subst ey
  obtain ⟨z,hd,vs,rel,dd⟩:=j8 I.hok e
  refine wpAny_in_of (l0 ry) hd dd.mapOf ?_
  rw [<- (rel.val k).isSome_eq,<- l]
  exact h _ (I.tok _)
 ·subst ey
  cases (show u=Value.ref b from ry)
  obtain ⟨z,hd,xs,rel,dd⟩:=kC I.hok e
  refine wpAny_in_heap (tupleKind_room_in1 hu) (l8 I.hok eb) hd dd ?_
  have q:=(rel.val k).isSome_eq
  rw [Option.isSome_map] at q
  rw [<- q,<- l]
  exact h _ (I.tok _)
theorem ae5 {Q:Value->Shared->Prop} (hu:A.units+1 < cLine) (I:a7 X pins σ H s) (g:dR H a y o) (ry:aT y u) (h:∀ s',a7 X pins σ H s'->Q (.bool (!o.isSome)) s') :
  wpAny (model X.prog X.w) A (compareOp .NotIn u (.ref a)) Q E s:=by
 rcases g with ⟨kvs,k,e,ey,l⟩ | ⟨kvs,k,b,e,ey,eb,l⟩
 ·subst ey
  obtain ⟨z,hd,vs,rel,dd⟩:=j8 I.hok e
  refine wpAny_notIn_of (l0 ry) hd dd.mapOf ?_
  rw [<- (rel.val k).isSome_eq,<- l]
  exact h _ (I.tok _)
 ·subst ey
  cases (show u=Value.ref b from ry)
  obtain ⟨z,hd,xs,rel,dd⟩:=kC I.hok e
  refine wpAny_notIn_heap (tupleKind_room_in1 hu) (l8 I.hok eb) hd dd ?_
  have q:=(rel.val k).isSome_eq
  rw [Option.isSome_map] at q
  rw [<- q,<- l]
  exact h _ (I.tok _)
theorem sY {h':Heap}{t':Nat}{ob:HO} (I:a7 X pins σ H s) (mu:m9 (H a)) (hs:Heap.SameBut a s.heap h') (he:∃ q,h'.get? a=some q) (new:bY X.prog X.w (upd H a ob) h' a ob) :
  a7 X pins σ (upd H a ob) { s with heap:=h',toks:=t' }:=
 I.write (x:=a) (e:=a) mu (.inl rfl) (fun b q hb z=>(hs.2 b hb).trans z) he new
theorem xU {P:Program}{w:World}{H':Hp}{h':Heap}{kvs:List (aC × V)}{vs:List (aC × Value)} (z:kvs.length<=sizeLine) (hd:(a == sysModules)=false) (rel:KV kvs vs) (dd:h'.DictOf (dG P w) a vs) :
  bY P w H' h' a (.dK kvs):=⟨z,hd,vs,rel,dd⟩
theorem ae6 {H':Hp}{Q:Unit->Shared->Prop} (hu:A.units+1 < cLine) (I:a7 X pins σ H s) (g:j9 H a y v H') (ry:aT y u) (rv:aT v r) (h:∀ s',a7 X pins σ H' s'->Q () s') :
  wpAny (model X.prog X.w) A (setItem (.ref a) u r) Q E s:=by
 rcases g with ⟨kvs,k,e,ey,l,eH⟩ | ⟨kvs,k,b,e,ey,eb,l,eH⟩
 ·subst ey eH
  obtain ⟨z,hd,vs,rel,dd⟩:=sX I.hok e
  have hz:vs.length<=sizeLine:=by rw [<- rel.length]; exact z
  have hl:(dC kvs k v).length<=sizeLine:=by have:=sW kvs k v; omega
  refine wpAny_setItem_pairs (hsz:=hz) (l0 ry) dd fun h' dd' hs=>h _ ?_
  have he:∃ q,h'.get? a=some q:=let ⟨q,_,_,hq,_⟩:=dd'; ⟨q,hq⟩
  exact sY I (by rw [e]; exact True.intro) hs he (xU hl hd (rel.put k rv) dd')
 ·subst ey eH
  cases (show u=Value.ref b from ry)
  obtain ⟨z,hd,xs,rel,dd⟩:=ae2 I.hok e
  have hz:xs.length<=sizeLine:=by rw [<- Paired.length rel]; exact z
  have hl:(dC kvs k v).length<=sizeLine:=by have:=sW kvs k v; omega
  refine wpAny_setItem_heap (hsz:=hz) (tupleKind_room_in1 hu) (l8 I.hok eb) dd fun h' dd' hs=>h _ ?_
  obtain ⟨q,es,ep,hq,h2,h3,h4,_,h5⟩:=dd'
  refine sY I (by rw [e]; exact True.intro) hs ⟨q,hq⟩ ⟨hl,hd,_,(rel.put k eb rv).keeps fun c ys ec=>?_,q,es,ep,hq,h2,h3,h4,h5⟩
  rw [aJ (V1 ec e (fun z=>nomatch z))]
  exact ec
end
section
variable {X : Cx} {pins : List (Addr × Obj)} {σ : St} {H : Hp} {s : Shared} {a : Addr} {kvs : List (aC × V)} {k : aC} {u : Value} {A : Around} {E : Value → Shared → Prop}
theorem ae7 {Q:Value->Shared->Prop} (I:a7 X pins σ H s) (e:Rd H a (.dK kvs)) (h:∀ t s',a7 X pins σ H s'->Q (.int kvs.length t) s'):wpAny (model X.prog X.w) A (call (.builtin "len") [.ref a]) Q E s:=by
 obtain ⟨z,hd,vs,rel,dd⟩:=j8 I.hok e
 refine call_len_dict hd dd (by rw [<- rel.length]; rw [sizeLine_eq] at z; omega) ?_
 rw [<- rel.length]
 exact h _ _ (I.tok _)
end
def sZ (i:Expr):Prop:=∀ ov iv,subscripted i false ov iv=operate [ov,iv] (getItem ov iv)
theorem ae8 {prog:Program}{w:World}{A:Around}{E:Value->Shared->Prop}{s:Shared}{env:Env}{value slice:Expr}{pos:Pos}{T id:String}{Q:Value->Shared->Prop}
  (hl:typeLookup (.type T) "__getitem__" = pure (some (.builtin id))) (hs:sZ slice)
  (h:wpAny (model prog w) A (eval value env) (fun o s₁=>wpAny (model prog w) A (eval slice env) (fun i s₂=>s₂.TypeIs o T/\wpAny (model prog w) A (getItem o i) Q E s₂) E s₁) E s) :
  wpAny (model prog w) A (eval (.Subscript value slice pos) env) Q E s:=by
 refine Subscript_ (aW0 h (fun o s₁ h₁=>aW0 h₁ (fun i s₂ h₂=>?_) fun _ _ x=>x) fun _ _ x=>x)
 obtain ⟨hT,h₂⟩:=h₂
 unfold subscriptTail
 refine aQ0 ?_
 rw [getitemInPython_of_ne hT.not_modules]
 refine aQ0 (wpAny_specialOf hT hl ?_)
 have fin:wpAny (model prog w) A (subscripted slice false o i) (fun r s₃=>wpAny (model prog w) A (letTemporaryGo value o r >>= fun _=>pure r) Q E s₃) E s₂:=by
  rw [hs o i]
  exact wpAny_operating (aW0 h₂ (fun r s₃ h₃=>aQ0 (wpAny_letTemporaryGo (aQ5 h₃))) fun _ _ x=>x)
 first
  | exact aQ5 (aQ0 fin)
  | exact aQ0 (aQ5 (aQ0 fin))
  | exact aQ0 fin
theorem ae9 {X:Cx}{pins:List (Addr × Obj)}{σ:St}{H:Hp}{s:Shared}{a:Addr}{y:V}{o:Option V} (I:a7 X pins σ H s) (g:dR H a y o):s.TypeIs (.ref a) "dict":=by
 rcases g with ⟨kvs,k,e,_,_⟩ | ⟨kvs,k,b,e,_,_,_⟩
 ·obtain ⟨_,_,vs,_,dd⟩:=j8 I.hok e
  exact dd.typeIs
 ·obtain ⟨_,_,xs,_,dd⟩:=kC I.hok e
  exact dd.typeIs
def xV (td ty:TE):TE:=fun σ H Q=>td σ H fun x H1=>ty σ H1 fun y H2=>∃ a v,x = .ref a/\dR H2 a y (some v)/\Q v H2
def xW (ty td:TE):TE:=fun σ H Q=>ty σ H fun y H1=>td σ H1 fun x H2=>∃ a o,x = .ref a/\dR H2 a y o/\Q (.bl o.isSome) H2
def xX (ty td:TE):TE:=fun σ H Q=>ty σ H fun y H1=>td σ H1 fun x H2=>∃ a o,x = .ref a/\dR H2 a y o/\Q (.bl (!o.isSome)) H2
def t0 (td ty tv:TE):TS:=fun D σ H=>tv σ H fun v H1=>td σ H1 fun x H2=>ty σ H2 fun y H3=>∃ a H4,x = .ref a/\j9 H3 a y v H4/\D.nx σ H4
section
variable {X : Cx} {o i e value : Expr} {pos pos' tpos : Pos} {td ty tv : TE}
theorem af0 (hu:X.A.units+1 < cLine) (ho:PE X o td) (hi:PE X i ty) (hs:sZ i):PE X (.Subscript o i pos) (xV td ty):=by
 intro pins s σ H Q I h
 refine ae8 PySem.F.slot_dict_getitem.lookup hs (aK (ho pins s σ H _ I h) fun u s1 ⟨x,H1,I1,rx,q1⟩=>aK (hi pins s1 σ H1 _ I1 q1) fun iv s2 ⟨y,H2,I2,ry,a,v,ex,g,q2⟩=>?_)
 subst ex
 obtain rfl:u=Value.ref a:=rx
 exact⟨ae9 I2 g,ae3 hu I2 g ry fun w' s3 I3 rw'=>⟨v,H2,I3,rw',q2⟩⟩
theorem af1 (hu:X.A.units+1 < cLine) (hi:PE X i ty) (ho:PE X o td):PC X .In i o (xW ty td):=by
 intro pins s σ H Q I h
 refine aK (hi pins s σ H _ I h) fun iv s1 ⟨y,H1,I1,ry,q1⟩=>aK (ho pins s1 σ H1 _ I1 q1) fun u s2 ⟨x,H2,I2,rx,a,ov,ex,g,q2⟩=>?_
 subst ex
 obtain rfl:u=Value.ref a:=rx
 exact ae4 hu I2 g ry fun s3 I3=>⟨.bl ov.isSome,H2,I3,rfl,q2⟩
theorem xY (hu:X.A.units+1 < cLine) (hi:PE X i ty) (ho:PE X o td):PC X .NotIn i o (xX ty td):=by
 intro pins s σ H Q I h
 refine aK (hi pins s σ H _ I h) fun iv s1 ⟨y,H1,I1,ry,q1⟩=>aK (ho pins s1 σ H1 _ I1 q1) fun u s2 ⟨x,H2,I2,rx,a,ov,ex,g,q2⟩=>?_
 subst ex
 obtain rfl:u=Value.ref a:=rx
 exact ae5 hu I2 g ry fun s3 I3=>⟨.bl (!ov.isSome),H2,I3,rfl,q2⟩
theorem xZ (hu:X.A.units+1 < cLine) (ho:PE X o td) (hi:PE X i ty) (hv:PE X value tv) (hs:swapsWith value (some (.Subscript o i pos')) pos.line X.env=pure false) :
  PS X (.Assign [.Subscript o i pos'] value pos) (t0 td ty tv):=by
 intro pins s σ H D I h
 refine wpAny_Assign_Subscript (aK (hv pins s σ H _ I h) fun r s1 ⟨v,H1,I1,rv,q1⟩=>aK (ho pins s1 σ H1 _ I1 q1) fun u s2 ⟨x,H2,I2,rx,q2⟩=>aK (hi pins s2 σ H2 _ I2 q2) fun iv s3 ⟨y,H3,I3,ry,a,H4,ex,g,q3⟩=>?_) hs
 subst ex
 obtain rfl:u=Value.ref a:=rx
 exact ae6 hu I3 g ry rv fun s4 I4=>⟨σ,H4,I4,q3⟩
end
theorem af2 {P:Program}{w:World}{H:Hp} (h:Heap) (hb:sysModules < h.objs.size):bY P w H (h.push { cls:=.type "dict",data:=.dict #[] }) h.objs.size (.dK []):=
 ⟨aT7 _,beq_eq_false_iff_ne.mpr (Ne.symm (aS8 hb)),[],.nil,Heap.DictOf.new h⟩
theorem af3 {P:Program}{w:World}{H:Hp} (h:Heap) (hb:sysModules < h.objs.size):bY P w H (h.push { cls:=.type "dict",data:=.dict #[] }) h.objs.size (.dT []):=
 ⟨aT7 _,beq_eq_false_iff_ne.mpr (Ne.symm (aS8 hb)),[],.nil,_,#[],0,aR5 _ rfl,⟨rfl,rfl,rfl⟩,rfl,rfl,List.nodup_nil⟩
def y7:TE:=fun _ H Q=>∀ p,H p=none->Q (.ref p) (upd H p (.dK []))
def yA:TE:=fun _ H Q=>∀ p,H p=none->Q (.ref p) (upd H p (.dT []))
section
variable {X : Cx} {pos : Pos}
theorem af4:PE X (.Dict [] [] pos) y7:=fun pins s σ H Q I h=>
 wpAny_Dict_empty ⟨.ref s.heap.objs.size,_,I.laid (a:=s.heap.objs.size) (o:=.dK []) (t':=s.toks) (fun _ _ q=>aQ1 _ q) (aQ6 _) (af2 s.heap I.big),rfl,h _ (I.hok.fresh (aQ6 _))⟩
theorem af5:PE X (.Dict [] [] pos) yA:=fun pins s σ H Q I h=>
 wpAny_Dict_empty ⟨.ref s.heap.objs.size,_,I.laid (a:=s.heap.objs.size) (o:=.dT []) (t':=s.toks) (fun _ _ q=>aQ1 _ q) (aQ6 _) (af3 s.heap I.big),rfl,h _ (I.hok.fresh (aQ6 _))⟩
end
def kD (kvs more:List (aC × V)):List (aC × V):=more.foldl (fun acc kv=>dC acc kv.1 kv.2) kvs
theorem KV.merge:∀ {more:List (aC × V)}{rs:List (aC × Value)}{kvs:List (aC × V)}{vs:List (aC × Value)},KV more rs->KV kvs vs->KV (kD kvs more) (merged vs rs):=by
 intro more rs kvs vs r
 unfold KV at r
 induction r generalizing kvs vs with
 | nil=>intro q; exact q
 | @cons p q ps qs h t ih=>
  intro r0
  have e:KV (dC kvs p.1 p.2) (stored vs q.1 q.2):=by
   have:=r0.put p.1 h.2
   rw [<- h.1]; exact this
  exact ih e
theorem yB:∀ (more kvs:List (aC × V)),(kD kvs more).length<=kvs.length+more.length
 | [],kvs=>by show kvs.length<=kvs.length+0; omega
 | p :: r,kvs=>by
  have h1:=yB r (dC kvs p.1 p.2)
  have h2:=sW kvs p.1 p.2
  show (kD (dC kvs p.1 p.2) r).length<=_
  rw [aU1]; omega
structure M1 (X:Cx) (o:Expr) (m:Str) (apos:Pos) (e:Expr) (cpos:Pos):Prop where
 base:attributeBase o m X.env (eval o X.env)=eval o X.env
 few:((backTo cpos (starEach [e] X.env)).all (fun x=>!x.1) && (backToKw cpos (keywordEach [] X.env)).all (fun x=>x.1.isSome)
  && decide (([e]:List Expr).length+([]:List Keyword).length+(if ([]:List Keyword).isEmpty then 0 else 1) < 30))=true
 line:(apos.endLine == cpos.line)=true
 trees:backTo cpos (starEach [e] X.env) = [(false,eval e X.env)]
structure M2 (X:Cx) (o:Expr) (m:Str) (apos:Pos) (e f:Expr) (cpos:Pos):Prop where
 base:attributeBase o m X.env (eval o X.env)=eval o X.env
 few:((backTo cpos (starEach [e,f] X.env)).all (fun x=>!x.1) && (backToKw cpos (keywordEach [] X.env)).all (fun x=>x.1.isSome)
  && decide (([e,f]:List Expr).length+([]:List Keyword).length+(if ([]:List Keyword).isEmpty then 0 else 1) < 30))=true
 line:(apos.endLine == cpos.line)=true
 trees:backTo cpos (starEach [e,f] X.env) = [(false,eval e X.env),(false,eval f X.env)]
def t4 (H:Hp) (a:Addr):Prop:=(∃ kvs,Rd H a (.dK kvs)) ∨ ∃ kvs,Rd H a (.dT kvs)
theorem yC {X:Cx}{pins:List (Addr × Obj)}{σ:St}{H:Hp}{s:Shared}{a:Addr} (I:a7 X pins σ H s) (d:t4 H a) :
  s.TypeIs (.ref a) "dict"/\(∀ b,Value.ref a = .ref b->∃ ob,s.heap.get? b=some ob/\ob.dict=none)/\(a == sysModules)=false:=by
 rcases d with ⟨kvs,e⟩ | ⟨kvs,e⟩
 ·obtain ⟨_,hd,vs,_,dd⟩:=j8 I.hok e
  refine⟨dd.typeIs,fun b q=>?_,hd⟩
  cases q
  obtain ⟨ob,_,_,h1,h2,_⟩:=dd
  exact⟨ob,h1,h2.2.1⟩
 ·obtain ⟨_,hd,xs,_,dd⟩:=kC I.hok e
  refine⟨dd.typeIs,fun b q=>?_,hd⟩
  cases q
  obtain ⟨ob,_,_,h1,h2,_⟩:=dd
  exact⟨ob,h1,h2.2.1⟩
section
variable {X : Cx} {pins : List (Addr × Obj)} {σ : St} {H : Hp} {s : Shared} {a : Addr} {y d : V} {u r : Value} {o : Option V} {A : Around} {E : Value → Shared → Prop}
theorem af6 {Q:Value->Shared->Prop} (hu:A.units+1 < cLine) (I:a7 X pins σ H s) (g:dR H a y o) (ry:aT y u) (rd:aT d r) (h:∀ w' s',a7 X pins σ H s'->aT (o.getD d) w'->Q w' s') :
  wpAny (model X.prog X.w) A (call (.builtin "dict.get") [.ref a,u,r]) Q E s:=by
 rcases g with ⟨kvs,k,e,ey,l⟩ | ⟨kvs,k,b,e,ey,eb,l⟩
 ·subst ey
  obtain ⟨z,hd,vs,rel,dd⟩:=j8 I.hok e
  refine call_meetsIn PySem.F.slot_dict_get dd.typeIs PySem.F.entry_dict_get (PySem.F.args_dict_get_3 _ _ _) (meets_dict_get_default (dG X.prog X.w) a (l0 ry) hd r) ⟨_,dd.mapOf,h _ _ (I.tok _) ?_⟩
  rw [l]
  exact (rel.val k).getD rd
 ·subst ey
  cases (show u=Value.ref b from ry)
  obtain ⟨z,hd,xs,rel,dd⟩:=kC I.hok e
  refine call_meetsIn PySem.F.slot_dict_get dd.typeIs PySem.F.entry_dict_get (PySem.F.args_dict_get_3 _ _ _) (meetsH_dict_get_default (tupleKind (dG X.prog X.w)) a b hd r) ⟨tupleKind_room_in1 hu,k,xs,l8 I.hok eb,dd,h _ _ (I.tok _) ?_⟩
  rw [l]
  exact (rel.val k).getD rd
end
def yD (td ty tx:TE):TE:=fun σ H Q=>td σ H fun x H1=>∃ a,x = .ref a/\t4 H1 a/\ty σ H1 fun y H2=>tx σ H2 fun z H3=>∃ o,dR H3 a y o/\Q (o.getD z) H3
section
variable {X : Cx} {o e f : Expr} {apos cpos : Pos} {td ty tx : TE}
theorem af7 (hu:X.A.units+1 < cLine) (ho:PE X o td) (he:PE X e ty) (hf:PE X f tx) (m:M2 X o "get" apos e f cpos):PE X (.Call (.Attribute o "get" apos) [e,f] [] cpos) (yD td ty tx):=by
 intro pins s σ H Q I h
 refine wpAny_Call_method m.base m.few m.line PySem.F.plainAttrs_dict PySem.F.slot_dict_get PySem.F.type_dict_get (aK (ho pins s σ H _ I h) fun u s1 ⟨x,H1,I1,rx,a,ex,d,q1⟩=>?_)
 subst ex
 obtain rfl:u=Value.ref a:=rx
 obtain ⟨t1,t2,_⟩:=yC I1 d
 refine⟨t1,t2,?_⟩
 rw [m.trees]
 refine Calls.callWith_builtin rfl (Calls.evalArgs_plain (Calls.spliced_cons (aK (he pins s1 σ H1 _ I1 q1) fun iv s2 ⟨y,H2,I2,ry,q2⟩=>
  Calls.spliced_cons (aK (hf pins s2 σ H2 _ I2 q2) fun fv s3 ⟨z,H3,I3,rz,ov,g,q3⟩=>Calls.spliced_nil ?_))))
 exact af6 hu I3 g ry rz fun w' s4 I4 rw'=>⟨_,H3,I4,rw',q3⟩
end
end L2
namespace Att
open PySem PySem.W PySem.Calls PyProof.Rows
theorem af8 {P:Params}{h:Heap}:∀ (ns:List Int) (vs:List Value),WellAll P h vs (ns.map WData.int)->IntsAre vs ns:=by
 intro ns
 induction ns with
 | nil=>
  intro vs w
  rw [List.map_nil] at w
  cases w
  exact .nil
 | cons n ns ih=>
  intro vs w
  rw [aU8] at w
  cases w with
  | cons a b=>
   cases a
   exact .cons _ _ (ih _ b)
theorem yE {l:OpenLaw}{n:Nat} (hn:l.most=some n) {P:Params}{h:Heap}{args:List WData}{vals:List Value}
  (hpre:l.row.toRowW.claim.pre args=true) (hwl:WellAll P h vals args) :
  ∃ a vs ns,vals = [Value.ref a]/\args = [WData.list (ns.map WData.int)]/\h.get? a=some { cls:=.type "list",data:=.seq vs.toArray }/\IntsAre vs ns/\ns.length<=n:=by
 have hsh:WShape.hasAll [] args [.list .int]=true:=(pre_splitW hpre).1
 have hc:l.pre.holds [] { args:=args }=true:=(pre_splitW hpre).2
 obtain ⟨d,r,rfl,h1,h2⟩:=hasAllW_cons hsh
 obtain rfl:=hasAllW_nil h2
 obtain ⟨xs,rfl,h3⟩:=hasW_list h1
 obtain ⟨ns,rfl⟩:=items_int h3
 have hlen:ns.length<=n:=by
  unfold OpenLaw.pre at hc
  have h4:(WTm.not (.lt (.lit (.int (n:Int))) (.len (.arg 0)))).holds [] { args:=[.list (ns.map .int)] }=true:=by
   have h4:=(holds_andW hc).1
   rw [hn] at h4
   exact h4
  have h5:=condW_of h4 (w_not (w_lt w_lit (w_len_list (w_arg rfl))))
  rw [aQ3] at h5
  refine aZ1 fun q=>?_
  have q':(n:Int) < ((ns.length:Nat):Int):=by omega
  first
   | (rw [aR9 q'] at h5; exact absurd h5 (by decide))
   | (simp at h5; omega)
 cases hwl with
 | cons w1 w2=>
  cases w2
  cases w1 with
  | list ho hall=>exact⟨_,_,ns,rfl,rfl,ho,af8 ns _ hall,hlen⟩
theorem yF (l:OpenLaw) (args:List WData):l.row.toRowW.claim.post args (.bool true) args=true:=
 postW_of (r:=l.row.toRowW) (X:=(true == true))
  (show WShape.has [] (.bool true) .bool=true by first | rfl | decide | simp [WShape.has,WShape.arms,WShape.armsAll])
  (show (WTm.eq .res (.lit (.bool true))).value [] { args:=args,res:=some (.bool true),after:=args }=some (.bool (true == true)) from w_eq_bool (w_res rfl) w_lit) rfl
theorem aP6 {l:OpenLaw}{n:Nat}{q:Program}{loose:List Str}{XP:(Str->Option Value)->Heap->Prop}{YP:World->Heap->Prop}{d:DefRec}{x:Str}
  (hn:l.most=some n) (hdf:d.params.defaults = [])
  (hbind:∀ pm cd doc v:Value,bindArgs (docDef d.name d.params d.body d.scope pm cd doc) ⟨[v],[]⟩=pure [(x,v)])
  (hx:d.scope.names.lookup x=some .local ∨ d.scope.names.lookup x=some .cell)
  (hk:d.scope.kind = .function) (hco:d.scope.isCoroutine=false) (hgen:d.scope.isGenerator=false)
  (body:∀ (w:World) (s₀ s₁ s:Shared) (mg mb:Str->Option Value) (fa:Addr) (o:Obj) (pm cd doc:Value) (a:Addr) (vs:List Value) (ns:List Int),
   Ground q loose [] XP w s₀ mg mb s₁.heap->YP w s₁.heap->
   s₁.heap.get? fa=some o->o.data = .func (docDef d.name d.params d.body d.scope pm cd doc)->s₁.heap.CodeRec cd d.name->mg d.name=some (.ref fa)->
   s₁.heap.get? a=some { cls:=.type "list",data:=.seq vs.toArray }->IntsAre vs ns->ns.length<=n->
   s.gens = #[]->s.os=s₁.os->
   Fr s₁.heap s₁.heap.objs.size s.heap (bindL (envOfC d.name d.scope s₁.heap.objs.size fa cd).kindOf [(x,.ref a)] fun _=>none)->
   Cl s₁.heap.objs.size (cellsFrom (s₁.heap.objs.size+1) d.scope.names []) s.heap (bindC (envOfC d.name d.scope s₁.heap.objs.size fa cd).kindOf [(x,.ref a)] fun _=>none)->
   wpAny (model l.prog w) (callerA.deeper (envOfC d.name d.scope s₁.heap.objs.size fa cd)) (execs d.body (envOfC d.name d.scope s₁.heap.objs.size fa cd))
    (fun f s'=>f = .ret (.bool true)/\OldK s₁.heap s'.heap/\s'.os=s₁.os/\AllBare s'.gens) (fun _ _=>False) s) :
  WalkO q loose XP YP l.row.toRowW d [] (fun f vs=>PySem.call f vs):=by
 intro w s₀ s₁ mg mb G Y fa o pm cd doc dV kV ho hd hcd hD hmg hg args vals as hpre hlay hrd hwl hlo
 obtain rfl:dV = .none:=Dflts.none hD hdf
 obtain rfl:kV = .none:=Dflts.noKw hD
 obtain ⟨a,vs,ns,rfl,rfl,hobj,hints,hlen⟩:=yE hn hpre hwl
 refine enter_call ?_
 refine call_cells_ret (o:=o) (by rw [depth_caller]; decide) ho (fd_plain hd) G.T.nolimit hcd (hbind pm cd doc (.ref a)) (fun y hy=>?_) (fun h₁ tk F X=>?_) hco hgen hk
 ·obtain rfl:y=(x,Value.ref a):=aR8.mp hy
  rcases hx with e | e
  ·exact .inl e
  ·exact .inr ⟨e,cellsFrom_some _ _ _ (.inl e)⟩
 ·refine aW0 (body w s₀ s₁ { s₁ with heap:=h₁,toks:=tk } mg mb fa o pm cd doc a vs ns G Y ho (fd_plain hd) hcd hmg hobj hints hlen hg rfl F X) (fun f s' hq=>?_) (fun _ _ hq=>hq)
  obtain ⟨rfl,h2,h3,h4⟩:=hq
  exact⟨.inl ⟨.bool true,.bool true,[],rfl,fun _=>rfl,.bool true,yF l _,fun _=>⟨List.Pairwise.nil,fun _ hm=>(nomatch hm)⟩⟩,h2,h3,h4⟩
theorem af9 {l:OpenLaw}{n:Nat}{q:Program}{loose:List Str}{XP:(Str->Option Value)->Heap->Prop}{YP:World->Heap->Prop}{d:DefRec}
  (hn:l.most=some n) (hdf:d.params.defaults = [])
  (call:∀ (w:World) (s₀ s₁:Shared) (mg mb:Str->Option Value) (fa:Addr) (o:Obj) (pm cd doc:Value) (a:Addr) (vs:List Value) (ns:List Int),
   Ground q loose [] XP w s₀ mg mb s₁.heap->YP w s₁.heap->
   s₁.heap.get? fa=some o->o.data = .func (docDef d.name d.params d.body d.scope pm cd doc)->s₁.heap.CodeRec cd d.name->mg d.name=some (.ref fa)->
   s₁.heap.get? a=some { cls:=.type "list",data:=.seq vs.toArray }->IntsAre vs ns->ns.length<=n->s₁.gens = #[]->
   codeAny (model l.prog w) callerA (.call (.ref fa) ⟨[.ref a],[]⟩) (fun r s'=>r = .ok (.ret (.bool true))/\OldK s₁.heap s'.heap/\s'.os=s₁.os/\AllBare s'.gens) s₁) :
  WalkO q loose XP YP l.row.toRowW d [] (fun f vs=>PySem.call f vs):=by
 intro w s₀ s₁ mg mb G Y fa o pm cd doc dV kV ho hd hcd hD hmg hg args vals as hpre hlay hrd hwl hlo
 obtain rfl:dV = .none:=Dflts.none hD hdf
 obtain rfl:kV = .none:=Dflts.noKw hD
 obtain ⟨a,vs,ns,rfl,rfl,hobj,hints,hlen⟩:=yE hn hpre hwl
 refine enter_call (codeAny_mono (call w s₀ s₁ mg mb fa o pm cd doc a vs ns G Y ho (fd_plain hd) hcd hmg hobj hints hlen hg) fun r s' hq=>?_)
 obtain ⟨rfl,h2,h3,h4⟩:=hq
 exact⟨.inl ⟨.bool true,.bool true,[],rfl,fun _=>rfl,.bool true,yF l _,fun _=>⟨List.Pairwise.nil,fun _ hm=>(nomatch hm)⟩⟩,h2,h3,h4⟩
end Att
namespace L2
open PySem PySem.Spec PyProof.Rows
theorem t5:∀ {vs:List Value}{ns:List Int},IntsAre vs ns->aR (ns.map V.int) vs
 | _,_,.nil=>.nil
 | _,_,.cons n t h=>.cons ⟨t,rfl⟩ (t5 h)
def oO (H:Hp):Prop:=∀ b,H b=none ∨ ∃ o xs,H b=some (.frz o (.lst xs))
theorem ag0 {P:Program}{w:World}{K:PySem.W.Frag}{mg mb:Str->Option Value}{CX:fO}{k:Nat}{fa a:Addr}{fd:FuncData}{x:Str}{sp:Sp}{s₁:Shared}{vs:List Value}{ns:List Int}
  (KX:K.In s₁.heap) (hns:s₁.heap.Ns mainGlobals mg) (hb:s₁.heap.Ns builtinsNs mb) (hbb:∀ x:Str,x ≠ "__name__"->mb x=bootBuiltins x) (hlim:s₁.heap.NoLimit) (hg:s₁.gens = #[])
  (ha:s₁.heap.get? a=some { cls:=.type "list",data:=.seq vs.toArray }) (hi:IntsAre vs ns) (hl:ns.length<=sizeLine) (hr:bT k callerA)
  (F:∀ base:Heap,K.In base->base.Ns mainGlobals mg->bJ P w K mg base CX k fa fd [x] sp) (hbind:∀ (s:Shared) (u:Value),BindsTo s fd ⟨[u],[]⟩ [(x,u)])
  (hsp:∀ H:Hp,oO H->aH K H a (ns.map V.int)->sp [.ref a] H (fun v _=>v = .bl true) fun _ _ _=>False)
  (hCX:∀ H e s',CX [] H s₁ (fun _ _ _=>False) e s'->False) :
  codeAny (model P w) callerA (.call (.ref fa) ⟨[.ref a],[]⟩) (fun r s'=>r = .ok (.ret (.bool true))/\OldK s₁.heap s'.heap/\s'.os=s₁.os/\AllBare s'.gens) s₁:=by
 have rv:=t5 hi
 have lenV:=hi.length
 have core:∀ H:Hp,oO H->aH K H a (ns.map V.int)->bM P w H s₁.heap->(∀ b,H b ≠ none->b=a)->(H a ≠ none->K.lookup a=none)->
   codeAny (model P w) callerA (.call (.ref fa) ⟨[.ref a],[]⟩) (fun r s'=>r = .ok (.ret (.bool true))/\OldK s₁.heap s'.heap/\s'.os=s₁.os/\AllBare s'.gens) s₁:=by
  intro H hO hS hok hA hK
  have base_of:∀ {b:Addr}{o:Obj},s₁.heap.get? b=some o->H b=none->(i4 s₁.heap H).get? b=some o:=fun e n=>V3 e n
  have noA:∀ {b:Addr}{o:Obj}{es:Array DictEntry}{ep:Nat},s₁.heap.get? b=some o->o.data = .dict es ep->H b=none:=fun {b o es ep} e d=>by
   cases q:H b with
   | none=>rfl
   | some u=>
    have e':b=a:=hA b (by rw [q]; simp)
    subst e'
    rw [ha] at e; cases e
    have d':Data.seq vs.toArray _=Data.dict es ep:=d
    cases d'
  have nsK:∀ {b:Addr}{m:Str->Option Value},s₁.heap.Ns b m->(i4 s₁.heap H).Ns b m:=fun {b m} ⟨o,es,ep,e,d,r⟩=>⟨o,es,ep,base_of e (noA e d),d,r⟩
  have hKb:K.In (i4 s₁.heap H):=fun b o e=>base_of (KX b o e) (by
   cases q:H b with
   | none=>rfl
   | some u=>
    have e':b=a:=hA b (by rw [q]; simp)
    subst e'
    rw [hK (by rw [q]; simp)] at e; cases e)
  have hM:Mod K mg (i4 s₁.heap H):=⟨hKb,nsK hns,⟨mb,nsK hb,hbb⟩,let ⟨mc,h1,h2⟩:=hlim; ⟨mc,nsK h1,h2⟩⟩
  have e0:oK P w K mg (i4 s₁.heap H) callerA [] s₁ H:=⟨rfl,hM,fun b o e=>V4 e,Nat.le_of_eq (V2 _ _),trivial,fun b hb=>absurd (show b ∈ ([]:List Addr) from hb) (by simp),hok,.of_eq hg⟩
  refine codeAny_mono ((F _ hKb (nsK hns)).run callerA [] s₁ H ⟨[.ref a],[]⟩ [.ref a] [.ref a] _ _ hr e0 (hbind s₁ (.ref a)) (.cons rfl .nil) (hsp H hO hS)) fun r s' h=>?_
  cases r with
  | error e=>exact (hCX H e s' h).elim
  | ok fl=>
   cases fl with
   | next=>exact False.elim h
   | brk=>exact False.elim h
   | cont=>exact False.elim h
   | ret u=>
    obtain ⟨v,H',os,bare,un,hok',r',q⟩:=h
    have q':v = .bl true:=q
    subst q'
    obtain rfl:u=Value.bool true:=r'
    refine⟨rfl,OldK.of_keep fun b o e=>?_,os,bare⟩
    cases q:H b with
    | none=>exact un.keep b o e q (by intro z; exact absurd (show b ∈ ([]:List Addr) from z) (by simp)) (by simp)
    | some u=>
     rcases hO b with z | ⟨ob,xs,z⟩
     ·rw [q] at z; cases z
     ·have z2:=un.frzs b ob _ z
      obtain ⟨e1,_⟩:=hok b _ z
      obtain ⟨e2,_⟩:=hok' b _ z2
      rw [e] at e1; cases e1
      exact e2
 cases hk:K.lookup a with
 | some o=>
  have e:=KX a o hk
  rw [ha] at e
  cases e
  refine core (fun _=>none) (fun _=>.inl rfl) (.inr ⟨_,vs.toArray,_,hk,rfl,rfl,rfl,by rw [aR3,lenV]; exact hl,by simpa using rv⟩) (fun b u z=>by have z':(none:Option HO)=some u:=z; cases z') (fun b z=>absurd rfl z) fun z=>absurd rfl z
 | none=>
  refine core (fun b=>if b=a then some (.frz { cls:=.type "list",data:=.seq vs.toArray } (.lst (ns.map V.int))) else none) (fun b=>?_) (.inl (.inr ⟨{ cls:=.type "list",data:=.seq vs.toArray },if_pos rfl⟩)) (fun b u z=>?_) (fun b z=>?_) fun _=>hk
  ·by_cases hb:b=a
   ·exact .inr ⟨_,_,if_pos hb⟩
   ·exact .inl (if_neg hb)
  ·by_cases hb:b=a
   ·have z':=(if_pos hb).symm.trans z
    cases z'
    subst hb
    exact⟨ha,by rw [aQ3]; exact hl,vs,_,rv,ha⟩
   ·have z':=(if_neg hb).symm.trans z
    cases z'
  ·by_cases hb:b=a
   ·exact hb
   ·exact absurd (if_neg hb) z
theorem ag1 {l:PySem.W.OpenLaw}{n k:Nat}{q:Program}{loose:List Str}{XP:(Str->Option Value)->Heap->Prop}{YP:World->Heap->Prop}{d:DefRec}{K:Params->PySem.W.Frag}{CX:World->fO}{sp:World->Sp}{x:Str}
  (hn:l.most=some n) (hn2:n<=sizeLine) (hdf:d.params.defaults = []) (hr:bT k callerA)
  (hY:∀ (w:World) (h:Heap),YP w h->(K w.params).In h)
  (F:∀ (w:World) (mg:Str->Option Value) (fa:Addr) (h:Heap),(K w.params).In h->h.Ns mainGlobals mg->mg d.name=some (.ref fa)->
   ∃ fd:FuncData,(∀ (s:Shared) (u:Value),BindsTo s fd ⟨[u],[]⟩ [(x,u)])/\
    ∀ base:Heap,(K w.params).In base->base.Ns mainGlobals mg->bJ l.prog w (K w.params) mg base (CX w) k fa fd [x] (sp w))
  (hsp:∀ (w:World) (H:Hp) (a:Addr) (ns:List Int),ns.length<=n->oO H->aH (K w.params) H a (ns.map V.int)->sp w [.ref a] H (fun v _=>v = .bl true) fun _ _ _=>False)
  (hCX:∀ (w:World) (H:Hp) (s:Shared) (e:Value) (s':Shared),CX w [] H s (fun _ _ _=>False) e s'->False) :
  PySem.W.WalkO q loose XP YP l.row.toRowW d [] (fun f vs=>PySem.call f vs):=by
 refine Att.af9 hn hdf fun w s₀ s₁ mg mb fa o pm cd doc a vs ns G Y ho hd hcd hmg hobj hints hlen hg=>?_
 have KX:=hY w _ Y
 obtain ⟨fd,hb,hF⟩:=F w mg fa _ KX G.T.g hmg
 exact ag0 KX G.T.g G.T.b G.T.builtins G.T.nolimit hg hobj hints (aU0 hlen hn2) hr hF hb (fun H hO hS=>hsp w H a ns hlen hO hS) fun H e s'=>hCX w H s₁ e s'
def i9 (s:Stmt):Arguments:=match s with
 | .FunctionDef _ a _ _ _ _ _ _ _ _=>a
 | _=>{ posonlyargs:=[],args:=[],vararg:=none,kwonlyargs:=[],kw_defaults:=[],kwarg:=none,defaults:=[] }
def dI (s:Stmt):List Stmt:=match s with
 | .FunctionDef _ _ b _ _ _ _ _ _ _=>b
 | _=>[]
def aQ (s:Stmt):Scope:=match s with
 | .FunctionDef _ _ _ _ _ _ sc _ _ _=>sc
 | _=>{ kind:=.function,names:=[],isGenerator:=false,isCoroutine:=false }
abbrev cU:fO:=fun _ _ _ _ _ _=>False
abbrev E0:XK:=fun _ _ _=>False
theorem yG {X:Cx}:mJ cU X E0:=fun _ _ _ _ _ _ _ h=>h.elim
structure dF (K:PySem.W.Frag) (x qual:Str) (st:Stmt) (f:Addr) (fd:FuncData):Prop where
 ex:∃ (oc:Value) (od:Option Addr) (kV doc pm:Value) (an:Option Addr) (cdv ct:Value) (osl:Array (Option Value)),
  fd=PySem.W.fnOf x qual (i9 st) (dI st) (aQ st) .none kV doc pm an cdv ct/\K.lookup f=some ⟨oc,od,.func fd,osl⟩/\PySem.W.codeIn K cdv qual=true
 kp:PySem.W.keepIn K (.ref f)=true
section
variable {P : Program} {w : World} {K : PySem.W.Frag} {mg : Str → Option Value} {base : Heap}
theorem dF.ok {x qual:Str}{st:Stmt}{f:Addr}{fd:FuncData}{N ps:List Str}{k:Nat}{sp:Sp} (F:dF K x qual st f fd) (S:FnScope N ps (aQ st)) (len:∀ vs H Q E,sp vs H Q E->vs.length=ps.length)
  (hbody:∀ (cdv:Value) (A:Around) (outer:List Env) (s:Shared) (H:Hp) (vs:List V) (Q:VK) (E:XK),bT k (A.deeper (envOfC qual (aQ st) s.heap.objs.size f cdv))->sp vs H Q E->
   ∃ t,dB (cT cU P w K mg base N qual (aQ st) f cdv A outer s H E).nox (dI st) t/\t { nx:=fun _ H'=>Q .non H',rt:=Q } (fQ N vs) H):bJ P w K mg base cU (k+1) f fd ps sp:=by
 obtain ⟨oc,od,kV,doc,pm,an,cdv,ct,osl,rfl,lk,hcd⟩:=F.ex
 refine xB lk hcd S len fun A outer s H vs Q E hr hsp=>?_
 obtain ⟨t,h,q⟩:=hbody cdv A outer s H vs Q E hr hsp
 exact⟨t,h.nox,q⟩
theorem dF.binds {x qual:Str}{st:Stmt}{f:Addr}{fd:FuncData}{ps:List Str} (F:dF K x qual st f fd)
  (h:∀ (kV doc pm:Value) (an:Option Addr) (cdv ct:Value) (us:List Value),us.length=ps.length->bindArgs (PySem.W.fnOf x qual (i9 st) (dI st) (aQ st) .none kV doc pm an cdv ct) ⟨us,[]⟩=pure (ps.zip us)):gB K fd ps []:=by
 obtain ⟨oc,od,kV,doc,pm,an,cdv,ct,osl,rfl,lk,hcd⟩:=F.ex
 exact .all (h kV doc pm an cdv ct)
theorem ag2 {x qual:Str}{st:Stmt}{f:Addr}{oc:Value}{od an:Option Addr}{osl:Array (Option Value)}{kV doc pm cdv ct:Value} (l:K.lookup f=some ⟨oc,od,.func (PySem.W.fnOf x qual (i9 st) (dI st) (aQ st) .none kV doc pm an cdv ct),osl⟩)
  (c:PySem.W.codeIn K cdv qual=true) (k:PySem.W.keepIn K (.ref f)=true):dF K x qual st f (PySem.W.fnOf x qual (i9 st) (dI st) (aQ st) .none kV doc pm an cdv ct):=⟨⟨oc,od,kV,doc,pm,an,cdv,ct,osl,rfl,l,c⟩,k⟩
end
theorem jA {A:Around}{k:Nat} (hr:bT k A):A.units+1 < cLine:=Nat.lt_of_le_of_lt (Nat.add_le_add_left (by decide:1<=64) _) hr.units
theorem oP {n:Nat} (h:n<=1000):n < sizeLine:=Nat.lt_of_le_of_lt h (by decide)
section
variable {X : Cx}
theorem pv (i:Nat) {x:Str}{pos:Pos} (hN:X.N[i]? = some x:=by rfl) (hv:gR X.env.scope x:=by first | exact Or.inl rfl | exact Or.inr (Or.inl rfl) | exact Or.inr (Or.inr rfl)) (hd:(x == ("__debug__" : Str))=false:=by decide)
  (hcd:(x == ("__classdict__" : Str))=false:=by decide):PE X (.Name x pos) (iZ i):=jZ hN hv hd hcd
theorem ag3:cS X (.builtin "len") (fun xs H Q=>∃ a kvs,xs = [V.ref a]/\H a=some (.dK kvs)/\Q (.int kvs.length) H):=by
 intro pins s σ H xs us Q I r h
 obtain ⟨a,kvs,rfl,ha,q⟩:=h
 obtain ⟨u,rfl,ru⟩:=eI r
 cases ru
 exact ae7 I (.inl ha) fun t s' I'=>⟨.int kvs.length,H,I',⟨t,rfl⟩,q⟩
end
theorem aP {A B:Prop} (h:B):if false=true then A else B:=by
 rw [if_neg aS3]
 exact h
theorem b4 {A B:Prop} (h:A):if true=true then A else B:=by
 rw [if_pos rfl]
 exact h
def aB (H H':Hp):Prop:=∀ b o,H b=some o->H' b=some o
theorem aB.refl (H:Hp):aB H H:=fun _ _ h=>h
theorem aB.trans {H H1 H2:Hp} (a:aB H H1) (b:aB H1 H2):aB H H2:=fun c o h=>b c o (a c o h)
theorem aB.free {H H':Hp} (e:aB H H') {l:Addr} (h:H' l=Option.none):H l=Option.none:=by
 cases q:H l with
 | none=>rfl
 | some o=>
  rw [e l o q] at h
  cases h
theorem aB.seq {K:PySem.W.Frag}{H H':Hp}{a:Addr}{xs:List V} (e:aB H H') (h:aH K H a xs):aH K H' a xs:=by
 rcases h with (h | ⟨o,h⟩) | h
 ·exact .inl (.inl (e _ _ h))
 ·exact .inl (.inr ⟨o,e _ _ h⟩)
 ·exact .inr h
def dJ (cells:List (Str × Addr)):List (Str × NameKind)->List (Str × Addr)->List (Str × Addr)
 | [],cs=>cs
 | (n,k) :: r,cs=>dJ cells r (if k == .free then (n,(cells.lookup n).getD 0) :: cs else cs)
theorem t6 {env:Env}:∀ (ns:List (Str × NameKind)) (cs:List (Str × Addr)),(∀ x ∈ ns,x.2 = .free->∃ c,env.cells.lookup x.1=some c)->
  (forIn ns cs (fun (x:Str × NameKind) r=>(match x with
   | (name,kind)=>if (kind == .free)=true then (do let y <- cellOf env name; pure (ForInStep.yield ((name,y) :: r))) else pure (ForInStep.yield r)):_->_->Sem _))=(pure (dJ env.cells ns cs):Sem (List (Str × Addr)))
 | [],cs,_=>by rw [List.forIn_nil]; rfl
 | (n,k) :: r,cs,h=>by
  rw [List.forIn_cons]
  have hr:∀ x ∈ r,x.2 = .free->∃ c,env.cells.lookup x.1=some c:=fun x hx=>h x (aR1 _ hx)
  cases hk:(k == NameKind.free) with
  | true=>
   have e:k = .free:=by simpa using hk
   obtain ⟨c,hc⟩:=h (n,k) aR2 e
   simp only [hk,if_true]
   have e1:cellOf env n=pure c:=by unfold cellOf; rw [hc]
   rw [e1]
   show ((pure c >>= fun y=>pure (ForInStep.yield ((n,y) :: cs))) >>= _:Sem _)=_
   rw [pure_bind,pure_bind]
   have:=t6 (env:=env) r ((n,c) :: cs) hr
   refine this.trans ?_
   unfold dJ
   simp only [hk,if_true,hc,Option.getD_some]
   cases r <;> rfl
  | false=>
   simp only [hk,aS4,aX0]
   rw [pure_bind]
   have:=t6 (env:=env) r cs hr
   refine this.trans ?_
   conv=>rhs; unfold dJ
   simp only [hk,aS4,aX0]
theorem oQ {scope:Scope}{env:Env} (h:∀ x ∈ scope.names,x.2 = .free->∃ c,env.cells.lookup x.1=some c):closureFor scope env=pure (dJ env.cells scope.names []):=by
 have e:=t6 (env:=env) scope.names [] h
 unfold closureFor
 rw [show (pure (dJ env.cells scope.names []):Sem (List (Str × Addr)))=(pure (dJ env.cells scope.names []) >>= pure) by rw [pure_bind]]
 rw [<- e]
theorem oR {cells:List (Str × Addr)}:∀ (ns:List (Str × NameKind)) (cs:List (Str × Addr)) {x:Str}{c:Addr},(∀ y ∈ ns,y.2 = .free->∃ c,cells.lookup y.1=some c)->
  (∀ x c,cs.lookup x=some c->cells.lookup x=some c)->(dJ cells ns cs).lookup x=some c->cells.lookup x=some c
 | [],cs,x,c,_,hc,h=>hc x c h
 | (n,k) :: r,cs,x,c,hn,hc,h=>by
  unfold dJ at h
  have hr:∀ y ∈ r,y.2 = .free->∃ c,cells.lookup y.1=some c:=fun y hy=>hn y (aR1 _ hy)
  cases hk:(k == NameKind.free) with
  | false=>
   simp only [hk,aS4,aX0] at h
   exact oR r cs hr hc h
  | true=>
   simp only [hk,if_true] at h
   refine oR r _ hr (fun y d e=>?_) h
   obtain ⟨c0,h0⟩:=hn (n,k) aR2 (by simpa using hk)
   have h0:cells.lookup n=some c0:=h0
   rw [h0] at e
   rw [aV8] at e
   by_cases hyn:y=n
   ·subst hyn
    simp only [beq_self_eq_true,Option.getD_some] at e
    rw [h0]; exact e
   ·have:(y == n)=false:=beq_eq_false_iff_ne.mpr hyn
    simp only [this] at e
    exact hc y d e
theorem t7 {cells:List (Str × Addr)}:∀ (ns:List (Str × NameKind)) (cs:List (Str × Addr)) {x:Str},((x,NameKind.free) ∈ ns ∨ ∃ c,cs.lookup x=some c)->∃ c,(dJ cells ns cs).lookup x=some c
 | [],cs,x,h=>by
  rcases h with h | h
  ·simp at h
  ·exact h
 | (n,k) :: r,cs,x,h=>by
  unfold dJ
  refine t7 r _ ?_
  rcases h with h | ⟨c,h⟩
  ·rcases aQ2.mp h with e | e
   ·cases e
    exact .inr ⟨_,by simp [aV8]; rfl⟩
   ·exact .inl e
  ·right
   cases hk:(k == NameKind.free) with
   | false=>exact⟨c,by simpa [hk] using h⟩
   | true=>
    simp only [if_true]
    rw [aV8]
    by_cases hxn:(x == n)=true
    ·simp only [hxn]; exact⟨_,rfl⟩
    ·simp only [aZ4.mpr hxn]; exact⟨c,h⟩
theorem oS {env:Env}:∀ {names:List (Str × NameKind)}{x:Str}{k:NameKind},(names.map fun (n,k)=>if (k == NameKind.free && env.scope.kind == .function && env.kindOf n == some .cell) then (n,NameKind.cell) else (n,k)).lookup x=some k->
  names.lookup x=some k ∨ (names.lookup x=some .free/\k = .cell)
 | [],_,_,h=>by simp at h
 | (n,q) :: r,x,k,h=>by
  have ih:=@oS env r x k
  rw [aU8] at h
  by_cases hx:(x == n)=true
  ·have e:x=n:=by simpa using hx
   subst e
   by_cases hc:(q == NameKind.free && env.scope.kind == .function && env.kindOf x == some .cell)=true
   ·simp only [hc,if_true,aV8,beq_self_eq_true] at h
    have hq:q = .free:=by simp at hc; exact hc.1.1
    exact .inr ⟨by simp [aV8,hq],(aS7 h).symm⟩
   ·simp only [hc,aS4,aX0,aV8,beq_self_eq_true] at h
    exact .inl (by simp [aV8]; exact aS7 h)
  ·have hx':(x == n)=false:=aZ4.mpr hx
   have h':(r.map fun (n,k)=>if (k == NameKind.free && env.scope.kind == .function && env.kindOf n == some .cell) then (n,NameKind.cell) else (n,k)).lookup x=some k:=by
    by_cases hc:(q == NameKind.free && env.scope.kind == .function && env.kindOf n == some .cell)=true
    ·simp only [hc,if_true,aV8,hx'] at h; exact h
    ·simp only [hc,aS4,aX0,aV8,hx'] at h; exact h
   simp only [aV8,hx']
   exact ih h'
def eR (fr:List (Option Nat)) (σ:St):St:=fr.map fun o=>o.bind fun j=>(σ[j]?).join
def Wk (σ₁ σ₂:St):Prop:=σ₁.length=σ₂.length/\∀ (i:Nat) v,σ₁[i]? = some (some v)->σ₂[i]? = some (some v)
theorem Wk.refl (σ:St):Wk σ σ:=⟨rfl,fun _ _ h=>h⟩
theorem Wk.set {σ τ:St}{i:Nat}{v:V} (h:Wk σ τ) (hi:σ[i]? = some none):Wk σ (τ.set i (some v)):=by
 refine⟨by rw [aW4]; exact h.1,fun j w e=>?_⟩
 by_cases hj:j=i
 ·subst hj; rw [hi] at e; cases e
 ·rw [aS5 (Ne.symm hj)]; exact h.2 j w e
theorem iA:∀ (ns:List (Str × NameKind)) (n:Nat) (cs:List (Str × Addr)),cellsFrom n ns cs=cellsFrom n ns [] ++ cs
 | [],_,_=>rfl
 | (x,k) :: r,n,cs=>by
  unfold cellsFrom
  split
  ·rw [iA r (n+1) ((x,n) :: cs),iA r (n+1) [(x,n)]]; simp
  ·exact iA r n cs
theorem t8:∀ (ns:List (Str × NameKind)) (n:Nat) {x:Str}{c:Addr},(x,c) ∈ cellsFrom n ns []->(x,NameKind.cell) ∈ ns
 | [],_,_,_,h=>by simp [cellsFrom] at h
 | (y,k) :: r,n,x,c,h=>by
  unfold cellsFrom at h
  split at h
  ·rename_i hk
   rw [iA] at h
   rcases aV6.mp h with z | z
   ·exact aR1 _ (t8 r _ z)
   ·rw [aR8] at z
    cases z
    have:k = .cell:=by simpa using hk
    rw [this]; exact aR2
  ·exact aR1 _ (t8 r _ h)
theorem oT:∀ (ns:List (Str × NameKind)) (n:Nat) {x:Str},(x,NameKind.cell) ∈ ns->∃ c,(x,c) ∈ cellsFrom n ns []
 | (y,k) :: r,n,x,h=>by
  unfold cellsFrom
  rcases aQ2.mp h with z | z
  ·cases z
   rw [if_pos (by rfl),iA]
   exact⟨n,aU3 _ (by simp)⟩
  ·split
   ·obtain ⟨c,hc⟩:=oT r (n+1) z
    rw [iA]
    exact⟨c,List.mem_append_left _ hc⟩
   ·exact oT r n z
theorem t9 {α:Type}:∀ {l:List (Str × α)}{x:Str}{c:α},(x,c) ∈ l->∃ d,l.lookup x=some d
 | (y,v) :: r,x,c,h=>by
  rw [aV8]
  cases hb:x == y with
  | true=>exact⟨v,rfl⟩
  | false=>
   rcases aQ2.mp h with z | z
   ·cases z; simp at hb
   ·exact t9 z
theorem oU {α:Type}{x:Str}:∀ (l r:List (Str × α)),(l ++ r).lookup x=(match l.lookup x with | some v=>some v | none=>r.lookup x)
 | [],_=>rfl
 | (y,v) :: l,r=>by
  rw [List.cons_append,aV8,aV8]
  cases hb:x == y with
  | true=>rfl
  | false=>exact oU l r
def fR (X:Cx) (scope:Scope) (C:Addr):List (Str × Addr):=cellsFrom (C+1) scope.names (dJ X.env.cells scope.names [])
theorem kE {X:Cx}{scope:Scope}{C:Addr}{x:Str}{c:Addr} (h:(fR X scope C).lookup x=some c) :
  (x,c) ∈ cellsFrom (C+1) scope.names [] ∨ ((∀ d,(x,d) ∉ cellsFrom (C+1) scope.names [])/\(dJ X.env.cells scope.names []).lookup x=some c):=by
 unfold fR at h
 rw [iA,oU] at h
 cases e:(cellsFrom (C+1) scope.names []).lookup x with
 | some v=>rw [e] at h; cases h; exact .inl (aU5 e)
 | none=>
  rw [e] at h
  refine .inr ⟨fun d hd=>?_,h⟩
  obtain ⟨d',z⟩:=t9 hd
  rw [e] at z; cases z
theorem ag4 {X:Cx}{scope:Scope}{C:Addr}{x:Str}{c:Addr} (hn:(x,NameKind.cell) ∉ scope.names) (h:(dJ X.env.cells scope.names []).lookup x=some c):(fR X scope C).lookup x=some c:=by
 unfold fR
 rw [iA,oU]
 cases e:(cellsFrom (C+1) scope.names []).lookup x with
 | some v=>exact absurd (t8 _ _ (aU5 e)) hn
 | none=>exact h
theorem yH {X:Cx}{scope:Scope}{C:Addr}{x:Str} (h:(x,NameKind.cell) ∈ scope.names ∨ ∃ c,(dJ X.env.cells scope.names []).lookup x=some c):∃ c,(fR X scope C).lookup x=some c:=by
 unfold fR
 rw [iA,oU]
 cases e:(cellsFrom (C+1) scope.names []).lookup x with
 | some v=>exact⟨v,rfl⟩
 | none=>
  rcases h with h | h
  ·obtain ⟨c,hc⟩:=oT scope.names (C+1) h
   obtain ⟨d,hd⟩:=t9 hc
   rw [e] at hd; cases hd
  ·exact h
def b9 (X:Cx) (scope:Scope) (N:List Str) (s:Shared) (H:Hp) (C:Addr) (fp:List Addr) (E:Value->Shared->Prop):Cx:=
 { X with N:=N,s₀:=s,H₀:=H,env:=compEnvC scope (fR X scope C) C X.env,outer:=X.stack,ex:=fp,fn:=fun x=>scope.names.lookup x == some .cell,pn:=[],xe:=E }
structure cF (X:Cx) (scope:Scope) (N:List Str) (fr:List (Option Nat)):Prop where
 kind:scope.kind = .function
 own:∀ y ∈ scope.names,y.2 = .cell->scope.names.lookup y.1=some .cell
 names:∀ y ∈ scope.names,y.2 = .local->scope.names.lookup y.1=some .local
 free:∀ y ∈ scope.names,y.2 = .free->X.env.scope.names.lookup y.1=some .cell ∨ X.env.scope.names.lookup y.1=some .free
 len:fr.length=N.length
 from_:∀ (i j:Nat),fr[i]? = some (some j)->∃ x,N[i]? = some x/\X.N[j]? = some x/\scope.names.lookup x=some .free
section
variable {X : Cx} {pins : List (Addr × Obj)} {σ : St} {H : Hp} {s : Shared} {scope : Scope} {N : List Str} {fr : List (Option Nat)}
theorem cF.cells (S:cF X scope N fr) (I:a7 X pins σ H s):∀ y ∈ scope.names,y.2 = .free->∃ c,X.env.cells.lookup y.1=some c:=fun y hy hk=>I.ok.has y.1 (S.free y hy hk)
theorem ag5 {C D:Addr}{fp:List Addr}{E:Value->Shared->Prop}{h1:Heap}{tk:Nat}{m:Str->Option Value} (S:cF X scope N fr) (I:a7 X pins σ H s)
  (hf:∀ b ∈ fp,fM X pins H b) (hfl:∀ b ∈ fp,b < s.heap.objs.size) (hD:s.heap.objs.size<=D) (hC:s.heap.objs.size<=C) (hDC:D < C)
  (old:∀ b o,s.heap.get? b=some o->h1.get? b=some o) (hns:h1.Ns C m) (hacc:h1.get? D=some { cls:=.type "list",data:=.seq #[] 0 }) (hco:CellsOk h1 (C+1) (cellsFrom (C+1) scope.names [])) :
  a7 (b9 X scope N s H C fp E) [] (eR fr σ) (upd H D (.lst [])) { s with heap:=h1,toks:=tk }:=by
 have hHD:H D=none:=I.hok.fresh hD
 have cl:=S.cells I
 have cs:∀ {x:Str}{c:Addr},(dJ X.env.cells scope.names []).lookup x=some c->X.env.cells.lookup x=some c:=fun {x c} h=>oR scope.names [] cl (fun _ _ z=>by simp at z) h
 have clt:∀ {x:Str}{c:Addr},X.env.cells.lookup x=some c->c < s.heap.objs.size:=fun {x c} h=>by obtain ⟨v,z⟩:=I.cell x c h; exact z.lt
 have nge:∀ {x:Str}{c:Addr},(x,c) ∈ cellsFrom (C+1) scope.names []->C < c:=fun {x c} h=>(hco.empty x c h).2
 refine⟨⟨I.ok.mod,?_,I.ok.glob,I.ok.blt,hC,?_,?_,?_,I.ok.hd,I.ok.frames,.inl rfl,?_,I.bs,aU0 I.ok.bsz I.sz,?_,?_,I.stack,I.stkFree⟩,rfl,I.bare,Un.laid old hD hHD,⟨m,hns,?_⟩,?_,?_,?_,fun p hp=>absurd (show p ∈ ([]:List (Addr × Obj)) from hp) (by simp),?_,?_⟩
 ·exact S.kind
 ·intro x y c h1 h2
  rcases kE h1 with a | ⟨_,a⟩ <;> rcases kE h2 with b | ⟨_,b⟩
  ·exact name_of_addr hco.apart a b
  ·exact absurd (aQ9 (Nat.lt_trans (nge a) (clt (cs b))) hC) (aU2 _)
  ·exact absurd (aQ9 (Nat.lt_trans (nge b) (clt (cs a))) hC) (aU2 _)
  ·exact I.ok.inj x y c (cs a) (cs b)
 ·intro x hx
  have hx:(relabel scope X.env).names.lookup x=some .cell ∨ (relabel scope X.env).names.lookup x=some .free:=hx
  have fin:(x,NameKind.free) ∈ scope.names->∃ c,(fR X scope C).lookup x=some c:=fun z=>yH (.inr (t7 scope.names [] (.inl z)))
  rcases hx with hx | hx
  ·rcases oS hx with z | z
   ·exact yH (.inl (aU5 z))
   ·exact fin (aU5 z.1)
  ·rcases oS hx with z | z
   ·exact fin (aU5 z)
   ·exact absurd z.2 (by decide)
 ·intro x c hx h
  have hx:(scope.names.lookup x == some NameKind.cell)=true:=hx
  have hx:scope.names.lookup x=some .cell:=by simpa using hx
  rcases kE h with a | ⟨a,_⟩
  ·exact aU0 hC (aX4 (nge a))
  ·obtain ⟨d,hd⟩:=oT scope.names (C+1) (aU5 hx)
   exact absurd hd (a d)
 ·intro b hb
  refine⟨aS8 (aQ9 (hfl b hb) hC),fun x c e=>?_⟩
  rcases kE e with a | ⟨_,a⟩
  ·exact aX9 (Nat.lt_trans (aQ9 (hfl b hb) hC) (nge a))
  ·exact (hf b hb).2.2.2.2.1 x c (cs a)
 ·intro b o e hb
  rcases (hf b hb).2.2.2.1 with z | z
  ·exact I.ok.noex b o e z
  ·exact absurd (aQ9 (aR0 e) (aU0 I.ok.bsz z)) (aU2 _)
 ·intro b hb z
  rcases aQ2.mp (I.stkSub b z) with e | e
  ·exact (hf b hb).2.1 e
  ·exact (hf b hb).2.2.1 e
 ·intro i x v e1 e2 e3
  have e2:(fr.map fun o=>o.bind fun j=>(σ[j]?).join)[i]? = some (some v):=e2
  rw [aR6] at e2
  cases ef:fr[i]? with
  | none=>rw [ef] at e2; cases e2
  | some o=>
   rw [ef] at e2
   cases o with
   | none=>cases e2
   | some j=>
    have e2:some ((σ[j]?).join)=some (some v):=e2
    have ej:σ[j]? = some (some v):=by
     cases q:σ[j]? with
     | none=>rw [q] at e2; cases e2
     | some w=>rw [q] at e2; cases w with
      | none=>cases e2
      | some w=>cases e2; rfl
    obtain ⟨y,a1,a2,a4⟩:=S.from_ i j ef
    have e1:N[i]? = some x:=e1
    rw [e1] at a1
    cases a1
    have a3:(x,NameKind.free) ∈ scope.names:=aU5 a4
    have vis:gR X.env.scope x:=(S.free _ a3 rfl).elim (fun z=>.inr (.inl z)) fun z=>.inr (.inr z)
    obtain ⟨m0,hn0,hl0⟩:=I.loc
    obtain ⟨u,r,l⟩:=hl0 j x v a2 ej vis
    refine⟨u,r,.inr ⟨?_,?_⟩⟩
    ·have e3:(relabel scope X.env).names.lookup x=some .local ∨ (relabel scope X.env).names.lookup x=some .cell ∨ (relabel scope X.env).names.lookup x=some .free:=e3
     rcases e3 with z | z | z
     ·rcases oS z with y | y
      ·rw [a4] at y; cases y
      ·exact absurd y.2 (by decide)
     ·exact .inl z
     ·exact .inr z
    ·obtain ⟨c,hc⟩:=t7 (cells:=X.env.cells) scope.names [] (x:=x) (.inl a3)
     refine⟨c,ag4 (fun z=>by have:=S.own _ z rfl; rw [a4] at this; cases this) hc,?_⟩
     have hc':=cs hc
     have S1:=S.free (x,.free) a3 rfl
     rcases l with ⟨k,_⟩ | ⟨_,c2,hc2,z⟩
     ·have k:X.env.scope.names.lookup x=some .local:=k
      rcases S1 with q | q <;> (have q:X.env.scope.names.lookup x=_:=q; rw [k] at q; cases q)
     ·rw [hc'] at hc2; cases hc2
      obtain ⟨oc,ho,hd⟩:=z
      exact⟨oc,old c oc ho,hd⟩
 ·intro x c e
  rcases kE e with a | ⟨_,a⟩
  ·exact⟨_,(hco.empty x c a).1⟩
  ·obtain ⟨v,oc,ho,hd⟩:=I.cell x c (cs a)
   exact⟨v,oc,old c oc ho,hd⟩
 ·show upd H D (.lst []) C=none
  rw [aJ (aX9 hDC)]; exact I.hok.fresh hC
 ·intro x c e
  show upd H D (.lst []) c=none
  rcases kE e with a | ⟨_,a⟩
  ·rw [aJ (aX9 (Nat.lt_trans hDC (nge a)))]; exact I.hok.fresh (aU0 hC (aX4 (nge a)))
  ·have q:=cs a
   rw [aJ (aS8 (aQ9 (clt q) hD))]
   exact I.freeC x c q
 ·exact I.hok.laid old hD ⟨aT7 _,[],0,.nil,hacc⟩
 ·show (eR fr σ).length=N.length
  unfold eR; rw [aQ3]; exact S.len
end
def jB (X:Cx) (ifs:List Expr) (t:TT):Prop:=
 ∀ (pins:List (Addr × Obj)) (s:Shared) (σ:St) (H:Hp) (Q:Bool->Hp->Prop),a7 X pins σ H s->t σ H Q->
  wpAny (model X.prog X.w) X.A (forIn ifs true fun c r=>if r=true then do let ok <- isTrue c X.env (eval c X.env); pure (ForInStep.yield ok) else pure (ForInStep.yield r)) (TP X pins σ Q) X.xe s
def tD:TT:=fun _ H Q=>Q true H
theorem mR {X:Cx}:jB X [] tD:=fun _ _ _ H _ I h=>wpAny_tests_nil ⟨H,I,h⟩
theorem tE {X:Cx}{c:Expr}{t:TT} (h:PT X c t):jB X [c] t:=fun pins s σ H Q I hq=>wpAny_tests_one (h pins s σ H Q I hq)
section
variable {prog : Program} {w : World} {A : Around}
def tF (prog:Program) (w:World) (A:Around) (elt tg:Expr) (ifs:List Expr) (it acc:Value) (env:Env) (lost:Value->Shared->Prop) (stop next:Shared->Prop) (s:Shared):Prop:=
 let M:=model prog w
 let tests:Sem Bool:=forIn ifs true fun c r=>if r=true then do let ok <- isTrue c env (eval c env); pure (ForInStep.yield ok) else pure (ForInStep.yield r)
 let put:Shared->Prop:=wpAny M A (eval elt env) (fun x=>wpAny M A (call (.builtin "list.append") [acc,x]) (fun _=>next) lost) lost
 let taken:Value->Shared->Prop:=fun v=>wpAny M A (letOwnedTupleGo tg it v) (fun _=>wpAny M A (assign tg env v) (fun _=>wpAny M A tests (fun ok s'=>if ok=true then put s' else next s') lost) lost) lost
 wpAny M A (pyNext it) (fun r s'=>match r with
  | none=>stop s'
  | some v=>taken v s') lost s
theorem ag6 {R:Result->Shared->Prop}{s:Shared}{elt tg iter:Expr}{ifs:List Expr}{scope:Scope}{pos:Pos}{it acc:Value}{env:Env} (I:Nat->Shared->Prop)
  (turn:∀ n s,I n s->tF prog w A elt tg ifs it acc env (notedBy (model prog w) A env fun e=>R (.error e)) (R (.ok .next)) (fun s'=>∃ m,m < n/\I m s') s) (n:Nat) (h:I n s) :
  codeAny (model prog w) A (.compLoop (.ListComp elt [⟨tg,iter,ifs,0⟩] scope pos) 0 it acc env) R s:=by
 apply codeAny_loop rfl I _ n h
 intro k s1 h1
 change wpAny _ A ((compTurn _ 0 it acc env).onRaise (fun x=>do noteFrame x env; theTreesLotGoes x)) _ _ s1
 apply wpAny_noted
 rw [compTurn_list]
 have t:=turn k s1 h1
 unfold tF at t
 apply aQ0
 apply wpAny_standAt
 apply aQ0
 refine aW0 t (fun r s2 h2=>?_) fun _ _ z=>z
 cases r with
 | none=>exact aQ5 h2
 | some v=>
  apply aQ0
  refine aW0 h2 (fun _ s3 h3=>?_) fun _ _ z=>z
  apply aQ0
  refine aW0 h3 (fun _ s4 h4=>?_) fun _ _ z=>z
  apply aQ0
  refine aW0 h4 (fun ok s5 h5=>?_) fun _ _ z=>z
  cases ok with
  | false=>exact aQ5 ⟨rfl,h5⟩
  | true=>
   apply aQ0
   apply aQ0
   refine aW0 h5 (fun x s6 h6=>?_) fun _ _ z=>z
   apply aQ0
   exact aW0 h6 (fun _ s7 h7=>aQ5 (aQ5 ⟨rfl,h7⟩)) fun _ _ z=>z
end
def mS (g:TG) (tc:TT) (te:TE) (σ0:St) (J:It) (D:Addr) (Q:VK) (W:Nat->Nat->List V->Hp->Prop):Prop:=
 ∀ i m acc H',W i m acc H'->H' D=some (.lst acc)/\((J.stop i H'/\Q (.ref D) H') ∨ (J.go i H'/\∀ x H2,J.yld i H' x H2->g x σ0 H2 fun σ2 H3=>Wk σ0 σ2/\tc σ2 H3 fun b H4=>
  if b=true then te σ2 H4 fun v H5=>H5 D=some (.lst acc)/\acc.length < sizeLine/\∃ m',m' < m/\W (i+1) m' (acc ++ [v]) (upd H5 D (.lst (acc ++ [v]))) else ∃ m',m' < m/\W (i+1) m' acc H4))
def yI (wi:TI) (fr:List (Option Nat)) (g:TG) (tc:TT) (te:TE):TE:=fun σ H Q=>wi σ H fun J H1=>∀ D,H1 D=none->
 ∃ W:Nat->Nat->List V->Hp->Prop,(∃ m,W 0 m [] (upd H1 D (.lst [])))/\mS g tc te (eR fr σ) J D Q W
section
variable {M : Model} {A : Around} {E : Value → Shared → Prop} {s : Shared}
theorem ag7 {scope:Scope}{globals:Addr}{cl:List (Str × Addr)}{qual:Str}{func:Option Addr}{code:Value}{builtins:Addr}{outer:Env}{Q:Env->Shared->Prop}
  (hQ:∀ h',h'.Ns s.heap.objs.size (fun _=>none)->(∀ b o,s.heap.get? b=some o->h'.get? b=some o)->CellsOk h' (s.heap.objs.size+1) (cellsFrom (s.heap.objs.size+1) scope.names [])->
   Q (newEnv scope s.heap.objs.size globals (cellsFrom (s.heap.objs.size+1) scope.names cl) qual func code (some outer) builtins) { s with heap:=h' }) :
  wpAny M A (newFunctionEnv scope globals cl [] qual func code (some outer) builtins) Q E s:=by
 simp only [newFunctionEnv,Option.isSome_some,if_true]
 refine aQ0 (wpAny_alloc ?_)
 refine aQ0 (wpAny_layCells _ (fun name kind cells=>by cases hkc:kind == NameKind.cell <;> simp [hkc]) _ _ _ _ ?_)
 have ok:=cellsFrom_ok scope.names (s.heap.push { cls:=.type "dict",data:=.dict #[] }) (s.heap.objs.size+1) [] ⟨fun _ _ hm=>(nomatch hm),List.Pairwise.nil⟩ (by rw [aX7]; exact aQ6 _)
 rw [aX7] at ok
 rw [show ({ s with heap:=s.heap.push { cls:=.type "dict",data:=.dict #[] } }:Shared).heap.objs.size=s.heap.objs.size+1 from aX7 ..]
 rw [List.forIn_nil]
 refine aQ0 (aQ5 (aQ5 (hQ _ ((Heap.Ns.new s.heap (.type "dict")).keeps (pushCells_keeps _ _)) (fun b o e=>pushCells_keeps _ _ b o (aQ1 _ e)) ok)))
end
section
variable {X : Cx} {pins : List (Addr × Obj)} {σ : St} {H : Hp} {s : Shared} {scope : Scope} {N : List Str} {fr : List (Option Nat)} {tg iter elt : Expr} {ifs : List Expr} {pos : Pos} {wi : TI} {g : TG} {tc : TT} {te : TE}
structure l9 (X:Cx) (scope:Scope) (N:List Str) (tg:Expr) (ifs:List Expr) (elt:Expr) (s:Shared) (H:Hp) (g:TG) (tc:TT) (te:TE):Prop where
 tg:∀ (C:Addr) (fp:List Addr),PG (b9 X scope N s H C fp fun _ _=>False) tg g
 ifs:∀ (C:Addr) (fp:List Addr),jB (b9 X scope N s H C fp fun _ _=>False) ifs tc
 elt:∀ (C:Addr) (fp:List Addr),PE (b9 X scope N s H C fp fun _ _=>False) elt te
structure oV (X:Cx) (scope:Scope) (N:List Str) (tg:Expr) (ifs:List Expr) (elt:Expr) (g:TG) (tc:TT) (te:TE):Prop where
 tg:∀ (s:Shared) (H:Hp) (C:Addr) (fp:List Addr),PG (b9 X scope N s H C fp fun _ _=>False) tg g
 ifs:∀ (s:Shared) (H:Hp) (C:Addr) (fp:List Addr),jB (b9 X scope N s H C fp fun _ _=>False) ifs tc
 elt:∀ (s:Shared) (H:Hp) (C:Addr) (fp:List Addr),PE (b9 X scope N s H C fp fun _ _=>False) elt te
theorem oV.at (B:oV X scope N tg ifs elt g tc te) (s:Shared) (H:Hp):l9 X scope N tg ifs elt s H g tc te:=⟨B.tg s H,B.ifs s H,B.elt s H⟩
theorem ag8 {C:Addr}{fp:List Addr}{E:Value->Shared->Prop}{pins':List (Addr × Obj)}{σ':St}{H':Hp}{s':Shared} (I:a7 X pins σ H s) (hf:∀ b ∈ fp,fM X pins H b) (I':a7 (b9 X scope N s H C fp E) pins' σ' H' s'):a7 X pins σ H' s':=
 I.call' (ch:=fp) I'.os I'.base I'.hok I'.bare fun b hb=>⟨(hf b hb).2.2.2.1,(hf b hb).2.1,(hf b hb).2.2.2.2.1,(hf b hb).2.2.2.2.2⟩
theorem oW {Rr:Value->Addr->Result->Shared->Prop}{J:It}{fp:List Addr}{it:Addr}{tn:Nat->Heap->Prop}{Q:VK}
  (hc:X.calm=true) (S:cF X scope N fr) (B:l9 X scope N tg ifs elt s H g tc te) (I:a7 X pins σ H s) (T:gA X.prog X.w X.K tg J fp it tn) (hst:tn 0 s.heap) (hf:∀ b ∈ fp,fM X pins H b)
  (h:∀ D,H D=none->∃ W:Nat->Nat->List V->Hp->Prop,(∃ m,W 0 m [] (upd H D (.lst [])))/\mS g tc te (eR fr σ) J D Q W)
  (hend:∀ (D C:Addr) (s':Shared) (H':Hp) (m:Str->Option Value),s.heap.objs.size<=C->s.heap.objs.size<=D->a7 X pins σ H' s'->s'.heap.Ns C m->H' C=none->Q (.ref D) H'->Rr (.ref D) C (.ok .next) s') :
  wpAny (model X.prog X.w) X.A (newList []) (fun acc s₃=>wpAny (model X.prog X.w) X.A (newFunctionEnv scope X.env.globals (dJ X.env.cells scope.names []) [] X.env.qual none .none (some X.env)) (fun cenv s₄=>
   codeAny (model X.prog X.w) X.A (.compStart (.ListComp elt [⟨tg,iter,ifs,0⟩] scope pos) 0 (.ref it) acc { cenv with scope:=relabel scope X.env }) (Rr acc cenv.locals) s₄) X.xe s₃) X.xe s:=by
 refine aX5 (ag7 (fun h₁ hns₁ keep₁ hco₁=>?_))
 dsimp only at hns₁ keep₁ hco₁ ⊢
 generalize hH2:s.heap.push { cls:=.type "list",dict:=none,data:=.seq ([]:List Value).toArray }=H2 at hns₁ keep₁ hco₁ ⊢
 have hC:H2.objs.size=s.heap.objs.size+1:=by rw [<- hH2,aX7]
 have hDC:s.heap.objs.size < H2.objs.size:=by rw [hC]; exact Nat.lt_succ_self _
 have hCle:s.heap.objs.size<=H2.objs.size:=by rw [hC]; exact Nat.le_succ _
 have old:∀ b o,s.heap.get? b=some o->h₁.get? b=some o:=fun b o e=>keep₁ b o (hH2 ▸ aQ1 _ e)
 have hacc:h₁.get? s.heap.objs.size=some { cls:=.type "list",data:=.seq #[] 0 }:=keep₁ _ _ (hH2 ▸ aR5 _ rfl)
 have hfl:∀ b ∈ fp,b < s.heap.objs.size:=fun b hb=>by obtain ⟨o,e,_⟩:=T.obj _ _ hst b hb; exact aR0 e
 obtain ⟨W,⟨m0,w0⟩,turn⟩:=h s.heap.objs.size (I.hok.fresh (aQ6 _))
 have st1:tn 0 h₁:=T.keep _ _ _ hst fun b _ o e=>old b o e
 have fr0:∀ b ∈ fp,upd H s.heap.objs.size (.lst []) b=none:=fun b hb=>by rw [aJ (aS8 (hfl b hb))]; exact (hf b hb).1
 have stat:∀ {H':Hp},(∀ b ∈ fp,H' b=none)->∀ b ∈ fp,fM (b9 X scope N s H H2.objs.size fp fun _ _=>False) [] H' b:=fun {H'} hn b hb=>by
  have f:=hf b hb
  refine⟨hn b hb,aS8 (aQ9 (hfl b hb) hCle),fun z=>?_,.inl hb,fun x c e=>(kE e).elim (fun z=>aX9 (Nat.lt_trans (aQ9 (hfl b hb) hCle) (hco₁.empty x c z).2)) fun z=>f.2.2.2.2.1 x c (oR scope.names [] (S.cells I) (fun _ _ z=>by simp at z) z.2),fun p hp=>absurd (show p ∈ ([]:List (Addr × Obj)) from hp) (by simp)⟩
  rcases aQ2.mp (I.stkSub b z) with e | e
  ·exact f.2.1 e
  ·exact f.2.2.1 e
 generalize hX:b9 X scope N s H H2.objs.size fp (fun _ _=>False)=Y at stat
 have I0:a7 Y [] (eR fr σ) (upd H s.heap.objs.size (.lst [])) { s with heap:=h₁ }:=hX ▸ ag5 S I hf hfl (aQ6 _) hCle hDC old hns₁ hacc hco₁
 have bt:PG Y tg g:=hX ▸ B.tg H2.objs.size fp
 have bi:jB Y ifs tc:=hX ▸ B.ifs H2.objs.size fp
 have be:PE Y elt te:=hX ▸ B.elt H2.objs.size fp
 have eP:Y.prog=X.prog:=by rw [<- hX]; rfl
 have ew:Y.w=X.w:=by rw [<- hX]; rfl
 have eK:Y.K=X.K:=by rw [<- hX]; rfl
 have eA:Y.A=X.A:=by rw [<- hX]; rfl
 have eE:Y.env=compEnvC scope (fR X scope H2.objs.size) H2.objs.size X.env:=by rw [<- hX]; rfl
 have eX:Y.xe=fun _ _=>False:=by rw [<- hX]; rfl
 have ec:Y.calm=true:=by rw [<- hX]; exact hc
 have never:∀ {E:Value->Shared->Prop} (e:Value) (s':Shared),Y.xe e s'->E e s':=fun {E} e s' z=>by rw [eX] at z; exact z.elim
 have out:∀ {pins' σ' H' s'},a7 Y pins' σ' H' s'->a7 X pins σ H' s':=fun {_ _ _ _} I'=>ag8 (C:=H2.objs.size) (E:=fun _ _=>False) (scope:=scope) (N:=N) I hf (hX ▸ I')
 have loop:codeAny (model X.prog X.w) X.A (.compLoop (.ListComp elt [⟨tg,iter,ifs,0⟩] scope pos) 0 (.ref it) (.ref s.heap.objs.size) (compEnvC scope (fR X scope H2.objs.size) H2.objs.size X.env))
   (Rr (.ref s.heap.objs.size) H2.objs.size) { s with heap:=h₁ }:=by
  refine ag6 (fun n s'=>∃ i acc H',a7 Y [] (eR fr σ) H' s'/\tn i s'.heap/\(∀ b ∈ fp,H' b=none)/\W i n acc H') ?_ m0 ⟨0,[],_,I0,st1,fr0,w0⟩
  rintro n s3 ⟨i,acc,H3,I3,st3,fr3,w3⟩
  unfold tF
  dsimp only
  obtain ⟨hD3,step⟩:=turn i n acc H3 w3
  rcases step with ⟨stop,qn⟩ | ⟨go,step⟩
  ·have z:=T.done Y eP ew eK ec i [] s3 _ H3 (notedBy (model X.prog X.w) X.A (compEnvC scope (fR X scope H2.objs.size) H2.objs.size X.env) fun e s'=>Rr (.ref s.heap.objs.size) H2.objs.size (.error e) s') I3 (stat fr3) st3 stop
   rw [eA] at z
   refine aK z fun r s4 ⟨hr,I4⟩=>?_
   subst hr
   obtain ⟨m4,hn4,_⟩:=I4.loc
   rw [eE] at hn4
   have f4:=I4.free
   rw [eE] at f4
   exact hend _ _ s4 H3 m4 hCle (aQ6 _) (out I4) hn4 f4 qn
  ·have z:=T.item Y eP ew eK ec i [] s3 _ H3 (notedBy (model X.prog X.w) X.A (compEnvC scope (fR X scope H2.objs.size) H2.objs.size X.env) fun e s'=>Rr (.ref s.heap.objs.size) H2.objs.size (.error e) s') I3 (stat fr3) st3 go
   rw [eA] at z
   refine aK z fun r s4 ⟨u,hr,h4⟩=>?_
   subst hr
   refine aK h4 fun _ s5 ⟨x,H5,I5,r5,y5,st5,fr5⟩=>?_
   have I5':=I5.pinned (stat fr5) (T.obj _ _ st5)
   have q1:=bt _ s5 _ H5 x u _ I5' r5 (step x H5 y5)
   rw [eP,ew,eA,eE] at q1
   refine aW0 q1 (fun _ s6 ⟨σ6,H6,I6,wk,q6⟩=>?_) never
   have q2:=bi _ s6 σ6 H6 _ I6 q6
   rw [eP,ew,eA,eE] at q2
   refine aW0 q2 (fun b s7 ⟨H7,I7,q7⟩=>?_) never
   have again:∀ {H8:Hp}{s8:Shared}{acc':List V},a7 Y ([] ++ mF fp s5.heap) σ6 H8 s8->(∃ m',m' < n/\W (i+1) m' acc' H8)->∃ m,m < n/\∃ i acc H',a7 Y [] (eR fr σ) H' s8/\tn i s8.heap/\(∀ b ∈ fp,H' b=none)/\W i m acc H':=fun {H8 s8 acc'} I8 n8=>by
    obtain ⟨m',hm,w8⟩:=n8
    refine⟨m',hm,i+1,acc',H8,(I8.unpinned).weak wk.1 wk.2,T.keep _ _ _ st5 fun b hb o e=>(I8.pin (b,o) (aU3 _ (aU3 _ (oF hb e)))).1,fun b hb=>?_,w8⟩
    obtain ⟨o,e,d⟩:=T.obj _ _ st5 b hb
    exact (I8.pin (b,o) (aU3 _ (aU3 _ (oF hb e)))).2.1
   cases b with
   | false=>
    rw [if_neg aS3] at q7 ⊢
    exact again I7 q7
   | true=>
    rw [if_pos rfl] at q7 ⊢
    have q3:=be _ s7 σ6 H7 _ I7 q7
    rw [eP,ew,eA,eE] at q3
    refine aW0 q3 (fun v s8 ⟨y,H8,I8,r8,hD8,hz8,q8⟩=>?_) never
    have q4:=kB _ s8 σ6 H8 (.ref s.heap.objs.size) [y] (.ref s.heap.objs.size) [v] (fun _ H9=>∃ m',m' < n/\W (i+1) m' (acc ++ [y]) H9) I8 rfl (.cons r8 .nil) ⟨_,_,_,rfl,rfl,hD8,hz8,q8⟩
    rw [eP,ew,eA] at q4
    exact aW0 q4 (fun _ s9 ⟨_,H9,I9,_,q9⟩=>again I9 q9) never
 exact codeAny_compStart_list loop (T.self _ 0 _ _ _ st1 loop)
end
section
variable {X : Cx} {scope : Scope} {N : List Str} {fr : List (Option Nat)} {tg iter elt : Expr} {ifs : List Expr} {pos : Pos} {wi : TI} {g : TG} {tc : TT} {te : TE}
theorem a7.drop {pins:List (Addr × Obj)}{σ:St}{H H':Hp}{s s':Shared}{C:Addr}{h':Heap} (I0:a7 X pins σ H s) (hC:s.heap.objs.size<=C) {σ':St} (I:a7 X pins σ' H' s') (hn:H' C=none) (sb:Heap.SameBut C s'.heap h'):a7 X pins σ' H' { s' with heap:=h' }:=by
 refine I.turned (t':=s'.toks) (it:=C) (fun b o hb e=>(sb.2 b hb).trans e) hn (aX9 (aQ9 I0.lt hC)) (.inr (aU0 I0.sz hC)) (fun x c e z=>?_) fun p hp z=>?_
 ·obtain ⟨v,q⟩:=I0.cell x c e
  exact absurd (aQ9 q.lt (by rw [z]; exact hC)) (aU2 _)
 ·exact absurd (aQ9 (aR0 (I0.pin p hp).1) (by rw [z]; exact hC)) (aU2 _)
theorem yJ (hc:X.calm=true) (S:cF X scope N fr) (hi:PI X tg iter wi) (B:oV X scope N tg ifs elt g tc te)
  (hs:∀ x,foldedSetIterable iter X.env x=pure x:=by intro _; rfl):PE X (.ListComp elt [⟨tg,iter,ifs,0⟩] scope pos) (yI wi fr g tc te):=by
 intro pins s σ H Q I h
 rw [eval_ListComp]
 refine wpAny_comprehension_free (use:=none) rfl hs (oQ (S.cells I)) S.kind S.names (aK (hi pins s σ H _ I h) fun v s1 h1=>aK h1 fun itv s2 h2=>?_)
 obtain ⟨it,fp,tn,J,H2,e,I2,T,st2,f2,hW⟩:=h2
 subst e
 refine oW (Rr:=fun acc C=>compPost (model X.prog X.w) X.A X.xe none (EP X pins σ Q) acc C) hc S (B.at _ _) I2 T st2 f2 hW ?_
 intro D C s' H' m hC hD I' hns hHC q
 exact⟨m,hns,fun h' sb=>⟨.ref D,H',I2.drop hC I' hHC sb,rfl,q⟩⟩
theorem yK {i:Nat}{x:Str}{px spos:Pos} (hc:X.calm=true) (S:cF X scope N fr) (hi:PI X tg iter wi) (B:oV X scope N tg ifs elt g tc te) (hN:X.N.Nodup) (hix:X.N[i]? = some x) (hx:X.env.scope.names.lookup x=some .local)
  (hsw:swapsWith (.ListComp elt [⟨tg,iter,ifs,0⟩] scope pos) (some (.Name x px)) spos.line X.env=pure true) (hs:∀ x,foldedSetIterable iter X.env x=pure x:=by intro _; rfl) :
  PS X (.Assign [.Name x px] (.ListComp elt [⟨tg,iter,ifs,0⟩] scope pos) spos) (mD (yI wi fr g tc te) (cJ i)):=by
 intro pins s σ H D I h
 rw [exec_Assign_Name_used _ _ _ _ hsw]
 refine aQ0 (wpAny_standAt (aQ0 ?_))
 show wpAny _ _ (do let _ <- comprehension (.ListComp elt [⟨tg,iter,ifs,0⟩] scope pos) scope X.env _ (newList []) false (eval iter X.env) (some (assign (.Name x px) X.env))) _ _ s
 refine aQ0 (aW0 (wpAny_comprehension_free (Q:=fun _ s'=>SP X pins D .next s') (use:=some (assign (.Name x px) X.env)) rfl hs (oQ (S.cells I)) S.kind S.names (aK (hi pins s σ H _ I h) fun v s1 h1=>aK h1 fun itv s2 h2=>?_))
  (fun _ s' hq=>aQ5 (aQ5 hq)) fun _ _ e=>e)
 obtain ⟨it,fp,tn,J,H2,e,I2,T,st2,f2,hW⟩:=h2
 subst e
 refine oW (Rr:=fun acc C=>compPost (model X.prog X.w) X.A X.xe (some (assign (.Name x px) X.env)) (fun _ s'=>SP X pins D .next s') acc C) hc S (B.at _ _) I2 T st2 f2 hW ?_
 intro D' C s' H' m hC hD I' hns hHC q
 refine wpAny_assign_Name (rR I' hN hix (.inl hx) (v:=.ref D') rfl (fun s'' I'' sb=>?_) (.inr hx))
 obtain ⟨a,sb,ha⟩:=sb
 have hCa:C ≠ a:=by
  rcases ha with z | z
  ·rw [z]; exact aX9 (aQ9 I2.lt hC)
  ·intro e; subst e
   obtain ⟨v,q⟩:=I2.cell x _ z
   exact absurd (aQ9 q.lt hC) (aU2 _)
 exact⟨m,hns.sameBut sb hCa,fun h' sb'=>⟨_,H',I2.drop hC I'' hHC sb',q⟩⟩
variable {gh : Hp → TG} {tch : Hp → TT} {teh : Hp → TE}
def tG (wi:TI) (fr:List (Option Nat)) (gh:Hp->TG) (tch:Hp->TT) (teh:Hp->TE):TE:=fun σ H Q=>wi σ H fun J H1=>∀ D,H1 D=none->
 ∃ W:Nat->Nat->List V->Hp->Prop,(∃ m,W 0 m [] (upd H1 D (.lst [])))/\mS (gh H1) (tch H1) (teh H1) (eR fr σ) J D Q W
theorem oX (hc:X.calm=true) (S:cF X scope N fr) (hi:PI X tg iter wi) (B:∀ (s:Shared) (H:Hp),l9 X scope N tg ifs elt s H (gh H) (tch H) (teh H))
  (hs:∀ x,foldedSetIterable iter X.env x=pure x:=by intro _; rfl):PE X (.ListComp elt [⟨tg,iter,ifs,0⟩] scope pos) (tG wi fr gh tch teh):=by
 intro pins s σ H Q I h
 rw [eval_ListComp]
 refine wpAny_comprehension_free (use:=none) rfl hs (oQ (S.cells I)) S.kind S.names (aK (hi pins s σ H _ I h) fun v s1 h1=>aK h1 fun itv s2 h2=>?_)
 obtain ⟨it,fp,tn,J,H2,e,I2,T,st2,f2,hW⟩:=h2
 subst e
 refine oW (Rr:=fun acc C=>compPost (model X.prog X.w) X.A X.xe none (EP X pins σ Q) acc C) hc S (B _ _) I2 T st2 f2 hW ?_
 intro D C s' H' m hC hD I' hns hHC q
 exact⟨m,hns,fun h' sb=>⟨.ref D,H',I2.drop hC I' hHC sb,rfl,q⟩⟩
theorem yL {i:Nat}{x:Str}{px spos:Pos} (hc:X.calm=true) (S:cF X scope N fr) (hi:PI X tg iter wi) (B:∀ (s:Shared) (H:Hp),l9 X scope N tg ifs elt s H (gh H) (tch H) (teh H)) (hN:X.N.Nodup) (hix:X.N[i]? = some x) (hx:X.env.scope.names.lookup x=some .local)
  (hsw:swapsWith (.ListComp elt [⟨tg,iter,ifs,0⟩] scope pos) (some (.Name x px)) spos.line X.env=pure true) (hs:∀ x,foldedSetIterable iter X.env x=pure x:=by intro _; rfl) :
  PS X (.Assign [.Name x px] (.ListComp elt [⟨tg,iter,ifs,0⟩] scope pos) spos) (mD (tG wi fr gh tch teh) (cJ i)):=by
 intro pins s σ H D I h
 rw [exec_Assign_Name_used _ _ _ _ hsw]
 refine aQ0 (wpAny_standAt (aQ0 ?_))
 show wpAny _ _ (do let _ <- comprehension (.ListComp elt [⟨tg,iter,ifs,0⟩] scope pos) scope X.env _ (newList []) false (eval iter X.env) (some (assign (.Name x px) X.env))) _ _ s
 refine aQ0 (aW0 (wpAny_comprehension_free (Q:=fun _ s'=>SP X pins D .next s') (use:=some (assign (.Name x px) X.env)) rfl hs (oQ (S.cells I)) S.kind S.names (aK (hi pins s σ H _ I h) fun v s1 h1=>aK h1 fun itv s2 h2=>?_))
  (fun _ s' hq=>aQ5 (aQ5 hq)) fun _ _ e=>e)
 obtain ⟨it,fp,tn,J,H2,e,I2,T,st2,f2,hW⟩:=h2
 subst e
 refine oW (Rr:=fun acc C=>compPost (model X.prog X.w) X.A X.xe (some (assign (.Name x px) X.env)) (fun _ s'=>SP X pins D .next s') acc C) hc S (B _ _) I2 T st2 f2 hW ?_
 intro D' C s' H' m hC hD I' hns hHC q
 refine wpAny_assign_Name (rR I' hN hix (.inl hx) (v:=.ref D') rfl (fun s'' I'' sb=>?_) (.inr hx))
 obtain ⟨a,sb,ha⟩:=sb
 have hCa:C ≠ a:=by
  rcases ha with z | z
  ·rw [z]; exact aX9 (aQ9 I2.lt hC)
  ·intro e; subst e
   obtain ⟨v,q⟩:=I2.cell x _ z
   exact absurd (aQ9 q.lt hC) (aU2 _)
 exact⟨m,hns.sameBut sb hCa,fun h' sb'=>⟨_,H',I2.drop hC I'' hHC sb',q⟩⟩
end
theorem b6 {H:Hp}{p:Addr} (h:H p=none) (o:HO):aB H (upd H p o):=fun b u q=>by rw [aJ (bS q h)]; exact q
theorem aB.tup {K:PySem.W.Frag}{H H':Hp}{a:Addr}{xs:List V} (e:aB H H') (h:aF K H a xs):aF K H' a xs:=by
 rcases h with (h | ⟨o,h⟩) | h
 ·exact .inl (.inl (e _ _ h))
 ·exact .inl (.inr ⟨o,e _ _ h⟩)
 ·exact .inr h
structure yM (H:Hp) (J:It) (xs:List V):Prop where
 go:∀ i H',aB H H'->i < xs.length->J.go i H'
 yld:∀ i H' x H2,aB H H'->J.yld i H' x H2->i < xs.length->xs[i]? = some x/\H2=H'
 stop:∀ H',aB H H'->J.stop xs.length H'
theorem yN {K:PySem.W.Frag}{H:Hp}{a:Addr}{xs:List V} (h:aF K H a xs):yM H (j5 K a) xs:=
 ⟨fun i H' e hi=>⟨xs,xs[i],e.tup h,by simp [hi]⟩,fun i H' x H2 e y hi=>⟨y.2 xs (e.tup h),y.1⟩,fun H' e=>⟨xs,e.tup h,aQ6 _⟩⟩
def CW (H1:Hp) (D:Addr) (n:Nat) (Pv:Nat->List V->Hp->Prop):Nat->Nat->List V->Hp->Prop:=fun i m acc H'=>m=n - i/\i<=n/\acc.length<=i/\aB H1 H'/\H' D=some (.lst acc)/\Pv i acc H'
def tH (H1:Hp) (D:Addr) (n:Nat) (Pv:Nat->List V->Hp->Prop) (i:Nat) (acc:List V) (v:V) (H5:Hp):Prop:=H5 D=some (.lst acc)/\acc.length < sizeLine/\∃ m',m' < n - i/\CW H1 D n Pv (i+1) m' (acc ++ [v]) (upd H5 D (.lst (acc ++ [v])))
def yO (H1:Hp) (D:Addr) (n:Nat) (Pv:Nat->List V->Hp->Prop) (i:Nat) (acc:List V) (H4:Hp):Prop:=∃ m',m' < n - i/\CW H1 D n Pv (i+1) m' acc H4
structure oY (H1:Hp) (D:Addr) (n i:Nat) (acc:List V) (H':Hp):Prop where
 lt:i < n
 few:acc.length<=i
 sz:n<=sizeLine
 same:aB H1 H'
 new:H1 D=none
 acc:H' D=some (.lst acc)
theorem oY.yes {H1:Hp}{D:Addr}{n i:Nat}{acc:List V}{H' H5:Hp}{Pv:Nat->List V->Hp->Prop}{v:V} (c:oY H1 D n i acc H') (s:aB H' H5) (p:Pv (i+1) (acc ++ [v]) (upd H5 D (.lst (acc ++ [v])))):tH H1 D n Pv i acc v H5:=by
 refine⟨s _ _ c.acc,Nat.lt_of_le_of_lt c.few (aQ9 c.lt c.sz),_,?_,rfl,c.lt,?_,fun b o e=>?_,aZ,p⟩
 ·have:=c.lt; omega
 ·rw [aQ8,aT3]; exact Nat.succ_le_succ c.few
 ·rw [aJ (bS e c.new)]; exact s _ _ (c.same _ _ e)
theorem yP {H1:Hp}{J:It}{xs:List V}{g:TG}{tc:TT}{te:TE}{σ0:St}{Q:VK} (O:yM H1 J xs) (Pv:Nat->List V->Hp->Prop) (hn:xs.length<=sizeLine)
  (h0:∀ D,H1 D=none->Pv 0 [] (upd H1 D (.lst [])))
  (hs:∀ i x acc D H',xs[i]? = some x->oY H1 D xs.length i acc H'->Pv i acc H'->g x σ0 H' fun σ2 H3=>Wk σ0 σ2/\tc σ2 H3 fun b H4=>
   if b=true then te σ2 H4 fun v H5=>tH H1 D xs.length Pv i acc v H5 else yO H1 D xs.length Pv i acc H4)
  (hd:∀ D acc H',H1 D=none->aB H1 H'->H' D=some (.lst acc)->acc.length<=xs.length->Pv xs.length acc H'->Q (.ref D) H') :
  ∀ D,H1 D=none->∃ W:Nat->Nat->List V->Hp->Prop,(∃ m,W 0 m [] (upd H1 D (.lst [])))/\mS g tc te σ0 J D Q W:=by
 intro D hD
 refine⟨CW H1 D xs.length Pv,⟨xs.length,rfl,aT7 _,aQ6 _,b6 hD _,aZ,h0 D hD⟩,?_⟩
 rintro i m acc H' ⟨rfl,hi,ha,sm,hDa,p⟩
 refine⟨hDa,?_⟩
 by_cases hlt:i < xs.length
 ·refine .inr ⟨O.go i H' sm hlt,fun x H2 y=>?_⟩
  obtain ⟨hx,e⟩:=O.yld i H' x H2 sm y hlt
  subst e
  exact hs i x acc D H2 hx ⟨hlt,ha,hn,sm,hD,hDa⟩ p
 ·have e:i=xs.length:=by omega
  subst e
  exact .inl ⟨O.stop H' sm,hd D acc H' hD sm hDa ha p⟩
end L2
namespace Srt
open PySem PySem.W PyProof.Rows
abbrev G (p:Array Nat) (i:Nat):Nat:=p.getD i 0
theorem mT {p q:Array Nat}{i j:Nat} (h:p[i]? = q[j]?):G p i=G q j:=by
 unfold G; rw [aZ2,aZ2,h]
theorem tI {p:Array Nat}{i j:Nat} (hj:j<=p.size) (k:Nat):G (kas_rev p i j) k=if i<=k/\k < j then G p (i+j - 1 - k) else G p k:=by
 have e:=getElem?_mirror_all (i:=i) hj k
 unfold kas_rev
 by_cases h1:i<=k/\k < j
 ·rw [if_pos h1] at e ⊢; exact mT e
 ·rw [if_neg h1] at e ⊢; exact mT e
theorem ag9 {p:Array Nat}{src d:Nat} (hs:src < p.size) (hd:d<=src) (k:Nat):G (bubble p src d) k=if k=src - d then G p src else if src - d < k/\k<=src then G p (k - 1) else G p k:=by
 have e:=getElem?_bubble hs d hd k
 by_cases h1:k=src - d
 ·rw [if_pos h1] at e ⊢; exact mT e
 ·rw [if_neg h1] at e ⊢
  by_cases h2:src - d < k/\k<=src
  ·rw [if_pos h2] at e ⊢; exact mT e
  ·rw [if_neg h2] at e ⊢; exact mT e
def PP (n:Nat) (p:Array Nat):Prop:=p.toList.Perm (List.range n)
theorem PP.size {n:Nat}{p:Array Nat} (h:PP n p):p.size=n:=by
 have:=h.length_eq
 rw [aZ5] at this
 simpa using this
theorem PP.lt {n:Nat}{p:Array Nat} (h:PP n p) {k:Nat} (hk:k < n):G p k < n:=by
 have hs:=h.size
 have hk':k < p.toList.length:=by simpa [hs] using hk
 have e:G p k=p.toList[k]:=by
  unfold G; rw [aZ2]; simp [hs,hk]
 have m:p.toList[k] ∈ p.toList:=List.getElem_mem hk'
 rw [e]
 exact bc1.mp (h.mem_iff.mp m)
theorem PP.of {n:Nat}{p q:Array Nat} (h:PP n p) (e:q.Perm p):PP n q:=(Array.perm_iff_toList_perm.mp e).trans h
theorem PP.rev {n:Nat}{p:Array Nat} (h:PP n p) (i j:Nat):PP n (kas_rev p i j):=h.of (mirror_perm _ _ _ _)
theorem PP.bub {n:Nat}{p:Array Nat} (h:PP n p) (i j:Nat):PP n (bubble p i j):=h.of (bubble_perm _ _ _)
structure tJ (c:Nat->Nat->Bool):Prop where
 asym:∀ {i j},c i j=true->c j i=false
 ntr:∀ {i j k},c i j=false->c j k=false->c i k=false
section
variable {c : Nat → Nat → Bool} (O : tJ c)
def Le (c:Nat->Nat->Bool) (i j:Nat):Prop:=c j i=false
include O
theorem le_refl (i:Nat):Le c i i:=by
 unfold Le
 cases h:c i i with
 | false=>rfl
 | true=>have:=O.asym h; rw [h] at this; exact this
theorem le_trans {i j k:Nat} (h1:Le c i j) (h2:Le c j k):Le c i k:=O.ntr h2 h1
theorem oZ {i j:Nat} (h:c i j=true):Le c i j:=O.asym h
omit O
def eS (c:Nat->Nat->Bool) (p:Array Nat) (n:Nat):Prop:=∀ a b,a<=b->b < n->Le c (G p a) (G p b)
def jC (c:Nat->Nat->Bool) (p:Array Nat) (n:Nat):Prop:=∀ a b,a<=b->b < n->Le c (G p b) (G p a)
include O
theorem ah0 {p:Array Nat}{n:Nat} (h:eS c p n) (h1:1<=n) (hl:Le c (G p (n - 1)) (G p n)):eS c p (n+1):=fun a b hab hb=>by
 by_cases hbn:b < n
 ·exact h a b hab hbn
 ·have e:b=n:=by omega
  subst e
  by_cases han:a=b
  ·subst han; exact le_refl O _
  ·exact le_trans O (h a (b - 1) (by omega) (by omega)) hl
theorem p4 {p:Array Nat}{n:Nat} (h:jC c p n) (h1:1<=n) (hl:Le c (G p n) (G p (n - 1))):jC c p (n+1):=fun a b hab hb=>by
 by_cases hbn:b < n
 ·exact h a b hab hbn
 ·have e:b=n:=by omega
  subst e
  by_cases han:a=b
  ·subst han; exact le_refl O _
  ·exact le_trans O hl (h a (b - 1) (by omega) (by omega))
omit O
def bU {α:Type} (n:Nat) (c:Nat->Nat->Bool) (R:α->Prop):KasT α->Prop
 | .ret a=>R a
 | .ask i j k=>i < n/\j < n/\bU n c R (k (c i j))
theorem bU.mono {α:Type}{n:Nat}{R R':α->Prop} (h:∀ a,R a->R' a):∀ (t:KasT α),bU n c R t->bU n c R' t
 | .ret a,q=>h a q
 | .ask i j k,q=>⟨q.1,q.2.1,bU.mono h (k (c i j)) q.2.2⟩
theorem bU.bind {α β:Type}{n:Nat}{R:α->Prop}{R':β->Prop}{f:α->KasT β} (h:∀ a,R a->bU n c R' (f a)):∀ (t:KasT α),bU n c R t->bU n c R' (t.bind f)
 | .ret a,q=>h a q
 | .ask i j k,q=>⟨q.1,q.2.1,bU.bind h (k (c i j)) q.2.2⟩
theorem bU.run {α:Type}{n:Nat}{R:α->Prop}{I:Shared->Prop}{cmp:Nat->Nat->(Bool->Shared->Prop)->Shared->Prop}{Q:α->Shared->Prop}
  (hc:∀ i j C s,i < n->j < n->I s->(∀ s',I s'->C (c i j) s')->cmp i j C s) (hQ:∀ a s,R a->I s->Q a s):∀ (t:KasT α) (s:Shared),I s->bU n c R t->t.kasWp cmp Q s
 | .ret a,s,hI,q=>hQ a s q hI
 | .ask i j k,s,hI,q=>hc i j _ s q.1 q.2.1 hI fun s' hI'=>bU.run hc hQ (k (c i j)) s' hI' q.2.2
include O
theorem tK {n:Nat}{p:Array Nat} (hp:PP n p):∀ (f m:Nat),1<=m->m+f<=n->eS c p m->bU n c (fun r=>m<=r/\r<=m+f/\eS c p r/\(r < m+f->c (G p r) (G p (r - 1))=true)) (kas_asc p f m)
 | 0,m,_,_,h=>⟨aQ6 _,aQ6 _,h,fun z=>absurd z (aU2 _)⟩
 | f+1,m,h1,h2,h=>by
  refine⟨hp.lt (by omega),hp.lt (by omega),?_⟩
  by_cases hc:c (p.getD m 0) (p.getD (m - 1) 0)=true
  ·simp only [hc,if_true]
   exact⟨aQ6 _,by omega,h,fun _=>hc⟩
  ·have hc':c (p.getD m 0) (p.getD (m - 1) 0)=false:=aZ4.mpr hc
   simp only [hc',aS4,aX0]
   refine bU.mono (fun r q=>⟨by omega,by omega,q.2.2.1,fun z=>q.2.2.2 (by omega)⟩) _ (tK hp f (m+1) (by omega) (by omega) (ah0 O h h1 hc'))
omit O
def kF (c:Nat->Nat->Bool) (i j:Nat):Prop:=Le c i j/\Le c j i
include O
theorem tL {p q:Array Nat}{n:Nat} (h:jC c p n) (e:∀ k,k < n->kF c (G q k) (G p k)):jC c q n:=fun a b hab hb=>
 le_trans O (e b hb).1 (le_trans O (h a b hab hb) (e a (by omega)).2)
theorem yQ {n m i:Nat}{p:Array Nat} (hp:PP n p) (hm:m<=n) (h:∀ a,i<=a->a < m->kF c (G p a) (G p (m - 1))):∀ k,kF c (G (kas_rev p i m) k) (G p k):=fun k=>by
 rw [tI (by rw [hp.size]; exact hm)]
 by_cases hk:i<=k/\k < m
 ·rw [if_pos hk]
  have h1:=h (i+m - 1 - k) (by omega) (by omega)
  have h2:=h k hk.1 hk.2
  exact⟨le_trans O h1.1 h2.2,le_trans O h2.1 h1.2⟩
 ·rw [if_neg hk]; exact⟨le_refl O _,le_refl O _⟩
omit O
def DI (c:Nat->Nat->Bool) (n:Nat) (p:Array Nat) (m q:Nat):Prop:=PP n p/\1<=m/\m<=n/\jC c p m/\q+1<=m/\∀ a,m - (q+1)<=a->a < m->kF c (G p a) (G p (m - 1))
include O
theorem yR {n m q:Nat}{p:Array Nat} (h:DI c n p m q):PP n (kas_rev p (m - (q+1)) m)/\∀ k,kF c (G (kas_rev p (m - (q+1)) m) k) (G p k):=
 ⟨h.1.rev _ _,yQ O h.1 h.2.2.1 h.2.2.2.2.2⟩
theorem p5 {n:Nat}:∀ (f:Nat) (p:Array Nat) (m q:Nat),m+f<=n->DI c n p m q->bU n c (fun r=>DI c n r.1 r.2.1 r.2.2) (kas_desc f p m q)
 | 0,p,m,q,_,h=>h
 | f+1,p,m,q,hf,h=>by
  have hp:=h.1
  have h1:=h.2.1
  refine⟨hp.lt (by omega),hp.lt (by omega),?_⟩
  by_cases hc:c (p.getD m 0) (p.getD (m - 1) 0)=true
  ·simp only [hc,if_true]
   have dn:jC c p (m+1):=p4 O h.2.2.2.1 h1 (oZ O hc)
   by_cases hq:q > 0
   ·simp only [hq,if_true]
    obtain ⟨pr,er⟩:=yR O h
    refine p5 f _ (m+1) 0 (by omega) ⟨pr,by omega,by omega,tL O dn fun k _=>er k,by omega,fun a h1 h2=>?_⟩
    have e:a=m+1 - 1:=by omega
    rw [e]; exact⟨le_refl O _,le_refl O _⟩
   ·simp only [hq,aX0]
    refine p5 f p (m+1) 0 (by omega) ⟨hp,by omega,by omega,dn,by omega,fun a h1 h2=>?_⟩
    have e:a=m+1 - 1:=by omega
    rw [e]; exact⟨le_refl O _,le_refl O _⟩
  ·have hc':c (p.getD m 0) (p.getD (m - 1) 0)=false:=aZ4.mpr hc
   simp only [hc',aS4,aX0]
   refine⟨hp.lt (by omega),hp.lt (by omega),?_⟩
   by_cases hd:c (p.getD (m - 1) 0) (p.getD m 0)=true
   ·simp only [hd,if_true]
    exact h
   ·have hd':c (p.getD (m - 1) 0) (p.getD m 0)=false:=aZ4.mpr hd
    simp only [hd',aS4,aX0]
    have ee:kF c (G p (m - 1)) (G p m):=⟨hc',hd'⟩
    refine p5 f p (m+1) (q+1) (by omega) ⟨hp,by omega,by omega,p4 O h.2.2.2.1 h1 ee.2,by have:=h.2.2.2.2.1; omega,fun a h1 h2=>?_⟩
    rw [Nat.add_sub_cancel]
    by_cases ha:a=m
    ·rw [ha]; exact⟨le_refl O _,le_refl O _⟩
    ·have z:=h.2.2.2.2.2 a (by omega) (by omega)
     exact⟨le_trans O z.1 ee.1,le_trans O ee.2 z.2⟩
omit O
def CI (c:Nat->Nat->Bool) (n:Nat) (r:Nat × Array Nat):Prop:=PP n r.2/\1<=r.1/\r.1<=n/\eS c r.2 r.1
include O
theorem yS {n m:Nat}{p:Array Nat} (hp:PP n p) (h1:1<=m) (hm:m<=n) (h:jC c p m):bU n c (CI c n) (kas_tail3 m n p):=by
 have ha:eS c (kas_rev p 0 m) m:=fun a b hab hb=>by
  rw [tI (by rw [hp.size]; exact hm),tI (by rw [hp.size]; exact hm),if_pos ⟨aT7 _,by omega⟩,if_pos ⟨aT7 _,hb⟩]
  exact h _ _ (by omega) (by omega)
 refine bU.bind (R:=fun r=>m<=r/\r<=m+(n - m)/\eS c (kas_rev p 0 m) r/\_) (fun r q=>?_) _ (tK O (hp.rev 0 m) (n - m) m h1 (by omega) ha)
 exact⟨hp.rev _ _,by have:=q.1; omega,by have:=q.2.1; omega,q.2.2.1⟩
theorem yT {n m:Nat}{p:Array Nat} (hp:PP n p) (h1:1<=m) (hm:m+1<=n) (h:jC c p (m+1)):bU n c (CI c n) (kas_descPart m n p):=by
 refine bU.bind (R:=fun r=>DI c n r.1 r.2.1 r.2.2) (fun r q=>?_) _ (p5 O (n - (m+1)) p (m+1) 0 (by omega) ⟨hp,by omega,hm,h,by omega,fun a h1 h2=>?_⟩)
 ·by_cases hq:r.2.2 > 0
  ·rw [if_pos hq]
   obtain ⟨pr,er⟩:=yR O q
   exact yS O pr q.2.1 q.2.2.1 (tL O q.2.2.2.1 fun k _=>er k)
  ·rw [if_neg hq]
   exact yS O q.1 q.2.1 q.2.2.1 q.2.2.2.1
 ·have e:a=m+1 - 1:=by omega
  rw [e]; exact⟨le_refl O _,le_refl O _⟩
theorem ah1 {n:Nat}{p:Array Nat} (hp:PP n p) (hn:1<=n):bU n c (CI c n) (kas_count n p):=by
 have a1:eS c p 1:=fun a b hab hb=>by
  have e1:a=0:=by omega
  have e2:b=0:=by omega
  rw [e1,e2]; exact le_refl O _
 refine bU.bind (R:=fun r=>1<=r/\r<=1+(n - 1)/\eS c p r/\(r < 1+(n - 1)->c (G p r) (G p (r - 1))=true)) (fun m q=>?_) _ (tK O hp (n - 1) 1 (aQ6 _) (by omega) a1)
 obtain ⟨q1,q2,q3,q4⟩:=q
 by_cases hm:(m == n)=true
 ·rw [if_pos hm]
  exact⟨hp,q1,by omega,q3⟩
 ·rw [if_neg hm]
  have hne:m ≠ n:=by simpa using hm
  have hc:=q4 (by omega)
  by_cases h1:m > 1
  ·rw [if_pos h1]
   refine⟨hp.lt (by omega),hp.lt (by omega),?_⟩
   by_cases hd:c (p.getD 0 0) (p.getD (m - 1) 0)=true
   ·simp only [hd,if_true]
    exact⟨hp,q1,by omega,q3⟩
   ·have hd':c (p.getD 0 0) (p.getD (m - 1) 0)=false:=aZ4.mpr hd
    simp only [hd',aS4,aX0]
    have eq:∀ a,0<=a->a < m->kF c (G p a) (G p (m - 1)):=fun a _ ha=>⟨q3 a (m - 1) (by omega) (by omega),le_trans O hd' (q3 0 a (aT7 _) ha)⟩
    have er:=yQ O hp (by omega:m<=n) eq
    refine yT O (hp.rev 0 m) q1 (by omega) (tL O (p:=p) ?_ fun k _=>er k)
    refine p4 O (fun a b hab hb=>?_) q1 (oZ O hc)
    exact le_trans O (eq b (aT7 _) hb).1 (eq a (aT7 _) (by omega)).2
  ·rw [if_neg h1]
   have e:m=1:=by omega
   subst e
   refine yT O hp (aQ6 _) (by omega) (p4 O (fun a b hab hb=>?_) (aQ6 _) (oZ O hc))
   have e1:a=0:=by omega
   have e2:b=0:=by omega
   rw [e1,e2]; exact le_refl O _
theorem tM {n k:Nat}{p:Array Nat} (hp:PP n p) (hk:k < n) (ha:eS c p k):∀ (f l r:Nat),l<=r->r<=k->r - l<=f->(∀ a,a < l->Le c (G p a) (G p k))->(∀ a,r<=a->a < k->Le c (G p k) (G p a))->
  bU n c (fun l=>l<=k/\(∀ a,a < l->Le c (G p a) (G p k))/\∀ a,l<=a->a < k->Le c (G p k) (G p a)) (kas_place p k f l r)
 | 0,l,r,h1,h2,h3,hl,hr=>⟨by omega,hl,fun a h4 h5=>hr a (by omega) h5⟩
 | f+1,l,r,h1,h2,h3,hl,hr=>by
  unfold kas_place
  by_cases hlr:l >= r
  ·rw [if_pos hlr]
   exact⟨by omega,hl,fun a h4 h5=>hr a (by omega) h5⟩
  ·rw [if_neg hlr]
   refine⟨hp.lt hk,hp.lt (by omega),?_⟩
   by_cases hc:c (p.getD k 0) (p.getD ((l+r) / 2) 0)=true
   ·simp only [hc,if_true]
    exact tM hp hk ha f l ((l+r) / 2) (by omega) (by omega) (by omega) hl fun a h4 h5=>le_trans O (oZ O hc) (ha _ _ h4 h5)
   ·have hc':c (p.getD k 0) (p.getD ((l+r) / 2) 0)=false:=aZ4.mpr hc
    simp only [hc',aS4,aX0]
    exact tM hp hk ha f ((l+r) / 2+1) r (by omega) h2 (by omega) (fun a h4=>le_trans O (ha a ((l+r) / 2) (by omega) (by omega)) hc') hr
theorem yU {n:Nat}:∀ (f:Nat) (p:Array Nat) (k:Nat),PP n p->k+f<=n->eS c p k->bU n c (fun q=>PP n q/\eS c q (k+f)) (kas_bin f p k)
 | 0,p,k,hp,_,h=>⟨hp,h⟩
 | f+1,p,k,hp,hk,h=>by
  refine bU.bind (R:=fun l=>l<=k/\(∀ a,a < l->Le c (G p a) (G p k))/\∀ a,l<=a->a < k->Le c (G p k) (G p a)) (fun l q=>?_) _ (tM O hp (by omega) h k 0 k (aT7 _) (aQ6 _) (by omega) (fun a z=>absurd z (Nat.not_lt_zero _)) fun a h1 h2=>absurd h2 (by omega))
  obtain ⟨q1,q2,q3⟩:=q
  have e:∀ a,G (bubble p k (k - l)) a=if a=l then G p k else if l < a/\a<=k then G p (a - 1) else G p a:=fun a=>by
   rw [ag9 (by rw [hp.size]; omega) (by omega),show k - (k - l)=l by omega]
  refine bU.mono (fun r z=>⟨z.1,by rw [show k+(f+1)=k+1+f by omega]; exact z.2⟩) _ (yU f _ (k+1) (hp.bub _ _) (by omega) fun a b hab hb=>?_)
  rw [e,e]
  by_cases ha:a=l
  ·rw [if_pos ha]
   by_cases hb':b=l
   ·rw [if_pos hb']; exact le_refl O _
   ·rw [if_neg hb',if_pos (by omega)]; exact q3 _ (by omega) (by omega)
  ·rw [if_neg ha]
   by_cases ha2:l < a/\a<=k
   ·rw [if_pos ha2,if_neg (by omega),if_pos (by omega)]
    exact h _ _ (by omega) (by omega)
   ·rw [if_neg ha2]
    by_cases hb':b=l
    ·rw [if_pos hb']; exact q2 a (by omega)
    ·rw [if_neg hb']
     by_cases hb2:l < b/\b<=k
     ·rw [if_pos hb2]; exact h _ _ (by omega) (by omega)
     ·rw [if_neg hb2]; exact h _ _ hab (by omega)
theorem ah2 {n:Nat} (hn:1<=n):bU n c (fun q=>PP n q/\eS c q n) (kas_sort n):=by
 have hp:PP n (List.toArray (List.range n)):=by unfold PP; simp
 refine bU.bind (R:=CI c n) (fun r q=>?_) _ (ah1 O hp hn)
 obtain ⟨q1,q2,q3,q4⟩:=q
 by_cases h:r.1 < n
 ·rw [if_pos h]
  have e:max r.1 1=r.1:=by omega
  rw [e]
  exact bU.mono (fun p z=>⟨z.1,by rw [show r.1+(n - r.1)=n by omega] at z; exact z.2⟩) _ (yU O (n - r.1) r.2 r.1 q1 (by omega) q4)
 ·rw [if_neg h]
  have e:r.1=n:=by omega
  exact⟨q1,by rw [e] at q4; exact q4⟩
end
end Srt
namespace L2
open PySem PySem.Spec PyProof.Rows
theorem bY.there {P:Program}{w:World}{H:Hp}{h:Heap}{a:Addr}{o:HO} (x:bY P w H h a o):∃ u,h.get? a=some u:=by
 cases o with
 | lst xs=>obtain ⟨_,_,_,_,e⟩:=x; exact⟨_,e⟩
 | tup xs=>obtain ⟨_,_,_,⟨o,e,_⟩,_⟩:=x; exact⟨_,e⟩
 | dK kvs=>obtain ⟨_,_,_,_,o,_,_,e,_⟩:=x; exact⟨_,e⟩
 | dT kvs=>obtain ⟨_,_,_,_,o,_,_,e,_⟩:=x; exact⟨_,e⟩
 | set S n=>obtain ⟨o,_,_,_,e,_⟩:=x; exact⟨_,e⟩
 | ins C dx fs=>obtain ⟨_,_,_,e,_⟩:=x; exact⟨_,e⟩
 | own y=>exact x
 | xd fs=>obtain ⟨_,⟨_,_,_,e,_⟩,_⟩:=x; exact⟨_,e⟩
 | rng lo hi=>obtain ⟨_,_,_,e⟩:=x; exact⟨_,e⟩
 | frz ob u=>obtain ⟨e,_⟩:=x; exact⟨_,e⟩
 | tbl ps=>exact⟨_,(show h.get? a=some _ from x)⟩
 | met f y=>exact⟨_,(show h.get? a=some _ from x)⟩
 | ext φ=>obtain ⟨_,z,_⟩:=x; exact z
section
variable {X : Cx} {pins : List (Addr × Obj)} {σ : St} {H : Hp} {s : Shared} {h' : Heap} {a : Addr} {o : HO} {t' : Nat}
theorem a7.laidF (I:a7 X pins σ H s) (hn:s.heap.get? a=none) (k:∀ b u,b ≠ X.env.locals->s.heap.get? b=some u->h'.get? b=some u) (ns:∀ m,s.heap.Ns X.env.locals m->h'.Ns X.env.locals m)
  (new:bY X.prog X.w (upd H a o) h' a o):H a=none/\a7 X pins σ (upd H a o) { s with heap:=h',toks:=t' }:=by
 have hHn:H a=none:=by
  cases q:H a with
  | none=>rfl
  | some u=>obtain ⟨z,e⟩:=(I.hok a u q).there; rw [hn] at e; cases e
 have ne:∀ b u,s.heap.get? b=some u->b ≠ a:=fun b u e z=>by rw [z,hn] at e; cases e
 have hL:=I.free
 refine⟨hHn,I.step (g':=s.gens) (d':=s.drawn) (ch:=[]) (fun _ z=>nomatch z) (fun b o' h1 _ _ e _=>k b o' h1 e) (fun b o' h1 _ _ e _=>⟨o'.slots,k b o' h1 e⟩) (fun b o' _ e n=>by rw [aJ (ne b o' e)]; exact n) (fun b o' _ e=>?_)
  (fun b xs q=>by rw [aJ (bS q hHn)]; exact q) (fun b u xs q=>by rw [aJ (bS q hHn)]; exact q) (fun b ps q=>⟨#[],by rw [aJ (bS q hHn),q]; simp⟩) ns (fun b u q=>?_) I.bare⟩
 ·by_cases hb:b=X.env.locals
  ·obtain ⟨m,hm,_⟩:=I.loc
   obtain ⟨o2,_,_,e2,_⟩:=ns m hm
   exact⟨o2,by rw [hb]; exact e2⟩
  ·exact⟨o',k b o' hb e⟩
 ·by_cases hb:b=a
  ·subst hb; rw [aZ] at q; cases q; exact new
  ·rw [aJ hb] at q
   refine (I.hok b u q).stay (fun c v hc e=>k c v ?_ e) (fun c e=>by rw [aJ (bS e hHn)]; exact e) fun c xs e=>by rw [aJ (bS e hHn)]; exact e
   rcases hc with z | z
   ·rw [z]; intro y; rw [y,hL] at q; cases q
   ·intro y; rw [y,hL] at z; cases z
theorem a7.newsAll (I:a7 X pins σ H s) {news:List (Addr × Obj)}{m:Str->Option Value} (hs:∀ p ∈ mB X.base s.heap X.env.locals,p ∈ news) (F:Fr X.base X.env.locals h' m) (N:News X.base X.env.locals h' news) :
  ∀ b o,b ≠ X.env.locals->s.heap.get? b=some o->h'.get? b=some o:=fun b o h1 e=>by
 cases q:X.base.get? b with
 | some u=>
  have:=I.bk b u q
  rw [e] at this; cases this
  exact F.keep b _ q
 | none=>exact (N (b,o) (hs _ (w9 h1 q e))).1
end
theorem ah3 {α:Type}{d:α} (l:List α) {p:List Nat} (h:p.Perm (List.range l.length)):(p.map fun i=>l.getD i d).Perm l:=by
 have e:(List.range l.length).map (fun i=>l.getD i d)=l:=by
  apply List.ext_getElem
  ·simp
  ·intro i h1 h2
   simp at h1
   simp [h1]
 have:=h.map fun i=>l.getD i d
 rw [e] at this
 exact this
theorem tN:∀ {xs:List V}{us:List Value} (i:Nat),i < xs.length->aR xs us->aT (xs.getD i .non) (us.getD i Value.none)
 | _,_,_,h,.nil=>by simp at h
 | _,_,0,_,.cons r _=>by simpa using r
 | _,_,i+1,h,.cons _ t=>by
  have:=tN i (by simpa using h) t
  simpa using this
theorem yV {xs:List V}{us:List Value} (r:aR xs us):∀ {p:List Nat},(∀ i ∈ p,i < xs.length)->aR (p.map fun i=>xs.getD i .non) (p.map fun i=>us.getD i Value.none)
 | [],_=>.nil
 | i :: p,h=>.cons (tN i (h i aR2) r) (yV r fun j hj=>h j (aR1 _ hj))
theorem tO {α:Type}:∀ l:List α,(l.zip l).map (·.2)=l
 | []=>rfl
 | a :: l=>by
  show a :: ((l.zip l).map (·.2))=a :: l
  rw [tO l]
theorem ah4 {prog:Program}{w:World}{A:Around}{E:Value->Shared->Prop}{s:Shared}{a:Addr}{vs:List Value}{n:Nat}{P:PySem.Fin->Shared->Prop} (e:s.heap.get? a=some (seqObj "list" vs.toArray n)) (few:vs.length < 2)
  (q:P (.done (.ret .none)) { s with heap:=sortedHeap s.heap a vs vs.toArray }):wpAny (model prog w) A (Builtin.«list.sort» ⟨[.ref a],[]⟩) P E s:=by
 have big:vs.length<=sizeLine:=aU0 (aX4 few) (by decide)
 have la:=aR0 e
 have c:vs.toArray.size < 2:=by simpa using few
 have same:(arrOf (SortSt.mk' general' (vs.toArray.zip vs.toArray) #[] 7 none)).map (·.2)=vs.toArray:=by
  change (vs.toArray.zip vs.toArray).map (·.2)=vs.toArray
  apply Array.ext'
  simpa using tO vs
 obtain ⟨k,ek⟩:∃ k,(s.heap.update a (Obj.mapSeq fun _=>#[])).get? a=some (seqObj "list" #[] k):=⟨_,get?_update_seq e fun _=>#[]⟩
 have there:(((s.heap.update a (Obj.mapSeq fun _=>#[])).push (seqObj "tuple" vs.toArray 0)).push (seqObj "list" #[] 0)).get? a=some (seqObj "list" #[] k):=
  aQ1 _ (aQ1 _ ek)
 rw [list_sort_plain]
 apply aQ0
 apply listItems_at e rfl
 apply aQ0
 refine listUpdate_at e rfl ?_ (by simpa using big) (aT7 _)
 apply aQ0
 apply seqEpoch_at ek rfl
 apply aQ0
 refine wpAny_newTuple ?_ big
 apply aQ0
 refine wpAny_newList ?_ (aT7 _)
 apply bb9
 simp only [c,if_true,StateT.run_pure]
 apply aQ0
 apply aQ5
 apply aQ0
 apply aQ5
 apply aQ0
 apply seqEpoch_at there rfl
 apply aQ0
 refine listUpdate_at there rfl ?_ (aT7 _) (by rw [same,aR3]; exact Nat.le_succ_of_le big)
 rw [same]
 simp only [bne_self_eq_false,aS4,aX0]
 exact aQ5 q
theorem ah5 {prog:Program}{w:World}{A:Around}{E:Value->Shared->Prop}{s:Shared}{l:Addr}{vs:List Value}{Q:Value->Shared->Prop} (hl:s.heap.IsList l vs.toArray) (few:vs.length < 2)
  (q:Q (.ref (s.heap.objs.size+1)) { s with heap:=sortedAll s.heap vs vs.toArray }):wpAny (model prog w) A (call (.builtin "sorted") [.ref l]) Q E s:=by
 have big:vs.length<=sizeLine:=aU0 (aX4 few) (by decide)
 apply Calls.call_function_entry kind_sorted plain_sorted entry_sorted (args_sorted1 _)
 simp only [Builtin.«sorted»]
 apply aQ0 (m:=checkCount "sorted" 1 1 _)
 apply aQ5
 apply aQ0
 refine collect_list hl ?_ big
 apply aQ0
 refine wpAny_newList ?_ big
 have one:((s.heap.push (seqObj "list" #[] 0)).update s.heap.objs.size (Obj.mapSeq (· ++ vs.toArray))).objs.size=s.heap.objs.size+1:=(Heap.size_update _ _ _).trans (size_push' _ _)
 have at1:(((s.heap.push (seqObj "list" #[] 0)).update s.heap.objs.size (Obj.mapSeq (· ++ vs.toArray))).push (seqObj "list" vs.toArray 0)).get? (s.heap.objs.size+1)=some (seqObj "list" vs.toArray 0):=one ▸ aR5 _ rfl
 change wpAny _ _ _ _ _ { s with heap:=((s.heap.push (seqObj "list" #[] 0)).update s.heap.objs.size (Obj.mapSeq (· ++ vs.toArray))).push (seqObj "list" vs.toArray 0) }
 rw [one]
 apply aQ0
 apply bb9
 refine aX3 slot_list_sort ⟨_,at1,rfl⟩ entry_list_sort ?_ (args_list_sort _)
 refine ah4 at1 few ⟨_,rfl,?_⟩
 exact aQ5 ⟨_,rfl,q⟩
def yW (K:PySem.W.Frag):List V->Hp->VK->Prop:=fun xs H Q=>∃ a ns,xs = [.ref a]/\aH K H a (ns.map V.int)/\ns.length < 64/\∀ l (ms:List Int),H l=none->ms.Perm ns->ms.Pairwise (· <= ·)->Q (.ref l) (upd H l (.lst (ms.map V.int)))
theorem ah6 {X:Cx}:cS X (.builtin "sorted") (yW X.K):=by
 intro pins s σ H xs us Q I r h
 obtain ⟨a,ns,rfl,hs,h64,q⟩:=h
 obtain ⟨u,rfl,ru⟩:=eI r
 cases ru
 obtain ⟨its,rv,p,hz⟩:=I.list hs
 have hl:=rv.length
 rw [aQ3] at hl
 refine sorted_ints p.isList (mM rv) (by omega) fun out ns' a1 a2 a3=>?_
 obtain ⟨e,he⟩:=sortedAll_at s.heap its out
 have hn:s.heap.objs.size<=s.heap.objs.size+1:=Nat.le_succ _
 have hlen:ns'.length=ns.length:=a2.length_eq
 refine⟨.ref (s.heap.objs.size+1),upd H (s.heap.objs.size+1) (.lst (ns'.map V.int)),I.laid (t':=s.toks) (fun _ _=>sortedAll_old) hn ⟨?_,out.toList,e,t5 a1,by simpa using he⟩,rfl,q _ ns' (I.hok.fresh hn) a2 a3⟩
 rw [aQ3,hlen]
 exact aX4 (oP (by omega))
theorem yX:∀ {a b:List Int},HT.eO a b=true->HT.eO b a=false
 | [],[],h=>by cases h
 | [],_ :: _,_=>rfl
 | _ :: _,[],h=>by cases h
 | x :: xs,y :: ys,h=>by
  rw [HT.mL] at h ⊢
  by_cases e:x=y
  ·rw [if_pos e] at h; rw [if_pos e.symm]; exact yX h
  ·rw [if_neg e] at h; rw [if_neg (Ne.symm e)]
   have:=of_decide_eq_true h
   exact aR4 (by omega)
theorem yY:∀ {a b c:List Int},HT.eO a b=false->HT.eO b c=false->HT.eO a c=false
 | [],[],c,_,h=>h
 | [],_ :: _,_,h,_=>by cases h
 | _ :: _,[],[],_,_=>rfl
 | _ :: _,[],_ :: _,_,h=>by cases h
 | _ :: _,_ :: _,[],_,_=>rfl
 | x :: xs,y :: ys,z :: zs,h1,h2=>by
  rw [HT.mL] at h1 h2 ⊢
  by_cases e1:x=y
  ·rw [if_pos e1] at h1
   by_cases e2:y=z
   ·rw [if_pos e2] at h2; rw [if_pos (e1.trans e2)]; exact yY h1 h2
   ·rw [if_neg e2] at h2; rw [if_neg (by rw [e1]; exact e2)]; rw [e1]; exact h2
  ·rw [if_neg e1] at h1
   have k1:=bb0 h1
   by_cases e2:y=z
   ·rw [<- e2,if_neg e1]; exact h1
   ·rw [if_neg e2] at h2
    have k2:=bb0 h2
    rw [if_neg (by omega)]
    exact aR4 (by omega)
def yZ (H:Hp):V->List Int
 | .ref b=>match H b with
  | some (.tup xs)=>xs.map fun x=>match x with
   | .int i=>i
   | _=>0
  | _=>[]
 | _=>[]
section
variable {prog : Program} {w : World} {A : Around} {s : Shared} {Q : Bool → Shared → Prop}
theorem zA:∀ {us ws:List Value}{xs ys:List Int} (i:Nat),IntsAre us xs->IntsAre ws ys->Q (HT.eO xs ys) s->PySem.W.KatLex prog w A true (decide (us.length < ws.length)) Q (us.zip ws) i s
 | _,_,_,_,_,.nil,.nil,h=>h
 | _,_,_,_,_,.nil,.cons _ _ _,h=>h
 | _,_,_,_,_,.cons _ _ _,.nil,h=>h
 | _,_,_,_,i,.cons (vs:=us) x t hx,.cons (vs:=ws) y u hy,h=>by
  refine PySem.W.kat_cons (wpAny_eqBool_int ?_)
  rw [HT.mL] at h
  by_cases e:x=y
  ·rw [if_pos e] at h
   have eb:(x == y)=true:=by simpa using e
   rw [eb]
   refine PySem.W.kat_yes ?_
   have e2:decide ((Value.int x t :: us).length < (Value.int y u :: ws).length)=decide (us.length < ws.length):=by simp
   rw [e2]
   exact zA (i+1) hx hy h
  ·rw [if_neg e] at h
   have eb:(x == y)=false:=by simpa using e
   rw [eb]
   refine PySem.W.kat_no ?_
   cases hi:(true && i == 0) with
   | true=>exact PySem.W.kat_lt_int h
   | false=>exact PySem.W.kat_one _ _ (lt_int h)
end
def zB (K:PySem.W.Frag):List V->Hp->VK->Prop:=fun xs H Q=>∃ (a:Addr) (ys:List V) (key:V->List Int),xs = [.ref a]/\aH K H a ys/\ys.length < 64/\(∀ y ∈ ys,∃ b,y = .ref b/\aF K H b ((key y).map V.int)/\key y ≠ [])/\
 ∀ l (zs:List V),H l=none->zs.Perm ys->zs.Pairwise (fun u v=>HT.eO (key v) (key u)=false)->Q (.ref l) (upd H l (.lst zs))
theorem ah7 {c:Nat->Nat->Bool}{R:V->V->Prop}{ys:List V}{p:Array Nat}{n:Nat} (hp:Srt.PP n p) (ha:Srt.eS c p n) (hR:∀ i j,Srt.Le c i j->R (ys.getD i .non) (ys.getD j .non)) :
  (p.toList.map fun i=>ys.getD i .non).Pairwise R:=by
 rw [bb7,aY1]
 intro i j hi hj hij
 have hs:=hp.size
 have h1:i < n:=by rw [<- hs]; simpa using hi
 have h2:j < n:=by rw [<- hs]; simpa using hj
 have q:=ha i j (aX4 hij) h2
 have e:∀ k (hk:k < p.toList.length),Srt.G p k=p.toList[k]:=fun k hk=>by
  have hk':k < p.size:=by simpa using hk
  unfold Srt.G; rw [aZ2]; simp [hk']
 rw [e i hi,e j hj] at q
 exact hR _ _ q
theorem ah8 {X:Cx}:cS X (.builtin "sorted") (zB X.K):=by
 intro pins s σ H xs us Q I r h
 obtain ⟨a,ys,key,rfl,hs,h64,hk,q⟩:=h
 obtain ⟨u,rfl,ru⟩:=eI r
 cases ru
 obtain ⟨its,rv,p,hz⟩:=I.list hs
 have hl:=rv.length
 by_cases h2:its.length < 2
 ·
  refine ah5 p.isList h2 ?_
  obtain ⟨e,he⟩:=sortedAll_at s.heap its its.toArray
  have hn:s.heap.objs.size<=s.heap.objs.size+1:=Nat.le_succ _
  refine⟨.ref (s.heap.objs.size+1),upd H (s.heap.objs.size+1) (.lst ys),I.laid (t':=s.toks) (fun _ _=>sortedAll_old) hn ⟨hz,its,e,rv,he⟩,rfl,q _ ys (I.hok.fresh hn) (List.Perm.refl _) ?_⟩
  match ys,hl with
  | [],_=>exact List.Pairwise.nil
  | [_],_=>exact aV3 _ _
  | _ :: _ :: _,hl=>simp at hl; omega
 ·obtain ⟨m,F⟩:=I.fr
  have hL:∀ {b:Addr}{k:List Int},aF X.K H b (k.map V.int)->b ≠ X.env.locals:=fun {b k} z e=>by
   obtain ⟨its',_,⟨ob,e1,c1,_⟩,_⟩:=I.tuple z
   obtain ⟨m',⟨o',es',ep',e2,d2,_⟩,_⟩:=I.loc
   rcases z with (z | ⟨_,z⟩) | ⟨o3,its3,n3,z3,zc,zd,_⟩
   ·rw [e,I.free] at z; cases z
   ·rw [e,I.free] at z; cases z
   ·have:=I.kIn b o3 z3
    rw [e,e2] at this
    cases this
    rw [d2] at zd; cases zd
  refine PySem.W.kat_sorted F (V6 (g:=X.base) (h:=s.heap) (L:=X.env.locals)) p.isList (by omega) (by omega) fun D e1 h' F' N' hD=>?_
  have keep:=I.newsAll (fun p hp=>aR1 _ hp) F' N'
  have look:∀ i,i < ys.length->∃ (b:Addr) (ob:Obj) (us:List Value) (n:Nat),its.getD i Value.none = .ref b/\h'.get? b=some ob/\ob.cls = .type "tuple"/\ob.data = .seq us.toArray n/\IntsAre us (key (ys.getD i .non))/\key (ys.getD i .non) ≠ []:=fun i hi=>by
   have hy:ys.getD i .non ∈ ys:=by
    rw [aS2,aR7 hi]; exact List.getElem_mem hi
   obtain ⟨b,eb,sq,ne⟩:=hk _ hy
   have rr:=tN i hi rv
   rw [eb] at rr
   have rr:its.getD i Value.none = .ref b:=rr
   obtain ⟨us,ru,⟨ob,e1,c1,n1,d1⟩,_⟩:=I.tuple sq
   exact⟨b,ob,us,n1,rr,keep b ob (hL sq) e1,c1,d1,mM ru,ne⟩
  have firsts:∀ {xs:List V}{vs:List Value},aR xs vs->(∀ y ∈ xs,∃ b,y = .ref b/\aF X.K H b ((key y).map V.int)/\key y ≠ [])->∃ fs:List Value,PySem.W.KatTups h' vs fs/\fs.length=vs.length/\∀ v ∈ fs,∃ i t,v=Value.int i t:=by
   intro xs vs r
   induction r with
   | nil=>intro _; exact⟨[],PySem.W.KatTups.nil,rfl,fun _ z=>nomatch z⟩
   | @cons x v xs vs rx rt ih=>
    intro hh
    obtain ⟨fs,t1,t2,t3⟩:=ih fun y hy=>hh y (aR1 _ hy)
    obtain ⟨b,eb,sq,ne⟩:=hh x aR2
    subst eb
    cases rx
    obtain ⟨us,ru,⟨ob,e1,c1,n1,d1⟩,_⟩:=I.tuple sq
    have ia:=mM ru
    generalize key (V.ref b)=kk at ia ne
    cases ia with
    | nil=>exact absurd rfl ne
    | @cons n t vs0 ns0 ht=>
     exact⟨Value.int n t :: fs,PySem.W.KatTups.cons (keep b ob (hL sq) e1) c1 d1 (by simp) t1,by simp [t2],fun v hv=>(aQ2.mp hv).elim (fun z=>⟨n,t,z⟩) (t3 v)⟩
  obtain ⟨fs,t1,t2,t3⟩:=firsts rv hk
  refine PySem.W.kat_kind (T:=.type "int") t1 (by omega) (fun v hv=>?_) (by decide) ?_
  ·obtain ⟨i,t,rfl⟩:=t3 v hv
   exact PySem.W.Looks.now
  let c:Nat->Nat->Bool:=fun i j=>HT.eO (key (ys.getD i .non)) (key (ys.getD j .non))
  have O:Srt.tJ c:=⟨fun h=>yX h,fun h1 h2=>yY h1 h2⟩
  have ok:=Srt.ah2 (n:=its.length) O (by omega)
  refine Srt.bU.run (I:=fun s'=>s'={ s with heap:=h' }) (fun i j C s' hi hj hI hC=>?_) (fun pa s' hR hI=>?_) _ _ rfl ok
  ·subst hI
   obtain ⟨b1,o1,u1,n1,g1,g2,_,g4,g5,_⟩:=look i (by omega)
   obtain ⟨b2,o2,u2,n2,k1,k2,_,k4,k5,_⟩:=look j (by omega)
   show wpAny _ _ (keyLt' (tuples' (Value.type "int" != Value.type "tuple")) (its.getD i Value.none) (its.getD j Value.none)) _ _ _
   rw [g1,k1]
   have eT:(Value.type "int" != Value.type "tuple")=true:=by decide
   rw [eT]
   refine PySem.W.kat_lt g2 g4 k2 k4 ?_
   have:=zA (prog:=X.prog) (w:=X.w) (A:=X.A.in1.in1) (s:={ s with heap:=h' }) (Q:=C) 0 g5 k5 (hC _ rfl)
   simpa using this
  ·subst hI
   obtain ⟨hp,hasc⟩:=hR
   refine PySem.W.KasFin.intro F' N' (PySem.W.UpdF.head fun p hp=>aS8 (hD p hp)) fun h2 cc F2 N2=>?_
   have keep2:=I.newsAll (fun p hp=>aR1 _ hp) F2 N2
   have hDn:s.heap.get? D=none:=by
    cases z:s.heap.get? D with
    | none=>rfl
    | some o=>
     obtain ⟨_,n1,n2⟩:=N2 (D,_) aR2
     exact absurd (hD _ (w9 n1 n2 z)) (aU2 _)
   have hpl:∀ i ∈ pa.toList,i < ys.length:=fun i hi=>by
    have:=bc1.mp (hp.mem_iff.mp hi); omega
   have hp':pa.toList.Perm (List.range ys.length):=by rw [hl]; exact hp
   have pm:=ah3 (d:=V.non) ys hp'
   obtain ⟨hDo,hDL,hDb⟩:=N2 (D,_) aR2
   obtain ⟨hHD,I2⟩:=I.laidF (t':=s.toks) (a:=D) (o:=.lst (pa.toList.map fun i=>ys.getD i .non)) hDn keep2 (fun m' hm'=>by
     have e:m'=m:=funext fun nm=>Heap.Ns.agree hm' F.ns nm
     rw [e]; exact F2.ns) ⟨by rw [pm.length_eq]; exact hz,_,cc,yV rv hpl,hDo⟩
   exact⟨.ref D,_,I2,rfl,q D _ hHD pm (ah7 hp hasc fun i j hle=>hle)⟩
end L2
namespace Raw
open PySem PySem.W PySem.Calls PyProof.Rows
def fS (h:Heap) (d:Addr) (es:Array DictEntry) (ep:Nat):Prop:=∃ o,h.get? d=some o/\o.ExactDict/\o.data = .dict es ep
theorem fS.ty {s:Shared}{d:Addr}{es:Array DictEntry}{ep:Nat} (x:fS s.heap d es ep):s.TypeIs (.ref d) "dict":=x.elim fun o y=>⟨o,y.1,y.2.1.1⟩
theorem fS.lt {h:Heap}{d:Addr}{es:Array DictEntry}{ep:Nat} (x:fS h d es ep):d < h.objs.size:=x.elim fun _ y=>aR0 y.1
theorem fS.keep {h h':Heap}{d:Addr}{es:Array DictEntry}{ep:Nat} (x:fS h d es ep) (k:∀ o,h.get? d=some o->h'.get? d=some o):fS h' d es ep:=x.elim fun o y=>⟨o,k o y.1,y.2⟩
section
variable {prog : Program} {w : World} {A : Around} {E : Value → Shared → Prop} {s : Shared} {d it : Addr} {es : Array DictEntry} {ep i : Nat}
theorem made (far:(d == sysModules)=false) (x:fS s.heap d es ep) {Q:Value->Shared->Prop}
  (q:Q (.ref s.heap.objs.size) { s with heap:=s.heap.push { cls:=.type "dict_keyiterator",data:=.fields #[.ref d,.int 0 0,.int es.size 0,.int ep 0] } }):wpAny (model prog w) A (pyIter (.ref d)) Q E s:=by
 have T:=x.ty
 obtain ⟨o,e1,e2,e3⟩:=x
 apply wpAny_pyIter_slot T PySem.F.slot_dict_iter
 apply aX3 PySem.F.slot_dict_iter T PySem.F.entry_dict_iter _ (PySem.F.args_dict_iter_1 _)
 simp only [Builtin.«dict.__iter__»,Builtin.Dict.dictSlotNone]
 apply aQ0
 apply aQ0
 apply wpAny_notOrdered_dict T
 apply aQ5
 change wpAny _ _ (Builtin.Dict.showsAll d >>= _) _ _ s
 have far':Builtin.Dict.showsAll d=pure ():=by
  unfold Builtin.Dict.showsAll
  simp only [far,aS4,aX0]
 rw [far',pure_bind]
 apply aQ0
 apply wpAny_dictEntries e1 e3
 apply aQ0
 apply wpAny_dictEpoch e1 e3
 apply aQ0
 refine aX5 (aQ5 ?_)
 refine⟨.ref s.heap.objs.size,rfl,"dict_keyiterator",_,⟨_,aR5 _ rfl,rfl⟩,PySem.F.slot_dict_keyiterator_next.lookup,?_⟩
 simpa only [rawInt] using q
theorem turn (hh:A.handled=none) (hi:s.heap.IsKeyIter it d i es.size ep) (x:fS s.heap d es ep) {Q:Option Value->Shared->Prop}
  (yes:∀ (lt:i < es.size) h',h'.IsKeyIter it d (i+1) es.size ep->Heap.SameBut it s.heap h'->Q (some es[i].key) { s with heap:=h' })
  (no:es.size<=i->∀ h',Heap.ExtBut it s.heap h'->Q none { s with heap:=h' }):wpAny (model prog w) A (pyNext (.ref it)) Q E s:=by
 have T:=hi.typeIs
 obtain ⟨oi,f1,f2,f3⟩:=hi
 obtain ⟨o,e1,e2,e3⟩:=x
 have slot:=PySem.F.slot_dict_keyiterator_next
 have plain:Builtin.Dict_items.ownsTuple "dict_keyiterator" = false:=by decide
 have isref:(Value.ref d == Value.none)=false:=rfl
 have nn : ¬ (i:Int) < 0:=by omega
 unfold pyNext
 apply aQ0
 apply wpAny_attempt
 apply aV2 (name:=Str.ofString "__next__") T slot
 apply aX3 slot T PySem.F.entry_dict_keyiterator_next _ (PySem.F.args_dict_keyiterator_next_1 _)
 apply aQ0
 apply aQ5
 apply aQ0
 apply aQ0
 apply aQ0
 first
  | apply wpAny_typeNameOfWhole_keyiter T
  | apply wpAny_typeNameOf_keyiter T
 apply aQ5
 apply aQ0
 apply wpAny_fieldsOf f1 f3
 simp only [plain,aS4,aX0]
 change wpAny _ _ (if (Value.ref d == Value.none)=true then _ else _) _ _ s
 have adr:Builtin.Dict_items.addrOf (Value.ref d)=pure d:=rfl
 simp only [isref,aS4,aX0,adr,pure_bind]
 apply aQ0
 apply wpAny_dictEntries e1 e3
 simp only [bne_self_eq_false,aS4,aX0]
 apply aQ0
 apply wpAny_dictEpoch e1 e3
 simp only [bne_self_eq_false,aS4,aX0]
 apply aQ5
 simp only [nn,aX0,Int.toNat_natCast]
 by_cases lt:i < es.size
 ·simp only [Array.getElem?_eq_getElem lt]
  apply aQ0
  apply aQ0
  first
   | apply wpAny_typeNameOfWhole_keyiter T
   | apply wpAny_typeNameOf_keyiter T
  apply aQ5
  apply aQ0
  apply wpAny_isOneOf_keyiter T
  change wpAny _ _ (setField (.ref it) 1 (rawInt ((i:Int)+1)) >>= _) _ _ s
  apply aQ0
  refine wpAny_setField f1 f3 (by simp) ?_
  have again:(s.heap.update it (Obj.mapFields (·.setIfInBounds 1 (rawInt ((i:Int)+1))))).IsKeyIter it d (i+1) es.size ep:=by
   refine⟨_,Heap.get?_update_self _ f1 (Obj.isFreed_of_fields (Obj.data_mapFields f3 _)),?_,?_⟩
   ·rw [Obj.cls_mapFields]; exact f2
   ·rw [Obj.data_mapFields f3]; simp [rawInt]
  apply aQ0
  apply bb9
  apply aQ0
  refine wpAny_isOneOf_keyiter (s:={ s with heap:=s.heap.update it (Obj.mapFields (·.setIfInBounds 1 (rawInt ((i:Int)+1)))) }) again.typeIs ?_
  change wpAny _ _ (pure es[i].key) _ _ _
  apply aQ5
  apply aQ5
  exact⟨es[i].key,rfl,aQ5 (yes lt _ again (ba7 ..))⟩
 ·have ge:es.size<=i:=aZ1 lt
  simp only [Array.getElem?_eq_none ge]
  apply aQ0
  apply aQ0
  first
   | apply wpAny_typeNameOfWhole_keyiter T
   | apply wpAny_typeNameOf_keyiter T
  apply aQ5
  change wpAny _ _ (setField (.ref it) 0 .none >>= _) _ _ s
  apply aQ0
  refine wpAny_setField f1 f3 (by simp) ?_
  apply aQ0
  simp only [newExc,newTuple]
  apply aQ0
  refine aX5 ?_ (by size_fits)
  apply aQ0
  refine wpAny_of_eq (a:=Value.none) (by first | rfl | (simp only [firstArgMember]; rfl)) ?_
  refine aX5 ?_ (by size_fits)
  unfold raiseNew
  apply aQ0
  apply wpAny_handled
  have quiet:A.in1.handled=none:=hh
  rw [quiet]
  refine wpAny_throw ?_
  apply aQ0
  refine wpAny_isInstance (T:="StopIteration") (b:=true) ⟨_,aR5 _ rfl,rfl⟩ isSubtype_stop ?_
  exact aQ5 (no ge _ (((ba7 ..).extBut.push _).push _))
theorem ah9 (hh:A.handled=none) (ne:d ≠ it):Walks prog w A it [it,d] [it] es.size (fun i v=>∃ lt:i < es.size,es[i].key=v) (fun i h=>h.IsKeyIter it d i es.size ep/\fS h d es ep) where
 sub:=by intro b hb; rw [aR8.mp hb]; exact aR2
 frame:=by
  intro i h h' st hk
  exact⟨st.1.at (hk it aR2),st.2.keep (hk d (aR1 _ aR2))⟩
 item:=by
  intro i s Q E lt st hQ
  refine turn hh st.1 st.2 (fun lt' h' again sb=>?_) fun ge=>absurd lt (Nat.not_lt.mpr ge)
  exact hQ _ h' s.toks ⟨lt',rfl⟩ ⟨again,st.2.keep fun o e=>sb.extBut d o ne e⟩ fun b o hb e=>sb.extBut b o (fun z=>hb (aR8.mpr z)) e
 done:=by
  intro s Q E st hQ
  refine turn hh st.1 st.2 (fun lt=>absurd lt (aU2 _)) fun _ h' eb=>?_
  exact hQ h' s.toks fun b o hb e=>eb b o (fun z=>hb (aR8.mpr z)) e
 self:=by intro i s Q E st hQ; exact wpAny_pyIter_keyiter st.1 hQ
theorem ai0 (far:(d == sysModules)=false):KdlSrc prog w "dict" d d es.size (fun i v=>∃ lt:i < es.size,es[i].key=v) (fun h=>fS h d es ep) where
 type:=fun _ x=>x.ty
 there:=fun _ x=>⟨x.lt,x.lt⟩
 keep:=fun _ _ x k=>x.keep (k d (.inl rfl))
 notList:=by decide
 notTuple:=by decide
 hint:=fun _ _ _ _ x q=>kdl_hint_dict x.ty q
 iter:=fun _ _ hh x=>⟨_,_,fun _ _ q=>made far x q,ah9 hh (aS8 x.lt),⟨_,aR5 _ rfl,rfl,rfl⟩,x.keep fun o e=>aQ1 _ e⟩
end
end Raw
namespace L2
open PySem PySem.Spec PyProof.Rows
section
variable {X : Cx} {pins : List (Addr × Obj)} {σ : St} {H : Hp} {s : Shared} {a : Addr}
def p6 (H:Hp) (y:V) (k:List aC):Prop:=∃ q,y = .ref q/\H q=some (.tup (k.map kV))
theorem ai1 {kvs:List (List aC × V)} (I:a7 X pins σ H s) (h:H a=some (.dT kvs)):∃ es ep ys,Raw.fS s.heap a es ep/\(a == sysModules)=false/\Paired (p6 H) ys (kvs.map (·.1))/\aR ys (es.toList.map (·.key))/\kvs.length<=sizeLine:=by
 obtain ⟨z,far,xs,rel,o,es,ep,e1,e2,e3,e4,nd⟩:=(show bY X.prog X.w H s.heap a (.dT kvs) from I.hok a _ h)
 refine⟨es,ep,xs.map fun q=>V.ref q.2.1,⟨o,e1,e2,e3⟩,far,?_,?_,z⟩
 ·clear e4 nd h z
  induction rel with
  | nil=>exact .nil
  | cons r rs ih=>exact .cons ⟨_,rfl,r.2.1⟩ ih
 ·rw [e4]
  clear rel e4 nd
  induction xs with
  | nil=>exact .nil
  | cons q qs ih=>exact .cons rfl ih
theorem ai2 {es:Array DictEntry}{acc:Array Value} (h:ItemsOf (fun i v=>∃ lt:i < es.size,es[i].key=v) acc es.size):acc.toList=es.toList.map (·.key):=by
 apply List.ext_getElem?
 intro j
 have h1:=h.1
 by_cases hj:j < es.size
 ·have hj':j < acc.size:=by rw [h1]; exact hj
  obtain ⟨_,e⟩:=h.2 j acc[j] (by simp [hj'])
  rw [aR6]
  simp [hj,hj',e]
 ·have hj' : ¬ j < acc.size:=by rw [h1]; exact hj
  rw [aR6]
  simp [aZ1 hj,aZ1 hj']
theorem ai3 (hc:X.calm=true):cS X (.type "list") (fun xs H Q=>∃ a kvs,xs = [.ref a]/\H a=some (.dT kvs)/\∀ l ys,H l=none->Paired (p6 H) ys (kvs.map (·.1))->Q (.ref l) (upd H l (.lst ys))):=by
 intro pins s σ H xs us Q I r h
 obtain ⟨a,kvs,rfl,ha,q⟩:=h
 obtain ⟨u,rfl,ru⟩:=eI r
 cases ru
 obtain ⟨es,ep,ys,rd,far,pk,vk,z⟩:=ai1 I ha
 have hl:=vk.length
 have hl2:=pk.length
 rw [aQ3] at hl hl2
 have hsz:es.toList.length=es.size:=aV4
 refine PySem.W.kdl_call (Raw.ai0 far) (I.ok.hd hc) rd (by omega) fun h' tk acc c kp e it=>?_
 refine⟨.ref s.heap.objs.size,_,I.laid (t':=tk) kp (aQ6 _) (show bY X.prog X.w _ h' _ (.lst ys) from ⟨by omega,acc.toList,c,by rw [ai2 it]; exact vk,by simpa using e⟩),rfl,q _ ys (I.hok.fresh (aQ6 _)) pk⟩
end
def zC (outer:List (Str × NameKind)) (XN:List Str) (names:List (Str × NameKind)) (N:List Str) (fr:List (Option Nat)):Bool:=
 names.all (fun y=>!(y.2 == .cell) || names.lookup y.1 == some .cell) && names.all (fun y=>!(y.2 == .local) || names.lookup y.1 == some .local) &&
 names.all (fun y=>!(y.2 == .free) || (outer.lookup y.1 == some .cell || outer.lookup y.1 == some .free)) && fr.length == N.length &&
 (fr.zip N).all (fun p=>match p.1 with
  | none=>true
  | some j=>XN[j]? == some p.2 && names.lookup p.2 == some .free)
theorem cF.of {X:Cx}{scope:Scope}{N:List Str}{fr:List (Option Nat)} (hk:scope.kind = .function) (h:zC X.env.scope.names X.N scope.names N fr=true):cF X scope N fr:=by
 unfold zC at h
 simp only [aW5] at h
 obtain ⟨⟨⟨⟨h1,h2⟩,h3⟩,h4⟩,h5⟩:=h
 refine⟨hk,fun y hy e=>?_,fun y hy e=>?_,fun y hy e=>?_,by simpa using h4,fun i j e=>?_⟩
 ·have:=List.all_eq_true.mp h1 y hy
  rw [e] at this; simpa using this
 ·have:=List.all_eq_true.mp h2 y hy
  rw [e] at this; simpa using this
 ·have:=List.all_eq_true.mp h3 y hy
  rw [e] at this; simpa using this
 ·have hl:fr.length=N.length:=by simpa using h4
  have hi:i < fr.length:=(aQ7.mp e).1
  have m:(some j,N[i]'(by omega)) ∈ fr.zip N:=by
   have:(fr.zip N)[i]? = some (some j,N[i]'(by omega)):=by
    rw [List.getElem?_zip_eq_some]
    exact⟨e,by simp⟩
   exact aT1 this
  have:=List.all_eq_true.mp h5 _ m
  simp only [aW5,beq_iff_eq] at this
  exact⟨N[i]'(by omega),by simp,this.1,this.2⟩
theorem zD {n:Option V}{r:St}{v:V}:Wk (none :: r) (some v :: r):=(Wk.refl (none :: r)).set (i:=0) rfl
def cZ (H:Hp) (ys:List V) (ls:List (Int × Int)):Prop:=Paired (fun y l=>∃ b,y = .ref b/\H b=some (.tup [.int l.1,.int l.2])) ys ls
structure tP (H:Hp) (v:V) (ws:List Int) (ls:List (Int × Int)):Prop where
 at_:∃ a p q ys,v = .ref a/\H a=some (.tup [.ref p,.ref q])/\H p=some (.tup (ws.map V.int))/\H q=some (.tup ys)/\cZ H ys ls
theorem cZ.mono {H H':Hp} (e:aB H H'):∀ {ys:List V}{ls:List (Int × Int)},cZ H ys ls->cZ H' ys ls
 | _,_,.nil=>.nil
 | _,_,.cons ⟨b,h1,h2⟩ t=>.cons ⟨b,h1,e _ _ h2⟩ (cZ.mono e t)
theorem cZ.get {H:Hp}:∀ {ys:List V}{ls:List (Int × Int)}{i:Nat}{y:V},cZ H ys ls->ys[i]? = some y->∃ l b,ls[i]? = some l/\y = .ref b/\H b=some (.tup [.int l.1,.int l.2])
 | _,_,_,_,.nil,e=>by simp at e
 | _,_,0,_,.cons (b:=l) ⟨b,h1,h2⟩ _,e=>by simp at e; subst e; exact⟨l,b,rfl,h1,h2⟩
 | _,_,i+1,_,.cons _ t,e=>by
  obtain ⟨l,b,h1,h2⟩:=cZ.get (i:=i) t (by simpa using e)
  exact⟨l,b,by simpa using h1,h2⟩
def dD (ls:List (Int × Int)) (k:Int):List Int:=ls.flatMap fun l=>(if l.1=k then [l.2] else []) ++ (if l.2=k then [l.1] else [])
theorem ai4 (ls:List (Int × Int)) (l:Int × Int) (k:Int):dD (ls ++ [l]) k=dD ls k ++ ((if l.1=k then [l.2] else []) ++ (if l.2=k then [l.1] else [])):=by
 unfold dD; rw [List.flatMap_append]; simp
theorem ai5 {ls:List (Int × Int)}{i:Nat}{l:Int × Int} (h:ls[i]? = some l) (k:Int):dD (ls.take (i+1)) k=dD (ls.take i) k ++ ((if l.1=k then [l.2] else []) ++ (if l.2=k then [l.1] else [])):=by
 rw [aV9,h]; exact ai4 _ _ _
structure iB (H H':Hp) (r:Addr) (bs:List Addr) (f:Nat->List Int):Prop where
 new:H r=none
 news:∀ b ∈ bs,H b=none/\b ≠ r
 nd:bs.Nodup
 row:H' r=some (.lst (bs.map V.ref))
 rows:∀ (k:Nat) (b:Addr),bs[k]? = some b->H' b=some (.lst ((f k).map V.int))
 same:aB H H'
theorem iB.congr {H H':Hp}{r:Addr}{bs:List Addr}{f g:Nat->List Int} (h:iB H H' r bs f) (e:∀ k,k < bs.length->f k=g k):iB H H' r bs g:=
 ⟨h.new,h.news,h.nd,h.row,fun k b hb=>by rw [<- e k (aQ7.mp hb).1]; exact h.rows k b hb,h.same⟩
theorem iB.app {H H':Hp}{r:Addr}{bs:List Addr}{f:Nat->List Int} (h:iB H H' r bs f) {k:Nat}{b:Addr} (hb:bs[k]? = some b) (x:Int) :
  iB H (upd H' b (.lst ((f k).map V.int ++ [V.int x]))) r bs (fun j=>if j=k then f j ++ [x] else f j):=by
 have hm:b ∈ bs:=aT1 hb
 refine⟨h.new,h.news,h.nd,by rw [aJ (Ne.symm (h.news b hm).2)]; exact h.row,fun j c hc=>?_,fun c o e=>by rw [aJ (bS e (h.news b hm).1)]; exact h.same c o e⟩
 by_cases hj:j=k
 ·subst hj
  rw [hb] at hc; cases hc
  rw [aZ,if_pos rfl]; simp
 ·rw [if_neg hj]
  have ne:c ≠ b:=fun z=>by
   subst z
   obtain ⟨i1,e1⟩:=aQ7.mp hb
   obtain ⟨i2,e2⟩:=aQ7.mp hc
   refine hj (Nat.le_antisymm (aZ1 fun z=>?_) (aZ1 fun z=>?_))
   ·exact aY1.mp h.nd _ _ i1 i2 z (e1.trans e2.symm)
   ·exact aY1.mp h.nd _ _ i2 i1 z (e2.trans e1.symm)
  rw [aJ ne]; exact h.rows j c hc
theorem tQ (ls:List (Int × Int)) (k:Int):(dD ls k).length<=2 * ls.length:=by
 induction ls with
 | nil=>exact aQ6 _
 | cons l r ih=>
  have e:dD (l :: r) k=((if l.1=k then [l.2] else []) ++ (if l.2=k then [l.1] else [])) ++ dD r k:=rfl
  rw [e,aQ8,aQ8,aU1]
  have h1:(if l.1=k then [l.2] else []).length<=1:=by split <;> simp
  have h2:(if l.2=k then [l.1] else []).length<=1:=by split <;> simp
  omega
theorem lA {α:Type}{xs:List α}{i:Int}{v:α} (h0:0<=i) (h:xs[i.toNat]? = some v):atI xs i=some v:=by
 have:=ac8 h
 rwa [show ((i.toNat:Nat):Int)=i by omega] at this
theorem eZ {n:Nat} (h:n<=16000000):n < sizeLine:=by rw [sizeLine_eq]; omega
theorem mU {σ:St}{H:Hp}{A B:Hp->Prop} (h:A H):tD σ H fun b H4=>if b=true then A H4 else B H4:=by
 show if true=true then A H else B H
 rw [if_pos rfl]; exact h
theorem jD {K:PySem.W.Frag}{H:Hp}{p:Addr}{xs:List V} (h:aH K H p xs):gD K "list" (.ref p) H:=.inl ⟨rfl,xs,h⟩
def mV (H:Hp) (y:V):Int × Int:=match yZ H y with
 | [a,b]=>(a,b)
 | _=>(0,0)
theorem p9 {H:Hp}:∀ {zs:List V},(∀ y ∈ zs,∃ b,y = .ref b/\H b=some (.tup [.int (mV H y).1,.int (mV H y).2])/\yZ H y = [(mV H y).1,(mV H y).2])->cZ H zs (zs.map (mV H))
 | [],_=>.nil
 | y :: zs,h=>by
  obtain ⟨b,e,hb,_⟩:=h y aR2
  exact .cons ⟨b,e,hb⟩ (p9 fun z hz=>h z (aR1 _ hz))
end L2
namespace Zp
open PySem PyProof.Rows
section
variable {prog : Program} {w : World} {A : Around} {E : Value → Shared → Prop} {s : Shared}
theorem zE {it t:Addr}{i:Nat}{items:Array Value}{x:Value}{Q:Value->Shared->Prop} (hi:s.heap.IsTupleIter it t i) (ht:s.heap.IsTuple t items) (hx:items[i]? = some x)
  (q:∀ h',h'.IsTupleIter it t (i+1)->Heap.SameBut it s.heap h'->Q x { s with heap:=h' }):wpAny (model prog w) A (Builtin.SmallTypes.nextOf (.ref it)) Q E s:=by
 have T:=hi.typeIs
 obtain ⟨o,e1,e2,e3⟩:=hi
 obtain ⟨u,f1,_,k,f3⟩:=ht
 have slot:=PySem.F.slot_tuple_iterator_next
 have isref:(Value.ref t == Value.none)=false:=rfl
 unfold Builtin.SmallTypes.nextOf
 apply aQ0
 apply aV2 (name:=Str.ofString "__next__") T slot
 apply aX3 slot T PySem.F.entry_tuple_iterator_next _ (PySem.F.args_tuple_iterator_next_1 _)
 change wpAny _ _ (field (.ref it) 0 >>= _) _ _ s
 apply aQ0
 refine aV1 e1 e3 (x:=.ref t) rfl ?_
 change wpAny _ _ (if (Value.ref t == Value.none)=true then _ else _) _ _ s
 simp only [isref,aS4,aX0]
 change wpAny _ _ (field (.ref it) 1 >>= _) _ _ s
 apply aQ0
 refine aV1 e1 e3 (x:=.int i 0) rfl ?_
 change wpAny _ _ (seqItems? (.ref t) >>= _) _ _ s
 apply aQ0
 apply bb1 f1 f3
 simp only [Int.toNat_natCast,hx]
 apply aQ0
 refine wpAny_setField e1 e3 (by simp) ?_
 apply aQ5
 refine⟨x,rfl,aQ5 (q _ ⟨_,Heap.get?_update_self _ e1 (Obj.isFreed_of_fields (Obj.data_mapFields e3 _)),?_,?_⟩ (ba7 ..))⟩
 ·rw [Obj.cls_mapFields]; exact e2
 ·rw [Obj.data_mapFields e3]; simp [rawInt]
theorem zF {it t:Addr}{i:Nat}{items:Array Value}{Q:Value->Shared->Prop} (hh:A.handled=none) (hi:s.heap.IsTupleIter it t i) (ht:s.heap.IsTuple t items) (hx:items[i]? = none)
  (q:∀ h' e,Heap.ExtBut it s.heap h'->(∃ o,h'.get? e=some o/\o.cls = .type "StopIteration")->E (.ref e) { s with heap:=h' }):wpAny (model prog w) A (Builtin.SmallTypes.nextOf (.ref it)) Q E s:=by
 have T:=hi.typeIs
 obtain ⟨o,e1,e2,e3⟩:=hi
 obtain ⟨u,f1,_,k,f3⟩:=ht
 have slot:=PySem.F.slot_tuple_iterator_next
 have isref:(Value.ref t == Value.none)=false:=rfl
 unfold Builtin.SmallTypes.nextOf
 apply aQ0
 apply aV2 (name:=Str.ofString "__next__") T slot
 apply aX3 slot T PySem.F.entry_tuple_iterator_next _ (PySem.F.args_tuple_iterator_next_1 _)
 change wpAny _ _ (field (.ref it) 0 >>= _) _ _ s
 apply aQ0
 refine aV1 e1 e3 (x:=.ref t) rfl ?_
 change wpAny _ _ (if (Value.ref t == Value.none)=true then _ else _) _ _ s
 simp only [isref,aS4,aX0]
 change wpAny _ _ (field (.ref it) 1 >>= _) _ _ s
 apply aQ0
 refine aV1 e1 e3 (x:=.int i 0) rfl ?_
 change wpAny _ _ (seqItems? (.ref t) >>= _) _ _ s
 apply aQ0
 apply bb1 f1 f3
 simp only [Int.toNat_natCast,hx]
 apply aQ0
 apply wpAny_rule
 apply aQ0
 refine wpAny_setField e1 e3 (by simp) ?_
 apply aQ0
 simp only [newExc,newTuple]
 apply aQ0
 refine aX5 ?_ (by size_fits)
 apply aQ0
 refine wpAny_of_eq (a:=Value.none) (by first | rfl | (simp only [firstArgMember]; rfl)) ?_
 refine aX5 ?_ (by size_fits)
 unfold raiseNew
 apply aQ0
 apply wpAny_handled
 have quiet:A.in1.handled=none:=hh
 rw [quiet]
 refine wpAny_throw ?_
 exact q _ _ (((ba7 ..).extBut.push _).push _) ⟨_,aR5 _ rfl,rfl⟩
theorem ai6 (hh:A.handled=none) (it t:Addr) (ne:t ≠ it) (items:Array Value):Draws prog w A it [it,t] items.size (fun i v=>items[i]? = some v) (fun i h=>h.IsTupleIter it t i/\h.IsTuple t items) where
 live:=fun _ _ st=>st.1.elim fun o y=>⟨o,y.1⟩
 frame:=fun _ _ _ st k=>⟨st.1.at fun o e=>k it aR2 o e,st.2.elim fun o y=>⟨o,k t (aR1 _ aR2) o y.1,y.2⟩⟩
 item:=fun i s Q E lt st q=>zE st.1 st.2 (Array.getElem?_eq_getElem lt) fun h' again sb=>q _ h' s.toks (Array.getElem?_eq_getElem lt) ⟨again,st.2.elim fun o y=>⟨o,sb.extBut t o ne y.1,y.2⟩⟩ sb
 done:=fun s Q E st q=>zF hh st.1 st.2 (Array.getElem?_eq_none (aQ6 _)) q
end
structure Ap (z TI TO i1 i2:Addr) (fp1 fp2:List Addr):Prop where
 TIz:TI ≠ z
 TOz:TO ≠ z
 TITO:TI ≠ TO
 z1:z ∉ fp1
 z2:z ∉ fp2
 o1:TO ∉ fp1
 o2:TO ∉ fp2
 t1:TI ∉ fp1
 t2:TI ∉ fp2
 m1:i1 ∈ fp1
 m2:i2 ∈ fp2
 n1:i1 ∉ fp2
 n2:i2 ∉ fp1
structure tR (z TI TO i1 i2:Addr) (St1 St2:Nat->Heap->Prop) (f0:Value) (i j:Nat) (h:Heap):Prop where
 zz:IsZip h z TI TO f0
 ti:IsPair h TI (.ref i1) (.ref i2)
 to_:∃ a b,IsPair h TO a b
 s1:St1 i h
 s2:St2 j h
section
variable {prog : Program} {w : World} {A : Around} {E : Value → Shared → Prop} {s : Shared} {z TI TO i1 i2 : Addr} {fp1 fp2 : List Addr} {n1 n2 : Nat} {P1 P2 : Nat → Value → Prop} {St1 St2 : Nat → Heap → Prop}
theorem lB (ap:Ap z TI TO i1 i2 fp1 fp2) {b:Addr} (h:b ∉ fp1):b ≠ i1:=fun e=>h (e ▸ ap.m1)
theorem pA (ap:Ap z TI TO i1 i2 fp1 fp2) {b:Addr} (h:b ∉ fp2):b ≠ i2:=fun e=>h (e ▸ ap.m2)
theorem item (D1:Draws prog w A.in1 i1 fp1 n1 P1 St1) (D2:Draws prog w A.in1 i2 fp2 n2 P2 St2) (ap:Ap z TI TO i1 i2 fp1 fp2) {i:Nat} (l1:i < n1) (l2:i < n2) (st:tR z TI TO i1 i2 St1 St2 .none i i s.heap) {Q:Option Value->Shared->Prop}
  (q:∀ x y h' tk,P1 i x->P2 i y->tR z TI TO i1 i2 St1 St2 (rawInt s.heap.objs.size) (i+1) (i+1) h'->IsPair h' s.heap.objs.size x y->(∀ c o,c ≠ z->c ≠ TO->c ≠ i1->c ≠ i2->s.heap.get? c=some o->h'.get? c=some o)->
   h'.objs.size=s.heap.objs.size+1->Q (some (.ref s.heap.objs.size)) { s with heap:=h',toks:=tk }):wpAny (model prog w) A (pyNext (.ref z)) Q E s:=by
 obtain ⟨hz,hti,⟨a,b,hto⟩,h1,h2⟩:=st
 have T:s.TypeIs (.ref z) "zip":=⟨_,hz,rfl⟩
 have slot:=PySem.F.slot_zip_next
 unfold pyNext
 apply aQ0
 apply wpAny_attempt
 apply aV2 (name:=Str.ofString "__next__") T slot
 apply aX3 slot T PySem.F.entry_zip_next _ (PySem.F.args_zip_next_1 _)
 change wpAny _ _ (field (.ref z) 2 >>= _) _ _ _
 apply aQ0
 refine aV1 hz rfl (x:=.bool false) rfl ?_
 change wpAny _ _ (field (.ref z) 3 >>= _) _ _ _
 apply aQ0
 refine aV1 hz rfl (x:=.ref TI) rfl ?_
 apply aQ0
 apply bb1 hti rfl
 change wpAny _ _ (Builtin.SmallTypes.ownedTupleIsFree (.ref z) >>= _) _ _ _
 apply aQ0
 unfold Builtin.SmallTypes.ownedTupleIsFree
 apply aQ0
 refine aV1 hz rfl (x:=.none) rfl (aQ5 ?_)
 simp only [if_true]
 apply aQ0
 apply wpAny_rule
 apply aQ0
 refine aV1 hz rfl (x:=.ref TO) rfl ?_
 apply aQ0
 refine aW1 hz (by simp) fun g1 hz1 sb1=>?_
 have k1:∀ c o,c ≠ z->s.heap.get? c=some o->g1.get? c=some o:=fun c o c1 e=>sb1.extBut c o c1 e
 apply aQ0
 simp only [List.zipIdx_cons,List.zipIdx_nil,List.forIn_cons,List.forIn_nil]
 apply aQ0
 apply aQ0
 apply wpAny_onRaise
 change wpAny _ _ (Builtin.SmallTypes.nextOf (.ref i1) >>= _) _ _ _
 apply aQ0
 refine D1.item i { s with heap:=g1 } _ _ l1 (D1.frame _ _ _ h1 fun c hc o e=>k1 c o (fun y=>ap.z1 (y ▸ hc)) e) fun x g2 tk2 px st1 sb2=>aQ5 ?_
 have k2:∀ c o,c ≠ z->c ≠ i1->s.heap.get? c=some o->g2.get? c=some o:=fun c o c1 c2 e=>sb2.extBut c o c2 (k1 c o c1 e)
 have to2:IsPair g2 TO a b:=k2 _ _ ap.TOz (lB ap ap.o1) hto
 apply aQ0
 apply bb1 to2 rfl
 apply aQ0
 refine wpAny_updateSeq_pair to2 fun g3 to3 sb3=>?_
 have to3:IsPair g3 TO x b:=to3
 apply aQ0
 apply wpAny_letGo
 apply aQ5
 apply aQ0
 apply aQ0
 apply wpAny_onRaise
 change wpAny _ _ (Builtin.SmallTypes.nextOf (.ref i2) >>= _) _ _ _
 apply aQ0
 have k3:∀ c o,c ≠ z->c ≠ i1->c ≠ TO->s.heap.get? c=some o->g3.get? c=some o:=fun c o c1 c2 c3 e=>sb3.extBut c o c3 (k2 c o c1 c2 e)
 refine D2.item i { s with heap:=g3,toks:=tk2 } _ _ l2 (D2.frame _ _ _ h2 fun c hc o e=>k3 c o (fun y=>ap.z2 (y ▸ hc)) (fun y=>ap.n1 (y ▸ hc)) (fun y=>ap.o2 (y ▸ hc)) e) fun y g4 tk4 py st2 sb4=>aQ5 ?_
 have to4:IsPair g4 TO x b:=sb4.extBut _ _ (pA ap ap.o2) to3
 apply aQ0
 apply bb1 to4 rfl
 apply aQ0
 refine wpAny_updateSeq_pair to4 fun g5 to5 sb5=>?_
 have to5:IsPair g5 TO x y:=to5
 apply aQ0
 apply wpAny_letGo
 apply aQ5
 apply aQ5
 apply aQ0
 apply bb1 to5 rfl
 apply aQ0
 refine wpAny_newTuple ?_ (by show 2<=sizeLine; decide)
 have size:g5.objs.size=s.heap.objs.size:=by rw [sb5.1,sb4.1,sb3.1,sb2.1,sb1.1]
 have k5:∀ c o,c ≠ z->c ≠ TO->c ≠ i1->c ≠ i2->s.heap.get? c=some o->g5.get? c=some o:=fun c o c1 c2 c3 c4 e=>sb5.extBut c o c2 (sb4.extBut c o c4 (k3 c o c1 c3 c2 e))
 have z5:IsZip g5 z TI TO .ellipsis:=sb5.extBut _ _ (Ne.symm ap.TOz) (sb4.extBut _ _ (pA ap ap.z2) (sb3.extBut _ _ (Ne.symm ap.TOz) (sb2.extBut _ _ (lB ap ap.z1) hz1)))
 change wpAny _ _ (Builtin.SmallTypes.ownedTupleHandOut (.ref z) (.ref g5.objs.size) >>= _) _ _ _
 apply aQ0
 unfold Builtin.SmallTypes.ownedTupleHandOut
 apply aQ0
 have z6:IsZip (g5.push { cls:=.type "tuple",data:=.seq #[x,y] }) z TI TO .ellipsis:=aQ1 _ z5
 refine aW1 z6 (by simp) fun g7 z7 sb7=>?_
 have z7:IsZip g7 z TI TO (rawInt g5.objs.size):=z7
 refine aW1 z7 (by simp) fun g8 z8 sb8=>?_
 have z8:IsZip g8 z TI TO (rawInt g5.objs.size):=z8
 have zlt:z < g5.objs.size:=aR0 z5
 have up:∀ c o,c ≠ z->g5.get? c=some o->g8.get? c=some o:=fun c o c1 e=>sb8.extBut c o c1 (sb7.extBut c o c1 (aQ1 _ e))
 have p8:IsPair g8 g5.objs.size x y:=sb8.extBut _ _ (aX9 zlt) (sb7.extBut _ _ (aX9 zlt) (aR5 _ rfl))
 have s8:g8.objs.size=g5.objs.size+1:=by rw [sb8.1,sb7.1,aX7]
 have f1:St1 (i+1) g8:=D1.frame _ _ _ st1 fun c hc o e=>up c o (fun y=>ap.z1 (y ▸ hc)) (sb5.extBut c o (fun y=>ap.o1 (y ▸ hc)) (sb4.extBut c o (fun y=>ap.n2 (y ▸ hc)) (sb3.extBut c o (fun y=>ap.o1 (y ▸ hc)) e)))
 have f2:St2 (i+1) g8:=D2.frame _ _ _ st2 fun c hc o e=>up c o (fun y=>ap.z2 (y ▸ hc)) (sb5.extBut c o (fun y=>ap.o2 (y ▸ hc)) e)
 have ti8:IsPair g8 TI (.ref i1) (.ref i2):=up _ _ ap.TIz (k5 _ _ ap.TIz ap.TITO (lB ap ap.t1) (pA ap ap.t2) hti)
 rw [size] at z8 p8 s8
 apply aQ5
 refine⟨_,rfl,aQ5 ?_⟩
 change Q (some (.ref g5.objs.size)) _
 rw [size]
 exact q x y g8 tk4 px py ⟨z8,ti8,⟨x,y,up _ _ ap.TOz to5⟩,f1,f2⟩ p8 (fun c o c1 c2 c3 c4 e=>up c o c1 (k5 c o c1 c2 c3 c4 e)) s8
theorem fin (D1:Draws prog w A.in1 i1 fp1 n1 P1 St1) (D2:Draws prog w A.in1 i2 fp2 n2 P2 St2) (ap:Ap z TI TO i1 i2 fp1 fp2) {i:Nat} (le:i=n1 ∨ (i < n1/\i=n2)) (st:tR z TI TO i1 i2 St1 St2 .none i i s.heap) {Q:Option Value->Shared->Prop}
  (q:∀ h' tk,(∀ c o,c ≠ z->c ≠ TO->c ≠ i1->c ≠ i2->s.heap.get? c=some o->h'.get? c=some o)->Q none { s with heap:=h',toks:=tk }):wpAny (model prog w) A (pyNext (.ref z)) Q E s:=by
 obtain ⟨hz,hti,⟨a,b,hto⟩,h1,h2⟩:=st
 have T:s.TypeIs (.ref z) "zip":=⟨_,hz,rfl⟩
 have slot:=PySem.F.slot_zip_next
 unfold pyNext
 apply aQ0
 apply wpAny_attempt
 apply aV2 (name:=Str.ofString "__next__") T slot
 apply aX3 slot T PySem.F.entry_zip_next _ (PySem.F.args_zip_next_1 _)
 change wpAny _ _ (field (.ref z) 2 >>= _) _ _ _
 apply aQ0
 refine aV1 hz rfl (x:=.bool false) rfl ?_
 change wpAny _ _ (field (.ref z) 3 >>= _) _ _ _
 apply aQ0
 refine aV1 hz rfl (x:=.ref TI) rfl ?_
 apply aQ0
 apply bb1 hti rfl
 change wpAny _ _ (Builtin.SmallTypes.ownedTupleIsFree (.ref z) >>= _) _ _ _
 apply aQ0
 unfold Builtin.SmallTypes.ownedTupleIsFree
 apply aQ0
 refine aV1 hz rfl (x:=.none) rfl (aQ5 ?_)
 simp only [if_true]
 apply aQ0
 apply wpAny_rule
 apply aQ0
 refine aV1 hz rfl (x:=.ref TO) rfl ?_
 apply aQ0
 refine aW1 hz (by simp) fun g1 hz1 sb1=>?_
 have k1:∀ c o,c ≠ z->s.heap.get? c=some o->g1.get? c=some o:=fun c o c1 e=>sb1.extBut c o c1 e
 apply aQ0
 simp only [List.zipIdx_cons,List.zipIdx_nil,List.forIn_cons,List.forIn_nil]
 apply aQ0
 apply aQ0
 apply wpAny_onRaise
 change wpAny _ _ (Builtin.SmallTypes.nextOf (.ref i1) >>= _) _ _ _
 apply aQ0
 have z1:IsZip g1 z TI TO .ellipsis:=hz1
 rcases le with rfl | ⟨lt,rfl⟩
 ·refine D1.done { s with heap:=g1 } _ _ (D1.frame _ _ _ h1 fun c hc o e=>k1 c o (fun y=>ap.z1 (y ▸ hc)) e) fun g2 e eb ex=>?_
  have z2:IsZip g2 z TI TO .ellipsis:=eb _ _ (lB ap ap.z1) z1
  refine aW1 z2 (by simp) fun g3 z3 sb3=>?_
  obtain ⟨oe,eo,co⟩:=ex
  have ne:e ≠ z:=fun y=>by
   rw [y,z2] at eo
   have:=aS7 eo
   rw [<- this] at co; exact absurd (show Value.type "zip" = Value.type "StopIteration" from co) (by decide)
  apply aQ0
  refine wpAny_isInstance (T:="StopIteration") (b:=true) ⟨oe,sb3.extBut _ _ ne eo,co⟩ isSubtype_stop ?_
  exact aQ5 (q g3 s.toks fun c o c1 _ c3 _ e=>sb3.extBut c o c1 (eb c o c3 (k1 c o c1 e)))
 ·refine D1.item i { s with heap:=g1 } _ _ lt (D1.frame _ _ _ h1 fun c hc o e=>k1 c o (fun y=>ap.z1 (y ▸ hc)) e) fun x g2 tk2 px st1 sb2=>aQ5 ?_
  have k2:∀ c o,c ≠ z->c ≠ i1->s.heap.get? c=some o->g2.get? c=some o:=fun c o c1 c2 e=>sb2.extBut c o c2 (k1 c o c1 e)
  have to2:IsPair g2 TO a b:=k2 _ _ ap.TOz (lB ap ap.o1) hto
  apply aQ0
  apply bb1 to2 rfl
  apply aQ0
  refine wpAny_updateSeq_pair to2 fun g3 to3 sb3=>?_
  apply aQ0
  apply wpAny_letGo
  apply aQ5
  apply aQ0
  apply aQ0
  apply wpAny_onRaise
  change wpAny _ _ (Builtin.SmallTypes.nextOf (.ref i2) >>= _) _ _ _
  apply aQ0
  have k3:∀ c o,c ≠ z->c ≠ i1->c ≠ TO->s.heap.get? c=some o->g3.get? c=some o:=fun c o c1 c2 c3 e=>sb3.extBut c o c3 (k2 c o c1 c2 e)
  refine D2.done { s with heap:=g3,toks:=tk2 } _ _ (D2.frame _ _ _ h2 fun c hc o e=>k3 c o (fun y=>ap.z2 (y ▸ hc)) (fun y=>ap.n1 (y ▸ hc)) (fun y=>ap.o2 (y ▸ hc)) e) fun g4 e eb ex=>?_
  have z4:IsZip g4 z TI TO .ellipsis:=eb _ _ (pA ap ap.z2) (sb3.extBut _ _ (Ne.symm ap.TOz) (sb2.extBut _ _ (lB ap ap.z1) z1))
  refine aW1 z4 (by simp) fun g5 z5 sb5=>?_
  obtain ⟨oe,eo,co⟩:=ex
  have ne:e ≠ z:=fun y=>by
   rw [y,z4] at eo
   have:=aS7 eo
   rw [<- this] at co; exact absurd (show Value.type "zip" = Value.type "StopIteration" from co) (by decide)
  apply aQ0
  refine wpAny_isInstance (T:="StopIteration") (b:=true) ⟨oe,sb5.extBut _ _ ne eo,co⟩ isSubtype_stop ?_
  exact aQ5 (q g5 tk2 fun c o c1 c2 c3 c4 e=>sb5.extBut c o c1 (eb c o c4 (k3 c o c1 c3 c2 e)))
end
def fA (h:Heap) (t u:Addr):Heap:=
 ((((h.push { cls:=.type "tuple_iterator",data:=.fields #[.ref t,.int 0 0] }).push { cls:=.type "tuple_iterator",data:=.fields #[.ref u,.int 0 0] }).push { cls:=.type "tuple",data:=.seq #[.ref h.objs.size,.ref (h.objs.size+1)] }).push
  { cls:=.type "tuple",data:=.seq #[.none,.none] }).push { cls:=.type "zip",data:=.fields #[.none,.bool false,.bool false,.ref (h.objs.size+2),.ref (h.objs.size+3)] }
theorem ai7 (t u:Addr) (xs ys:Array Value):Meets (Builtin.«zip.__new__» ⟨[.type "zip",.ref t,.ref u],[]⟩) (fun _ R s=>s.heap.IsTuple t xs/\s.heap.IsTuple u ys/\R (.ok (.ret (.ref (s.heap.objs.size+4)))) { s with heap:=fA s.heap t u }):=
 .of_wp fun prog w A R s h=>by
  obtain ⟨hp,g,d,tk,os⟩:=s
  obtain ⟨ht,hu,h⟩:=h
  have sub:=sub_zip
  have a1:Heap.IsTuple (Shared.heap ⟨hp,g,d,tk,os⟩) t xs:=ht
  have a2:Heap.IsTuple (Shared.heap ⟨hp.push { cls:=.type "tuple_iterator",data:=.fields #[.ref t,.int 0 0] },g,d,tk,os⟩) u ys:=hu.elim fun o y=>⟨o,aQ1 _ y.1,y.2⟩
  wp_walk using aY9 a1,aY9 a2
  have e:∀ (o:Obj) (k:Heap),(k.push o).objs.size=k.objs.size+1:=fun o k=>aX7 ..
  refine⟨_,rfl,?_⟩
  simp only [fA,e] at h ⊢
  exact h
section
variable {prog : Program} {w : World} {A : Around} {E : Value → Shared → Prop} {s : Shared}
theorem zG {t u:Addr}{xs ys:Array Value}{Q:Value->Shared->Prop} (ht:s.heap.IsTuple t xs) (hu:s.heap.IsTuple u ys)
  (q:∀ h',IsZip h' (s.heap.objs.size+4) (s.heap.objs.size+2) (s.heap.objs.size+3) .none->IsPair h' (s.heap.objs.size+2) (.ref s.heap.objs.size) (.ref (s.heap.objs.size+1))->
   IsPair h' (s.heap.objs.size+3) .none .none->h'.IsTupleIter s.heap.objs.size t 0->h'.IsTupleIter (s.heap.objs.size+1) u 0->(∀ c o,s.heap.get? c=some o->h'.get? c=some o)->Q (.ref (s.heap.objs.size+4)) { s with heap:=h' }) :
  wpAny (model prog w) A (call (.type "zip") [.ref t,.ref u]) Q E s:=by
 refine callType_new PySem.F.called_zip (by decide) (PySem.F.typeCall_zip_2 _ _) (PySem.F.newCall_zip_2 _ _) (fun obj=>PySem.F.args_object_init_3 obj _ _) PySem.F.entry_zip_new (ai7 t u xs ys) ⟨ht,hu,?_⟩
 have e:∀ (o:Obj) (k:Heap),(k.push o).objs.size=k.objs.size+1:=fun o k=>aX7 ..
 have p0:∀ (k:Heap) (o:Obj) (m:Nat),o.isFreed=false->m=k.objs.size->(k.push o).get? m=some o:=fun k o m f z=>by rw [z]; exact aR5 _ f
 have g0:(fA s.heap t u).get? s.heap.objs.size=some { cls:=.type "tuple_iterator",data:=.fields #[.ref t,.int 0 0] }:=by
  unfold fA
  exact aQ1 _ (aQ1 _ (aQ1 _ (aQ1 _ (p0 _ _ _ rfl rfl))))
 have g1:(fA s.heap t u).get? (s.heap.objs.size+1)=some { cls:=.type "tuple_iterator",data:=.fields #[.ref u,.int 0 0] }:=by
  unfold fA
  exact aQ1 _ (aQ1 _ (aQ1 _ (p0 _ _ _ rfl (by simp only [e]))))
 have g2:(fA s.heap t u).get? (s.heap.objs.size+2)=some { cls:=.type "tuple",data:=.seq #[.ref s.heap.objs.size,.ref (s.heap.objs.size+1)] }:=by
  unfold fA
  exact aQ1 _ (aQ1 _ (p0 _ _ _ rfl (by simp only [e])))
 have g3:(fA s.heap t u).get? (s.heap.objs.size+3)=some { cls:=.type "tuple",data:=.seq #[.none,.none] }:=by
  unfold fA
  exact aQ1 _ (p0 _ _ _ rfl (by simp only [e]))
 have g4:(fA s.heap t u).get? (s.heap.objs.size+4)=some { cls:=.type "zip",data:=.fields #[.none,.bool false,.bool false,.ref (s.heap.objs.size+2),.ref (s.heap.objs.size+3)] }:=by
  unfold fA
  exact p0 _ _ _ rfl (by simp only [e])
 refine⟨⟨_,g4,rfl⟩,q _ g4 g2 g3 ⟨_,g0,rfl,rfl⟩ ⟨_,g1,rfl,rfl⟩ fun c o z=>?_⟩
 unfold fA
 exact aQ1 _ (aQ1 _ (aQ1 _ (aQ1 _ (aQ1 _ z))))
end
end Zp
namespace L2
open PySem PySem.Spec PyProof.Rows
def jE (K:PySem.W.Frag) (a b:Addr):It:=
  ⟨fun i H=>∃ xs ys x y,aF K H a xs/\aF K H b ys/\xs[i]? = some x/\ys[i]? = some y,
   fun i H v H'=>∃ T x y,H T=none/\v = .ref T/\H'=upd H T (.tup [x,y])/\∀ xs ys,aF K H a xs->aF K H b ys->xs[i]? = some x/\ys[i]? = some y,
   fun i H=>∃ xs ys,aF K H a xs/\aF K H b ys/\(i=xs.length ∨ (i < xs.length/\i=ys.length))⟩
def Sq (t:Bool) (K:PySem.W.Frag) (H:Hp) (a:Addr) (xs:List V):Prop:=match t with
 | true=>aF K H a xs
 | false=>aH K H a xs
def fB (t:Bool) (h:Heap) (i a:Addr) (n:Nat):Prop:=match t with
 | true=>h.IsTupleIter i a n
 | false=>h.IsListIter i a n
def zH (t:Bool) (h:Heap) (a:Addr) (xs:Array Value):Prop:=match t with
 | true=>h.IsTuple a xs
 | false=>h.IsList a xs
theorem fB.at {h h':Heap}{i a:Addr}{n:Nat}:∀ {t:Bool},fB t h i a n->(∀ o,h.get? i=some o->h'.get? i=some o)->fB t h' i a n
 | true,x,k=>Heap.IsTupleIter.at x k
 | false,x,k=>Heap.IsListIter.at x k
theorem fB.ob {h:Heap}{i a:Addr}{n:Nat}:∀ {t:Bool},fB t h i a n->∃ o,h.get? i=some o/\∀ v,o.data ≠ .cell v
 | true,⟨o,f,_,d⟩=>⟨o,f,fun v q=>by rw [d] at q; cases q⟩
 | false,⟨o,f,_,d⟩=>⟨o,f,fun v q=>by rw [d] at q; cases q⟩
theorem fB.draws {prog:Program}{w:World}{A:Around}:∀ (t:Bool) (hh:A.handled=none) (it a:Addr) (ne:a ≠ it) (items:Array Value),Draws prog w A it [it,a] items.size (fun i v=>items[i]? = some v) (fun i h=>fB t h it a i/\zH t h a items)
 | true,hh,it,a,ne,items=>Zp.ai6 hh it a ne items
 | false,hh,it,a,ne,items=>Draws.list hh it a ne items
section
variable {X : Cx} {pins : List (Addr × Obj)} {σ : St} {H : Hp} {s : Shared} {a : Addr} {xs ys : List V}
theorem Sq.get (I:a7 X pins σ H s):∀ {t:Bool},Sq t X.K H a xs->∃ us,aR xs us/\zH t s.heap a us.toArray
 | true,h=>by obtain ⟨us,r,p,_⟩:=I.tuple h; exact⟨us,r,p⟩
 | false,h=>by obtain ⟨us,r,p,_⟩:=I.list h; exact⟨us,r,p.isList⟩
theorem Sq.inj (I:a7 X pins σ H s):∀ {t:Bool},Sq t X.K H a xs->Sq t X.K H a ys->xs=ys
 | true,h,g=>I.tuple_inj h g
 | false,h,g=>I.list_inj h g
theorem Sq.off (I:a7 X pins σ H s) (he:H a=none) (hb:X.base.get? a=none):∀ {t:Bool},Sq t X.K H a xs->False
 | true,h=>by
  rcases h with (h | ⟨_,h⟩) | ⟨o,_,_,h,_⟩
  ·rw [he] at h; cases h
  ·rw [he] at h; cases h
  ·have:=I.ok.mod.kin a o h
   rw [hb] at this; cases this
 | false,h=>by
  rcases h with (h | ⟨_,h⟩) | ⟨o,_,_,h,_⟩
  ·rw [he] at h; cases h
  ·rw [he] at h; cases h
  ·have:=I.ok.mod.kin a o h
   rw [hb] at this; cases this
end
def ai8 (t1 t2:Bool) (K:PySem.W.Frag) (a b:Addr):It:=
  ⟨fun i H=>∃ xs ys x y,Sq t1 K H a xs/\Sq t2 K H b ys/\xs[i]? = some x/\ys[i]? = some y,
   fun i H v H'=>∃ T x y,H T=none/\v = .ref T/\H'=upd H T (.tup [x,y])/\∀ xs ys,Sq t1 K H a xs->Sq t2 K H b ys->xs[i]? = some x/\ys[i]? = some y,
   fun i H=>∃ xs ys,Sq t1 K H a xs/\Sq t2 K H b ys/\(i=xs.length ∨ (i < xs.length/\i=ys.length))⟩
structure pB (t1 t2:Bool) (z TI TO i1 i2 a b:Addr) (i:Nat) (h:Heap):Prop where
 zz:IsZip h z TI TO .none
 ti:IsPair h TI (.ref i1) (.ref i2)
 to_:∃ x y,IsPair h TO x y
 s1:fB t1 h i1 a i
 s2:fB t2 h i2 b i
theorem tS (t1 t2:Bool) {P:Program}{w:World}{K:PySem.W.Frag}{elts:List Expr}{k:Nat}{pos:Pos} (a b z TI TO i1 i2:Addr) (d : [z,TI,TO,i1,i2].Nodup) :
  gA P w K (.Tuple elts k pos) (ai8 t1 t2 K a b) [z,TI,TO,i1,i2] z (pB t1 t2 z TI TO i1 i2 a b):=by
 have nd:z ≠ TI/\z ≠ TO/\z ≠ i1/\z ≠ i2/\TI ≠ TO/\TI ≠ i1/\TI ≠ i2/\TO ≠ i1/\TO ≠ i2/\i1 ≠ i2:=by
  simp only [List.nodup_cons,aQ2,aQ4,aS6,not_or] at d
  obtain ⟨⟨a1,a2,a3,a4⟩,⟨b1,b2,b3⟩,⟨c1,c2⟩,e1,_⟩:=d
  exact⟨a1,a2,a3,a4,b1,b2,b3,c1,c2,e1⟩
 obtain ⟨n1,n2,n3,n4,n5,n6,n7,n8,n9,n10⟩:=nd
 have offBase:∀ {X:Cx}{pins:List (Addr × Obj)}{σ:St}{H:Hp}{s:Shared},a7 X pins σ H s->(∀ c ∈ [z,TI,TO,i1,i2],fM X pins H c)->∀ c ∈ [z,TI,TO,i1,i2],X.base.get? c=none:=by
  intro X pins σ H s I hf c hc
  cases q:X.base.get? c with
  | none=>rfl
  | some o=>
   rcases (hf c hc).2.2.2.1 with h | h
   ·exact absurd h (I.ok.noex c o q)
   ·exact absurd (aQ9 (aR0 q) (aU0 I.ok.bsz h)) (aU2 _)
 have off:∀ {t:Bool}{X:Cx}{pins:List (Addr × Obj)}{σ:St}{H:Hp}{s:Shared}{c:Addr}{zs:List V},a7 X pins σ H s->(∀ c ∈ [z,TI,TO,i1,i2],fM X pins H c)->Sq t X.K H c zs->c ∉ [z,TI,TO,i1,i2]:=by
  intro t X pins σ H s c zs I hf hc hm
  exact Sq.off I (hf c hm).1 (offBase I hf c hm) hc
 have ap:∀ {c e:Addr},c ∉ [z,TI,TO,i1,i2]->e ∉ [z,TI,TO,i1,i2]->Zp.Ap z TI TO i1 i2 [i1,c] [i2,e]:=fun {c e} hc he=>by
  simp only [aQ2,aQ4,aS6,not_or] at hc he
  obtain ⟨c1,c2,c3,c4,c5⟩:=hc
  obtain ⟨e1,e2,e3,e4,e5⟩:=he
  have two:∀ {q u v:Addr},q ≠ u->q ≠ v->q ∉ [u,v]:=fun {q u v} h1 h2 hm=>by
   simp only [aQ2,aQ4,aS6] at hm
   exact hm.elim h1 h2
  exact⟨n1.symm,n2.symm,n5,two n3 (Ne.symm c1),two n4 (Ne.symm e1),two n8 (Ne.symm c3),two n9 (Ne.symm e3),two n6 (Ne.symm c2),two n7 (Ne.symm e2),aR2,aR2,two n10 (Ne.symm e4),two n10.symm (Ne.symm c5)⟩
 refine⟨by simp,fun i h st c hc=>?_,fun i h h' st kp=>?_,?_,?_,fun A i s Q E st q=>wpAny_pyIter_zip st.zz q⟩
 ·simp only [aQ2,aQ4,aS6] at hc
  obtain ⟨x,y,to⟩:=st.to_
  rcases hc with rfl | rfl | rfl | rfl | rfl
  ·exact⟨_,st.zz,fun v q=>by cases q⟩
  ·exact⟨_,st.ti,fun v q=>by cases q⟩
  ·exact⟨_,to,fun v q=>by cases q⟩
  ·exact st.s1.ob
  ·exact st.s2.ob
 ·obtain ⟨x,y,to⟩:=st.to_
  exact⟨kp z (by simp) _ st.zz,kp TI (by simp) _ st.ti,⟨x,y,kp TO (by simp) _ to⟩,st.s1.at fun o e=>kp i1 (by simp) o e,st.s2.at fun o e=>kp i2 (by simp) o e⟩
 ·
  intro X hP hw hK hc i pins s σ H E I hf st hg
  subst hP hw hK
  obtain ⟨xs,ys,x,y,ha,hb,hx,hy⟩:=hg
  obtain ⟨us,ru,pu⟩:=Sq.get I ha
  obtain ⟨vs,rv,pv'⟩:=Sq.get I hb
  obtain ⟨ux,eux,rux⟩:=ru.get hx
  obtain ⟨vy,evy,rvy⟩:=rv.get hy
  have fa:=off I hf ha
  have fb:=off I hf hb
  have hh:X.A.in1.handled=none:=I.ok.hd hc
  have l1:i < us.toArray.size:=by simpa using (aQ7.mp eux).1
  have l2:i < vs.toArray.size:=by simpa using (aQ7.mp evy).1
  have fa':a ≠ i1:=fun q=>fa (by rw [q]; simp)
  have fb':b ≠ i2:=fun q=>fb (by rw [q]; simp)
  have D1:=fB.draws t1 (prog:=X.prog) (w:=X.w) hh i1 a fa' us.toArray
  have D2:=fB.draws t2 (prog:=X.prog) (w:=X.w) hh i2 b fb' vs.toArray
  refine Zp.item D1 D2 (ap fa fb) l1 l2 ⟨st.zz,st.ti,st.to_,⟨st.s1,pu⟩,⟨st.s2,pv'⟩⟩ fun p q h' tk hp hq st' pr kp sz=>⟨_,rfl,?_⟩
  obtain rfl:p=ux:=by
   have:us.toArray[i]? = some ux:=by simpa using eux
   rw [this] at hp; exact (aS7 hp).symm
  obtain rfl:q=vy:=by
   have:vs.toArray[i]? = some vy:=by simpa using evy
   rw [this] at hq; exact (aS7 hq).symm
  refine wpAny_letOwnedTupleGo_zip (s:={ s with heap:=h',toks:=tk }) st'.zz fun g zz sb=>?_
  have hzl:z < s.heap.objs.size:=aR0 st.zz
  have up:∀ c o,c ≠ z->c ≠ TO->c ≠ i1->c ≠ i2->s.heap.get? c=some o->g.get? c=some o:=fun c o c1 c2 c3 c4 e=>sb.extBut c o c1 (kp c o c1 c2 c3 c4 e)
  have hT:H s.heap.objs.size=none:=I.hok.fresh (aQ6 _)
  have prG:IsPair g s.heap.objs.size p q:=sb.extBut _ _ (aX9 hzl) pr
  have fpn:∀ c u,H c=some u->c ∉ [z,TI,TO,i1,i2]:=fun c u e hm=>by rw [(hf c hm).1] at e; cases e
  have upH:∀ c o u,H c=some u->s.heap.get? c=some o->g.get? c=some o:=fun c o u e z=>by
   have:=fpn c u e
   simp only [aQ2,aQ4,aS6,not_or] at this
   exact up c o this.1 this.2.2.1 this.2.2.2.1 this.2.2.2.2 z
  have ns:∀ m,s.heap.Ns X.env.locals m->g.Ns X.env.locals m:=fun m hm=>by
   obtain ⟨o,es,ep,e1,e2⟩:=hm
   exact⟨o,es,ep,up _ o (Ne.symm (hf z (by simp)).2.1) (Ne.symm (hf TO (by simp)).2.1) (Ne.symm (hf i1 (by simp)).2.1) (Ne.symm (hf i2 (by simp)).2.1) e1,e2⟩
  have I2:a7 X pins σ (upd H s.heap.objs.size (.tup [x,y])) { s with heap:=g,toks:=tk }:=by
   refine I.step (g':=s.gens) (d':=s.drawn) (ch:=[z,TO,i1,i2]) (fun c hc'=>?_) (fun c o _ _ hc' e _=>?_) (fun c o _ _ hc' e _=>⟨o.slots,?_⟩) (fun c o _ e n=>?_) (fun c o hc' e=>⟨o,?_⟩)
    (fun c zs e=>by rw [aJ (bS e hT)]; exact e) (fun c u zs e=>by rw [aJ (bS e hT)]; exact e) (fun c ps e=>⟨#[],by rw [aJ (bS e hT),e]; simp⟩) ns (fun c u e=>?_) I.bare
   ·have hm:c ∈ [z,TI,TO,i1,i2]:=by
     simp only [aQ2,aQ4,aS6] at hc' ⊢
     rcases hc' with h | h | h | h <;> simp [h]
    exact⟨(hf c hm).2.2.2.1,(hf c hm).2.1,(hf c hm).2.2.2.2.1,(hf c hm).2.2.2.2.2⟩
   ·simp only [aQ2,aQ4,aS6,not_or] at hc'
    exact up c o hc'.1 hc'.2.1 hc'.2.2.1 hc'.2.2.2 e
   ·simp only [aQ2,aQ4,aS6,not_or] at hc'
    exact up c o hc'.1 hc'.2.1 hc'.2.2.1 hc'.2.2.2 e
   ·rw [aJ (aS8 (aR0 e))]; exact n
   ·simp only [aQ2,aQ4,aS6,not_or] at hc'
    exact up c o hc'.1 hc'.2.1 hc'.2.2.1 hc'.2.2.2 e
   ·by_cases hcT:c=s.heap.objs.size
    ·subst hcT
     rw [aZ] at e; cases e
     exact⟨by show 2<=sizeLine; decide,[p,q],.cons rux (.cons rvy .nil),⟨_,prG,rfl,_,rfl⟩,fun u e=>by rw [prG] at e; cases e; rfl⟩
    ·rw [aJ hcT] at e
     refine (I.hok c u e).stay (fun c' o' hc2 q'=>?_) (fun c' q'=>by rw [aJ (bS q' hT)]; exact q') fun c' zs q'=>by rw [aJ (bS q' hT)]; exact q'
     rcases hc2 with rfl | hc2
     ·exact upH _ _ _ e q'
     ·exact upH _ _ _ hc2 q'
  obtain ⟨x',y',to'⟩:=st'.to_
  refine⟨.ref s.heap.objs.size,_,I2,rfl,⟨_,x,y,hT,rfl,rfl,fun xs' ys' ha' hb'=>?_⟩,⟨zz,sb.extBut _ _ n1.symm st'.ti,⟨x',y',sb.extBut _ _ n2.symm to'⟩,st'.s1.1.at fun o e=>sb.extBut _ o n3.symm e,st'.s2.1.at fun o e=>sb.extBut _ o n4.symm e⟩,fun c hc'=>?_⟩
  ·rw [Sq.inj I ha' ha,Sq.inj I hb' hb]; exact⟨hx,hy⟩
  ·obtain ⟨o,e,_⟩:∃ o,s.heap.get? c=some o/\True:=by
    simp only [aQ2,aQ4,aS6] at hc'
    obtain ⟨x2,y2,to2⟩:=st.to_
    obtain ⟨o1,f1,_⟩:=st.s1.ob
    obtain ⟨o2,f2,_⟩:=st.s2.ob
    rcases hc' with rfl | rfl | rfl | rfl | rfl
    ·exact⟨_,st.zz,trivial⟩
    ·exact⟨_,st.ti,trivial⟩
    ·exact⟨_,to2,trivial⟩
    ·exact⟨_,f1,trivial⟩
    ·exact⟨_,f2,trivial⟩
   rw [aJ (aS8 (aR0 e))]; exact (hf c hc').1
 ·
  intro X hP hw hK hc i pins s σ H E I hf st hg
  subst hP hw hK
  obtain ⟨xs,ys,ha,hb,hi⟩:=hg
  obtain ⟨us,ru,pu⟩:=Sq.get I ha
  obtain ⟨vs,rv,pv'⟩:=Sq.get I hb
  have fa:=off I hf ha
  have fb:=off I hf hb
  have hh:X.A.in1.handled=none:=I.ok.hd hc
  have fa':a ≠ i1:=fun q=>fa (by rw [q]; simp)
  have fb':b ≠ i2:=fun q=>fb (by rw [q]; simp)
  have D1:=fB.draws t1 (prog:=X.prog) (w:=X.w) hh i1 a fa' us.toArray
  have D2:=fB.draws t2 (prog:=X.prog) (w:=X.w) hh i2 b fb' vs.toArray
  have e1:=ru.length
  have e2:=rv.length
  refine Zp.fin D1 D2 (ap fa fb) (by simp only [aR3]; omega) ⟨st.zz,st.ti,st.to_,⟨st.s1,pu⟩,⟨st.s2,pv'⟩⟩ fun g tk kp=>⟨rfl,?_⟩
  have fpn:∀ c u,H c=some u->c ∉ [z,TI,TO,i1,i2]:=fun c u e hm=>by rw [(hf c hm).1] at e; cases e
  have upH:∀ c o u,H c=some u->s.heap.get? c=some o->g.get? c=some o:=fun c o u e z=>by
   have:=fpn c u e
   simp only [aQ2,aQ4,aS6,not_or] at this
   exact kp c o this.1 this.2.2.1 this.2.2.2.1 this.2.2.2.2 z
  have ns:∀ m,s.heap.Ns X.env.locals m->g.Ns X.env.locals m:=fun m hm=>by
   obtain ⟨o,es,ep,e1,e2⟩:=hm
   exact⟨o,es,ep,kp _ o (Ne.symm (hf z (by simp)).2.1) (Ne.symm (hf TO (by simp)).2.1) (Ne.symm (hf i1 (by simp)).2.1) (Ne.symm (hf i2 (by simp)).2.1) e1,e2⟩
  refine I.step (g':=s.gens) (d':=s.drawn) (ch:=[z,TO,i1,i2]) (fun c hc'=>?_) (fun c o _ _ hc' e _=>?_) (fun c o _ _ hc' e _=>⟨o.slots,?_⟩) (fun c o _ e n=>n) (fun c o hc' e=>⟨o,?_⟩)
   (fun c zs e=>e) (fun c u zs e=>e) (fun c ps e=>⟨#[],by rw [e]; simp⟩) ns (fun c u e=>?_) I.bare
  ·have hm:c ∈ [z,TI,TO,i1,i2]:=by
    simp only [aQ2,aQ4,aS6] at hc' ⊢
    rcases hc' with h | h | h | h <;> simp [h]
   exact⟨(hf c hm).2.2.2.1,(hf c hm).2.1,(hf c hm).2.2.2.2.1,(hf c hm).2.2.2.2.2⟩
  ·simp only [aQ2,aQ4,aS6,not_or] at hc'
   exact kp c o hc'.1 hc'.2.1 hc'.2.2.1 hc'.2.2.2 e
  ·simp only [aQ2,aQ4,aS6,not_or] at hc'
   exact kp c o hc'.1 hc'.2.1 hc'.2.2.1 hc'.2.2.2 e
  ·simp only [aQ2,aQ4,aS6,not_or] at hc'
   exact kp c o hc'.1 hc'.2.1 hc'.2.2.1 hc'.2.2.2 e
  ·refine (I.hok c u e).stay (fun c' o' hc2 q'=>?_) (fun _ q'=>q') fun _ _ q'=>q'
   rcases hc2 with rfl | hc2
   ·exact upH _ _ _ e q'
   ·exact upH _ _ _ hc2 q'
abbrev ai9:=pB true true
theorem zI {P:Program}{w:World}{K:PySem.W.Frag}{elts:List Expr}{k:Nat}{pos:Pos} (a b z TI TO i1 i2:Addr) (d : [z,TI,TO,i1,i2].Nodup) :
  gA P w K (.Tuple elts k pos) (jE K a b) [z,TI,TO,i1,i2] z (ai9 z TI TO i1 i2 a b):=tS true true a b z TI TO i1 i2 d
section
variable {X : Cx}
def aj0 (K:PySem.W.Frag) (ta:TA):TI:=fun σ H R=>ta σ H fun vs H1=>∃ a b xs ys,vs = [.ref a,.ref b]/\aF K H1 a xs/\aF K H1 b ys/\R (jE K a b) H1
theorem zJ {elts:List Expr}{kt:Nat}{pt:Pos}{a b:Expr}{ta:TA}{p pos:Pos} (hg:Gl X "zip") (hm:X.mg "zip" = none) (ha:PA X [a,b] ta) (hs:starEach [a,b] X.env = [(false,eval a X.env),(false,eval b X.env)]:=by rfl) (hs2:starEach [b] X.env = [(false,eval b X.env)]:=by rfl) :
  PI X (.Tuple elts kt pt) (.Call (.Name "zip" p) [a,b] [] pos) (aj0 X.K ta):=by
 intro pins s σ H R I h
 refine Call_ (gS I hg hm PyProof.Rows.boot_zip (aU7 (aK (ha pos pins s σ H _ I h) fun us s1 ⟨vs,H1,I1,r1,q1⟩=>?_) (by rw [hs,hs2]) (by rw [hs2]; rfl)))
 obtain ⟨a',b',xs,ys,e,h1,h2,q⟩:=q1
 subst e
 cases r1 with
 | cons r rr=>
  cases rr with
  | cons r' rr=>
   cases rr
   cases r
   cases r'
   obtain ⟨us,_,p1,_⟩:=I1.tuple h1
   obtain ⟨ws,_,p2,_⟩:=I1.tuple h2
   refine Zp.zG p1 p2 fun h' z ti to s1' s2' kp=>wpAny_pyIter_zip z ?_
   have fresh:∀ k,H1 (s1.heap.objs.size+k)=none:=fun k=>I1.hok.fresh (aS0 _ _)
   refine⟨s1.heap.objs.size+4,[s1.heap.objs.size+4,s1.heap.objs.size+2,s1.heap.objs.size+3,s1.heap.objs.size,s1.heap.objs.size+1],_,_,H1,rfl,I1.kept (t':=s1.toks) kp,
    zI a' b' _ _ _ _ _ (by simp),⟨z,ti,⟨_,_,to⟩,s1',s2'⟩,fun c hc=>?_,q⟩
   simp only [aQ2,aQ4,aS6] at hc
   rcases hc with rfl | rfl | rfl | rfl | rfl
   ·exact I1.fpOk (aS0 _ _) (fresh 4)
   ·exact I1.fpOk (aS0 _ _) (fresh 2)
   ·exact I1.fpOk (aS0 _ _) (fresh 3)
   ·exact I1.fpOk (aQ6 _) (fresh 0)
   ·exact I1.fpOk (aS0 _ _) (fresh 1)
theorem tT (hc:X.calm=true):cS X (.builtin "all") (fun xs H Q=>∃ (a:Addr) (bs:List Bool),xs = [.ref a]/\aH X.K H a (bs.map V.bl)/\Q (.bl (bs.all id)) H):=by
 intro pins s σ H xs us Q I r h
 obtain ⟨a,bs,rfl,hq,q⟩:=h
 obtain ⟨u,rfl,ru⟩:=eI r
 cases ru
 obtain ⟨its,rv,p,hz⟩:=I.list hq
 have hl:=rv.length
 rw [aQ3] at hl
 have hlt:a < s.heap.objs.size:=by obtain ⟨o,e,_⟩:=p.isList; exact aR0 e
 refine call_all_walk (wpAny_pyIter_list p.isList ?_)
 have hh:X.A.in1.handled=none:=I.ok.hd hc
 refine⟨s.heap.objs.size,_,_,_,_,_,fun i=>bs.getD i false,rfl,Walks.list hh s.heap.objs.size a (aS8 hlt) its.toArray,⟨⟨_,aR5 _ rfl,rfl,rfl⟩,p.isList.push _⟩,?_,fun h' tk kp=>?_⟩
 ·intro i v s' Q' E' hP hQ'
  have hi:its[i]? = some v:=by simpa using hP
  have hil:i < bs.length:=by rw [hl]; exact (aQ7.mp hi).1
  obtain ⟨u,e1,e2⟩:=rv.get (i:=i) (x:=.bl bs[i]) (by simp [hil])
  rw [hi] at e1; cases e1
  cases e2
  have:bs.getD i false=bs[i]:=by rw [aS2,aR7 hil]; rfl
  have hQ2:Q' (bs.getD i false) s':=hQ'
  rw [this] at hQ2
  exact aZ3 hQ2
 ·have all_eq:(List.range its.toArray.size).all (fun i=>bs.getD i false)=bs.all id:=by
   rw [aR3,<- hl]
   clear q rv hz hl hq hlt p hh kp
   induction bs with
   | nil=>rfl
   | cons b r ih=>
    rw [aU1,List.range_succ_eq_map,List.all_cons,List.all_map,List.all_cons,<- ih]
    rfl
  rw [all_eq]
  refine⟨.bl (bs.all id),H,I.kept (t':=tk) (h':=h') fun b o e=>kp b o (fun z=>?_) (aQ1 _ e),rfl,q⟩
  rw [aR8.mp z] at e
  exact absurd (aR0 e) (aU2 _)
end
structure tU (H:Hp) (J:It) (n:Nat) (R:Nat->V->Hp->Prop):Prop where
 go:∀ i H',aB H H'->i < n->J.go i H'
 yld:∀ i H' x H2,aB H H'->J.yld i H' x H2->i < n->aB H' H2/\R i x H2
 stop:∀ H',aB H H'->J.stop n H'
theorem tV {H1:Hp}{J:It}{n:Nat}{R:Nat->V->Hp->Prop}{g:TG}{tc:TT}{te:TE}{σ0:St}{Q:VK} (O:tU H1 J n R) (Pv:Nat->List V->Hp->Prop) (hn:n<=sizeLine)
  (h0:∀ D,H1 D=none->Pv 0 [] (upd H1 D (.lst [])))
  (mono:∀ i acc H' H2,aB H' H2->Pv i acc H'->Pv i acc H2)
  (hs:∀ i x acc D H',i < n->R i x H'->oY H1 D n i acc H'->Pv i acc H'->g x σ0 H' fun σ2 H3=>Wk σ0 σ2/\tc σ2 H3 fun b H4=>
   if b=true then te σ2 H4 fun v H5=>tH H1 D n Pv i acc v H5 else yO H1 D n Pv i acc H4)
  (hd:∀ D acc H',H1 D=none->aB H1 H'->H' D=some (.lst acc)->acc.length<=n->Pv n acc H'->Q (.ref D) H') :
  ∀ D,H1 D=none->∃ W:Nat->Nat->List V->Hp->Prop,(∃ m,W 0 m [] (upd H1 D (.lst [])))/\mS g tc te σ0 J D Q W:=by
 intro D hD
 refine⟨CW H1 D n Pv,⟨n,rfl,aT7 _,aQ6 _,b6 hD _,aZ,h0 D hD⟩,?_⟩
 rintro i m acc H' ⟨rfl,hi,ha,sm,hDa,p⟩
 refine⟨hDa,?_⟩
 by_cases hlt:i < n
 ·refine .inr ⟨O.go i H' sm hlt,fun x H2 y=>?_⟩
  obtain ⟨s2,r2⟩:=O.yld i H' x H2 sm y hlt
  exact hs i x acc D H2 hlt r2 ⟨hlt,ha,hn,sm.trans s2,hD,s2 _ _ hDa⟩ (mono i acc H' H2 s2 p)
 ·have e:i=n:=by omega
  subst e
  exact .inl ⟨O.stop H' sm,hd D acc H' hD sm hDa ha p⟩
theorem zK {K:PySem.W.Frag}{H:Hp}{a b:Addr}{xs ys:List V} (ha:aF K H a xs) (hb:aF K H b ys) (hl:ys.length<=xs.length) :
  tU H (jE K a b) ys.length (fun i v H2=>∃ T x y,v = .ref T/\H2 T=some (.tup [x,y])/\xs[i]? = some x/\ys[i]? = some y):=by
 refine⟨fun i H' sm hi=>⟨xs,ys,xs[i]'(by omega),ys[i],sm.tup ha,sm.tup hb,by simp,by simp⟩,fun i H' v H2 sm y hi=>?_,fun H' sm=>⟨xs,ys,sm.tup ha,sm.tup hb,by omega⟩⟩
 obtain ⟨T,x,y',hT,hv,e,hxy⟩:=y
 subst e
 obtain ⟨h1,h2⟩:=hxy xs ys (sm.tup ha) (sm.tup hb)
 exact⟨b6 hT _,T,x,y',hv,aZ,h1,h2⟩
end L2
namespace HT
open PySem PyProof.Rows
section
variable {prog : Program} {w : World} {A : Around} {E : Value → Shared → Prop} {s : Shared}
theorem aj1 {t sl:Addr}{items:Array Value}{vl vu:Value}{lo hi:Option Int}{Q:Value->Shared->Prop} (ht:IsTup s.heap t items) (hs:s.heap.IsSliceOf sl vl vu .none) (pl:IsPart vl lo) (pu:IsPart vu hi)
  (h1:aS items.size 0 lo=0) (h2:aS items.size items.size hi=items.size) (h:Q (.ref t) s):wpAny (model prog w) A (getItem (.ref t) (.ref sl)) Q E s:=by
 obtain ⟨o,e1,e2,e3⟩:=id hs
 have T:s.TypeIs (.ref sl) "slice":=⟨o,e1,e2⟩
 unfold getItem
 try with_reducible refine bb9 ?_
 first | refine aQ0 (aQ5 ?_) | skip
 apply aQ0
 apply wpAny_sequenceKey ht.typeIs (by decide)
 apply aQ0
 apply aV2 (name:=Str.ofString "__getitem__") ht.typeIs aZ6
 apply aX3 aZ6 ht.typeIs entry_tuple_getitem _ (args_tuple_getitem _ _)
 change wpAny _ _ (Builtin.Tuple.tupleItemsOf (.ref t) >>= _) _ _ s
 apply aQ0
 apply tupleItemsOf_ ht
 apply aQ0
 apply wpAny_typeOf T
 rw [if_pos (by decide)]
 apply aQ0
 apply xF hs pl pu
 rw [h1,h2]
 have yes:((((0:Nat):Int) == 0 && (1:Int) == 1 && (items.size - 0) == items.size)=true):=by simp
 change wpAny _ _ (if ((((0:Nat):Int) == 0 && (1:Int) == 1 && (items.size - 0) == items.size)=true) then _ else _) _ _ s
 rw [if_pos yes]
 apply aQ0
 unfold Builtin.Tuple.tupleIsExact
 apply aQ0
 apply wpAny_typeOf ht.typeIs
 apply aQ5
 change wpAny _ _ (rule "tuple.getitem.whole" >>= fun _=>ret (Value.ref t)) _ _ s
 apply aQ0
 apply wpAny_rule
 exact aQ5 ⟨_,rfl,aQ5 h⟩
end
end HT
namespace L2
open PySem PySem.Spec PyProof.Rows
section
variable {X : Cx}
def aj2 (K:PySem.W.Frag):V->Option Int->Option Int->Hp->VK->Prop:=fun x lo hi H Q=>∃ a xs,x = .ref a/\aF K H a xs/\(∀ p,H p=none->Q (.ref p) (upd H p (.tup (dH xs lo hi))))/\(dH xs lo hi=xs->Q (.ref a) H)
theorem zL:j6 X (aj2 X.K):=by
 intro pins s σ H x v vl vu lo hi sl Q I rx hs pl pu h
 obtain ⟨a,xs,ex,hx,q1,q2⟩:=h
 by_cases hw:HT.aS xs.length 0 lo=0/\HT.aS xs.length xs.length hi=xs.length
 ·subst ex
  cases rx
  obtain ⟨its,r,ht,hz⟩:=I.tuple hx
  have hlen:its.toArray.size=xs.length:=by rw [aR3]; exact r.length.symm
  refine⟨"tuple",_,PyProof.Rows.slot_tuple_getitem.lookup,ht.typeIs,?_⟩
  refine HT.aj1 ht hs pl pu (by rw [hlen]; exact hw.1) (by rw [hlen]; exact hw.2) ⟨.ref a,H,I,rfl,q2 ?_⟩
  unfold dH
  rw [hw.1,hw.2]
  simp
 ·exact ac4 pins s σ H x v vl vu lo hi sl Q I rx hs pl pu ⟨a,xs,ex,hx,hw,q1⟩
end
theorem tW (xs:List V):dH xs (some 1) none=xs.drop 1:=by
 unfold dH
 have e1:HT.aS xs.length 0 (some 1)=min 1 xs.length:=HT.xC xs.length 0 1
 have e2:HT.aS xs.length xs.length none=xs.length:=rfl
 rw [e1,e2]
 cases xs with
 | nil=>rfl
 | cons x r=>
  have:min 1 (x :: r).length=1:=by simp
  rw [this]
  simp
def tX (K:PySem.W.Frag) (a b:Addr):It:=
  ⟨fun i H=>∃ xs ys x y,aH K H a xs/\aH K H b ys/\xs[i]? = some x/\ys[i]? = some y,
   fun i H v H'=>∃ T x y,H T=none/\v = .ref T/\H'=upd H T (.tup [x,y])/\∀ xs ys,aH K H a xs->aH K H b ys->xs[i]? = some x/\ys[i]? = some y,
   fun i H=>∃ xs ys,aH K H a xs/\aH K H b ys/\(i=xs.length ∨ (i < xs.length/\i=ys.length))⟩
abbrev aj3:=pB false false
theorem aj4 {P:Program}{w:World}{K:PySem.W.Frag}{elts:List Expr}{k:Nat}{pos:Pos} (a b z TI TO i1 i2:Addr) (d : [z,TI,TO,i1,i2].Nodup) :
  gA P w K (.Tuple elts k pos) (tX K a b) [z,TI,TO,i1,i2] z (aj3 z TI TO i1 i2 a b):=tS false false a b z TI TO i1 i2 d
section
variable {X : Cx}
def aj5 (K:PySem.W.Frag) (ta:TA):TI:=fun σ H R=>ta σ H fun vs H1=>∃ a b xs ys,vs = [.ref a,.ref b]/\aH K H1 a xs/\aH K H1 b ys/\R (tX K a b) H1
theorem aj6 {elts:List Expr}{kt:Nat}{pt:Pos}{a b:Expr}{ta:TA}{p pos:Pos} (hg:Gl X "zip") (hm:X.mg "zip" = none) (ha:PA X [a,b] ta) (hs:starEach [a,b] X.env = [(false,eval a X.env),(false,eval b X.env)]:=by rfl) (hs2:starEach [b] X.env = [(false,eval b X.env)]:=by rfl) :
  PI X (.Tuple elts kt pt) (.Call (.Name "zip" p) [a,b] [] pos) (aj5 X.K ta):=by
 intro pins s σ H R I h
 refine Call_ (gS I hg hm PyProof.Rows.boot_zip (aU7 (aK (ha pos pins s σ H _ I h) fun us s1 ⟨vs,H1,I1,r1,q1⟩=>?_) (by rw [hs,hs2]) (by rw [hs2]; rfl)))
 obtain ⟨a',b',xs,ys,e,h1,h2,q⟩:=q1
 subst e
 cases r1 with
 | cons r rr=>
  cases rr with
  | cons r' rr=>
   cases rr
   cases r
   cases r'
   obtain ⟨us,_,p1,_⟩:=I1.list h1
   obtain ⟨ws,_,p2,_⟩:=I1.list h2
   refine call_zip_2 p1.isList p2.isList fun h' z ti to s1' s2' _ kp=>wpAny_pyIter_zip z ?_
   have fresh:∀ k,H1 (s1.heap.objs.size+k)=none:=fun k=>I1.hok.fresh (aS0 _ _)
   refine⟨s1.heap.objs.size+4,[s1.heap.objs.size+4,s1.heap.objs.size+2,s1.heap.objs.size+3,s1.heap.objs.size,s1.heap.objs.size+1],_,_,H1,rfl,I1.kept (t':=s1.toks) kp,
    aj4 a' b' _ _ _ _ _ (by simp),⟨z,ti,⟨_,_,to⟩,s1',s2'⟩,fun c hc=>?_,q⟩
   simp only [aQ2,aQ4,aS6] at hc
   rcases hc with rfl | rfl | rfl | rfl | rfl
   ·exact I1.fpOk (aS0 _ _) (fresh 4)
   ·exact I1.fpOk (aS0 _ _) (fresh 2)
   ·exact I1.fpOk (aS0 _ _) (fresh 3)
   ·exact I1.fpOk (aQ6 _) (fresh 0)
   ·exact I1.fpOk (aS0 _ _) (fresh 1)
end
theorem aj7 {K:PySem.W.Frag}{H:Hp}{a b:Addr}{xs ys:List V} (ha:aH K H a xs) (hb:aH K H b ys) (hl:ys.length<=xs.length) :
  tU H (tX K a b) ys.length (fun i v H2=>∃ T x y,v = .ref T/\H2 T=some (.tup [x,y])/\xs[i]? = some x/\ys[i]? = some y):=by
 refine⟨fun i H' sm hi=>⟨xs,ys,xs[i]'(by omega),ys[i],sm.seq ha,sm.seq hb,by simp,by simp⟩,fun i H' v H2 sm y hi=>?_,fun H' sm=>⟨xs,ys,sm.seq ha,sm.seq hb,by omega⟩⟩
 obtain ⟨T,x,y',hT,hv,e,hxy⟩:=y
 subst e
 obtain ⟨h1,h2⟩:=hxy xs ys (sm.seq ha) (sm.seq hb)
 exact⟨b6 hT _,T,x,y',hv,aZ,h1,h2⟩
section
variable {X : Cx} {pins : List (Addr × Obj)} {σ : St} {H : Hp} {s : Shared} {a b : Addr} {A : Around} {E : Value → Shared → Prop}
theorem aj8 {kvs more:List (aC × V)}{Q:Value->Shared->Prop} (I:a7 X pins σ H s) (ea:H a=some (.dK kvs)) (eb:H b=some (.dK more)) (hne:a ≠ b) (hl:kvs.length+more.length<=sizeLine)
  (h:∀ s',a7 X pins σ (upd H a (.dK (kD kvs more))) s'->Q .none s'):wpAny (model X.prog X.w) A (call (.builtin "dict.update") [.ref a,.ref b]) Q E s:=by
 obtain ⟨z,hd,vs,rel,dd⟩:=sX I.hok ea
 obtain ⟨z2,hd2,rs,rel2,dd2⟩:=sX I.hok eb
 have l1:=rel.length
 have l2:=rel2.length
 refine call_meetsIn PySem.F.slot_dict_update dd.typeIs PySem.F.entry_dict_update (PySem.F.args_dict_update_2 _ _) (meets_dict_update (dG X.prog X.w) a b hne hd2) ⟨vs,rs,dd,dd2,by omega,fun h' dd' _ hs=>h _ ?_⟩
 have he:∃ q,h'.get? a=some q:=let ⟨q,_,_,hq,_⟩:=dd'; ⟨q,hq⟩
 refine sY I (by rw [ea]; exact True.intro) hs he (xU ?_ hd (rel2.merge rel) dd')
 have:=yB more kvs
 omega
end
def zM (td ty:TE):TE:=fun σ H Q=>td σ H fun x H1=>∃ a,x = .ref a/\t4 H1 a/\ty σ H1 fun y H2=>∃ (b:Addr) (kvs more:List (aC × V)),y = .ref b/\a ≠ b/\H2 a=some (.dK kvs)/\H2 b=some (.dK more)/\kvs.length+more.length<=sizeLine/\Q .non (upd H2 a (.dK (kD kvs more)))
section
variable {X : Cx} {o e : Expr} {apos cpos : Pos} {td ty : TE}
theorem aj9 (ho:PE X o td) (he:PE X e ty) (m:M1 X o "update" apos e cpos):PE X (.Call (.Attribute o "update" apos) [e] [] cpos) (zM td ty):=by
 intro pins s σ H Q I h
 refine wpAny_Call_method m.base m.few m.line PySem.F.plainAttrs_dict PySem.F.slot_dict_update PySem.F.type_dict_update (aK (ho pins s σ H _ I h) fun u s1 ⟨x,H1,I1,rx,a,ex,d,q1⟩=>?_)
 subst ex
 obtain rfl:u=Value.ref a:=rx
 obtain ⟨t1,t2,_⟩:=yC I1 d
 refine⟨t1,t2,?_⟩
 rw [m.trees]
 refine Calls.callWith_builtin rfl (Calls.evalArgs_plain (Calls.spliced_cons (aK (he pins s1 σ H1 _ I1 q1) fun iv s2 ⟨y,H2,I2,ry,b,kvs,more,ey,ne,ea,eb,l,q2⟩=>Calls.spliced_nil ?_)))
 subst ey
 obtain rfl:iv=Value.ref b:=ry
 exact aj8 I2 ea eb ne l fun s3 I3=>⟨.non,_,I3,rfl,q2⟩
end
end L2
namespace PP
open PySem L2
inductive PV where
 | non | bl (b:Bool) | int (i:Int) | str (x:Str) | tup (xs:List PV) | lst (xs:List PV)
 | dK (kvs:List (aC × PV)) | dT (kvs:List (List aC × PV)) | scr (ns:List Int) | kt (xs:List PV) | exc (c:Str) | fK (kvs:List (aC × PV)) | fT (kvs:List (List aC × PV))
mutual
def flat:PV->Bool
 | .tup xs=>flats xs
 | .lst _=>false
 | .dK _=>false
 | .dT _=>false
 | .non=>true
 | .bl _=>true
 | .int _=>true
 | .str _=>true
 | .scr _=>true
 | .kt xs=>flats xs
 | .exc _=>true
 | .fK _=>false
 | .fT _=>false
def flats:List PV->Bool
 | []=>true
 | x :: r=>flat x && flats r
end
def iC (K:PySem.W.Frag) (H:Hp) (a:Addr) (ns:List Int):Prop:=(∃ o,H a=some (.frz o (.lst (ns.map V.int)))) ∨
  ∃ (o:Obj) (its:Array Value) (n:Nat),K.lookup a=some o/\o.cls = .type "list"/\o.dict=none/\o.data = .seq its n/\its.size<=sizeLine/\aR (ns.map V.int) its.toList
def ak0 (K:PySem.W.Frag) (a:Addr) (us:List V):Prop:=∃ (o:Obj) (its:Array Value) (n:Nat),K.lookup a=some o/\o.cls = .type "tuple"/\o.data = .seq its n/\its.size<=sizeLine/\aR us its.toList
mutual
inductive aL (K:PySem.W.Frag) (M:Addr->Prop) (H:Hp):V->PV->Prop
 | non:aL K M H .non .non
 | bl (b:Bool):aL K M H (.bl b) (.bl b)
 | int (i:Int):aL K M H (.int i) (.int i)
 | str (x:Str):aL K M H (.str x) (.str x)
 | tup {a:Addr}{us:List V}{xs:List PV}:H a=some (.tup us)->Reps K M H us xs->aL K M H (.ref a) (.tup xs)
 | lst {a:Addr}{us:List V}{xs:List PV}:M a->H a=some (.lst us)->Reps K M H us xs->aL K M H (.ref a) (.lst xs)
 | dK {a:Addr}{kvs:List (aC × V)}{ps:List (aC × PV)}:M a->H a=some (.dK kvs)->kvs.map (·.1)=ps.map (·.1)->Reps K M H (kvs.map (·.2)) (ps.map (·.2))->aL K M H (.ref a) (.dK ps)
 | dT {a:Addr}{kvs:List (List aC × V)}{ps:List (List aC × PV)}:M a->H a=some (.dT kvs)->kvs.map (·.1)=ps.map (·.1)->Reps K M H (kvs.map (·.2)) (ps.map (·.2))->aL K M H (.ref a) (.dT ps)
 | scr {a:Addr}{ns:List Int}:iC K H a ns->aL K M H (.ref a) (.scr ns)
 | kt {a:Addr}{us:List V}{xs:List PV}:ak0 K a us->Reps K M H us xs->aL K M H (.ref a) (.kt xs)
 | exc {a C:Addr}{o:Obj}{c:Str}:H a=some (.frz o (.own a))->PySem.W.nsIn K mainGlobals c=some (some (.ref C))->o.cls = .ref C->aL K M H (.ref a) (.exc c)
 | fK {a:Addr}{o:Obj}{kvs:List (aC × V)}{ps:List (aC × PV)}:H a=some (.frz o (.dK kvs))->kvs.map (·.1)=ps.map (·.1)->Reps K M H (kvs.map (·.2)) (ps.map (·.2))->aL K M H (.ref a) (.fK ps)
 | fT {a:Addr}{o:Obj}{kvs:List (List aC × V)}{ps:List (List aC × PV)}:H a=some (.frz o (.dT kvs))->kvs.map (·.1)=ps.map (·.1)->Reps K M H (kvs.map (·.2)) (ps.map (·.2))->aL K M H (.ref a) (.fT ps)
inductive Reps (K:PySem.W.Frag) (M:Addr->Prop) (H:Hp):List V->List PV->Prop
 | nil:Reps K M H [] []
 | cons {v:V}{x:PV}{vs:List V}{xs:List PV}:aL K M H v x->Reps K M H vs xs->Reps K M H (v :: vs) (x :: xs)
end
structure gW (M M':Addr->Prop) (H H':Hp):Prop where
 lst:∀ a us,M a->H a=some (.lst us)->M' a/\H' a=some (.lst us)
 dK:∀ a kvs,M a->H a=some (.dK kvs)->M' a/\H' a=some (.dK kvs)
 dT:∀ a kvs,M a->H a=some (.dT kvs)->M' a/\H' a=some (.dT kvs)
 tup:∀ a us,H a=some (.tup us)->H' a=some (.tup us)
 frz:∀ a o u,H a=some (.frz o u)->H' a=some (.frz o u)
theorem iC.keep {K:PySem.W.Frag}{H H':Hp}{a:Addr}{ns:List Int} (k:∀ a o u,H a=some (.frz o u)->H' a=some (.frz o u)) (h:iC K H a ns):iC K H' a ns:=
 h.elim (fun ⟨o,e⟩=>.inl ⟨o,k _ _ _ e⟩) .inr
mutual
theorem aL.keep {K:PySem.W.Frag}{M M':Addr->Prop}{H H':Hp} (k:gW M M' H H'):∀ {v:V}{x:PV},aL K M H v x->aL K M' H' v x
 | _,_,.non=>.non
 | _,_,.bl b=>.bl b
 | _,_,.int i=>.int i
 | _,_,.str x=>.str x
 | _,_,.tup h r=>.tup (k.tup _ _ h) (Reps.keep k r)
 | _,_,.lst m h r=>.lst (k.lst _ _ m h).1 (k.lst _ _ m h).2 (Reps.keep k r)
 | _,_,.dK m h e r=>.dK (k.dK _ _ m h).1 (k.dK _ _ m h).2 e (Reps.keep k r)
 | _,_,.dT m h e r=>.dT (k.dT _ _ m h).1 (k.dT _ _ m h).2 e (Reps.keep k r)
 | _,_,.scr h=>.scr (h.keep k.frz)
 | _,_,.kt h r=>.kt h (Reps.keep k r)
 | _,_,.exc h e c=>.exc (k.frz _ _ _ h) e c
 | _,_,.fK h e r=>.fK (k.frz _ _ _ h) e (Reps.keep k r)
 | _,_,.fT h e r=>.fT (k.frz _ _ _ h) e (Reps.keep k r)
theorem Reps.keep {K:PySem.W.Frag}{M M':Addr->Prop}{H H':Hp} (k:gW M M' H H'):∀ {vs:List V}{xs:List PV},Reps K M H vs xs->Reps K M' H' vs xs
 | _,_,.nil=>.nil
 | _,_,.cons r t=>.cons (aL.keep k r) (Reps.keep k t)
end
mutual
theorem aL.flat {K:PySem.W.Frag}{M M':Addr->Prop}{H:Hp}{v:V}{x:PV} (f:flat x=true) (r:aL K M H v x):aL K M' H v x:=by
 cases r with
 | non=>exact .non
 | bl b=>exact .bl b
 | int i=>exact .int i
 | str x=>exact .str x
 | tup h r=>exact .tup h (Reps.flat (by unfold PP.flat at f; exact f) r)
 | lst m h r=>unfold PP.flat at f; cases f
 | dK m h e r=>unfold PP.flat at f; cases f
 | dT m h e r=>unfold PP.flat at f; cases f
 | scr h=>exact .scr h
 | kt h r=>exact .kt h (Reps.flat (by unfold PP.flat at f; exact f) r)
 | exc h e c=>exact .exc h e c
 | fK h e r=>unfold PP.flat at f; cases f
 | fT h e r=>unfold PP.flat at f; cases f
theorem Reps.flat {K:PySem.W.Frag}{M M':Addr->Prop}{H:Hp}{vs:List V}{xs:List PV} (f:flats xs=true) (r:Reps K M H vs xs):Reps K M' H vs xs:=by
 cases r with
 | nil=>exact .nil
 | cons r t=>
  unfold PP.flats at f
  rw [aW5] at f
  exact .cons (aL.flat f.1 r) (Reps.flat f.2 t)
end
theorem gW.same {M M':Addr->Prop}{H H':Hp} (s:aB H H') (m:∀ a,M a->M' a):gW M M' H H':=
 ⟨fun a _ h e=>⟨m a h,s _ _ e⟩,fun a _ h e=>⟨m a h,s _ _ e⟩,fun a _ h e=>⟨m a h,s _ _ e⟩,fun _ _ e=>s _ _ e,fun _ _ _ e=>s _ _ e⟩
theorem aL.same {K:PySem.W.Frag}{M M':Addr->Prop}{H H':Hp}{v:V}{x:PV} (r:aL K M H v x) (s:aB H H') (m:∀ a,M a->M' a):aL K M' H' v x:=r.keep (.same s m)
theorem Reps.same {K:PySem.W.Frag}{M M':Addr->Prop}{H H':Hp}{v:List V}{x:List PV} (r:Reps K M H v x) (s:aB H H') (m:∀ a,M a->M' a):Reps K M' H' v x:=r.keep (.same s m)
def eU:HO->Bool
 | .lst _=>true
 | .dK _=>true
 | .dT _=>true
 | _=>false
theorem gW.upd {M M':Addr->Prop}{H:Hp}{a:Addr}{o o':HO} (h:H a=some o') (mu:eU o'=true) (m:∀ b,M b->b ≠ a/\M' b):gW M M' H (upd H a o):=
 ⟨fun b _ hb e=>⟨(m b hb).2,by rw [aJ (m b hb).1]; exact e⟩,fun b _ hb e=>⟨(m b hb).2,by rw [aJ (m b hb).1]; exact e⟩,fun b _ hb e=>⟨(m b hb).2,by rw [aJ (m b hb).1]; exact e⟩,
  fun b _ e=>by rw [aJ (fun z=>by rw [z,h] at e; cases e; cases mu)]; exact e,
  fun b _ _ e=>by rw [aJ (fun z=>by rw [z,h] at e; cases e; cases mu)]; exact e⟩
theorem Reps.length {K:PySem.W.Frag}{M:Addr->Prop}{H:Hp}:∀ {vs:List V}{xs:List PV},Reps K M H vs xs->vs.length=xs.length
 | _,_,.nil=>rfl
 | _,_,.cons _ t=>congrArg (· + 1) t.length
theorem Reps.get {K:PySem.W.Frag}{M:Addr->Prop}{H:Hp}:∀ {vs:List V}{xs:List PV}{i:Nat}{v:V},Reps K M H vs xs->vs[i]? = some v->∃ x,xs[i]? = some x/\aL K M H v x
 | _,_,_,_,.nil,e=>by simp at e
 | _,_,0,_,.cons r _,e=>by simp at e; subst e; exact⟨_,rfl,r⟩
 | _,_,i+1,v,.cons _ t,e=>by
  rw [aX6] at e
  obtain ⟨x,h1,h2⟩:=t.get e
  exact⟨x,by rw [aX6]; exact h1,h2⟩
theorem Reps.at {K:PySem.W.Frag}{M:Addr->Prop}{H:Hp}:∀ {vs:List V}{xs:List PV}{i:Nat}{x:PV},Reps K M H vs xs->xs[i]? = some x->∃ v,vs[i]? = some v/\aL K M H v x
 | _,_,_,_,.nil,e=>by simp at e
 | _,_,0,_,.cons r _,e=>by simp at e; subst e; exact⟨_,rfl,r⟩
 | _,_,i+1,v,.cons _ t,e=>by
  rw [aX6] at e
  obtain ⟨x,h1,h2⟩:=t.at e
  exact⟨x,by rw [aX6]; exact h1,h2⟩
theorem Reps.append {K:PySem.W.Frag}{M:Addr->Prop}{H:Hp}:∀ {vs:List V}{xs:List PV}{us:List V}{ys:List PV},Reps K M H vs xs->Reps K M H us ys->Reps K M H (vs ++ us) (xs ++ ys)
 | _,_,_,_,.nil,s=>s
 | _,_,_,_,.cons r t,s=>.cons r (t.append s)
theorem Reps.take {K:PySem.W.Frag}{M:Addr->Prop}{H:Hp}:∀ (n:Nat) {vs:List V}{xs:List PV},Reps K M H vs xs->Reps K M H (vs.take n) (xs.take n)
 | 0,_,_,_=>by simp; exact .nil
 | _+1,_,_,.nil=>.nil
 | n+1,_,_,.cons r t=>.cons r (Reps.take n t)
theorem Reps.drop {K:PySem.W.Frag}{M:Addr->Prop}{H:Hp}:∀ (n:Nat) {vs:List V}{xs:List PV},Reps K M H vs xs->Reps K M H (vs.drop n) (xs.drop n)
 | 0,_,_,r=>r
 | _+1,_,_,.nil=>.nil
 | n+1,_,_,.cons _ t=>Reps.drop n t
abbrev intz (ns:List Int):List PV:=ns.map PV.int
theorem Reps.intz {K:PySem.W.Frag}{M:Addr->Prop}{H:Hp}:∀ (ns:List Int),Reps K M H (ns.map V.int) (intz ns)
 | []=>.nil
 | n :: r=>.cons (.int n) (Reps.intz r)
theorem Reps.ofInts {K:PySem.W.Frag}{M:Addr->Prop}{H:Hp}:∀ {ns:List Int}{us:List V},Reps K M H us (PP.intz ns)->us=ns.map V.int
 | [],_,.nil=>rfl
 | n :: r,_,.cons q t=>by
  cases q
  rw [Reps.ofInts t]; rfl
theorem cN:∀ (ns:List Int),flats (intz ns)=true
 | []=>rfl
 | n :: r=>by show (flat (.int n) && flats (intz r))=true; rw [cN r]; rfl
inductive Tg | rd | sh | nw | fr
inductive Slot | sh (g:Bool) (x:PV) | own (x:PV)
def Slot.val:Slot->PV
 | .sh _ x=>x
 | .own x=>x
def Slot.tag:Slot->Tg
 | .sh true _=>.nw
 | .sh false _=>.sh
 | .own _=>.rd
abbrev b8:=List (Option Slot)
def Ms (H0:Hp) (W:Addr->Prop):Bool->Addr->Prop
 | false,a=>¬ W a
 | true,a=>¬ W a/\H0 a=none
def Mg (H0:Hp) (W:Addr->Prop) (Hs:Hp):Tg->Addr->Prop
 | .rd,_=>True
 | .sh,a=>¬ W a
 | .nw,a=>¬ W a/\H0 a=none
 | .fr,a=>Hs a=none
def gE (K:PySem.W.Frag) (M:Addr->Prop) (H:Hp) (a:Addr):PV->Prop
 | .lst xs=>∃ us,H a=some (.lst us)/\Reps K M H us xs
 | .dK ps=>∃ kvs,H a=some (.dK kvs)/\kvs.map (·.1)=ps.map (·.1)/\Reps K M H (kvs.map (·.2)) (ps.map (·.2))
 | .dT ps=>∃ kvs,H a=some (.dT kvs)/\kvs.map (·.1)=ps.map (·.1)/\Reps K M H (kvs.map (·.2)) (ps.map (·.2))
 | _=>False
def zN (K:PySem.W.Frag) (H0:Hp) (W:Addr->Prop) (H:Hp) (v:V):Slot->Prop
 | .sh g x=>aL K (Ms H0 W g) H v x
 | .own x=>∃ a,v = .ref a/\W a/\gE K (Ms H0 W true) H a x
structure PX (K:PySem.W.Frag) (H0:Hp) (W:Addr->Prop) (σ:St) (ρ:b8) (H:Hp):Prop where
 len:ρ.length=σ.length
 same:aB H0 H
 wm:∀ a,W a->H0 a=none/\∃ o,H a=some o/\eU o=true
 sl:∀ (i:Nat) (m:Slot),ρ[i]? = some (some m)->∃ v,σ[i]? = some (some v)/\zN K H0 W H v m
 dis:∀ (i j:Nat) (x y:PV) (a:Addr),ρ[i]? = some (some (.own x))->ρ[j]? = some (some (.own y))->σ[i]? = some (some (.ref a))->σ[j]? = some (some (.ref a))->i=j
theorem gE.keep {K:PySem.W.Frag}{M M':Addr->Prop}{H H':Hp}{a:Addr} (k:gW M M' H H') (ha:∀ o,H a=some o->H' a=some o):∀ {x:PV},gE K M H a x->gE K M' H' a x
 | .lst _,⟨us,e,r⟩=>⟨us,ha _ e,r.keep k⟩
 | .dK _,⟨us,e,q,r⟩=>⟨us,ha _ e,q,r.keep k⟩
 | .dT _,⟨us,e,q,r⟩=>⟨us,ha _ e,q,r.keep k⟩
theorem gE.at {K:PySem.W.Frag}{M:Addr->Prop}{H:Hp}{a:Addr}:∀ {x:PV},gE K M H a x->∃ o,H a=some o/\eU o=true
 | .lst _,⟨us,e,r⟩=>⟨_,e,rfl⟩
 | .dK _,⟨us,e,q,r⟩=>⟨_,e,rfl⟩
 | .dT _,⟨us,e,q,r⟩=>⟨_,e,rfl⟩
theorem gE.rep {K:PySem.W.Frag}{M M':Addr->Prop}{H:Hp}{a:Addr} (m:∀ b,M b->M' b) (ha:M' a):∀ {x:PV},gE K M H a x->aL K M' H (.ref a) x
 | .lst _,⟨us,e,r⟩=>.lst ha e (r.same (aB.refl _) m)
 | .dK _,⟨us,e,q,r⟩=>.dK ha e q (r.same (aB.refl _) m)
 | .dT _,⟨us,e,q,r⟩=>.dT ha e q (r.same (aB.refl _) m)
section
variable {K : PySem.W.Frag} {H0 : Hp} {W W' : Addr → Prop} {σ : St} {ρ : b8} {H H' : Hp}
theorem PX.mono (p:PX K H0 W σ ρ H) (s:aB H H'):PX K H0 W σ ρ H':=by
 refine⟨p.len,p.same.trans s,fun a h=>⟨(p.wm a h).1,let ⟨o,e,m⟩:=(p.wm a h).2; ⟨o,s _ _ e,m⟩⟩,fun i m h=>?_,p.dis⟩
 obtain ⟨v,e,r⟩:=p.sl i m h
 refine⟨v,e,?_⟩
 cases m with
 | sh g x=>exact aL.same r s fun _ z=>z
 | own x=>
  obtain ⟨a,e1,e2,r⟩:=r
  exact⟨a,e1,e2,r.keep (.same s fun _ z=>z) fun _ z=>s _ _ z⟩
theorem PX.new (p:PX K H0 W σ ρ H) {a:Addr} (h:H a=none) : ¬ W a/\H0 a=none:=
 ⟨fun z=>(by obtain ⟨_,o,e,_⟩:=p.wm a z; rw [h] at e; cases e),p.same.free h⟩
theorem Mg.back {g:Tg}{H1:Hp} (s:aB H H1) {a:Addr} (h:Mg H0 W H1 g a):Mg H0 W H g a:=by
 cases g with
 | fr=>exact s.free h
 | rd=>exact h
 | sh=>exact h
 | nw=>exact h
end
abbrev PK:=PV->Tg->Prop
abbrev aG:=b8->PK->Prop
abbrev bZ:=b8->(Bool->Prop)->Prop
abbrev cO:=b8->(List (PV × Tg)->Prop)->Prop
inductive fU (K:PySem.W.Frag) (H0:Hp) (W:Addr->Prop) (Hs H:Hp):List V->List (PV × Tg)->Prop
 | nil:fU K H0 W Hs H [] []
 | cons {v:V}{x:PV}{g:Tg}{vs:List V}{xs:List (PV × Tg)}:aL K (Mg H0 W Hs g) H v x->fU K H0 W Hs H vs xs->fU K H0 W Hs H (v :: vs) ((x,g) :: xs)
def pC (K:PySem.W.Frag) (H0:Hp) (W:Addr->Prop) (H:Hp) (Q:PK) (Q':VK):Prop:=∀ v H' x g,aB H H'->aL K (Mg H0 W H g) H' v x->Q x g->Q' v H'
def LE (X:Cx) (t:aG):TE:=fun σ H Q'=>∃ (W:Addr->Prop) (ρ:b8) (Q:PK),PX X.K X.H₀ W σ ρ H/\t ρ Q/\pC X.K X.H₀ W H Q Q'
def LT (X:Cx) (t:bZ):TT:=fun σ H Q'=>∃ (W:Addr->Prop) (ρ:b8) (Q:Bool->Prop),PX X.K X.H₀ W σ ρ H/\t ρ Q/\∀ b H',aB H H'->Q b->Q' b H'
def LA (X:Cx) (t:cO):TA:=fun σ H Q'=>∃ (W:Addr->Prop) (ρ:b8) (Q:List (PV × Tg)->Prop),PX X.K X.H₀ W σ ρ H/\t ρ Q/\∀ vs H' xs,aB H H'->fU X.K X.H₀ W H H' vs xs->Q xs->Q' vs H'
theorem fU.same {K:PySem.W.Frag}{H0:Hp}{W:Addr->Prop}{Hs Hs' H H':Hp} (s:aB H H') (b:aB Hs' Hs):∀ {vs:List V}{xs:List (PV × Tg)},fU K H0 W Hs H vs xs->fU K H0 W Hs' H' vs xs
 | _,_,.nil=>.nil
 | _,_,.cons r t=>.cons (r.same s fun _ z=>Mg.back b z) (t.same s b)
theorem fU.any {K:PySem.W.Frag}{H0:Hp}{W:Addr->Prop}{Hs H:Hp}:∀ {vs:List V}{xs:List (PV × Tg)},fU K H0 W Hs H vs xs->Reps K (fun _=>True) H vs (xs.map (·.1))
 | _,_,.nil=>.nil
 | _,_,.cons r t=>.cons (r.same (aB.refl _) fun _ _=>trivial) t.any
def Nw:Tg->PV->Prop
 | .fr,_=>True
 | .nw,_=>True
 | _,x=>flat x=true
def mW (xs:List (PV × Tg)):Prop:=∀ p ∈ xs,Nw p.2 p.1
section
variable {K : PySem.W.Frag} {H0 Hs H : Hp} {W : Addr → Prop} {σ : St} {ρ : b8}
theorem Nw.rep {g:Tg}{x:PV}{v:V} (px:PX K H0 W σ ρ Hs) (n:Nw g x) (r:aL K (Mg H0 W Hs g) H v x):aL K (Ms H0 W true) H v x:=by
 cases g with
 | fr=>exact r.same (aB.refl _) fun a z=>px.new z
 | nw=>exact r.same (aB.refl _) fun a z=>z
 | sh=>exact r.flat n
 | rd=>exact r.flat n
theorem mW.reps {vs:List V}:∀ {xs:List (PV × Tg)}{vs:List V},PX K H0 W σ ρ Hs->mW xs->fU K H0 W Hs H vs xs->Reps K (Ms H0 W true) H vs (xs.map (·.1))
 | _,_,px,n,.nil=>.nil
 | _,_,px,n,.cons r t=>.cons (Nw.rep px (n _ aR2) r) (mW.reps (vs:=vs) px (fun p hp=>n p (aR1 _ hp)) t)
theorem zO {v:V}{m:Slot} (r:zN K H0 W H v m):aL K (Mg H0 W Hs m.tag) H v m.val:=by
 cases m with
 | sh g x=>
  cases g with
  | true=>exact aL.same r (aB.refl _) fun _ z=>z
  | false=>exact aL.same r (aB.refl _) fun _ z=>z
 | own x=>
  obtain ⟨a,rfl,_,r⟩:=r
  exact r.rep (fun _ _=>trivial) trivial
end
section
variable {X : Cx} {σ : St} {H : Hp} {Q' : VK} {ta tb : aG}
def a5 (i:Nat):aG:=fun ρ Q=>∃ m,ρ[i]? = some (some m)/\Q m.val m.tag
def qC (x:PV):aG:=fun _ Q=>Q x .fr
theorem ak1 {i:Nat} (h:LE X (a5 i) σ H Q'):iZ i σ H Q':=by
 obtain ⟨W,ρ,Q,px,⟨m,e,q⟩,k⟩:=h
 obtain ⟨v,ev,r⟩:=px.sl i m e
 exact⟨v,ev,k v H _ _ (aB.refl _) (zO r) q⟩
theorem mX {x:PV}{v:V} (hr:∀ M,aL X.K M H v x) (h:LE X (qC x) σ H Q'):tC v σ H Q':=by
 obtain ⟨W,ρ,Q,px,q,k⟩:=h
 exact k v H _ _ (aB.refl _) (hr _) q
def dL (X:Cx) (R:PV->Tg->PV->Tg->PK->Prop) (r:R2):Prop:=∀ (W:Addr->Prop) (Hs H:Hp) (u v:V) (x y:PV) (g g':Tg) (Q:PK) (Q':VK),aB Hs H->
 (∀ a,Hs a=none->¬ W a/\X.H₀ a=none)->aL X.K (Mg X.H₀ W Hs g) H u x->aL X.K (Mg X.H₀ W Hs g') H v y->R x g y g' Q->(∀ w H' z gz,aB H H'->aL X.K (Mg X.H₀ W Hs gz) H' w z->Q z gz->Q' w H')->r u v H Q'
def q2 (R:PV->Tg->PV->Tg->PK->Prop) (ta tb:aG):aG:=fun ρ Q=>ta ρ fun x g=>tb ρ fun y g'=>R x g y g' Q
theorem pD {R:PV->Tg->PV->Tg->PK->Prop}{r:R2} (c:dL X R r) (h:LE X (q2 R ta tb) σ H Q'):mG r (LE X ta) (LE X tb) σ H Q':=by
 obtain ⟨W,ρ,Q,px,q,k⟩:=h
 refine⟨W,ρ,_,px,q,fun u H1 x g s1 r1 q1=>⟨W,ρ,_,px.mono s1,q1,fun v H2 y g' s2 r2 q2=>?_⟩⟩
 exact c W H H2 u v x y g g' Q Q' (s1.trans s2) (fun a z=>px.new z) (r1.same s2 fun _ z=>z) (r2.same (aB.refl _) fun _ z=>Mg.back s1 z) q2 fun w H' z gz s3 r3 q3=>k w H' z gz ((s1.trans s2).trans s3) r3 q3
def RI (C:Int->Int->Prop) (f:Int->Int->PV):PV->Tg->PV->Tg->PK->Prop:=fun x _ y _ Q=>∃ i j,x = .int i/\y = .int j/\C i j/\Q (f i j) .fr
def dS (f:Int->Int->PV):PV->Tg->PV->Tg->PK->Prop:=fun x _ y _ Q=>∃ i j,x = .int i/\y = .int j/\Q (f i j) .fr
theorem pE {C:Int->Int->Prop}{f:Int->Int->Int}:dL X (RI C fun i j=>.int (f i j)) (rI C fun i j=>.int (f i j)):=by
 rintro W Hs H u v x y g g' Q Q' s n r1 r2 ⟨i,j,rfl,rfl,c,q⟩ k
 cases r1; cases r2
 exact⟨i,j,rfl,rfl,c,k _ _ _ _ (aB.refl _) (.int _) q⟩
theorem zP {f:Int->Int->Int}:dL X (dS fun i j=>.int (f i j)) (gT fun i j=>.int (f i j)):=by
 rintro W Hs H u v x y g g' Q Q' s n r1 r2 ⟨i,j,rfl,rfl,q⟩ k
 cases r1; cases r2
 exact⟨i,j,rfl,rfl,k _ _ _ _ (aB.refl _) (.int _) q⟩
theorem lC {f:Int->Int->Bool}:dL X (dS fun i j=>.bl (f i j)) (gT fun i j=>.bl (f i j)):=by
 rintro W Hs H u v x y g g' Q Q' s n r1 r2 ⟨i,j,rfl,rfl,q⟩ k
 cases r1; cases r2
 exact⟨i,j,rfl,rfl,k _ _ _ _ (aB.refl _) (.bl _) q⟩
def lD (neg:Bool):PV->Tg->PV->Tg->PK->Prop:=fun x _ y _ Q=>(∃ i j,x = .int i/\y = .int j/\Q (.bl (if neg=true then !decide (i=j) else decide (i=j))) .fr) ∨ (∃ i j,x = .bl i/\y = .bl j/\Q (.bl (if neg=true then !decide (i=j) else decide (i=j))) .fr)
theorem zQ (i j:Int):decide (V.int i=V.int j)=decide (i=j):=by
 rw [aY6,ba4,ba4]; exact⟨fun z=>V.int.inj z,fun z=>congrArg V.int z⟩
theorem zR (i j:Bool):decide (V.bl i=V.bl j)=decide (i=j):=by
 rw [aY6,ba4,ba4]; exact⟨fun z=>V.bl.inj z,fun z=>congrArg V.bl z⟩
theorem ak2:dL X (lD false) sD:=by
 rintro W Hs H u v x y g g' Q Q' s n r1 r2 (⟨i,j,rfl,rfl,q⟩ | ⟨i,j,rfl,rfl,q⟩) k
 ·cases r1; cases r2
  exact⟨rfl,by rw [zQ]; exact k _ _ _ _ (aB.refl _) (.bl _) q⟩
 ·cases r1; cases r2
  exact⟨rfl,by rw [zR]; exact k _ _ _ _ (aB.refl _) (.bl _) q⟩
theorem ak3:dL X (lD true) sE:=by
 rintro W Hs H u v x y g g' Q Q' s n r1 r2 (⟨i,j,rfl,rfl,q⟩ | ⟨i,j,rfl,rfl,q⟩) k
 ·cases r1; cases r2
  exact⟨rfl,by rw [zQ]; exact k _ _ _ _ (aB.refl _) (.bl _) q⟩
 ·cases r1; cases r2
  exact⟨rfl,by rw [zR]; exact k _ _ _ _ (aB.refl _) (.bl _) q⟩
def aU (t:aG):bZ:=fun ρ Q=>t ρ fun x _=>∃ b,x = .bl b/\Q b
theorem pF {t:aG}{Q':Bool->Hp->Prop} (h:LT X (aU t) σ H Q'):LE X t σ H fun x H'=>∃ k,x = .bl k/\Q' k H':=by
 obtain ⟨W,ρ,Q,px,q,k⟩:=h
 refine⟨W,ρ,_,px,q,?_⟩
 rintro v H1 x g s r ⟨b,rfl,q⟩
 cases r
 exact⟨b,rfl,k _ _ s q⟩
def pG (t u:bZ):bZ:=fun ρ Q=>t ρ fun c=>if c=true then u ρ Q else Q false
def mY (t u:bZ):bZ:=fun ρ Q=>t ρ fun c=>if c=true then Q true else u ρ Q
def pH (t:bZ):bZ:=fun ρ Q=>t ρ fun c=>Q (!c)
variable {t u : bZ} {Qb : Bool → Hp → Prop}
theorem ak4 (h:LT X (pG t u) σ H Qb):wC (LT X t) (LT X u) σ H Qb:=by
 obtain ⟨W,ρ,Q,px,q,k⟩:=h
 refine⟨W,ρ,_,px,q,fun b H1 s1 q1=>?_⟩
 cases b with
 | true=>exact b4 ⟨W,ρ,Q,px.mono s1,by simpa using q1,fun b H2 s2 q2=>k _ _ (s1.trans s2) q2⟩
 | false=>exact aP (k _ _ s1 (by simpa using q1))
theorem ak5 (h:LT X (mY t u) σ H Qb):wD (LT X t) (LT X u) σ H Qb:=by
 obtain ⟨W,ρ,Q,px,q,k⟩:=h
 refine⟨W,ρ,_,px,q,fun b H1 s1 q1=>?_⟩
 cases b with
 | false=>exact aP ⟨W,ρ,Q,px.mono s1,by simpa using q1,fun b H2 s2 q2=>k _ _ (s1.trans s2) q2⟩
 | true=>exact b4 (k _ _ s1 (by simpa using q1))
theorem ak6 (h:LT X (pH t) σ H Qb):wE (LT X t) σ H Qb:=by
 obtain ⟨W,ρ,Q,px,q,k⟩:=h
 exact⟨W,ρ,_,px,q,fun b H1 s1 q1=>k _ _ s1 q1⟩
def mZ (ta tb:aG):aG:=fun ρ Q=>ta ρ fun x _=>∃ c,x = .bl c/\if c=true then tb ρ Q else Q (.bl false) .fr
def tY (ta tb:aG):aG:=fun ρ Q=>ta ρ fun x _=>∃ c,x = .bl c/\if c=true then Q (.bl true) .fr else tb ρ Q
theorem pC.back {K:PySem.W.Frag}{H0:Hp}{W:Addr->Prop}{H H1:Hp}{Q:PK} (k:pC K H0 W H Q Q') (s:aB H H1):pC K H0 W H1 Q Q':=fun v H' x g s' r q=>k v H' x g (s.trans s') (r.same (aB.refl _) fun _ z=>Mg.back s z) q
theorem ak7 (h:LE X (mZ ta tb) σ H Q'):wF (LE X ta) (LE X tb) σ H Q':=by
 obtain ⟨W,ρ,Q,px,q,k⟩:=h
 refine⟨W,ρ,_,px,q,?_⟩
 rintro v H1 x g s1 r ⟨c,rfl,q⟩
 cases r
 refine⟨c,rfl,?_⟩
 cases c with
 | true=>exact b4 ⟨W,ρ,Q,px.mono s1,by simpa using q,k.back s1⟩
 | false=>exact aP (k _ _ _ _ s1 (.bl _) (by simpa using q))
theorem ak8 (h:LE X (tY ta tb) σ H Q'):wG (LE X ta) (LE X tb) σ H Q':=by
 obtain ⟨W,ρ,Q,px,q,k⟩:=h
 refine⟨W,ρ,_,px,q,?_⟩
 rintro v H1 x g s1 r ⟨c,rfl,q⟩
 cases r
 refine⟨c,rfl,?_⟩
 cases c with
 | false=>exact aP ⟨W,ρ,Q,px.mono s1,by simpa using q,k.back s1⟩
 | true=>exact b4 (k _ _ _ _ s1 (.bl _) (by simpa using q))
def a9:cO:=fun _ Q=>Q []
def a6 (te:aG) (tr:cO):cO:=fun ρ Q=>te ρ fun x g=>tr ρ fun xs=>Q ((x,g) :: xs)
variable {Qa : List V → Hp → Prop} {tr : cO}
theorem ak9 (h:LA X a9 σ H Qa):gU σ H Qa:=by
 obtain ⟨W,ρ,Q,px,q,k⟩:=h
 exact k _ _ _ (aB.refl _) .nil q
theorem al0 (h:LA X (a6 ta tr) σ H Qa):fN (LE X ta) (LA X tr) σ H Qa:=by
 obtain ⟨W,ρ,Q,px,q,k⟩:=h
 refine⟨W,ρ,_,px,q,fun v H1 x g s1 r1 q1=>⟨W,ρ,_,px.mono s1,q1,fun vs H2 xs s2 r2 q2=>?_⟩⟩
 exact k _ _ _ (s1.trans s2) (.cons (r1.same s2 fun _ z=>z) (r2.same (aB.refl _) s1)) q2
def dU (t:cO):aG:=fun ρ Q=>t ρ fun xs=>xs.length<=1000/\flats (xs.map (·.1))=true/\Q (.tup (xs.map (·.1))) .fr
def bV (t:cO):aG:=fun ρ Q=>t ρ fun xs=>xs.length<=1000/\flats (xs.map (·.1))=true/\Q (.lst (xs.map (·.1))) .fr
theorem fU.length {K:PySem.W.Frag}{H0:Hp}{W:Addr->Prop}{Hs H:Hp}:∀ {vs:List V}{xs:List (PV × Tg)},fU K H0 W Hs H vs xs->vs.length=xs.length
 | _,_,.nil=>rfl
 | _,_,.cons _ t=>congrArg (· + 1) t.length
theorem pI {n:Nat} (h:n<=1000):n<=sizeLine:=aX4 (oP h)
theorem al1 (h:LE X (dU tr) σ H Q'):x4 (LA X tr) σ H Q':=by
 obtain ⟨W,ρ,Q,px,q,k⟩:=h
 refine⟨W,ρ,_,px,q,?_⟩
 rintro vs H1 xs s1 r ⟨hl,n,q⟩
 refine⟨by rw [r.length]; exact pI hl,fun p hp=>k _ _ _ .fr (s1.trans (b6 hp _)) (.tup aZ ?_) q⟩
 exact (r.any.flat n).same (b6 hp _) fun _ z=>z
theorem al2 (h:LE X (bV tr) σ H Q'):sI (LA X tr) σ H Q':=by
 obtain ⟨W,ρ,Q,px,q,k⟩:=h
 refine⟨W,ρ,_,px,q,?_⟩
 rintro vs H1 xs s1 r ⟨hl,n,q⟩
 refine⟨by rw [r.length]; exact pI hl,fun p hp=>k _ _ _ .fr (s1.trans (b6 hp _)) (.lst (s1.free hp) aZ ?_) q⟩
 exact (r.any.flat n).same (b6 hp _) fun _ z=>z
def dW (X:Cx) (R:List PV->(PV->Prop)->Prop) (r:List V->Hp->VK->Prop):Prop:=∀ (H:Hp) (vs:List V) (xs:List PV) (Q:PV->Prop) (Q':VK),Reps X.K (fun _=>True) H vs xs->R xs Q->
 (∀ w H' z,aB H H'->aL X.K (fun a=>H a=none) H' w z->Q z->Q' w H')->r vs H Q'
def aE (R:List PV->(PV->Prop)->Prop) (t:cO):aG:=fun ρ Q=>t ρ fun xs=>R (xs.map (·.1)) fun z=>Q z .fr
theorem zS {R:List PV->(PV->Prop)->Prop}{r:List V->Hp->VK->Prop} (c:dW X R r) (h:LE X (aE R tr) σ H Q'):sL r (LA X tr) σ H Q':=by
 obtain ⟨W,ρ,Q,px,q,k⟩:=h
 refine⟨W,ρ,_,px,q,fun vs H1 xs s1 r1 q1=>c H1 vs _ _ Q' r1.any q1 fun w H' z s2 r2 q2=>k w H' z .fr (s1.trans s2) (r2.same (aB.refl _) fun _ z=>s1.free z) q2⟩
end
structure iD where
 nx:b8->Prop
 rt:PV->Prop
 bk:b8->Prop:=fun _=>False
 ct:b8->Prop:=fun _=>False
abbrev aN:=iD->b8->Prop
def Ev (W:Addr->Prop) (H:Hp) (W':Addr->Prop) (H':Hp):Prop:=∀ b o,H b=some o->¬ W b->H' b=some o/\¬ W' b
theorem Ev.trans {W W1 W2:Addr->Prop}{H H1 H2:Hp} (a:Ev W H W1 H1) (b:Ev W1 H1 W2 H2):Ev W H W2 H2:=fun c o h n=>let ⟨h1,n1⟩:=a c o h n; b c o h1 n1
theorem Ev.same {W:Addr->Prop}{H H':Hp} (s:aB H H'):Ev W H W H':=fun c o h n=>⟨s _ _ h,n⟩
theorem Ev.refl (W:Addr->Prop) (H:Hp):Ev W H W H:=Ev.same (aB.refl _)
structure nA (X:Cx) (W:Addr->Prop) (H:Hp) (D':iD) (D:cR):Prop where
 nx:∀ W' σ' H' ρ',Ev W H W' H'->PX X.K X.H₀ W' σ' ρ' H'->D'.nx ρ'->D.nx σ' H'
 rt:∀ v H' x,aB X.H₀ H'->aL X.K (fun a=>X.H₀ a=none) H' v x->D'.rt x->D.rt v H'
 bk:∀ W' σ' H' ρ',Ev W H W' H'->PX X.K X.H₀ W' σ' ρ' H'->D'.bk ρ'->D.bk σ' H'
 ct:∀ W' σ' H' ρ',Ev W H W' H'->PX X.K X.H₀ W' σ' ρ' H'->D'.ct ρ'->D.ct σ' H'
theorem nA.step {X:Cx}{W W1:Addr->Prop}{H H1:Hp}{D':iD}{D:cR} (k:nA X W H D' D) (e:Ev W H W1 H1):nA X W1 H1 D' D:=
 ⟨fun W' σ' H' ρ' e'=>k.nx W' σ' H' ρ' (e.trans e'),k.rt,fun W' σ' H' ρ' e'=>k.bk W' σ' H' ρ' (e.trans e'),fun W' σ' H' ρ' e'=>k.ct W' σ' H' ρ' (e.trans e')⟩
def LS (X:Cx) (t:aN):TS:=fun D σ H=>∃ (W:Addr->Prop) (ρ:b8) (D':iD),PX X.K X.H₀ W σ ρ H/\t D' ρ/\nA X W H D' D
theorem dX {α:Type}{l:List α}{i j:Nat}{a b:α} (h:(l.set i a)[j]? = some b):(j=i/\i < l.length/\b=a) ∨ (j ≠ i/\l[j]? = some b):=by
 by_cases e:j=i
 ·subst e
  have hl:j < (l.set j a).length:=(aQ7.mp h).1
  rw [aW4] at hl
  rw [aX1 hl] at h
  exact .inl ⟨rfl,hl,(aS7 h).symm⟩
 ·rw [aS5 (Ne.symm e)] at h
  exact .inr ⟨e,h⟩
section
variable {K : PySem.W.Frag} {H0 : Hp} {W W' : Addr → Prop} {σ : St} {ρ : b8} {H H' Hs : Hp}
theorem PX.setSh {i:Nat}{v:V}{g:Bool}{x:PV} (p:PX K H0 W σ ρ H) (r:aL K (Ms H0 W g) H v x):PX K H0 W (σ.set i (some v)) (ρ.set i (some (.sh g x))) H:=by
 refine⟨by rw [aW4,aW4]; exact p.len,p.same,p.wm,fun j m h=>?_,fun j k y z a h1 h2 h3 h4=>?_⟩
 ·rcases dX h with ⟨rfl,hl,e⟩ | ⟨hne,h⟩
  ·cases e
   rw [p.len] at hl
   exact⟨v,aX1 hl,r⟩
  ·obtain ⟨u,e,q⟩:=p.sl j m h
   exact⟨u,by rw [aS5 (Ne.symm hne)]; exact e,q⟩
 ·rcases dX h1 with ⟨_,_,e⟩ | ⟨n1,h1⟩
  ·cases e
  ·rcases dX h2 with ⟨_,_,e⟩ | ⟨n2,h2⟩
   ·cases e
   ·rw [aS5 (Ne.symm n1)] at h3
    rw [aS5 (Ne.symm n2)] at h4
    exact p.dis j k y z a h1 h2 h3 h4
theorem PX.setNone {i:Nat}{o:Option V} (p:PX K H0 W σ ρ H):PX K H0 W (σ.set i o) (ρ.set i none) H:=by
 refine⟨by rw [aW4,aW4]; exact p.len,p.same,p.wm,fun j m h=>?_,fun j k y z a h1 h2 h3 h4=>?_⟩
 ·rcases dX h with ⟨rfl,hl,e⟩ | ⟨hne,h⟩
  ·cases e
  ·obtain ⟨u,e,q⟩:=p.sl j m h
   exact⟨u,by rw [aS5 (Ne.symm hne)]; exact e,q⟩
 ·rcases dX h1 with ⟨_,_,e⟩ | ⟨n1,h1⟩
  ·cases e
  ·rcases dX h2 with ⟨_,_,e⟩ | ⟨n2,h2⟩
   ·cases e
   ·rw [aS5 (Ne.symm n1)] at h3
    rw [aS5 (Ne.symm n2)] at h4
    exact p.dis j k y z a h1 h2 h3 h4
def lE (W:Addr->Prop) (a:Addr):Addr->Prop:=fun b=>W b ∨ b=a
theorem tZ {g:Bool}{a b:Addr} (n:b ≠ a) (h:Ms H0 W g b):Ms H0 (lE W a) g b:=by
 cases g with
 | true=>exact⟨fun z=>z.elim h.1 n,h.2⟩
 | false=>exact fun z=>z.elim h n
theorem PX.setOwn {i:Nat}{a:Addr}{x:PV} (p:PX K H0 W σ ρ Hs) (s:aB Hs H) (ha:Hs a=none) (r:gE K (Ms H0 (lE W a) true) H a x):PX K H0 (lE W a) (σ.set i (some (.ref a))) (ρ.set i (some (.own x))) H:=by
 have old:∀ b o,Hs b=some o->b ≠ a:=fun b o e z=>by rw [z,ha] at e; cases e
 have kp:∀ g,gW (Ms H0 W g) (Ms H0 (lE W a) g) Hs H:=fun g=>⟨fun b _ m e=>⟨tZ (old _ _ e) m,s _ _ e⟩,fun b _ m e=>⟨tZ (old _ _ e) m,s _ _ e⟩,fun b _ m e=>⟨tZ (old _ _ e) m,s _ _ e⟩,fun _ _ e=>s _ _ e,fun _ _ _ e=>s _ _ e⟩
 have wa : ¬ W a:=(p.new ha).1
 refine⟨by rw [aW4,aW4]; exact p.len,p.same.trans s,fun b z=>?_,fun j m h=>?_,fun j k y z b h1 h2 h3 h4=>?_⟩
 ·rcases z with z | rfl
  ·obtain ⟨h1,o,h2,h3⟩:=p.wm b z
   exact⟨h1,o,s _ _ h2,h3⟩
  ·exact⟨(p.new ha).2,r.at⟩
 ·rcases dX h with ⟨rfl,hl,e⟩ | ⟨hne,h⟩
  ·cases e
   rw [p.len] at hl
   exact⟨_,aX1 hl,a,rfl,.inr rfl,r⟩
  ·obtain ⟨u,e,q⟩:=p.sl j m h
   refine⟨u,by rw [aS5 (Ne.symm hne)]; exact e,?_⟩
   cases m with
   | sh g y=>exact aL.keep (kp g) q
   | own y=>
    obtain ⟨b,e1,e2,q⟩:=q
    exact⟨b,e1,.inl e2,q.keep (kp true) fun o z=>s _ _ z⟩
 ·have ne:∀ {j:Nat}{y:PV},ρ[j]? = some (some (.own y))->σ[j]? ≠ some (some (.ref a)):=fun {j y} h1 h2=>by
   obtain ⟨u,e,c,e1,e2,_⟩:=p.sl j _ h1
   rw [h2] at e
   cases e
   cases e1
   exact wa e2
  rcases dX h1 with ⟨e1,l1,_⟩ | ⟨n1,h1⟩
  ·rcases dX h2 with ⟨e2,_,_⟩ | ⟨n2,h2⟩
   ·rw [e1,e2]
   ·rw [e1,aX1 (by rw [<- p.len]; exact l1)] at h3
    rw [aS5 (Ne.symm n2)] at h4
    cases h3
    exact absurd h4 (ne h2)
  ·rw [aS5 (Ne.symm n1)] at h3
   rcases dX h2 with ⟨e2,l2,_⟩ | ⟨n2,h2⟩
   ·rw [e2,aX1 (by rw [<- p.len]; exact l2)] at h4
    cases h4
    exact absurd h3 (ne h1)
   ·rw [aS5 (Ne.symm n2)] at h4
    exact p.dis j k y z b h1 h2 h3 h4
theorem Ev.own {a:Addr} (s:aB Hs H) (ha:Hs a=none):Ev W Hs (lE W a) H:=fun b o e n=>⟨s _ _ e,fun z=>z.elim n fun z=>by rw [z,ha] at e; cases e⟩
theorem nB {g:Bool}{a b:Addr} (wa:W a) (h:Ms H0 W g b):b ≠ a:=by
 cases g with
 | true=>exact fun z=>h.1 (by rw [z]; exact wa)
 | false=>exact fun z=>h (by rw [z]; exact wa)
theorem PX.updOwn {i:Nat}{a:Addr}{x y:PV}{o:HO} (p:PX K H0 W σ ρ H) (hi:ρ[i]? = some (some (.own x))) (ha:σ[i]? = some (some (.ref a))) (wa:W a) (mu:eU o=true) (r:gE K (Ms H0 W true) (upd H a o) a y) :
  PX K H0 W σ (ρ.set i (some (.own y))) (upd H a o):=by
 obtain ⟨w0,o',e',mu'⟩:=p.wm a wa
 have kp:∀ g,gW (Ms H0 W g) (Ms H0 W g) H (upd H a o):=fun g=>.upd e' mu' fun b m=>⟨nB wa m,m⟩
 refine⟨by rw [aW4]; exact p.len,fun b u e=>by rw [aJ (fun z=>by rw [z,w0] at e; cases e)]; exact p.same _ _ e,fun b z=>?_,fun j m h=>?_,fun j k y' z b h1 h2 h3 h4=>?_⟩
 ·by_cases e:b=a
  ·subst e; exact⟨w0,o,aZ,mu⟩
  ·obtain ⟨h1,o2,h2,h3⟩:=p.wm b z
   exact⟨h1,o2,by rw [aJ e]; exact h2,h3⟩
 ·rcases dX h with ⟨rfl,hl,e⟩ | ⟨hne,h⟩
  ·cases e
   exact⟨_,ha,a,rfl,wa,r⟩
  ·obtain ⟨u,e,q⟩:=p.sl j m h
   refine⟨u,e,?_⟩
   cases m with
   | sh g y=>exact aL.keep (kp g) q
   | own y=>
    obtain ⟨b,e1,e2,q⟩:=q
    have hb:b ≠ a:=fun z=>by
     subst e1
     rw [z] at e
     exact hne (p.dis j i _ _ a h hi e ha)
    exact⟨b,e1,e2,q.keep (kp true) fun o z=>by rw [aJ hb]; exact z⟩
 ·have g1:∃ y,ρ[j]? = some (some (.own y)):=by
   rcases dX h1 with ⟨e,_,_⟩ | ⟨_,h⟩
   ·exact⟨x,by rw [e]; exact hi⟩
   ·exact⟨_,h⟩
  have g2:∃ y,ρ[k]? = some (some (.own y)):=by
   rcases dX h2 with ⟨e,_,_⟩ | ⟨_,h⟩
   ·exact⟨x,by rw [e]; exact hi⟩
   ·exact⟨_,h⟩
  obtain ⟨y1,g1⟩:=g1
  obtain ⟨y2,g2⟩:=g2
  exact p.dis j k y1 y2 b g1 g2 h3 h4
theorem Ev.upd {a:Addr}{o:HO} (wa:W a):Ev W H W (upd H a o):=fun b u e n=>⟨by rw [aJ (fun z=>n (by rw [z]; exact wa))]; exact e,n⟩
def nC (W:Addr->Prop) (a:Addr):Addr->Prop:=fun b=>W b/\b ≠ a
theorem u3 {g:Bool}{a b:Addr} (h:Ms H0 W g b):Ms H0 (nC W a) g b:=by
 cases g with
 | true=>exact⟨fun z=>h.1 z.1,h.2⟩
 | false=>exact fun z=>h z.1
theorem PX.freeze {i:Nat}{a:Addr}{x:PV} (p:PX K H0 W σ ρ H) (hi:ρ[i]? = some (some (.own x))) (ha:σ[i]? = some (some (.ref a))):PX K H0 (nC W a) σ (ρ.set i (some (.sh true x))) H:=by
 obtain ⟨v,ev,a',e1,wa,r⟩:=p.sl i _ hi
 rw [ha] at ev
 cases ev
 cases e1
 refine⟨by rw [aW4]; exact p.len,p.same,fun b z=>p.wm b z.1,fun j m h=>?_,fun j k y' z b h1 h2 h3 h4=>?_⟩
 ·rcases dX h with ⟨rfl,hl,e⟩ | ⟨hne,h⟩
  ·cases e
   exact⟨_,ha,r.rep (M':=Ms H0 (nC W a) true) (fun b m=>u3 (g:=true) m) (show Ms H0 (nC W a) true a from ⟨fun z=>z.2 rfl,(p.wm a wa).1⟩)⟩
  ·obtain ⟨u,e,q⟩:=p.sl j m h
   refine⟨u,e,?_⟩
   cases m with
   | sh g y=>exact aL.same q (aB.refl _) fun _ m=>u3 m
   | own y=>
    obtain ⟨b,e1,e2,q⟩:=q
    have hb:b ≠ a:=fun z=>by
     subst e1
     rw [z] at e
     exact hne (p.dis j i _ _ a h hi e ha)
    exact⟨b,e1,⟨e2,hb⟩,q.keep (.same (aB.refl _) fun _ m=>u3 m) fun _ z=>z⟩
 ·rcases dX h1 with ⟨_,_,e⟩ | ⟨_,h1⟩
  ·cases e
  ·rcases dX h2 with ⟨_,_,e⟩ | ⟨_,h2⟩
   ·cases e
   ·exact p.dis j k _ _ b h1 h2 h3 h4
theorem Ev.off {a:Addr}:Ev W H (nC W a) H:=fun b u e n=>⟨e,fun z=>n z.1⟩
end
section
variable {X : Cx} {σ : St} {H : Hp} {D : cR} {te : aG} {t u : aN}
def bQ:aN:=fun D ρ=>D.nx ρ
def aI (t u:aN):aN:=fun D ρ=>t { D with nx:=u D } ρ
theorem al3 (h:LS X bQ D σ H):wH D σ H:=by
 obtain ⟨W,ρ,D',px,q,k⟩:=h
 exact k.nx W σ H ρ (Ev.refl _ _) px q
theorem al4 (h:LS X (aI t u) D σ H):wI (LS X t) (LS X u) D σ H:=by
 obtain ⟨W,ρ,D',px,q,k⟩:=h
 exact⟨W,ρ,_,px,q,fun W' σ' H' ρ' e px' q'=>⟨W',ρ',D',px',q',k.step e⟩,k.rt,k.bk,k.ct⟩
def zT:Tg->PV->Bool
 | .fr,_=>true
 | .nw,_=>true
 | _,x=>flat x
def zU:Tg->PV->Prop
 | .rd,x=>flat x=true
 | _,_=>True
theorem al5 {K:PySem.W.Frag}{H0 Hs H:Hp}{W:Addr->Prop}{σ:St}{ρ:b8}{g:Tg}{x:PV}{v:V} (px:PX K H0 W σ ρ Hs) (n:zU g x) (r:aL K (Mg H0 W Hs g) H v x):aL K (Ms H0 W (zT g x)) H v x:=by
 cases g with
 | fr=>exact Nw.rep (g:=.fr) px trivial r
 | nw=>exact Nw.rep (g:=.nw) px trivial r
 | sh=>
  show aL K (Ms H0 W (flat x)) H v x
  cases e:flat x with
  | true=>exact r.flat e
  | false=>exact r.same (aB.refl _) fun _ z=>z
 | rd=>exact r.flat n
def aV (i:Nat) (te:aG):aN:=fun D ρ=>te ρ fun x g=>zU g x/\D.nx (ρ.set i (some (.sh (zT g x) x)))
theorem u4 {i:Nat} (h:LS X (aV i te) D σ H):mD (LE X te) (cJ i) D σ H:=by
 obtain ⟨W,ρ,D',px,q,k⟩:=h
 refine⟨W,ρ,_,px,q,?_⟩
 rintro v H1 x g s r ⟨n,q⟩
 exact k.nx W _ H1 _ (Ev.same s) ((px.mono s).setSh (al5 px n r)) q
def zV:PV->Bool
 | .lst xs=>flats xs
 | .dK ps=>flats (ps.map (·.2))
 | .dT ps=>flats (ps.map (·.2))
 | _=>false
theorem al6 {K:PySem.W.Frag}{M:Addr->Prop}{H:Hp}{v:V}{x:PV} (r:aL K M H v x) (o:zV x=true):∃ a,v = .ref a/\M a/\∀ M',gE K M' H a x:=by
 cases r with
 | lst m e r=>exact⟨_,rfl,m,fun _=>⟨_,e,r.flat o⟩⟩
 | dK m e q r=>exact⟨_,rfl,m,fun _=>⟨_,e,q,r.flat o⟩⟩
 | dT m e q r=>exact⟨_,rfl,m,fun _=>⟨_,e,q,r.flat o⟩⟩
 | _=>cases o
def eV (i:Nat) (te:aG):aN:=fun D ρ=>te ρ fun x g=>g = .fr/\zV x=true/\D.nx (ρ.set i (some (.own x)))
theorem al7 {i:Nat} (h:LS X (eV i te) D σ H):mD (LE X te) (cJ i) D σ H:=by
 obtain ⟨W,ρ,D',px,q,k⟩:=h
 refine⟨W,ρ,_,px,q,?_⟩
 rintro v H1 x g s r ⟨rfl,o,q⟩
 obtain ⟨a,rfl,m,w⟩:=al6 r o
 exact k.nx _ _ H1 _ (Ev.own s m) (px.setOwn s m (w _)) q
def pJ (i:Nat) (t:aN):aN:=fun D ρ=>∃ x,ρ[i]? = some (some (.own x))/\t D (ρ.set i (some (.sh true x)))
theorem al8 {i:Nat} (h:LS X (pJ i t) D σ H):LS X t D σ H:=by
 obtain ⟨W,ρ,D',px,⟨x,hi,q⟩,k⟩:=h
 obtain ⟨v,ev,a,rfl,wa,r⟩:=px.sl i _ hi
 exact⟨_,_,D',px.freeze hi ev,q,k.step Ev.off⟩
def aY (te:aG):aN:=fun D ρ=>te ρ fun x g=>Nw g x/\D.rt x
theorem al9 (h:LS X (aY te) D σ H):rT (LE X te) D σ H:=by
 obtain ⟨W,ρ,D',px,q,k⟩:=h
 refine⟨W,ρ,_,px,q,?_⟩
 rintro v H1 x g s r ⟨n,q⟩
 exact k.rt v H1 x (px.same.trans s) ((Nw.rep px n r).same (aB.refl _) fun _ z=>z.2) q
def Slot.nw:Slot->Prop
 | .own _=>True
 | .sh true _=>True
 | .sh false x=>flat x=true
def iE (i:Nat):aN:=fun D ρ=>∃ m,ρ[i]? = some (some m)/\m.nw/\D.rt m.val
theorem am0 {i:Nat} (h:LS X (iE i) D σ H):rT (iZ i) D σ H:=by
 obtain ⟨W,ρ,D',px,⟨m,hi,n,q⟩,k⟩:=h
 obtain ⟨v,ev,r⟩:=px.sl i _ hi
 refine⟨v,ev,k.rt v H _ px.same ?_ q⟩
 cases m with
 | own x=>
  obtain ⟨a,rfl,wa,r⟩:=r
  exact r.rep (fun _ z=>z.2) (px.wm a wa).1
 | sh g x=>
  cases g with
  | true=>exact aL.same r (aB.refl _) fun _ z=>z.2
  | false=>exact aL.flat n r
def bR (c:bZ) (t u:aN):aN:=fun D ρ=>c ρ fun b=>if b=true then t D ρ else u D ρ
theorem am1 {c:bZ} (h:LS X (bR c t u) D σ H):wJ (LT X c) (LS X t) (LS X u) D σ H:=by
 obtain ⟨W,ρ,D',px,q,k⟩:=h
 refine⟨W,ρ,_,px,q,fun b H1 s q1=>?_⟩
 cases b with
 | true=>exact b4 ⟨W,ρ,D',px.mono s,by simpa using q1,k.step (Ev.same s)⟩
 | false=>exact aP ⟨W,ρ,D',px.mono s,by simpa using q1,k.step (Ev.same s)⟩
def u5 (c:bZ) (tb:aN):aN:=fun D ρ=>∃ I:Nat->b8->Prop,(∃ m,I m ρ)/\∀ m ρ',I m ρ'->c ρ' fun b=>if b=true then tb { D with nx:=fun ρ2=>∃ m',m' < m/\I m' ρ2,ct:=fun ρ2=>∃ m',m' < m/\I m' ρ2,bk:=D.nx } ρ' else D.nx ρ'
theorem am2 {c:bZ}{tb:aN} (h:LS X (u5 c tb) D σ H):wK (LT X c) (LS X tb) D σ H:=by
 obtain ⟨W,ρ,D',px,⟨I,⟨m0,i0⟩,turn⟩,k⟩:=h
 refine⟨fun m σ2 H2=>∃ W2 ρ2,PX X.K X.H₀ W2 σ2 ρ2 H2/\Ev W H W2 H2/\I m ρ2,⟨m0,W,ρ,px,Ev.refl _ _,i0⟩,?_⟩
 rintro m σ2 H2 ⟨W2,ρ2,px2,e2,i2⟩
 refine⟨W2,ρ2,_,px2,turn m ρ2 i2,fun b H3 s3 q3=>?_⟩
 cases b with
 | true=>
  refine b4 ⟨fun σ4 H4=>∃ W4 ρ4,PX X.K X.H₀ W4 σ4 ρ4 H4/\Ev W H W4 H4/\∃ m',m' < m/\I m' ρ4,fun σ4 H4 ⟨W4,ρ4,a,b,m',c,d⟩=>⟨m',c,W4,ρ4,a,b,d⟩,W2,ρ2,_,px2.mono s3,by simpa using q3,?_⟩
  have e3:Ev W H W2 H3:=e2.trans (Ev.same s3)
  exact⟨fun W' σ' H' ρ' e p q=>⟨W',ρ',p,e3.trans e,q⟩,k.rt,fun W' σ' H' ρ' e p q=>k.nx W' σ' H' ρ' (e3.trans e) p q,fun W' σ' H' ρ' e p q=>⟨W',ρ',p,e3.trans e,q⟩⟩
 | false=>exact aP (k.nx W2 σ2 H3 ρ2 (e2.trans (Ev.same s3)) (px2.mono s3) (by simpa using q3))
end
theorem lim {n:Nat} (h:n<=16000000):n<=sizeLine:=aX4 (eZ h)
theorem aL.sqT {K:PySem.W.Frag}{M:Addr->Prop}{H:Hp}{v:V}{xs:List PV} (r:aL K M H v (.tup xs)):∃ a us,v = .ref a/\H a=some (.tup us)/\Reps K M H us xs:=by
 cases r with
 | tup e r=>exact⟨_,_,rfl,e,r⟩
theorem aL.sqL {K:PySem.W.Frag}{M:Addr->Prop}{H:Hp}{v:V}{xs:List PV} (r:aL K M H v (.lst xs)):∃ a us,v = .ref a/\M a/\H a=some (.lst us)/\Reps K M H us xs:=by
 cases r with
 | lst m e r=>exact⟨_,_,rfl,m,e,r⟩
theorem iC.sqL {K:PySem.W.Frag}{H:Hp}{a:Addr}{ns:List Int} (h:iC K H a ns):aH K H a (ns.map V.int):=h.elim (fun z=>.inl (.inr z)) .inr
def iF:PV->Option (List PV)
 | .tup xs=>some xs
 | .lst xs=>some xs
 | .scr ns=>some (intz ns)
 | .kt xs=>some xs
 | _=>none
theorem aL.seq {K:PySem.W.Frag}{M:Addr->Prop}{H:Hp}{v:V}{x:PV}{xs:List PV} (r:aL K M H v x) (e:iF x=some xs):∃ a us,v = .ref a/\(aH K H a us ∨ aF K H a us)/\Reps K M H us xs:=by
 cases r with
 | tup h r=>cases e; exact⟨_,_,rfl,.inr (aF.of h),r⟩
 | lst m h r=>cases e; exact⟨_,_,rfl,.inl (aH.of h),r⟩
 | scr h=>cases e; exact⟨_,_,rfl,.inl h.sqL,Reps.intz _⟩
 | kt h r=>cases e; exact⟨_,_,rfl,.inr (.inr h),r⟩
 | _=>cases e
section
variable {X : Cx} {σ : St} {H : Hp} {D : cR} {te ti to : aG} {t u : aN} {Q' : VK}
theorem _root_.PP.PX.updL {K:PySem.W.Frag}{H0:Hp}{W:Addr->Prop}{σ:St}{ρ:b8}{H:Hp}{i:Nat}{a:Addr}{x:PV}{us:List V}{ys:List PV} (p:PX K H0 W σ ρ H) (hi:ρ[i]? = some (some (.own x))) (ha:σ[i]? = some (some (.ref a))) (wa:W a) (r:Reps K (Ms H0 W true) (upd H a (.lst us)) us ys) :
  PX K H0 W σ (ρ.set i (some (.own (.lst ys)))) (upd H a (.lst us)):=p.updOwn hi ha wa rfl (y:=.lst ys) ⟨us,aZ,r⟩
def iG (i:Nat) (te:aG):aN:=fun D ρ=>∃ xs,ρ[i]? = some (some (.own (.lst xs)))/\te ρ fun x g=>Nw g x/\xs.length < 16000000/\D.nx (ρ.set i (some (.own (.lst (xs ++ [x])))))
theorem am3 {i:Nat} (h:LS X (iG i te) D σ H):oD (mQ X.K "list" sS (iZ i) (fN (LE X te) gU)) D σ H:=by
 obtain ⟨W,ρ,D',px,⟨xs,hi,q⟩,k⟩:=h
 obtain ⟨v,ev,a,rfl,wa,us,ea,r⟩:=px.sl i _ hi
 refine⟨_,ev,jD (aH.of ea),W,ρ,_,px,q,?_⟩
 rintro w H1 x g s rx ⟨n,hl,q⟩
 have ea1:=s _ _ ea
 refine⟨a,us,w,rfl,rfl,ea1,eZ (by rw [r.length]; omega),?_⟩
 refine k.nx W σ _ _ ((Ev.same s).trans (Ev.upd wa)) ((px.mono s).updL hi ev wa ?_) q
 exact ((r.same s fun _ z=>z).append (.cons (Nw.rep px n rx) .nil)).keep (.upd ea1 rfl fun b m=>⟨nB wa m,m⟩)
def pK (to te:aG):aN:=fun D ρ=>to ρ fun x g=>∃ xs,g = .fr/\x = .lst xs/\xs.length < 16000000/\te ρ fun _ _=>D.nx ρ
theorem am4 (h:LS X (pK to te) D σ H):oD (mQ X.K "list" sS (LE X to) (fN (LE X te) gU)) D σ H:=by
 obtain ⟨W,ρ,D',px,q,k⟩:=h
 refine⟨W,ρ,_,px,q,?_⟩
 rintro v H1 x g s1 r1 ⟨xs,rfl,rfl,hl,q1⟩
 obtain ⟨a,us,rfl,m,ea,r⟩:=r1.sqL
 refine⟨jD (aH.of ea),W,ρ,_,px.mono s1,q1,fun w H2 y gy s2 r2 q2=>?_⟩
 refine⟨a,us,w,rfl,rfl,s2 _ _ ea,eZ (by rw [r.length]; omega),?_⟩
 have S:aB H (upd H2 a (.lst (us ++ [w]))):=fun b o e=>by
  rw [aJ (fun z=>by rw [z,show H a=none from m] at e; cases e)]
  exact s2 _ _ (s1 _ _ e)
 exact k.nx W σ _ ρ (Ev.same S) (px.mono S) q2
end
theorem Reps.atI {K:PySem.W.Frag}{M:Addr->Prop}{H:Hp}{us:List V}{xs:List PV}{i:Int}{z:PV} (r:Reps K M H us xs) (h:L2.atI xs i=some z):∃ v,L2.atI us i=some v/\aL K M H v z:=by
 unfold L2.atI at h ⊢
 rw [r.length]
 cases e:k9 xs.length i with
 | none=>rw [e] at h; cases h
 | some j=>rw [e] at h; exact r.at h
section
variable {X : Cx} {σ : St} {H : Hp} {Q' : VK} {ta tb te : aG} {tr : cO}
def u6:PV->Tg->PV->Tg->PK->Prop:=fun x g y _ Q=>∃ xs i z,iF x=some xs/\y = .int i/\L2.atI xs i=some z/\Q z g
theorem am5:dL X u6 (xL X.K):=by
 rintro W Hs H u v x y g g' Q Q' s n r1 r2 ⟨xs,i,z,e,rfl,hz,q⟩ k
 cases r2
 obtain ⟨a,us,rfl,hs,r⟩:=r1.seq e
 obtain ⟨v,hv,rv⟩:=r.atI hz
 rcases hs with hs | hs
 ·exact .inl ⟨a,us,i,v,rfl,rfl,hs,hv,k v H z g (aB.refl _) rv q⟩
 ·exact .inr (.inl ⟨a,us,i,v,rfl,rfl,hs,hv,k v H z g (aB.refl _) rv q⟩)
def u7:PV->Option Nat
 | .tup xs=>some xs.length
 | .lst xs=>some xs.length
 | .scr ns=>some ns.length
 | .dK ps=>some ps.length
 | .kt xs=>some xs.length
 | _=>none
def dY:List PV->(PV->Prop)->Prop:=fun xs Q=>∃ x n,xs = [x]/\u7 x=some n/\Q (.int n)
theorem Reps.one {K:PySem.W.Frag}{M:Addr->Prop}{H:Hp}{vs:List V}{x:PV} (r:Reps K M H vs [x]):∃ v,vs = [v]/\aL K M H v x:=by
 cases r with
 | cons r t=>cases t; exact⟨_,rfl,r⟩
theorem Reps.two {K:PySem.W.Frag}{M:Addr->Prop}{H:Hp}{vs:List V}{x y:PV} (r:Reps K M H vs [x,y]):∃ v w,vs = [v,w]/\aL K M H v x/\aL K M H w y:=by
 cases r with
 | cons r t=>
  obtain ⟨w,rfl,q⟩:=t.one
  exact⟨_,_,rfl,r,q⟩
theorem am6:dW X dY (fun xs H Q=>(∃ p ys,xs = [.ref p]/\(aH X.K H p ys ∨ aF X.K H p ys)/\Q (.int ys.length) H) ∨ ∃ a kvs,xs = [V.ref a]/\H a=some (.dK kvs)/\Q (.int kvs.length) H):=by
 rintro H vs xs Q Q' r ⟨x,n,rfl,e,q⟩ k
 obtain ⟨v,rfl,r1⟩:=r.one
 have fin:∀ {m:Nat},m=n->Q' (.int m) H:=fun {m} z=>by rw [z]; exact k _ _ _ (aB.refl _) (.int _) q
 cases r1 with
 | tup h r2=>cases e; exact .inl ⟨_,_,rfl,.inr (aF.of h),fin r2.length⟩
 | lst m h r2=>cases e; exact .inl ⟨_,_,rfl,.inl (aH.of h),fin r2.length⟩
 | scr h=>cases e; exact .inl ⟨_,_,rfl,.inl h.sqL,fin (by rw [aQ3])⟩
 | kt h r2=>cases e; exact .inl ⟨_,_,rfl,.inr (.inr h),fin r2.length⟩
 | dK m h e' r=>
  cases e
  refine .inr ⟨_,_,rfl,h,fin ?_⟩
  have:=congrArg List.length e'
  rw [aQ3,aQ3] at this
  exact this
 | _=>cases e
def seqT:PV->Option (List PV)
 | .kt _=>none
 | x=>iF x
def zW:List PV->(PV->Prop)->Prop:=fun xs Q=>∃ x ys,xs = [x]/\seqT x=some ys/\flats ys=true/\Q (.tup ys)
def pL:List PV->(PV->Prop)->Prop:=fun xs Q=>∃ x ys,xs = [x]/\iF x=some ys/\flats ys=true/\Q (.lst ys)
theorem am7:dW X (fun xs Q=>zW xs Q/\∀ ns,xs ≠ [.scr ns]) (fun xs H Q=>∃ p ys,xs = [.ref p]/\((aH X.K H p ys/\∀ l,H l=none->Q (.ref l) (upd H l (.tup ys))) ∨ (aF X.K H p ys/\Q (.ref p) H))):=by
 rintro H vs xs Q Q' r ⟨⟨x,ys,rfl,e,f,q⟩,nsc⟩ k
 obtain ⟨v,rfl,r1⟩:=r.one
 cases r1 with
 | tup h r2=>cases e; exact⟨_,_,rfl,.inr ⟨aF.of h,k _ _ _ (aB.refl _) (.tup h (r2.flat f)) q⟩⟩
 | lst m h r2=>cases e; exact⟨_,_,rfl,.inl ⟨aH.of h,fun l hl=>k _ _ _ (b6 hl _) (.tup aZ ((r2.flat f).same (b6 hl _) fun _ z=>z)) q⟩⟩
 | scr h=>exact absurd rfl (nsc _)
 | _=>cases e
theorem am8:dW X pL (fun xs H Q=>∃ p ys,xs = [.ref p]/\(aH X.K H p ys ∨ aF X.K H p ys)/\∀ l,H l=none->Q (.ref l) (upd H l (.lst ys))):=by
 rintro H vs xs Q Q' r ⟨x,ys,rfl,e,f,q⟩ k
 obtain ⟨v,rfl,r1⟩:=r.one
 obtain ⟨a,us,rfl,hs,r2⟩:=r1.seq e
 exact⟨_,_,rfl,hs,fun l hl=>k _ _ _ (b6 hl _) (.lst hl aZ ((r2.flat f).same (b6 hl _) fun _ z=>z)) q⟩
def nD:List PV->(PV->Prop)->Prop:=fun xs Q=>∃ ns,xs = [.lst (intz ns)]/\ns.length < 64/\∀ ms:List Int,ms.Perm ns->ms.Pairwise (· <= ·)->Q (.lst (intz ms))
theorem am9:dW X nD (yW X.K):=by
 rintro H vs xs Q Q' r ⟨ns,rfl,hl,q⟩ k
 obtain ⟨v,rfl,r1⟩:=r.one
 obtain ⟨a,us,rfl,_,h,r2⟩:=r1.sqL
 obtain rfl:=r2.ofInts
 exact⟨a,ns,rfl,aH.of h,hl,fun l ms hl' p o=>k _ _ _ (b6 hl' _) (.lst hl' aZ (Reps.intz ms)) (q ms p o)⟩
def u8:List PV->(PV->Prop)->Prop:=fun xs Q=>∃ bs:List Bool,xs = [.lst (bs.map PV.bl)]/\Q (.bl (bs.all id))
theorem Reps.ofBls {K:PySem.W.Frag}{M:Addr->Prop}{H:Hp}:∀ {ns:List Bool}{us:List V},Reps K M H us (ns.map PV.bl)->us=ns.map V.bl
 | [],_,.nil=>rfl
 | n :: r,_,.cons q t=>by
  cases q
  rw [Reps.ofBls t]; rfl
theorem an0:dW X u8 (fun xs H Q=>∃ (a:Addr) (bs:List Bool),xs = [.ref a]/\aH X.K H a (bs.map V.bl)/\Q (.bl (bs.all id)) H):=by
 rintro H vs xs Q Q' r ⟨bs,rfl,q⟩ k
 obtain ⟨v,rfl,r1⟩:=r.one
 obtain ⟨a,us,rfl,_,h,r2⟩:=r1.sqL
 obtain rfl:=r2.ofBls
 exact⟨a,bs,rfl,aH.of h,k _ _ _ (aB.refl _) (.bl _) q⟩
def nE:List PV->(PV->Prop)->Prop:=fun xs Q=>∃ i j,xs = [.int i,.int j]/\Q (.int (if j < i then j else i))
def pM:List PV->(PV->Prop)->Prop:=fun xs Q=>∃ i j,xs = [.int i,.int j]/\Q (.int (if j > i then j else i))
theorem an1:dW X nE (fun xs H Q=>∃ i j,xs = [.int i,.int j]/\Q (.int (if j < i then j else i)) H):=by
 rintro H vs xs Q Q' r ⟨i,j,rfl,q⟩ k
 obtain ⟨v,w,rfl,r1,r2⟩:=r.two
 cases r1; cases r2
 exact⟨i,j,rfl,k _ _ _ (aB.refl _) (.int _) q⟩
theorem an2:dW X pM (fun xs H Q=>∃ i j,xs = [.int i,.int j]/\Q (.int (if j > i then j else i)) H):=by
 rintro H vs xs Q Q' r ⟨i,j,rfl,q⟩ k
 obtain ⟨v,w,rfl,r1,r2⟩:=r.two
 cases r1; cases r2
 exact⟨i,j,rfl,k _ _ _ (aB.refl _) (.int _) q⟩
abbrev bD:=List PV->(PV->Prop)->Prop
def kG (K:PySem.W.Frag) (p:bD):Sp:=fun vs H Q _=>∃ xs Qp,Reps K (fun _=>True) H vs xs/\p xs Qp/\∀ v H' x,aB H H'->aL K (fun a=>H a=none) H' v x->Qp x->Q v H'
theorem an3 {p:bD}{E:XK} (h:LE X (aE p tr) σ H Q'):sK (kG X.K p) [] E (LA X tr) σ H Q':=by
 obtain ⟨W,ρ,Q,px,q,k⟩:=h
 refine⟨W,ρ,_,px,q,fun vs H1 xs s1 r1 q1=>⟨_,_,by rw [aV7]; exact r1.any,q1,fun v H' x s2 r2 q2=>k v H' x .fr (s1.trans s2) (r2.same (aB.refl _) fun _ z=>s1.free z) q2⟩⟩
def an4:PV->Option Bool
 | .non=>some false
 | .bl b=>some b
 | .int i=>some (i != 0)
 | .tup xs=>some (!xs.isEmpty)
 | .lst xs=>some (!xs.isEmpty)
 | .dK ps=>some (!ps.isEmpty)
 | _=>none
def u9 (t:aG):bZ:=fun ρ Q=>t ρ fun x _=>∃ b,an4 x=some b/\Q b
theorem uA {α β:Type}:∀ {l:List α}{m:List β},l.length=m.length->l.isEmpty=m.isEmpty
 | [],[],_=>rfl
 | _ :: _,_ :: _,_=>rfl
theorem an5 {t:aG}{Qb:Bool->Hp->Prop} (h:LT X (u9 t) σ H Qb):LE X t σ H fun x H'=>∃ k,sG X.K x H' k/\Qb k H':=by
 obtain ⟨W,ρ,Q,px,q,k⟩:=h
 refine⟨W,ρ,_,px,q,?_⟩
 rintro v H1 x g s r ⟨b,e,q⟩
 refine⟨b,?_,k _ _ s q⟩
 cases r with
 | non=>cases e; rfl
 | bl b=>cases e; rfl
 | int i=>cases e; rfl
 | str x=>cases e
 | tup h r=>cases e; exact .inr (.inl ⟨_,aF.of h,by rw [uA r.length]⟩)
 | lst m h r=>cases e; exact .inl ⟨_,aH.of h,by rw [uA r.length]⟩
 | dK m h e' r=>
  cases e
  refine .inr (.inr ⟨_,h,?_⟩)
  have:=congrArg List.length e'
  rw [aQ3,aQ3] at this
  rw [uA this]
 | dT m h e' r=>cases e
 | scr h=>cases e
 | kt h r=>cases e
 | exc h e' c=>cases e
 | fK h e' r=>cases e
 | fT h e' r=>cases e
def uB:PV->Bool
 | .non=>true
 | _=>false
def lF (neg:Bool):PV->Tg->PV->Tg->PK->Prop:=fun x _ y _ Q=>y = .non/\Q (.bl (if neg=true then !uB x else uB x)) .fr
theorem zX {K:PySem.W.Frag}{M:Addr->Prop}{H:Hp}{v:V}{x:PV} (r:aL K M H v x):decide (v = .non)=uB x:=by
 cases r <;> rfl
theorem an6:dL X (lF false) (fun x y H Q=>y = .non/\Q (.bl (decide (x = .non))) H):=by
 rintro W Hs H u v x y g g' Q Q' s n r1 r2 ⟨rfl,q⟩ k
 cases r2
 exact⟨rfl,by rw [zX r1]; exact k _ _ _ _ (aB.refl _) (.bl _) q⟩
theorem an7:dL X (lF true) (fun x y H Q=>y = .non/\Q (.bl (!decide (x = .non))) H):=by
 rintro W Hs H u v x y g g' Q Q' s n r1 r2 ⟨rfl,q⟩ k
 cases r2
 exact⟨rfl,by rw [zX r1]; exact k _ _ _ _ (aB.refl _) (.bl _) q⟩
end
structure jF (K:PySem.W.Frag) (H0:Hp) (W:Addr->Prop) (g:Bool) (H1:Hp) (J:It) (xs:List PV):Prop where
 go:∀ W' H' i,Ev W H1 W' H'->i < xs.length->J.go i H'
 yld:∀ W' H' i v H2,Ev W H1 W' H'->J.yld i H' v H2->i < xs.length->aB H' H2/\∃ x,xs[i]? = some x/\aL K (Ms H0 W' g) H2 v x
 stop:∀ W' H',Ev W H1 W' H'->J.stop xs.length H'
abbrev dZ:=b8->(List PV->Bool->Prop)->Prop
def LI (X:Cx) (t:dZ):TI:=fun σ H R=>∃ (W:Addr->Prop) (ρ:b8) (Q:List PV->Bool->Prop),PX X.K X.H₀ W σ ρ H/\t ρ Q/\∀ J H1 xs g,aB H H1->jF X.K X.H₀ W g H1 J xs->Q xs g->R J H1
theorem Ev.keep {H0:Hp}{W W':Addr->Prop}{H H':Hp}{g:Bool} (e:Ev W H W' H') (tw:∀ a,W a->∃ o,H a=some o/\eU o=true):gW (Ms H0 W g) (Ms H0 W' g) H H':=by
 have m:∀ {a:Addr}{o:HO},Ms H0 W g a->H a=some o->Ms H0 W' g a/\H' a=some o:=fun {a o} z h=>by
  cases g with
  | true=>
   obtain ⟨h1,h2⟩:=e a _ h z.1
   exact⟨⟨h2,z.2⟩,h1⟩
  | false=>
   obtain ⟨h1,h2⟩:=e a _ h z
   exact⟨h2,h1⟩
 refine⟨fun a _ z h=>m z h,fun a _ z h=>m z h,fun a _ z h=>m z h,fun a _ h=>(e a _ h fun z=>?_).1,fun a _ _ h=>(e a _ h fun z=>?_).1⟩
 ·obtain ⟨o,h',mu⟩:=tw a z; rw [h] at h'; cases h'; cases mu
 ·obtain ⟨o,h',mu⟩:=tw a z; rw [h] at h'; cases h'; cases mu
section
variable {X : Cx} {σ : St} {H : Hp} {te : aG} {tr : cO} {R : It → Hp → Prop}
def zY (K:PySem.W.Frag) (tl:TE):TI:=fun σ H R=>tl σ H fun x H1=>∃ a,x = .ref a/\((∃ xs,aH K H1 a xs/\R (kZ K a) H1) ∨ (∃ xs,aF K H1 a xs/\R (j5 K a) H1))
def gF:Tg->List PV->Bool
 | .fr,_=>true
 | .nw,_=>true
 | _,xs=>flats xs
def cD (te:aG):dZ:=fun ρ Q=>te ρ fun x g=>∃ xs,iF x=some xs/\(g = .rd->flat x=true)/\Q xs (gF g xs)
theorem zZ {K:PySem.W.Frag}{H0:Hp}{W:Addr->Prop}{g:Bool}{H1:Hp}{a:Addr}{us:List V}{xs:List PV} (tw:∀ a,W a->∃ o,H1 a=some o/\eU o=true) (ha:∀ W' H',Ev W H1 W' H'->aH K H' a us) (r:Reps K (Ms H0 W g) H1 us xs):jF K H0 W g H1 (kZ K a) xs:=by
 have lr:=r.length
 refine⟨fun W' H' i e hi=>⟨us,us[i]'(by omega),ha W' H' e,by simp⟩,fun W' H' i v H2 e y hi=>?_,fun W' H' e=>⟨us,ha W' H' e,by omega⟩⟩
 obtain ⟨rfl,y⟩:=y
 obtain ⟨x,hx,rx⟩:=r.get (y us (ha W' _ e))
 exact⟨aB.refl _,x,hx,rx.keep (e.keep tw)⟩
theorem A0 {K:PySem.W.Frag}{H0:Hp}{W:Addr->Prop}{g:Bool}{H1:Hp}{a:Addr}{us:List V}{xs:List PV} (tw:∀ a,W a->∃ o,H1 a=some o/\eU o=true) (ha:∀ W' H',Ev W H1 W' H'->aF K H' a us) (r:Reps K (Ms H0 W g) H1 us xs):jF K H0 W g H1 (j5 K a) xs:=by
 have lr:=r.length
 refine⟨fun W' H' i e hi=>⟨us,us[i]'(by omega),ha W' H' e,by simp⟩,fun W' H' i v H2 e y hi=>?_,fun W' H' e=>⟨us,ha W' H' e,by omega⟩⟩
 obtain ⟨rfl,y⟩:=y
 obtain ⟨x,hx,rx⟩:=r.get (y us (ha W' _ e))
 exact⟨aB.refl _,x,hx,rx.keep (e.keep tw)⟩
theorem jG {K:PySem.W.Frag}{H0 Hs H:Hp}{W:Addr->Prop}{σ:St}{ρ:b8}{g:Tg}{us:List V}{xs:List PV} (px:PX K H0 W σ ρ Hs) (hg:g = .rd->flats xs=true) (r:Reps K (Mg H0 W Hs g) H us xs):Reps K (Ms H0 W (gF g xs)) H us xs:=by
 cases g with
 | fr=>exact r.same (aB.refl _) fun _ z=>px.new z
 | nw=>exact r.same (aB.refl _) fun _ z=>z
 | sh=>
  show Reps K (Ms H0 W (flats xs)) H us xs
  cases e:flats xs with
  | true=>exact r.flat e
  | false=>exact r.same (aB.refl _) fun _ z=>z
 | rd=>exact r.flat (hg rfl)
theorem an8 (h:LI X (cD te) σ H R):zY X.K (LE X te) σ H R:=by
 obtain ⟨W,ρ,Q,px,q,k⟩:=h
 refine⟨W,ρ,_,px,q,?_⟩
 rintro v H1 x g s r ⟨xs,e,hg,q⟩
 have px1:=px.mono s
 have tw:∀ a,W a->∃ o,H1 a=some o/\eU o=true:=fun a z=>(px1.wm a z).2
 cases r with
 | tup h r=>
  cases e
  refine⟨_,rfl,.inr ⟨_,aF.of h,k _ _ _ _ s (A0 tw (fun W' H' e=>aF.of (e _ _ h fun z=>?_).1) (jG px (fun z=>by have:=hg z; unfold flat at this; exact this) r)) q⟩⟩
  obtain ⟨o,h',mu⟩:=tw _ z; rw [h] at h'; cases h'; cases mu
 | @lst a us xs' m h r=>
  cases e
  have wa : ¬ W a:=by
   cases g with
   | fr=>exact (px.new m).1
   | nw=>exact m.1
   | sh=>exact m
   | rd=>have:=hg rfl; unfold flat at this; cases this
  exact⟨_,rfl,.inl ⟨_,aH.of h,k _ _ _ _ s (zZ tw (fun W' H' e=>aH.of (e _ _ h wa).1) (jG px (fun z=>by have:=hg z; unfold flat at this; cases this) r)) q⟩⟩
 | scr h=>
  cases e
  refine⟨_,rfl,.inl ⟨_,h.sqL,k _ _ _ _ s (zZ tw (fun W' H' e=>(iC.keep (fun a o u hz=>(e _ _ hz fun z=>?_).1) h).sqL) (jG (g:=g) px (fun z=>cN _) (Reps.intz _))) q⟩⟩
  obtain ⟨o,h',mu⟩:=tw _ z; rw [hz] at h'; cases h'; cases mu
 | kt h r=>
  cases e
  exact⟨_,rfl,.inr ⟨_,.inr h,k _ _ _ _ s (A0 tw (fun W' H' e=>.inr h) (jG px (fun z=>by have:=hg z; unfold flat at this; exact this) r)) q⟩⟩
 | _=>cases e
def iH (lo:Int) (n:Nat):List PV:=(List.range n).map fun (i:Nat)=>PV.int (lo+(i:Int))
theorem gG (lo:Int) (n:Nat):(iH lo n).length=n:=by unfold iH; rw [aQ3,aZ5]
theorem A1 {lo:Int}{n i:Nat} (h:i < n):(iH lo n)[i]? = some (.int (lo+i)):=by unfold iH; rw [aR6,List.getElem?_range h]; rfl
def iI (te:aG):dZ:=fun ρ Q=>te ρ fun x _=>∃ j:Int,x = .int j/\-1000000<=j/\j<=1000000/\Q (iH 0 j.toNat) true
def pN (ta tb:aG):dZ:=fun ρ Q=>ta ρ fun x _=>tb ρ fun y _=>∃ i j:Int,x = .int i/\y = .int j/\(-1000000<=i/\i<=1000000/\-1000000<=j/\j<=1000000)/\Q (iH i (j - i).toNat) true
theorem A2 {K:PySem.W.Frag}{H0:Hp}{W:Addr->Prop}{H1:Hp} (lo:Int) (n:Nat):jF K H0 W true H1 (mE lo n) (iH lo n):=by
 refine⟨fun W' H' i e hi=>by rw [gG] at hi; exact hi,fun W' H' i v H2 e y hi=>?_,fun W' H' e=>by show n<=(iH lo n).length; rw [gG]; exact aQ6 _⟩
 rw [gG] at hi
 obtain ⟨rfl,rfl⟩:=y
 exact⟨aB.refl _,_,A1 hi,.int _⟩
theorem an9 (h:LI X (iI te) σ H R):wO (fN (LE X te) gU) σ H R:=by
 obtain ⟨W,ρ,Q,px,q,k⟩:=h
 refine⟨W,ρ,_,px,q,?_⟩
 rintro v H1 x g s r ⟨j,rfl,h1,h2,q⟩
 cases r
 exact⟨j,rfl,by omega,by omega,k _ _ _ _ s (A2 0 j.toNat) q⟩
theorem ao0 {ta tb:aG} (h:LI X (pN ta tb) σ H R):wP (fN (LE X ta) (fN (LE X tb) gU)) σ H R:=by
 obtain ⟨W,ρ,Q,px,q,k⟩:=h
 refine⟨W,ρ,_,px,q,fun v H1 x g s r q=>⟨W,ρ,_,px.mono s,q,?_⟩⟩
 rintro w H2 y g' s2 r2 ⟨i,j,rfl,rfl,h,q⟩
 cases r; cases r2
 exact⟨i,j,rfl,by omega,k _ _ _ _ (s.trans s2) (A2 i (j - i).toNat) q⟩
end
abbrev jH:=PV->Bool->b8->(b8->Prop)->Prop
def nF (K:PySem.W.Frag) (own:Nat->Prop) (p:jH) (t:TG):Prop:=∀ (H0:Hp) (W:Addr->Prop) (σ:St) (ρ:b8) (H:Hp) (v:V) (x:PV) (g:Bool) (Q:b8->Prop) (Q':St->Hp->Prop),
 PX K H0 W σ ρ H->aL K (Ms H0 W g) H v x->p x g ρ Q->(∀ σ' ρ',PX K H0 W σ' ρ' H->(∀ i,¬ own i->σ'[i]? = σ[i]?)->σ'.length=σ.length->Q ρ'->Q' σ' H)->t v σ H Q'
def bA (i:Nat):jH:=fun x g ρ Q=>Q (ρ.set i (some (.sh (g || flat x) x)))
theorem pO {K:PySem.W.Frag}{H0 H:Hp}{W:Addr->Prop}{v:V}{x:PV}{g:Bool} (r:aL K (Ms H0 W g) H v x):aL K (Ms H0 W (g || flat x)) H v x:=by
 cases g with
 | true=>exact r
 | false=>
  show aL K (Ms H0 W (flat x)) H v x
  cases e:flat x with
  | true=>exact r.flat e
  | false=>exact r
theorem pP (K:PySem.W.Frag) (i:Nat):nF K (· = i) (bA i) (cJ i):=by
 intro H0 W σ ρ H v x g Q Q' px r q k
 exact k _ _ (px.setSh (pO r)) (fun j hj=>by rw [aS5 (Ne.symm hj)]) (aW4 ..) q
def eW (i j:Nat):jH:=fun x g ρ Q=>∃ y z,x = .tup [y,z]/\Q ((ρ.set i (some (.sh (g || flat y) y))).set j (some (.sh (g || flat z) z)))
theorem pQ (K:PySem.W.Frag) (i j:Nat):nF K (fun k=>k=i ∨ k=j) (eW i j) (j4 K 2 (eG (cJ i) (eG (cJ j) j3))):=by
 intro H0 W σ ρ H v x g Q Q' px r q k
 obtain ⟨y,z,rfl,q⟩:=q
 obtain ⟨a,us,rfl,h,r⟩:=r.sqT
 obtain ⟨u1,u2,rfl,r1,r2⟩:=r.two
 refine⟨a,_,rfl,aF.of h,rfl,u1,_,rfl,u2,_,rfl,rfl,k _ _ ((px.setSh (pO r1)).setSh (pO r2)) (fun k hk=>?_) (by rw [aW4,aW4]) q⟩
 rw [aS5 (fun e=>hk (.inr e.symm)),aS5 (fun e=>hk (.inl e.symm))]
section
variable {X : Cx} {σ : St} {H : Hp} {D : cR}
def cG (ti:dZ) (p:jH) (tb:aN):aN:=fun D ρ=>ti ρ fun xs g=>∃ I:Nat->b8->Prop,I 0 ρ/\(∀ i x ρ',xs[i]? = some x->I i ρ'->p x g ρ' fun ρ2=>tb { D with nx:=I (i+1),ct:=I (i+1),bk:=D.nx } ρ2)/\∀ ρ',I xs.length ρ'->D.nx ρ'
theorem ao1 {ti:dZ}{p:jH}{g:TG}{tb:aN}{own:Nat->Prop} (hg:nF X.K own p g) (h:LS X (cG ti p tb) D σ H):wQ (LI X ti) g (LS X tb) D σ H:=by
 obtain ⟨W,ρ,D',px,q,k⟩:=h
 refine⟨W,ρ,_,px,q,?_⟩
 rintro J H1 xs gb s it ⟨I,i0,turn,fin⟩
 refine⟨fun i m σ2 H2=>m=xs.length - i/\i<=xs.length/\∃ W2 ρ2,PX X.K X.H₀ W2 σ2 ρ2 H2/\Ev W H1 W2 H2/\I i ρ2,⟨xs.length,by omega,aT7 _,W,ρ,px.mono s,Ev.refl _ _,i0⟩,?_⟩
 rintro i m σ2 H2 ⟨rfl,hi,W2,ρ2,px2,e2,i2⟩
 have e0:Ev W H W2 H2:=(Ev.same s).trans e2
 by_cases hlt:i < xs.length
 ·refine .inr ⟨it.go W2 H2 i e2 hlt,fun σ3 H3=>∃ W3 ρ3,PX X.K X.H₀ W3 σ3 ρ3 H3/\Ev W H1 W3 H3/\I (i+1) ρ3,fun σ3 H3 ⟨W3,ρ3,a,b,c⟩=>⟨xs.length - (i+1),by omega,rfl,hlt,W3,ρ3,a,b,c⟩,fun v H3 y=>?_⟩
  obtain ⟨s3,x,hx,rx⟩:=it.yld W2 H2 i v H3 e2 y hlt
  refine hg X.H₀ W2 σ2 ρ2 H3 v x gb _ _ (px2.mono s3) rx (turn i x ρ2 hx i2) fun σ4 ρ4 px4 _ _ q4=>?_
  have e3:Ev W H1 W2 H3:=e2.trans (Ev.same s3)
  have e3':Ev W H W2 H3:=e0.trans (Ev.same s3)
  exact⟨W2,ρ4,_,px4,q4,fun W' σ' H' ρ' e p q=>⟨W',ρ',p,e3.trans e,q⟩,k.rt,fun W' σ' H' ρ' e p q=>k.nx W' σ' H' ρ' (e3'.trans e) p q,fun W' σ' H' ρ' e p q=>⟨W',ρ',p,e3.trans e,q⟩⟩
 ·have e:i=xs.length:=by omega
  subst e
  exact .inl ⟨it.stop W2 H2 e2,k.nx W2 σ2 H2 ρ2 e0 px2 (fin ρ2 i2)⟩
end
def lG (fr:List (Option Nat)) (ρ:b8):b8:=fr.map fun o=>o.bind fun j=>(ρ[j]?).join.map fun m=>Slot.sh false m.val
def kH (D:Addr):Addr->Prop:=fun a=>a=D
theorem ao2 {K:PySem.W.Frag}{H0:Hp}{W:Addr->Prop}{σ:St}{ρ:b8}{H1 H':Hp}{D:Addr}{acc:List V}{fr:List (Option Nat)} (px:PX K H0 W σ ρ H1) (hD:H1 D=none) (s:aB H1 H') (ha:H' D=some (.lst acc)) :
  PX K H1 (kH D) (eR fr σ) (lG fr ρ) H':=by
 have old:∀ {a:Addr}{o:HO},H1 a=some o->a ≠ D:=fun {a o} e z=>by rw [z,hD] at e; cases e
 refine⟨by unfold eR lG; rw [aQ3,aQ3],s,fun a z=>by cases z; exact⟨hD,_,ha,rfl⟩,fun i m h=>?_,fun i j x y a h1=>?_⟩
 ·unfold lG at h
  rw [aR6] at h
  cases ef:fr[i]? with
  | none=>rw [ef] at h; cases h
  | some o=>
   rw [ef] at h
   cases o with
   | none=>cases h
   | some j=>
    have h:some ((ρ[j]?).join.map fun m=>Slot.sh false m.val)=some (some m):=h
    cases er:ρ[j]? with
    | none=>rw [er] at h; cases h
    | some o=>
     rw [er] at h
     cases o with
     | none=>cases h
     | some m0=>
      cases h
      obtain ⟨v,ev,r⟩:=px.sl j m0 er
      refine⟨v,?_,?_⟩
      ·unfold eR
       rw [aR6,ef]
       show some ((σ[j]?).join)=_
       rw [ev]; rfl
      ·have r':aL K (fun _=>True) H1 v m0.val:=(zO (Hs:=H1) r).same (aB.refl _) fun _ _=>trivial
       exact r'.keep ⟨fun a _ _ e=>⟨old e,s _ _ e⟩,fun a _ _ e=>⟨old e,s _ _ e⟩,fun a _ _ e=>⟨old e,s _ _ e⟩,fun _ _ e=>s _ _ e,fun _ _ _ e=>s _ _ e⟩
 ·unfold lG at h1
  rw [aR6] at h1
  cases ef:fr[i]? with
  | none=>rw [ef] at h1; cases h1
  | some o=>
   rw [ef] at h1
   cases o with
   | none=>cases h1
   | some j=>
    have h1:some ((ρ[j]?).join.map fun m=>Slot.sh false m.val)=some (some (Slot.own x)):=h1
    cases er:ρ[j]? with
    | none=>rw [er] at h1; cases h1
    | some o=>
     rw [er] at h1
     cases o with
     | none=>cases h1
     | some m0=>cases h1
section
variable {X : Cx} {σ : St} {H : Hp} {Q' : VK}
abbrev _root_.L2.Cx.frm (X:Cx) (H1:Hp):Cx:={ X with H₀:=H1 }
def cH (ti:dZ) (fr:List (Option Nat)) (p:jH) (tc:bZ) (te:aG):aG:=fun ρ Q=>ti ρ fun xs g=>xs.length<=16000000/\∃ I:Nat->List PV->Prop,I 0 []/\
 (∀ i x acc,xs[i]? = some x->I i acc->p x false (lG fr ρ) fun ρ2=>tc ρ2 fun b=>if b=true then te ρ2 fun y gy=>Nw gy y/\I (i+1) (acc ++ [y]) else I (i+1) acc)/\∀ acc,I xs.length acc->Q (.lst acc) .fr
theorem lH {ti:dZ}{fr:List (Option Nat)}{p:jH}{g:TG}{tc:bZ}{te:aG}{own:Nat->Prop} (hg:nF X.K own p g) (ho:∀ i,own i->fr[i]? = some none) (h:LE X (cH ti fr p tc te) σ H Q') :
  tG (LI X ti) fr (fun _=>g) (fun H1=>LT (X.frm H1) tc) (fun H1=>LE (X.frm H1) te) σ H Q':=by
 obtain ⟨W,ρ,Q,px,q,k⟩:=h
 refine⟨W,ρ,_,px,q,?_⟩
 rintro J H1 xs gb s it ⟨hl,I,i0,turn,fin⟩ D hD
 have px1:=px.mono s
 refine⟨fun i m acc H'=>m=xs.length - i/\i<=xs.length/\aB H1 H'/\H' D=some (.lst acc)/\∃ ys,Reps X.K (Ms H1 (kH D) true) H' acc ys/\ys.length<=i/\I i ys,⟨xs.length,by omega,aT7 _,b6 hD _,aZ,[],.nil,aQ6 _,i0⟩,?_⟩
 rintro i m acc H' ⟨rfl,hi,sm,ha,ys,ry,hy,iy⟩
 refine⟨ha,?_⟩
 have ev:Ev W H1 (lE W D) H':=Ev.own sm hD
 by_cases hlt:i < xs.length
 ·refine .inr ⟨it.go _ H' i ev hlt,fun v H2 y=>?_⟩
  obtain ⟨s2,x,hx,rx⟩:=it.yld _ H' i v H2 ev y hlt
  have ha2:=s2 _ _ ha
  have pxb:PX X.K H1 (kH D) (eR fr σ) (lG fr ρ) H2:=ao2 px1 hD (sm.trans s2) ha2
  have rx':aL X.K (Ms H1 (kH D) false) H2 v x:=rx.same (aB.refl _) fun a z=>by
   cases gb with
   | true=>exact fun e=>z.1 (.inr e)
   | false=>exact fun e=>z (.inr e)
  refine hg H1 (kH D) _ _ H2 v x false _ _ pxb rx' (turn i x ys hx iy) fun σ2 ρ2 px2 hown hlen q2=>⟨⟨hlen.symm,fun j w e=>?_⟩,?_⟩
  ·by_cases oj:own j
   ·have:=ho j oj
    unfold eR at e
    rw [aR6,this] at e
    cases e
   ·rw [hown j oj]; exact e
  ·refine⟨kH D,ρ2,_,px2,q2,fun b H4 s4 q4=>?_⟩
   have ha4:=s4 _ _ ha2
   have sm4:=(sm.trans s2).trans s4
   cases b with
   | false=>
    refine aP ⟨xs.length - (i+1),by omega,rfl,hlt,sm4,ha4,ys,ry.same (s2.trans s4) fun _ z=>z,by omega,by simpa using q4⟩
   | true=>
    refine b4 ⟨kH D,ρ2,_,px2.mono s4,by simpa using q4,?_⟩
    rintro w H5 y gy s5 ryy ⟨nw,q5⟩
    have ha5:=s5 _ _ ha4
    have lr:=ry.length
    refine⟨ha5,eZ (by omega),xs.length - (i+1),by omega,rfl,hlt,fun b o e=>?_,aZ,ys ++ [y],?_,by rw [aQ8,aT3]; omega,q5⟩
    ·rw [aJ (fun z=>by rw [z,hD] at e; cases e)]
     exact s5 _ _ (sm4 _ _ e)
    ·exact ((ry.same ((s2.trans s4).trans s5) fun _ z=>z).append (.cons (Nw.rep (px2.mono s4) nw ryy) .nil)).keep (.upd ha5 rfl fun b m=>⟨m.1,m⟩)
 ·have e:i=xs.length:=by omega
  subst e
  refine .inl ⟨it.stop _ H' ev,k _ H' _ .fr (s.trans sm) (.lst (s.free hD) ha (ry.same (aB.refl _) fun _ z=>s.free z.2)) (fin ys iy)⟩
def dA:bZ:=fun _ Q=>Q true
theorem ao3 {Qb:Bool->Hp->Prop} (h:LT X dA σ H Qb):tD σ H Qb:=by
 obtain ⟨W,ρ,Q,px,q,k⟩:=h
 exact k _ _ (aB.refl _) q
end
section
variable {κ : Type} [DecidableEq κ]
def b7 (ps:List (κ × PV)) (k:κ):Option PV:=(ps.find? fun p=>decide (p.1=k)).map (·.2)
def cL (ps:List (κ × PV)) (k:κ) (x:PV):List (κ × PV):=if (ps.any fun p=>decide (p.1=k))=true then ps.map (fun p=>if p.1=k then (p.1,x) else p) else ps ++ [(k,x)]
variable {K : PySem.W.Frag} {M : Addr → Prop} {H : Hp}
theorem iJ (k:κ):∀ {kvs:List (κ × V)}{ps:List (κ × PV)},kvs.map (·.1)=ps.map (·.1)->Reps K M H (kvs.map (·.2)) (ps.map (·.2))->(b7 ps k=none->eJ kvs k=none)/\∀ x,b7 ps k=some x->∃ v,eJ kvs k=some v/\aL K M H v x
 | [],[],_,_=>⟨fun _=>rfl,fun x h=>by cases h⟩
 | [],_ :: _,e,_=>by cases e
 | _ :: _,[],e,_=>by cases e
 | (k1,v) :: kvs,(k2,x) :: ps,e,r=>by
  injection e with e1 e2
  have e1:k1=k2:=e1
  subst e1
  cases r with
  | cons r t=>
   obtain ⟨h1,h2⟩:=iJ k e2 t
   unfold b7 eJ at h1 h2 ⊢
   by_cases e:k1=k
   ·simp only [aY7,e,decide_true,Option.map_some]
    exact⟨fun z=>(by cases z),fun y z=>(by cases z; exact⟨v,rfl,r⟩)⟩
   ·simp only [aY7,e,decide_false]
    exact⟨h1,h2⟩
theorem ao4 (k:κ) {kvs:List (κ × V)}{ps:List (κ × PV)} (e:kvs.map (·.1)=ps.map (·.1)):(kvs.any fun p=>decide (p.1=k))=ps.any fun p=>decide (p.1=k):=by
 have h1:(kvs.any fun p=>decide (p.1=k))=(kvs.map (·.1)).any fun z=>decide (z=k):=by rw [List.any_map]; rfl
 have h2:(ps.any fun p=>decide (p.1=k))=(ps.map (·.1)).any fun z=>decide (z=k):=by rw [List.any_map]; rfl
 rw [h1,h2,e]
theorem A3 (k:κ) {w:V}{y:PV} (q:aL K M H w y):∀ {kvs:List (κ × V)}{ps:List (κ × PV)},kvs.map (·.1)=ps.map (·.1)->Reps K M H (kvs.map (·.2)) (ps.map (·.2))->
  (kvs.map fun kv=>if kv.1=k then (kv.1,w) else kv).map (·.1)=(ps.map fun kv=>if kv.1=k then (kv.1,y) else kv).map (·.1)/\Reps K M H ((kvs.map fun kv=>if kv.1=k then (kv.1,w) else kv).map (·.2)) ((ps.map fun kv=>if kv.1=k then (kv.1,y) else kv).map (·.2))
 | [],[],_,_=>⟨rfl,.nil⟩
 | [],_ :: _,e,_=>by cases e
 | _ :: _,[],e,_=>by cases e
 | (k1,v) :: kvs,(k2,x) :: ps,e,r=>by
  injection e with e1 e2
  have e1:k1=k2:=e1
  subst e1
  cases r with
  | cons r t=>
   obtain ⟨h1,h2⟩:=A3 k q e2 t
   by_cases e:k1=k
   ·simp only [aU8,e,if_true]
    exact⟨by rw [h1],.cons q h2⟩
   ·simp only [aU8,e,aX0]
    exact⟨by rw [h1],.cons r h2⟩
theorem uC (k:κ) {w:V}{y:PV} (q:aL K M H w y) {kvs:List (κ × V)}{ps:List (κ × PV)} (e:kvs.map (·.1)=ps.map (·.1)) (r:Reps K M H (kvs.map (·.2)) (ps.map (·.2))) :
  (dC kvs k w).map (·.1)=(cL ps k y).map (·.1)/\Reps K M H ((dC kvs k w).map (·.2)) ((cL ps k y).map (·.2)):=by
 unfold dC cL
 rw [ao4 k e]
 split
 ·exact A3 k q e r
 ·rw [aS9,aS9,aS9,aS9,e]
  exact⟨rfl,r.append (.cons q .nil)⟩
end
def kP:aC->PV
 | .inl i=>.int i
 | .inr x=>.str x
theorem uD {K:PySem.W.Frag}{M:Addr->Prop}{H:Hp}{v:V}{k:aC} (r:aL K M H v (kP k)):v=kV k:=by
 cases k with
 | inl i=>cases r; rfl
 | inr x=>cases r; rfl
theorem uE {K:PySem.W.Frag}{M:Addr->Prop}{H:Hp}:∀ {ks:List aC}{us:List V},Reps K M H us (ks.map kP)->us=ks.map kV
 | [],_,.nil=>rfl
 | k :: r,_,.cons q t=>by rw [uD q,uE t]; rfl
def A4:PV->PV
 | .fK ps=>.dK ps
 | .fT ps=>.dT ps
 | x=>x
def uF (x y:PV) (o:Option PV):Prop:=(∃ ps k,A4 x = .dK ps/\y=kP k/\o=b7 ps k) ∨ (∃ ps k,A4 x = .dT ps/\y = .tup (k.map kP)/\o=b7 ps k)
theorem pR {K:PySem.W.Frag}{M M2:Addr->Prop}{H:Hp}{v w:V}{x y:PV}{o:Option PV} (h:uF x y o) (rx:aL K M H v x) (ry:aL K M2 H w y):∃ a o',v = .ref a/\dR H a w o'/\(o=none->o'=none)/\∀ z,o=some z->∃ u,o'=some u/\aL K M H u z:=by
 rcases h with ⟨ps,k,ex,rfl,rfl⟩ | ⟨ps,k,ex,rfl,rfl⟩
 ·obtain rfl:=uD ry
  cases rx with
  | dK m h e r=>cases ex; exact⟨_,_,rfl,dR.k h,(iJ k e r).1,(iJ k e r).2⟩
  | fK h e r=>cases ex; exact⟨_,_,rfl,.inl ⟨_,k,.inr ⟨_,h⟩,rfl,rfl⟩,(iJ k e r).1,(iJ k e r).2⟩
  | _=>cases ex
 ·obtain ⟨b,us,rfl,hb,rb⟩:=ry.sqT
  obtain rfl:=uE rb
  cases rx with
  | dT m h e r=>cases ex; exact⟨_,_,rfl,dR.t h hb,(iJ k e r).1,(iJ k e r).2⟩
  | fT h e r=>cases ex; exact⟨_,_,rfl,.inr ⟨_,k,b,.inr ⟨_,h⟩,rfl,hb,rfl⟩,(iJ k e r).1,(iJ k e r).2⟩
  | _=>cases ex
section
variable {X : Cx} {σ : St} {H : Hp} {D : cR} {tk td te : aG} {Q' : VK}
def iK (neg:Bool) (tk td:aG):aG:=fun ρ Q=>tk ρ fun y _=>td ρ fun x _=>∃ o,uF x y o/\Q (.bl (if neg=true then !o.isSome else o.isSome)) .fr
theorem A5 {α β:Type}{o:Option α}{o':Option β}{P:β->α->Prop} (h1:o=none->o'=none) (h2:∀ z,o=some z->∃ u,o'=some u/\P u z):o'.isSome=o.isSome:=by
 cases o with
 | none=>rw [h1 rfl]; rfl
 | some z=>obtain ⟨u,e,_⟩:=h2 z rfl; rw [e]; rfl
theorem ao5 (h:LE X (iK false tk td) σ H Q'):xW (LE X tk) (LE X td) σ H Q':=by
 obtain ⟨W,ρ,Q,px,q,k⟩:=h
 refine⟨W,ρ,_,px,q,fun w H1 y g s r q=>⟨W,ρ,_,px.mono s,q,?_⟩⟩
 rintro v H2 x g' s2 r2 ⟨o,ak,q⟩
 obtain ⟨a,o',rfl,dg,h1,h2⟩:=pR ak r2 (r.same s2 fun _ z=>z)
 refine⟨a,o',rfl,dg,?_⟩
 rw [A5 h1 h2]
 exact k _ _ _ .fr (s.trans s2) (.bl _) q
theorem A6 (h:LE X (iK true tk td) σ H Q'):xX (LE X tk) (LE X td) σ H Q':=by
 obtain ⟨W,ρ,Q,px,q,k⟩:=h
 refine⟨W,ρ,_,px,q,fun w H1 y g s r q=>⟨W,ρ,_,px.mono s,q,?_⟩⟩
 rintro v H2 x g' s2 r2 ⟨o,ak,q⟩
 obtain ⟨a,o',rfl,dg,h1,h2⟩:=pR ak r2 (r.same s2 fun _ z=>z)
 refine⟨a,o',rfl,dg,?_⟩
 rw [A5 h1 h2]
 exact k _ _ _ .fr (s.trans s2) (.bl _) q
def uG (td tk:aG):aG:=fun ρ Q=>td ρ fun x g=>tk ρ fun y _=>∃ z,uF x y (some z)/\Q z g
theorem ao6 (h:LE X (uG td tk) σ H Q'):xV (LE X td) (LE X tk) σ H Q':=by
 obtain ⟨W,ρ,Q,px,q,k⟩:=h
 refine⟨W,ρ,_,px,q,fun v H1 x g s r q=>⟨W,ρ,_,px.mono s,q,?_⟩⟩
 rintro w H2 y g' s2 r2 ⟨z,ak,q⟩
 obtain ⟨a,o',rfl,dg,h1,h2⟩:=pR ak (r.same s2 fun _ z=>z) r2
 obtain ⟨u,rfl,ru⟩:=h2 z rfl
 exact⟨a,u,rfl,dg,k _ _ _ g (s.trans s2) ru q⟩
theorem PX.updD {K:PySem.W.Frag}{H0:Hp}{W:Addr->Prop}{σ:St}{ρ:b8}{H:Hp}{i:Nat}{a:Addr}{x:PV}{kvs:List (aC × V)}{ps:List (aC × PV)} (p:PX K H0 W σ ρ H) (hi:ρ[i]? = some (some (.own x))) (ha:σ[i]? = some (some (.ref a))) (wa:W a)
  (r:kvs.map (·.1)=ps.map (·.1)/\Reps K (Ms H0 W true) (upd H a (.dK kvs)) (kvs.map (·.2)) (ps.map (·.2))):PX K H0 W σ (ρ.set i (some (.own (.dK ps)))) (upd H a (.dK kvs)):=p.updOwn hi ha wa rfl (y:=.dK ps) ⟨kvs,aZ,r⟩
theorem PX.updT {K:PySem.W.Frag}{H0:Hp}{W:Addr->Prop}{σ:St}{ρ:b8}{H:Hp}{i:Nat}{a:Addr}{x:PV}{kvs:List (List aC × V)}{ps:List (List aC × PV)} (p:PX K H0 W σ ρ H) (hi:ρ[i]? = some (some (.own x))) (ha:σ[i]? = some (some (.ref a))) (wa:W a)
  (r:kvs.map (·.1)=ps.map (·.1)/\Reps K (Ms H0 W true) (upd H a (.dT kvs)) (kvs.map (·.2)) (ps.map (·.2))):PX K H0 W σ (ρ.set i (some (.own (.dT ps)))) (upd H a (.dT kvs)):=p.updOwn hi ha wa rfl (y:=.dT ps) ⟨kvs,aZ,r⟩
theorem pS {κ α β:Type}{l:List (κ × α)}{m:List (κ × β)} (e:l.map (·.1)=m.map (·.1)):l.length=m.length:=by
 have:=congrArg List.length e
 rw [aQ3,aQ3] at this
 exact this
def pT (i:Nat) (tk te:aG):aN:=fun D ρ=>te ρ fun z g=>∃ ps,ρ[i]? = some (some (.own (.dK ps)))/\tk ρ fun y _=>∃ k,y=kP k/\Nw g z/\ps.length < 16000000/\D.nx (ρ.set i (some (.own (.dK (cL ps k z)))))
def pU (i:Nat) (tk te:aG):aN:=fun D ρ=>te ρ fun z g=>∃ ps,ρ[i]? = some (some (.own (.dT ps)))/\tk ρ fun y _=>∃ k,y = .tup (k.map kP)/\Nw g z/\ps.length < 16000000/\D.nx (ρ.set i (some (.own (.dT (cL ps k z)))))
theorem ao7 {i:Nat} (h:LS X (pT i tk te) D σ H):t0 (iZ i) (LE X tk) (LE X te) D σ H:=by
 obtain ⟨W,ρ,D',px,q,k⟩:=h
 refine⟨W,ρ,_,px,q,?_⟩
 rintro w H1 z g s rz ⟨ps,hi,q⟩
 obtain ⟨v,ev,a,rfl,wa,kvs,ea,e1,r⟩:=(px.mono s).sl i _ hi
 refine⟨_,ev,W,ρ,_,px.mono s,q,?_⟩
 rintro kv H2 y g' s2 ry ⟨kk,rfl,nw,hl,q⟩
 obtain rfl:=uD ry
 have ea2:=s2 _ _ ea
 refine⟨a,_,rfl,j9.k ea2 (eZ (by rw [pS e1]; omega)),?_⟩
 refine k.nx W σ _ _ ((Ev.same (s.trans s2)).trans (Ev.upd wa)) ((px.mono (s.trans s2)).updD hi ev wa ?_) q
 obtain ⟨h1,h2⟩:=uC kk ((Nw.rep px nw rz).same s2 fun _ z=>z) e1 (r.same s2 fun _ z=>z)
 exact⟨h1,h2.keep (.upd ea2 rfl fun b m=>⟨nB wa m,m⟩)⟩
theorem ao8 {i:Nat} (h:LS X (pU i tk te) D σ H):t0 (iZ i) (LE X tk) (LE X te) D σ H:=by
 obtain ⟨W,ρ,D',px,q,k⟩:=h
 refine⟨W,ρ,_,px,q,?_⟩
 rintro w H1 z g s rz ⟨ps,hi,q⟩
 obtain ⟨v,ev,a,rfl,wa,kvs,ea,e1,r⟩:=(px.mono s).sl i _ hi
 refine⟨_,ev,W,ρ,_,px.mono s,q,?_⟩
 rintro kv H2 y g' s2 ry ⟨kk,rfl,nw,hl,q⟩
 obtain ⟨b,us,rfl,hb,rb⟩:=ry.sqT
 obtain rfl:=uE rb
 have ea2:=s2 _ _ ea
 refine⟨a,_,rfl,j9.t ea2 hb (eZ (by rw [pS e1]; omega)),?_⟩
 refine k.nx W σ _ _ ((Ev.same (s.trans s2)).trans (Ev.upd wa)) ((px.mono (s.trans s2)).updT hi ev wa ?_) q
 obtain ⟨h1,h2⟩:=uC kk ((Nw.rep px nw rz).same s2 fun _ z=>z) e1 (r.same s2 fun _ z=>z)
 exact⟨h1,h2.keep (.upd ea2 rfl fun b m=>⟨nB wa m,m⟩)⟩
theorem ao9 (h:LE X (qC (.dK [])) σ H Q'):y7 σ H Q':=by
 obtain ⟨W,ρ,Q,px,q,k⟩:=h
 exact fun p hp=>k _ _ _ .fr (b6 hp _) (.dK hp aZ rfl .nil) q
theorem ap0 (h:LE X (qC (.dT [])) σ H Q'):yA σ H Q':=by
 obtain ⟨W,ρ,Q,px,q,k⟩:=h
 exact fun p hp=>k _ _ _ .fr (b6 hp _) (.dT hp aZ rfl .nil) q
def gH (ps more:List (aC × PV)):List (aC × PV):=more.foldl (fun acc kv=>cL acc kv.1 kv.2) ps
theorem A7 {K:PySem.W.Frag}{M:Addr->Prop}{H:Hp}:∀ {more:List (aC × V)}{mp:List (aC × PV)}{kvs:List (aC × V)}{ps:List (aC × PV)},more.map (·.1)=mp.map (·.1)->Reps K M H (more.map (·.2)) (mp.map (·.2))->kvs.map (·.1)=ps.map (·.1)->Reps K M H (kvs.map (·.2)) (ps.map (·.2))->
  (kD kvs more).map (·.1)=(gH ps mp).map (·.1)/\Reps K M H ((kD kvs more).map (·.2)) ((gH ps mp).map (·.2))
 | [],[],_,_,_,_,e,r=>⟨e,r⟩
 | [],_ :: _,_,_,e,_,_,_=>by cases e
 | _ :: _,[],_,_,e,_,_,_=>by cases e
 | (k1,v) :: more,(k2,x) :: mp,kvs,ps,e,r,e',r'=>by
  injection e with e1 e2
  have e1:k1=k2:=e1
  subst e1
  cases r with
  | cons q t=>
   obtain ⟨h1,h2⟩:=uC k1 q e' r'
   exact A7 (more:=more) (mp:=mp) e2 t h1 h2
def uH (i:Nat) (te:aG):aN:=fun D ρ=>∃ ps,ρ[i]? = some (some (.own (.dK ps)))/\te ρ fun y g=>∃ mp,y = .dK mp/\(g = .fr ∨ (g = .nw/\False))/\ps.length+mp.length<=16000000/\D.nx (ρ.set i (some (.own (.dK (gH ps mp)))))
theorem ap1 {i:Nat} (h:LS X (uH i te) D σ H):oD (zM (iZ i) (LE X te)) D σ H:=by
 obtain ⟨W,ρ,D',px,⟨ps,hi,q⟩,k⟩:=h
 obtain ⟨v,ev,a,rfl,wa,kvs,ea,e1,r⟩:=px.sl i _ hi
 refine⟨_,ev,a,rfl,.inl ⟨kvs,.inl ea⟩,W,ρ,_,px,q,?_⟩
 rintro w H1 y g s ry ⟨mp,rfl,hg,hl,q⟩
 rcases hg with rfl | ⟨_,z⟩
 ·cases ry with
  | @dK b more _ m hb e2 rb=>
   have hab:a ≠ b:=fun z=>by subst z; rw [show H a=none from m] at ea; cases ea
   have ea1:=s _ _ ea
   refine⟨b,kvs,more,rfl,hab,ea1,hb,lim (by rw [pS e1,pS e2]; exact hl),?_⟩
   refine k.nx W σ _ _ ((Ev.same s).trans (Ev.upd wa)) ((px.mono s).updD hi ev wa ?_) q
   obtain ⟨h1,h2⟩:=A7 e2 (rb.same (M':=Ms X.H₀ W true) (aB.refl _) fun _ z=>px.new z) e1 (r.same s fun _ z=>z)
   exact⟨h1,h2.keep (.upd ea1 rfl fun b m=>⟨nB wa m,m⟩)⟩
 ·exact z.elim
end
def iL (ta:aG):aG:=fun ρ Q=>ta ρ fun x _=>∃ i,x = .int i/\Q (.int (-i)) .fr
abbrev lI:=b8->(Option Int->Prop)->Prop
def eY (xs:List PV) (lo hi:Option Int):List PV:=(xs.drop (HT.aS xs.length 0 lo)).take (HT.aS xs.length xs.length hi - HT.aS xs.length 0 lo)
def ap2:PV->List PV->PV
 | .tup _,ys=>.tup ys
 | .kt _,ys=>.tup ys
 | _,ys=>.lst ys
def e8:lI:=fun _ Q=>Q none
def e9 (te:aG):lI:=fun ρ Q=>te ρ fun x _=>∃ i,x = .int i/\Q (some i)
def eB (te:aG) (tl th:lI):aG:=fun ρ Q=>te ρ fun x _=>tl ρ fun lo=>th ρ fun hi=>∃ xs,seqT x=some xs/\flats xs=true/\Q (ap2 x (eY xs lo hi)) .fr
def eC (N:List Str) (xs:List PV):b8:=xs.map (fun x=>some (.sh (flat x) x)) ++ List.replicate (N.length - xs.length) none
abbrev fC (ta tb:aG):aG:=q2 (dS fun i j=>.int (i+j)) ta tb
abbrev lJ (ta tb:aG):aG:=q2 (dS fun i j=>.int (i - j)) ta tb
abbrev A8 (ta tb:aG):aG:=q2 (RI mH fun i j=>.int (i * j)) ta tb
abbrev bK (ta tb:aG):aG:=q2 (RI sB fun i j=>.int (i / j)) ta tb
abbrev b5 (ta tb:aG):aG:=q2 (RI (fun _ j=>0 < j) fun i j=>.int (i % j)) ta tb
abbrev nG (ta tb:aG):aG:=q2 (RI sC fun i j=>.int (i ^ j.toNat)) ta tb
abbrev iM (ta tb:aG):aG:=q2 (dS fun i j=>.bl (decide (i < j))) ta tb
abbrev qLe (ta tb:aG):aG:=q2 (dS fun i j=>.bl (decide (i<=j))) ta tb
abbrev nH (ta tb:aG):aG:=q2 (dS fun i j=>.bl (decide (j < i))) ta tb
abbrev pV (ta tb:aG):aG:=q2 (dS fun i j=>.bl (decide (j<=i))) ta tb
abbrev fD (ta tb:aG):aG:=q2 (lD false) ta tb
abbrev nI (ta tb:aG):aG:=q2 (lD true) ta tb
abbrev ap3 (ta tb:aG):aG:=q2 (lF false) ta tb
abbrev A9 (ta tb:aG):aG:=q2 (lF true) ta tb
abbrev bI (ta tb:aG):aG:=q2 u6 ta tb
def gI:List PV->(PV->Prop)->Prop:=fun xs Q=>zW xs Q/\∀ ns,xs ≠ [.scr ns]
def QE (X:Cx) (e:Expr) (t:aG):Prop:=PE X e (LE X t)
def QT (X:Cx) (e:Expr) (t:bZ):Prop:=PT X e (LT X t)
def QW (X:Cx) (e:Expr) (t:bZ):Prop:=PW X e (LT X t)
def QA (X:Cx) (es:List Expr) (t:cO):Prop:=PA X es (LA X t)
def QS (X:Cx) (st:Stmt) (t:aN):Prop:=PS X st (LS X t)
def dM (X:Cx) (st:List Stmt) (t:aN):Prop:=dB X st (LS X t)
def QI (X:Cx) (tg iter:Expr) (t:dZ):Prop:=PI X tg iter (LI X t)
section
variable {X : Cx}
theorem bL {e:Expr}{t t':TE} (h:PE X e t) (m:∀ σ H Q,t' σ H Q->t σ H Q):PE X e t':=fun pins s σ H Q I q=>h pins s σ H Q I (m σ H Q q)
theorem lK {e:Expr}{t t':TT} (h:PT X e t) (m:∀ σ H Q,t' σ H Q->t σ H Q):PT X e t':=fun pins s σ H Q I q=>h pins s σ H Q I (m σ H Q q)
theorem B0 {e:Expr}{t t':TT} (h:PW X e t) (m:∀ σ H Q,t' σ H Q->t σ H Q):PW X e t':=fun wh pins s σ H Q I q=>h wh pins s σ H Q I (m σ H Q q)
theorem B1 {e:List Expr}{t t':TA} (h:PA X e t) (m:∀ σ H Q,t' σ H Q->t σ H Q):PA X e t':=fun pos pins s σ H Q I q=>h pos pins s σ H Q I (m σ H Q q)
theorem dN {e:Stmt}{t t':TS} (h:PS X e t) (m:∀ D σ H,t' D σ H->t D σ H):PS X e t':=fun pins s σ H D I q=>h pins s σ H D I (m D σ H q)
theorem uI {e:List Stmt}{t t':TS} (h:dB X e t) (m:∀ D σ H,t' D σ H->t D σ H):dB X e t':=fun pins s σ H D I q=>h pins s σ H D I (m D σ H q)
theorem nJ {tg e:Expr}{t t':TI} (h:PI X tg e t) (m:∀ σ H R,t' σ H R->t σ H R):PI X tg e t':=fun pins s σ H R I q=>h pins s σ H R I (m σ H R q)
variable {a b c e o : Expr} {es cI : List Expr} {ta tb te to tk : aG} {tr : cO} {tA tB' tc : bZ} {pos p2 px : Pos} {st : Stmt} {sts : List Stmt} {t u : aN}
theorem qv (i:Nat) {x:Str}{pos:Pos} (hN:X.N[i]? = some x:=by rfl) (hv:gR X.env.scope x:=by first | exact Or.inl rfl | exact Or.inr (Or.inl rfl) | exact Or.inr (Or.inr rfl)) (hd:(x == ("__debug__" : Str))=false:=by decide)
  (hcd:(x == ("__classdict__" : Str))=false:=by decide):QE X (.Name x pos) (a5 i):=bL (jZ hN hv hd hcd) fun _ _ _=>ak1
theorem aD {i j}:QE X (.Constant (.int i) j pos) (qC (.int i)):=bL fJ fun _ _ _=>mX fun _=>.int i
theorem iN {i j}:QE X (.Constant (.bool i) j pos) (qC (.bl i)):=bL V8 fun _ _ _=>mX fun _=>.bl i
theorem jI {j}:QE X (.Constant .none j pos) (qC .non):=bL V9 fun _ _ _=>mX fun _=>.non
theorem dO {i j}:QE X (.Constant (.str i) j pos) (qC (.str i)):=bL W0 fun _ _ _=>mX fun _=>.str i
theorem jJ {op:Operator}{R:PV->Tg->PV->Tg->PK->Prop}{r:R2} (ho:cC X (binaryOp op) r) (cv:dL X R r) (ha:QE X a ta) (hb:QE X b tb):QE X (.BinOp a op b pos) (q2 R ta tb):=bL (Y9 ho ha hb) fun _ _ _=>pD cv
theorem gX (ha:QE X a ta) (hb:QE X b tb):QE X (.BinOp a .Add b pos) (q2 (dS fun i j=>.int (i+j)) ta tb):=jJ Z1 zP ha hb
theorem pW (ha:QE X a ta) (hb:QE X b tb):QE X (.BinOp a .Sub b pos) (q2 (dS fun i j=>.int (i - j)) ta tb):=jJ Z2 zP ha hb
theorem ap4 (ha:QE X a ta) (hb:QE X b tb):QE X (.BinOp a .Mult b pos) (q2 (RI mH fun i j=>.int (i * j)) ta tb):=jJ Z3 pE ha hb
theorem cW (ha:QE X a ta) (hb:QE X b tb):QE X (.BinOp a .FloorDiv b pos) (q2 (RI sB fun i j=>.int (i / j)) ta tb):=jJ Z4 pE ha hb
theorem bW (ha:QE X a ta) (hb:QE X b tb):QE X (.BinOp a .Mod b pos) (q2 (RI (fun _ j=>0 < j) fun i j=>.int (i % j)) ta tb):=jJ Z5 pE ha hb
theorem pX (ha:QE X a ta) (hb:QE X b tb):QE X (.BinOp a .Pow b pos) (q2 (RI sC fun i j=>.int (i ^ j.toNat)) ta tb):=jJ Z6 pE ha hb
theorem pY {op:CmpOp}{R:PV->Tg->PV->Tg->PK->Prop}{r:R2} (ho:cC X (compareOp op) r) (cv:dL X R r) (ha:QE X a ta) (hb:QE X b tb) (hm:behindInMarks op b=false):QE X (.Compare a [op] [b] pos) (q2 R ta tb):=bL (sF ho ha hb hm) fun _ _ _=>pD cv
theorem iO {op:CmpOp}{R:PV->Tg->PV->Tg->PK->Prop}{r:R2} (ho:cC X (compareOp op) r) (cv:dL X R r) (ha:QE X a ta) (hb:QE X b tb) (hm:behindInMarks op b=false):QT X (.Compare a [op] [b] pos) (aU (q2 R ta tb)):=lK (aa4 ho ha hb hm) fun _ _ _ h=>pD cv (pF h)
theorem uJ (ha:QE X a ta) (hb:QE X b tb):QE X (.Compare a [.Lt] [b] pos) (q2 (dS fun i j=>.bl (decide (i < j))) ta tb):=pY oI lC ha hb (eN _)
theorem ap5 (ha:QE X a ta) (hb:QE X b tb):QE X (.Compare a [.LtE] [b] pos) (q2 (dS fun i j=>.bl (decide (i<=j))) ta tb):=pY Z9 lC ha hb (eN _)
theorem B2 (ha:QE X a ta) (hb:QE X b tb):QE X (.Compare a [.GtE] [b] pos) (q2 (dS fun i j=>.bl (decide (j<=i))) ta tb):=pY wZ lC ha hb (eN _)
theorem nK (ha:QE X a ta) (hb:QE X b tb):QT X (.Compare a [.Lt] [b] pos) (aU (q2 (dS fun i j=>.bl (decide (i < j))) ta tb)):=iO oI lC ha hb (eN _)
theorem pZ (ha:QE X a ta) (hb:QE X b tb):QT X (.Compare a [.Gt] [b] pos) (aU (q2 (dS fun i j=>.bl (decide (j < i))) ta tb)):=iO aa0 lC ha hb (eN _)
theorem ap6 (ha:QE X a ta) (hb:QE X b tb):QT X (.Compare a [.GtE] [b] pos) (aU (q2 (dS fun i j=>.bl (decide (j<=i))) ta tb)):=iO wZ lC ha hb (eN _)
theorem gJ (ha:QE X a ta) (hb:QE X b tb):QT X (.Compare a [.Eq] [b] pos) (aU (q2 (lD false) ta tb)):=iO wX ak2 ha hb (eN _)
theorem uK (ha:QE X a ta) (hb:QE X b tb):QT X (.Compare a [.NotEq] [b] pos) (aU (q2 (lD true) ta tb)):=iO wY ak3 ha hb (eN _)
theorem ap7 (ha:QE X a ta) (hb:QE X b tb):QT X (.Compare a [.Is] [b] pos) (aU (q2 (lF false) ta tb)):=iO aa1 an6 ha hb (eN _)
theorem ap8 (ha:QE X a ta) (hb:QE X b tb):QT X (.Compare a [.IsNot] [b] pos) (aU (q2 (lF true) ta tb)):=iO aa2 an7 ha hb (eN _)
theorem ap9 (hu:X.A.units+1 < cLine) (hk:QE X a tk) (hd:QE X b te) (hm:behindInMarks .In b=false:=by rfl):QT X (.Compare a [.In] [b] pos) (aU (iK false tk te)):=lK (wB (af1 hu hk hd) hm) fun _ _ _ h=>ao5 (pF h)
theorem B3 (hu:X.A.units+1 < cLine) (hk:QE X a tk) (hd:QE X b te) (hm:behindInMarks .NotIn b=false:=by rfl):QT X (.Compare a [.NotIn] [b] pos) (aU (iK true tk te)):=lK (wB (xY hu hk hd) hm) fun _ _ _ h=>A6 (pF h)
theorem aq0 (hu:X.A.units+1 < cLine) (hk:QE X a tk) (hd:QE X b te) (hm:behindInMarks .NotIn b=false:=by rfl):QE X (.Compare a [.NotIn] [b] pos) (iK true tk te):=bL (W6 (xY hu hk hd) hm) fun _ _ _ h=>A6 h
theorem qA (h:QE X e te) (he:∀ whole,isTrue e X.env whole=(do let v <- whole; standAt e.pos; holding [v] (truthy v)):=by intro _; rfl):QT X e (aU te):=lK (W7 h he) fun _ _ _ h=>pF h
theorem aq1 (h:QE X e te) (he:∀ whole,isTrue e X.env whole=(do let v <- whole; standAt e.pos; holding [v] (truthy v)):=by intro _; rfl):QT X e (u9 te):=lK (aa7 h he) fun _ _ _ h=>an5 h
theorem aq2 (ha:QT X a tA):QW X (.BoolOp .And [a] pos) tA:=W8 ha
theorem uL (ha:QT X a tA):QW X (.BoolOp .Or [a] pos) tA:=W9 ha
theorem aq3 (ha:QT X a tA) (hb:QW X (.BoolOp .And (b :: cI) pos) tB'):QW X (.BoolOp .And (a :: b :: cI) pos) (pG tA tB'):=B0 (X0 ha hb) fun _ _ _=>ak4
theorem uM (ha:QT X a tA) (hb:QW X (.BoolOp .Or (b :: cI) pos) tB'):QW X (.BoolOp .Or (a :: b :: cI) pos) (mY tA tB'):=B0 (X1 ha hb) fun _ _ _=>ak5
theorem qB (h:QW X e tA):QT X e tA:=PW.pt h
theorem B4 (ha:QT X a tA):QT X (.UnaryOp .Not a pos) (pH tA):=lK (X2 ha) fun _ _ _=>ak6
theorem qD {op} (h:QE X a ta):QE X (.BoolOp op [a] pos) ta:=X3 h
theorem uN (ha:QE X a ta) (hb:QE X (.BoolOp .And (b :: cI) pos) tb):QE X (.BoolOp .And (a :: b :: cI) pos) (mZ ta tb):=bL (X4 ha hb) fun _ _ _=>ak7
theorem aq4 (ha:QE X a ta) (hb:QE X (.BoolOp .Or (b :: cI) pos) tb):QE X (.BoolOp .Or (a :: b :: cI) pos) (tY ta tb):=bL (X5 ha hb) fun _ _ _=>ak8
theorem aA:QA X [] a9:=B1 cK fun _ _ _=>ak9
theorem a8 (ha:QE X e te) (hr:QA X es tr) (hs:starEach (e :: es) X.env=(false,eval e X.env) :: starEach es X.env:=by rfl):QA X (e :: es) (a6 te tr):=B1 (bO ha hr hs) fun _ _ _=>al0
theorem fV {x1} (h:QA X es tr):QE X (.Tuple es x1 pos) (dU tr):=bL (sJ h) fun _ _ _=>al1
theorem cX (h:QA X es tr):QE X (.List es pos) (bV tr):=bL (oJ h) fun _ _ _=>al2
theorem c7 (ha:QE X a ta) (hb:QE X b tb) (hs:xH b:=by exact fun _ _=>rfl):QE X (.Subscript a b pos) (q2 u6 ta tb):=bL (eQ ad0 ha hb hs) fun _ _ _=>pD am5
theorem aq5 (hu:X.A.units+1 < cLine) (ha:QE X a ta) (hb:QE X b tb) (hs:sZ b:=by exact fun _ _=>rfl):QE X (.Subscript a b pos) (uG ta tb):=bL (af0 hu ha hb hs) fun _ _ _=>ao6
theorem B5:QE X (.Dict [] [] pos) (qC (.dK [])):=bL af4 fun _ _ _=>ao9
theorem aq6:QE X (.Dict [] [] pos) (qC (.dT [])):=bL af5 fun _ _ _=>ap0
theorem iP {x:Str}{id:String}{R:List PV->(PV->Prop)->Prop}{r:List V->Hp->VK->Prop} (hc:cS X (.builtin id) r) (cv:dW X R r) (hg:Gl X x) (hm:X.mg x=none) (hv:bootBuiltins x=some (.builtin id)) (ha:QA X (e :: es) tr) (hn:x ≠ "__name__":=by decide) (hdb:(x == ("__debug__" : Str))=false:=by decide)
  (he:starEach (e :: es) X.env=(false,eval e X.env) :: starEach es X.env:=by rfl) (hpl:(backTo pos (starEach es X.env)).any (·.1)=false:=by rfl):QE X (.Call (.Name x p2) (e :: es) [] pos) (aE R tr):=bL (mK hc hg hm hv ha hn hdb he hpl) fun _ _ _=>zS cv
theorem qE {x:Str}{T:String}{R:List PV->(PV->Prop)->Prop}{r:List V->Hp->VK->Prop} (hc:cS X (.type T) r) (cv:dW X R r) (hg:Gl X x) (hm:X.mg x=none) (hv:bootBuiltins x=some (.type T)) (ha:QA X (e :: es) tr) (hn:x ≠ "__name__":=by decide) (hdb:(x == ("__debug__" : Str))=false:=by decide)
  (he:starEach (e :: es) X.env=(false,eval e X.env) :: starEach es X.env:=by rfl) (hpl:(backTo pos (starEach es X.env)).any (·.1)=false:=by rfl):QE X (.Call (.Name x p2) (e :: es) [] pos) (aE R tr):=bL (ab3 hc hg hm hv ha hn hdb he hpl) fun _ _ _=>zS cv
theorem cP:dM X [] bQ:=uI X7 fun _ _ _=>al3
theorem aM (h1:QS X st t) (h2:dM X sts u):dM X (st :: sts) (aI t u):=uI (j2 h1 h2) fun _ _ _=>al4
theorem aO (h1:QS X st t):dM X [st] t:=k6 h1
theorem bB {i:Nat}{x:Str} (hN:X.N.Nodup) (he:QE X e te) (hi:X.N[i]? = some x:=by rfl) (hx:i5 X.env.scope x:=by first | exact Or.inl rfl | exact Or.inr rfl) (hs:swapsWith e (some (.Name x p2)) pos.line X.env=pure false:=by rfl) (hf:X.fn x=true ∨ X.env.scope.names.lookup x=some .local:=by first | exact .inl rfl | exact .inr rfl) :
  QS X (.Assign [.Name x p2] e pos) (aV i te):=dN (rV hN hi hx he hs hf) fun _ _ _=>u4
theorem gY {i:Nat}{x:Str} (hN:X.N.Nodup) (he:QE X e te) (hi:X.N[i]? = some x:=by rfl) (hx:i5 X.env.scope x:=by first | exact Or.inl rfl | exact Or.inr rfl) (hs:swapsWith e (some (.Name x p2)) pos.line X.env=pure false:=by rfl) (hf:X.fn x=true ∨ X.env.scope.names.lookup x=some .local:=by first | exact .inl rfl | exact .inr rfl) :
  QS X (.Assign [.Name x p2] e pos) (eV i te):=dN (rV hN hi hx he hs hf) fun _ _ _=>al7
theorem aq7 (i:Nat) (h:QS X st t):QS X st (pJ i t):=dN h fun _ _ _=>al8
theorem bE (he:QE X e te):QS X (.Return (some e) pos) (aY te):=dN (kW he) fun _ _ _=>al9
theorem lM (i:Nat) {x:Str} (hN:X.N[i]? = some x:=by rfl) (hv:gR X.env.scope x:=by first | exact Or.inl rfl | exact Or.inr (Or.inl rfl) | exact Or.inr (Or.inr rfl)) (hd:(x == ("__debug__" : Str))=false:=by decide) (hcd:(x == ("__classdict__" : Str))=false:=by decide) :
  QS X (.Return (some (.Name x p2)) pos) (iE i):=dN (kW (jZ hN hv hd hcd)) fun _ _ _=>am0
theorem cQ {sa sb:List Stmt} (hc:QT X c tc) (ha:dM X sa t) (hb:dM X sb u):QS X (.If c sa sb pos) (bR tc t u):=dN (X8 hc ha hb) fun _ _ _=>am1
theorem aq8 {body:List Stmt} (hp:PassesOwn (model X.prog X.w) X.A X.env X.xe) (hc:QT X c tc) (hb:dM X body t):QS X (.While c body [] pos) (u5 tc t):=dN (X9 hp hc hb) fun _ _ _=>am2
theorem lN (i:Nat) {x:Str}{apos cpos xpos:Pos} (he:QE X e te) (hN:X.N[i]? = some x:=by rfl) (hv:gR X.env.scope x:=by first | exact Or.inl rfl | exact Or.inr (Or.inl rfl) | exact Or.inr (Or.inr rfl)) (hd:(x == ("__debug__" : Str))=false:=by decide) (hcd:(x == ("__classdict__" : Str))=false:=by decide)
  (hbase:attributeBase (.Name x xpos) "append" X.env (eval (.Name x xpos) X.env)=eval (.Name x xpos) X.env:=by rfl)
  (hfew:((backTo cpos (starEach [e] X.env)).all (fun x=>!x.1) && (backToKw cpos (keywordEach [] X.env)).all (fun x=>x.1.isSome) && decide (([e]:List Expr).length+([]:List Keyword).length+(if ([]:List Keyword).isEmpty then 0 else 1) < 30))=true:=by rfl)
  (hline:(apos.endLine == cpos.line)=true:=by rfl) (hs:starEach [e] X.env=(false,eval e X.env) :: starEach [] X.env:=by rfl) (hplain:(backTo cpos (starEach [] X.env)).any (·.1)=false:=by rfl)
  (hsw:swapsWith (.Call (.Attribute (.Name x xpos) "append" apos) [e] [] cpos) none pos.line X.env=pure false:=by rfl) :
  QS X (.Expr (.Call (.Attribute (.Name x xpos) "append" apos) [e] [] cpos) pos) (iG i te):=
 dN (k7 (j7 aW6 aY3 aY4 kB (jZ hN hv hd hcd) (bO he cK hs) hbase hfew hline hs hplain) hsw) fun _ _ _=>am3
theorem B6 {apos cpos:Pos} (ho:QE X o to) (he:QE X e te)
  (hbase:attributeBase o "append" X.env (eval o X.env)=eval o X.env:=by rfl)
  (hfew:((backTo cpos (starEach [e] X.env)).all (fun x=>!x.1) && (backToKw cpos (keywordEach [] X.env)).all (fun x=>x.1.isSome) && decide (([e]:List Expr).length+([]:List Keyword).length+(if ([]:List Keyword).isEmpty then 0 else 1) < 30))=true:=by rfl)
  (hline:(apos.endLine == cpos.line)=true:=by rfl) (hs:starEach [e] X.env=(false,eval e X.env) :: starEach [] X.env:=by rfl) (hplain:(backTo cpos (starEach [] X.env)).any (·.1)=false:=by rfl)
  (hsw:swapsWith (.Call (.Attribute o "append" apos) [e] [] cpos) none pos.line X.env=pure false:=by rfl) :
  QS X (.Expr (.Call (.Attribute o "append" apos) [e] [] cpos) pos) (pK to te):=
 dN (k7 (j7 aW6 aY3 aY4 kB ho (bO he cK hs) hbase hfew hline hs hplain) hsw) fun _ _ _=>am4
theorem B7 {i:Nat}{x:Str}{xpos tpos:Pos} (hu:X.A.units+1 < cLine) (hk:QE X a tk) (he:QE X e te) (hN:X.N[i]? = some x:=by rfl) (hv:gR X.env.scope x:=by first | exact Or.inl rfl | exact Or.inr (Or.inl rfl) | exact Or.inr (Or.inr rfl)) (hd:(x == ("__debug__" : Str))=false:=by decide) (hcd:(x == ("__classdict__" : Str))=false:=by decide)
  (hs:swapsWith e (some (.Subscript (.Name x xpos) a tpos)) pos.line X.env=pure false:=by rfl):QS X (.Assign [.Subscript (.Name x xpos) a tpos] e pos) (pT i tk te):=dN (xZ hu (jZ hN hv hd hcd) hk he hs) fun _ _ _=>ao7
theorem aq9 {i:Nat}{x:Str}{xpos tpos:Pos} (hu:X.A.units+1 < cLine) (hk:QE X a tk) (he:QE X e te) (hN:X.N[i]? = some x:=by rfl) (hv:gR X.env.scope x:=by first | exact Or.inl rfl | exact Or.inr (Or.inl rfl) | exact Or.inr (Or.inr rfl)) (hd:(x == ("__debug__" : Str))=false:=by decide) (hcd:(x == ("__classdict__" : Str))=false:=by decide)
  (hs:swapsWith e (some (.Subscript (.Name x xpos) a tpos)) pos.line X.env=pure false:=by rfl):QS X (.Assign [.Subscript (.Name x xpos) a tpos] e pos) (pU i tk te):=dN (xZ hu (jZ hN hv hd hcd) hk he hs) fun _ _ _=>ao8
theorem ar0 {tg l:Expr}{tl:TE} (hl:PE X l tl):PI X tg l (zY X.K tl):=by
 intro pins s σ H R I h
 refine aK (hl pins s σ H _ I h) fun v s1 ⟨x,H1,I1,r1,q1⟩=>?_
 obtain ⟨a,e,q⟩:=q1
 subst e
 cases r1
 rcases q with ⟨xs,hq,q⟩ | ⟨xs,hq,q⟩
 ·obtain ⟨its,rv,p,hz⟩:=I1.list hq
  refine wpAny_pyIter_list p.isList ?_
  refine⟨s1.heap.objs.size,[s1.heap.objs.size],_,_,H1,rfl,I1.kept (t':=s1.toks) fun b o e=>aQ1 _ e,Y0 a _,⟨_,aR5 _ rfl,rfl,rfl⟩,fun b hb=>?_,q⟩
  have e:b=s1.heap.objs.size:=by simpa using hb
  subst e
  exact I1.fpOk (aQ6 _) (I1.hok.fresh (aQ6 _))
 ·obtain ⟨its,rv,p,hz⟩:=I1.tuple hq
  refine aY9 (show s1.heap.IsTuple a its.toArray from p) ?_
  refine⟨s1.heap.objs.size,[s1.heap.objs.size],_,_,H1,rfl,I1.kept (t':=s1.toks) fun b o e=>aQ1 _ e,wM a _,⟨_,aR5 _ rfl,rfl,rfl⟩,fun b hb=>?_,q⟩
  have e:b=s1.heap.objs.size:=by simpa using hb
  subst e
  exact I1.fpOk (aQ6 _) (I1.hok.fresh (aQ6 _))
theorem cY {tg l:Expr} (hl:QE X l te):QI X tg l (cD te):=nJ (ar0 hl) fun _ _ _=>an8
theorem lO {tg:Expr} (hg:Gl X "range") (hm:X.mg "range" = none) (ha:QE X a ta) (hs:starEach [a] X.env = [(false,eval a X.env)]:=by rfl):QI X tg (.Call (.Name "range" p2) [a] [] pos) (iI ta):=nJ (Y3 hg hm (bO ha cK hs) hs) fun _ _ _=>an9
theorem B8 {tg:Expr} (hg:Gl X "range") (hm:X.mg "range" = none) (ha:QE X a ta) (hb:QE X b tb) (hs:starEach [a,b] X.env = [(false,eval a X.env),(false,eval b X.env)]:=by rfl) (hs2:starEach [b] X.env = [(false,eval b X.env)]:=by rfl) :
  QI X tg (.Call (.Name "range" p2) [a,b] [] pos) (pN ta tb):=nJ (Y4 hg hm (bO ha (bO hb cK hs2) (by rw [hs,hs2])) hs hs2) fun _ _ _=>ao0
theorem B9 {tg:Expr}{body:List Stmt}{ti:dZ}{p:jH}{g:TG}{own:Nat->Prop} (hp:PassesOwn (model X.prog X.w) X.A X.env X.xe) (hc:X.calm=true) (hi:QI X tg e ti) (hg:PG X tg g) (ht:nF X.K own p g) (hb:dM X body t)
  (hs:∀ x,foldedSetIterable e X.env x=pure x:=by intro _; rfl):QS X (.For tg e body [] pos) (cG ti p t):=dN (rY hp hc hi hg hb hs) fun _ _ _=>ao1 ht
end
structure Bt (mg:Str->Option Value):Prop where
 len:mg "len" = none
 range:mg "range" = none
 tuple:mg "tuple" = none
 list:mg "list" = none
 sorted:mg "sorted" = none
 all:mg "all" = none
 any:mg "any" = none
 zip:mg "zip" = none
 min:mg "min" = none
 max:mg "max" = none
 sum:mg "sum" = none
 isinst:mg "isinstance" = none
 int:mg "int" = none
 bool:mg "bool" = none
 enum:mg "enumerate" = none
section
variable {X : Cx} {a b c e o : Expr} {es cI : List Expr} {ta tb te to tk : aG} {tr : cO} {tA tB' tc : bZ} {pos p2 px : Pos} {st : Stmt} {sts : List Stmt} {t u : aN}
theorem fE (B:Bt X.mg) (ha:QA X [e] tr) (hg:Gl X "len":=by rfl) (he:starEach [e] X.env=(false,eval e X.env) :: starEach [] X.env:=by rfl) (hpl:(backTo pos (starEach [] X.env)).any (·.1)=false:=by rfl):QE X (.Call (.Name "len" p2) [e] [] pos) (aE dY tr):=
 iP (xP.or ag3) am6 hg B.len PySem.boot_len ha (he:=he) (hpl:=hpl)
theorem jK (B:Bt X.mg) (ha:QA X [e] tr) (hg:Gl X "tuple":=by rfl) (he:starEach [e] X.env=(false,eval e X.env) :: starEach [] X.env:=by rfl) (hpl:(backTo pos (starEach [] X.env)).any (·.1)=false:=by rfl):QE X (.Call (.Name "tuple" p2) [e] [] pos) (aE gI tr):=
 qE ad7 am7 hg B.tuple PyProof.Rows.boot_tuple ha (he:=he) (hpl:=hpl)
theorem C0 (B:Bt X.mg) (ha:QA X [e] tr) (hg:Gl X "list":=by rfl) (he:starEach [e] X.env=(false,eval e X.env) :: starEach [] X.env:=by rfl) (hpl:(backTo pos (starEach [] X.env)).any (·.1)=false:=by rfl):QE X (.Call (.Name "list" p2) [e] [] pos) (aE pL tr):=
 qE ad6 am8 hg B.list PyProof.Rows.boot_list ha (he:=he) (hpl:=hpl)
theorem C1 (B:Bt X.mg) (ha:QA X [e] tr) (hg:Gl X "sorted":=by rfl) (he:starEach [e] X.env=(false,eval e X.env) :: starEach [] X.env:=by rfl) (hpl:(backTo pos (starEach [] X.env)).any (·.1)=false:=by rfl):QE X (.Call (.Name "sorted" p2) [e] [] pos) (aE nD tr):=
 iP ah6 am9 hg B.sorted PyProof.Rows.boot_sorted ha (he:=he) (hpl:=hpl)
theorem ar1 (B:Bt X.mg) (hc:X.calm=true) (ha:QA X [e] tr) (hg:Gl X "all":=by rfl) (he:starEach [e] X.env=(false,eval e X.env) :: starEach [] X.env:=by rfl) (hpl:(backTo pos (starEach [] X.env)).any (·.1)=false:=by rfl):QE X (.Call (.Name "all" p2) [e] [] pos) (aE u8 tr):=
 iP (tT hc) an0 hg B.all PyProof.Rows.boot_all ha (he:=he) (hpl:=hpl)
theorem C2 (B:Bt X.mg) (hc:X.calm=true) (ha:QA X [a,b] tr) (hg:Gl X "min":=by rfl) (he:starEach [a,b] X.env=(false,eval a X.env) :: starEach [b] X.env:=by rfl) (hpl:(backTo pos (starEach [b] X.env)).any (·.1)=false:=by rfl):QE X (.Call (.Name "min" p2) [a,b] [] pos) (aE nE tr):=
 iP (aa9 hc) an1 hg B.min PyProof.Rows.boot_min ha (he:=he) (hpl:=hpl)
theorem ar2 (B:Bt X.mg) (hc:X.calm=true) (ha:QA X [a,b] tr) (hg:Gl X "max":=by rfl) (he:starEach [a,b] X.env=(false,eval a X.env) :: starEach [b] X.env:=by rfl) (hpl:(backTo pos (starEach [b] X.env)).any (·.1)=false:=by rfl):QE X (.Call (.Name "max" p2) [a,b] [] pos) (aE pM tr):=
 iP (aa8 hc) an2 hg B.max PyProof.Rows.boot_max ha (he:=he) (hpl:=hpl)
theorem lP (ha:QE X a ta):QE X (.UnaryOp .USub a pos) (iL ta):=bL (Z0 Z8 ha) fun σ H Q' h=>by
 obtain ⟨W,ρ,Q,px,q,k⟩:=h
 refine⟨W,ρ,_,px,q,?_⟩
 rintro v H1 x g s r ⟨i,rfl,q⟩
 cases r
 exact⟨i,rfl,k _ _ _ .fr s (.int _) q⟩
theorem ar3 (x:Int):∀ (xs:List Int),kA (.int x) (xs.map V.int)=decide (x ∈ xs)
 | []=>by simp [kA]
 | y :: r=>by
  have ih:=ar3 x r
  unfold kA at ih ⊢
  rw [aU8,aZ7,ih]
  by_cases e:y=x
  ·subst e; simp [gC]
  ·have:gC (.int y) (.int x)=false:=by simpa [gC] using e
   rw [this,Bool.false_or,aY6]
   simp [Ne.symm e]
theorem C3:∀ (xs:List Int),(xs.map V.int).all i7=true
 | []=>rfl
 | _ :: r=>by rw [aU8,List.all_cons,C3 r]; rfl
end
end PP
namespace PP
open PySem L2 PyProof.Rows
def LO (X:Cx) (t:lI):TO:=fun σ H Q'=>∃ (W:Addr->Prop) (ρ:b8) (Q:Option Int->Prop),PX X.K X.H₀ W σ ρ H/\t ρ Q/\∀ o H',aB H H'->Q o->Q' o H'
def QO (X:Cx) (e:Option Expr) (t:lI):Prop:=PO X e (LO X t)
theorem Reps.cut {K:PySem.W.Frag}{M:Addr->Prop}{H:Hp}{us:List V}{xs:List PV} (r:Reps K M H us xs) (lo hi:Option Int):Reps K M H (dH us lo hi) (eY xs lo hi):=by
 unfold dH eY
 rw [r.length]
 exact (r.drop _).take _
section
variable {X : Cx} {a b c e o : Expr} {es cI : List Expr} {ta tb te to tk : aG} {tr : cO} {tA tB' tc : bZ} {pos p2 px : Pos} {st : Stmt} {sts : List Stmt} {t u : aN}
theorem jL:QO X none e8:=fun pins s σ H Q I h=>sM pins s σ H Q I (by
 obtain ⟨W,ρ,Q1,px,q,k⟩:=h
 exact k _ _ (aB.refl _) q)
theorem jM (h:QE X e te):QO X (some e) (e9 te):=fun pins s σ H Q I hq=>sN h pins s σ H Q I (by
 obtain ⟨W,ρ,Q1,px,q,k⟩:=hq
 refine⟨W,ρ,_,px,q,?_⟩
 rintro v H1 x g s r ⟨i,rfl,q⟩
 cases r
 exact⟨i,rfl,k _ _ s q⟩)
theorem jN {lo hi:Option Expr}{tl th:lI}{sp:Pos} (he:QE X e te) (hl:QO X lo tl) (hh:QO X hi th):QE X (.Subscript e (.Slice lo hi none sp) pos) (eB te tl th):=bL (sO (xM.or zL) he hl hh) fun σ H Q' h=>by
 obtain ⟨W,ρ,Q,px,q,k⟩:=h
 refine⟨W,ρ,_,px,q,fun v H1 x g s1 r1 q1=>⟨W,ρ,_,px.mono s1,q1,fun lo H2 s2 q2=>⟨W,ρ,_,px.mono (s1.trans s2),q2,?_⟩⟩⟩
 rintro hi H3 s3 ⟨xs,e,f,q3⟩
 have S:=(s1.trans s2).trans s3
 have r3:=r1.same (M':=Mg X.H₀ W H g) (s2.trans s3) fun _ z=>z
 cases r3 with
 | tup h r=>
  cases e
  refine .inr ⟨_,_,rfl,aF.of h,fun p hp=>k _ _ _ .fr (S.trans (b6 hp _)) (.tup aZ (((r.flat f).cut lo hi).same (b6 hp _) fun _ z=>z)) q3,fun ec=>k _ _ _ .fr S (.tup h ?_) q3⟩
  have:=(r.flat (M':=Mg X.H₀ W H .fr) f).cut lo hi
  rw [ec] at this
  exact this
 | lst m h r=>
  cases e
  exact .inl ⟨_,_,rfl,aH.of h,fun p hp=>k _ _ _ .fr (S.trans (b6 hp _)) (.lst (S.free hp) aZ (((r.flat f).cut lo hi).same (b6 hp _) fun _ z=>z)) q3⟩
 | scr h=>
  cases e
  exact .inl ⟨_,_,rfl,h.sqL,fun p hp=>k _ _ _ .fr (S.trans (b6 hp _)) (.lst (S.free hp) aZ (((Reps.intz _).cut lo hi).same (b6 hp _) fun _ z=>z)) q3⟩
 | _=>cases e
structure Df (P:Program) (w:World) (K:PySem.W.Frag) (mg:Str->Option Value) (base:Heap) (k:Nat) (x:Str) (ps:List Str) (p:bD):Prop where
 ex:∃ f fd,bJ P w K mg base cU k f fd ps (kG K p)/\gB K fd ps []/\PySem.W.keepIn K (.ref f)=true/\mg x=some (.ref f)
theorem bF {k j:Nat}{x:Str}{ps:List Str}{p:bD} (d:Df X.prog X.w X.K X.mg X.base k x ps p) (hr:bT j X.A) (ha:QA X (e :: es) tr) (hkj:k<=j:=by decide) (hg:Gl X x:=by rfl) (hdb:(x == ("__debug__" : Str))=false:=by decide)
  (he:starEach (e :: es) X.env=(false,eval e X.env) :: starEach es X.env:=by rfl) (hpl:(backTo pos (starEach es X.env)).any (·.1)=false:=by rfl):QE X (.Call (.Name x p2) (e :: es) [] pos) (aE p tr):=by
 obtain ⟨f,fd,F,b,kp,m⟩:=d.ex
 exact bL (oM F (hr.mono hkj) hg m kp b .nil yG ha hdb he hpl) fun _ _ _=>an3
theorem qF {K:PySem.W.Frag}{H:Hp}{N:List Str}{vs:List V}{xs:List PV} (r:Reps K (fun _=>True) H vs xs):PX K H (fun _=>False) (L2.fQ N vs) (eC N xs) H:=by
 have lr:=r.length
 have own:∀ {i:Nat}{m:Slot},(eC N xs)[i]? = some (some m)->∃ x,xs[i]? = some x/\m = .sh (flat x) x:=fun {i m} h=>by
  unfold eC at h
  by_cases hi:i < xs.length
  ·rw [List.getElem?_append_left (by simpa using hi),aR6] at h
   rw [aR7 hi] at h ⊢
   cases h
   exact⟨_,rfl,rfl⟩
  ·rw [List.getElem?_append_right (by simpa using hi),List.getElem?_replicate] at h
   split at h <;> cases h
 refine⟨by unfold L2.fQ eC; simp [lr],aB.refl _,fun a z=>z.elim,fun i m h=>?_,fun i j x y a h1=>?_⟩
 ·obtain ⟨x,hx,rfl⟩:=own h
  obtain ⟨v,hv,rx⟩:=r.at hx
  refine⟨v,?_,pO (g:=false) (rx.same (aB.refl _) fun _ _ z=>z)⟩
  have hi:i < vs.length:=(aQ7.mp hv).1
  unfold L2.fQ
  rw [List.getElem?_append_left (by simpa using hi),aR6,hv]; rfl
 ·obtain ⟨x,_,e⟩:=own h1
  cases e
theorem Df.of {P:Program}{w:World}{K:PySem.W.Frag}{mg:Str->Option Value}{base:Heap}{k:Nat}{x:Str}{ps N:List Str}{p:bD}{st:Stmt}{f:Addr}{fd:FuncData} (F:dF K x x st f fd) (m:mg x=some (.ref f)) (S:FnScope N ps (aQ st))
  (hb:∀ (kV doc pm:Value) (an:Option Addr) (cdv ct:Value) (us:List Value),us.length=ps.length->bindArgs (PySem.W.fnOf x x (i9 st) (dI st) (aQ st) .none kV doc pm an cdv ct) ⟨us,[]⟩=pure (ps.zip us))
  (len:∀ xs Q,p xs Q->xs.length=ps.length)
  (body:∀ (cdv:Value) (A:Around) (outer:List Env) (s:Shared) (H:Hp) (E:XK),bT k (A.deeper (envOfC x (aQ st) s.heap.objs.size f cdv))->
   ∃ t,dM (cT cU P w K mg base N x (aQ st) f cdv A outer s H E).nox (dI st) t/\∀ xs Q,p xs Q->t { nx:=fun _=>Q .non,rt:=Q } (eC N xs)):Df P w K mg base (k+1) x ps p:=by
 refine⟨f,fd,F.ok S (fun vs H Q E h=>?_) (fun cdv A outer s H vs Q E hr h=>?_),F.binds hb,F.kp,m⟩
 ·obtain ⟨xs,Qp,r,q,_⟩:=h
  rw [r.length]; exact len xs Qp q
 ·obtain ⟨xs,Qp,r,q,k⟩:=h
  obtain ⟨t,ht,hq⟩:=body cdv A outer s H E hr
  refine⟨_,ht,fun _=>False,eC N xs,_,qF r,hq xs Qp q,?_,?_,?_,?_⟩
  ·exact fun W' σ' H' ρ' e px q=>k _ _ _ px.same .non q
  ·exact fun v H' x s r q=>k _ _ _ s r q
  ·exact fun W' σ' H' ρ' e px q=>q
  ·exact fun W' σ' H' ρ' e px q=>q
theorem dP (i:Nat) {x:Str}{tp:Pos}{body:List Stmt}{ti:dZ} (hN:X.N.Nodup) (hi:QI X (.Name x tp) e ti) (hb:dM X body t) (hx:X.N[i]? = some x:=by rfl) (hl:i5 X.env.scope x:=by first | exact Or.inl rfl | exact Or.inr rfl) (hf:X.fn x=true ∨ X.env.scope.names.lookup x=some .local:=by first | exact .inl rfl | exact .inr rfl)
  (hp:PassesOwn (model X.prog X.w) X.A X.env X.xe:=by exact PassesOwn.never) (hc:X.calm=true:=by rfl) (hs:∀ x,foldedSetIterable e X.env x=pure x:=by intro _; rfl):QS X (.For (.Name x tp) e body [] pos) (cG ti (bA i) t):=
 B9 hp hc hi (dQ hN hx hl hf) (pP _ i) hb hs
theorem C4 (i j:Nat) {x y:Str}{tp xp yp:Pos}{kt:Nat}{body:List Stmt}{ti:dZ} (hN:X.N.Nodup) (hi:QI X (.Tuple [.Name x xp,.Name y yp] kt tp) e ti) (hb:dM X body t) (hx:X.N[i]? = some x:=by rfl) (hy:X.N[j]? = some y:=by rfl) (hlx:i5 X.env.scope x:=by first | exact Or.inl rfl | exact Or.inr rfl) (hly:i5 X.env.scope y:=by first | exact Or.inl rfl | exact Or.inr rfl)
  (hfx:X.fn x=true ∨ X.env.scope.names.lookup x=some .local:=by first | exact .inl rfl | exact .inr rfl) (hfy:X.fn y=true ∨ X.env.scope.names.lookup y=some .local:=by first | exact .inl rfl | exact .inr rfl)
  (hp:PassesOwn (model X.prog X.w) X.A X.env X.xe:=by exact PassesOwn.never) (hc:X.calm=true:=by rfl) (hs:∀ x,foldedSetIterable e X.env x=pure x:=by intro _; rfl):QS X (.For (.Tuple [.Name x xp,.Name y yp] kt tp) e body [] pos) (cG ti (eW i j) t):=
 B9 hp hc hi (kY hc (fL (dQ hN hx hlx hfx) (fL (dQ hN hy hly hfy) kX))) (pQ _ i j) hb hs
abbrev c8:Value->Shared->Prop:=fun _ _=>False
section
variable {scope : Scope} {N : List Str} {fr : List (Option Nat)} {x y : Str} {tp xp yp : Pos} {kt : Nat} {iter elt : Expr} {ti : dZ}
theorem uO {ifs:List Expr}{tcs:bZ} (he:∀ (s:Shared) (H:Hp) (C:Addr) (fp:List Addr),QE (b9 X scope N s H C fp c8) elt te) (hi:∀ (s:Shared) (H:Hp) (C:Addr) (fp:List Addr),jB (b9 X scope N s H C fp c8) ifs (LT (b9 X scope N s H C fp c8) tcs))
  (hN:N.Nodup) (h0:N[0]? = some x) (hl:∀ (s:Shared) (H:Hp) (C:Addr) (fp:List Addr),(b9 X scope N s H C fp c8).env.scope.names.lookup x=some .local) (s:Shared) (H:Hp) :
  l9 X scope N (.Name x tp) ifs elt s H (cJ 0) (LT (X.frm H) tcs) (LE (X.frm H) te):=
 ⟨fun C fp=>dQ (X:=b9 X scope N s H C fp c8) hN h0 (.inl (hl s H C fp)) (.inr (hl s H C fp)),fun C fp=>hi s H C fp,fun C fp=>he s H C fp⟩
theorem uP {Y:Cx}:jB Y [] (LT Y dA):=fun pins s σ H Q I h=>mR pins s σ H Q I (ao3 h)
theorem nL (hi:QI X (.Name x tp) iter ti) (he:∀ (s:Shared) (H:Hp) (C:Addr) (fp:List Addr),QE (b9 X scope N s H C fp c8) elt te)
  (hc:X.calm=true:=by rfl) (S:cF X scope N fr:=by exact cF.of rfl rfl) (hN:N.Nodup:=by decide +kernel) (h0:N[0]? = some x:=by rfl) (hl:∀ (s:Shared) (H:Hp) (C:Addr) (fp:List Addr),(b9 X scope N s H C fp c8).env.scope.names.lookup x=some .local:=by intro _ _ _ _; rfl) (hf:fr[0]? = some none:=by rfl)
  (hs:∀ x,foldedSetIterable iter X.env x=pure x:=by intro _; rfl):QE X (.ListComp elt [⟨.Name x tp,iter,[],0⟩] scope pos) (cH ti fr (bA 0) dA te):=
 bL (oX (gh:=fun _=>cJ 0) (tch:=fun H=>LT (X.frm H) dA) (teh:=fun H=>LE (X.frm H) te) hc S hi (uO he (fun _ _ _ _=>uP) hN h0 hl) hs) fun _ _ _=>lH (pP _ 0) (fun i e=>by subst e; exact hf)
theorem uQ {c:Expr}{tcs:bZ} (hi:QI X (.Name x tp) iter ti) (ht:∀ (s:Shared) (H:Hp) (C:Addr) (fp:List Addr),QT (b9 X scope N s H C fp c8) c tcs) (he:∀ (s:Shared) (H:Hp) (C:Addr) (fp:List Addr),QE (b9 X scope N s H C fp c8) elt te)
  (hc:X.calm=true:=by rfl) (S:cF X scope N fr:=by exact cF.of rfl rfl) (hN:N.Nodup:=by decide +kernel) (h0:N[0]? = some x:=by rfl) (hl:∀ (s:Shared) (H:Hp) (C:Addr) (fp:List Addr),(b9 X scope N s H C fp c8).env.scope.names.lookup x=some .local:=by intro _ _ _ _; rfl) (hf:fr[0]? = some none:=by rfl)
  (hs:∀ x,foldedSetIterable iter X.env x=pure x:=by intro _; rfl):QE X (.ListComp elt [⟨.Name x tp,iter,[c],0⟩] scope pos) (cH ti fr (bA 0) tcs te):=
 bL (oX (gh:=fun _=>cJ 0) (tch:=fun H=>LT (X.frm H) tcs) (teh:=fun H=>LE (X.frm H) te) hc S hi (uO he (fun s H C fp=>tE (ht s H C fp)) hN h0 hl) hs) fun _ _ _=>lH (pP _ 0) (fun i e=>by subst e; exact hf)
theorem C5 {i:Nat}{z:Str}{zp:Pos} (nd:X.N.Nodup) (hi:QI X (.Name x tp) iter ti) (he:∀ (s:Shared) (H:Hp) (C:Addr) (fp:List Addr),QE (b9 X scope N s H C fp c8) elt te)
  (hz:X.N[i]? = some z:=by rfl) (hzl:X.env.scope.names.lookup z=some .local:=by rfl) (hsw:swapsWith (.ListComp elt [⟨.Name x tp,iter,[],0⟩] scope p2) (some (.Name z zp)) pos.line X.env=pure true:=by rfl)
  (hc:X.calm=true:=by rfl) (S:cF X scope N fr:=by exact cF.of rfl rfl) (hN:N.Nodup:=by decide +kernel) (h0:N[0]? = some x:=by rfl) (hl:∀ (s:Shared) (H:Hp) (C:Addr) (fp:List Addr),(b9 X scope N s H C fp c8).env.scope.names.lookup x=some .local:=by intro _ _ _ _; rfl) (hf:fr[0]? = some none:=by rfl)
  (hs:∀ x,foldedSetIterable iter X.env x=pure x:=by intro _; rfl):QS X (.Assign [.Name z zp] (.ListComp elt [⟨.Name x tp,iter,[],0⟩] scope p2) pos) (aV i (cH ti fr (bA 0) dA te)):=
 dN (yL (gh:=fun _=>cJ 0) (tch:=fun H=>LT (X.frm H) dA) (teh:=fun H=>LE (X.frm H) te) hc S hi (uO he (fun _ _ _ _=>uP) hN h0 hl) nd hz hzl hsw hs) fun D σ H h=>lH (pP _ 0) (fun i e=>by subst e; exact hf) (u4 h)
end
theorem ar4 (i:Nat) {x:Str}{apos cpos xpos:Pos} (he:QE X e te) (hm:M1 X (.Name x xpos) "update" apos e cpos:=by exact⟨rfl,rfl,rfl,rfl⟩) (hN:X.N[i]? = some x:=by rfl) (hv:gR X.env.scope x:=by first | exact Or.inl rfl | exact Or.inr (Or.inl rfl) | exact Or.inr (Or.inr rfl)) (hd:(x == ("__debug__" : Str))=false:=by decide) (hcd:(x == ("__classdict__" : Str))=false:=by decide)
  (hsw:swapsWith (.Call (.Attribute (.Name x xpos) "update" apos) [e] [] cpos) none pos.line X.env=pure false:=by rfl):QS X (.Expr (.Call (.Attribute (.Name x xpos) "update" apos) [e] [] cpos) pos) (uH i te):=
 dN (k7 (aj9 (jZ hN hv hd hcd) he hm) hsw) fun _ _ _=>ap1
end
end PP
namespace SO
open PySem PyProof.Rows
variable {rk : Keyed → Int}
section
variable {κ : SortKind} {a0 : Array Keyed} {pd : Array (Nat × Nat × Nat)} {st : SortSt} {prog : Program} {w : World} {A : Around} {E : Value → Shared → Prop} {s : Shared} {Ok : Keyed → Prop}
abbrev DS:=Option (Option Nat) × Nat × Nat
end
abbrev LS:=Option (Array Keyed) × Array Keyed × Nat × Nat × Nat × Nat × Nat
abbrev LO:=Option (Array Keyed) × Array Keyed × Nat × Nat × Nat
variable {rk : Keyed → Int} {xs ys o : List Keyed} {i j : Nat}
variable {rk : Keyed → Int} {xs ys o : List Keyed} {i j : Nat}
variable {rk : Keyed → Int}
def Ch:Nat->List (Nat × Nat)->Nat->Prop
 | a,[],b=>a=b
 | a,(p,n) :: r,b=>p=a/\0 < n/\Ch (a+n) r b
variable {rk : Keyed → Int} {κ : SortKind} {a0 : Array Keyed} {pd : Array (Nat × Nat × Nat)} {st : SortSt} {prog : Program} {w : World} {A : Around} {E : Value → Shared → Prop} {s : Shared} {Ok : Keyed → Prop}
end SO
namespace L2
open PySem PySem.Spec PyProof.Rows
theorem bY.at {P:Program}{w:World}{H:Hp}{h:Heap}{a:Addr}{o:HO} (x:bY P w H h a o):∃ ob,h.get? a=some ob:=by
 cases o with
 | lst xs=>obtain ⟨_,_,_,_,e⟩:=x; exact⟨_,e⟩
 | tup xs=>obtain ⟨_,_,_,⟨_,e,_⟩,_⟩:=x; exact⟨_,e⟩
 | dK kvs=>obtain ⟨_,_,_,_,_,_,_,e,_⟩:=x; exact⟨_,e⟩
 | dT kvs=>obtain ⟨_,_,_,_,_,_,_,e,_⟩:=x; exact⟨_,e⟩
 | set S n=>obtain ⟨_,_,_,_,e,_⟩:=x; exact⟨_,e⟩
 | ins C dx fs=>obtain ⟨_,_,_,e,_⟩:=x; exact⟨_,e⟩
 | own y=>exact x
 | xd fs=>obtain ⟨_,⟨_,_,_,e,_⟩,_⟩:=x; exact⟨_,e⟩
 | rng lo hi=>obtain ⟨_,_,_,e⟩:=x; exact⟨_,e⟩
 | frz ob u=>obtain ⟨e,_⟩:=x; exact⟨_,e⟩
 | tbl ps=>exact⟨_,x⟩
 | met f y=>exact⟨_,x⟩
 | ext φ=>exact x.2.1
structure kI (P:Program) (w:World) (outer:List Env) (H:Hp) (s:Shared) (H':Hp) (B:Heap) (a C:Addr) (s':Shared):Prop where
 os:s'.os=s.os
 bare:AllBare s'.gens
 un:Un (bH outer) [] H H' s.heap s'.heap
 hok:bM P w H' s'.heap
 fly:∃ a0,Heap.FlyingW B outer a (.ref C) a0 s'.heap
 b0:∀ b o,s.heap.get? b=some o->b ∉ bH outer->∃ o',B.get? b=some o'
 b1:∀ b o,s.heap.get? b=some o->H b=none->b ∉ bH outer->B.get? b=some o
 b2:∀ b u o,H' b=some u->s'.heap.get? b=some o->B.get? b=some o
def cM (P:Program) (w:World):fO:=fun outer H s E e s'=>∃ (H':Hp) (B:Heap) (a C:Addr),e = .ref a/\kI P w outer H s H' B a C s'/\E (.ref C) none H'
section
variable {P : Program} {w : World} {outer : List Env} {H H' : Hp} {s s' : Shared} {B h2 : Heap} {a C : Addr}
theorem kI.fresh (f:kI P w outer H s H' B a C s'):H' a=none:=by
 cases q:H' a with
 | none=>rfl
 | some u=>
  obtain ⟨ob,e⟩:=(f.hok a u q).at
  have z:=f.b2 a u ob q e
  obtain ⟨_,_,n,_⟩:=f.fly
  rw [n] at z; cases z
theorem kI.hok2 (f:kI P w outer H s H' B a C s') (k:B.StaysIn h2):bM P w H' h2:=fun b u e=>
 (f.hok b u e).stay (fun c v hc q=>by
  rcases hc with z | z
  ·subst z; exact k _ _ (f.b2 _ _ _ e q)
  ·exact k _ _ (f.b2 _ _ _ z q)) (fun _ q=>q) fun _ _ q=>q
end
section
variable {P : Program} {w : World} {K : PySem.W.Frag} {mg : Str → Option Value} {base : Heap} {N : List Str} {qual : Str} {scope : Scope} {f : Addr} {cd : Value} {A : Around} {outer : List Env} {s₀ : Shared} {H₀ : Hp} {E₀ E₁ : XK}
theorem qG {pins:List (Addr × Obj)}{σ:St}{H:Hp}{s:Shared} (I:a7 (cT (cM P w) P w K mg base N qual scope f cd A outer s₀ H₀ E₀) pins σ H s) {b:Addr}{o:Obj} (e:s₀.heap.get? b=some o) (n:b ∉ bH outer) :
  b ∉ bH (envOfC qual scope s₀.heap.objs.size f cd :: outer):=fun z=>by
 rcases aQ2.mp (I.stkSub b z) with y | y
 ·have l:=aR0 e
  have y:b=s₀.heap.objs.size:=y
  exact absurd l (by rw [y]; exact aU2 _)
 ·exact n y
theorem ar5 (hE:∀ c d H',E₁ c d H'->E₀ c d H'):mJ (cM P w) (cT (cM P w) P w K mg base N qual scope f cd A outer s₀ H₀ E₀) E₁:=by
 intro pins σ H s e s' I hx
 obtain ⟨H',B,a,C,e1,fl,q⟩:=hx
 subst e1
 have I':=I.call' fl.os fl.un fl.hok fl.bare (ch:=[]) (fun b z=>absurd z (by simp))
 obtain ⟨a0,fly⟩:=fl.fly
 refine wpAny_leaves_onW I.ok.frames rfl fly fun h' fly' up=>?_
 have slot:∀ b o,s₀.heap.get? b=some o->b ∈ bH outer->∃ sl,h'.get? b=some { o with slots:=sl }:=fun b o e hb=>by
  obtain ⟨sl,e1⟩:=I'.base.slot b o e (I.ok.frf b hb) hb (fun z=>nomatch z)
  obtain ⟨_,o2,e2,nf⟩:=I.ok.funs.mem hb
  rw [show (cT (cM P w) P w K mg base N qual scope f cd A outer s₀ H₀ E₀).s₀=s₀ from rfl,e] at e2
  cases e2
  obtain ⟨sl',e3⟩:=up b _ e1 nf
  exact⟨sl',e3⟩
 have old:∀ b o,s₀.heap.get? b=some o->H₀ b=none->b ∉ bH outer->B.get? b=some o:=fun b o e n hb=>
  fl.b1 b o (I.base.keep b o e n hb (fun z=>nomatch z)) (I.base.free b o e n (fun z=>nomatch z)) (qG I e hb)
 have old0:∀ b o,s₀.heap.get? b=some o->b ∉ bH outer->∃ o',B.get? b=some o':=fun b o e hb=>by
  obtain ⟨o1,e1⟩:=I.base.there b o e (fun z=>nomatch z)
  exact fl.b0 b o1 e1 (qG I e hb)
 refine⟨H',B,a,C,rfl,⟨I'.os,I'.bare,⟨fun b o e n hb _=>fly'.1 _ _ (old b o e n hb),fun b o e n hb _=>slot b o e hb,fun b o e n hx=>I'.base.free b o e n hx,fun b o e _=>?_,I'.base.tups,I'.base.frzs,I'.base.tbls⟩,fl.hok2 fly'.1,⟨a0,fly'⟩,old0,old,fun b u o e h=>?_⟩,hE _ _ _ q⟩
 ·by_cases hb:b ∈ bH outer
  ·obtain ⟨sl,e1⟩:=slot b o e hb
   exact⟨_,e1⟩
  ·obtain ⟨o',e1⟩:=old0 b o e hb
   exact⟨o',fly'.1 _ _ e1⟩
 ·obtain ⟨ob,e1⟩:=(fl.hok b u e).at
  have e2:=fl.b2 b u ob e e1
  have e3:=fly'.1 _ _ e2
  have h:h'.get? b=some o:=h
  rw [h] at e3; cases e3; exact e2
theorem ar6 {pins:List (Addr × Obj)}{σ:St}{H:Hp}{s:Shared}{h':Heap}{e C:Addr}{args:List Value} (I:a7 (cT (cM P w) P w K mg base N qual scope f cd A outer s₀ H₀ E₀) pins σ H s) (mx:Heap.MadeExcOf s.heap h' e (.ref C) args) (q:E₀ (.ref C) none H) :
  (cT (cM P w) P w K mg base N qual scope f cd A outer s₀ H₀ E₀).xe (.ref e) { s with heap:=h' }:=by
 have tr:∀ b u,H b=some u->b ∉ bH (envOfC qual scope s₀.heap.objs.size f cd :: outer):=fun b u z n=>by
  rw [I.stkFree b n] at z; cases z
 have inB:∀ b o,s.heap.get? b=some o->b ∉ bH (envOfC qual scope s₀.heap.objs.size f cd :: outer)->(PySem.W.hideAll s.heap (bH (envOfC qual scope s₀.heap.objs.size f cd :: outer))).get? b=some o:=fun b o z n=>PySem.W.hideAll_get _ z n
 refine wpAny_leaves_madeW (base:=PySem.W.hideAll s.heap (bH (envOfC qual scope s₀.heap.objs.size f cd :: outer))) I.ok.frames rfl (fun b o z=>PySem.W.of_hideAll _ z) (PySem.W.funFrames_hide I.stack fun env he b hb=>List.mem_filterMap.mpr ⟨env,he,hb⟩) mx fun h'' t fly _ _ up=>?_
 have slot:∀ b o,s₀.heap.get? b=some o->b ∈ bH outer->∃ sl,h''.get? b=some { o with slots:=sl }:=fun b o e hb=>by
  obtain ⟨sl,e1⟩:=I.base.slot b o e (I.ok.frf b hb) hb (fun z=>nomatch z)
  obtain ⟨_,o2,e2,nf⟩:=I.ok.funs.mem hb
  rw [show (cT (cM P w) P w K mg base N qual scope f cd A outer s₀ H₀ E₀).s₀=s₀ from rfl,e] at e2
  cases e2
  obtain ⟨sl',e3⟩:=up b _ (mx.keeps _ _ e1) nf
  exact⟨sl',e3⟩
 have old:∀ b o,s₀.heap.get? b=some o->H₀ b=none->b ∉ bH outer->(PySem.W.hideAll s.heap (bH (envOfC qual scope s₀.heap.objs.size f cd :: outer))).get? b=some o:=fun b o e n hb=>
  inB b o (I.base.keep b o e n hb (fun z=>nomatch z)) (qG I e hb)
 have old0:∀ b o,s₀.heap.get? b=some o->b ∉ bH outer->∃ o',(PySem.W.hideAll s.heap (bH (envOfC qual scope s₀.heap.objs.size f cd :: outer))).get? b=some o':=fun b o e hb=>by
  obtain ⟨o1,e1⟩:=I.base.there b o e (fun z=>nomatch z)
  exact⟨o1,inB b o1 e1 (qG I e hb)⟩
 refine⟨H,_,e,C,rfl,⟨I.os,I.bare,⟨fun b o e n hb _=>fly.1 _ _ (old b o e n hb),fun b o e n hb _=>slot b o e hb,fun b o e n hx=>I.base.free b o e n hx,fun b o e _=>?_,I.base.tups,I.base.frzs,I.base.tbls⟩,fun b u z=>?_,⟨_,fly⟩,old0,old,fun b u o z h=>?_⟩,q⟩
 ·by_cases hb:b ∈ bH outer
  ·obtain ⟨sl,e1⟩:=slot b o e hb
   exact⟨_,e1⟩
  ·obtain ⟨o',e1⟩:=old0 b o e hb
   exact⟨o',fly.1 _ _ e1⟩
 ·refine (I.hok b u z).stay (fun c v hc y=>?_) (fun _ y=>y) fun _ _ y=>y
  rcases hc with z' | z'
  ·subst z'; exact fly.1 _ _ (inB _ _ y (tr _ _ z))
  ·exact fly.1 _ _ (inB _ _ y (tr _ _ z'))
 ·obtain ⟨ob,e1⟩:=(I.hok b u z).at
  have e2:=inB b ob e1 (tr b u z)
  have e3:=fly.1 _ _ e2
  have h:h''.get? b=some o:=h
  rw [h] at e3; cases e3; exact e2
end
structure kJ (X:Cx) (E:XK):Prop where
 pass:mJ (cM X.prog X.w) X E
 made:∀ (pins:List (Addr × Obj)) (σ:St) (H:Hp) (s:Shared) (h':Heap) (e C:Addr) (args:List Value),a7 X pins σ H s->Heap.MadeExcOf s.heap h' e (.ref C) args->E (.ref C) none H->X.xe (.ref e) { s with heap:=h' }
 own:PassesOwn (model X.prog X.w) X.A X.env X.xe
theorem C6 {P:Program}{w:World}{K:PySem.W.Frag}{mg:Str->Option Value}{base:Heap}{N:List Str}{qual:Str}{scope:Scope}{f:Addr}{cd:Value}{A:Around}{outer:List Env}{s₀:Shared}{H₀:Hp}{E₀ E₁:XK} (hE:∀ c d H',E₁ c d H'->E₀ c d H') :
  kJ (cT (cM P w) P w K mg base N qual scope f cd A outer s₀ H₀ E₀) E₁:=
 ⟨ar5 hE,fun _ _ _ _ _ _ _ _ I mx q=>ar6 I mx (hE _ _ _ q),PassesOwn.leaving⟩
def C7 (E:XK) (C:Addr) (t:TA):TS:=fun _ σ H=>t σ H fun vs H1=>vs.length<=sizeLine/\E (.ref C) none H1
theorem ar7 {X:Cx}{E:XK}{x:Str}{C:Addr}{bm:List Value}{B newId initId:String}{np cpos pos:Pos}{e:Expr}{es:List Expr}{t:TA} (hX:kJ X E) (hc:X.calm=true) (O:OwnCls x C bm newId X.mg X.base) (FB:ExcBaseFacts B newId initId bm) (ha:PA X (e :: es) t) (hg:Gl X x)
  (hd:(x == ("__debug__" : Str))=false:=by decide) (he:starEach (e :: es) X.env=(false,eval e X.env) :: starEach es X.env:=by rfl) (hpl:(backTo cpos (starEach es X.env)).any (·.1)=false:=by rfl) :
  PS X (.Raise (some (.Call (.Name x np) (e :: es) [] cpos)) none pos) (C7 E C t):=by
 intro pins s σ H D I h
 obtain ⟨tl,Na,nm,qn,bs,hx,sn,sub,ab,col,dd,k0,k1,k2,k3,k5,mN,hC,hN,hni,T⟩:=O.obj
 refine wpAny_Raise_call_subT (nm:=nm) (q:=qn) (N:=Na) (bs:=bs) (bm:=tl) (hdct:=hx) (sn:=sn) (sub:=sub) (ab:=ab) (col:=col) (dd:=dd) (k0:=k0) (k1:=k1) (k2:=k2) (k3:=k3) (k5:=k5) FB (C:=C) (mN:=mN) (T.hasType FB.hasBase) (I.ok.hd hc) (by rw [he]; show (false || (backTo cpos (starEach es X.env)).any (·.1))=false; rw [hpl]; rfl) hni (mC I hg O.bound ⟨rfl,?_⟩ hd)
 have h1:=ha cpos pins s σ H _ I h
 rw [he] at h1 ⊢
 refine Calls.evalArgs_plain (aW0 h1 (fun us s2 h2=>?_) fun _ _ y=>y)
 obtain ⟨vs,H2,I2,r,hl,q⟩:=h2
 have r:aR vs us:=r
 exact⟨rfl,by show us.length<=sizeLine; rw [<- r.length]; exact hl,I2.bk _ _ hC,hN.keeps I2.bk,T.keeps I2.bk,fun h' e' mx=>hX.made pins σ H2 s2 h' e' C _ I2 mx q⟩
theorem dF.okX {P:Program}{w:World}{K:PySem.W.Frag}{mg:Str->Option Value}{base:Heap}{x qual:Str}{st:Stmt}{f:Addr}{fd:FuncData}{N ps:List Str}{k:Nat}{sp:Sp} (F:dF K x qual st f fd) (S:FnScope N ps (aQ st)) (len:∀ vs H Q E,sp vs H Q E->vs.length=ps.length)
  (hbody:∀ (cdv:Value) (A:Around) (outer:List Env) (s:Shared) (H:Hp) (vs:List V) (Q:VK) (E:XK),bT k (A.deeper (envOfC qual (aQ st) s.heap.objs.size f cdv))->sp vs H Q E->
   ∃ t,dB (cT (cM P w) P w K mg base N qual (aQ st) f cdv A outer s H E) (dI st) t/\t { nx:=fun _ H'=>Q .non H',rt:=Q } (fQ N vs) H):bJ P w K mg base (cM P w) (k+1) f fd ps sp:=by
 obtain ⟨oc,od,kV,doc,pm,an,cdv,ct,osl,rfl,lk,hcd⟩:=F.ex
 exact xB lk hcd S len fun A outer s H vs Q E hr hsp=>hbody cdv A outer s H vs Q E hr hsp
section
variable {X : Cx} {pins : List (Addr × Obj)} {σ : St} {H H1 H' : Hp} {s s1 s' : Shared} {B h2 : Heap} {a C : Addr}
theorem C8 {oe:Obj} (I:a7 X pins σ H1 s1) (fl:kI X.prog X.w X.stack H1 s1 H' B a C s') (st:B.StaysIn h2) (up:s'.heap.UpToSlots h2) (he:h2.get? a=some oe) :
  a7 X pins σ (upd H' a (.frz oe (.own a))) { s' with heap:=h2 }:=by
 obtain ⟨a0,fly⟩:=fl.fly
 have na:B.get? a=none:=fly.2.1
 have nf:a ∉ bH X.stack:=fun z=>by
  obtain ⟨_,o,e,d⟩:=fly.2.2.1.mem z
  obtain ⟨o2,vs,e2,_,d2,_⟩:=fly.first
  rw [e] at e2; cases e2
  exact d vs d2
 have nb:∀ b o,s1.heap.get? b=some o->b ≠ a:=fun b o e z=>by
  subst z
  obtain ⟨o',e'⟩:=fl.b0 _ o e nf
  rw [na] at e'; cases e'
 have nt:∀ b u,H' b=some u->b ≠ a:=fun b u e z=>by
  subst z; rw [fl.fresh] at e; cases e
 have off:∀ b,b ≠ X.env.locals->b ∉ X.fs->b ∉ bH X.stack:=fun b n1 n2 z=>(aQ2.mp (I.stkSub b z)).elim n1 n2
 have slot:∀ b o,s1.heap.get? b=some o->b ∈ bH X.stack->∃ sl,h2.get? b=some { o with slots:=sl }:=fun b o e hb=>by
  obtain ⟨sl,e1⟩:=fl.un.any e (I.stkFree b hb) (fun z=>nomatch z)
  obtain ⟨_,o2,e2,d⟩:=I.stack.mem hb
  rw [e] at e2; cases e2
  obtain ⟨sl',e3⟩:=up b _ e1 d
  exact⟨sl',e3⟩
 have ns:∀ m,s1.heap.Ns X.env.locals m->h2.Ns X.env.locals m:=fun m hm=>by
  obtain ⟨o,es,ep,e,r⟩:=hm
  obtain ⟨sl,e1⟩:=fl.un.any e I.free (fun z=>nomatch z)
  exact up.ns ⟨_,es,ep,e1,r⟩
 have hok:bM X.prog X.w (upd H' a (.frz oe (.own a))) h2:=fun b u e=>by
  by_cases hb:b=a
  ·subst hb; rw [aZ] at e; cases e; exact⟨he,_,he⟩
  ·rw [aJ hb] at e
   exact (fl.hok2 st b u e).stay (fun _ _ _ q=>q) (fun c q=>by rw [aJ (nt c _ q)]; exact q) fun c xs q=>by rw [aJ (nt c _ q)]; exact q
 have bare:=fl.bare
 have un:=fl.un
 have b0:=fl.b0
 have b1:=fl.b1
 have os:=fl.os
 clear fl fly up
 obtain ⟨hh,g,d,t,os'⟩:=s'
 obtain rfl:os'=s1.os:=os
 show a7 X pins σ _ { s1 with heap:=h2,gens:=g,drawn:=d,toks:=t }
 refine I.step (h':=h2) (g':=g) (d':=d) (t':=t) (ch:=[]) (fun _ z=>nomatch z) (fun b o n1 n2 _ e n=>st _ _ (b1 b o e n (off b n1 n2))) (fun b o n1 hb _ e n=>?_) (fun b o _ e n=>by rw [aJ (nb b o e)]; exact un.free b o e n (fun z=>nomatch z)) (fun b o _ e=>?_)
  (fun b xs q=>by rw [aJ (nt b _ (un.tups b xs q))]; exact un.tups b xs q) (fun b o u q=>by rw [aJ (nt b _ (un.frzs b o u q))]; exact un.frzs b o u q) (fun b ps q=>by
   obtain ⟨more,q'⟩:=un.tbls b ps q
   exact⟨more,by rw [aJ (nt b _ q')]; exact q'⟩) ns hok bare
 ·by_cases hs:b ∈ bH X.stack
  ·exact slot b o e hs
  ·exact⟨o.slots,st _ _ (b1 b o e n hs)⟩
 ·by_cases hb:b ∈ bH X.stack
  ·obtain ⟨sl,e1⟩:=slot b o e hb
   exact⟨_,e1⟩
  ·obtain ⟨o',e1⟩:=b0 b o e hb
   exact⟨o',st _ _ e1⟩
abbrev Cx.suite (X:Cx) (a:Addr):Cx:={ X with A:=X.A.mark (some (.ref a)),calm:=false,xe:=fun _ _=>False }
theorem Cx.Ok.suite {X:Cx} (ok:X.Ok) (a:Addr):(X.suite a).Ok:=
 ⟨ok.mod,ok.kind,ok.glob,ok.blt,ok.above,ok.inj,ok.has,ok.cab,fun z=>Bool.noConfusion z,ok.frames,ok.stk,ok.exf,ok.bs,ok.bsz,ok.noex,ok.exfs,ok.funs,ok.frf⟩
theorem a7.suite (I:a7 X pins σ H s) (a:Addr):a7 (X.suite a) pins σ H s:=⟨I.ok.suite a,I.os,I.bare,I.base,I.loc,I.cell,I.free,I.freeC,I.pin,I.hok,I.len⟩
theorem a7.unsuite (I:a7 (X.suite a) pins σ H s) (ok:X.Ok):a7 X pins σ H s:=⟨ok,I.os,I.bare,I.base,I.loc,I.cell,I.free,I.freeC,I.pin,I.hok,I.len⟩
theorem qH {M:Model}{A:Around}{E:Value->Shared->Prop}{i:Nat}{x:Str}{pos:Pos}{Q:Unit->Shared->Prop} (I:a7 X pins σ H s) (hN:X.N.Nodup) (hi:X.N[i]? = some x) (hk:X.env.scope.names.lookup x=some .local)
  (h:∀ s',a7 X pins (σ.set i none) H s'->Q () s'):wpAny M A (do bindName X.env x .none; unbindBehindTheSuite X.env x pos) Q E s:=by
 obtain ⟨m,hn,hl⟩:=id I.loc
 obtain ⟨oL,_,_,hoL,_⟩:=id hn
 have ab:∀ b o,X.s₀.heap.get? b=some o->b ≠ X.env.locals:=fun b o e=>aS8 (aQ9 (aR0 e) I.ok.above)
 refine wpAny_nameGoes_keeps hk hn (by rw [I.ok.kind]; rfl) fun h' v hn' hs=>?_
 refine h _ ⟨I.ok,I.os,I.bare,⟨fun b o e n hb hx=>(hs.2 b (ab b o e)).trans (I.base.keep b o e n hb hx),fun b o e n hb hx=>?_,I.base.free,fun b o e hx=>?_,I.base.tups,I.base.frzs,I.base.tbls⟩,⟨_,hn',fun j y v' e1 e2 e3=>?_⟩,fun y c e=>?_,I.free,I.freeC,fun p hp=>?_,fun b u e=>?_,by simpa using I.len⟩
 ·obtain ⟨sl,e1⟩:=I.base.slot b o e n hb hx
  exact⟨sl,(hs.2 b (ab b o e)).trans e1⟩
 ·obtain ⟨o',e1⟩:=I.base.there b o e hx
  exact⟨o',(hs.2 b (ab b o e)).trans e1⟩
 ·by_cases hj:j=i
  ·subst hj
   have hjl:j < σ.length:=by rw [I.len]; exact (aQ7.mp hi).1
   rw [aX1 hjl] at e2
   cases e2
  ·rw [aS5 (Ne.symm hj)] at e2
   obtain ⟨u',r',q⟩:=hl j y v' e1 e2 e3
   refine⟨u',r',?_⟩
   rcases q with ⟨k,e⟩ | ⟨k,c,e,z⟩
   ·have ny:y ≠ x:=fun z=>hj (rQ hN e1 (z ▸ hi))
    exact .inl ⟨k,by simp [ny,e]⟩
   ·exact .inr ⟨k,c,e,z.sameBut hs (I.cne y c e)⟩
 ·obtain ⟨w',z⟩:=I.cell y c e
  exact⟨w',z.sameBut hs (I.cne y c e)⟩
 ·obtain ⟨e,n,ne,nf,d⟩:=I.pin p hp
  exact⟨(hs.2 p.1 ne).trans e,n,ne,nf,d⟩
 ·refine (I.hok b u e).stay (fun c v hc q=>(hs.2 c fun z=>?_).trans q) (fun _ q=>q) fun _ _ q=>q
  subst z
  rcases hc with z | z
  ·subst z; rw [I.free] at e; cases e
  ·rw [I.free] at z; cases z
theorem ar8 {M:Model}{A:Around}{E:Value->Shared->Prop}{K:PySem.W.Frag}{e C D:Addr}{oe:Obj}{Q:Bool->Shared->Prop} (k:K.In s.heap) (he:s.heap.get? e=some oe) (hc:oe.cls = .ref C) (h1:(PySem.W.clsIn K D).isSome=true) (h2:PySem.W.typeIn K (.ref D)=some (.type "type"))
  (h3:PySem.W.subIn K (.ref D) (.type "BaseException")=some true) (h4:PySem.W.subIn K (.ref C) (.ref D)=some true) (hq:Q true s):wpAny M A (excMatches (.ref e) (.ref D)) Q E s:=by
 obtain ⟨h,g,d,t,os⟩:=s
 have k:K.In h:=k
 have he:h.get? e=some oe:=he
 have l1:PySem.W.Looks M h (isType (.ref D)) true:=by
  unfold PySem.W.clsIn at h1
  split at h1
  ·rename_i c' d' cd' sl' ho
   intro A' Q' E' s' kk q
   unfold isType loadHead
   exact aQ0 (wpAny_loadPart (kk _ _ (k _ _ ho)) (aQ5 q))
  ·cases h1
 have l2:PySem.W.Looks M h (typeOf (.ref D)) (.type "type"):=PySem.W.looks_typeIn k h2
 have l3:PySem.W.Looks M h (isSubtype (.ref D) (.type "BaseException")) true:=PySem.W.looks_subIn k h3
 have l4:PySem.W.Looks M h (isSubtype (.ref C) (.ref D)) true:=PySem.W.looks_subIn k h4
 have l5:PySem.W.Looks M h (typeOf (.ref e)) (.ref C):=hc ▸ (PySem.W.Looks.ld he).andThen .now
 have l6:PySem.W.Looks M h (isInstance (.ref D) (.type "tuple")) false:=l2.andThen (PySem.W.Looks.of_pure tc_notTuple)
 have l7:PySem.W.Looks M h (isExcClass (.ref D)) true:=by
  unfold isExcClass
  exact l1.andThen (by simpa using l3)
 have f:=tc_notTuple
 unfold excMatches
 repeat (first | exact hq | (with_reducible refine l2.at ?_) | (with_reducible refine l7.at ?_) | (with_reducible refine l1.at ?_) | (with_reducible refine l3.at ?_) | (with_reducible refine l5.at ?_) | (with_reducible refine l4.at ?_) | wp_step)
end
def uR (D:cR) (i:Nat):cR:={ nx:=fun σ H=>D.nx (σ.set i none) H,rt:=D.rt,bk:=fun σ H=>D.bk (σ.set i none) H,ct:=fun σ H=>D.ct (σ.set i none) H }
section
variable {X : Cx} {pins : List (Addr × Obj)} {σ : St} {H H1 H' : Hp} {s s1 s' : Shared} {B : Heap} {a C Ch : Addr} {i : Nat} {x n : Str} {np pos hpos : Pos} {b₀ : Stmt} {suite : List Stmt} {ts : TS} {D : cR} {cI : List ExceptHandler}
structure uS (K:PySem.W.Frag) (Ch:Addr):Prop where
 c1:(PySem.W.clsIn K Ch).isSome=true
 c2:PySem.W.typeIn K (.ref Ch)=some (.type "type")
 c3:PySem.W.subIn K (.ref Ch) (.type "BaseException")=some true
theorem ar9 (I:a7 X pins σ H1 s1) (fl:kI X.prog X.w X.stack H1 s1 H' B a C s') (hstk:X.stack=X.env :: X.outer/\X.env.frame=some X.env.locals) (hg:Gl X x) (hm:X.mg x=some (.ref Ch)) (ct:uS X.K Ch) (sub:PySem.W.subIn X.K (.ref C) (.ref Ch)=some true)
  (hN:X.N.Nodup) (hi:X.N[i]? = some n) (hl:X.env.scope.names.lookup n=some .local) (hs:dB (X.suite a) (b₀ :: suite) ts) (q:∀ oe:Obj,oe.cls = .ref C->ts (uR D i) (σ.set i (some (.ref a))) (upd H' a (.frz oe (.own a)))) (hd:(x == ("__debug__" : Str))=false) :
  wpAny (model X.prog X.w) X.A (noteFrame (.ref a) X.env) (fun _ s₂=>wpAny (model X.prog X.w) X.A (setFlight (.ref a) none) (fun _ s₃=>wpAny (model X.prog X.w) X.A (handleBy (.ref a) X.env (.ExceptHandler (some (.Name x np)) (some n) (b₀ :: suite) hpos :: cI)) (SP X pins D) X.xe s₃) X.xe s₂) X.xe s':=by
 obtain ⟨a0,fly⟩:=fl.fly
 rw [hstk.1] at fly
 refine wpAny_looks_onW (outer:=X.outer) (L:=X.env.locals) (by rw [I.ok.frames,hstk.1]) hstk.2 fly fun h4 held up4=>wpAny_landsW held fun h5 fly5 up5=>?_
 obtain ⟨o5,v5,e5,c5,_⟩:=fly5.first
 have I5:=C8 I fl fly5.1 (up4.trans up5) e5
 refine wpAny_handleBy_cons (codeAny_handlers_test (mC (I5.suite a) hg hm ?_ hd)) (by intro z; cases z)
 refine ar8 I5.kIn e5 c5 ct.c1 ct.c2 ct.c3 sub ?_
 show codeAny (model X.prog X.w) (X.A.mark (some (.ref a))) (.handlers (.ref a) [.ExceptHandler none (some n) (b₀ :: suite) hpos] X.env) _ _
 refine codeAny_handlers_suite_as (lands_againW fly5 fun h6 fly6 up6=>?_)
 obtain ⟨o6,v6,e6,c6,_⟩:=fly6.first
 have I6:=C8 I fl fly6.1 ((up4.trans up5).trans up6) e6
 refine rS I6 hN hi (.inl hl) (v:=.ref a) rfl (fun s7 I7=>?_) (.inr hl)
 refine aW0 (hs pins s7 _ _ (uR D i) (I7.suite a) (q o6 c6)) (fun f s8 h8=>?_) fun _ _ z=>z.elim
 show wpAny (model X.prog X.w) X.A (do bindName X.env n .none; unbindBehindTheSuite X.env n hpos) (fun _ s9=>SP X pins D f s9) X.xe s8
 cases f with
 | next=>obtain ⟨σ',H',J,q⟩:=h8; exact qH (J.unsuite I.ok) hN hi hl fun s9 J9=>⟨_,_,J9,q⟩
 | brk=>obtain ⟨σ',H',J,q⟩:=h8; exact qH (J.unsuite I.ok) hN hi hl fun s9 J9=>⟨_,_,J9,q⟩
 | cont=>obtain ⟨σ',H',J,q⟩:=h8; exact qH (J.unsuite I.ok) hN hi hl fun s9 J9=>⟨_,_,J9,q⟩
 | ret u=>obtain ⟨v,σ',H',J,r,q⟩:=h8; exact qH (J.unsuite I.ok) hN hi hl fun s9 J9=>⟨v,_,_,J9,r,q⟩
end
abbrev TB:=cR->XK->St->Hp->Prop
def XB (X:Cx) (pins:List (Addr × Obj)) (σ:St) (Ex:XK):Value->Shared->Prop:=fun e s'=>∃ H1 s1,a7 X pins σ H1 s1/\cM X.prog X.w X.stack H1 s1 Ex e s'
def PB (X:Cx) (sts:List Stmt) (t:TB):Prop:=
 ∀ (pins:List (Addr × Obj)) (s:Shared) (σ:St) (H:Hp) (D:cR) (Ex:XK),a7 X pins σ H s->t D Ex σ H->wpAny (model X.prog X.w) X.A (execs sts X.env) (SP X pins D) (XB X pins σ Ex) s
def as0 (sp:Sp) (t:TA):TB:=fun D Ex σ H=>t σ H fun vs H1=>sp vs H1 (fun _ H2=>D.nx σ H2) Ex
def as1 (c:TT) (t u:TB):TB:=fun D Ex σ H=>c σ H fun b H1=>if b=true then t D Ex σ H1 else u D Ex σ H1
section
variable {X : Cx} {k : Nat} {f Ch : Addr} {fd : FuncData} {ps : List Str} {sp : Sp} {x n : Str} {p cp pos np hpos : Pos} {e c : Expr} {es : List Expr} {t : TA} {tb ub : TB} {tc : TT} {sa sb body : List Stmt} {i : Nat} {b₀ : Stmt} {suite : List Stmt} {ts : TS}
theorem as2 (F:bJ X.prog X.w X.K X.mg X.base (cM X.prog X.w) k f fd ps sp) (hr:bT k X.A) (hg:Gl X x) (hm:X.mg x=some (.ref f)) (hk:PySem.W.keepIn X.K (.ref f)=true) (hb:gB X.K fd ps []) (ha:∀ E,PA (X.wish E) (e :: es) t)
  (hdb:(x == ("__debug__" : Str))=false:=by decide) (he:starEach (e :: es) X.env=(false,eval e X.env) :: starEach es X.env:=by rfl) (hpl:(backTo cp (starEach es X.env)).any (·.1)=false:=by rfl) (hsw:swapsWith (.Call (.Name x p) (e :: es) [] cp) none pos.line X.env=pure false:=by rfl) :
  PB X [.Expr (.Call (.Name x p) (e :: es) [] cp) pos] (as0 sp t):=by
 intro pins s σ H D Ex I h
 refine wpAny_execs_cons (wpAny_Expr_any ?_ I.quiet hsw)
 refine wpAny_Call_Name_kw (mC I hg hm ?_ hdb)
 refine PySem.W.callWith_K (h₀:=X.base) I.ok.mod.kin hk (aK (ha (XB X pins σ Ex) cp pins s σ H _ (I.wish _) h) fun us s1 h1=>⟨?_,?_⟩) he hpl
 ·obtain ⟨_,_,I1,_⟩:=h1
  exact I1.kIn
 ·obtain ⟨vs,H1,I1,r,q⟩:=h1
  have I1:=I1.unwish
  have hl:us.length=ps.length:=by rw [<- r.length]; exact F.len _ _ _ _ q
  have bd:=hb s1 us I1.kIn (by rw [aV7]; exact hl)
  rw [aV7] at bd
  refine wpAny_call (codeAny_mono (F.run X.A X.stack s1 H1 ⟨us,[]⟩ us vs _ Ex hr I1.env0 bd r q) fun rs s' hq=>?_)
  cases rs with
  | error ev=>exact⟨H1,s1,I1,hq⟩
  | ok fl=>
   cases fl with
   | ret u=>
    obtain ⟨v,H2,I2,_,q2⟩:=I1.after hq
    exact bb3 ⟨σ,H2,I2,q2⟩
   | next=>exact False.elim hq
   | brk=>exact False.elim hq
   | cont=>exact False.elim hq
theorem as3 (hc:∀ E,PT (X.wish E) c tc) (ha:PB X sa tb) (hb:PB X sb ub):PB X [.If c sa sb pos] (as1 tc tb ub):=by
 intro pins s σ H D Ex I h
 refine wpAny_execs_cons (wpAny_If (aK (hc (XB X pins σ Ex) pins s σ H _ (I.wish _) h) fun d s1 h1=>?_))
 obtain ⟨H1,I1,q1⟩:=h1
 have I1:=I1.unwish
 have fin:∀ (fl:Flow) (s2:Shared),SP X pins D fl s2->(match fl with | .next=>wpAny (model X.prog X.w) X.A (execs [] X.env) (SP X pins D) (XB X pins σ Ex) s2 | fl=>SP X pins D fl s2):=fun fl s2 q=>by
  cases fl with
  | next=>exact bb3 q
  | _=>exact q
 cases d with
 | true=>exact aK (ha pins s1 σ H1 D Ex I1 q1) fin
 | false=>exact aK (hb pins s1 σ H1 D Ex I1 q1) fin
def C9 (K:PySem.W.Frag) (Ch:Addr) (i:Nat) (tb:TB) (ts:TS):TS:=fun D σ H=>
 tb D (fun c _ H'=>∀ (a C:Addr) (oe:Obj),c = .ref C->H' a=none->oe.cls = .ref C->PySem.W.subIn K (.ref C) (.ref Ch)=some true/\ts (uR D i) (σ.set i (some (.ref a))) (upd H' a (.frz oe (.own a)))) σ H
theorem as4 (hstk:X.stack=X.env :: X.outer/\X.env.frame=some X.env.locals) (hb:PB X body tb) (hg:Gl X x) (hm:X.mg x=some (.ref Ch)) (ct:uS X.K Ch) (hN:X.N.Nodup) (hi:X.N[i]? = some n) (hl:X.env.scope.names.lookup n=some .local) (hs:∀ a,dB (X.suite a) (b₀ :: suite) ts)
  (hd:(x == ("__debug__" : Str))=false:=by decide):PS X (.Try body [.ExceptHandler (some (.Name x np)) (some n) (b₀ :: suite) hpos] [] [] pos) (C9 X.K Ch i tb ts):=by
 intro pins s σ H D I h
 refine wpAny_Try_except (aW0 (hb pins s σ H D _ I h) (fun fl s1 q=>?_) (fun ev s1 q=>?_))
 ·cases fl with
  | next=>exact bb3 q
  | _=>exact q
 ·obtain ⟨H1,s2,I1,H',B,a,C,e1,fl,q⟩:=q
  subst e1
  obtain ⟨a0,fly⟩:=fl.fly
  obtain ⟨o5,_,_,c5,_⟩:=fly.first
  exact ar9 I1 fl hstk hg hm ct (q a C o5 rfl fl.fresh c5).1 hN hi hl (hs a) (fun oe hc=>(q a C oe rfl fl.fresh hc).2) hd
end
end L2
namespace L2
open PySem PySem.Spec PyProof.Rows PySem.Calls Builtin Builtin.ObjectAttr Builtin.Getset_descriptor
structure gZ (K:PySem.W.Frag) (D:Addr):Prop where
 cls:(PySem.W.clsIn K D).isSome=true
 ga:PySem.W.findIn K (.ref D) "__getattribute__" = some (some (.builtin "BaseException.__getattribute__"))
 gt:PySem.W.findIn K (.ref D) "__getattr__" = some none
 fc:PySem.W.findIn K (.ref D) "__class__" = some (some (.builtin "object.__class__"))
 fg:PySem.W.specialIn K (.builtin "object.__class__") "__get__" = some (some (.builtin "getset_descriptor.__get__"))
 ft:PySem.W.takesIn K (.builtin "object.__class__")=some true
 ob:PySem.W.mroIn K D (.type "object")=some true
 be:PySem.W.mroIn K D (.type "BaseException")=some true
def jO (h:Heap) (x D:Addr):Prop:=∃ ox:Obj,h.get? x=some ox/\ox.cls = .ref D
theorem jO.type {h:Heap}{x D:Addr}{M:Model} (I:jO h x D):PySem.W.Looks M h (typeOf (.ref x)) (.ref D):=by
 obtain ⟨ox,e,c⟩:=I
 exact c ▸ (PySem.W.Looks.ld e).andThen .now
section
variable {prog : Program} {w : World} {A : Around} {E : Value → Shared → Prop} {K : PySem.W.Frag} {x D : Addr} {h : Heap} {g : Array GenState} {d : Drawn} {t : Nat} {os : OsState}
theorem as5 {M:Model} (F:gZ K D) (k:K.In h):PySem.W.Looks M h (find (.ref x) (.ref D) "__class__") (.bind (.builtin "getset_descriptor.__get__") (.builtin "object.__class__")):=by
 have L1:=PySem.W.looks_findIn (M:=M) k F.fc
 have L2:=PySem.W.looks_specialIn (M:=M) k F.fg
 have L3:=PySem.W.looks_takesIn (M:=M) k F.ft
 unfold find
 refine L1.andThen (PySem.W.Looks.andThen (a:=some (Value.builtin "getset_descriptor.__get__")) L2 ?_)
 refine PySem.W.Looks.andThen (a:=some (Value.builtin "getset_descriptor.__get__",Value.builtin "object.__class__")) ?_ (PySem.W.Looks.tag .now)
 unfold dataDescriptor?
 exact L3.andThen .now
theorem as6 {tp:Value}{R:Result->Shared->Prop} (F:gZ K D) (k:K.In h) (I:jO h x D) (hq:R (.ok (.ret (.ref D))) ⟨h,g,d,t,os⟩):codeAny (model prog w) A (.call (.builtin "getset_descriptor.__get__") ⟨[.builtin "object.__class__",.ref x,tp],[]⟩) R ⟨h,g,d,t,os⟩:=by
 have L0:=I.type (M:=model prog w)
 have L1:=PySem.W.looks_mroIn (M:=model prog w) k F.ob
 refine codeAny_call_builtin PySem.W.KF.slot_gs.plain PySem.W.KF.entry_gs (PySem.W.KF.slot_gs.check _ _ _ _ _ _ _ _ PySem.W.KF.type_class (PySem.W.KF.args_gs _ _ _) ?_)
 unfold Builtin.«getset_descriptor.__get__» descrGet; rw [PySem.W.dga_obj]
 refine aQ0 (aQ5 ?_); unfold descrGetter descrCheckInstance descrNameAndClass isInstance
 simp only [PySem.W.KF.owner_class]
 repeat lk
 refine⟨Code.quiet_builtin _ (by decide +kernel),codeAny_builtin PySem.W.KF.entry_class ?_⟩; unfold Builtin.«object.__class__» shownTypeOf
 repeat lk
 exact hq
theorem as7 {M:Model}{nameV:Value}{Q:Unit->Shared->Prop} (F:gZ K D) (k:K.In h) (I:jO h x D) (hq:Q () ⟨h,g,d,t,os⟩):wpAny M A (checkBuiltinCall "BaseException.__getattribute__" ⟨[.ref x,nameV],[]⟩) Q E ⟨h,g,d,t,os⟩:=by
 have kd:builtinKind "BaseException.__getattribute__" = some .slot:=by decide +kernel
 have sp:splitId "BaseException.__getattribute__" = some ("BaseException","__getattribute__"):=by decide +kernel
 have L:PySem.W.Looks M h (isInstance (.ref x) (.type "BaseException")) true:=(I.type (M:=M)).andThen (PySem.W.looks_mroIn k F.be)
 have ha:=PySem.F.args_bexc_ga (.ref x) nameV
 simp only [checkBuiltinCall,kd,sp]
 refine aQ0 (L.at ?_)
 repeat (any_goals (first | assumption | wp_step))
theorem as8 {tk:Tok}{Q:Fin->Shared->Prop} (F:gZ K D) (k:K.In h) (I:jO h x D) (hq:Q (.done (.ret (.ref D))) ⟨h,g,d,t,os⟩):wpAny (model prog w) A (Builtin.«object.__getattribute__» ⟨[.ref x,.str "__class__" tk],[]⟩) Q E ⟨h,g,d,t,os⟩:=by
 have L0:=I.type (M:=model prog w)
 have L1:=as5 (M:=model prog w) F k (x:=x)
 refine aQ0 (aQ5 (aQ0 (aQ5 (aQ0 (L0.at (aQ0 (L1.at ?_)))))))
 show wpAny _ _ (holding [_] (call _ _) >>= ret) _ _ _
 exact aQ0 (bb9 (wpAny_call (as6 F k I (aQ5 hq))))
theorem as9 {tk:Tok}{R:Result->Shared->Prop} (F:gZ K D) (k:K.In h) (I:jO h x D) (hq:R (.ok (.ret (.ref D))) ⟨h,g,d,t,os⟩):codeAny (model prog w) A (.call (.builtin "BaseException.__getattribute__") ⟨[.ref x,.str "__class__" tk],[]⟩) R ⟨h,g,d,t,os⟩:=
 codeAny_call_builtin PySem.F.excAttr_ValueError.ga.plain PySem.F.entry_bexc_ga (as7 F k I (as8 F k I hq))
theorem at0 {Q:Option Value->Shared->Prop} (F:gZ K D) (k:K.In h) (I:jO h x D) (hq:Q (some (.ref D)) ⟨h,g,d,t+1,os⟩):wpAny (model prog w) A (getAttr? (.ref x) "__class__") Q E ⟨h,g,d,t,os⟩:=by
 have L0:=I.type (M:=model prog w)
 have L1:=PySem.W.looks_findIn (M:=model prog w) k F.ga
 have L2:=PySem.W.looks_findIn (M:=model prog w) k F.gt
 have f3:=PySem.F.excAttr_ValueError.ga.bind (.ref x)
 unfold getAttr? getAttrBy? getAttrBy
 refine aQ0 (wpAny_mkText (aQ0 (wpAny_attempt (bb9 (aQ0 (L0.at (aQ0 (L1.at ?_))))))))
 have nx:(onTheHeap (Value.ref D) && Value.builtin "BaseException.__getattribute__" == Value.builtin "object.__getattribute__")=false:=by
  rw [show (Value.builtin "BaseException.__getattribute__" == Value.builtin "object.__getattribute__")=false by decide +kernel,Bool.and_false]
 dsimp only
 rw [if_neg (by rw [nx]; decide)]
 unfold getAttrByItsOwn hookBefore
 repeat (any_goals (first | assumption | (with_reducible refine L2.at ?_) | wp_step))
 exact as9 F k I (PySem.W.handed_on rfl (aQ5 hq))
end
theorem at3 {K:PySem.W.Frag}{x D:Addr} (F:gZ K D):PySem.W.KitX K (.ref x) (.ref D) (fun h=>jO h x D) where
 ty:=fun _ _ _ I=>I.type
 it:=fun M h k _=>by
  have z:=F.cls
  unfold PySem.W.clsIn at z
  split at z
  ·rename_i c' d' cd' sl' ho
   intro A' Q' E' s' kk q
   unfold isType loadHead
   exact aQ0 (wpAny_loadPart (kk _ _ (k _ _ ho)) (aQ5 q))
  ·cases z
 ne:=fun h tp dd its n sl k htp=>by
  have z:=F.cls
  refine aZ4.mpr fun q=>?_
  obtain rfl:D=tp:=Value.ref.inj (beq_iff_eq.mp q)
  unfold PySem.W.clsIn at z
  split at z
  ·rename_i ho
   have y:=(k _ _ ho).symm.trans htp
   cases y
  ·cases z
 ca:=fun {_ _ _ _ _ s} k I q=>by
  obtain ⟨h,g,d,t,os⟩:=s
  exact at0 F k I q
end L2
namespace Core
open PySem L2 PP
def jP (ns:List Int):Bool:=((ns.zip (ns.drop 1)).map fun p=>decide (p.1 < p.2)).all id
theorem nM {α β:Type}{l:List α}{f:α->β}{i:Nat}{x:α} (h:l[i]? = some x):(l.take (i+1)).map f=(l.take i).map f ++ [f x]:=by
 rw [aV9,h]; simp
theorem nN:∀ {ns:List Int},jP ns=true->ns.Pairwise (· < ·)
 | [],_=>.nil
 | [x],_=>aV3 _ _
 | x :: y :: r,h=>by
  have e:jP (x :: y :: r)=(decide (x < y) && jP (y :: r)):=rfl
  rw [e,aW5] at h
  have ih:=nN h.2
  refine List.pairwise_cons.mpr ⟨fun z hz=>?_,ih⟩
  rcases aQ2.mp hz with rfl | hz
  ·exact of_decide_eq_true h.1
  ·exact Int.lt_trans (of_decide_eq_true h.1) (List.rel_of_pairwise_cons ih hz)
def kin (ws:List Int) (ls:List (Int × Int)) (S:List Int) (h:Int):Bool:=!decide (h ∈ S) && decide (ws.getD h.toNat 0<=(((dD ls h).filter fun x=>decide (x ∈ S)).length:Int))
def nextOf (ws:List Int) (ls:List (Int × Int)) (S:List Int):List Int:=((List.range ws.length).map fun (i:Nat)=>(i:Int)).filter (kin ws ls S)
def bC (ws:List Int) (ls:List (Int × Int)) (S:List Int):Nat->List Int
 | 0=>S
 | k+1=>bC ws ls S k ++ nextOf ws ls (bC ws ls S k)
def eL (ws:List Int) (S:List Int):Nat:=(((List.range ws.length).map fun (i:Nat)=>(i:Int)).filter fun x=>!decide (x ∈ S)).length
theorem uT {α:Type} (p q:α->Bool) (h:∀ x,q x=true->p x=false):∀ L:List α,(L.filter fun x=>!p x && !q x).length+(L.filter q).length=(L.filter fun x=>!p x).length
 | []=>rfl
 | x :: r=>by
  have ih:=uT p q h r
  cases e1:p x with
  | true=>
   have e2:q x=false:=by
    cases e:q x with
    | false=>rfl
    | true=>have:=h x e; rw [e1] at this; cases this
   simp only [List.filter_cons,e1,e2,Bool.not_true,Bool.false_and,aS4,aX0]
   exact ih
  | false=>
   cases e2:q x with
   | true=>
    simp only [List.filter_cons,e1,e2,Bool.not_true,Bool.not_false,Bool.and_false,aS4,aX0,if_true,aU1]
    omega
   | false=>
    simp only [List.filter_cons,e1,e2,Bool.not_false,Bool.and_true,aS4,aX0,if_true,aU1]
    omega
theorem uU {ws:List Int}{ls:List (Int × Int)}{S:List Int}{x:Int} (h:kin ws ls S x=true):decide (x ∈ S)=false:=by
 unfold kin at h
 cases e:decide (x ∈ S) with
 | false=>rfl
 | true=>rw [e] at h; cases h
theorem uV (ws:List Int) (ls:List (Int × Int)) (S:List Int):eL ws (S ++ nextOf ws ls S)+(nextOf ws ls S).length=eL ws S:=by
 have e:=uT (fun x=>decide (x ∈ S)) (kin ws ls S) (fun x h=>uU h) ((List.range ws.length).map fun (i:Nat)=>(i:Int))
 unfold eL
 rw [<- e]
 congr 2
 refine List.filter_congr fun x hx=>?_
 have:decide (x ∈ S ++ nextOf ws ls S)=(decide (x ∈ S) || kin ws ls S x):=by
  rw [aY6]
  unfold nextOf
  simp only [ba4,aV6,List.mem_filter,Bool.or_eq_true]
  exact⟨fun z=>z.elim .inl fun z=>.inr z.2,fun z=>z.elim .inl fun z=>.inr ⟨hx,z⟩⟩
 rw [this]
 cases decide (x ∈ S) <;> cases kin ws ls S x <;> rfl
theorem at5 (ws:List Int) (S:List Int):eL ws S<=ws.length:=by
 unfold eL
 refine aU0 (List.length_filter_le _ _) ?_
 rw [aQ3,aZ5]; exact aQ6 _
theorem at6 (ws:List Int) (ls:List (Int × Int)) (S:List Int):(nextOf ws ls S).length<=ws.length:=by
 unfold nextOf
 refine aU0 (List.length_filter_le _ _) ?_
 rw [aQ3,aZ5]; exact aQ6 _
def after (ws:List Int) (ls:List (Int × Int)) (S:List Int) (m:Nat):List (List Int):=(List.range m).map fun k=>nextOf ws ls (bC ws ls S k)
theorem E1 (ws:List Int) (ls:List (Int × Int)) (S:List Int) (m:Nat):after ws ls S (m+1)=after ws ls S m ++ [nextOf ws ls (bC ws ls S m)]:=by
 unfold after
 rw [List.range_succ,aS9]; rfl
theorem E2 (ws:List Int) (ls:List (Int × Int)) (ns:List Int):∀ k,(bC ws ls ns k).length+eL ws (bC ws ls ns k)=ns.length+eL ws ns
 | 0=>rfl
 | k+1=>by
  have ih:=E2 ws ls ns k
  have cs:=uV ws ls (bC ws ls ns k)
  show (bC ws ls ns k ++ nextOf ws ls (bC ws ls ns k)).length+eL ws (bC ws ls ns k ++ nextOf ws ls (bC ws ls ns k))=_
  rw [aQ8]; omega
theorem E3 {ws ns:List Int} (hu:ns.Pairwise (· < ·)) (hin:∀ x ∈ ns,0<=x/\x < (ws.length:Int)):ns.length+eL ws ns<=ws.length:=by
 have nd:ns.Nodup:=hu.imp fun h=>Int.ne_of_lt h
 have sub:ns ⊆ ((List.range ws.length).map fun (i:Nat)=>(i:Int)).filter fun x=>decide (x ∈ ns):=fun x hx=>by
  refine List.mem_filter.mpr ⟨aX2.mpr ⟨x.toNat,bc1.mpr ?_,?_⟩,aR9 hx⟩
  ·have:=hin x hx; omega
  ·have:=hin x hx; omega
 have h1:=nd.length_le_of_subset sub
 have h2:=uT (fun _=>false) (fun x=>decide (x ∈ ns)) (fun _ _=>rfl) ((List.range ws.length).map fun (i:Nat)=>(i:Int))
 have h3:(((List.range ws.length).map fun (i:Nat)=>(i:Int)).filter fun x=>!false && !decide (x ∈ ns)).length=eL ws ns:=rfl
 have h4:(((List.range ws.length).map fun (i:Nat)=>(i:Int)).filter fun x=>!false).length<=ws.length:=by
  refine aU0 (List.length_filter_le _ _) ?_
  rw [aQ3,aZ5]; exact aQ6 _
 rw [h3] at h2
 omega
theorem E4 (ws:List Int) (ls:List (Int × Int)) (ns:List Int):∀ m,(ns :: after ws ls ns m).flatten=bC ws ls ns m
 | 0=>by simp [after,bC]
 | m+1=>by
  rw [E1,<- List.cons_append,List.flatten_append,E4 ws ls ns m]
  simp [bC]
def cR (ws:List Int) (ls:List (Int × Int)) (ns:List Int) (m:Nat):Prop:=(∀ k < m,nextOf ws ls (bC ws ls ns k) ≠ [])/\nextOf ws ls (bC ws ls ns m) = []
theorem E5 {ws:List Int}{ls:List (Int × Int)}{ns:List Int}:∀ (m:Nat),(∀ k < m,nextOf ws ls (bC ws ls ns k) ≠ [])->m+eL ws (bC ws ls ns m)<=ws.length
 | 0,_=>by have:=at5 ws ns; show 0+eL ws ns<=_; omega
 | m+1,h=>by
  have ih:=E5 m fun k hk=>h k (by omega)
  have cs:=uV ws ls (bC ws ls ns m)
  have:1<=(nextOf ws ls (bC ws ls ns m)).length:=by
   cases e:nextOf ws ls (bC ws ls ns m) with
   | nil=>exact absurd e (h m (by omega))
   | cons _ _=>exact Nat.succ_le_succ (aT7 _)
  show m+1+eL ws (bC ws ls ns m ++ nextOf ws ls (bC ws ls ns m))<=_
  omega
theorem jQ {ns:List Int}{i:Nat}{x:PV} (h:(intz ns)[i]? = some x):∃ n,x = .int n/\ns[i]? = some n:=by
 rw [aR6] at h
 cases e:ns[i]? with
 | none=>rw [e] at h; cases h
 | some n=>rw [e] at h; exact⟨n,(aS7 h).symm,rfl⟩
theorem jR {lo:Int}{n i:Nat}{x:PV} (h:(iH lo n)[i]? = some x):x = .int (lo+i)/\i < n:=by
 have hi:i < n:=by
  have:=(aQ7.mp h).1
  rwa [gG] at this
 rw [A1 hi] at h
 exact⟨(aS7 h).symm,hi⟩
def rng (n:Nat):List Int:=(List.range n).map fun (i:Nat)=>(i:Int)
theorem at7 (n:Nat):(rng n).length=n:=by unfold rng; rw [aQ3,aZ5]
theorem at8 {n i:Nat} (h:i < n):(rng n)[i]? = some (i:Int):=by unfold rng; rw [aR6,List.getElem?_range h]; rfl
theorem at9 {n:Nat}{x:Int}:x ∈ rng n ↔ 0<=x/\x < (n:Int):=by
 unfold rng
 rw [aX2]
 constructor
 ·rintro ⟨i,hi,rfl⟩
  have:=bc1.mp hi
  omega
 ·intro h
  exact⟨x.toNat,bc1.mpr (by omega),by omega⟩
theorem uW {α:Type}{l:List α}{p:α->Bool}{i:Nat}{x:α} (h:l[i]? = some x):(l.take (i+1)).filter p=(l.take i).filter p ++ (if p x=true then [x] else []):=by
 rw [aV9,h,List.filter_append]
 congr 1
 cases e:p x <;> simp [e]
theorem gK (a b:List Int):intz (a ++ b)=intz a ++ intz b:=aS9
theorem c9 (a:List Int):(intz a).length=a.length:=aQ3 _
def bG (ws:List Int) (ls:List (Int × Int)):PV:=.tup [.tup (intz ws),.tup (ls.map fun l=>.tup [.int l.1,.int l.2])]
structure Wb (ws:List Int) (ls:List (Int × Int)):Prop where
 few:ws.length<=40
 most:ls.length<=1700
 links:∀ l ∈ ls,(0<=l.1/\l.1 < ws.length)/\0<=l.2/\l.2 < ws.length
def bX (x:PV) (ns:List Int):Prop:=x = .tup (intz ns) ∨ x = .lst (intz ns)
theorem bX.seq {x:PV}{ns:List Int} (h:bX x ns):iF x=some (intz ns):=by rcases h with rfl | rfl <;> rfl
theorem bX.seqT {x:PV}{ns:List Int} (h:bX x ns):seqT x=some (intz ns):=by rcases h with rfl | rfl <;> rfl
theorem nO:∀ (ls:List (Int × Int)),flats (ls.map fun l=>PV.tup [.int l.1,.int l.2])=true
 | []=>rfl
 | l :: r=>by
  show (flat (.tup [.int l.1,.int l.2]) && flats (r.map fun l=>PV.tup [.int l.1,.int l.2]))=true
  rw [nO r]; rfl
theorem au0 (ws:List Int) (ls:List (Int × Int)):flat (bG ws ls)=true:=by
 show flats [.tup (intz ws),.tup (ls.map fun l=>PV.tup [.int l.1,.int l.2])]=true
 show (flat (.tup (intz ws)) && (flat (.tup (ls.map fun l=>PV.tup [.int l.1,.int l.2])) && true))=true
 show (flats (intz ws) && (flats (ls.map fun l=>PV.tup [.int l.1,.int l.2]) && true))=true
 rw [cN,nO]; rfl
theorem uX (ns:List Int):flat (.tup (intz ns))=true:=cN ns
def gL:bD:=fun xs Q=>∃ ws ls,xs = [bG ws ls]/\Q (.int ws.length)
def E6:aN:=(aY (aE dY (a6 (bI (a5 0) (qC (.int 0))) a9)))
abbrev dE (t:aN) (N:List Str) (p:bD):Prop:=∀ xs Q,p xs Q->t { nx:=fun _=>Q .non,rt:=Q } (eC N xs)
theorem au1:dE E6 ["web"] gL:=by
 rintro xs Q ⟨ws,ls,rfl,q⟩
 refine⟨_,rfl,_,_,_,rfl,rfl,rfl,_,_,rfl,rfl,trivial,?_⟩
 rw [c9]; exact q
def uY:bD:=fun xs Q=>∃ x ns,xs = [x]/\bX x ns/\ns.length<=1000/\Q (.bl (jP ns))
def inB (n:Nat) (x:Int):Bool:=decide (0<=x) && decide (x < (n:Int))
def qI:bD:=fun xs Q=>∃ ws ls n,xs = [bG ws ls,.int n]/\Q (.bl (inB ws.length n))
def E7:aN:=(aY (mZ (pV (a5 1) (qC (.int 0))) (iM (a5 1) (aE gL (a6 (a5 0) a9)))))
theorem au2:dE E7 ["web","number"] qI:=by
 rintro xs Q ⟨ws,ls,n,rfl,q⟩
 refine⟨_,rfl,_,_,rfl,rfl,_,rfl,?_⟩
 unfold inB at q
 by_cases h:(0:Int)<=n
 ·rw [aR9 h] at q ⊢
  refine b4 ⟨_,rfl,_,rfl,ws,ls,rfl,_,_,rfl,rfl,trivial,?_⟩
  simpa using q
 ·rw [aR4 h] at q ⊢
  exact aP ⟨trivial,by simpa using q⟩
def cV (n:Nat) (ns:List Int):Bool:=jP ns && (ns.map (inB n)).all id
def qJ:bD:=fun xs Q=>∃ ws ls x ns,xs = [bG ws ls,x]/\bX x ns/\ns.length<=1000/\Q (.bl (cV ws.length ns))
def E8:aN:=(aY (mZ (aE uY (a6 (a5 1) a9)) (aE u8 (a6 (cH (cD (a5 1)) [none,some 0] (bA 0) dA (aE qI (a6 (a5 1) (a6 (a5 0) a9)))) a9))))
theorem qK {x:PV}{ns:List Int} (h:bX x ns):(Slot.sh (flat x) x).tag = .rd->flat x=true:=by
 cases flat x <;> intro z <;> cases z
theorem au3:dE E8 ["web","numbers"] qJ:=by
 rintro xs Q ⟨ws,ls,x,ns,rfl,hx,hl,q⟩
 refine⟨_,rfl,x,ns,rfl,hx,hl,_,rfl,?_⟩
 unfold cV at q
 cases h:jP ns with
 | false=>rw [h] at q; exact aP ⟨trivial,q⟩
 | true=>
  rw [h] at q
  refine b4 ⟨_,rfl,_,hx.seq,qK hx,by rw [c9]; omega,fun i acc=>acc=(((ns.take i).map (inB ws.length)).map PV.bl),rfl,?_,?_⟩
  ·rintro i y acc hy rfl
   obtain ⟨n,rfl,hn⟩:=jQ hy
   have tk:((ns.take (i+1)).map (inB ws.length)).map PV.bl=((ns.take i).map (inB ws.length)).map PV.bl ++ [PV.bl (inB ws.length n)]:=by rw [nM hn,aS9]; rfl
   exact⟨_,rfl,_,rfl,ws,ls,n,rfl,trivial,tk.symm⟩
  ·rintro acc rfl
   rw [c9,aT6]
   exact⟨_,rfl,trivial,by simpa using q⟩
theorem bX.noscr {x:PV}{ns:List Int} (h:bX x ns):∀ ms,([x]:List PV) ≠ [.scr ms]:=by
 rcases h with rfl | rfl <;> intro ms z <;> cases z
structure DS (ps:List (aC × PV)) (S:List Int):Prop where
 has:∀ i:Int,(b7 ps (Sum.inl i:aC)).isSome=decide (i ∈ S)
 len:ps.length<=S.length
 fl:flats (ps.map (·.2))=true
theorem DS.nil:DS [] []:=⟨fun i=>rfl,aQ6 _,rfl⟩
section
variable {κ : Type} [DecidableEq κ]
theorem au4 {k:κ}:b7 ([]:List (κ × PV)) k=none:=rfl
theorem gM {p:κ × PV}{r:List (κ × PV)}{k:κ} (e:p.1=k):b7 (p :: r) k=some p.2:=by simp [b7,aY7,e]
theorem gN {p:κ × PV}{r:List (κ × PV)}{k:κ} (e : ¬ p.1=k):b7 (p :: r) k=b7 r k:=by simp [b7,aY7,e]
theorem uZ (k:κ):∀ kvs:List (κ × PV),(kvs.any fun kv=>decide (kv.1=k))=(b7 kvs k).isSome
 | []=>rfl
 | p :: r=>by
  rw [aZ7]
  by_cases e:p.1=k
  ·simp only [gM e,aR9 e,Bool.true_or,Option.isSome_some]
  ·rw [gN e,aR4 e,Bool.false_or]; exact uZ k r
theorem E9 (k j:κ) (y:PV):∀ kvs:List (κ × PV),b7 (kvs.map fun kv=>if kv.1=k then (kv.1,y) else kv) j=(b7 kvs j).map fun x=>if j=k then y else x
 | []=>rfl
 | p :: r=>by
  have ih:=E9 k j y r
  rw [aU8]
  by_cases h:p.1=k
  ·rw [if_pos h]
   by_cases e:p.1=j
   ·rw [gM (p:=(p.1,y)) e,gM e,Option.map_some,if_pos (e.symm.trans h)]
   ·rw [gN (p:=(p.1,y)) e,gN e,ih]
  ·rw [if_neg h]
   by_cases e:p.1=j
   ·rw [gM (p:=p) e,gM e,Option.map_some,if_neg (fun z=>h (e.trans z))]
   ·rw [gN (p:=p) e,gN e,ih]
theorem F0 (k j:κ) (y:PV):∀ kvs:List (κ × PV),b7 kvs k=none->b7 (kvs ++ [(k,y)]) j=if j=k then some y else b7 kvs j
 | [],_=>by
  by_cases e:k=j
  ·rw [if_pos e.symm]; exact gM (p:=(k,y)) e
  ·rw [if_neg (fun z=>e z.symm)]; exact gN (p:=(k,y)) e
 | p :: r,hn=>by
  rw [List.cons_append]
  have hk : ¬ p.1=k:=fun z=>by rw [gM z] at hn; cases hn
  rw [gN hk] at hn
  have ih:=F0 k j y r hn
  by_cases e:p.1=j
  ·rw [gM e,gM e,if_neg (fun z=>hk (e.trans z))]
  ·rw [gN e,gN e,ih]
theorem F3 (kvs:List (κ × PV)) (k j:κ) (y:PV):b7 (cL kvs k y) j=if j=k then some y else b7 kvs j:=by
 unfold cL
 by_cases a:(kvs.any fun kv=>decide (kv.1=k))=true
 ·rw [if_pos a,E9]
  rw [uZ] at a
  by_cases e:j=k
  ·obtain ⟨x,hx⟩:=Option.isSome_iff_exists.mp a
   rw [if_pos e,e,hx,Option.map_some,if_pos rfl]
  ·rw [if_neg e]
   cases b7 kvs j with
   | none=>rfl
   | some x=>rw [Option.map_some,if_neg e]
 ·rw [if_neg a]
  refine F0 k j y kvs ?_
  rw [uZ] at a
  cases q:b7 kvs k with
  | none=>rfl
  | some x=>rw [q] at a; exact (a rfl).elim
theorem v1 (kvs:List (κ × PV)) (k:κ) (v:PV):(cL kvs k v).length<=kvs.length+1:=by
 unfold cL
 split
 ·rw [aQ3]; omega
 ·rw [aQ8,aU1,List.length_nil]; omega
end
theorem F4:∀ (xs:List PV),flats xs=true ↔ ∀ x ∈ xs,flat x=true
 | []=>by simp [flats]
 | x :: r=>by
  unfold flats
  rw [aW5,F4 r]; simp
theorem au5 {κ:Type} [DecidableEq κ] {ps:List (κ × PV)}{k:κ}{v:PV}{p:κ × PV} (h:p ∈ cL ps k v):p.2=v ∨ p ∈ ps:=by
 unfold cL at h
 split at h
 ·obtain ⟨q,hq,e⟩:=aX2.mp h
  split at e
  ·subst e; exact .inl rfl
  ·subst e; exact .inr hq
 ·rcases aV6.mp h with h | h
  ·exact .inr h
  ·rw [aR8.mp h]; exact .inl rfl
theorem v3 {κ:Type} [DecidableEq κ] {ps:List (κ × PV)}{k:κ}{v:PV} (h:flats (ps.map (·.2))=true) (hv:flat v=true):flats ((cL ps k v).map (·.2))=true:=by
 rw [F4] at h ⊢
 intro x hx
 obtain ⟨p,hp,rfl⟩:=aX2.mp hx
 rcases au5 hp with e | e
 ·rw [e]; exact hv
 ·exact h _ (aX2.mpr ⟨p,e,rfl⟩)
theorem DS.put {ps:List (aC × PV)}{S:List Int} (h:DS ps S) (x:Int) (v:PV) (hv:flat v=true):DS (cL ps (Sum.inl x:aC) v) (S ++ [x]):=by
 refine⟨fun i=>?_,?_,v3 h.fl hv⟩
 ·rw [F3]
  by_cases e:i=x
  ·subst e; rw [if_pos rfl]; simp
  ·rw [if_neg (fun z=>e (Sum.inl.inj z)),h.has]
   simp [e]
 ·have:=v1 ps (Sum.inl x:aC) v
  have:=h.len
  rw [aQ8,aT3]; omega
theorem DS.merge {S:List Int}:∀ {mp ps:List (aC × PV)}{T:List Int},DS ps S->DS mp T->DS (gH ps mp) (S ++ T):=by
 have key:∀ (mp:List (aC × PV)) {ps:List (aC × PV)} (i:Int),(b7 (gH ps mp) (Sum.inl i:aC)).isSome=((b7 ps (Sum.inl i:aC)).isSome || (b7 mp (Sum.inl i:aC)).isSome):=fun mp=>by
  induction mp with
  | nil=>intro ps i; show (b7 ps (Sum.inl i:aC)).isSome=_; rw [au4]; simp
  | cons p r ih=>
   intro ps i
   show (b7 (gH (cL ps p.1 p.2) r) (Sum.inl i:aC)).isSome=_
   rw [ih,F3]
   by_cases e:(Sum.inl i:aC)=p.1
   ·rw [if_pos e,gM e.symm]; simp
   ·rw [if_neg e,gN (Ne.symm e)]
 have keyl:∀ (mp:List (aC × PV)) {ps:List (aC × PV)},(gH ps mp).length<=ps.length+mp.length:=fun mp=>by
  induction mp with
  | nil=>intro ps; exact aQ6 _
  | cons p r ih=>
   intro ps
   have h1:=ih (ps:=cL ps p.1 p.2)
   have h2:=v1 ps p.1 p.2
   show (gH (cL ps p.1 p.2) r).length<=_
   rw [aU1]; omega
 have keyf:∀ (mp:List (aC × PV)) {ps:List (aC × PV)},flats (ps.map (·.2))=true->flats (mp.map (·.2))=true->flats ((gH ps mp).map (·.2))=true:=fun mp=>by
  induction mp with
  | nil=>intro ps h _; exact h
  | cons p r ih=>
   intro ps h g
   have g:(flat p.2 && flats (r.map (·.2)))=true:=g
   rw [aW5] at g
   exact ih (ps:=cL ps p.1 p.2) (v3 h g.1) g.2
 intro mp ps T h g
 refine⟨fun i=>?_,?_,keyf mp h.fl g.fl⟩
 ·rw [key,h.has,g.has,aY6]; simp
 ·have:=keyl mp (ps:=ps)
  have:=h.len
  have:=g.len
  rw [aQ8]; omega
def kK:bD:=fun xs Q=>∃ x ns,xs = [x]/\bX x ns/\ns.length<=1000/\∀ ps,DS ps ns->Q (.dK ps)
def F5:aN:=(aI (eV 1 (qC (.dK [])))
 (aI (cG (cD (a5 0)) (bA 2)
  (pT 1 (a5 2) (qC (.bl true))))
 (iE 1)))
theorem au6:dE F5 ["hearths","inside","hearth"] kK:=by
 rintro xs Q ⟨x,ns,rfl,hx,hl,q⟩
 refine⟨rfl,rfl,_,rfl,_,hx.seq,qK hx,fun i ρ=>∃ y ps,ρ = [some (.sh (flat x) x),some (.own (.dK ps)),y]/\DS ps (ns.take i),⟨none,[],rfl,DS.nil⟩,?_,?_⟩
 ·rintro i y ρ hy ⟨y0,ps,rfl,d⟩
  obtain ⟨n,rfl,hn⟩:=jQ hy
  have hlen:=d.len
  rw [aT0] at hlen
  refine⟨_,rfl,_,rfl,Sum.inl n,rfl,trivial,by omega,_,_,rfl,?_⟩
  rw [aV9,hn]
  exact d.put n _ rfl
 ·rintro ρ ⟨y,ps,rfl,d⟩
  rw [c9,aT6] at d
  exact⟨_,rfl,trivial,q ps d⟩
def lQ:bD:=fun xs Q=>∃ x ns ps S,xs = [x,.dK ps]/\bX x ns/\DS ps S/\ns.length<=10000/\Q (.int ((ns.filter fun x=>decide (x ∈ S)).length:Nat))
def F6:aN:=(aY (aE dY (a6 (cH (cD (a5 0)) [none,some 1] (bA 0) (aU (iK false (a5 0) (a5 1))) (a5 0)) a9)))
theorem au7:dE F6 ["hearths","inside"] lQ:=by
 rintro xs Q ⟨x,ns,ps,S,rfl,hx,d,hl,q⟩
 refine⟨_,rfl,_,hx.seq,qK hx,by rw [c9]; omega,fun i acc=>acc=intz ((ns.take i).filter fun x=>decide (x ∈ S)),rfl,?_,?_⟩
 ·rintro i y acc hy rfl
  obtain ⟨n,rfl,hn⟩:=jQ hy
  have tk:=uW (p:=fun x=>decide (x ∈ S)) hn
  refine⟨_,rfl,_,rfl,_,.inl ⟨ps,Sum.inl n,rfl,rfl,rfl⟩,_,rfl,?_⟩
  show if (b7 ps (Sum.inl n:aC)).isSome=true then _ else _
  rw [d.has n]
  by_cases h:n ∈ S
  ·rw [aR9 h] at tk ⊢
   refine b4 ⟨_,rfl,trivial,?_⟩
   rw [if_pos rfl] at tk
   show _=intz (List.filter _ (List.take (i+1) ns))
   rw [tk,gK]; rfl
  ·rw [aR4 h] at tk ⊢
   refine aP ?_
   rw [if_neg (by decide),aV7] at tk
   show _=intz (List.filter _ (List.take (i+1) ns))
   rw [tk]
 ·rintro acc rfl
  rw [c9,aT6]
  refine⟨_,_,rfl,rfl,trivial,?_⟩
  rw [c9]; exact q
def lR (n:Nat) (ls:List (Int × Int)):List PV:=(List.range n).map fun (k:Nat)=>PV.lst (intz (dD ls k))
def v4:bD:=fun xs Q=>∃ ws ls,xs = [bG ws ls]/\Wb ws ls/\Q (.lst (lR ws.length ls))
theorem au8 {n:Nat}{ls:List (Int × Int)}{h:Int} (h0:0<=h) (h1:h < (n:Int)):atI (lR n ls) h=some (.lst (intz (dD ls h))):=by
 refine lA h0 ?_
 unfold lR
 rw [aR6,List.getElem?_range (by omega)]
 show some (PV.lst (intz (dD ls ((h.toNat:Nat):Int))))=_
 rw [show ((h.toNat:Nat):Int)=h by omega]
def qL:bD:=fun xs Q=>∃ ws ls ps S h,xs = [bG ws ls,.lst (lR ws.length ls),.dK ps,.int h]/\Wb ws ls/\DS ps S/\0<=h/\h < (ws.length:Int)/\Q (.bl (kin ws ls S h))
def F7:aN:=(aY (mZ (iK true (a5 3) (a5 2)) (pV (aE lQ (a6 (bI (a5 1) (a5 3)) (a6 (a5 2) a9))) (bI (bI (a5 0) (qC (.int 0))) (a5 3)))))
theorem F8 {ws:List Int}{h:Int} (h0:0<=h) (h1:h < (ws.length:Int)):atI (intz ws) h=some (.int (ws.getD h.toNat 0)):=by
 refine lA h0 ?_
 have:h.toNat < ws.length:=by omega
 rw [aR6,aS2,aR7 this]; rfl
theorem au9:dE F7 ["web","around","burning","hearth"] qL:=by
 rintro xs Q ⟨ws,ls,ps,S,h,rfl,wb,d,h0,h1,q⟩
 refine⟨_,rfl,_,rfl,_,.inl ⟨ps,Sum.inl h,rfl,rfl,rfl⟩,_,rfl,?_⟩
 show if (!(b7 ps (Sum.inl h:aC)).isSome)=true then _ else _
 rw [d.has h]
 unfold kin at q
 by_cases hm:h ∈ S
 ·rw [aR9 hm] at q ⊢
  exact aP ⟨trivial,by simpa using q⟩
 ·rw [aR4 hm] at q ⊢
  have nl:=tQ ls h
  have:=wb.most
  refine b4 ⟨_,rfl,_,rfl,_,_,_,rfl,rfl,au8 h0 h1,_,rfl,_,dD ls h,ps,S,rfl,.inr rfl,d,by omega,_,rfl,_,_,_,rfl,rfl,rfl,_,rfl,_,_,_,rfl,rfl,F8 h0 h1,_,_,rfl,rfl,trivial,?_⟩
  simpa using q
def nP:bD:=fun xs Q=>∃ ws ls ps S,xs = [bG ws ls,.lst (lR ws.length ls),.dK ps]/\Wb ws ls/\DS ps S/\Q (.tup (intz (nextOf ws ls S)))
def F9:aN:=(aY (aE gI (a6 (cH (iI (aE gL (a6 (a5 0) a9))) [none,some 0,some 1,some 2] (bA 0) (aU (aE qL (a6 (a5 1) (a6 (a5 2) (a6 (a5 3) (a6 (a5 0) a9)))))) (a5 0)) a9)))
theorem av0:dE F9 ["web","around","burning"] nP:=by
 rintro xs Q ⟨ws,ls,ps,S,rfl,wb,d,q⟩
 have few:=wb.few
 refine⟨_,rfl,ws,ls,rfl,_,rfl,by omega,by omega,by rw [gG]; omega,fun i acc=>acc=intz (((rng ws.length).take i).filter (kin ws ls S)),rfl,?_,?_⟩
 ·rintro i y acc hy rfl
  obtain ⟨rfl,hi⟩:=jR hy
  have hi':i < ws.length:=by omega
  have tk:=uW (p:=kin ws ls S) (at8 hi')
  have e0:(0:Int)+(i:Int)=(i:Int):=by omega
  refine⟨_,rfl,_,rfl,_,rfl,_,rfl,ws,ls,ps,S,_,rfl,wb,d,by omega,by omega,_,rfl,?_⟩
  show if kin ws ls S ((0:Int)+(i:Int))=true then _ else _
  rw [e0]
  cases h:kin ws ls S (i:Int) with
  | true=>
   refine b4 ⟨_,rfl,trivial,?_⟩
   rw [h,if_pos rfl] at tk
   show _=intz (List.filter _ (List.take (i+1) _))
   rw [tk,gK]
   show _ ++ [PV.int _]=_
   rfl
  | false=>
   refine aP ?_
   rw [h,if_neg (by decide),aV7] at tk
   show _=intz (List.filter _ (List.take (i+1) _))
   rw [tk]
 ·rintro acc rfl
  rw [gG,List.take_of_length_le (by rw [at7]; omega)]
  exact⟨⟨_,_,rfl,rfl,cN _,trivial,q⟩,fun ns z=>by cases z⟩
def tups (rs:List (List Int)):List PV:=rs.map fun r=>PV.tup (intz r)
theorem av1 {rs:List (List Int)}{i:Nat}{x:PV} (h:(tups rs)[i]? = some x):∃ r,x = .tup (intz r)/\rs[i]? = some r:=by
 unfold tups at h
 rw [aR6] at h
 cases e:rs[i]? with
 | none=>rw [e] at h; cases h
 | some n=>rw [e] at h; exact⟨n,(aS7 h).symm,rfl⟩
theorem G0 (rs:List (List Int)):(tups rs).length=rs.length:=aQ3 _
theorem kL {n:Nat}{ns:List Int} (h:cV n ns=true):jP ns=true/\∀ x ∈ ns,0<=x/\x < (n:Int):=by
 unfold cV at h
 rw [aW5,List.all_eq_true] at h
 refine⟨h.1,fun x hx=>?_⟩
 have:=h.2 _ (aX2.mpr ⟨x,hx,rfl⟩)
 unfold inB at this
 simpa using this
theorem av2 {n:Nat}{ns:List Int} (h:cV n ns=true):ns.length<=n:=by
 obtain ⟨h1,h2⟩:=kL h
 have:=E3 (ws:=List.replicate n (0:Int)) (nN h1) (by rw [List.length_replicate]; exact h2)
 rw [List.length_replicate] at this
 omega
theorem G1 {ws:List Int}{ls:List (Int × Int)}{ns:List Int} (h:cV ws.length ns=true) (k:Nat):(bC ws ls ns k).length<=ws.length:=by
 have h1:=E2 ws ls ns k
 have h2:=E3 (nN (kL h).1) (kL h).2
 omega
end Core
namespace PP
open PySem L2
def qM:List PV->(PV->Prop)->Prop:=fun xs Q=>∃ ys:List (List Int),xs = [.lst (ys.map fun r=>PV.tup (intz r))]/\ys.length < 64/\(∀ y ∈ ys,y ≠ [])/\∀ zs:List (List Int),zs.Perm ys->zs.Pairwise (fun u v=>HT.eO v u=false)->Q (.lst (zs.map fun r=>PV.tup (intz r)))
def qN:List PV->(PV->Prop)->Prop:=fun xs Q=>∃ ps:List (List aC × PV),xs = [.dT ps]/\Q (.lst (ps.map fun p=>PV.tup (p.1.map kP)))
end PP
namespace Core
open PySem L2 PP
theorem lS (g:Tg) (n:Int):Nw g (.int n):=by cases g <;> first | exact trivial | rfl
def iQ (x:PV) (ns:List Int):Prop:=x = .scr ns ∨ x = .lst (intz ns)
theorem iQ.seq {x:PV}{ns:List Int} (h:iQ x ns):iF x=some (intz ns):=by rcases h with rfl | rfl <;> rfl
theorem iQ.len {x:PV}{ns:List Int} (h:iQ x ns):u7 x=some ns.length:=by
 rcases h with rfl | rfl
 ·rfl
 ·show some (intz ns).length=_
  rw [c9]
def eD:bD:=fun xs Q=>∃ x ns k,xs = [x,.int k]/\iQ x ns/\0<=k/\Q (.int (ns.getD k.toNat 0))
def G2:aN:=(aI (bR (aU (iM (a5 1) (aE dY (a6 (a5 0) a9)))) (aY (bI (a5 0) (a5 1))) bQ)
 (aY (qC (.int 0))))
theorem av3:dE G2 ["script","k"] eD:=by
 rintro xs Q ⟨x,ns,k,rfl,hx,h0,q⟩
 refine⟨_,rfl,_,rfl,_,_,rfl,hx.len,_,_,rfl,rfl,_,rfl,?_⟩
 by_cases h:k < (ns.length:Int)
 ·rw [aR9 h]
  exact b4 ⟨_,rfl,_,rfl,_,_,_,hx.seq,rfl,F8 h0 h,lS _ _,q⟩
 ·rw [aR4 h]
  rw [aS2,List.getElem?_eq_none (by omega)] at q
  exact aP ⟨trivial,q⟩
def cE (ls:List (Int × Int)):List PV:=ls.map fun l=>PV.tup [.int l.1,.int l.2]
theorem lT (ls:List (Int × Int)):(cE ls).length=ls.length:=aQ3 _
def jS (l m:Int × Int):Prop:=l.1 < m.1 ∨ (l.1=m.1/\l.2 < m.2)
structure hG (n:Int) (ls:List (Int × Int)) (a b:Int):Prop where
 inn:∀ l ∈ ls,0<=l.1/\l.1 < l.2/\l.2 < n
 ord:ls.Pairwise jS
 low:∀ l ∈ ls,jS l (a,b)
theorem hG.mono {n a b a' b':Int}{ls:List (Int × Int)} (h:hG n ls a b) (m:a < a' ∨ (a=a'/\b<=b')):hG n ls a' b':=
 ⟨h.inn,h.ord,fun l hl=>by have:=h.low l hl; unfold jS at *; dsimp only at *; omega⟩
theorem hG.add {n a b:Int}{ls:List (Int × Int)} (h:hG n ls a b) (h0:0<=a/\a < b/\b < n):hG n (ls ++ [(a,b)]) a (b+1):=by
 refine⟨fun l hl=>?_,?_,fun l hl=>?_⟩
 ·rcases aV6.mp hl with hl | hl
  ·exact h.inn l hl
  ·rw [aR8.mp hl]; exact h0
 ·exact List.pairwise_append.mpr ⟨h.ord,aV3 _ _,fun l hl m hm=>by rw [aR8.mp hm]; exact h.low l hl⟩
 ·rcases aV6.mp hl with hl | hl
  ·have:=h.low l hl; unfold jS at *; dsimp only at *; omega
  ·rw [aR8.mp hl]; unfold jS; dsimp only; omega
structure eF (n:Int) (ws:List Int) (ls:List (Int × Int)):Prop where
 many:(ws.length:Int)=n
 inn:∀ l ∈ ls,0<=l.1/\l.1 < l.2/\l.2 < n
 most:ls.length<=63
 ord:ls.Pairwise jS
 pos:∀ w ∈ ws,0<=w
def nQ:bD:=fun xs Q=>∃ c d n m:Int,xs = [.int c,.int d,.int n,.int m]/\0<=n/\n<=8/\0 < m/\m < 1000/\∀ ws ls,eF n ws ls->Q (bG ws ls)
def G3:aN:=(aI (eV 4 (bV a9))
 (aI (cG (iI (a5 2)) (bA 5)
  (aI (iG 4 (b5 (a5 0) (a5 3)))
  (aV 0 (bK (a5 0) (a5 3)))))
 (aI (eV 6 (bV a9))
 (aI (cG (iI (a5 2)) (bA 7)
  (cG (pN (fC (a5 7) (qC (.int 1))) (a5 2)) (bA 8)
   (aI (bR (aU (fD (b5 (a5 1) (qC (.int 2))) (qC (.int 1)))) (iG 6 (dU (a6 (a5 7) (a6 (a5 8) a9)))) bQ)
   (aV 1 (bK (a5 1) (qC (.int 2)))))))
 (aY (dU (a6 (aE gI (a6 (a5 4) a9)) (a6 (aE gI (a6 (a5 6) a9)) a9))))))))
abbrev si (n:Int):Option Slot:=some (.sh true (.int n))
theorem av4 : dE G3 ["wants_cell", "links_cell", "many", "most", "wants", "k", "links", "one", "other"] nQ := by
  rintro xs Q ⟨c, d, n, m, rfl, n0, n1, m0, m1, q⟩
  refine ⟨by decide, rfl, rfl, rfl, ?_⟩
  refine ⟨_, rfl, n, rfl, by omega, by omega, fun i ρ => ∃ (c' : Int) (y : Option Slot) (ws : List Int), ρ = [si c', si d, si n, si m, some (.own (.lst (intz ws))), y, none, none, none] /\ ws.length = i /\ ∀ w ∈ ws, 0 <= w, ⟨c, none, [], rfl, rfl, fun _ h => nomatch h⟩, ?_, ?_⟩
  · rintro i y ρ hy ⟨c', y0, ws, rfl, hl, hp⟩
    obtain ⟨rfl, hi⟩ := jR hy
    refine ⟨_, rfl, _, rfl, _, rfl, _, _, rfl, rfl, m0, trivial, by rw [c9]; omega, ?_⟩
    refine ⟨_, rfl, _, rfl, _, _, rfl, rfl, ⟨m0, by omega⟩, trivial, ?_⟩
    refine ⟨c' / m, si (0 + (i : Int)), ws ++ [c' % m], ?_, by rw [aQ8, hl]; rfl, fun w hw => ?_⟩
    · rw [gK]; rfl
    · rcases aV6.mp hw with hw | hw
      · exact hp w hw
      · rw [aR8.mp hw]; exact aT4 _ (by omega)
  rintro ρ ⟨c', y0, ws, rfl, hl, hp⟩
  rw [gG] at hl
  refine ⟨by decide, rfl, rfl, rfl, ?_⟩
  refine ⟨_, rfl, n, rfl, by omega, by omega, fun i ρ => ∃ (d' : Int) (y z : Option Slot) (ls : List (Int × Int)), ρ = [si c', si d', si n, si m, some (.own (.lst (intz ws))), y0, some (.own (.lst (cE ls))), y, z] /\ hG n ls i 0 /\ ls.length <= i * 7, ⟨d, none, none, [], rfl, ⟨(fun _ h => nomatch h), .nil, (fun _ h => nomatch h)⟩, aT7 _⟩, ?_, ?_⟩
  · rintro i y ρ hy ⟨d', y1, z, ls, rfl, hin, hll⟩
    obtain ⟨rfl, hi⟩ := jR hy
    refine ⟨_, rfl, _, _, rfl, rfl, _, rfl, _, _, rfl, rfl, by omega, fun j ρ => ∃ (d' : Int) (z : Option Slot) (ls : List (Int × Int)), ρ = [si c', si d', si n, si m, some (.own (.lst (intz ws))), y0, some (.own (.lst (cE ls))), si (0 + (i : Int)), z] /\ hG n ls i (i + 1 + j) /\ ls.length <= i * 7 + j, ⟨d', z, ls, rfl, hin.mono (.inr ⟨rfl, by omega⟩), by omega⟩, ?_, ?_⟩
    · rintro j y ρ hy ⟨d2, z2, ls2, rfl, hin2, hl2⟩
      obtain ⟨rfl, hj⟩ := jR hy
      refine ⟨_, rfl, _, _, rfl, rfl, (by show (0 : Int) < 2; decide), .inl ⟨_, _, rfl, rfl, _, rfl, ?_⟩⟩
      have tail : ∀ ls3 : List (Int × Int), hG n ls3 i (i + 1 + (j + 1 : Nat)) -> ls3.length <= i * 7 + (j + 1) -> (aV 1 (bK (a5 1) (qC (.int 2)))) { nx := fun ρ => ∃ (d' : Int) (z : Option Slot) (ls : List (Int × Int)), ρ = [si c', si d', si n, si m, some (.own (.lst (intz ws))), y0, some (.own (.lst (cE ls))), si (0 + (i : Int)), z] /\ hG n ls i (i + 1 + (j + 1 : Nat)) /\ ls.length <= i * 7 + (j + 1), rt := Q }
          [si c', si d2, si n, si m, some (.own (.lst (intz ws))), y0, some (.own (.lst (cE ls3))), si (0 + (i : Int)), si (0 + (i : Int) + 1 + (j : Int))] := fun ls3 h3 h4 =>
        ⟨_, rfl, _, _, rfl, rfl, ⟨by decide, by decide⟩, trivial, _, _, ls3, rfl, h3, h4⟩
      by_cases h : d2 % 2 = 1
      · show if decide (d2 % 2 = 1) = true then _ else _
        rw [aR9 h]
        refine b4 ⟨_, rfl, _, rfl, _, rfl, by show 2 <= 1000; decide, rfl, trivial, by rw [lT]; omega, ?_⟩
        have ad := hin2.add (by omega)
        have := tail (ls2 ++ [((i : Int), (i : Int) + 1 + (j : Int))]) (by have e : (i : Int) + 1 + ((j + 1 : Nat) : Int) = (i : Int) + 1 + (j : Int) + 1 := by omega
                                                                           rw [e]; exact ad) (by rw [aQ8, aT3]; omega)
        unfold cE at this
        rw [aS9] at this
        rw [show (0 : Int) + (i : Int) = (i : Int) by omega] at this ⊢
        exact this
      · show if decide (d2 % 2 = 1) = true then _ else _
        rw [aR4 h]
        exact aP (tail ls2 (hin2.mono (.inr ⟨rfl, by omega⟩)) (by omega))
    · rintro ρ ⟨d2, z2, ls2, rfl, hin2, hl2⟩
      rw [gG] at hl2
      exact ⟨d2, _, z2, ls2, rfl, hin2.mono (.inl (by omega)), by omega⟩
  rintro ρ ⟨d', y1, z, ls, rfl, hin, hll⟩
  rw [gG] at hll
  refine ⟨_, rfl, ⟨_, _, rfl, rfl, cN _, _, rfl, ⟨_, _, rfl, rfl, nO _, by show 2 <= 1000; decide, ?_, trivial, q ws ls ⟨by omega, hin.inn, by omega, hin.ord, hp⟩⟩, fun ns z => by cases z⟩, fun ns z => by cases z⟩
  show (flat (.tup (intz ws)) && (flat (.tup (cE ls)) && true)) = true
  rw [uX]
  show (true && (flats (cE ls) && true)) = true
  rw [show flats (cE ls) = true from nO ls]; rfl
theorem bX.len {x:PV}{ns:List Int} (h:bX x ns):u7 x=some ns.length:=by
 rcases h with rfl | rfl <;> (show some (intz ns).length=_; rw [c9])
end Core
namespace PP
open PySem L2 PyProof.Rows
section
variable {X : Cx} {a b e : Expr} {ta tb te : aG} {tr : cO} {pos p2 p3 pos2 : Pos}
theorem av5:dW X qN (fun xs H Q=>∃ a kvs,xs = [.ref a]/\H a=some (.dT kvs)/\∀ l ys,H l=none->Paired (p6 H) ys (kvs.map (·.1))->Q (.ref l) (upd H l (.lst ys))):=by
 rintro H vs xs Q Q' r ⟨ps,rfl,q⟩ k
 obtain ⟨v,rfl,r1⟩:=r.one
 cases r1 with
 | @dT a kvs _ m h e r2=>
  refine⟨a,kvs,rfl,h,fun l ys hl pr=>k _ _ _ (b6 hl _) (.lst hl aZ ?_) q⟩
  have kv:∀ (k:List aC),Reps X.K (fun a=>H a=none) H (k.map kV) (k.map kP):=fun k=>by
   induction k with
   | nil=>exact .nil
   | cons a r ih=>exact .cons (by cases a <;> constructor) ih
  have go:∀ {ys:List V}{ks:List (List aC)},Paired (p6 H) ys ks->Reps X.K (fun a=>H a=none) H ys (ks.map fun k=>PV.tup (k.map kP)):=fun {ys ks} pr=>by
   induction pr with
   | nil=>exact .nil
   | cons h t ih=>
    obtain ⟨q,rfl,hq⟩:=h
    exact .cons (.tup hq (kv _)) ih
  have e2:(ps.map fun p=>PV.tup (p.1.map kP))=(kvs.map (·.1)).map fun k=>PV.tup (k.map kP):=by rw [e,ba1]; rfl
  rw [e2]
  exact (go pr).same (b6 hl _) fun _ z=>z
theorem av6 (B:Bt X.mg) (hc:X.calm=true) (ha:QA X [e] tr) (hg:Gl X "list":=by rfl) (he:starEach [e] X.env=(false,eval e X.env) :: starEach [] X.env:=by rfl) (hpl:(backTo pos (starEach [] X.env)).any (·.1)=false:=by rfl):QE X (.Call (.Name "list" p2) [e] [] pos) (aE qN tr):=
 qE (ai3 hc) av5 hg B.list PyProof.Rows.boot_list ha (he:=he) (hpl:=hpl)
def v7:V->Int
 | .int i=>i
 | _=>0
def kM (H:Hp):V->List Int
 | .ref a=>match H a with
  | some (.tup us)=>us.map v7
  | _=>[]
 | _=>[]
theorem av7 {H:Hp}{a:Addr}{ns:List Int} (h:H a=some (.tup (ns.map V.int))):kM H (.ref a)=ns:=by
 show (match H a with | some (.tup us)=>us.map v7 | _=>[])=ns
 rw [h]
 show (ns.map V.int).map v7=ns
 rw [ba1]
 exact List.map_id _
theorem G4 {K:PySem.W.Frag}{M:Addr->Prop}{H:Hp}:∀ {us:List V}{ys:List (List Int)},Reps K M H us (ys.map fun r=>PV.tup (intz r))->us.map (kM H)=ys/\∀ u ∈ us,∃ b,u = .ref b/\H b=some (.tup ((kM H u).map V.int))
 | _,[],.nil=>⟨rfl,fun u h=>nomatch h⟩
 | _,y :: ys,.cons r t=>by
  obtain ⟨a,us,rfl,h,r1⟩:=r.sqT
  obtain rfl:=r1.ofInts
  obtain ⟨h1,h2⟩:=G4 t
  have hk:=av7 h
  refine⟨by rw [aU8,h1,hk],fun u hu=>?_⟩
  rcases aQ2.mp hu with rfl | hu
  ·exact⟨a,rfl,by rw [hk]; exact h⟩
  ·exact h2 u hu
theorem G5 {K:PySem.W.Frag}{M:Addr->Prop}{H:Hp}:∀ {us:List V},(∀ u ∈ us,∃ b,u = .ref b/\H b=some (.tup ((kM H u).map V.int)))->Reps K M H us ((us.map (kM H)).map fun r=>PV.tup (intz r))
 | [],_=>.nil
 | u :: us,h=>by
  obtain ⟨b,rfl,hb⟩:=h u aR2
  exact .cons (.tup hb (Reps.intz _)) (G5 fun v hv=>h v (aR1 _ hv))
theorem av8:dW X qM (zB X.K):=by
 rintro H vs xs Q Q' r ⟨ys,rfl,hl,hne,q⟩ k
 obtain ⟨v,rfl,r1⟩:=r.one
 obtain ⟨a,us,rfl,_,h,r2⟩:=r1.sqL
 obtain ⟨h1,h2⟩:=G4 r2
 have lr:=r2.length
 rw [aQ3] at lr
 refine⟨a,us,kM H,rfl,aH.of h,by omega,fun y hy=>?_,fun l zs hl' pm so=>?_⟩
 ·obtain ⟨b,rfl,hb⟩:=h2 y hy
  refine⟨b,rfl,aF.of hb,hne _ ?_⟩
  rw [<- h1]; exact aX2.mpr ⟨_,hy,rfl⟩
 ·have hz:∀ u ∈ zs,∃ b,u = .ref b/\H b=some (.tup ((kM H u).map V.int)):=fun u hu=>h2 u (pm.mem_iff.mp hu)
  refine k _ _ _ (b6 hl' _) (.lst hl' aZ ((G5 hz).same (b6 hl' _) fun _ z=>z)) (q _ ?_ ?_)
  ·rw [<- h1]; exact pm.map _
  ·rw [bb7]; exact so
theorem av9 (B:Bt X.mg) (ha:QA X [e] tr) (hg:Gl X "sorted":=by rfl) (he:starEach [e] X.env=(false,eval e X.env) :: starEach [] X.env:=by rfl) (hpl:(backTo pos (starEach [] X.env)).any (·.1)=false:=by rfl):QE X (.Call (.Name "sorted" p2) [e] [] pos) (aE qM tr):=
 iP ah8 av8 hg B.sorted PyProof.Rows.boot_sorted ha (he:=he) (hpl:=hpl)
end
def G6 (K:PySem.W.Frag):Sp:=fun vs H Q _=>∃ (a:Addr) (ns:List Int),vs = [.ref a]/\(aF K H a (ns.map V.int) ∨ aH K H a (ns.map V.int))/\ns.length<=1000/\∀ H',aB H H'->Q (.bl (Core.jP ns)) H'
def G7:Sp:=fun vs H Q _=>∃ v ws ls,vs = [v]/\tP H v ws ls/\ws.length<=1000/\ls.length<=2000/\(∀ l ∈ ls,(0<=l.1/\l.1 < ws.length)/\0<=l.2/\l.2 < ws.length)/\
 ∀ (r:Addr) (bs:List Addr) (H':Hp),bs.length=ws.length->iB H H' r bs (fun k=>dD ls k)->Q (.ref r) H'
section
variable {P : Program} {w : World} {K : PySem.W.Frag} {mg : Str → Option Value} {base : Heap} {f : Addr} {fd : FuncData} {k : Nat}
theorem aw0 (F:bJ P w K mg base cU k f fd ["things"] (G6 K)) (b:gB K fd ["things"] []) (kp:PySem.W.keepIn K (.ref f)=true) (m:mg "rises" = some (.ref f)):Df P w K mg base k "rises" ["things"] Core.uY:=by
 refine⟨f,fd,F.imp fun vs H Q E h=>?_,b,kp,m⟩
 obtain ⟨xs,Qp,r,⟨x,ns,rfl,hx,hl,q⟩,k⟩:=h
 obtain ⟨v,rfl,r1⟩:=r.one
 rcases hx with rfl | rfl
 ·obtain ⟨a,us,rfl,h,r2⟩:=r1.sqT
  obtain rfl:=r2.ofInts
  exact⟨a,ns,rfl,.inl (aF.of h),hl,fun H' s=>k _ H' _ s (.bl _) q⟩
 ·obtain ⟨a,us,rfl,_,h,r2⟩:=r1.sqL
  obtain rfl:=r2.ofInts
  exact⟨a,ns,rfl,.inr (aH.of h),hl,fun H' s=>k _ H' _ s (.bl _) q⟩
theorem p9 {M:Addr->Prop}{H:Hp}:∀ {us:List V}{ls:List (Int × Int)},Reps K M H us (ls.map fun l=>PV.tup [.int l.1,.int l.2])->cZ H us ls
 | _,[],.nil=>.nil
 | _,l :: ls,.cons r t=>by
  obtain ⟨a,us,rfl,h,r1⟩:=r.sqT
  obtain ⟨u1,u2,rfl,q1,q2⟩:=r1.two
  cases q1; cases q2
  exact .cons ⟨a,rfl,h⟩ (p9 t)
theorem G8 {M:Addr->Prop}{H:Hp}{v:V}{ws:List Int}{ls:List (Int × Int)} (r:aL K M H v (Core.bG ws ls)):tP H v ws ls:=by
 obtain ⟨a,us,rfl,h,r1⟩:=aL.sqT r
 obtain ⟨u1,u2,rfl,q1,q2⟩:=r1.two
 obtain ⟨p,up,rfl,hp,rp⟩:=q1.sqT
 obtain ⟨q,uq,rfl,hq,rq⟩:=q2.sqT
 obtain rfl:=rp.ofInts
 exact⟨a,p,q,uq,rfl,h,hp,hq,p9 rq⟩
theorem G9 {M:Addr->Prop}{H:Hp}:∀ {bs:List Addr}{ls:List (Int × Int)} (off:Nat),(∀ b ∈ bs,M b)->(∀ (k:Nat) b,bs[k]? = some b->H b=some (.lst ((dD ls ((off+k:Nat):Int)).map V.int)))->Reps K M H (bs.map V.ref) ((List.range' off bs.length).map fun (k:Nat)=>PV.lst (intz (dD ls k)))
 | [],_,_,_,_=>.nil
 | b :: bs,ls,off,hm,h=>by
  refine .cons (.lst (hm b aR2) (h 0 b rfl) (Reps.intz _)) (G9 (off+1) (fun c hc=>hm c (aR1 _ hc)) fun k c hk=>?_)
  have:=h (k+1) c (by rw [aX6]; exact hk)
  rw [show off+1+k=off+(k+1) by omega]; exact this
theorem aw1 (F:bJ P w K mg base cU k f fd ["web"] G7) (b:gB K fd ["web"] []) (kp:PySem.W.keepIn K (.ref f)=true) (m:mg "near_lists" = some (.ref f)):Df P w K mg base k "near_lists" ["web"] Core.v4:=by
 refine⟨f,fd,F.imp fun vs H Q E h=>?_,b,kp,m⟩
 obtain ⟨xs,Qp,r,⟨ws,ls,rfl,wb,q⟩,k⟩:=h
 obtain ⟨v,rfl,r1⟩:=r.one
 have:=wb.few
 have:=wb.most
 refine⟨v,ws,ls,rfl,G8 r1,by omega,by omega,wb.links,fun t bs H' hb R=>k _ H' _ R.same (.lst R.new R.row ?_) q⟩
 have:=G9 (K:=K) (M:=fun a=>H a=none) (H:=H') (bs:=bs) (ls:=ls) 0 (fun b hb=>(R.news b hb).1) fun k b hk=>by rw [Nat.zero_add]; exact R.rows k b hk
 rw [hb,<- List.range_eq_range'] at this
 exact this
end
end PP
namespace Core
open PySem L2 PP
theorem aw2 (n:Nat):(rng n).Nodup:=by
 unfold rng
 rw [List.nodup_iff_pairwise_ne,bb7]
 exact (List.nodup_range (n:=n)).imp fun h e=>h (by omega)
def two (l:Int × Int):List Int:=[l.1,l.2]
def nR (r:List Int):Int × Int:=(r.getD 0 0,r.getD 1 0)
theorem J0 (ls:List (Int × Int)):cE ls=(ls.map two).map fun r=>PV.tup (intz r):=by
 unfold cE
 rw [ba1]; rfl
theorem aw3 {zs:List (List Int)}{ls:List (Int × Int)} (h:zs.Perm (ls.map two)):∃ ls':List (Int × Int),zs=ls'.map two/\ls'.Perm ls:=by
 refine⟨zs.map nR,?_,?_⟩
 ·rw [ba1]
  have:∀ z ∈ zs,(two ∘ nR) z=z:=fun z hz=>by
   obtain ⟨l,_,rfl⟩:=aX2.mp (h.mem_iff.mp hz)
   rfl
  rw [List.map_congr_left this,List.map_id']
 ·have:=h.map nR
  rw [ba1] at this
  have e:ls.map (nR ∘ two)=ls:=by
   have:∀ l ∈ ls,(nR ∘ two) l=id l:=fun l _=>rfl
   rw [List.map_congr_left this,List.map_id]
  rw [e] at this
  exact this
theorem aw4 {ls:List (Int × Int)} (so:(ls.map two).Pairwise fun u v=>HT.eO v u=false) (nd:ls.Nodup):ls.Pairwise jS:=by
 rw [bb7] at so
 refine (List.pairwise_and_iff.mpr ⟨so,nd⟩).imp fun {a b} h=>?_
 obtain ⟨h1,h2⟩:=h
 unfold two at h1
 rw [HT.mL] at h1
 unfold jS
 by_cases e:b.1=a.1
 ·rw [if_pos e,HT.mL] at h1
  by_cases e2:b.2=a.2
  ·exact absurd (Prod.ext e.symm e2.symm) h2
  ·rw [if_neg e2] at h1
   have:=bb0 h1
   omega
 ·rw [if_neg e] at h1
  have:=bb0 h1
  omega
theorem eF.perm {n:Int}{ws:List Int}{ls ls':List (Int × Int)} (h1:(ws.length:Int)=n) (h2:∀ l ∈ ls,0<=l.1/\l.1 < l.2/\l.2 < n) (h3:ls.length<=63) (nd:ls.Nodup) (h4:∀ w ∈ ws,0<=w) (p:ls'.Perm ls) (so:(ls'.map two).Pairwise fun u v=>HT.eO v u=false):eF n ws ls':=
 ⟨h1,fun l hl=>h2 l (p.mem_iff.mp hl),by rw [p.length_eq]; exact h3,aw4 so (p.nodup_iff.mpr nd),h4⟩
theorem aw5 (ws:List Int) (ls:List (Int × Int)):flats [.tup (intz ws),.tup (cE ls)]=true:=au0 ws ls
def aw6:bD:=fun xs Q=>∃ x ns n wy,xs = [x,.int n,.int wy]/\iQ x ns/\ns.length<=63/\0<=n/\n<=40/\∀ ws ls,eF n ws ls->Q (bG ws ls)
def J1:aN:=(aI (eV 3 (bV a9))
 (aI (cG (iI (a5 1)) (bA 4)
  (aI (aV 5 (aE eD (a6 (a5 0) (a6 (a5 4) a9))))
  (iG 3 (bI (bV (a6 (b5 (bK (a5 5) (qC (.int 5))) (qC (.int 4))) (a6 (b5 (bK (a5 5) (qC (.int 5))) (qC (.int 3))) (a6 (b5 (bK (a5 5) (qC (.int 5))) (qC (.int 6))) (a6 (b5 (bK (a5 5) (qC (.int 5))) (qC (.int 61))) a9))))) (b5 (a5 2) (qC (.int 4)))))))
 (aI (eV 6 (qC (.dT [])))
 (aI (cG (cD (a5 0)) (bA 5)
  (bR (aU (nH (a5 1) (qC (.int 1)))) (aI (aV 7 (b5 (a5 5) (a5 1)))
   (aI (aV 8 (b5 (bK (b5 (A8 (b5 (a5 5) (qC (.int 1000000007))) (qC (.int 48271))) (qC (.int 2147483647))) (qC (.int 89))) (a5 1)))
   (bR (aU (nI (a5 7) (a5 8))) (pU 6 (dU (a6 (aE nE (a6 (a5 7) (a6 (a5 8) a9))) (a6 (aE pM (a6 (a5 7) (a6 (a5 8) a9))) a9))) (qC (.bl true))) bQ))) bQ))
 (aY (dU (a6 (aE gI (a6 (a5 3) a9)) (a6 (aE gI (a6 (aE qM (a6 (aE qN (a6 (a5 6) a9)) a9)) a9)) a9))))))))
def aw7:aN:=(aI (bR (pG (aU (fD (b5 (bK (a5 2) (qC (.int 4))) (qC (.int 2))) (qC (.int 1)))) (aU (iM (a5 1) (qC (.int 9))))) (aY (aE nQ (a6 (aE eD (a6 (a5 0) (a6 (qC (.int 0)) a9))) (a6 (aE eD (a6 (a5 0) (a6 (qC (.int 1)) a9))) (a6 (a5 1) (a6 (bI (bV (a6 (qC (.int 4)) (a6 (qC (.int 3)) (a6 (qC (.int 6)) (a6 (qC (.int 61)) a9))))) (b5 (a5 2) (qC (.int 4)))) a9)))))) bQ)
 J1)
theorem aw8 {a b c d:PV}{i:Int} (h0:0<=i) (h1:i < 4):∃ z,atI [a,b,c,d] i=some z/\(z=a ∨ z=b ∨ z=c ∨ z=d):=by
 have:i=0 ∨ i=1 ∨ i=2 ∨ i=3:=by omega
 rcases this with rfl | rfl | rfl | rfl
 ·exact⟨a,rfl,.inl rfl⟩
 ·exact⟨b,rfl,.inr (.inl rfl)⟩
 ·exact⟨c,rfl,.inr (.inr (.inl rfl))⟩
 ·exact⟨d,rfl,.inr (.inr (.inr rfl))⟩
theorem qO {a b c d:Int}{i:Int} (h0:0<=i) (h1:i < 4):∃ z:Int,atI [PV.int a,PV.int b,PV.int c,PV.int d] i=some (.int z)/\(z=a ∨ z=b ∨ z=c ∨ z=d):=by
 obtain ⟨z,h,e⟩:=aw8 (a:=PV.int a) (b:=PV.int b) (c:=PV.int c) (d:=PV.int d) h0 h1
 rcases e with rfl | rfl | rfl | rfl
 ·exact⟨a,h,.inl rfl⟩
 ·exact⟨b,h,.inr (.inl rfl)⟩
 ·exact⟨c,h,.inr (.inr (.inl rfl))⟩
 ·exact⟨d,h,.inr (.inr (.inr rfl))⟩
def kN (l:Int × Int):List aC:=[Sum.inl l.1,Sum.inl l.2]
structure DL (n:Int) (ps:List (List aC × PV)) (i:Nat):Prop where
 key:∀ p ∈ ps,∃ l:Int × Int,p.1=kN l/\0<=l.1/\l.1 < l.2/\l.2 < n
 len:ps.length<=i
 fl:flats (ps.map (·.2))=true
 nd:(ps.map (·.1)).Nodup
theorem aw9 {κ:Type} [DecidableEq κ] {ps:List (κ × PV)} (k:κ) (v:PV) (h:(ps.map (·.1)).Nodup):((cL ps k v).map (·.1)).Nodup:=by
 unfold cL
 split
 ·rw [ba1]
  have:((fun x:κ × PV=>x.1) ∘ fun kv:κ × PV=>if kv.1=k then (kv.1,v) else kv)=fun x=>x.1:=by
   funext x
   show (if x.1=k then (x.1,v) else x).1=x.1
   split <;> rfl
  rw [this]; exact h
 ·rename_i hn
  rw [aS9]
  refine ba5.mpr ⟨h,aV3 _ _,fun x hx y hy e=>hn ?_⟩
  obtain ⟨p,hp,rfl⟩:=aX2.mp hx
  rw [aR8.mp hy] at e
  exact List.any_eq_true.mpr ⟨p,hp,aR9 e⟩
theorem ax0 {κ:Type} [DecidableEq κ] {ps:List (κ × PV)}{k:κ}{v:PV}{p:κ × PV} (h:p ∈ cL ps k v):p.1=k ∨ ∃ q ∈ ps,q.1=p.1:=by
 unfold cL at h
 split at h
 ·obtain ⟨q,hq,e⟩:=aX2.mp h
  split at e
  ·subst e; exact .inr ⟨q,hq,rfl⟩
  ·subst e; exact .inr ⟨q,hq,rfl⟩
 ·rcases aV6.mp h with h | h
  ·exact .inr ⟨p,h,rfl⟩
  ·rw [aR8.mp h]; exact .inl rfl
theorem DL.put {n:Int}{ps:List (List aC × PV)}{i:Nat} (h:DL n ps i) (l:Int × Int) (hl:0<=l.1/\l.1 < l.2/\l.2 < n):DL n (cL ps (kN l) (.bl true)) (i+1):=by
 refine⟨fun p hp=>?_,?_,v3 h.fl rfl,aw9 _ _ h.nd⟩
 ·rcases ax0 hp with e | ⟨q,hq,e⟩
  ·exact⟨l,e,hl⟩
  ·obtain ⟨l',e',h'⟩:=h.key q hq
   exact⟨l',e ▸ e',h'⟩
 ·have:=v1 ps (kN l) (.bl true)
  have:=h.len
  omega
theorem DL.links {n:Int}:∀ {ps:List (List aC × PV)},(∀ p ∈ ps,∃ l:Int × Int,p.1=kN l/\0<=l.1/\l.1 < l.2/\l.2 < n)->∃ ls:List (Int × Int),(ps.map fun p=>PV.tup (p.1.map kP))=cE ls/\(∀ l ∈ ls,0<=l.1/\l.1 < l.2/\l.2 < n)/\ls.length=ps.length/\ps.map (·.1)=ls.map kN
 | [],_=>⟨[],rfl,(fun _ h=>nomatch h),rfl,rfl⟩
 | p :: ps,h=>by
  obtain ⟨l,e,hl⟩:=h p aR2
  obtain ⟨ls,h1,h2,h3,h4⟩:=DL.links (ps:=ps) fun q hq=>h q (aR1 _ hq)
  refine⟨l :: ls,?_,fun m hm=>?_,by rw [aU1,aU1,h3],by rw [aU8,aU8,h4,e]⟩
  ·rw [aU8,h1,e]; rfl
  ·rcases aQ2.mp hm with rfl | hm
   ·exact hl
   ·exact h2 m hm
theorem ax1 {x:PV}{ns:List Int} (h:iQ x ns):(Slot.sh (flat x) x).tag = .rd->flat x=true:=by
 cases flat x <;> intro z <;> cases z
theorem ax2 {x:PV}{ns:List Int}{n wy:Int}{Q:PV->Prop} (hx:iQ x ns) (hns:ns.length<=63) (n0:0<=n) (n1:n<=40) (q:∀ ws ls,eF n ws ls->Q (bG ws ls)):aw7 { nx:=fun _=>Q .non,rt:=Q } [some (.sh (flat x) x),si n,si wy,none,none,none,none,none,none]:=by
 have d4:(0:Int) < 4:=by decide
 have last:J1 { nx:=fun _=>Q .non,rt:=Q } [some (.sh (flat x) x),si n,si wy,none,none,none,none,none,none]:=by
  refine⟨by decide,rfl,rfl,rfl,?_⟩
  refine⟨_,rfl,n,rfl,by omega,by omega,fun i ρ=>∃ (y z:Option Slot) (ws:List Int),ρ = [some (.sh (flat x) x),si n,si wy,some (.own (.lst (intz ws))),y,z,none,none,none]/\ws.length=i/\∀ w ∈ ws,0<=w,⟨none,none,[],rfl,rfl,fun _ h=>nomatch h⟩,?_,?_⟩
  ·rintro i y ρ hy ⟨y0,z0,ws,rfl,hl,hp⟩
   obtain ⟨rfl,hi⟩:=jR hy
   refine⟨_,rfl,_,rfl,x,ns,_,rfl,hx,by omega,trivial,?_⟩
   generalize ns.getD ((0:Int)+(i:Int)).toNat 0=cell
   obtain ⟨z,hz,hzz⟩:=qO (a:=cell / 5 % 4) (b:=cell / 5 % 3) (c:=cell / 5 % 6) (d:=cell / 5 % 61) (i:=wy % 4) (aT4 _ (by decide)) (aW2 _ d4)
   refine⟨_,rfl,_,rfl,_,_,rfl,rfl,⟨by decide,by decide⟩,_,_,rfl,rfl,d4,_,rfl,_,_,rfl,rfl,⟨by decide,by decide⟩,_,_,rfl,rfl,(by show (0:Int) < 3; decide),_,rfl,_,_,rfl,rfl,⟨by decide,by decide⟩,_,_,rfl,rfl,(by show (0:Int) < 6; decide),_,rfl,_,_,rfl,rfl,⟨by decide,by decide⟩,_,_,rfl,rfl,(by show (0:Int) < 61; decide),by show 4<=1000; decide,rfl,_,rfl,_,_,rfl,rfl,d4,_,_,_,rfl,rfl,hz,lS _ _,by rw [c9]; omega,?_⟩
   refine⟨si (0+(i:Int)),si cell,ws ++ [z],?_,by rw [aQ8,hl]; rfl,fun w hw=>?_⟩
   ·rw [gK]; rfl
   ·rcases aV6.mp hw with hw | hw
    ·exact hp w hw
    ·rw [aR8.mp hw]
     rcases hzz with e | e | e | e <;> rw [e] <;> exact aT4 _ (by decide)
  rintro ρ ⟨y0,z0,ws,rfl,hl,hp⟩
  rw [gG] at hl
  refine⟨rfl,rfl,?_⟩
  refine⟨_,rfl,_,hx.seq,ax1 hx,fun i ρ=>∃ (y z u:Option Slot) (ps:List (List aC × PV)),ρ = [some (.sh (flat x) x),si n,si wy,some (.own (.lst (intz ws))),y0,y,some (.own (.dT ps)),z,u]/\DL n ps i,⟨z0,none,none,[],rfl,⟨(fun _ h=>nomatch h),aQ6 _,rfl,.nil⟩⟩,?_,?_⟩
  ·rintro i y ρ hy ⟨y1,z1,u1,ps,rfl,dl⟩
   obtain ⟨cell,rfl,hc⟩:=jQ hy
   have hi:i < ns.length:=(aQ7.mp hc).1
   generalize gF _ _=gg
   have dl1:DL n ps (i+1):=⟨dl.key,Nat.le_succ_of_le dl.len,dl.fl,dl.nd⟩
   refine⟨_,rfl,_,_,rfl,rfl,_,rfl,?_⟩
   by_cases h1:(1:Int) < n
   ·dsimp only
    rw [aR9 h1]
    have np:(0:Int) < n:=by omega
    refine b4 ⟨_,rfl,_,rfl,_,_,rfl,rfl,np,trivial,?_⟩
    refine⟨_,rfl,_,_,rfl,rfl,(by show (0:Int) < 1000000007; decide),_,_,rfl,rfl,.inr ⟨by decide,by decide⟩,_,_,rfl,rfl,(by show (0:Int) < 2147483647; decide),_,_,rfl,rfl,⟨by decide,by decide⟩,_,rfl,_,_,rfl,rfl,np,trivial,?_⟩
    dsimp only
    generalize hone:cell % n=one
    generalize hoth:cell % 1000000007 * 48271 % 2147483647 / 89 % n=oth
    have o1:0<=one/\one < n:=by rw [<- hone]; exact⟨aT4 _ (by omega),aW2 _ np⟩
    have o2:0<=oth/\oth < n:=by rw [<- hoth]; exact⟨aT4 _ (by omega),aW2 _ np⟩
    refine⟨_,rfl,_,rfl,.inl ⟨_,_,rfl,rfl,_,rfl,?_⟩⟩
    by_cases h2:one=oth
    ·show if (!decide (one=oth))=true then _ else _
     rw [aR9 h2]
     exact aP ⟨some (.sh (gg || true) (.int cell)),si one,si oth,ps,rfl,dl1⟩
    ·show if (!decide (one=oth))=true then _ else _
     rw [aR4 h2]
     refine b4 ⟨_,rfl,_,rfl,_,rfl,_,_,rfl,_,rfl,_,rfl,_,_,rfl,by show 2<=1000; decide,rfl,kN (if oth < one then oth else one,if oth > one then oth else one),rfl,trivial,by have:=dl.len; omega,?_⟩
     refine⟨some (.sh (gg || true) (.int cell)),si one,si oth,_,rfl,dl.put _ ?_⟩
     dsimp only
     split <;> split <;> omega
   ·dsimp only
    rw [aR4 h1]
    exact aP ⟨some (.sh (gg || true) (.int cell)),z1,u1,ps,rfl,dl1⟩
  rintro ρ ⟨y1,z1,u1,ps,rfl,dl⟩
  rw [c9] at dl
  obtain ⟨ls,e1,e2,e3,e4⟩:=DL.links dl.key
  have lnd:ls.Nodup:=by
   have:=dl.nd
   rw [e4] at this
   exact (bb7.mp this).imp fun h e=>h (congrArg kN e)
  have hlen:=dl.len
  refine⟨_,rfl,⟨_,_,rfl,rfl,cN _,_,rfl,ps,rfl,ls.map two,?_,by rw [aQ3]; omega,?_,fun zs pz so=>?_⟩,fun ns z=>by cases z⟩
  ·show [PV.lst (ps.map fun p=>PV.tup (p.1.map kP))]=_
   rw [e1,J0]
  ·intro y hy z
   obtain ⟨l,_,rfl⟩:=aX2.mp hy
   cases z
  obtain ⟨ls',rfl,pl⟩:=aw3 pz
  rw [<- J0]
  exact⟨⟨_,_,rfl,rfl,nO _,by show 2<=1000; decide,aw5 _ _,trivial,q ws ls' (eF.perm (by omega) e2 (by omega) lnd hp pl so)⟩,fun ns z=>by cases z⟩
 refine⟨_,rfl,_,_,rfl,rfl,⟨by decide,by decide⟩,_,_,rfl,rfl,(by show (0:Int) < 2; decide),.inl ⟨_,_,rfl,rfl,_,rfl,?_⟩⟩
 cases hc:(decide (wy / 4 % 2=1)) with
 | false=>exact aP (aP last)
 | true=>
  refine b4 ⟨_,rfl,_,_,rfl,rfl,_,rfl,?_⟩
  by_cases h:n < 9
  ·dsimp only
   rw [aR9 h]
   obtain ⟨z,hz,e⟩:=qO (a:=4) (b:=3) (c:=6) (d:=61) (i:=wy % 4) (aT4 _ (by decide)) (aW2 _ d4)
   refine b4 ⟨_,rfl,x,ns,0,rfl,hx,by decide,_,rfl,x,ns,1,rfl,hx,by decide,_,rfl,by show 4<=1000; decide,rfl,_,rfl,_,_,rfl,rfl,d4,_,_,_,rfl,rfl,hz,_,_,n,z,rfl,n0,by omega,by omega,by omega,fun ws ls w=>⟨trivial,q ws ls w⟩⟩
  ·dsimp only
   rw [aR4 h]; exact aP last
def ax3:bD:=fun xs Q=>∃ ns k,xs = [.scr ns,.int k]/\ns.length<=63/\0<=k/\∀ n ws ls,0<=n->n<=40->eF n ws ls->Q (bG ws ls)
theorem J2 (ns:List Int) {k:Int} (h:0<=k):eY (intz ns) (some k) none=intz (ns.drop k.toNat):=by
 unfold eY
 have e1:HT.aS (intz ns).length 0 (some k)=min k.toNat (intz ns).length:=by
  have:=HT.xC (intz ns).length 0 k.toNat
  rw [show ((k.toNat:Nat):Int)=k by omega] at this
  exact this
 have e2:HT.aS (intz ns).length (intz ns).length none=(intz ns).length:=rfl
 rw [e1,e2,c9]
 rw [List.take_of_length_le (by rw [aT9,c9]; omega)]
 show _=List.map PV.int _
 rw [List.map_drop]
 by_cases hk:k.toNat<=ns.length
 ·rw [Nat.min_eq_left hk]
 ·rw [Nat.min_eq_right (by omega),List.drop_of_length_le (by rw [c9]; omega),List.drop_of_length_le (by rw [c9]; omega)]
def J3:bD:=fun xs Q=>∃ ns:List Int,xs = [.scr ns]/\ns.length<=63/\Q (.bl true)
theorem eF.wb {n:Int}{ws:List Int}{ls:List (Int × Int)} (h:eF n ws ls) (hn:n<=40):Wb ws ls:=
 ⟨by have:=h.many; omega,by have:=h.most; omega,fun l hl=>by have:=h.inn l hl; have:=h.many; omega⟩
end Core
namespace PP
open PySem L2 PyProof.Rows
theorem ax4 {P:Program}{w:World}{K:PySem.W.Frag}{mg:Str->Option Value}{base:Heap}{k:Nat}{x:Str}{ps N:List Str}{p:bD}{st:Stmt}{f:Addr}{fd:FuncData} (F:dF K x x st f fd) (S:FnScope N ps (aQ st))
  (len:∀ xs Q,p xs Q->xs.length=ps.length)
  (body:∀ (cdv:Value) (A:Around) (outer:List Env) (s:Shared) (H:Hp) (E:XK),bT k (A.deeper (envOfC x (aQ st) s.heap.objs.size f cdv))->
   ∃ t,dM (cT cU P w K mg base N x (aQ st) f cdv A outer s H E).nox (dI st) t/\∀ xs Q,p xs Q->t { nx:=fun _=>Q .non,rt:=Q } (eC N xs)):bJ P w K mg base cU (k+1) f fd ps (kG K p):=by
 refine F.ok S (fun vs H Q E h=>?_) (fun cdv A outer s H vs Q E hr h=>?_)
 ·obtain ⟨xs,Qp,r,q,_⟩:=h
  rw [r.length]; exact len xs Qp q
 ·obtain ⟨xs,Qp,r,q,k⟩:=h
  obtain ⟨t,ht,hq⟩:=body cdv A outer s H E hr
  refine⟨_,ht,fun _=>False,eC N xs,_,qF r,hq xs Qp q,?_,?_,?_,?_⟩
  ·exact fun W' σ' H' ρ' e px q=>k _ _ _ px.same .non q
  ·exact fun v H' x s r q=>k _ _ _ s r q
  ·exact fun W' σ' H' ρ' e px q=>q
  ·exact fun W' σ' H' ρ' e px q=>q
def qP (K:PySem.W.Frag):Sp:=fun vs H Q _=>∃ (a:Addr) (ns:List Int),vs = [.ref a]/\iC K H a ns/\ns.length<=63/\∀ H',Q (.bl true) H'
theorem ax5 {P:Program}{w:World}{K:PySem.W.Frag}{mg:Str->Option Value}{base:Heap}{k:Nat}{f:Addr}{fd:FuncData} (F:bJ P w K mg base cU k f fd ["script"] (kG K Core.J3)):bJ P w K mg base cU k f fd ["script"] (qP K):=
 F.imp fun vs H Q E h=>by
  obtain ⟨a,ns,rfl,hs,hl,q⟩:=h
  refine⟨[.scr ns],fun z=>z = .bl true,.cons (.scr hs) .nil,⟨ns,rfl,hl,rfl⟩,?_⟩
  rintro v H' x _ r rfl
  cases r
  exact q H'
theorem ax6 {K:PySem.W.Frag}{H:Hp}{a:Addr}{ns:List Int} (hO:oO H) (h:aH K H a (ns.map V.int)):iC K H a ns:=by
 rcases h with (h | ⟨o,h⟩) | h
 ·rcases hO a with e | ⟨o,xs,e⟩ <;> (rw [h] at e; cases e)
 ·exact .inl ⟨o,h⟩
 ·exact .inr h
end PP
namespace PyProof.Rows
open PySem
end PyProof.Rows
namespace PP
open PySem L2 PyProof.Rows
section
variable {X : Cx} {a b e : Expr} {ta tb te : aG} {tr : cO} {pos p2 : Pos}
def nS:PV->Tg->PV->Tg->PK->Prop:=fun x _ y _ Q=>∃ xs ys,x = .lst xs/\y = .lst ys/\flats xs=true/\flats ys=true/\xs.length+ys.length<=16000000/\Q (.lst (xs ++ ys)) .fr
abbrev fW (ta tb:aG):aG:=q2 nS ta tb
theorem ax7:dL X nS xQ:=by
 rintro W Hs H u v x y g g' Q Q' s n r1 r2 ⟨xs,ys,rfl,rfl,f1,f2,hl,q⟩ k
 obtain ⟨a,us,rfl,_,h1,q1⟩:=r1.sqL
 obtain ⟨b,ws,rfl,_,h2,q2⟩:=r2.sqL
 have l1:=q1.length
 have l2:=q2.length
 refine⟨a,b,us,ws,rfl,rfl,h1,h2,lim (by omega),fun p hp=>k _ _ _ .fr (b6 hp _) (.lst (s.free hp) aZ (((q1.flat f1).append (q2.flat f2)).same (b6 hp _) fun _ z=>z)) q⟩
theorem lU (ha:QE X a ta) (hb:QE X b tb):QE X (.BinOp a .Add b pos) (fW ta tb):=jJ ae1 ax7 ha hb
end
end PP
namespace L2
open PySem PySem.Spec PyProof.Rows
def v8 (K:PySem.W.Frag) (a:Addr):It:=
  ⟨fun i H=>∃ xs x,aH K H a xs/\xs[i]? = some x,
   fun i H v H'=>∃ T x,H T=none/\v = .ref T/\H'=upd H T (.tup [.int i,x])/\∀ xs,aH K H a xs->xs[i]? = some x,
   fun i H=>∃ xs,aH K H a xs/\xs.length<=i⟩
structure ax8 (e it a:Addr) (i:Nat) (h:Heap):Prop where
 ee:∃ old,IsEnum h e it i old
 s1:h.IsListIter it a i
theorem ax9 {P:Program}{w:World}{K:PySem.W.Frag}{elts:List Expr}{k:Nat}{pos:Pos} (a e it:Addr) (d:e ≠ it) :
  gA P w K (.Tuple elts k pos) (v8 K a) [e,it] e (ax8 e it a):=by
 refine⟨by simp,fun i h st c hc=>?_,fun i h h' st kp=>?_,?_,?_,fun A i s Q E st q=>?_⟩
 ·simp only [aQ2,aQ4,aS6] at hc
  obtain ⟨old,ee⟩:=st.ee
  obtain ⟨o1,f1,g1,d1⟩:=st.s1
  rcases hc with rfl | rfl
  ·exact⟨_,ee,fun v q=>by cases q⟩
  ·exact⟨_,f1,fun v q=>by rw [d1] at q; cases q⟩
 ·obtain ⟨old,ee⟩:=st.ee
  exact⟨⟨old,kp e (by simp) _ ee⟩,st.s1.at fun o z=>kp it (by simp) o z⟩
 ·intro X hP hw hK hc i pins s σ H E I hf st hg
  subst hP hw hK
  obtain ⟨xs,x,ha,hx⟩:=hg
  obtain ⟨us,ru,pu,lu⟩:=I.list ha
  obtain ⟨ux,eux,rux⟩:=ru.get hx
  obtain ⟨old,ee⟩:=st.ee
  refine wpAny_pyNext_enum_item ee st.s1 pu.isList (by simpa using eux) d fun h' eo it' pr sz kp=>⟨_,rfl,?_⟩
  refine wpAny_letOwnedTupleGo_enum (s:={ s with heap:=h',toks:=s.toks+1 }) eo fun g zz sb=>?_
  have hzl:e < s.heap.objs.size:=aR0 ee
  have up:∀ c o,c ≠ e->c ≠ it->s.heap.get? c=some o->g.get? c=some o:=fun c o c1 c2 z=>sb.extBut c o c1 (kp c o c1 c2 z)
  have hT:H s.heap.objs.size=none:=I.hok.fresh (aQ6 _)
  have prG:g.get? s.heap.objs.size=some { cls:=.type "tuple",data:=.seq #[.int i s.toks,ux] }:=sb.extBut _ _ (aX9 hzl) pr
  have fpn:∀ c u,H c=some u->c ∉ [e,it]:=fun c u z hm=>by rw [(hf c hm).1] at z; cases z
  have upH:∀ c o u,H c=some u->s.heap.get? c=some o->g.get? c=some o:=fun c o u q z=>by
   have:=fpn c u q
   simp only [aQ2,aQ4,aS6,not_or] at this
   exact up c o this.1 this.2 z
  have ns:∀ m,s.heap.Ns X.env.locals m->g.Ns X.env.locals m:=fun m hm=>by
   obtain ⟨o,es,ep,e1,e2⟩:=hm
   exact⟨o,es,ep,up _ o (Ne.symm (hf e (by simp)).2.1) (Ne.symm (hf it (by simp)).2.1) e1,e2⟩
  have I2:a7 X pins σ (upd H s.heap.objs.size (.tup [.int i,x])) { s with heap:=g,toks:=s.toks+1 }:=by
   refine I.step (g':=s.gens) (d':=s.drawn) (ch:=[e,it]) (fun c hc'=>?_) (fun c o _ _ hc' z _=>?_) (fun c o _ _ hc' z _=>⟨o.slots,?_⟩) (fun c o _ z n=>?_) (fun c o hc' z=>⟨o,?_⟩)
    (fun c zs z=>by rw [aJ (bS z hT)]; exact z) (fun c u zs z=>by rw [aJ (bS z hT)]; exact z) (fun c ps z=>⟨#[],by rw [aJ (bS z hT),z]; simp⟩) ns (fun c u z=>?_) I.bare
   ·exact⟨(hf c hc').2.2.2.1,(hf c hc').2.1,(hf c hc').2.2.2.2.1,(hf c hc').2.2.2.2.2⟩
   ·simp only [aQ2,aQ4,aS6,not_or] at hc'
    exact up c o hc'.1 hc'.2 z
   ·simp only [aQ2,aQ4,aS6,not_or] at hc'
    exact up c o hc'.1 hc'.2 z
   ·rw [aJ (aS8 (aR0 z))]; exact n
   ·simp only [aQ2,aQ4,aS6,not_or] at hc'
    exact up c o hc'.1 hc'.2 z
   ·by_cases hcT:c=s.heap.objs.size
    ·subst hcT
     rw [aZ] at z; cases z
     exact⟨by show 2<=sizeLine; decide,[.int i s.toks,ux],.cons ⟨_,rfl⟩ (.cons rux .nil),⟨_,prG,rfl,_,rfl⟩,fun u e=>by rw [prG] at e; cases e; rfl⟩
    ·rw [aJ hcT] at z
     refine (I.hok c u z).stay (fun c' o' hc2 q'=>?_) (fun c' q'=>by rw [aJ (bS q' hT)]; exact q') fun c' zs q'=>by rw [aJ (bS q' hT)]; exact q'
     rcases hc2 with rfl | hc2
     ·exact upH _ _ _ z q'
     ·exact upH _ _ _ hc2 q'
  refine⟨.ref s.heap.objs.size,_,I2,rfl,⟨_,x,hT,rfl,rfl,fun xs' ha'=>?_⟩,⟨⟨ux,by push_cast; exact zz⟩,it'.at fun o z=>sb.extBut _ o (Ne.symm d) z⟩,fun c hc'=>?_⟩
  ·rw [I.list_inj ha' ha]; exact hx
  ·obtain ⟨o,z⟩:∃ o,s.heap.get? c=some o:=by
    simp only [aQ2,aQ4,aS6] at hc'
    obtain ⟨o1,f1,_⟩:=st.s1
    rcases hc' with rfl | rfl
    ·exact⟨_,ee⟩
    ·exact⟨_,f1⟩
   rw [aJ (aS8 (aR0 z))]; exact (hf c hc').1
 ·intro X hP hw hK hc i pins s σ H E I hf st hg
  subst hP hw hK
  obtain ⟨xs,ha,hi⟩:=hg
  obtain ⟨us,ru,pu,lu⟩:=I.list ha
  obtain ⟨old,ee⟩:=st.ee
  have hh:X.A.handled=none:=I.ok.hd hc
  have e1:=ru.length
  refine wpAny_pyNext_enum_end hh ee st.s1 pu.isList (by rw [Array.getElem?_eq_none]; simp only [aR3]; omega) fun g kp=>⟨rfl,?_⟩
  have fpn:∀ c u,H c=some u->c ∉ [e,it]:=fun c u z hm=>by rw [(hf c hm).1] at z; cases z
  have upH:∀ c o u,H c=some u->s.heap.get? c=some o->g.get? c=some o:=fun c o u q z=>by
   have:=fpn c u q
   simp only [aQ2,aQ4,aS6,not_or] at this
   exact kp c o this.2 z
  have ns:∀ m,s.heap.Ns X.env.locals m->g.Ns X.env.locals m:=fun m hm=>by
   obtain ⟨o,es,ep,e1,e2⟩:=hm
   exact⟨o,es,ep,kp _ o (Ne.symm (hf it (by simp)).2.1) e1,e2⟩
  refine I.step (g':=s.gens) (d':=s.drawn) (ch:=[it]) (fun c hc'=>?_) (fun c o _ _ hc' z _=>?_) (fun c o _ _ hc' z _=>⟨o.slots,?_⟩) (fun c o _ z n=>n) (fun c o hc' z=>⟨o,?_⟩)
   (fun c zs z=>z) (fun c u zs z=>z) (fun c ps z=>⟨#[],by rw [z]; simp⟩) ns (fun c u z=>?_) I.bare
  ·have hm:c ∈ [e,it]:=aR1 _ hc'
   exact⟨(hf c hm).2.2.2.1,(hf c hm).2.1,(hf c hm).2.2.2.2.1,(hf c hm).2.2.2.2.2⟩
  ·exact kp c o (fun y=>hc' (by rw [y]; simp)) z
  ·exact kp c o (fun y=>hc' (by rw [y]; simp)) z
  ·exact kp c o (fun y=>hc' (by rw [y]; simp)) z
  ·refine (I.hok c u z).stay (fun c' o' hc2 q'=>?_) (fun _ q'=>q') fun _ _ q'=>q'
   rcases hc2 with rfl | hc2
   ·exact upH _ _ _ z q'
   ·exact upH _ _ _ hc2 q'
 ·obtain ⟨old,ee⟩:=st.ee
  exact wpAny_pyIter_enum ee q
end L2
namespace Zp
open PySem PyProof.Rows
section
variable {prog : Program} {w : World} {A : Around} {E : Value → Shared → Prop} {s : Shared}
theorem ay0 {e it t:Addr}{i:Nat}{items:Array Value}{x old:Value}{Q:Option Value->Shared->Prop} (he:IsEnum s.heap e it i old) (hi:s.heap.IsTupleIter it t i) (ht:s.heap.IsTuple t items) (hx:items[i]? = some x) (ne:e ≠ it)
  (q:∀ h',IsEnumOut h' e it ((i:Int)+1) x s.heap.objs.size->h'.IsTupleIter it t (i+1)->h'.get? s.heap.objs.size=some { cls:=.type "tuple",data:=.seq #[.int i s.toks,x] }->h'.objs.size=s.heap.objs.size+1->
   (∀ b o,b ≠ e->b ≠ it->s.heap.get? b=some o->h'.get? b=some o)->Q (some (.ref s.heap.objs.size)) { s with heap:=h',toks:=s.toks+1 }):wpAny (model prog w) A (pyNext (.ref e)) Q E s:=by
 have T:s.TypeIs (.ref e) "enumerate":=⟨_,he,rfl⟩
 have slot:=PySem.F.slot_enumerate_next
 unfold pyNext
 apply aQ0
 apply wpAny_attempt
 apply aV2 (name:=Str.ofString "__next__") T slot
 apply aX3 slot T PySem.F.entry_enumerate_next _ (PySem.F.args_enumerate_next_1 _)
 change wpAny _ _ (field (.ref e) 2 >>= _) _ _ _
 apply aQ0
 refine aV1 he rfl (x:=.ref it) rfl ?_
 apply aQ0
 refine zE hi ht hx fun g1 it1 sb1=>?_
 have e1:IsEnum g1 e it i old:=sb1.extBut _ _ ne he
 change wpAny _ _ (field (.ref e) 3 >>= _) _ _ _
 apply aQ0
 refine aV1 e1 rfl (x:=rawInt i) rfl ?_
 change wpAny _ _ (field (.ref e) 4 >>= _) _ _ _
 apply aQ0
 refine aV1 e1 rfl (x:=.none) rfl ?_
 change wpAny _ _ (mkInt i >>= _) _ _ _
 apply aQ0
 refine wpAny_mkInt ?_
 change wpAny _ _ (setField (.ref e) 3 (rawInt ((i:Int)+1)) >>= _) _ _ _
 apply aQ0
 refine aW1 e1 (by simp) fun g2 e2 sb2=>?_
 apply aQ0
 refine aW1 e2 (by simp) fun g3 e3 sb3=>?_
 have e3:IsEnum g3 e it ((i:Int)+1) old:=e3
 apply aQ0
 refine wpAny_newTuple ?_ (by show 2<=sizeLine; decide)
 have e4:IsEnum (g3.push { cls:=.type "tuple",data:=.seq #[.int i s.toks,x] }) e it ((i:Int)+1) old:=aQ1 _ e3
 have size:g3.objs.size=s.heap.objs.size:=by rw [sb3.1,sb2.1,sb1.1]
 change wpAny _ _ (Builtin.SmallTypes.ownedTupleIsFree (.ref e) >>= _) _ _ _
 apply aQ0
 unfold Builtin.SmallTypes.ownedTupleIsFree
 apply aQ0
 refine aV1 e4 rfl (x:=.none) rfl (aQ5 ?_)
 simp only [if_true]
 apply aQ0
 apply wpAny_rule
 apply aQ0
 refine aV1 e4 rfl (x:=old) rfl ?_
 apply aQ0
 refine aW1 e4 (by simp) fun g5 e5 sb5=>?_
 apply aQ0
 unfold Builtin.SmallTypes.ownedTupleHandOut
 apply aQ0
 refine aW1 e5 (by simp) fun g6 e6 sb6=>?_
 refine aW1 e6 (by simp) fun g7 e7 sb7=>?_
 have e7:IsEnumOut g7 e it ((i:Int)+1) x g3.objs.size:=e7
 have elt:e < g3.objs.size:=aR0 e3
 have up:∀ c o,c ≠ e->(g3.push { cls:=.type "tuple",data:=.seq #[.int i s.toks,x] }).get? c=some o->g7.get? c=some o:=fun c o c1 z=>sb7.extBut c o c1 (sb6.extBut c o c1 (sb5.extBut c o c1 z))
 have up3:∀ c o,c ≠ e->g1.get? c=some o->g7.get? c=some o:=fun c o c1 z=>up c o c1 (aQ1 _ (sb3.extBut c o c1 (sb2.extBut c o c1 z)))
 have p7:g7.get? g3.objs.size=some { cls:=.type "tuple",data:=.seq #[.int i s.toks,x] }:=up _ _ (aX9 elt) (aR5 _ rfl)
 have s7:g7.objs.size=g3.objs.size+1:=by rw [sb7.1,sb6.1,sb5.1,aX7]
 apply aQ0
 apply wpAny_letGo
 apply aQ5
 rw [size] at e7 p7 s7
 refine⟨_,rfl,aQ5 ?_⟩
 change Q (some (.ref g3.objs.size)) _
 rw [size]
 exact q g7 e7 (it1.at fun o z=>up3 it o (Ne.symm ne) z) p7 s7 fun b o b1 b2 z=>up3 b o b1 (sb1.extBut b o b2 z)
theorem ay1 {e it t:Addr}{i:Nat}{items:Array Value}{old:Value}{Q:Option Value->Shared->Prop} (hh:A.handled=none) (he:IsEnum s.heap e it i old) (hi:s.heap.IsTupleIter it t i) (ht:s.heap.IsTuple t items) (hx:items[i]? = none)
  (q:∀ h',Heap.ExtBut it s.heap h'->Q none { s with heap:=h' }):wpAny (model prog w) A (pyNext (.ref e)) Q E s:=by
 have T:s.TypeIs (.ref e) "enumerate":=⟨_,he,rfl⟩
 have slot:=PySem.F.slot_enumerate_next
 unfold pyNext
 apply aQ0
 apply wpAny_attempt
 apply aV2 (name:=Str.ofString "__next__") T slot
 apply aX3 slot T PySem.F.entry_enumerate_next _ (PySem.F.args_enumerate_next_1 _)
 change wpAny _ _ (field (.ref e) 2 >>= _) _ _ _
 apply aQ0
 refine aV1 he rfl (x:=.ref it) rfl ?_
 apply aQ0
 refine zF hh hi ht hx fun g2 ex eb exo=>?_
 obtain ⟨oe,eo,co⟩:=exo
 apply aQ0
 refine wpAny_isInstance (T:="StopIteration") (b:=true) ⟨oe,eo,co⟩ isSubtype_stop ?_
 exact aQ5 (q g2 eb)
theorem ay2 {M:Model}{A:Around}{E:Value->Shared->Prop}{s:Shared}{α:Type}{c:Prop} [Decidable c] {m n:Sem α}{Q:α->Shared->Prop} (h1:wpAny M A m Q E s) (h2:wpAny M A n Q E s):wpAny M A (if c then m else n) Q E s:=by
 split
 ·exact h1
 ·exact h2
theorem ay3 (t:Addr) (xs:Array Value):Meets (Builtin.«enumerate.__new__» ⟨[.type "enumerate",.ref t],[]⟩) (fun _ R s=>s.heap.IsTuple t xs/\R (.ok (.ret (.ref (s.heap.objs.size+1)))) { s with heap:=(s.heap.push { cls:=.type "tuple_iterator",data:=.fields #[.ref t,.int 0 0] }).push { cls:=.type "enumerate",data:=.fields #[.none,.bool false,.ref s.heap.objs.size,rawInt 0,.none,.none] } }):=
 .of_wp fun prog w A R s h=>by
  obtain ⟨hp,g,d,tk,os⟩:=s
  obtain ⟨ht,h⟩:=h
  have sub:=sub_enumerate
  have a1:Heap.IsTuple (Shared.heap ⟨hp,g,d,tk,os⟩) t xs:=ht
  wp_walk using aY9 a1
  refine wpAny_stack_any fun st=>aQ5 ?_
  refine ay2 ?_ ?_
  all_goals
   apply aQ0
   refine wpAny_of_eq (a:=(Value.ref t,none)) rfl ?_
   wp_walk using aY9 a1
   have e:∀ (o:Obj) (k:Heap),(k.push o).objs.size=k.objs.size+1:=fun o k=>aX7 ..
   refine⟨_,rfl,?_⟩
   simp only [e] at h ⊢
   exact h
theorem ay4 {t:Addr}{xs:Array Value}{Q:Value->Shared->Prop} (ht:s.heap.IsTuple t xs)
  (q:∀ h',IsEnum h' (s.heap.objs.size+1) s.heap.objs.size 0 .none->h'.IsTupleIter s.heap.objs.size t 0->h'.objs.size=s.heap.objs.size+2->(∀ c o,s.heap.get? c=some o->h'.get? c=some o)->Q (.ref (s.heap.objs.size+1)) { s with heap:=h' }) :
  wpAny (model prog w) A (call (.type "enumerate") [.ref t]) Q E s:=by
 refine callType_new PySem.F.called_enumerate (by decide) (PySem.F.typeCall_enumerate_1 _) (PySem.F.newCall_enumerate_1 _) (fun obj=>PySem.F.args_object_init_2 obj _) PySem.F.entry_enumerate_new (ay3 t xs) ⟨ht,?_⟩
 have e:∀ (o:Obj) (k:Heap),(k.push o).objs.size=k.objs.size+1:=fun o k=>aX7 ..
 have g0:((s.heap.push { cls:=.type "tuple_iterator",data:=.fields #[.ref t,.int 0 0] }).push { cls:=.type "enumerate",data:=.fields #[.none,.bool false,.ref s.heap.objs.size,rawInt 0,.none,.none] }).get? s.heap.objs.size=some { cls:=.type "tuple_iterator",data:=.fields #[.ref t,.int 0 0] }:=aQ1 _ (aR5 _ rfl)
 have g1:((s.heap.push { cls:=.type "tuple_iterator",data:=.fields #[.ref t,.int 0 0] }).push { cls:=.type "enumerate",data:=.fields #[.none,.bool false,.ref s.heap.objs.size,rawInt 0,.none,.none] }).get? (s.heap.objs.size+1)=some { cls:=.type "enumerate",data:=.fields #[.none,.bool false,.ref s.heap.objs.size,rawInt 0,.none,.none] }:=by
  have:=aR5 (h:=s.heap.push { cls:=.type "tuple_iterator",data:=.fields #[.ref t,.int 0 0] }) (o:={ cls:=.type "enumerate",data:=.fields #[.none,.bool false,.ref s.heap.objs.size,rawInt 0,.none,.none] }) rfl
  rw [e] at this; exact this
 exact⟨⟨_,g1,rfl⟩,q _ g1 ⟨_,g0,rfl,rfl⟩ (by rw [e,e]) fun c o z=>aQ1 _ (aQ1 _ z)⟩
end
end Zp
namespace L2
open PySem PySem.Spec PyProof.Rows
def v9 (K:PySem.W.Frag) (a:Addr):It:=
  ⟨fun i H=>∃ xs x,aF K H a xs/\xs[i]? = some x,
   fun i H v H'=>∃ T x,H T=none/\v = .ref T/\H'=upd H T (.tup [.int i,x])/\∀ xs,aF K H a xs->xs[i]? = some x,
   fun i H=>∃ xs,aF K H a xs/\xs.length<=i⟩
structure ay5 (e it a:Addr) (i:Nat) (h:Heap):Prop where
 ee:∃ old,IsEnum h e it i old
 s1:h.IsTupleIter it a i
theorem ay6 {P:Program}{w:World}{K:PySem.W.Frag}{elts:List Expr}{k:Nat}{pos:Pos} (a e it:Addr) (d:e ≠ it) :
  gA P w K (.Tuple elts k pos) (v9 K a) [e,it] e (ay5 e it a):=by
 refine⟨by simp,fun i h st c hc=>?_,fun i h h' st kp=>?_,?_,?_,fun A i s Q E st q=>?_⟩
 ·simp only [aQ2,aQ4,aS6] at hc
  obtain ⟨old,ee⟩:=st.ee
  obtain ⟨o1,f1,g1,d1⟩:=st.s1
  rcases hc with rfl | rfl
  ·exact⟨_,ee,fun v q=>by cases q⟩
  ·exact⟨_,f1,fun v q=>by rw [d1] at q; cases q⟩
 ·obtain ⟨old,ee⟩:=st.ee
  exact⟨⟨old,kp e (by simp) _ ee⟩,st.s1.at fun o z=>kp it (by simp) o z⟩
 ·intro X hP hw hK hc i pins s σ H E I hf st hg
  subst hP hw hK
  obtain ⟨xs,x,ha,hx⟩:=hg
  obtain ⟨us,ru,pu,lu⟩:=I.tuple ha
  obtain ⟨ux,eux,rux⟩:=ru.get hx
  obtain ⟨old,ee⟩:=st.ee
  refine Zp.ay0 ee st.s1 pu (by simpa using eux) d fun h' eo it' pr sz kp=>⟨_,rfl,?_⟩
  refine wpAny_letOwnedTupleGo_enum (s:={ s with heap:=h',toks:=s.toks+1 }) eo fun g zz sb=>?_
  have hzl:e < s.heap.objs.size:=aR0 ee
  have up:∀ c o,c ≠ e->c ≠ it->s.heap.get? c=some o->g.get? c=some o:=fun c o c1 c2 z=>sb.extBut c o c1 (kp c o c1 c2 z)
  have hT:H s.heap.objs.size=none:=I.hok.fresh (aQ6 _)
  have prG:g.get? s.heap.objs.size=some { cls:=.type "tuple",data:=.seq #[.int i s.toks,ux] }:=sb.extBut _ _ (aX9 hzl) pr
  have fpn:∀ c u,H c=some u->c ∉ [e,it]:=fun c u z hm=>by rw [(hf c hm).1] at z; cases z
  have upH:∀ c o u,H c=some u->s.heap.get? c=some o->g.get? c=some o:=fun c o u q z=>by
   have:=fpn c u q
   simp only [aQ2,aQ4,aS6,not_or] at this
   exact up c o this.1 this.2 z
  have ns:∀ m,s.heap.Ns X.env.locals m->g.Ns X.env.locals m:=fun m hm=>by
   obtain ⟨o,es,ep,e1,e2⟩:=hm
   exact⟨o,es,ep,up _ o (Ne.symm (hf e (by simp)).2.1) (Ne.symm (hf it (by simp)).2.1) e1,e2⟩
  have I2:a7 X pins σ (upd H s.heap.objs.size (.tup [.int i,x])) { s with heap:=g,toks:=s.toks+1 }:=by
   refine I.step (g':=s.gens) (d':=s.drawn) (ch:=[e,it]) (fun c hc'=>?_) (fun c o _ _ hc' z _=>?_) (fun c o _ _ hc' z _=>⟨o.slots,?_⟩) (fun c o _ z n=>?_) (fun c o hc' z=>⟨o,?_⟩)
    (fun c zs z=>by rw [aJ (bS z hT)]; exact z) (fun c u zs z=>by rw [aJ (bS z hT)]; exact z) (fun c ps z=>⟨#[],by rw [aJ (bS z hT),z]; simp⟩) ns (fun c u z=>?_) I.bare
   ·exact⟨(hf c hc').2.2.2.1,(hf c hc').2.1,(hf c hc').2.2.2.2.1,(hf c hc').2.2.2.2.2⟩
   ·simp only [aQ2,aQ4,aS6,not_or] at hc'
    exact up c o hc'.1 hc'.2 z
   ·simp only [aQ2,aQ4,aS6,not_or] at hc'
    exact up c o hc'.1 hc'.2 z
   ·rw [aJ (aS8 (aR0 z))]; exact n
   ·simp only [aQ2,aQ4,aS6,not_or] at hc'
    exact up c o hc'.1 hc'.2 z
   ·by_cases hcT:c=s.heap.objs.size
    ·subst hcT
     rw [aZ] at z; cases z
     exact⟨by show 2<=sizeLine; decide,[.int i s.toks,ux],.cons ⟨_,rfl⟩ (.cons rux .nil),⟨_,prG,rfl,_,rfl⟩,fun u e=>by rw [prG] at e; cases e; rfl⟩
    ·rw [aJ hcT] at z
     refine (I.hok c u z).stay (fun c' o' hc2 q'=>?_) (fun c' q'=>by rw [aJ (bS q' hT)]; exact q') fun c' zs q'=>by rw [aJ (bS q' hT)]; exact q'
     rcases hc2 with rfl | hc2
     ·exact upH _ _ _ z q'
     ·exact upH _ _ _ hc2 q'
  refine⟨.ref s.heap.objs.size,_,I2,rfl,⟨_,x,hT,rfl,rfl,fun xs' ha'=>?_⟩,⟨⟨ux,by push_cast; exact zz⟩,it'.at fun o z=>sb.extBut _ o (Ne.symm d) z⟩,fun c hc'=>?_⟩
  ·rw [I.tuple_inj ha' ha]; exact hx
  ·obtain ⟨o,z⟩:∃ o,s.heap.get? c=some o:=by
    simp only [aQ2,aQ4,aS6] at hc'
    obtain ⟨o1,f1,_⟩:=st.s1
    rcases hc' with rfl | rfl
    ·exact⟨_,ee⟩
    ·exact⟨_,f1⟩
   rw [aJ (aS8 (aR0 z))]; exact (hf c hc').1
 ·intro X hP hw hK hc i pins s σ H E I hf st hg
  subst hP hw hK
  obtain ⟨xs,ha,hi⟩:=hg
  obtain ⟨us,ru,pu,lu⟩:=I.tuple ha
  obtain ⟨old,ee⟩:=st.ee
  have hh:X.A.handled=none:=I.ok.hd hc
  have e1:=ru.length
  refine Zp.ay1 hh ee st.s1 pu (by rw [Array.getElem?_eq_none]; simp only [aR3]; omega) fun g kp=>⟨rfl,?_⟩
  have fpn:∀ c u,H c=some u->c ∉ [e,it]:=fun c u z hm=>by rw [(hf c hm).1] at z; cases z
  have upH:∀ c o u,H c=some u->s.heap.get? c=some o->g.get? c=some o:=fun c o u q z=>by
   have:=fpn c u q
   simp only [aQ2,aQ4,aS6,not_or] at this
   exact kp c o this.2 z
  have ns:∀ m,s.heap.Ns X.env.locals m->g.Ns X.env.locals m:=fun m hm=>by
   obtain ⟨o,es,ep,e1,e2⟩:=hm
   exact⟨o,es,ep,kp _ o (Ne.symm (hf it (by simp)).2.1) e1,e2⟩
  refine I.step (g':=s.gens) (d':=s.drawn) (ch:=[it]) (fun c hc'=>?_) (fun c o _ _ hc' z _=>?_) (fun c o _ _ hc' z _=>⟨o.slots,?_⟩) (fun c o _ z n=>n) (fun c o hc' z=>⟨o,?_⟩)
   (fun c zs z=>z) (fun c u zs z=>z) (fun c ps z=>⟨#[],by rw [z]; simp⟩) ns (fun c u z=>?_) I.bare
  ·have hm:c ∈ [e,it]:=aR1 _ hc'
   exact⟨(hf c hm).2.2.2.1,(hf c hm).2.1,(hf c hm).2.2.2.2.1,(hf c hm).2.2.2.2.2⟩
  ·exact kp c o (fun y=>hc' (by rw [y]; simp)) z
  ·exact kp c o (fun y=>hc' (by rw [y]; simp)) z
  ·exact kp c o (fun y=>hc' (by rw [y]; simp)) z
  ·refine (I.hok c u z).stay (fun c' o' hc2 q'=>?_) (fun _ q'=>q') fun _ _ q'=>q'
   rcases hc2 with rfl | hc2
   ·exact upH _ _ _ z q'
   ·exact upH _ _ _ hc2 q'
 ·obtain ⟨old,ee⟩:=st.ee
  exact wpAny_pyIter_enum ee q
section
variable {X : Cx}
def J4 (K:PySem.W.Frag) (ta:TA):TI:=fun σ H R=>ta σ H fun vs H1=>∃ a,vs = [.ref a]/\((∃ xs,aH K H1 a xs/\R (v8 K a) H1) ∨ (∃ xs,aF K H1 a xs/\R (v9 K a) H1))
theorem ay7 {elts:List Expr}{kt:Nat}{pt:Pos}{a:Expr}{ta:TA}{p pos:Pos} (hg:Gl X "enumerate") (hm:X.mg "enumerate" = none) (ha:PA X [a] ta) (hs:starEach [a] X.env = [(false,eval a X.env)]:=by rfl) :
  PI X (.Tuple elts kt pt) (.Call (.Name "enumerate" p) [a] [] pos) (J4 X.K ta):=by
 intro pins s σ H R I h
 refine Call_ (gS I hg hm PyProof.Rows.boot_enumerate (aU7 (aK (ha pos pins s σ H _ I h) fun us s1 ⟨vs,H1,I1,r1,q1⟩=>?_) (by rw [hs]; rfl) (by rfl)))
 obtain ⟨a',e,q⟩:=q1
 subst e
 have fresh:∀ k,H1 (s1.heap.objs.size+k)=none:=fun k=>I1.hok.fresh (aS0 _ _)
 cases r1 with
 | cons r rr=>
  cases rr
  cases r
  rcases q with ⟨xs,h1,q⟩ | ⟨xs,h1,q⟩
  ·obtain ⟨us,_,p1,_⟩:=I1.list h1
   refine call_enumerate_list p1.isList fun h' z s1' sz kp=>wpAny_pyIter_enum z ?_
   refine⟨s1.heap.objs.size+1,[s1.heap.objs.size+1,s1.heap.objs.size],_,_,H1,rfl,I1.kept (t':=s1.toks) kp,
    ax9 a' _ _ (Nat.succ_ne_self _),⟨⟨_,z⟩,s1'⟩,fun c hc=>?_,q⟩
   simp only [aQ2,aQ4,aS6] at hc
   rcases hc with rfl | rfl
   ·exact I1.fpOk (aS0 _ _) (fresh 1)
   ·exact I1.fpOk (aQ6 _) (fresh 0)
  ·obtain ⟨us,_,p1,_⟩:=I1.tuple h1
   refine Zp.ay4 p1 fun h' z s1' sz kp=>wpAny_pyIter_enum z ?_
   refine⟨s1.heap.objs.size+1,[s1.heap.objs.size+1,s1.heap.objs.size],_,_,H1,rfl,I1.kept (t':=s1.toks) kp,
    ay6 a' _ _ (Nat.succ_ne_self _),⟨⟨_,z⟩,s1'⟩,fun c hc=>?_,q⟩
   simp only [aQ2,aQ4,aS6] at hc
   rcases hc with rfl | rfl
   ·exact I1.fpOk (aS0 _ _) (fresh 1)
   ·exact I1.fpOk (aQ6 _) (fresh 0)
end
end L2
namespace Zp
open PySem PyProof.Rows
theorem ay8 (t b:Addr) (xs ys:Array Value) (n n2:Nat) (dd dd2:Option Addr) (sl sl2:Array (Option Value)) (hx:xs.isEmpty=true):Meets (Builtin.«tuple.__add__» ⟨[.ref t,.ref b],[]⟩)
  (fun _ R s=>s.heap.get? t=some { cls:=.type "tuple",dict:=dd,data:=.seq xs n,slots:=sl }/\s.heap.get? b=some { cls:=.type "tuple",dict:=dd2,data:=.seq ys n2,slots:=sl2 }/\R (.ok (.ret (.ref b))) s):=
 .of_wp fun prog w A R s h=>by
  obtain ⟨h1,h2,h⟩:=h
  have sub:isSubtype (Value.type "tuple") (Value.type "tuple")=pure true:=rfl
  wp_walk
  exact⟨_,rfl,h⟩
end Zp
namespace L2
open PySem PySem.Spec PyProof.Rows
section
variable {X : Cx}
def J5 (K:PySem.W.Frag):R2:=fun x y H Q=>∃ a b xs ys,x = .ref a/\y = .ref b/\aF K H a xs/\aF K H b ys/\xs.length+ys.length<=sizeLine/\
 (xs = []->Q (.ref b) H)/\(xs ≠ []->ys = []->Q (.ref a) H)/\(xs ≠ []->ys ≠ []->∀ p,H p=none->Q (.ref p) (upd H p (.tup (xs ++ ys))))
theorem ay9:cC X (binaryOp .Add) (J5 X.K):=by
 intro pins s σ H x y v u Q I rx ry h
 obtain ⟨a,b,xs,ys,ex,ey,ha,hb,hz,q0,q1,q2⟩:=h
 by_cases hx:xs = []
 ·subst ex ey
  cases rx
  cases ry
  obtain ⟨its,r1,p1,_⟩:=I.tuple ha
  obtain ⟨its2,r2,p2,_⟩:=I.tuple hb
  have hi:its = []:=r1.nil_iff.mpr hx
  obtain ⟨⟨cls,dd,data,sl⟩,ho,hc,n,hd⟩:=id p1
  obtain ⟨⟨cls2,dd2,data2,sl2⟩,ho2,hc2,n2,hd2⟩:=id p2
  simp only at hc hd hc2 hd2
  subst hc hd hc2 hd2
  exact concat_meets ⟨_,ho,rfl⟩ ⟨_,ho2,rfl⟩ noFill_tuple_add seq_tuple_add PySem.F.slot_tuple_add PySem.F.entry_tuple_add (PySem.F.args_tuple_add_2 _ _)
   (Zp.ay8 a b its.toArray its2.toArray n n2 dd dd2 sl sl2 (by simp [hi])) ⟨ho,ho2,⟨.ref b,H,I,rfl,q0 hx⟩⟩
 ·exact ac6 pins s σ H x y v u Q I rx ry ⟨a,b,xs,ys,ex,ey,ha,hb,hx,hz,q1 hx,q2 hx⟩
end
end L2
namespace PP
open PySem L2 PyProof.Rows
def iR (xs:List PV):List PV:=xs.mapIdx fun i x=>PV.tup [.int (i:Int),x]
theorem vA (xs:List PV):(iR xs).length=xs.length:=by unfold iR; rw [List.length_mapIdx]
theorem J6 {xs:List PV}{i:Nat}{x:PV} (h:xs[i]? = some x):(iR xs)[i]? = some (.tup [.int (i:Int),x]):=by
 unfold iR; rw [List.getElem?_mapIdx,h]; rfl
theorem az0 {xs:List PV}{i:Nat}{z:PV} (h:(iR xs)[i]? = some z):∃ x,xs[i]? = some x/\z = .tup [.int (i:Int),x]:=by
 unfold iR at h
 rw [List.getElem?_mapIdx] at h
 cases e:xs[i]? with
 | none=>rw [e] at h; cases h
 | some x=>rw [e] at h; exact⟨x,rfl,(aS7 h).symm⟩
def nT (te:aG):dZ:=fun ρ Q=>te ρ fun x g=>∃ xs,(x = .lst xs ∨ x = .tup xs)/\(g = .rd->flat x=true)/\Q (iR xs) (gF g xs)
theorem az1 {K:PySem.W.Frag}{H0:Hp}{W:Addr->Prop}{g:Bool}{H1:Hp}{a:Addr}{us:List V}{xs:List PV} (tw:∀ a,W a->∃ o,H1 a=some o/\eU o=true) (ha:∀ W' H',Ev W H1 W' H'->aH K H' a us) (r:Reps K (Ms H0 W g) H1 us xs):jF K H0 W g H1 (v8 K a) (iR xs):=by
 have lr:=r.length
 have ll:=vA xs
 refine⟨fun W' H' i e hi=>⟨us,us[i]'(by omega),ha W' H' e,by simp⟩,fun W' H' i v H2 e y hi=>?_,fun W' H' e=>⟨us,ha W' H' e,by omega⟩⟩
 obtain ⟨T,x,hT,rfl,rfl,y⟩:=y
 obtain ⟨z,hz,rz⟩:=r.get (y us (ha W' _ e))
 have sm:=b6 hT (HO.tup [.int (i:Int),x])
 exact⟨sm,_,J6 hz,.tup aZ (.cons (.int _) (.cons ((rz.keep (e.keep tw)).same sm fun _ q=>q) .nil))⟩
theorem az2 {K:PySem.W.Frag}{H0:Hp}{W:Addr->Prop}{g:Bool}{H1:Hp}{a:Addr}{us:List V}{xs:List PV} (tw:∀ a,W a->∃ o,H1 a=some o/\eU o=true) (ha:∀ W' H',Ev W H1 W' H'->aF K H' a us) (r:Reps K (Ms H0 W g) H1 us xs):jF K H0 W g H1 (v9 K a) (iR xs):=by
 have lr:=r.length
 have ll:=vA xs
 refine⟨fun W' H' i e hi=>⟨us,us[i]'(by omega),ha W' H' e,by simp⟩,fun W' H' i v H2 e y hi=>?_,fun W' H' e=>⟨us,ha W' H' e,by omega⟩⟩
 obtain ⟨T,x,hT,rfl,rfl,y⟩:=y
 obtain ⟨z,hz,rz⟩:=r.get (y us (ha W' _ e))
 have sm:=b6 hT (HO.tup [.int (i:Int),x])
 exact⟨sm,_,J6 hz,.tup aZ (.cons (.int _) (.cons ((rz.keep (e.keep tw)).same sm fun _ q=>q) .nil))⟩
section
variable {X : Cx} {σ : L2.St} {H : Hp} {te : aG} {R : It → Hp → Prop}
theorem az3 (h:LI X (nT te) σ H R):J4 X.K (fN (LE X te) gU) σ H R:=by
 obtain ⟨W,ρ,Q,px,q,k⟩:=h
 refine⟨W,ρ,_,px,q,?_⟩
 rintro v H1 x g s r ⟨xs,hx,hg,q⟩
 have px1:=px.mono s
 have tw:∀ a,W a->∃ o,H1 a=some o/\eU o=true:=fun a z=>(px1.wm a z).2
 rcases hx with rfl | rfl
 ·obtain ⟨a,us,rfl,m,h,r⟩:=r.sqL
  have wa : ¬ W a:=by
   cases g with
   | fr=>exact (px.new m).1
   | nw=>exact m.1
   | sh=>exact m
   | rd=>have:=hg rfl; unfold flat at this; cases this
  exact⟨a,rfl,.inl ⟨us,aH.of h,k _ _ _ _ s (az1 tw (fun W' H' e=>aH.of (e _ _ h wa).1) (jG px (fun z=>by have:=hg z; unfold flat at this; cases this) r)) q⟩⟩
 ·obtain ⟨a,us,rfl,h,r⟩:=r.sqT
  refine⟨a,rfl,.inr ⟨us,aF.of h,k _ _ _ _ s (az2 tw (fun W' H' e=>aF.of (e _ _ h fun z=>?_).1) (jG px (fun z=>by have:=hg z; unfold flat at this; exact this) r)) q⟩⟩
  obtain ⟨o,h',mu⟩:=tw _ z; rw [h] at h'; cases h'; cases mu
theorem vB {elts:List Expr}{kt:Nat}{pt p2 pos:Pos}{a:Expr}{ta:aG} (hg:Gl X "enumerate") (hm:X.mg "enumerate" = none) (ha:QE X a ta) (hs:starEach [a] X.env = [(false,eval a X.env)]:=by rfl):QI X (.Tuple elts kt pt) (.Call (.Name "enumerate" p2) [a] [] pos) (nT ta):=
 nJ (ay7 hg hm (bO ha cK hs) hs) fun _ _ _=>az3
end
section
variable {X : Cx} {e : Expr} {te : aG} {pos p2 : Pos} {scope : Scope} {N : List Str} {fr : List (Option Nat)} {x y : Str} {tp xp yp : Pos} {kt : Nat} {iter elt : Expr} {ti : dZ}
abbrev jT (x y:Str) (xp yp:Pos) (kt:Nat) (tp:Pos):Expr:=.Tuple [.Name x xp,.Name y yp] kt tp
theorem vC {ifs:List Expr}{tcs:bZ} (hc:X.calm=true) (he:∀ (s:Shared) (H:Hp) (C:Addr) (fp:List Addr),QE (b9 X scope N s H C fp c8) elt te) (hi:∀ (s:Shared) (H:Hp) (C:Addr) (fp:List Addr),jB (b9 X scope N s H C fp c8) ifs (LT (b9 X scope N s H C fp c8) tcs))
  (hN:N.Nodup) (h0:N[0]? = some x) (h1:N[1]? = some y) (hl:∀ (s:Shared) (H:Hp) (C:Addr) (fp:List Addr),(b9 X scope N s H C fp c8).env.scope.names.lookup x=some .local) (hl2:∀ (s:Shared) (H:Hp) (C:Addr) (fp:List Addr),(b9 X scope N s H C fp c8).env.scope.names.lookup y=some .local) (s:Shared) (H:Hp) :
  l9 X scope N (jT x y xp yp kt tp) ifs elt s H (j4 X.K 2 (eG (cJ 0) (eG (cJ 1) j3))) (LT (X.frm H) tcs) (LE (X.frm H) te):=
 ⟨fun C fp=>kY (X:=b9 X scope N s H C fp c8) hc (fL (dQ hN h0 (.inl (hl s H C fp)) (.inr (hl s H C fp))) (fL (dQ hN h1 (.inl (hl2 s H C fp)) (.inr (hl2 s H C fp))) kX)),fun C fp=>hi s H C fp,fun C fp=>he s H C fp⟩
theorem vD (hi:QI X (jT x y xp yp kt tp) iter ti) (he:∀ (s:Shared) (H:Hp) (C:Addr) (fp:List Addr),QE (b9 X scope N s H C fp c8) elt te)
  (hc:X.calm=true:=by rfl) (S:cF X scope N fr:=by exact cF.of rfl rfl) (hN:N.Nodup:=by decide +kernel) (h0:N[0]? = some x:=by rfl) (h1:N[1]? = some y:=by rfl) (hl:∀ (s:Shared) (H:Hp) (C:Addr) (fp:List Addr),(b9 X scope N s H C fp c8).env.scope.names.lookup x=some .local:=by intro _ _ _ _; rfl) (hl2:∀ (s:Shared) (H:Hp) (C:Addr) (fp:List Addr),(b9 X scope N s H C fp c8).env.scope.names.lookup y=some .local:=by intro _ _ _ _; rfl) (hf:fr[0]? = some none:=by rfl) (hf2:fr[1]? = some none:=by rfl)
  (hs:∀ x,foldedSetIterable iter X.env x=pure x:=by intro _; rfl):QE X (.ListComp elt [⟨jT x y xp yp kt tp,iter,[],0⟩] scope pos) (cH ti fr (eW 0 1) dA te):=
 bL (oX (gh:=fun _=>j4 X.K 2 (eG (cJ 0) (eG (cJ 1) j3))) (tch:=fun H=>LT (X.frm H) dA) (teh:=fun H=>LE (X.frm H) te) hc S hi (vC hc he (fun _ _ _ _=>uP) hN h0 h1 hl hl2) hs) fun _ _ _=>lH (pQ _ 0 1) (fun i e=>by rcases e with e | e <;> (subst e; assumption))
theorem J7 {c:Expr}{tcs:bZ} (hi:QI X (jT x y xp yp kt tp) iter ti) (ht:∀ (s:Shared) (H:Hp) (C:Addr) (fp:List Addr),QT (b9 X scope N s H C fp c8) c tcs) (he:∀ (s:Shared) (H:Hp) (C:Addr) (fp:List Addr),QE (b9 X scope N s H C fp c8) elt te)
  (hc:X.calm=true:=by rfl) (S:cF X scope N fr:=by exact cF.of rfl rfl) (hN:N.Nodup:=by decide +kernel) (h0:N[0]? = some x:=by rfl) (h1:N[1]? = some y:=by rfl) (hl:∀ (s:Shared) (H:Hp) (C:Addr) (fp:List Addr),(b9 X scope N s H C fp c8).env.scope.names.lookup x=some .local:=by intro _ _ _ _; rfl) (hl2:∀ (s:Shared) (H:Hp) (C:Addr) (fp:List Addr),(b9 X scope N s H C fp c8).env.scope.names.lookup y=some .local:=by intro _ _ _ _; rfl) (hf:fr[0]? = some none:=by rfl) (hf2:fr[1]? = some none:=by rfl)
  (hs:∀ x,foldedSetIterable iter X.env x=pure x:=by intro _; rfl):QE X (.ListComp elt [⟨jT x y xp yp kt tp,iter,[c],0⟩] scope pos) (cH ti fr (eW 0 1) tcs te):=
 bL (oX (gh:=fun _=>j4 X.K 2 (eG (cJ 0) (eG (cJ 1) j3))) (tch:=fun H=>LT (X.frm H) tcs) (teh:=fun H=>LE (X.frm H) te) hc S hi (vC hc he (fun s H C fp=>tE (ht s H C fp)) hN h0 h1 hl hl2) hs) fun _ _ _=>lH (pQ _ 0 1) (fun i e=>by rcases e with e | e <;> (subst e; assumption))
theorem az4 {c:Expr}{tcs:bZ}{i:Nat}{z:Str}{zp:Pos} (nd:X.N.Nodup) (hi:QI X (jT x y xp yp kt tp) iter ti) (ht:∀ (s:Shared) (H:Hp) (C:Addr) (fp:List Addr),QT (b9 X scope N s H C fp c8) c tcs) (he:∀ (s:Shared) (H:Hp) (C:Addr) (fp:List Addr),QE (b9 X scope N s H C fp c8) elt te)
  (hz:X.N[i]? = some z:=by rfl) (hzl:X.env.scope.names.lookup z=some .local:=by rfl) (hsw:swapsWith (.ListComp elt [⟨jT x y xp yp kt tp,iter,[c],0⟩] scope p2) (some (.Name z zp)) pos.line X.env=pure true:=by rfl)
  (hc:X.calm=true:=by rfl) (S:cF X scope N fr:=by exact cF.of rfl rfl) (hN:N.Nodup:=by decide +kernel) (h0:N[0]? = some x:=by rfl) (h1:N[1]? = some y:=by rfl) (hl:∀ (s:Shared) (H:Hp) (C:Addr) (fp:List Addr),(b9 X scope N s H C fp c8).env.scope.names.lookup x=some .local:=by intro _ _ _ _; rfl) (hl2:∀ (s:Shared) (H:Hp) (C:Addr) (fp:List Addr),(b9 X scope N s H C fp c8).env.scope.names.lookup y=some .local:=by intro _ _ _ _; rfl) (hf:fr[0]? = some none:=by rfl) (hf2:fr[1]? = some none:=by rfl)
  (hs:∀ x,foldedSetIterable iter X.env x=pure x:=by intro _; rfl):QS X (.Assign [.Name z zp] (.ListComp elt [⟨jT x y xp yp kt tp,iter,[c],0⟩] scope p2) pos) (aV i (cH ti fr (eW 0 1) tcs te)):=
 dN (yL (gh:=fun _=>j4 X.K 2 (eG (cJ 0) (eG (cJ 1) j3))) (tch:=fun H=>LT (X.frm H) tcs) (teh:=fun H=>LE (X.frm H) te) hc S hi (vC hc he (fun s H C fp=>tE (ht s H C fp)) hN h0 h1 hl hl2) nd hz hzl hsw hs) fun D σ H h=>lH (pQ _ 0 1) (fun i e=>by rcases e with e | e <;> (subst e; assumption)) (u4 h)
end
section
variable {X : Cx} {a b e o f : Expr} {ta tb te td tk tx : aG} {pos p2 apos cpos : Pos} {σ : L2.St} {H : Hp} {Q' : VK}
def vE (td tk tx:aG):aG:=fun ρ Q=>td ρ fun x _=>∃ ps,x = .dK ps/\tk ρ fun y _=>tx ρ fun z _=>∃ k,y=kP k/\flat ((b7 ps k).getD z)=true/\Q ((b7 ps k).getD z) .fr
theorem az5 (h:LE X (vE td tk tx) σ H Q'):yD (LE X td) (LE X tk) (LE X tx) σ H Q':=by
 obtain ⟨W,ρ,Q,px,q,k⟩:=h
 refine⟨W,ρ,_,px,q,?_⟩
 rintro v H1 x g s r ⟨ps,rfl,q⟩
 have r0:=r
 cases r with
 | @dK a kvs _ m h e rr=>
  refine⟨a,rfl,.inl ⟨kvs,.inl h⟩,W,ρ,_,px.mono s,q,fun w H2 y g' s2 r2 q2=>⟨W,ρ,_,(px.mono s).mono s2,q2,?_⟩⟩
  rintro w3 H3 z gz s3 r3 ⟨kk,rfl,fl,q⟩
  obtain ⟨a',o',ea,dg,h1,h2⟩:=pR (.inl ⟨ps,kk,rfl,rfl,rfl⟩) (r0.same (s2.trans s3) fun _ z=>z) (r2.same s3 fun _ z=>z)
  cases ea
  refine⟨o',dg,?_⟩
  cases hv:b7 ps kk with
  | none=>
   rw [hv] at fl q
   rw [h1 hv]
   exact k _ _ _ .fr ((s.trans s2).trans s3) (r3.flat fl) q
  | some z'=>
   rw [hv] at fl q
   obtain ⟨u,rfl,ru⟩:=h2 z' hv
   exact k _ _ _ .fr ((s.trans s2).trans s3) (ru.flat fl) q
theorem az6 (hu:X.A.units+1 < cLine) (ho:QE X o td) (he:QE X e tk) (hf:QE X f tx) (m:M2 X o "get" apos e f cpos:=by exact⟨rfl,rfl,rfl,rfl⟩):QE X (.Call (.Attribute o "get" apos) [e,f] [] cpos) (vE td tk tx):=bL (af7 hu ho he hf m) fun _ _ _=>az5
theorem az7 {x:Str}{n:Int}{t:Nat} (hg:Gl X x) (hm:X.mg x=some (.int n t)) (hd:(x == ("__debug__" : Str))=false:=by decide):QE X (.Name x pos) (qC (.int n)):=
 bL (wA (v:=.int n) hg hm ⟨t,rfl⟩ hd) fun _ _ _=>mX fun _=>.int n
end
section
variable {X : Cx} {a b : Expr} {ta tb : aG} {pos : Pos}
def J8:PV->Tg->PV->Tg->PK->Prop:=fun x _ y _ Q=>∃ xs ys,x = .tup xs/\y = .tup ys/\flats xs=true/\flats ys=true/\xs.length+ys.length<=16000000/\Q (.tup (xs ++ ys)) .fr
abbrev vF (ta tb:aG):aG:=q2 J8 ta tb
theorem az8:dL X J8 (J5 X.K):=by
 rintro W Hs H u v x y g g' Q Q' s n r1 r2 ⟨xs,ys,rfl,rfl,f1,f2,hl,q⟩ k
 obtain ⟨a,us,rfl,h1,q1⟩:=r1.sqT
 obtain ⟨b,ws,rfl,h2,q2⟩:=r2.sqT
 have l1:=q1.length
 have l2:=q2.length
 refine⟨a,b,us,ws,rfl,rfl,aF.of h1,aF.of h2,lim (by omega),fun z=>?_,fun _ z=>?_,fun _ _ p hp=>k _ _ _ .fr (b6 hp _) (.tup aZ (((q1.flat f1).append (q2.flat f2)).same (b6 hp _) fun _ z=>z)) q⟩
 ·obtain rfl:xs = []:=by cases xs with
   | nil=>rfl
   | cons _ _=>rw [z] at l1; cases l1
  exact k _ _ _ .fr (aB.refl _) (.tup h2 (q2.flat f2)) q
 ·obtain rfl:ys = []:=by cases ys with
   | nil=>rfl
   | cons _ _=>rw [z] at l2; cases l2
  rw [aV7] at q
  exact k _ _ _ .fr (aB.refl _) (.tup h1 (q1.flat f1)) q
theorem K0 (ha:QE X a ta) (hb:QE X b tb):QE X (.BinOp a .Add b pos) (vF ta tb):=jJ ay9 az8 ha hb
end
end PP
namespace Core
open PySem L2 PP
section
variable (ws : List Int) (ls : List (Int × Int)) (os ns : List Int)
def fF:Nat->List Int
 | 0=>[]
 | k+1=>fF k ++ (os.find? (kin ws ls (ns ++ fF k))).toList
def nU (k:Nat):Option Int:=os.find? (kin ws ls (ns ++ fF ws ls os ns k))
end
section
variable {ws : List Int} {ls : List (Int × Int)} {os ns : List Int}
theorem az9 {k:Nat}{h:Int} (e:nU ws ls os ns k=some h):fF ws ls os ns (k+1)=fF ws ls os ns k ++ [h]:=by
 show fF ws ls os ns k ++ (nU ws ls os ns k).toList=_
 rw [e]; rfl
def aA0 (ws:List Int) (ls:List (Int × Int)) (T:List Int):Prop:=∀ h ∈ rng ws.length,kin ws ls T h=false
theorem aA1 {k:Nat}{h:Int} (e:nU ws ls os ns k=some h):h ∈ os/\h ∉ ns ++ fF ws ls os ns k:=
 ⟨List.mem_of_find?_eq_some e,bb0 (uU (List.find?_some e))⟩
theorem aA2 (po:os.Perm (rng ws.length)) (hs:cV ws.length ns=true):∀ k,(ns ++ fF ws ls os ns k).Nodup/\∀ x ∈ ns ++ fF ws ls os ns k,x ∈ rng ws.length
 | 0=>by
  rw [show fF ws ls os ns 0 = [] from rfl,aV7]
  exact⟨(nN (kL hs).1).imp fun h=>Int.ne_of_lt h,fun x hx=>at9.mpr ((kL hs).2 x hx)⟩
 | k+1=>by
  obtain ⟨i1,i2⟩:=aA2 po hs k
  cases e:nU ws ls os ns k with
  | none=>
   have:fF ws ls os ns (k+1)=fF ws ls os ns k:=by
    show fF ws ls os ns k ++ (nU ws ls os ns k).toList=_
    rw [e]; exact aV7 _
   rw [this]; exact⟨i1,i2⟩
  | some h=>
   obtain ⟨n1,n2⟩:=aA1 e
   rw [az9 e,<- List.append_assoc]
   refine⟨ba5.mpr ⟨i1,aV3 _ _,fun x hx y hy=>?_⟩,fun x hx=>?_⟩
   ·rw [aR8.mp hy]; intro z; subst z; exact n2 hx
   ·rcases aV6.mp hx with hx | hx
    ·exact i2 x hx
    ·rw [aR8.mp hx]; exact po.mem_iff.mp n1
theorem K1 (hs:cV ws.length ns=true):∀ k,(bC ws ls ns k).Nodup
 | 0=>(nN (kL hs).1).imp fun h=>Int.ne_of_lt h
 | k+1=>by
  show (bC ws ls ns k ++ nextOf ws ls (bC ws ls ns k)).Nodup
  refine ba5.mpr ⟨K1 hs k,(aw2 ws.length).filter _,fun x hx y hy=>?_⟩
  intro z; subst z
  exact bb0 (uU (List.mem_filter.mp hy).2) hx
end
def kO:Option Int->PV
 | none=>.non
 | some h=>.int h
theorem aA3 {i:Nat}{h:Int}{g:Bool}{ρ:b8}{Q:b8->Prop} (q:Q (ρ.set i (some (.sh true (.int h))))):bA i (.int h) g ρ Q:=by
 show Q (ρ.set i (some (.sh (g || true) (.int h))))
 rw [Bool.or_true]; exact q
def aA4 (ns S:List Int):Int:=(ns.length:Int) - (((ns.filter fun x=>decide (x ∈ S)).length:Nat):Int)
def aA5 (ws:List Int) (ls:List (Int × Int)) (S:List Int) (h:Int):Bool:=decide (aA4 (dD ls h) S < ws.getD h.toNat 0)
def stay (ws:List Int) (ls:List (Int × Int)) (S:List Int):List Int:=S.filter (aA5 ws ls S)
section
variable {ws : List Int} {ls : List (Int × Int)} {ns : List Int}
def aP7 (n:Nat) (S:List Int):List Int:=(rng n).filter fun x=>!decide (x ∈ S)
end
def eM (k:Nat) (r:List Int):List (aC × PV):=r.map fun h=>((Sum.inl h:aC),PV.int (k:Int))
def fX (rs:List (List Int)):List (aC × PV):=(rs.mapIdx eM).flatten
theorem aA6 (rs:List (List Int)) (r:List Int):fX (rs ++ [r])=fX rs ++ eM rs.length r:=by
 unfold fX
 rw [List.mapIdx_append,List.flatten_append]
 simp
theorem K2 (k:Nat) (r:List Int):(eM k r).map (·.1)=r.map Sum.inl:=by
 unfold eM; rw [ba1]; rfl
theorem K3:∀ (rs:List (List Int)) (g:Nat->Nat),((rs.mapIdx fun i r=>eM (g i) r).flatten).map (·.1)=rs.flatten.map (Sum.inl:Int->aC)
 | [],_=>rfl
 | r :: t,g=>by
  rw [List.mapIdx_cons,List.flatten_cons,List.flatten_cons,aS9,aS9,K2,K3 t fun i=>g (i+1)]
theorem aA7 (rs:List (List Int)):(fX rs).map (·.1)=rs.flatten.map (Sum.inl:Int->aC):=K3 rs fun i=>i
theorem aA8 {ps:List (aC × PV)}{h:Int}{v:PV}{S:List Int} (e:ps.map (·.1)=S.map Sum.inl) (hn:h ∉ S):cL ps (Sum.inl h:aC) v=ps ++ [(Sum.inl h,v)]:=by
 unfold cL
 rw [if_neg]
 intro z
 rw [List.any_eq_true] at z
 obtain ⟨p,hp,hq⟩:=z
 have:p.1 ∈ ps.map (·.1):=aX2.mpr ⟨p,hp,rfl⟩
 rw [e,of_decide_eq_true hq] at this
 obtain ⟨y,hy,e2⟩:=aX2.mp this
 exact hn (Sum.inl.inj e2 ▸ hy)
theorem aA9 {k:Nat}{r:List Int}{i:Nat}{n:Int} (h:r[i]? = some n):eM k (r.take (i+1))=eM k (r.take i) ++ [(Sum.inl n,PV.int (k:Int))]:=by
 unfold eM
 rw [aV9,h,aS9]; rfl
def iS (rs:List (List Int)) (h:Int):Option Nat:=rs.findIdx? fun r=>decide (h ∈ r)
theorem aB0 {ps qs:List (aC × PV)}{k:aC}:b7 (ps ++ qs) k=(b7 ps k).or (b7 qs k):=by
 unfold b7
 rw [List.find?_append]
 cases ps.find? _ <;> rfl
theorem K4 (k:Nat) (h:Int):∀ r:List Int,b7 (eM k r) (Sum.inl h:aC)=if h ∈ r then some (.int (k:Int)) else none
 | []=>rfl
 | x :: r=>by
  have ih:=K4 k h r
  show b7 ((Sum.inl x,PV.int (k:Int)) :: eM k r) (Sum.inl h)=_
  by_cases e:x=h
  ·rw [gM (p:=(Sum.inl x,PV.int (k:Int))) (congrArg Sum.inl e),if_pos (by rw [e]; exact aR2)]
  ·rw [gN (p:=(Sum.inl x,PV.int (k:Int))) (fun z=>e (Sum.inl.inj z)),ih]
   by_cases hm:h ∈ r
   ·rw [if_pos hm,if_pos (aR1 _ hm)]
   ·rw [if_neg hm,if_neg fun z=>(aQ2.mp z).elim (fun q=>e q.symm) hm]
theorem K5 (h:Int):∀ (rs:List (List Int)) (g:Nat->Nat),b7 ((rs.mapIdx fun i r=>eM (g i) r).flatten) (Sum.inl h:aC)=(iS rs h).map fun k=>PV.int (g k:Nat)
 | [],_=>rfl
 | r :: t,g=>by
  rw [List.mapIdx_cons,List.flatten_cons,aB0,K4,K5 h t fun i=>g (i+1)]
  unfold iS
  rw [List.findIdx?_cons]
  by_cases hm:h ∈ r
  ·rw [if_pos hm,if_pos (aR9 hm)]; rfl
  ·rw [if_neg hm,if_neg (by simpa using hm),Option.none_or,Option.map_map]; rfl
theorem vG (rs:List (List Int)) (h:Int):b7 (fX rs) (Sum.inl h:aC)=(iS rs h).map fun (k:Nat)=>PV.int (k:Int):=K5 h rs fun i=>i
def hJ (rs:List (List Int)) (k:Nat) (o:Int):Bool:=match iS rs o with
 | some j=>decide (j < k)
 | none=>false
theorem K6 {xs:List PV}{w:Int} (h:0<=w):eY xs none (some w)=xs.take w.toNat:=by
 unfold eY
 rw [HT.ab5,List.drop_zero,Nat.sub_zero]
 have:HT.aS xs.length xs.length (some w)=min w.toNat xs.length:=by
  show (if w < 0 then (w+(xs.length:Int)).toNat else min w.toNat xs.length)=_
  rw [if_neg (by omega)]
 rw [this,<- List.take_take,aT6]
end Core
namespace L2
open PySem PySem.Spec PyProof.Rows
theorem K7:∀ (n:Nat) (ns:List Int),n<=ns.length->preSum (fun i=>ns.getD i 0) n=(ns.take n).sum
 | 0,_,_=>by simp [preSum]
 | n+1,ns,h=>by
  show preSum (fun i=>ns.getD i 0) n+ns.getD n 0=_
  have h1:ns[n]? = some (ns[n]'(by omega)):=aR7 (by omega)
  have h2:ns.take (n+1)=ns.take n ++ [ns[n]'(by omega)]:=by rw [aV9,h1]; rfl
  have h3:ns.getD n 0=ns[n]'(by omega):=by rw [aS2,h1]; rfl
  rw [K7 n ns (by omega),h2,h3,List.sum_append,List.sum_cons,List.sum_nil]
  omega
section
variable {X : Cx}
theorem aB1 (hc:X.calm=true):cS X (.builtin "sum") (fun xs H Q=>∃ (a:Addr) (ns:List Int),xs = [.ref a]/\(aH X.K H a (ns.map V.int) ∨ aF X.K H a (ns.map V.int))/\Q (.int ns.sum) H):=by
 intro pins s σ H xs us Q I r h
 obtain ⟨a,ns,rfl,hq,q⟩:=h
 obtain ⟨u,rfl,ru⟩:=eI r
 cases ru
 have hh:X.A.in1.handled=none:=I.ok.hd hc
 have fin:∀ (its:List Value) (o:Obj) (wr:List Addr) (hw:∀ b ∈ wr,s.heap.objs.size<=b),aR (ns.map V.int) its->∀ s' t',Moved wr (fun a b=>b=a) { s with heap:=s.heap.push o } s'->
   ∃ x H',a7 X pins σ H' s'/\aT x (.int (preSum (fun i=>ns.getD i 0) its.toArray.size) t')/\Q x H':=fun its o wr hw rv s' t' hm=>by
  have hl:=rv.length
  rw [aQ3] at hl
  have e:=Moved.eq_with hm
  have e2:preSum (fun i=>ns.getD i 0) its.toArray.size=ns.sum:=by rw [aR3,<- hl,K7 _ _ (aQ6 _),aT6]
  rw [e2,e]
  refine⟨.int ns.sum,H,I.kept (t':=s'.toks) (h':=s'.heap) fun b o' eb=>hm.heap b o' (fun z=>?_) (aQ1 _ eb),⟨t',rfl⟩,q⟩
  exact absurd (aR0 eb) (Nat.not_lt.mpr (hw b z))
 have val:∀ (its:List Value),aR (ns.map V.int) its->∀ (i:Nat) (v:Value),its.toArray[i]? = some v->∃ t,v = .int (ns.getD i 0) t:=fun its rv i v hv=>by
  have hi:its[i]? = some v:=by simpa using hv
  have hl:=rv.length
  rw [aQ3] at hl
  have hil:i < ns.length:=by rw [hl]; exact (aQ7.mp hi).1
  obtain ⟨u,e1,e2⟩:=rv.get (i:=i) (x:=.int ns[i]) (by simp [hil])
  rw [hi] at e1; cases e1
  obtain ⟨t,rfl⟩:=e2
  exact⟨t,by rw [aS2,aR7 hil]; rfl⟩
 rcases hq with hq | hq
 ·obtain ⟨its,rv,p,hz⟩:=I.list hq
  have hlt:a < s.heap.objs.size:=by obtain ⟨o,e,_⟩:=p.isList; exact aR0 e
  refine call_sum_walkAnyS (wpAny_pyIter_list p.isList ?_)
  refine⟨s.heap.objs.size,_,_,_,_,_,_,fun i=>ns.getD i 0,rfl,(Walks.list hh s.heap.objs.size a (aS8 hlt) its.toArray).toS,⟨⟨_,aR5 _ rfl,rfl,rfl⟩,p.isList.push _⟩,?_,val its rv,fun s' t' hm=>fin its _ _ ?_ rv s' t' hm⟩
  ·intro b hb
   have hs:(s.heap.push { cls:=.type "list_iterator",data:=.fields #[.ref a,.int 0 0] }).objs.size=s.heap.objs.size+1:=size_push' _ _
   show b < (s.heap.push _).objs.size
   rw [size_push']
   rcases aQ2.mp hb with rfl | hb
   ·exact Nat.lt_succ_self _
   ·rw [aR8.mp hb]; exact Nat.lt_succ_of_lt hlt
  ·intro b hb
   rw [aR8.mp hb]; exact aQ6 _
 ·obtain ⟨its,rv,p,hz⟩:=I.tuple hq
  have hlt:a < s.heap.objs.size:=by obtain ⟨o,e,_⟩:=p; exact aR0 e
  refine call_sum_walkAnyS (aY9 p ?_)
  refine⟨s.heap.objs.size,_,_,_,_,_,_,fun i=>ns.getD i 0,rfl,(Walks.tuple hh s.heap.objs.size a (aS8 hlt) its.toArray).toS,⟨⟨_,aR5 _ rfl,rfl,rfl⟩,?_⟩,?_,val its rv,fun s' t' hm=>fin its _ _ ?_ rv s' t' hm⟩
  ·obtain ⟨o,e,h⟩:=p
   exact⟨o,aQ1 _ e,h⟩
  ·intro b hb
   show b < (s.heap.push _).objs.size
   rw [size_push']
   rcases aQ2.mp hb with rfl | hb
   ·exact Nat.lt_succ_self _
   ·rw [aR8.mp hb]; exact Nat.lt_succ_of_lt hlt
  ·intro b hb
   rw [aR8.mp hb]; exact aQ6 _
theorem aB2 (hc:X.calm=true):cS X (.builtin "any") (fun xs H Q=>∃ (a:Addr) (bs:List Bool),xs = [.ref a]/\aH X.K H a (bs.map V.bl)/\Q (.bl (bs.any id)) H):=by
 intro pins s σ H xs us Q I r h
 obtain ⟨a,bs,rfl,hq,q⟩:=h
 obtain ⟨u,rfl,ru⟩:=eI r
 cases ru
 obtain ⟨its,rv,p,hz⟩:=I.list hq
 have hl:=rv.length
 rw [aQ3] at hl
 have hlt:a < s.heap.objs.size:=by obtain ⟨o,e,_⟩:=p.isList; exact aR0 e
 refine call_any_walk (wpAny_pyIter_list p.isList ?_)
 have hh:X.A.in1.handled=none:=I.ok.hd hc
 refine⟨s.heap.objs.size,_,_,_,_,_,fun i=>bs.getD i false,rfl,Walks.list hh s.heap.objs.size a (aS8 hlt) its.toArray,⟨⟨_,aR5 _ rfl,rfl,rfl⟩,p.isList.push _⟩,?_,fun h' tk kp=>?_⟩
 ·intro i v s' Q' E' hP hQ'
  have hi:its[i]? = some v:=by simpa using hP
  have hil:i < bs.length:=by rw [hl]; exact (aQ7.mp hi).1
  obtain ⟨u,e1,e2⟩:=rv.get (i:=i) (x:=.bl bs[i]) (by simp [hil])
  rw [hi] at e1; cases e1
  cases e2
  have:bs.getD i false=bs[i]:=by rw [aS2,aR7 hil]; rfl
  have hQ2:Q' (bs.getD i false) s':=hQ'
  rw [this] at hQ2
  exact aZ3 hQ2
 ·have any_eq:(List.range its.toArray.size).any (fun i=>bs.getD i false)=bs.any id:=by
   rw [aR3,<- hl]
   clear q rv hz hl hq hlt p hh kp
   induction bs with
   | nil=>rfl
   | cons b r ih=>
    rw [aU1,List.range_succ_eq_map,aZ7,List.any_map,aZ7,<- ih]
    rfl
  rw [any_eq]
  refine⟨.bl (bs.any id),H,I.kept (t':=tk) (h':=h') fun b o e=>kp b o (fun z=>?_) (aQ1 _ e),rfl,q⟩
  rw [aR8.mp z] at e
  exact absurd (aR0 e) (aU2 _)
end
end L2
namespace Zp
open PySem PyProof.Rows
def fG (h:Heap) (t u:Addr):Heap:=
 ((((h.push { cls:=.type "tuple_iterator",data:=.fields #[.ref t,.int 0 0] }).push { cls:=.type "list_iterator",data:=.fields #[.ref u,.int 0 0] }).push { cls:=.type "tuple",data:=.seq #[.ref h.objs.size,.ref (h.objs.size+1)] }).push
  { cls:=.type "tuple",data:=.seq #[.none,.none] }).push { cls:=.type "zip",data:=.fields #[.none,.bool false,.bool false,.ref (h.objs.size+2),.ref (h.objs.size+3)] }
theorem aB3 (t u:Addr) (xs ys:Array Value):Meets (Builtin.«zip.__new__» ⟨[.type "zip",.ref t,.ref u],[]⟩) (fun _ R s=>s.heap.IsTuple t xs/\s.heap.IsList u ys/\R (.ok (.ret (.ref (s.heap.objs.size+4)))) { s with heap:=fG s.heap t u }):=
 .of_wp fun prog w A R s h=>by
  obtain ⟨hp,g,d,tk,os⟩:=s
  obtain ⟨ht,hu,h⟩:=h
  have sub:=sub_zip
  have a1:Heap.IsTuple (Shared.heap ⟨hp,g,d,tk,os⟩) t xs:=ht
  have a2:Heap.IsList (Shared.heap ⟨hp.push { cls:=.type "tuple_iterator",data:=.fields #[.ref t,.int 0 0] },g,d,tk,os⟩) u ys:=hu.push _
  wp_walk using aY9 a1,wpAny_pyIter_list a2
  have e:∀ (o:Obj) (k:Heap),(k.push o).objs.size=k.objs.size+1:=fun o k=>aX7 ..
  refine⟨_,rfl,?_⟩
  simp only [fG,e] at h ⊢
  exact h
section
variable {prog : Program} {w : World} {A : Around} {E : Value → Shared → Prop} {s : Shared}
theorem K8 {t u:Addr}{xs ys:Array Value}{Q:Value->Shared->Prop} (ht:s.heap.IsTuple t xs) (hu:s.heap.IsList u ys)
  (q:∀ h',IsZip h' (s.heap.objs.size+4) (s.heap.objs.size+2) (s.heap.objs.size+3) .none->IsPair h' (s.heap.objs.size+2) (.ref s.heap.objs.size) (.ref (s.heap.objs.size+1))->
   IsPair h' (s.heap.objs.size+3) .none .none->h'.IsTupleIter s.heap.objs.size t 0->h'.IsListIter (s.heap.objs.size+1) u 0->(∀ c o,s.heap.get? c=some o->h'.get? c=some o)->Q (.ref (s.heap.objs.size+4)) { s with heap:=h' }) :
  wpAny (model prog w) A (call (.type "zip") [.ref t,.ref u]) Q E s:=by
 refine callType_new PySem.F.called_zip (by decide) (PySem.F.typeCall_zip_2 _ _) (PySem.F.newCall_zip_2 _ _) (fun obj=>PySem.F.args_object_init_3 obj _ _) PySem.F.entry_zip_new (aB3 t u xs ys) ⟨ht,hu,?_⟩
 have e:∀ (o:Obj) (k:Heap),(k.push o).objs.size=k.objs.size+1:=fun o k=>aX7 ..
 have p0:∀ (k:Heap) (o:Obj) (m:Nat),o.isFreed=false->m=k.objs.size->(k.push o).get? m=some o:=fun k o m f z=>by rw [z]; exact aR5 _ f
 have g0:(fG s.heap t u).get? s.heap.objs.size=some { cls:=.type "tuple_iterator",data:=.fields #[.ref t,.int 0 0] }:=by
  unfold fG
  exact aQ1 _ (aQ1 _ (aQ1 _ (aQ1 _ (p0 _ _ _ rfl rfl))))
 have g1:(fG s.heap t u).get? (s.heap.objs.size+1)=some { cls:=.type "list_iterator",data:=.fields #[.ref u,.int 0 0] }:=by
  unfold fG
  exact aQ1 _ (aQ1 _ (aQ1 _ (p0 _ _ _ rfl (by simp only [e]))))
 have g2:(fG s.heap t u).get? (s.heap.objs.size+2)=some { cls:=.type "tuple",data:=.seq #[.ref s.heap.objs.size,.ref (s.heap.objs.size+1)] }:=by
  unfold fG
  exact aQ1 _ (aQ1 _ (p0 _ _ _ rfl (by simp only [e])))
 have g3:(fG s.heap t u).get? (s.heap.objs.size+3)=some { cls:=.type "tuple",data:=.seq #[.none,.none] }:=by
  unfold fG
  exact aQ1 _ (p0 _ _ _ rfl (by simp only [e]))
 have g4:(fG s.heap t u).get? (s.heap.objs.size+4)=some { cls:=.type "zip",data:=.fields #[.none,.bool false,.bool false,.ref (s.heap.objs.size+2),.ref (s.heap.objs.size+3)] }:=by
  unfold fG
  exact p0 _ _ _ rfl (by simp only [e])
 refine⟨⟨_,g4,rfl⟩,q _ g4 g2 g3 ⟨_,g0,rfl,rfl⟩ ⟨_,g1,rfl,rfl⟩ fun c o z=>?_⟩
 unfold fG
 exact aQ1 _ (aQ1 _ (aQ1 _ (aQ1 _ (aQ1 _ z))))
end
end Zp
namespace L2
open PySem PySem.Spec PyProof.Rows
def qQ (K:PySem.W.Frag) (a b:Addr):It:=
  ⟨fun i H=>∃ xs ys x y,aF K H a xs/\aH K H b ys/\xs[i]? = some x/\ys[i]? = some y,
   fun i H v H'=>∃ T x y,H T=none/\v = .ref T/\H'=upd H T (.tup [x,y])/\∀ xs ys,aF K H a xs->aH K H b ys->xs[i]? = some x/\ys[i]? = some y,
   fun i H=>∃ xs ys,aF K H a xs/\aH K H b ys/\(i=xs.length ∨ (i < xs.length/\i=ys.length))⟩
abbrev aB4:=pB true false
theorem K9 {P:Program}{w:World}{K:PySem.W.Frag}{elts:List Expr}{k:Nat}{pos:Pos} (a b z TI TO i1 i2:Addr) (d : [z,TI,TO,i1,i2].Nodup) :
  gA P w K (.Tuple elts k pos) (qQ K a b) [z,TI,TO,i1,i2] z (aB4 z TI TO i1 i2 a b):=tS true false a b z TI TO i1 i2 d
section
variable {X : Cx}
def aB5 (K:PySem.W.Frag) (ta:TA):TI:=fun σ H R=>ta σ H fun vs H1=>∃ a b xs ys,vs = [.ref a,.ref b]/\aF K H1 a xs/\aH K H1 b ys/\R (qQ K a b) H1
theorem aP8 {elts:List Expr}{kt:Nat}{pt:Pos}{a b:Expr}{ta:TA}{p pos:Pos} (hg:Gl X "zip") (hm:X.mg "zip" = none) (ha:PA X [a,b] ta) (hs:starEach [a,b] X.env = [(false,eval a X.env),(false,eval b X.env)]:=by rfl) (hs2:starEach [b] X.env = [(false,eval b X.env)]:=by rfl) :
  PI X (.Tuple elts kt pt) (.Call (.Name "zip" p) [a,b] [] pos) (aB5 X.K ta):=by
 intro pins s σ H R I h
 refine Call_ (gS I hg hm PyProof.Rows.boot_zip (aU7 (aK (ha pos pins s σ H _ I h) fun us s1 ⟨vs,H1,I1,r1,q1⟩=>?_) (by rw [hs,hs2]) (by rw [hs2]; rfl)))
 obtain ⟨a',b',xs,ys,e,h1,h2,q⟩:=q1
 subst e
 cases r1 with
 | cons r rr=>
  cases rr with
  | cons r' rr=>
   cases rr
   cases r
   cases r'
   obtain ⟨us,_,p1,_⟩:=I1.tuple h1
   obtain ⟨ws,_,p2,_⟩:=I1.list h2
   refine Zp.K8 p1 p2.isList fun h' z ti to s1' s2' kp=>wpAny_pyIter_zip z ?_
   have fresh:∀ k,H1 (s1.heap.objs.size+k)=none:=fun k=>I1.hok.fresh (aS0 _ _)
   refine⟨s1.heap.objs.size+4,[s1.heap.objs.size+4,s1.heap.objs.size+2,s1.heap.objs.size+3,s1.heap.objs.size,s1.heap.objs.size+1],_,_,H1,rfl,I1.kept (t':=s1.toks) kp,
    K9 a' b' _ _ _ _ _ (by simp),⟨z,ti,⟨_,_,to⟩,s1',s2'⟩,fun c hc=>?_,q⟩
   simp only [aQ2,aQ4,aS6] at hc
   rcases hc with rfl | rfl | rfl | rfl | rfl
   ·exact I1.fpOk (aS0 _ _) (fresh 4)
   ·exact I1.fpOk (aS0 _ _) (fresh 2)
   ·exact I1.fpOk (aS0 _ _) (fresh 3)
   ·exact I1.fpOk (aQ6 _) (fresh 0)
   ·exact I1.fpOk (aS0 _ _) (fresh 1)
end
section
variable {X : Cx}
def L4 (K:PySem.W.Frag) (ta:TA):TI:=fun σ H R=>ta σ H fun vs H1=>∃ a b,vs = [.ref a,.ref b]/\((∃ xs ys,aF K H1 a xs/\aF K H1 b ys/\R (jE K a b) H1) ∨ ∃ xs ys,aF K H1 a xs/\aH K H1 b ys/\R (qQ K a b) H1)
theorem aB6 {elts:List Expr}{kt:Nat}{pt:Pos}{a b:Expr}{ta:TA}{p pos:Pos} (hg:Gl X "zip") (hm:X.mg "zip" = none) (ha:PA X [a,b] ta) (hs:starEach [a,b] X.env = [(false,eval a X.env),(false,eval b X.env)]:=by rfl) (hs2:starEach [b] X.env = [(false,eval b X.env)]:=by rfl) :
  PI X (.Tuple elts kt pt) (.Call (.Name "zip" p) [a,b] [] pos) (L4 X.K ta):=by
 intro pins s σ H R I h
 refine Call_ (gS I hg hm PyProof.Rows.boot_zip (aU7 (aK (ha pos pins s σ H _ I h) fun us s1 ⟨vs,H1,I1,r1,q1⟩=>?_) (by rw [hs,hs2]) (by rw [hs2]; rfl)))
 obtain ⟨a',b',e,q1⟩:=q1
 rcases q1 with ⟨xs,ys,h1,h2,q⟩ | ⟨xs,ys,h1,h2,q⟩
 ·subst e
  cases r1 with
  | cons r rr=>
   cases rr with
   | cons r' rr=>
    cases rr
    cases r
    cases r'
    obtain ⟨us,_,p1,_⟩:=I1.tuple h1
    obtain ⟨ws,_,p2,_⟩:=I1.tuple h2
    refine Zp.zG p1 p2 fun h' z ti to s1' s2' kp=>wpAny_pyIter_zip z ?_
    have fresh:∀ k,H1 (s1.heap.objs.size+k)=none:=fun k=>I1.hok.fresh (aS0 _ _)
    refine⟨s1.heap.objs.size+4,[s1.heap.objs.size+4,s1.heap.objs.size+2,s1.heap.objs.size+3,s1.heap.objs.size,s1.heap.objs.size+1],_,_,H1,rfl,I1.kept (t':=s1.toks) kp,
     zI a' b' _ _ _ _ _ (by simp),⟨z,ti,⟨_,_,to⟩,s1',s2'⟩,fun c hc=>?_,q⟩
    simp only [aQ2,aQ4,aS6] at hc
    rcases hc with rfl | rfl | rfl | rfl | rfl
    ·exact I1.fpOk (aS0 _ _) (fresh 4)
    ·exact I1.fpOk (aS0 _ _) (fresh 2)
    ·exact I1.fpOk (aS0 _ _) (fresh 3)
    ·exact I1.fpOk (aQ6 _) (fresh 0)
    ·exact I1.fpOk (aS0 _ _) (fresh 1)
 ·subst e
  cases r1 with
  | cons r rr=>
   cases rr with
   | cons r' rr=>
    cases rr
    cases r
    cases r'
    obtain ⟨us,_,p1,_⟩:=I1.tuple h1
    obtain ⟨ws,_,p2,_⟩:=I1.list h2
    refine Zp.K8 p1 p2.isList fun h' z ti to s1' s2' kp=>wpAny_pyIter_zip z ?_
    have fresh:∀ k,H1 (s1.heap.objs.size+k)=none:=fun k=>I1.hok.fresh (aS0 _ _)
    refine⟨s1.heap.objs.size+4,[s1.heap.objs.size+4,s1.heap.objs.size+2,s1.heap.objs.size+3,s1.heap.objs.size,s1.heap.objs.size+1],_,_,H1,rfl,I1.kept (t':=s1.toks) kp,
     K9 a' b' _ _ _ _ _ (by simp),⟨z,ti,⟨_,_,to⟩,s1',s2'⟩,fun c hc=>?_,q⟩
    simp only [aQ2,aQ4,aS6] at hc
    rcases hc with rfl | rfl | rfl | rfl | rfl
    ·exact I1.fpOk (aS0 _ _) (fresh 4)
    ·exact I1.fpOk (aS0 _ _) (fresh 2)
    ·exact I1.fpOk (aS0 _ _) (fresh 3)
    ·exact I1.fpOk (aQ6 _) (fresh 0)
    ·exact I1.fpOk (aS0 _ _) (fresh 1)
end
end L2
namespace PP
open PySem L2 PyProof.Rows
section
variable {X : Cx} {a b e : Expr} {ta tb te : aG} {tr : cO} {pos p2 : Pos}
def hU:List PV->(PV->Prop)->Prop:=fun xs Q=>∃ x ns,xs = [x]/\iF x=some (intz ns)/\Q (.int ns.sum)
theorem aB7:dW X hU (fun xs H Q=>∃ (a:Addr) (ns:List Int),xs = [.ref a]/\(aH X.K H a (ns.map V.int) ∨ aF X.K H a (ns.map V.int))/\Q (.int ns.sum) H):=by
 rintro H vs xs Q Q' r ⟨x,ns,rfl,e,q⟩ k
 obtain ⟨v,rfl,r1⟩:=r.one
 obtain ⟨a,us,rfl,hs,r2⟩:=r1.seq e
 obtain rfl:=r2.ofInts
 exact⟨a,ns,rfl,hs,k _ _ _ (aB.refl _) (.int _) q⟩
theorem lV (B:Bt X.mg) (hc:X.calm=true) (ha:QA X [e] tr) (hg:Gl X "sum":=by rfl) (he:starEach [e] X.env=(false,eval e X.env) :: starEach [] X.env:=by rfl) (hpl:(backTo pos (starEach [] X.env)).any (·.1)=false:=by rfl):QE X (.Call (.Name "sum" p2) [e] [] pos) (aE hU tr):=
 iP (aB1 hc) aB7 hg B.sum PyProof.Rows.boot_sum ha (he:=he) (hpl:=hpl)
def vH:List PV->(PV->Prop)->Prop:=fun xs Q=>∃ bs:List Bool,xs = [.lst (bs.map PV.bl)]/\Q (.bl (bs.any id))
theorem aB8:dW X vH (fun xs H Q=>∃ (a:Addr) (bs:List Bool),xs = [.ref a]/\aH X.K H a (bs.map V.bl)/\Q (.bl (bs.any id)) H):=by
 rintro H vs xs Q Q' r ⟨bs,rfl,q⟩ k
 obtain ⟨v,rfl,r1⟩:=r.one
 obtain ⟨a,us,rfl,_,h,r2⟩:=r1.sqL
 obtain rfl:=r2.ofBls
 exact⟨a,bs,rfl,aH.of h,k _ _ _ (aB.refl _) (.bl _) q⟩
theorem aB9 (B:Bt X.mg) (hc:X.calm=true) (ha:QA X [e] tr) (hg:Gl X "any":=by rfl) (he:starEach [e] X.env=(false,eval e X.env) :: starEach [] X.env:=by rfl) (hpl:(backTo pos (starEach [] X.env)).any (·.1)=false:=by rfl):QE X (.Call (.Name "any" p2) [e] [] pos) (aE vH tr):=
 iP (aB2 hc) aB8 hg B.any PyProof.Rows.boot_any ha (he:=he) (hpl:=hpl)
end
def iT (xs ys:List PV):List PV:=List.zipWith (fun x y=>PV.tup [x,y]) xs ys
theorem qR (xs ys:List PV):(iT xs ys).length=min xs.length ys.length:=by unfold iT; rw [List.length_zipWith]
theorem L5 {xs ys:List PV}{i:Nat}{x y:PV} (h:xs[i]? = some x) (h':ys[i]? = some y):(iT xs ys)[i]? = some (.tup [x,y]):=by
 unfold iT; rw [List.getElem?_zipWith,h,h']
theorem aC0 {xs ys:List PV}{i:Nat}{z:PV} (h:(iT xs ys)[i]? = some z):∃ x y,xs[i]? = some x/\ys[i]? = some y/\z = .tup [x,y]:=by
 unfold iT at h
 rw [List.getElem?_zipWith] at h
 cases e:xs[i]? with
 | none=>rw [e] at h; cases h
 | some x=>
  cases e':ys[i]? with
  | none=>rw [e,e'] at h; cases h
  | some y=>rw [e,e'] at h; exact⟨x,y,rfl,rfl,(aS7 h).symm⟩
def lW (ta tb:aG):dZ:=fun ρ Q=>ta ρ fun x _=>tb ρ fun y g=>∃ xs ys,x = .tup xs/\flats xs=true/\(y = .lst ys ∨ y = .tup ys)/\(g = .rd->flat y=true)/\Q (iT xs ys) (gF g ys)
theorem aC1 {K:PySem.W.Frag}{H0:Hp}{W:Addr->Prop}{g:Bool}{H1:Hp}{a b:Addr}{us vs:List V}{xs ys:List PV} (tw:∀ a,W a->∃ o,H1 a=some o/\eU o=true) (ha:∀ W' H',Ev W H1 W' H'->aF K H' a us) (hb:∀ W' H',Ev W H1 W' H'->aF K H' b vs)
  (r:Reps K (Ms H0 W g) H1 us xs) (r':Reps K (Ms H0 W g) H1 vs ys):jF K H0 W g H1 (jE K a b) (iT xs ys):=by
 have lr:=r.length
 have lr':=r'.length
 have ll:=qR xs ys
 refine⟨fun W' H' i e hi=>⟨us,vs,us[i]'(by omega),vs[i]'(by omega),ha W' H' e,hb W' H' e,by simp,by simp⟩,fun W' H' i v H2 e y hi=>?_,fun W' H' e=>⟨us,vs,ha W' H' e,hb W' H' e,by omega⟩⟩
 obtain ⟨T,x,y',hT,rfl,rfl,y⟩:=y
 obtain ⟨h1,h2⟩:=y us vs (ha W' _ e) (hb W' _ e)
 obtain ⟨z,hz,rz⟩:=r.get h1
 obtain ⟨z',hz',rz'⟩:=r'.get h2
 have sm:=b6 hT (HO.tup [x,y'])
 exact⟨sm,_,L5 hz hz',.tup aZ (.cons ((rz.keep (e.keep tw)).same sm fun _ q=>q) (.cons ((rz'.keep (e.keep tw)).same sm fun _ q=>q) .nil))⟩
theorem aC2 {K:PySem.W.Frag}{H0:Hp}{W:Addr->Prop}{g:Bool}{H1:Hp}{a b:Addr}{us vs:List V}{xs ys:List PV} (tw:∀ a,W a->∃ o,H1 a=some o/\eU o=true) (ha:∀ W' H',Ev W H1 W' H'->aF K H' a us) (hb:∀ W' H',Ev W H1 W' H'->aH K H' b vs)
  (r:Reps K (Ms H0 W g) H1 us xs) (r':Reps K (Ms H0 W g) H1 vs ys):jF K H0 W g H1 (qQ K a b) (iT xs ys):=by
 have lr:=r.length
 have lr':=r'.length
 have ll:=qR xs ys
 refine⟨fun W' H' i e hi=>⟨us,vs,us[i]'(by omega),vs[i]'(by omega),ha W' H' e,hb W' H' e,by simp,by simp⟩,fun W' H' i v H2 e y hi=>?_,fun W' H' e=>⟨us,vs,ha W' H' e,hb W' H' e,by omega⟩⟩
 obtain ⟨T,x,y',hT,rfl,rfl,y⟩:=y
 obtain ⟨h1,h2⟩:=y us vs (ha W' _ e) (hb W' _ e)
 obtain ⟨z,hz,rz⟩:=r.get h1
 obtain ⟨z',hz',rz'⟩:=r'.get h2
 have sm:=b6 hT (HO.tup [x,y'])
 exact⟨sm,_,L5 hz hz',.tup aZ (.cons ((rz.keep (e.keep tw)).same sm fun _ q=>q) (.cons ((rz'.keep (e.keep tw)).same sm fun _ q=>q) .nil))⟩
section
variable {X : Cx} {σ : L2.St} {H : Hp} {ta tb : aG} {R : It → Hp → Prop}
theorem aC3 (h:LI X (lW ta tb) σ H R):L4 X.K (fN (LE X ta) (fN (LE X tb) gU)) σ H R:=by
 obtain ⟨W,ρ,Q,px,q,k⟩:=h
 refine⟨W,ρ,_,px,q,fun v0 H0 x0 g0 s0 r0 q0=>⟨W,ρ,_,px.mono s0,q0,?_⟩⟩
 rintro v H1 x g s r ⟨xs,ys,rfl,fx,hy,hg,q⟩
 have S:=s0.trans s
 have px1:=px.mono S
 have tw:∀ a,W a->∃ o,H1 a=some o/\eU o=true:=fun a z=>(px1.wm a z).2
 obtain ⟨a,us,rfl,h1,ra⟩:=(r0.same (M':=fun _=>True) s fun _ _=>trivial).sqT
 have ra2:Reps X.K (Ms X.H₀ W (gF g ys)) H1 us xs:=ra.flat fx
 have sta:∀ W' H',Ev W H1 W' H'->aF X.K H' a us:=fun W' H' e=>aF.of (e _ _ h1 fun z=>by obtain ⟨o,h',mu⟩:=tw _ z; rw [h1] at h'; cases h'; cases mu).1
 have rr:=r.same (M':=Mg X.H₀ W H g) (aB.refl _) fun c hc=>by
  cases g with
  | fr=>exact s0.free hc
  | nw=>exact hc
  | sh=>exact hc
  | rd=>exact hc
 rcases hy with rfl | rfl
 ·obtain ⟨b,vs,rfl,m,h,rb⟩:=rr.sqL
  have wa : ¬ W b:=by
   cases g with
   | fr=>exact (px.new m).1
   | nw=>exact m.1
   | sh=>exact m
   | rd=>have:=hg rfl; unfold flat at this; cases this
  exact⟨a,b,rfl,.inr ⟨us,vs,aF.of h1,aH.of h,k _ _ _ _ S (aC2 tw sta (fun W' H' e=>aH.of (e _ _ h wa).1) ra2 (jG px (fun z=>by have:=hg z; unfold flat at this; cases this) rb)) q⟩⟩
 ·obtain ⟨b,vs,rfl,h,rb⟩:=rr.sqT
  refine⟨a,b,rfl,.inl ⟨us,vs,aF.of h1,aF.of h,k _ _ _ _ S (aC1 tw sta (fun W' H' e=>aF.of (e _ _ h fun z=>?_).1) ra2 (jG px (fun z=>by have:=hg z; unfold flat at this; exact this) rb)) q⟩⟩
  obtain ⟨o,h',mu⟩:=tw _ z; rw [h] at h'; cases h'; cases mu
theorem vI {elts:List Expr}{kt:Nat}{pt p2 pos:Pos}{a b:Expr} (B:Bt X.mg) (ha:QE X a ta) (hb:QE X b tb) (hg:Gl X "zip":=by rfl) (hs:starEach [a,b] X.env = [(false,eval a X.env),(false,eval b X.env)]:=by rfl) (hs2:starEach [b] X.env = [(false,eval b X.env)]:=by rfl):QI X (.Tuple elts kt pt) (.Call (.Name "zip" p2) [a,b] [] pos) (lW ta tb):=
 nJ (aB6 hg B.zip (bO ha (bO hb cK hs2) (by rw [hs,hs2])) hs hs2) fun _ _ _=>aC3
end
end PP
namespace Core
open PySem L2 PP
def L6:bD:=fun xs Q=>∃ (x:PV) (ns:List Int) (m:Nat),xs = [x,.int m]/\bX x ns/\ns.length=m/\m<=1000000/\(∀ w ∈ ns,0<=w)/\Q (.tup (intz ns))
def cA (zs:List ((Int × Int) × Int)) (k:Int):List (Int × Int):=zs.flatMap fun z=>(if z.1.1=k then [(z.1.2,z.2)] else []) ++ (if z.1.2=k then [(z.1.1,z.2)] else [])
theorem aC4 {zs:List ((Int × Int) × Int)}{i:Nat}{z:(Int × Int) × Int} (h:zs[i]? = some z) (k:Int):cA (zs.take (i+1)) k=cA (zs.take i) k ++ ((if z.1.1=k then [(z.1.2,z.2)] else []) ++ (if z.1.2=k then [(z.1.1,z.2)] else [])):=by
 rw [aV9,h]
 unfold cA; rw [List.flatMap_append]; simp
theorem vJ (k:Int):∀ zs:List ((Int × Int) × Int),(cA zs k).length<=2 * zs.length
 | []=>aQ6 _
 | z :: r=>by
  have e:cA (z :: r) k=((if z.1.1=k then [(z.1.2,z.2)] else []) ++ (if z.1.2=k then [(z.1.1,z.2)] else [])) ++ cA r k:=rfl
  have ih:=vJ k r
  rw [e,aQ8,aQ8,aU1]
  have h1:(if z.1.1=k then [(z.1.2,z.2)] else []).length<=1:=by split <;> simp
  have h2:(if z.1.2=k then [(z.1.1,z.2)] else []).length<=1:=by split <;> simp
  omega
def qS (n:Nat) (zs:List ((Int × Int) × Int)):List PV:=(List.range n).map fun (k:Nat)=>PV.lst (cE (cA zs k))
def qT:bD:=fun xs Q=>∃ ws ls x wts,xs = [bG ws ls,x]/\Wb ws ls/\bX x wts/\wts.length=ls.length/\(∀ w ∈ wts,0<=w)/\Q (.lst (qS ws.length (ls.zip wts)))
end Core
namespace L2
open PySem Core
structure fY (H H':Hp) (r:Addr) (bs:List Addr) (f:Nat->List (Int × Int)):Prop where
 new:H r=none
 news:∀ b ∈ bs,H b=none/\b ≠ r
 nd:bs.Nodup
 row:H' r=some (.lst (bs.map V.ref))
 rows:∀ (k:Nat) (b:Addr),bs[k]? = some b->∃ us,H' b=some (.lst us)/\cZ H' us (f k)
 same:aB H H'
theorem fY.congr {H H':Hp}{r:Addr}{bs:List Addr}{f g:Nat->List (Int × Int)} (h:fY H H' r bs f) (e:∀ k,k < bs.length->f k=g k):fY H H' r bs g:=
 ⟨h.new,h.news,h.nd,h.row,fun k b hb=>by rw [<- e k (aQ7.mp hb).1]; exact h.rows k b hb,h.same⟩
theorem fY.mono {H H' H2:Hp}{r:Addr}{bs:List Addr}{f:Nat->List (Int × Int)} (h:fY H H' r bs f) (s:aB H' H2):fY H H2 r bs f:=
 ⟨h.new,h.news,h.nd,s _ _ h.row,fun k b hb=>let ⟨us,h1,h2⟩:=h.rows k b hb; ⟨us,s _ _ h1,h2.mono s⟩,h.same.trans s⟩
theorem cZ.upd {H:Hp}{b:Addr}{o:HO}{vs:List V} (hb:H b=some (.lst vs)):∀ {ys:List V}{ls:List (Int × Int)},cZ H ys ls->cZ (upd H b o) ys ls
 | _,_,.nil=>.nil
 | _,_,.cons ⟨c,h1,h2⟩ t=>.cons ⟨c,h1,by rw [aJ (fun z=>by rw [z,hb] at h2; cases h2)]; exact h2⟩ (cZ.upd hb t)
theorem fY.app {H H':Hp}{r:Addr}{bs:List Addr}{f:Nat->List (Int × Int)} (h:fY H H' r bs f) {k:Nat}{b T:Addr}{us:List V} (hb:bs[k]? = some b) (hu:H' b=some (.lst us)) (hl:cZ H' us (f k)) {x:Int × Int} (hT:H' T=some (.tup [.int x.1,.int x.2])) :
  fY H (upd H' b (.lst (us ++ [V.ref T]))) r bs (fun j=>if j=k then f j ++ [x] else f j):=by
 have hm:b ∈ bs:=aT1 hb
 refine⟨h.new,h.news,h.nd,by rw [aJ (Ne.symm (h.news b hm).2)]; exact h.row,fun j c hc=>?_,fun c o e=>by rw [aJ (bS e (h.news b hm).1)]; exact h.same c o e⟩
 by_cases hj:j=k
 ·subst hj
  rw [hb] at hc; cases hc
  refine⟨us ++ [V.ref T],aZ,?_⟩
  rw [if_pos rfl]
  have h1:=cZ.upd (o:=.lst (us ++ [V.ref T])) hu hl
  have h2:cZ (L2.upd H' b (.lst (us ++ [V.ref T]))) [V.ref T] [x]:=.cons ⟨T,rfl,by rw [aJ (fun z=>by rw [z,hu] at hT; cases hT)]; exact hT⟩ .nil
  generalize L2.upd H' b (.lst (us ++ [V.ref T]))=H2 at h1 h2
  clear hl hu
  generalize f j=l at h1
  induction h1 with
  | nil=>exact h2
  | cons a t ih=>exact .cons a ih
 ·rw [if_neg hj]
  have ne:c ≠ b:=fun z=>by
   subst z
   obtain ⟨i1,e1⟩:=aQ7.mp hb
   obtain ⟨i2,e2⟩:=aQ7.mp hc
   refine hj (Nat.le_antisymm (aZ1 fun z=>?_) (aZ1 fun z=>?_))
   ·exact aY1.mp h.nd _ _ i1 i2 z (e1.trans e2.symm)
   ·exact aY1.mp h.nd _ _ i2 i1 z (e2.trans e1.symm)
  obtain ⟨vs,h1,h2⟩:=h.rows j c hc
  exact⟨vs,by rw [aJ ne]; exact h1,h2.upd hu⟩
theorem aC5 {K:PySem.W.Frag}{a b:Addr}{xs ys:List V}{g:TG}{tb:TS}{D:cR}{σ:St}{H:Hp} (Pv:Nat->St->Hp->Prop) (hxy:ys.length=xs.length) (h0:Pv 0 σ H) (hl:∀ i σ H,i<=xs.length->Pv i σ H->aF K H a xs/\aF K H b ys)
  (hs:∀ i x y T σ H H',xs[i]? = some x->ys[i]? = some y->H T=none->H'=upd H T (.tup [x,y])->Pv i σ H->g (.ref T) σ H' fun σ2 H2=>tb { D with nx:=Pv (i+1),ct:=Pv (i+1),bk:=D.nx } σ2 H2) (hd:∀ σ H,Pv xs.length σ H->D.nx σ H) :
  ∃ W:Nat->Nat->St->Hp->Prop,(∃ m,W 0 m σ H)/\∀ i m σ H,W i m σ H->
   ((jE K a b).stop i H/\D.nx σ H) ∨ ((jE K a b).go i H/\∃ N:St->Hp->Prop,(∀ σ' H',N σ' H'->∃ m',m' < m/\W (i+1) m' σ' H')/\∀ x H',(jE K a b).yld i H x H'->g x σ H' fun σ2 H2=>tb { D with nx:=N,ct:=N,bk:=D.nx } σ2 H2):=by
 refine⟨fun i m σ H=>m=xs.length - i/\i<=xs.length/\Pv i σ H,⟨xs.length,by simp,aT7 _,h0⟩,?_⟩
 rintro i m σ H ⟨rfl,hi,p⟩
 obtain ⟨q1,q2⟩:=hl i σ H hi p
 by_cases hlt:i < xs.length
 ·refine .inr ⟨⟨xs,ys,xs[i],ys[i]'(by omega),q1,q2,by simp,by simp⟩,Pv (i+1),fun σ' H' p'=>⟨xs.length - (i+1),by omega,rfl,hlt,p'⟩,fun x H' y=>?_⟩
  obtain ⟨T,x,y',hT,rfl,e,y⟩:=y
  obtain ⟨h1,h2⟩:=y xs ys q1 q2
  exact hs i x y' T σ H H' h1 h2 hT e p
 ·have e:i=xs.length:=by omega
  subst e
  exact .inl ⟨⟨xs,ys,q1,q2,.inl rfl⟩,hd σ H p⟩
end L2
namespace PP
open PySem L2 Core
def vK (K:PySem.W.Frag):Sp:=fun vs H Q _=>∃ v x px ws ls wts,vs = [v,x]/\tP H v ws ls/\aL K (fun _=>True) H x px/\bX px wts/\wts.length=ls.length/\(∀ y ∈ wts,0<=y)/\ws.length<=1000/\ls.length<=2000/\(∀ l ∈ ls,(0<=l.1/\l.1 < ws.length)/\0<=l.2/\l.2 < ws.length)/\
 ∀ (r:Addr) (bs:List Addr) (H':Hp),bs.length=ws.length->fY H H' r bs (fun k=>cA (ls.zip wts) k)->Q (.ref r) H'
theorem L7 {K:PySem.W.Frag}{M:Addr->Prop}{H:Hp}:∀ {us:List V}{l:List (Int × Int)},cZ H us l->Reps K M H us (cE l)
 | _,_,.nil=>.nil
 | _,_,.cons ⟨b,h1,h2⟩ t=>.cons (by rw [h1]; exact .tup h2 (.cons (.int _) (.cons (.int _) .nil))) (L7 t)
theorem L8 {K:PySem.W.Frag}{M:Addr->Prop}{H:Hp}{zs:List ((Int × Int) × Int)}:∀ {bs:List Addr} (off:Nat),(∀ b ∈ bs,M b)->(∀ (k:Nat) b,bs[k]? = some b->∃ us,H b=some (.lst us)/\cZ H us (cA zs ((off+k:Nat):Int)))->Reps K M H (bs.map V.ref) ((List.range' off bs.length).map fun (k:Nat)=>PV.lst (cE (cA zs k)))
 | [],_,_,_=>.nil
 | b :: bs,off,hm,h=>by
  obtain ⟨us,h1,h2⟩:=h 0 b rfl
  refine .cons (.lst (hm b aR2) h1 (L7 h2)) (L8 (off+1) (fun c hc=>hm c (aR1 _ hc)) fun k c hk=>?_)
  have:=h (k+1) c (by rw [aX6]; exact hk)
  rw [show off+1+k=off+(k+1) by omega]; exact this
end PP
namespace Core
open PySem L2 PP
def jU (want:Int) (hs:List Int) (c:PV):Prop:=((hs.length:Int) < want/\c = .non) ∨ (want<=(hs.length:Int)/\∃ zs:List Int,zs.Perm hs/\zs.Pairwise (· <= ·)/\c = .int (zs.take want.toNat).sum)
theorem aC6 {ns:List Int}{w:Int} (h:0<=w):eY (intz ns) none (some w)=intz (ns.take w.toNat):=by
 rw [K6 h]; exact List.map_take.symm
def nV:bD:=fun xs Q=>∃ want l,xs = [.int want,.lst (cE l)]/\l.length < 64/\0<=want/\∀ c,jU want (l.map (·.2)) c->Q c
def L9:aN:=(aI (bR (aU (nH (a5 0) (aE dY (a6 (a5 1) a9)))) (aY (qC .non)) bQ)
 (aY (aE hU (a6 (eB (aE nD (a6 (cH (cD (a5 1)) [none,none] (eW 0 1) dA (a5 1)) a9)) e8 (e9 (a5 0))) a9))))
theorem aC7:dE L9 ["want","beside"] nV:=by
 rintro xs Q ⟨want,l,rfl,hl,w0,q⟩
 refine⟨_,rfl,_,rfl,_,_,rfl,rfl,_,_,rfl,rfl,_,rfl,?_⟩
 rw [lT]
 by_cases h:(l.length:Int) < want
 ·dsimp only
  rw [aR9 h]
  exact b4 ⟨trivial,q _ (.inl ⟨by rw [aQ3]; exact h,rfl⟩)⟩
 ·dsimp only
  rw [aR4 h]
  refine aP ⟨_,rfl,_,rfl,(fun z=>by cases z),by rw [lT]; omega,fun i acc=>acc=intz ((l.take i).map (·.2)),rfl,?_,?_⟩
  ·rintro i y acc hy rfl
   unfold cE at hy
   rw [aR6] at hy
   cases ht:l[i]? with
   | none=>rw [ht] at hy; cases hy
   | some z=>
    rw [ht] at hy
    cases hy
    refine⟨_,_,rfl,_,rfl,lS _ _,?_⟩
    show intz _ ++ [PV.int z.2]=intz ((l.take (i+1)).map (·.2))
    rw [nM ht,gK]; rfl
  ·rintro acc rfl
   rw [lT,aT6]
   refine⟨_,rfl,by rw [aQ3]; exact hl,fun zs zp zo=>⟨_,rfl,_,rfl,_,rfl,cN _,?_⟩⟩
   refine⟨_,zs.take want.toNat,rfl,congrArg some (aC6 w0),trivial,q _ (.inr ⟨by rw [aQ3]; omega,zs,zp,zo,rfl⟩)⟩
def vL:bD:=fun xs Q=>∃ ws ls x wts,xs = [bG ws ls,x]/\eF (ws.length:Int) ws ls/\ws.length<=40/\bX x wts/\wts.length=ls.length/\(∀ w ∈ wts,0<=w)/\
 ∀ cs,cs.length=ws.length->(∀ h:Nat,h < ws.length->∃ c,cs[h]? = some c/\jU (ws.getD h 0) ((cA (ls.zip wts) h).map (·.2)) c)->Q (.lst cs)
def aC8:aN:=(aY (cH (lW (bI (a5 0) (qC (.int 0))) (aE qT (a6 (a5 0) (a6 (a5 1) a9)))) [none,none] (eW 0 1) dA (aE nV (a6 (a5 0) (a6 (a5 1) a9)))))
theorem aC9 {zs:List ((Int × Int) × Int)}{k:Int} (h:∀ z ∈ zs,z.1.1 ≠ z.1.2):(cA zs k).map (·.2)=(zs.filter fun z=>decide (k ∈ [z.1.1,z.1.2])).map (·.2):=by
 induction zs with
 | nil=>rfl
 | cons z r ih=>
  have e:cA (z :: r) k=((if z.1.1=k then [(z.1.2,z.2)] else []) ++ (if z.1.2=k then [(z.1.1,z.2)] else [])) ++ cA r k:=rfl
  have h0:=h z aR2
  rw [e,aS9,ih fun y hy=>h y (aR1 _ hy),List.filter_cons]
  by_cases e1:z.1.1=k
  ·rw [if_pos e1,if_neg (fun e2=>h0 (e1.trans e2.symm)),if_pos (aR9 (by rw [e1]; exact aR2))]; rfl
  ·by_cases e2:z.1.2=k
   ·rw [if_neg e1,if_pos e2,if_pos (aR9 (by rw [e2]; exact aR1 _ aR2))]; rfl
   ·rw [if_neg e1,if_neg e2,if_neg (by simp; exact⟨fun q=>e1 q.symm,fun q=>e2 q.symm⟩)]; rfl
theorem aD0 {n:Int}{ws:List Int}{ls:List (Int × Int)}{wts:List Int} (w:eF n ws ls) (k:Int):(cA (ls.zip wts) k).length<=63:=by
 have h:∀ z ∈ ls.zip wts,z.1.1 ≠ z.1.2:=fun z hz=>by
  have:=w.inn z.1 (List.of_mem_zip hz).1
  omega
 have e:=congrArg List.length (aC9 (k:=k) h)
 rw [aQ3,aQ3] at e
 have:=List.length_filter_le (fun z=>decide (k ∈ [z.1.1,z.1.2])) (ls.zip wts)
 rw [List.length_zip] at this
 have:=w.most
 omega
theorem aD1:dE aC8 ["web","weights"] vL:=by
 rintro xs Q ⟨ws,ls,x,wts,rfl,w,few,hx,hwl,hwp,q⟩
 have wb:=w.wb (by omega)
 refine⟨_,rfl,_,_,_,rfl,rfl,rfl,_,rfl,_,rfl,ws,ls,x,wts,rfl,wb,hx,hwl,hwp,_,_,rfl,cN _,.inl rfl,(fun z=>by cases z),?_,fun i acc=>acc.length=i/\∀ h:Nat,h < i->∃ c,acc[h]? = some c/\jU (ws.getD h 0) ((cA (ls.zip wts) h).map (·.2)) c,⟨rfl,fun h z=>absurd z (Nat.not_lt_zero _)⟩,?_,?_⟩
 ·rw [qR,c9]; omega
 ·rintro i y acc hy ⟨hl,ha⟩
  obtain ⟨a,b,h1,h2,rfl⟩:=aC0 hy
  obtain ⟨n,rfl,hn⟩:=jQ h1
  have il:i < ws.length:=(aQ7.mp hn).1
  unfold qS at h2
  rw [aR6,List.getElem?_range il] at h2
  cases h2
  have n63:=aD0 (wts:=wts) w (i:Int)
  have gd:ws.getD i 0=n:=by rw [aS2,hn]; rfl
  refine⟨_,_,rfl,_,rfl,_,rfl,n,cA (ls.zip wts) i,rfl,by omega,w.pos n (aT1 hn),fun c hc=>⟨trivial,?_⟩⟩
  refine⟨by rw [aQ8,hl]; rfl,fun h hh=>?_⟩
  by_cases e:h=i
  ·subst e
   exact⟨c,by rw [List.getElem?_append_right (by omega),hl,Nat.sub_self]; rfl,by rw [gd]; exact hc⟩
  ·obtain ⟨c',h1,h2⟩:=ha h (by omega)
   exact⟨c',by rw [List.getElem?_append_left (by omega)]; exact h1,h2⟩
 ·rintro acc ⟨hl,ha⟩
  rw [qR,c9] at hl ha
  have ln:(qS ws.length (ls.zip wts)).length=ws.length:=by unfold qS; rw [aQ3,aZ5]
  exact⟨trivial,q acc (by omega) fun h hh=>ha h (by omega)⟩
def nW:bD:=aw6
def M0:aN:=(aI (bR (pG (aU (fD (b5 (bK (a5 2) (qC (.int 4))) (qC (.int 2))) (qC (.int 1)))) (aU (iM (a5 1) (qC (.int 9))))) (aY (aE nQ (a6 (aE eD (a6 (a5 0) (a6 (qC (.int 0)) a9))) (a6 (aE eD (a6 (a5 0) (a6 (qC (.int 1)) a9))) (a6 (a5 1) (a6 (bI (bV (a6 (qC (.int 4)) (a6 (qC (.int 3)) (a6 (qC (.int 6)) (a6 (qC (.int 61)) a9))))) (b5 (a5 2) (qC (.int 4)))) a9)))))) bQ)
 (aI (eV 3 (bV a9))
 (aI (cG (iI (a5 1)) (bA 4)
  (aI (aV 5 (aE eD (a6 (a5 0) (a6 (a5 4) a9))))
  (iG 3 (bI (bV (a6 (b5 (bK (a5 5) (qC (.int 5))) (qC (.int 4))) (a6 (b5 (bK (a5 5) (qC (.int 5))) (qC (.int 3))) (a6 (b5 (bK (a5 5) (qC (.int 5))) (qC (.int 6))) (a6 (b5 (bK (a5 5) (qC (.int 5))) (qC (.int 61))) a9))))) (b5 (a5 2) (qC (.int 4)))))))
 (aI (eV 6 (qC (.dT [])))
 (aI (cG (cD (a5 0)) (bA 5)
  (bR (aU (nH (a5 1) (qC (.int 1)))) (aI (aV 7 (b5 (a5 5) (a5 1)))
   (aI (aV 8 (b5 (bK (b5 (A8 (b5 (a5 5) (qC (.int 1000000007))) (qC (.int 48271))) (qC (.int 2147483647))) (qC (.int 89))) (a5 1)))
   (bR (aU (nI (a5 7) (a5 8))) (pU 6 (dU (a6 (aE nE (a6 (a5 7) (a6 (a5 8) a9))) (a6 (aE pM (a6 (a5 7) (a6 (a5 8) a9))) a9))) (qC (.bl true))) bQ))) bQ))
 (aY (dU (a6 (aE gI (a6 (a5 3) a9)) (a6 (aE gI (a6 (aE qM (a6 (aE qN (a6 (a5 6) a9)) a9)) a9)) a9)))))))))
theorem aD2:dE M0 ["flow","many","way","wants","k","cell","pairs","one","other"] nW:=by
 rintro xs Q ⟨x,ns,n,wy,rfl,hx,hns,n0,n1,q⟩
 exact ax2 hx hns n0 n1 q
def qU:bD:=ax3
def M3:aN:=(aI (aV 2 (aE eD (a6 (a5 0) (a6 (qC (.int 0)) a9))))
 (aI (aV 3 (b5 (a5 2) (qC (.int 9))))
 (aI (bR (aU (fD (b5 (bK (a5 2) (qC (.int 9))) (qC (.int 4))) (qC (.int 1)))) (aV 3 (b5 (bK (a5 2) (qC (.int 36))) (qC (.int 41)))) bQ)
 (aY (aE nW (a6 (eB (a5 0) (e9 (a5 1)) e8) (a6 (a5 3) (a6 (bK (a5 2) (qC (.int 1476))) a9))))))))
theorem aD3:dE M3 ["script","at","head","many"] qU:=by
 rintro xs Q ⟨ns,k,rfl,hl,k0,q⟩
 refine⟨_,rfl,_,ns,0,rfl,.inl rfl,by decide,trivial,?_⟩
 generalize ns.getD (0:Int).toNat 0=head
 refine⟨_,rfl,_,_,rfl,rfl,(by show (0:Int) < 9; decide),trivial,?_⟩
 have fin:∀ many:Int,0<=many->many<=40->(aY (aE nW (a6 (eB (a5 0) (e9 (a5 1)) e8) (a6 (a5 3) (a6 (bK (a5 2) (qC (.int 1476))) a9))))) { nx:=fun _=>Q .non,rt:=Q } [some (.sh true (.scr ns)),si k,si head,si many]:=fun many h0 h1=>by
  refine⟨_,rfl,_,rfl,_,rfl,_,rfl,cN _,_,rfl,_,rfl,_,_,rfl,rfl,⟨by decide,by decide⟩,_,ns.drop k.toNat,many,_,rfl,?_,by rw [aT9]; omega,h0,h1,fun ws ls w=>⟨trivial,q many ws ls h0 h1 w⟩⟩
  show iQ (.lst (eY (intz ns) (some k) none)) _
  rw [J2 ns k0]
  exact .inr rfl
 refine⟨_,rfl,_,_,rfl,rfl,⟨by decide,by decide⟩,_,_,rfl,rfl,(by show (0:Int) < 4; decide),.inl ⟨_,_,rfl,rfl,_,rfl,?_⟩⟩
 cases hc:(decide (head / 9 % 4=1)) with
 | false=>
  have a1:=aT4 head (show (9:Int) ≠ 0 by decide)
  have a2:=aW2 head (show (0:Int) < 9 by decide)
  exact aP (fin (head % 9) a1 (by omega))
 | true=>
  have a1:=aT4 (head / 36) (show (41:Int) ≠ 0 by decide)
  have a2:=aW2 (head / 36) (show (0:Int) < 41 by decide)
  exact b4 ⟨_,rfl,_,_,rfl,rfl,⟨by decide,by decide⟩,_,_,rfl,rfl,(by show (0:Int) < 41; decide),trivial,fin (head / 36 % 41) a1 (by omega)⟩
def qV:bD:=fun xs Q=>∃ (ns:List Int) (k:Int) (m:Nat),xs = [.scr ns,.int k,.int m]/\0<=k/\m<=1000/\∀ wts:List Int,wts.length=m->(∀ w ∈ wts,0<=w)->Q (.lst (intz wts))
def M4:aN:=(aI (eV 3 (bV a9))
 (aI (cG (iI (a5 2)) (bA 4)
  (aI (aV 5 (aE eD (a6 (a5 0) (a6 (fC (a5 1) (a5 4)) a9))))
  (iG 3 (bI (bV (a6 (b5 (bK (a5 5) (qC (.int 7))) (qC (.int 4))) (a6 (b5 (bK (a5 5) (qC (.int 7))) (qC (.int 2))) (a6 (b5 (a5 5) (nG (qC (.int 10)) (qC (.int 30)))) (a6 (qC (.int 1)) a9))))) (b5 (bK (aE eD (a6 (a5 0) (a6 (a5 1) a9))) (qC (.int 3))) (qC (.int 4)))))))
 (iE 3)))
theorem aD4:dE M4 ["script","at","links","found","k","cell"] qV:=by
 rintro xs Q ⟨ns,k,m,rfl,k0,m1,q⟩
 have d4:(0:Int) < 4:=by decide
 refine⟨by decide,rfl,rfl,rfl,?_⟩
 refine⟨_,rfl,(m:Int),rfl,by omega,by omega,fun i ρ=>∃ (y z:Option Slot) (wts:List Int),ρ = [some (.sh true (.scr ns)),si k,si (m:Int),some (.own (.lst (intz wts))),y,z]/\wts.length=i/\∀ w ∈ wts,0<=w,⟨none,none,[],rfl,rfl,fun _ h=>nomatch h⟩,?_,?_⟩
 ·rintro i y ρ hy ⟨y0,z0,wts,rfl,hl,hp⟩
  obtain ⟨rfl,hi⟩:=jR hy
  refine⟨_,rfl,_,rfl,_,rfl,_,_,rfl,rfl,_,ns,_,rfl,.inl rfl,by omega,trivial,?_⟩
  generalize ns.getD (k+(0+(i:Int))).toNat 0=cell
  generalize hhd:ns.getD k.toNat 0=hd
  obtain ⟨z,hz,hzz⟩:=qO (a:=cell / 7 % 4) (b:=cell / 7 % 2) (c:=cell % 10 ^ 30) (d:=1) (i:=hd / 3 % 4) (aT4 _ (by decide)) (aW2 _ d4)
  refine⟨_,rfl,_,rfl,_,_,rfl,rfl,⟨by decide,by decide⟩,_,_,rfl,rfl,d4,_,rfl,_,_,rfl,rfl,⟨by decide,by decide⟩,_,_,rfl,rfl,(by show (0:Int) < 2; decide),_,rfl,_,_,rfl,rfl,⟨by decide,by decide,by decide⟩,_,_,rfl,rfl,(by show (0:Int) < 10 ^ 30; decide),by show 4<=1000; decide,rfl,_,rfl,_,rfl,_,ns,k,rfl,.inl rfl,k0,_,_,rfl,rfl,⟨by decide,by decide⟩,_,_,rfl,rfl,d4,_,_,_,rfl,rfl,(by rw [hhd]; exact hz),lS _ _,by rw [c9]; omega,?_⟩
  refine⟨si (0+(i:Int)),si cell,wts ++ [z],?_,by rw [aQ8,hl]; rfl,fun w hw=>?_⟩
  ·rw [gK]; rfl
  ·rcases aV6.mp hw with hw | hw
   ·exact hp w hw
   ·rw [aR8.mp hw]
    rcases hzz with e | e | e | e
    ·rw [e]; exact aT4 _ (by decide)
    ·rw [e]; exact aT4 _ (by decide)
    ·rw [e]; exact aT4 _ (by decide)
    ·rw [e]; decide
 ·rintro ρ ⟨y0,z0,wts,rfl,hl,hp⟩
  rw [gG] at hl
  exact⟨_,rfl,trivial,q wts (by omega) hp⟩
theorem aD5 {l:List Int}{i:Nat} (h:i < l.length):(l.take (i+1)).sum=(l.take i).sum+l[i]:=by
 rw [aV9,aR7 h,List.sum_append]; simp
def aD6 (zs:List Int) (s:Int):Nat:=((List.range zs.length).filter fun i=>decide ((zs.take (i+1)).sum<=s)).length
structure M5 (ws:List Int) (ls:List (Int × Int)) (wts:List Int) (os:List (Option Int)):Prop where
 len:os.length=ws.length
 due:∀ h:Nat,h < ws.length->∃ o,os[h]? = some o/\jU (ws.getD h 0) ((cA (ls.zip wts) h).map (·.2)) (kO o)
theorem jU.opt {want:Int}{hs:List Int}{c:PV} (h:jU want hs c):∃ o,c=kO o:=by
 rcases h with ⟨_,rfl⟩ | ⟨_,zs,_,_,rfl⟩
 ·exact⟨none,rfl⟩
 ·exact⟨some _,rfl⟩
theorem aD7 {P:Nat->PV->Prop} (hP:∀ h c,P h c->∃ o,c=kO o):∀ {cs:List PV},(∀ h:Nat,h < cs.length->∃ c,cs[h]? = some c/\P h c)->∃ os:List (Option Int),cs=os.map kO:=by
 intro cs
 have key:∀ (cs:List PV) (off:Nat),(∀ h:Nat,h < cs.length->∃ c,cs[h]? = some c/\P (off+h) c)->∃ os:List (Option Int),cs=os.map kO:=fun cs=>by
  induction cs with
  | nil=>exact fun _ _=>⟨[],rfl⟩
  | cons c r ih=>
   intro off h
   obtain ⟨c',e,p⟩:=h 0 (by rw [aU1]; omega)
   cases e
   obtain ⟨o,rfl⟩:=hP _ _ p
   obtain ⟨os,rfl⟩:=ih (off+1) fun k hk=>by
    obtain ⟨c',e,p⟩:=h (k+1) (by rw [aU1]; omega)
    exact⟨c',by rw [aX6] at e; exact e,by rw [show off+1+k=off+(k+1) by omega]; exact p⟩
   exact⟨o :: os,rfl⟩
 intro h
 exact key cs 0 fun k hk=>by
  obtain ⟨c,e,p⟩:=h k hk
  exact⟨c,e,by rw [Nat.zero_add]; exact p⟩
theorem aD8 {ws:List Int}{ls:List (Int × Int)}{wts:List Int}{cs:List PV} (cl:cs.length=ws.length) (hc:∀ h:Nat,h < ws.length->∃ c,cs[h]? = some c/\jU (ws.getD h 0) ((cA (ls.zip wts) h).map (·.2)) c):∃ os,cs=os.map kO/\M5 ws ls wts os:=by
 obtain ⟨os,rfl⟩:=aD7 (P:=fun h c=>jU (ws.getD h 0) ((cA (ls.zip wts) h).map (·.2)) c) (fun h c p=>p.opt) (cs:=cs) (fun h hh=>hc h (by omega))
 rw [aQ3] at cl
 refine⟨os,rfl,cl,fun h hh=>?_⟩
 obtain ⟨c,e,p⟩:=hc h hh
 rw [aR6] at e
 cases q:os[h]? with
 | none=>rw [q] at e; cases e
 | some o=>rw [q] at e; cases e; exact⟨o,rfl,p⟩
theorem aD9 {os:List (Option Int)}{i:Nat}{o:Option Int} (h:os[i]? = some o):(os.take (i+1)).filterMap id=(os.take i).filterMap id ++ o.toList:=by
 rw [aV9,h,List.filterMap_append]
 cases o <;> rfl
def M6:bD:=fun xs Q=>∃ ws ls x wts,xs = [bG ws ls,x]/\eF (ws.length:Int) ws ls/\ws.length<=40/\bX x wts/\wts.length=ls.length/\(∀ w ∈ wts,0<=w)/\
 ∀ os zs,M5 ws ls wts os->zs.Perm (os.filterMap id)->zs.Pairwise (· <= ·)->Q (.int (aD6 zs wts.sum))
def aE0:aN:=(aI (aV 2 (aE nD (a6 (cH (cD (aE vL (a6 (a5 0) (a6 (a5 1) a9)))) [none] (bA 0) (aU (A9 (a5 0) (qC .non))) (a5 0)) a9)))
 (aI (aV 3 (qC (.int 0)))
 (aI (aV 4 (aE hU (a6 (a5 1) a9)))
 (aI (cG (cD (a5 2)) (bA 5)
  (aI (aV 4 (lJ (a5 4) (a5 5)))
  (bR (aU (pV (a5 4) (qC (.int 0)))) (aV 3 (fC (a5 3) (qC (.int 1)))) bQ)))
 (iE 3)))))
theorem aE1 {os:List (Option Int)}:(os.filterMap id).length<=os.length:=List.length_filterMap_le _ _
theorem aE2:dE aE0 ["web","weights","known","many","left","due"] M6:=by
 rintro xs Q ⟨ws,ls,x,wts,rfl,w,few,hx,hwl,hwp,q⟩
 refine⟨_,rfl,_,rfl,ws,ls,x,wts,rfl,w,few,hx,hwl,hwp,fun cs cl hc=>⟨_,rfl,(fun z=>by cases z),by omega,?_⟩⟩
 obtain ⟨os,rfl,ds⟩:=aD8 cl hc
 have ol:=ds.len
 refine⟨fun i acc=>acc=intz ((os.take i).filterMap id),rfl,?_,?_⟩
 ·rintro i y acc hy rfl
  rw [aR6] at hy
  cases ho:os[i]? with
  | none=>rw [ho] at hy; cases hy
  | some o=>
   rw [ho] at hy
   cases hy
   have tk:=aD9 ho
   cases o with
   | none=>
    refine⟨_,rfl,rfl,_,rfl,aP ?_⟩
    show _=_
    rw [tk]; simp
   | some v=>
    refine⟨_,rfl,rfl,_,rfl,b4 ⟨_,rfl,lS _ _,?_⟩⟩
    show _=_
    rw [tk,gK]; rfl
 ·rintro acc rfl
  rw [aQ3,aT6]
  have fl:=aE1 (os:=os)
  refine⟨_,rfl,by omega,fun zs zp zo=>⟨trivial,?_⟩⟩
  have zl:=zp.length_eq
  refine⟨trivial,?_⟩
  refine⟨_,rfl,_,_,rfl,hx.seq,trivial,?_⟩
  refine⟨_,rfl,_,rfl,(fun z=>by cases z),fun i ρ=>∃ y,ρ = [some (.sh (flat (bG ws ls)) (bG ws ls)),some (.sh (flat x) x),some (.sh true (.lst (intz zs))),si (((List.range i).filter fun j=>decide ((zs.take (j+1)).sum<=wts.sum)).length:Nat),si (wts.sum - (zs.take i).sum),y],⟨none,?_⟩,?_,?_⟩
  ·show _ = [_,_,_,_,si (wts.sum - ([]:List Int).sum),_]
   rw [List.sum_nil,Int.sub_zero]; rfl
  ·rintro i y ρ hy ⟨y0,rfl⟩
   obtain ⟨v,rfl,hv⟩:=jQ hy
   have il:i < zs.length:=(aQ7.mp hv).1
   have ev:zs[i]=v:=(aQ7.mp hv).2
   have ts:=aD5 il
   rw [ev] at ts
   have rs:(List.range (i+1)).filter (fun j=>decide ((zs.take (j+1)).sum<=wts.sum))=(List.range i).filter (fun j=>decide ((zs.take (j+1)).sum<=wts.sum)) ++ (if decide ((zs.take (i+1)).sum<=wts.sum)=true then [i] else []):=by
    rw [List.range_succ,List.filter_append]
    congr 1
    cases e:decide ((zs.take (i+1)).sum<=wts.sum) <;> simp [e]
   refine aA3 ?_
   refine⟨_,rfl,_,rfl,_,_,rfl,rfl,trivial,?_⟩
   refine⟨_,rfl,_,_,rfl,rfl,_,rfl,?_⟩
   dsimp only
   have e4:wts.sum - (zs.take i).sum - v=wts.sum - (zs.take (i+1)).sum:=by omega
   rw [e4]
   by_cases h:(zs.take (i+1)).sum<=wts.sum
   ·rw [if_pos (aR9 h)] at rs
    rw [aR9 (by omega)]
    refine b4 ⟨_,rfl,_,_,rfl,rfl,trivial,si v,?_⟩
    rw [rs,aQ8]
    show [_,_,_,some (Slot.sh _ (.int _)),_,_] = [_,_,_,si (((_:Nat):Int)),_,_]
    rw [show ((((List.range i).filter fun j=>decide ((zs.take (j+1)).sum<=wts.sum)).length + [i].length:Nat):Int)=(((List.range i).filter fun j=>decide ((zs.take (j+1)).sum<=wts.sum)).length:Int)+1 by rw [aT3]; omega]
    rfl
   ·rw [if_neg (by simpa using h),aV7] at rs
    rw [aR4 (by omega)]
    refine aP ⟨si v,?_⟩
    rw [rs]
    rfl
  ·rintro ρ ⟨y,rfl⟩
   rw [c9]
   exact⟨_,rfl,trivial,q os zs ds zp zo⟩
theorem tO {ls:List (Int × Int)}{wts:List Int} (e:wts.length=ls.length):(ls.zip wts).map (·.2)=wts:=by
 rw [List.map_snd_zip]; omega
section
variable {ws : List Int} {ls : List (Int × Int)} {ns wts : List Int} {m : Nat}
def vM (rs:List (List Int)) (z:(Int × Int) × Int) (h:Int):Bool:=(decide (z.1.1=h) && hJ rs ((iS rs h).getD 0) z.1.2) || (decide (z.1.2=h) && hJ rs ((iS rs h).getD 0) z.1.1)
end
end Core
namespace PP
open PySem L2 PyProof.Rows
section
variable {X : Cx} {a b e : Expr} {ta tb te : aG} {pos p2 : Pos}
def vN (neg:Bool):PV->Tg->PV->Tg->PK->Prop:=fun x _ y _ Q=>∃ ns,x = .non/\iF y=some (intz ns)/\Q (.bl neg) .fr
theorem M7:∀ ns:List Int,kA .non (ns.map V.int)=false
 | []=>rfl
 | n :: r=>by
  have ih:=M7 r
  unfold kA at ih ⊢
  rw [aU8,aZ7,ih]; rfl
theorem aE3 (neg:Bool):dL X (vN neg) (xO X.K neg):=by
 rintro W Hs H u v x y g g' Q Q' s n r1 r2 ⟨ns,rfl,e,q⟩ k
 cases r1
 obtain ⟨a,us,rfl,hs,r⟩:=r2.seq e
 obtain rfl:=r.ofInts
 refine⟨a,_,rfl,hs,rfl,C3 ns,?_⟩
 have:=k _ _ _ .fr (aB.refl _) (.bl _) q
 rw [M7]
 cases neg <;> exact this
theorem aE4 (ha:QE X a ta) (hb:QE X b tb) (hm:behindInMarks .In b=false:=by rfl):QT X (.Compare a [.In] [b] pos) (aU (q2 (vN false) ta tb)):=iO ad5 (aE3 false) ha hb hm
end
end PP
namespace Core
open PySem L2 PP
section
variable {ws : List Int} {ls : List (Int × Int)} {ns wts : List Int} {m : Nat}
def loose (ls:List (Int × Int)) (wts ns:List Int):List ((Int × Int) × Int):=(ls.zip wts).filter fun z=>!(decide (z.1.1 ∈ ns) && decide (z.1.2 ∈ ns))
end
def M8 (rs:List (List Int)) (zs:List ((Int × Int) × Int)) (h:Int):Option Int:=(iS rs h).map fun _=>((zs.filter fun z=>vM rs z h).map (·.2)).sum
theorem aE5 {zs:List ((Int × Int) × Int)}{h:Int} (P:Int->Bool) (hz:∀ z ∈ zs,z.1.1 ≠ z.1.2):((cA zs h).filter fun p=>P p.1).map (·.2)=(zs.filter fun z=>(decide (z.1.1=h) && P z.1.2) || (decide (z.1.2=h) && P z.1.1)).map (·.2):=by
 induction zs with
 | nil=>rfl
 | cons z r ih=>
  have e:cA (z :: r) h=((if z.1.1=h then [(z.1.2,z.2)] else []) ++ (if z.1.2=h then [(z.1.1,z.2)] else [])) ++ cA r h:=rfl
  have h0:=hz z aR2
  rw [e,List.filter_append,aS9,ih fun y hy=>hz y (aR1 _ hy),List.filter_cons]
  by_cases e1:z.1.1=h
  ·have e2 : ¬ z.1.2=h:=fun e2=>h0 (e1.trans e2.symm)
   rw [if_pos e1,if_neg e2,aR9 e1,aR4 e2]
   cases q:P z.1.2 <;> simp [q]
  ·by_cases e2:z.1.2=h
   ·rw [if_neg e1,if_pos e2,aR9 e2,aR4 e1]
    cases q:P z.1.1 <;> simp [q]
   ·rw [if_neg e1,if_neg e2,aR4 e1,aR4 e2]
    simp
def qW:bD:=fun xs Q=>∃ zs rs h,xs = [.int h,.lst (cE (cA zs h)),.dK (fX rs)]/\(∀ z ∈ zs,z.1.1 ≠ z.1.2)/\(cA zs h).length<=1000/\Q (kO (M8 rs zs h))
def M9:aN:=(aI (bR (aU (iK true (a5 0) (a5 2))) (aY (qC .non)) bQ)
 (aI (aV 3 (uG (a5 2) (a5 0)))
 (aY (aE hU (a6 (cH (cD (a5 1)) [none,none,some 3,some 2] (eW 0 1) (aU (iM (vE (a5 3) (a5 0) (a5 2)) (a5 2))) (a5 1)) a9)))))
theorem aE6:dE M9 ["hearth","beside","ranks","rank"] qW:=by
 rintro xs Q ⟨zs,rs,h,rfl,hz,hl,q⟩
 unfold M8 at q
 refine⟨_,rfl,_,rfl,_,.inl ⟨_,Sum.inl h,rfl,rfl,rfl⟩,_,rfl,?_⟩
 show if (!(b7 (fX rs) (Sum.inl h:aC)).isSome)=true then _ else _
 rw [vG]
 cases hr:iS rs h with
 | none=>rw [hr] at q; exact b4 ⟨trivial,q⟩
 | some k=>
  rw [hr] at q
  refine aP ?_
  refine⟨_,rfl,_,rfl,_,.inl ⟨_,Sum.inl h,rfl,rfl,(by rw [vG,hr]; rfl)⟩,trivial,?_⟩
  refine⟨_,rfl,_,rfl,(fun z=>by cases z),by rw [lT]; omega,fun i acc=>acc=intz ((((cA zs h).take i).filter fun p=>hJ rs k p.1).map (·.2)),rfl,?_,?_⟩
  ·rintro i y acc hy rfl
   unfold cE at hy
   rw [aR6] at hy
   cases ht:(cA zs h)[i]? with
   | none=>rw [ht] at hy; cases hy
   | some z=>
    rw [ht] at hy
    cases hy
    have tk:=uW (p:=fun p:Int × Int=>hJ rs k p.1) ht
    refine⟨_,_,rfl,_,rfl,_,rfl,_,rfl,_,rfl,Sum.inl z.1,rfl,?_⟩
    have vo:=vG rs z.1
    cases hk:iS rs z.1 with
    | none=>
     have e:hJ rs k z.1=false:=by unfold hJ; rw [hk]
     rw [hk] at vo
     rw [if_neg (by rw [e]; decide),aV7] at tk
     rw [vo]
     refine⟨rfl,_,rfl,_,_,rfl,rfl,_,rfl,?_⟩
     rw [aR4 (by omega)]
     refine aP ?_
     show _=_
     rw [tk]
    | some j=>
     have e:hJ rs k z.1=decide (j < k):=by unfold hJ; rw [hk]
     rw [hk] at vo
     rw [vo]
     refine⟨rfl,_,rfl,_,_,rfl,rfl,_,rfl,?_⟩
     by_cases hj:j < k
     ·rw [if_pos (by rw [e]; exact aR9 hj)] at tk
      rw [aR9 (by omega)]
      refine b4 ⟨_,rfl,lS _ _,?_⟩
      show _=_
      rw [tk,aS9,gK]; rfl
     ·rw [if_neg (by rw [e]; simpa using hj),aV7] at tk
      rw [aR4 (by omega)]
      refine aP ?_
      show _=_
      rw [tk]
  ·rintro acc rfl
   rw [lT,aT6,aE5 _ hz]
   refine⟨_,_,rfl,rfl,trivial,?_⟩
   have e:(fun z:(Int × Int) × Int=>(decide (z.1.1=h) && hJ rs k z.1.2) || (decide (z.1.2=h) && hJ rs k z.1.1))=fun z=>vM rs z h:=by
    funext z; unfold vM; rw [hr]; rfl
   rw [e]
   exact q
end Core
set_option maxHeartbeats 1000000
set_option maxHeartbeats 1000000
set_option maxHeartbeats 1000000
set_option maxHeartbeats 1000000
namespace PP
open PySem L2 PyProof.Rows
abbrev cB:=(Str->Prop)->bD
def EX (K:PySem.W.Frag) (H0:Hp) (Ep:Str->Prop):XK:=fun c d H'=>d=none/\aB H0 H'/\∃ n C,c = .ref C/\PySem.W.nsIn K mainGlobals n=some (some (.ref C))/\Ep n
def kQ (K:PySem.W.Frag) (p:cB):Sp:=fun vs H Q E=>∃ xs Qp Ep,Reps K (fun _=>True) H vs xs/\p Ep xs Qp/\(∀ v H' x,aB H H'->aL K (fun a=>H a=none) H' v x->Qp x->Q v H')/\
 ∀ n C H',aB H H'->PySem.W.nsIn K mainGlobals n=some (some (.ref C))->Ep n->E (.ref C) none H'
structure aX (P:Program) (w:World) (K:PySem.W.Frag) (mg:Str->Option Value) (base:Heap) (k:Nat) (x:Str) (ps:List Str) (p:cB):Prop where
 ex:∃ f fd,bJ P w K mg base (cM P w) k f fd ps (kQ K p)/\gB K fd ps []/\PySem.W.keepIn K (.ref f)=true/\mg x=some (.ref f)
section
variable {X : Cx} {σ : L2.St} {H : Hp} {D : cR} {tr : cO} {Q' : VK} {a b c e : Expr} {es : List Expr} {pos p2 cp np hp : Pos} {t : aN} {te : aG} {tc : bZ}
def fH (Ep:Str->Prop) (p:cB) (t:cO):aG:=aE (p Ep) t
theorem N0 {p:cB}{Ep:Str->Prop} (h:LE X (fH Ep p tr) σ H Q'):sK (kQ X.K p) [] (EX X.K X.H₀ Ep) (LA X tr) σ H Q':=by
 obtain ⟨W,ρ,Q,px,q,k⟩:=h
 refine⟨W,ρ,_,px,q,fun vs H1 xs s1 r1 q1=>⟨_,_,Ep,by rw [aV7]; exact r1.any,q1,fun v H' x s2 r2 q2=>k v H' x .fr (s1.trans s2) (r2.same (aB.refl _) fun _ z=>s1.free z) q2,fun n C H' s2 z1 z2=>⟨rfl,(px.same.trans s1).trans s2,n,C,rfl,z1,z2⟩⟩⟩
theorem gO {Ep:Str->Prop}{k j:Nat}{x:Str}{ps:List Str}{p:cB} (hX:kJ X (EX X.K X.H₀ Ep)) (d:aX X.prog X.w X.K X.mg X.base k x ps p) (hr:bT j X.A) (ha:QA X (e :: es) tr) (hkj:k<=j:=by decide) (hg:Gl X x:=by rfl) (hdb:(x == ("__debug__" : Str))=false:=by decide)
  (he:starEach (e :: es) X.env=(false,eval e X.env) :: starEach es X.env:=by rfl) (hpl:(backTo pos (starEach es X.env)).any (·.1)=false:=by rfl):QE X (.Call (.Name x p2) (e :: es) [] pos) (fH Ep p tr):=by
 obtain ⟨f,fd,F,b,kp,m⟩:=d.ex
 exact bL (oM F (hr.mono hkj) hg m kp b .nil hX.pass ha hdb he hpl) fun _ _ _=>N0
theorem aE7 {k j:Nat}{x:Str}{ps:List Str}{p:cB} (d:aX X.prog X.w X.K X.mg X.base k x ps p) (hr:bT j X.A) (ha:QA X (e :: es) tr) (hkj:k<=j:=by decide) (hg:Gl X x:=by rfl) (hdb:(x == ("__debug__" : Str))=false:=by decide)
  (he:starEach (e :: es) X.env=(false,eval e X.env) :: starEach es X.env:=by rfl) (hpl:(backTo pos (starEach es X.env)).any (·.1)=false:=by rfl):QE X (.Call (.Name x p2) (e :: es) [] pos) (aE (p fun _=>False) tr):=by
 obtain ⟨f,fd,F,b,kp,m⟩:=d.ex
 refine bL (oM F (E:=EX X.K X.H₀ fun _=>False) (hr.mono hkj) hg m kp b .nil (fun _ _ _ _ _ _ _ h=>?_) ha hdb he hpl) fun _ _ _ h=>N0 (Ep:=fun _=>False) h
 obtain ⟨_,_,_,_,_,_,_,_,_,_,_,_,z⟩:=h
 exact z.elim
def kR (Ep:Str->Prop) (n:Str) (t:cO):aN:=fun _ ρ=>t ρ fun xs=>xs.length<=1000/\Ep n
theorem aE8 {Ep:Str->Prop}{n:Str}{C:Addr} (hn:PySem.W.nsIn X.K mainGlobals n=some (some (.ref C))) (h:LS X (kR Ep n tr) D σ H):C7 (EX X.K X.H₀ Ep) C (LA X tr) D σ H:=by
 obtain ⟨W,ρ,D',px,q,k⟩:=h
 exact⟨W,ρ,_,px,q,fun vs H1 xs s1 r z=>⟨by rw [r.length]; exact pI z.1,rfl,px.same.trans s1,n,C,rfl,hn,z.2⟩⟩
structure Xc (K:PySem.W.Frag) (mg:Str->Option Value) (base:Heap) (n:Str):Prop where
 ex:∃ C B newId initId bm,OwnCls n C bm newId mg base/\ExcBaseFacts B newId initId bm/\PySem.W.nsIn K mainGlobals n=some (some (.ref C))
theorem nX {Ep:Str->Prop}{n:Str} (hX:kJ X (EX X.K X.H₀ Ep)) (x:Xc X.K X.mg X.base n) (ha:QA X (e :: es) tr) (hc:X.calm=true:=by rfl) (hg:Gl X n:=by rfl) (hd:(n == ("__debug__" : Str))=false:=by decide)
  (he:starEach (e :: es) X.env=(false,eval e X.env) :: starEach es X.env:=by rfl) (hpl:(backTo cp (starEach es X.env)).any (·.1)=false:=by rfl):QS X (.Raise (some (.Call (.Name n np) (e :: es) [] cp)) none pos) (kR Ep n tr):=by
 obtain ⟨C,B,newId,initId,bm,O,FB,hn⟩:=x.ex
 exact dN (ar7 hX hc O FB ha hg hd he hpl) fun _ _ _=>aE8 hn
abbrev iU:=iD->(Str->Prop)->b8->Prop
def LB (X:Cx) (t:iU):TB:=fun D Ex σ H=>∃ (W:Addr->Prop) (ρ:b8) (D':iD) (Ep:Str->Prop),PX X.K X.H₀ W σ ρ H/\t D' Ep ρ/\nA X W H D' D/\∀ n C H',aB H H'->PySem.W.nsIn X.K mainGlobals n=some (some (.ref C))->Ep n->Ex (.ref C) none H'
def QB (X:Cx) (sts:List Stmt) (t:iU):Prop:=PB X sts (LB X t)
theorem N1 {sts:List Stmt}{t t':TB} (h:PB X sts t) (m:∀ D Ex σ H,t' D Ex σ H->t D Ex σ H):PB X sts t':=fun pins s σ H D Ex I q=>h pins s σ H D Ex I (m D Ex σ H q)
def kS (p:cB) (t:cO):iU:=fun D Ep ρ=>t ρ fun xs=>p Ep (xs.map (·.1)) fun _=>D.nx ρ
def lX (c:bZ) (t u:iU):iU:=fun D Ep ρ=>c ρ fun b=>if b=true then t D Ep ρ else u D Ep ρ
theorem lY {k j:Nat}{x:Str}{ps:List Str}{p:cB} (d:aX X.prog X.w X.K X.mg X.base k x ps p) (hr:bT j X.A) (ha:∀ E,QA (X.wish E) (e :: es) tr) (hkj:k<=j:=by decide) (hg:Gl X x:=by rfl) (hdb:(x == ("__debug__" : Str))=false:=by decide)
  (he:starEach (e :: es) X.env=(false,eval e X.env) :: starEach es X.env:=by rfl) (hpl:(backTo cp (starEach es X.env)).any (·.1)=false:=by rfl) (hsw:swapsWith (.Call (.Name x p2) (e :: es) [] cp) none pos.line X.env=pure false:=by rfl):QB X [.Expr (.Call (.Name x p2) (e :: es) [] cp) pos] (kS p tr):=by
 obtain ⟨f,fd,F,b,kp,m⟩:=d.ex
 refine N1 (as2 (t:=LA X tr) F (hr.mono hkj) hg m kp b (fun E=>ha E) hdb he hpl hsw) fun D Ex σ H h=>?_
 obtain ⟨W,ρ,D',Ep,px,q,k,ke⟩:=h
 exact⟨W,ρ,_,px,q,fun vs H1 xs s1 r q1=>⟨_,_,Ep,r.any,q1,fun v H' x s2 r2 q2=>k.nx W σ H' ρ (Ev.same (s1.trans s2)) (px.mono (s1.trans s2)) q2,fun n C H' s2 z1 z2=>ke n C H' (s1.trans s2) z1 z2⟩⟩
theorem nY {sa sb:List Stmt}{tb ub:iU} (hc:∀ E,QT (X.wish E) c tc) (ha:QB X sa tb) (hb:QB X sb ub):QB X [.If c sa sb pos] (lX tc tb ub):=by
 refine N1 (as3 (tc:=LT X tc) (fun E=>hc E) ha hb) fun D Ex σ H h=>?_
 obtain ⟨W,ρ,D',Ep,px,q,k,ke⟩:=h
 refine⟨W,ρ,_,px,q,fun b H1 s1 q1=>?_⟩
 have ke':∀ n C H',aB H1 H'->PySem.W.nsIn X.K mainGlobals n=some (some (.ref C))->Ep n->Ex (.ref C) none H':=fun n C H' s2 z1 z2=>ke n C H' (s1.trans s2) z1 z2
 cases b with
 | true=>exact b4 ⟨W,ρ,D',Ep,px.mono s1,by simpa using q1,k.step (Ev.same s1),ke'⟩
 | false=>exact aP ⟨W,ρ,D',Ep,px.mono s1,by simpa using q1,k.step (Ev.same s1),ke'⟩
def vO (D:iD) (i:Nat):iD:={ nx:=fun ρ=>D.nx (ρ.set i none),rt:=D.rt,bk:=fun ρ=>D.bk (ρ.set i none),ct:=fun ρ=>D.ct (ρ.set i none) }
def jV:List Str:=["BadWeb","BadSet","BadOrder","BadPrices","BadBoard","BadDeed","NotWood","NoPaper","NoSuch","TooMany","NoText","OddRound"]
def jW (n m:Str):Option Bool:=if jV.contains n then some (n == m || m == "HearthError" || m == "ValueError") else none
def vP (m:Str) (i:Nat) (tb:iU) (ts:aN):aN:=fun D ρ=>tb D (fun n=>jW n m=some true/\ts (vO D i) (ρ.set i (some (.sh true (.exc n))))) ρ
theorem aE9 {m:Str}{Ch:Addr}{i:Nat}{tb:iU}{ts:aN} (hs:∀ n C,jW n m=some true->PySem.W.nsIn X.K mainGlobals n=some (some (.ref C))->PySem.W.subIn X.K (.ref C) (.ref Ch)=some true) (h:LS X (vP m i tb ts) D σ H):C9 X.K Ch i (LB X tb) (LS X ts) D σ H:=by
 obtain ⟨W,ρ,D',px,q,k⟩:=h
 refine⟨W,ρ,D',_,px,q,k,fun n C H' s z1 z2 a C' oe hc na hcl=>?_⟩
 cases hc
 refine⟨hs n C z2.1 z1,W,_,vO D' i,(px.mono (s.trans (b6 na _))).setSh (g:=true) (.exc aZ z1 hcl),z2.2,?_⟩
 have k':=k.step (Ev.same (W:=W) (s.trans (b6 na (.frz oe (.own a)))))
 exact⟨fun W' σ' H2 ρ' ev px' q'=>k'.nx W' _ H2 _ ev px'.setNone q',k'.rt,fun W' σ' H2 ρ' ev px' q'=>k'.bk W' _ H2 _ ev px'.setNone q',fun W' σ' H2 ρ' ev px' q'=>k'.ct W' _ H2 _ ev px'.setNone q'⟩
structure vQ (K:PySem.W.Frag) (mg:Str->Option Value) (m:Str):Prop where
 ex:∃ Ch,mg m=some (.ref Ch)/\uS K Ch/\∀ n C,jW n m=some true->PySem.W.nsIn K mainGlobals n=some (some (.ref C))->PySem.W.subIn K (.ref C) (.ref Ch)=some true
theorem aF0 (i:Nat) {m n:Str}{b₀:Stmt}{suite body:List Stmt}{tb:iU}{ts:aN} (ct:vQ X.K X.mg m) (hN:X.N.Nodup) (hb:QB X body tb) (hs:∀ a,dM (X.suite a) (b₀ :: suite) ts) (hstk:X.stack=X.env :: X.outer/\X.env.frame=some X.env.locals:=by exact⟨rfl,rfl⟩) (hi:X.N[i]? = some n:=by rfl) (hl:X.env.scope.names.lookup n=some .local:=by rfl) (hg:Gl X m:=by rfl)
  (hd:(m == ("__debug__" : Str))=false:=by decide):QS X (.Try body [.ExceptHandler (some (.Name m np)) (some n) (b₀ :: suite) hp] [] [] pos) (vP m i tb ts):=by
 obtain ⟨Ch,hm,c,sub⟩:=ct.ex
 exact dN (as4 (ts:=LS X ts) hstk hb hg hm c hN hi hl (fun a=>uI (hs a) fun _ _ _ ⟨W,ρ,D',px,q,k⟩=>⟨W,ρ,D',px,q,⟨k.nx,k.rt,k.bk,k.ct⟩⟩) hd) fun _ _ _=>aE9 sub
def gD:V->Value
 | .ref a=>.ref a
 | .ty n=>.type n
 | _=>.none
def aF1 (K:PySem.W.Frag):List V->Hp->VK->Prop:=fun xs H Q=>∃ v v2 b,xs = [v,v2]/\gD v2 ≠ .none/\((∃ a o C,v = .ref a/\H a=some (.frz o (.own a))/\o.cls = .ref C/\gZ K C/\PySem.W.kitOne K (.ref C) (gD v2)=some b) ∨ (v = .non/\PySem.W.kitOne K (.type "NoneType") (gD v2)=some b))/\Q (.bl b) H
theorem aF2:cS X (.builtin "isinstance") (aF1 X.K):=by
 intro pins s σ H xs us Q I r h
 obtain ⟨v,v2,b,rfl,hv,hk,q⟩:=h
 obtain ⟨u,u',rfl,ru,ru'⟩:=sH r
 obtain rfl:u'=gD v2:=by
  cases v2 <;> first | exact ru' | exact absurd rfl hv
 rcases hk with ⟨a,o,C,rfl,hH,hc,F,e⟩ | ⟨rfl,e⟩
 ·obtain ⟨h1,_⟩:=I.hok a _ hH
  cases (show u=Value.ref a from ru)
  exact PySem.W.kia_one (at3 F) I.kIn ⟨o,h1,hc⟩ e (fun z=>nomatch z) fun tk=>⟨.bl b,H,I.tok tk,rfl,q⟩
 ·cases (show u=Value.none from ru)
  exact PySem.W.kia_one PySem.W.kitx_none I.kIn trivial e (fun z=>nomatch z) fun tk=>⟨.bl b,H,I.tok tk,rfl,q⟩
def aF3 (m:Str):PV->Option Bool
 | .exc n=>jW n m
 | .non=>some false
 | _=>none
def jX (m:Str) (te:aG):aG:=fun ρ Q=>te ρ fun x _=>∃ b,aF3 m x=some b/\Q (.bl b) .fr
structure vR (K:PySem.W.Frag) (m:Str) (v2:V):Prop where
 nn:gD v2 ≠ .none
 ex:∀ n C b,PySem.W.nsIn K mainGlobals n=some (some (.ref C))->jW n m=some b->gZ K C/\PySem.W.kitOne K (.ref C) (gD v2)=some b
 no:PySem.W.kitOne K (.type "NoneType") (gD v2)=some false
theorem N3 {x:Str}{v2:V}{px:Pos} (B:Bt X.mg) (A:vR X.K x v2) (hx:PE X (.Name x px) (tC v2)) (ha:QE X a te) (hg:Gl X "isinstance":=by rfl)
  (he:starEach [a,.Name x px] X.env=(false,eval a X.env) :: starEach [.Name x px] X.env:=by rfl) (he2:starEach [.Name x px] X.env=(false,eval (.Name x px) X.env) :: starEach [] X.env:=by rfl) (hpl:(backTo pos (starEach [.Name x px] X.env)).any (·.1)=false:=by rfl):QE X (.Call (.Name "isinstance" p2) [a,.Name x px] [] pos) (jX x te):=
 bL (mK aF2 hg B.isinst PyProof.Rows.boot_isinstance (bO ha (bO hx cK he2) he) (he:=he) (hpl:=hpl)) fun σ H Q' h=>by
  obtain ⟨W,ρ,Q,px,q,k⟩:=h
  refine⟨W,ρ,_,px,q,?_⟩
  rintro v H1 y g s r ⟨b,e,q⟩
  refine⟨v,v2,b,rfl,A.nn,?_,k _ _ _ .fr s (.bl _) q⟩
  cases r with
  | exc h z c=>
   obtain ⟨F,kt⟩:=A.ex _ _ _ z e
   exact .inl ⟨_,_,_,rfl,h,c,F,kt⟩
  | non=>cases e; exact .inr ⟨rfl,A.no⟩
  | _=>cases e
end
section
variable {X : Cx} {a : Expr} {pos p2 px : Pos} {te : aG}
structure iV (K:PySem.W.Frag) (mg:Str->Option Value) (m:Str):Prop where
 ex:∃ C,mg m=some (.ref C)/\vR K m (.ref C)
structure vS (K:PySem.W.Frag) (mg:Str->Option Value):Prop where
 mg:mg "ValueError" = none
 is:vR K "ValueError" (.ty "ValueError")
theorem qX {x:Str} (B:Bt X.mg) (A:iV X.K X.mg x) (ha:QE X a te) (hgx:Gl X x:=by rfl) (hdx:(x == ("__debug__" : Str))=false:=by decide) (hg:Gl X "isinstance":=by rfl)
  (he:starEach [a,.Name x px] X.env=(false,eval a X.env) :: starEach [.Name x px] X.env:=by rfl) (he2:starEach [.Name x px] X.env=(false,eval (.Name x px) X.env) :: starEach [] X.env:=by rfl) (hpl:(backTo pos (starEach [.Name x px] X.env)).any (·.1)=false:=by rfl):QE X (.Call (.Name "isinstance" p2) [a,.Name x px] [] pos) (jX x te):=by
 obtain ⟨C,m,i⟩:=A.ex
 exact N3 B i (wA hgx m rfl hdx) ha hg he he2 hpl
theorem aF4 (B:Bt X.mg) (A:vS X.K X.mg) (ha:QE X a te) (hgx:Gl X "ValueError":=by rfl) (hg:Gl X "isinstance":=by rfl)
  (he:starEach [a,.Name "ValueError" px] X.env=(false,eval a X.env) :: starEach [.Name "ValueError" px] X.env:=by rfl) (he2:starEach [.Name "ValueError" px] X.env=(false,eval (.Name "ValueError" px) X.env) :: starEach [] X.env:=by rfl) (hpl:(backTo pos (starEach [.Name "ValueError" px] X.env)).any (·.1)=false:=by rfl):QE X (.Call (.Name "isinstance" p2) [a,.Name "ValueError" px] [] pos) (jX "ValueError" te):=
 N3 B A.is (W5 (v:=.ty "ValueError") hgx A.mg PyProof.Rows.Boot.«ValueError» rfl (by decide) (by decide)) ha hg he he2 hpl
end
structure iW (K:PySem.W.Frag) (C:Addr):Prop where
 cls:PySem.W.isClsIn K C=true
 ty:PySem.W.typeIn K (.ref C)=some (.type "type")
 ga:PySem.W.findIn K (.ref C) "__getattribute__" = some (some (.builtin "BaseException.__getattribute__"))
 gt:PySem.W.findIn K (.ref C) "__getattr__" = some none
 fc:PySem.W.findIn K (.ref C) "__class__" = some (some (.builtin "object.__class__"))
 fg:PySem.W.specialIn K (.builtin "object.__class__") "__get__" = some (some (.builtin "getset_descriptor.__get__"))
 ft:PySem.W.takesIn K (.builtin "object.__class__")=some true
 ob:PySem.W.mroIn K C (.type "object")=some true
 be:PySem.W.mroIn K C (.type "BaseException")=some true
theorem iW.exc {K:PySem.W.Frag}{C:Addr} (h:iW K C):gZ K C:=⟨h.cls,h.ga,h.gt,h.fc,h.fg,h.ft,h.ob,h.be⟩
theorem qY {K:PySem.W.Frag}{h₀:Heap}{mg:Str->Option Value}{x:Str}{C:Addr}{bmB:List Value}{newId:String} (X:K.In h₀) (m:mg x=some (.ref C)) (q:PySem.W.excIn K C bmB newId=true):OwnCls x C bmB newId mg h₀:=by
 refine⟨m,?_⟩
 unfold PySem.W.excIn at q
 split at q
 case h_2=>cases q
 rename_i dd cd sl ho
 split at q
 case h_2=>cases q
 rename_i C' bm k0 k1 k2 k3 n k5 hm hs
 simp only [aW5,beq_iff_eq,Bool.not_eq_true'] at q
 obtain ⟨⟨⟨⟨⟨rfl,rfl⟩,dl⟩,ht⟩,hok⟩,hni⟩:=q
 obtain ⟨nm,bs,mro,ns,qn,hd,sn,sub,ab,col,del⟩:=cd
 dsimp only at hm dl hok hni
 subst hm dl
 obtain rfl:sl = #[k0,k1,k2,k3,some (.builtin n),k5]:=by
  obtain ⟨l⟩:=sl
  exact congrArg Array.mk hs
 exact⟨bm,ns,nm,qn,bs,hd,sn,sub,ab,col,dd,k0,k1,k2,k3,k5,_,X _ _ ho,.of_isNs (PySem.W.isNs_of_in X hok),PySem.W.nsMap_none_of_in X hok hni,PySem.W.tail_of_in X ht⟩
theorem lZ {n m:Str}{b:Bool} (h:jW n m=some b):n ∈ jV/\b=(n == m || m == "HearthError" || m == "ValueError"):=by
 unfold jW at h
 split at h
 ·rename_i z
  exact⟨by simpa using z,by cases h; rfl⟩
 ·cases h
theorem fZ {K:PySem.W.Frag}{C D:Addr}{b:Bool} (hd:iW K D) (ne:(C == D)=false) (s:PySem.W.subIn K (.ref C) (.ref D)=some b):PySem.W.kitOne K (.ref C) (.ref D)=some b:=by
 have ne':(Value.ref C == Value.ref D)=false:=by
  rw [beq_eq_false_iff_ne] at ne ⊢
  exact fun z=>ne (Value.ref.inj z)
 have c:=hd.cls
 unfold PySem.W.isClsIn at c
 unfold PySem.W.kitOne PySem.W.kitCls
 rw [if_neg (by rw [ne']; decide)]
 dsimp only
 rw [if_pos (by rw [c,hd.ty]; decide)]
 exact s
theorem qZ {K:PySem.W.Frag}{C:Addr}:PySem.W.kitOne K (.ref C) (.ref C)=some true:=by
 unfold PySem.W.kitOne
 rw [if_pos (beq_self_eq_true _)]
theorem r6 {K:PySem.W.Frag}{C:Addr} (s:PySem.W.subIn K (.ref C) (.type "ValueError")=some true):PySem.W.kitOne K (.ref C) (.type "ValueError")=some true:=by
 unfold PySem.W.kitOne PySem.W.kitCls
 rw [if_neg (fun z=>by cases beq_iff_eq.mp z)]
 dsimp only
 rw [if_pos (by decide +kernel)]
 exact s
theorem r9 {K:PySem.W.Frag}{D:Addr} (hd:iW K D) (s:PySem.W.subIn K (.type "NoneType") (.ref D)=some false):PySem.W.kitOne K (.type "NoneType") (.ref D)=some false:=by
 have c:=hd.cls
 unfold PySem.W.isClsIn at c
 unfold PySem.W.kitOne PySem.W.kitCls
 rw [if_neg (fun z=>by cases beq_iff_eq.mp z)]
 dsimp only
 rw [if_pos (by rw [c,hd.ty]; decide)]
 exact s
theorem aF5 {K:PySem.W.Frag}:PySem.W.kitOne K (.type "NoneType") (.type "ValueError")=some false:=by
 have e:(if PySem.W.kitMeta "ValueError" = true then (fastBuiltinMro "NoneType").map (·.contains (Value.type "ValueError")) else none)=some false:=by decide +kernel
 unfold PySem.W.kitOne
 rw [if_neg (by decide)]
 exact e
theorem aX.of {P:Program}{w:World}{K:PySem.W.Frag}{mg:Str->Option Value}{base:Heap}{k:Nat}{x:Str}{ps N:List Str}{p:cB}{st:Stmt}{f:Addr}{fd:FuncData} (F:dF K x x st f fd) (m:mg x=some (.ref f)) (S:FnScope N ps (aQ st))
  (hb:∀ (kV doc pm:Value) (an:Option Addr) (cdv ct:Value) (us:List Value),us.length=ps.length->bindArgs (PySem.W.fnOf x x (i9 st) (dI st) (aQ st) .none kV doc pm an cdv ct) ⟨us,[]⟩=pure (ps.zip us))
  (t:(Str->Prop)->aN) (len:∀ Ep xs Q,p Ep xs Q->xs.length=ps.length) (rd:∀ Ep xs Q,p Ep xs Q->t Ep { nx:=fun _=>Q .non,rt:=Q } (eC N xs))
  (body:∀ (cdv:Value) (A:Around) (outer:List Env) (s:Shared) (H:Hp) (E:XK) (Ep:Str->Prop),bT k (A.deeper (envOfC x (aQ st) s.heap.objs.size f cdv))->kJ (cT (cM P w) P w K mg base N x (aQ st) f cdv A outer s H E) (EX K H Ep)->
   dM (cT (cM P w) P w K mg base N x (aQ st) f cdv A outer s H E) (dI st) (t Ep)):aX P w K mg base (k+1) x ps p:=by
 refine⟨f,fd,F.okX S (fun vs H Q E h=>?_) (fun cdv A outer s H vs Q E hr h=>?_),F.binds hb,F.kp,m⟩
 ·obtain ⟨xs,Qp,Ep,r,q,_⟩:=h
  rw [r.length]; exact len Ep xs Qp q
 ·obtain ⟨xs,Qp,Ep,r,q,k,ke⟩:=h
  have ht:=body cdv A outer s H E Ep hr (C6 fun c d H' z=>?_)
  ·refine⟨_,ht,fun _=>False,eC N xs,_,qF r,rd Ep xs Qp q,?_,?_,?_,?_⟩
   ·exact fun W' σ' H' ρ' e px q=>k _ _ _ px.same .non q
   ·exact fun v H' x s r q=>k _ _ _ s r q
   ·exact fun W' σ' H' ρ' e px q=>q
   ·exact fun W' σ' H' ρ' e px q=>q
  ·obtain ⟨rfl,s1,n,C,rfl,z1,z2⟩:=z
   exact ke n C H' s1 z1 z2
end PP
namespace Core
open PySem L2 PP
abbrev g9 (t:(Str->Prop)->aN) (N:List Str) (p:cB):Prop:=∀ Ep xs Q,p Ep xs Q->t Ep { nx:=fun _=>Q .non,rt:=Q } (eC N xs)
def m3:cB:=fun Ep xs Q=>∃ ws ls x ns,xs = [bG ws ls,x]/\bX x ns/\ns.length<=1000/\(cV ws.length ns=true->Q (.tup (intz ns)))/\(cV ws.length ns=false->Ep "BadSet")
def N4 (Ep:Str->Prop):aN:=(aI (bR (pH (aU (aE qJ (a6 (a5 0) (a6 (a5 1) a9))))) (kR Ep "BadSet" (a6 (qC (.str "a set is of rising hearths of the web")) a9)) bQ)
 (aY (aE gI (a6 (a5 1) a9))))
theorem aF6:g9 N4 ["web","hearths"] m3:=by
 rintro Ep xs Q ⟨ws,ls,x,ns,rfl,hx,hl,q1,q2⟩
 refine⟨_,rfl,_,rfl,ws,ls,x,ns,rfl,hx,hl,_,rfl,?_⟩
 cases h:cV ws.length ns with
 | true=>exact aP ⟨_,rfl,⟨_,_,rfl,hx.seqT,cN _,trivial,q1 h⟩,hx.noscr⟩
 | false=>exact b4 ⟨by decide,q2 h⟩
theorem N5 (ns:List Int) {k:Int} (h:0<=k):eY (intz ns) none (some k)=intz (ns.take k.toNat):=by
 rw [K6 h]
 exact (List.map_take).symm
theorem aF7 {n:Nat}{ys:List Int} (h:cV n ys=true->False):cV n ys=false:=by
 cases e:cV n ys with
 | false=>rfl
 | true=>exact (h e).elim
theorem N6 {n k:Nat}{s:List Int}{x:Int} (hx:x < 0 ∨ (n:Int)<=x):cV n (s.take k ++ [x] ++ s.drop k)=false:=aF7 fun e=>by
 have:=(kL e).2 x (by simp)
 omega
end Core
namespace PP
open PySem L2
theorem iX {us:List Value} (h:us.length=1):∃ a,us = [a]:=List.length_eq_one_iff.mp h
theorem nZ {us:List Value} (h:us.length=2):∃ a b,us = [a,b]:=by
 cases us with
 | nil=>cases h
 | cons a r=>
  obtain ⟨b,rfl⟩:=iX (us:=r) (by simpa using h)
  exact⟨a,b,rfl⟩
theorem vT {us:List Value} (h:us.length=3):∃ a b c,us = [a,b,c]:=by
 cases us with
 | nil=>cases h
 | cons a r=>
  obtain ⟨b,c,rfl⟩:=nZ (us:=r) (by simpa using h)
  exact⟨a,b,c,rfl⟩
theorem N7 {us:List Value} (h:us.length=4):∃ a b c d,us = [a,b,c,d]:=by
 cases us with
 | nil=>cases h
 | cons a r=>
  obtain ⟨b,c,d,rfl⟩:=vT (us:=r) (by simpa using h)
  exact⟨a,b,c,d,rfl⟩
end PP
namespace Core
open PySem L2 PP
def N8 (f:List Int->List (Int × Int)->List Int->(PV->Prop)->Prop):cB:=fun Ep xs Q=>∃ ws ls x ns,xs = [bG ws ls,x]/\Wb ws ls/\bX x ns/\ns.length<=1000/\(cV ws.length ns=true->f ws ls ns Q)/\(cV ws.length ns=false->Ep "BadSet")
def rA:cB:=N8 fun ws ls ns Q=>∀ m,cR ws ls ns m->Q (.lst (tups (ns :: after ws ls ns m)))
def rB:cB:=N8 fun ws ls ns Q=>∀ m,cR ws ls ns m->Q (.dK (fX (ns :: after ws ls ns m)))
def N9 (Ep:Str->Prop):aN:=(aI (eV 2 (bV (a6 (fH Ep m3 (a6 (a5 0) (a6 (a5 1) a9))) a9)))
 (aI (eV 3 (aE kK (a6 (bI (a5 2) (qC (.int 0))) a9)))
 (aI (aV 4 (aE v4 (a6 (a5 0) a9)))
 (aI (aV 5 (aE nP (a6 (a5 0) (a6 (a5 4) (a6 (a5 3) a9)))))
 (aI (u5 (u9 (a5 5))
  (aI (iG 2 (a5 5))
  (aI (uH 3 (aE kK (a6 (a5 5) a9)))
  (aV 5 (aE nP (a6 (a5 0) (a6 (a5 4) (a6 (a5 3) a9))))))))
 (iE 2))))))
theorem aF8:g9 N9 ["web","seeds","told","burning","around","lit"] rA:=by
 rintro Ep xs Q ⟨ws,ls,x,ns,rfl,wb,hx,hl,q,qe⟩
 have few:=wb.few
 refine⟨_,rfl,_,rfl,ws,ls,x,ns,rfl,hx,hl,fun hs=>?_,qe⟩
 have q:=q hs
 have ln:=av2 hs
 refine⟨by show 1<=1000; decide,?_,rfl,?_,?_⟩
 ·show (flat (.tup (intz ns)) && true)=true
  rw [uX]; rfl
 ·show (flat (.tup (intz ns)) && true)=true
  rw [uX]; rfl
 refine⟨_,rfl,_,_,_,rfl,rfl,rfl,_,ns,rfl,.inl rfl,by omega,fun ps d=>⟨rfl,d.fl,?_⟩⟩
 refine⟨_,rfl,ws,ls,rfl,wb,trivial,?_⟩
 refine⟨_,rfl,_,rfl,_,rfl,ws,ls,ps,ns,rfl,wb,d,trivial,?_⟩
 refine⟨fun n ρ=>∃ k ps,ρ = [some (.sh (flat (bG ws ls)) (bG ws ls)),some (.sh (flat x) x),some (.own (.lst (tups (ns :: after ws ls ns k)))),some (.own (.dK ps)),some (.sh true (.lst (lR ws.length ls))),some (.sh true (.tup (intz (nextOf ws ls (bC ws ls ns k)))))]/\
   n=eL ws (bC ws ls ns k)/\DS ps (bC ws ls ns k)/\∀ j < k,nextOf ws ls (bC ws ls ns j) ≠ [],⟨_,0,ps,rfl,rfl,d,fun _ z=>absurd z (Nat.not_lt_zero _)⟩,?_⟩
 rintro n ρ ⟨k,ps,rfl,rfl,d,ne⟩
 refine⟨_,rfl,_,rfl,?_⟩
 cases hn:nextOf ws ls (bC ws ls ns k) with
 | nil=>exact aP ⟨_,rfl,trivial,q k ⟨ne,hn⟩⟩
 | cons y yr=>
  refine b4 ?_
  rw [<- hn]
  have cs:=uV ws ls (bC ws ls ns k)
  have nl:1<=(nextOf ws ls (bC ws ls ns k)).length:=by rw [hn]; exact Nat.succ_le_succ (aT7 _)
  have nle:=at6 ws ls (bC ws ls ns k)
  have sl:=G1 (ls:=ls) hs k
  have dl:=d.len
  have ke:=E5 k ne
  refine⟨_,rfl,_,rfl,trivial,?_,?_⟩
  ·rw [G0,aU1]
   unfold after
   rw [aQ3,aZ5]; omega
  refine⟨_,rfl,_,rfl,_,_,rfl,.inl rfl,by omega,fun mp dm=>⟨mp,rfl,.inl rfl,?_,?_⟩⟩
  ·have:=dm.len; omega
  have D7:DS (gH ps mp) (bC ws ls ns (k+1)):=d.merge dm
  refine⟨_,rfl,_,rfl,_,rfl,ws,ls,_,_,rfl,wb,D7,trivial,?_⟩
  refine⟨_,?_,k+1,gH ps mp,?_,rfl,D7,fun j hj=>?_⟩
  ·show eL ws (bC ws ls ns k ++ nextOf ws ls (bC ws ls ns k)) < _
   omega
  ·rw [E1,<- List.cons_append]
   unfold tups
   rw [aS9]; rfl
  ·by_cases e:j=k
   ·rw [e,hn]; exact fun z=>nomatch z
   ·exact ne j (by omega)
def O0 (Ep:Str->Prop):aN:=(aI (eV 2 (qC (.dK [])))
 (aI (cG (nT (fH Ep rA (a6 (a5 0) (a6 (a5 1) a9)))) (eW 3 4)
  (cG (cD (a5 4)) (bA 5)
   (pT 2 (a5 5) (a5 3))))
 (iE 2)))
theorem aF9:g9 O0 ["web","seeds","ranks","rank","lit","hearth"] rB:=by
 rintro Ep xs Q ⟨ws,ls,x,ns,rfl,wb,hx,hl,q,qe⟩
 have few:=wb.few
 refine⟨rfl,rfl,_,rfl,_,rfl,ws,ls,x,ns,rfl,wb,hx,hl,fun hs m en=>⟨_,.inl rfl,fun z=>(by cases z),?_⟩,qe⟩
 have q:=q hs
 have fl:=E4 ws ls ns m
 have sl:=G1 (ls:=ls) hs m
 have nd:=K1 (ls:=ls) hs m
 generalize hrs:ns :: after ws ls ns m=rs at fl
 rw [<- fl] at sl nd
 refine⟨fun i ρ=>∃ y z u,ρ = [some (.sh (flat (bG ws ls)) (bG ws ls)),some (.sh (flat x) x),some (.own (.dK (fX (rs.take i)))),y,z,u],⟨none,none,none,rfl⟩,?_,?_⟩
 ·rintro i y ρ hy ⟨y0,z0,u0,rfl⟩
  obtain ⟨y,hy2,rfl⟩:=az0 hy
  obtain ⟨r,rfl,hr⟩:=av1 hy2
  have tk:rs.take (i+1)=rs.take i ++ [r]:=by rw [aV9,hr]; rfl
  have il:(rs.take i).length=i:=by
   have:=(aQ7.mp hr).1
   rw [aT0]; omega
  have nd2:((rs.take i).flatten ++ r).Nodup/\((rs.take i).flatten ++ r).length<=rs.flatten.length:=by
   have e:rs.flatten=((rs.take i).flatten ++ r) ++ (rs.drop (i+1)).flatten:=by
    rw [<- List.flatten_singleton (l:=r),<- List.flatten_append,<- tk,<- List.flatten_append,List.take_append_drop]
   rw [e] at nd ⊢
   exact⟨(ba5.mp nd).1,by rw [aQ8 (as:=(rs.take i).flatten ++ r)]; omega⟩
  refine⟨_,_,rfl,_,rfl,_,rfl,fun z=>(by cases z),fun j ρ=>∃ u,ρ = [some (.sh (flat (bG ws ls)) (bG ws ls)),some (.sh (flat x) x),some (.own (.dK (fX (rs.take i) ++ eM i (r.take j)))),some (.sh true (.int (i:Int))),some (.sh true (.tup (intz r))),u],⟨u0,?_⟩,?_,?_⟩
  ·rw [show eM i (r.take 0) = [] from rfl,aV7]
   rfl
  ·rintro j y ρ hy ⟨u1,rfl⟩
   obtain ⟨n,rfl,hn⟩:=jQ hy
   have ke:(fX (rs.take i) ++ eM i (r.take j)).map (·.1)=((rs.take i).flatten ++ r.take j).map (Sum.inl:Int->aC):=by
    rw [aS9,aS9,aA7,K2]
   have nn:n ∉ (rs.take i).flatten ++ r.take j:=by
    have:=nd2.1
    rw [<- List.take_append_drop j r,List.drop_eq_getElem_cons (aQ7.mp hn).1,(aQ7.mp hn).2,<- List.append_assoc] at this
    exact fun z=>(ba5.mp this).2.2 n z n aR2 rfl
   have le:(fX (rs.take i) ++ eM i (r.take j)).length<=40:=by
    have e1:=congrArg List.length ke
    have e2:=nd2.2
    rw [aQ3,aQ3,aQ8,aQ8,aT0] at e1
    rw [aQ8] at e2
    rw [aQ8]
    omega
   refine⟨_,rfl,_,rfl,_,rfl,Sum.inl n,rfl,trivial,by omega,si n,?_⟩
   rw [aA8 ke nn,aA9 hn,List.append_assoc]
   rfl
  ·rintro ρ ⟨u,rfl⟩
   refine⟨some (.sh true (.int i)),some (.sh true (.tup (intz r))),u,?_⟩
   rw [c9,aT6,tk,aA6,il]
 ·rintro ρ ⟨y,z,u,rfl⟩
  rw [vA,G0,aT6,<- hrs]
  exact⟨_,rfl,trivial,q m en⟩
section
variable {ws : List Int} {ls : List (Int × Int)}
def cne (ws:List Int) (ls:List (Int × Int)) (S:List Int):Bool:=!decide (S = []) && decide (stay ws ls S=S)
end
def far (ns S:List Int):Bool:=decide (((S.filter fun x=>decide (x ∈ ns)).length:Int)=0)
def O1 (ws:List Int) (ls:List (Int × Int)):List Int->List Int->Bool
 | _,[]=>true
 | B,h :: R=>inB ws.length h && (kin ws ls B h && O1 ws ls (B ++ [h]) R)
end Core
namespace Raw
open PySem PySem.W PySem.Calls PyProof.Rows
theorem vU {xs:List Nat} (a:xs.Pairwise (· < ·)) {i k:Nat} (hk:k < xs.length) (h:i<=k):xs.getD i 0<=xs.getD k 0:=by
 rcases Nat.lt_or_ge i k with z | z
 ·have:=aY1.mp a i k (by omega) hk z
  rw [aS2,aS2,aR7 (by omega),aR7 hk]
  exact aX4 this
 ·rw [Nat.le_antisymm h z]; exact aQ6 _
theorem aG0 {xs:Array Nat}{i j:Nat} (h:i < xs.size):xs.getD i j=xs.toList.getD i 0:=by
 rw [aS2,Array.getElem?_toList,aZ2,Array.getElem?_eq_getElem h]; rfl
theorem vV {xs:Array Nat}{j:Nat} (a:xs.toList.Pairwise (· < ·)):∀ (fuel lo hi:Nat),lo<=hi->hi<=xs.size->hi - lo<=fuel->(∀ i,i < lo->xs.toList.getD i 0 < j)->(∀ i,hi<=i->i < xs.size->j<=xs.toList.getD i 0)->
  SetTable.below.go xs j fuel lo hi<=xs.size/\(∀ i,i < SetTable.below.go xs j fuel lo hi->xs.toList.getD i 0 < j)/\∀ i,SetTable.below.go xs j fuel lo hi<=i->i < xs.size->j<=xs.toList.getD i 0
 | 0,lo,hi,h1,h2,h3,h4,h5=>by
  have e:lo=hi:=by omega
  subst e
  exact⟨h2,h4,h5⟩
 | fuel+1,lo,hi,h1,h2,h3,h4,h5=>by
  have sz:xs.toList.length=xs.size:=aV4
  unfold SetTable.below.go
  by_cases lt:lo < hi
  ·rw [if_pos lt]
   dsimp only
   have m1:lo<=(lo+hi) / 2:=by omega
   have m2:(lo+hi) / 2 < hi:=by omega
   rw [aG0 (by omega)]
   by_cases c:xs.toList.getD ((lo+hi) / 2) 0 < j
   ·rw [if_pos c]
    exact vV a fuel _ _ (by omega) h2 (by omega) (fun i hi'=>Nat.lt_of_le_of_lt (vU a (by omega) (by omega)) c) h5
   ·rw [if_neg c]
    exact vV a fuel _ _ (by omega) (by omega) (by omega) h4 fun i h6 h7=>aU0 (aZ1 c) (vU a (by omega) h6)
  ·rw [if_neg lt]
   have e:lo=hi:=by omega
   subst e
   exact⟨h2,h4,h5⟩
theorem aG1 {xs:Array Nat}{j:Nat} (a:xs.toList.Pairwise (· < ·)):SetTable.below xs j<=xs.size/\(∀ i,i < SetTable.below xs j->xs.toList.getD i 0 < j)/\∀ i,SetTable.below xs j<=i->i < xs.size->j<=xs.toList.getD i 0:=
 vV a xs.size 0 xs.size (aT7 _) (aQ6 _) (by omega) (fun i h=>absurd h (Nat.not_lt_zero _)) fun i h1 h2=>absurd h2 (by omega)
theorem aG2 {α:Type} (xs:Array α) (p:Nat) (x:α):(SetTable.insertAt xs p x).toList=xs.toList.take p ++ x :: xs.toList.drop p:=by
 unfold SetTable.insertAt
 simp
 exact List.take_of_length_le (by simp)
theorem aG3 {xs:Array Nat}{j:Nat} (a:xs.toList.Pairwise (· < ·)) (ne:xs[SetTable.below xs j]? ≠ some j):(SetTable.insertAt xs (SetTable.below xs j) j).toList.Pairwise (· < ·):=by
 obtain ⟨b1,b2,b3⟩:=aG1 (j:=j) a
 have sz:xs.toList.length=xs.size:=aV4
 rw [aG2]
 refine List.pairwise_append.mpr ⟨a.sublist (List.take_sublist _ _),List.pairwise_cons.mpr ⟨fun x hx=>?_,a.sublist (List.drop_sublist _ _)⟩,fun x hx y hy=>?_⟩
 ·obtain ⟨i,hi,e⟩:=List.getElem_of_mem hx
  rw [aT9] at hi
  rw [List.getElem_drop] at e
  have h1:=b3 (SetTable.below xs j) (aQ6 _) (by omega)
  have h2:=vU a (i:=SetTable.below xs j) (k:=SetTable.below xs j+i) (by omega) (by omega)
  have h3:xs.toList.getD (SetTable.below xs j+i) 0=x:=by rw [aS2,aR7 (by omega),e]; rfl
  rcases Nat.lt_or_ge j x with z | z
  ·exact z
  ·exfalso
   have h4:xs.toList.getD (SetTable.below xs j) 0=j:=by omega
   rw [aS2,aR7 (by omega)] at h4
   refine ne ?_
   rw [<- Array.getElem?_toList,aR7 (by omega)]
   exact congrArg some h4
 ·have hx':x < j:=by
   obtain ⟨i,hi,e⟩:=List.getElem_of_mem hx
   rw [aT0] at hi
   rw [List.getElem_take] at e
   have:=b2 i (by omega)
   rw [aS2,aR7 (by omega),e] at this
   exact this
  rcases aQ2.mp hy with e | hy
  ·rw [e]; exact hx'
  ·obtain ⟨i,hi,e⟩:=List.getElem_of_mem hy
   rw [aT9] at hi
   rw [List.getElem_drop] at e
   have:=b3 (SetTable.below xs j+i) (by omega) (by omega)
   rw [aS2,aR7 (by omega),e] at this
   exact aQ9 hx' this
structure gP (b:Bool) (t:SetTable):Prop where
 asc:t.place.toList.Pairwise (· < ·)
 dm:t.dummies = #[]
 led:t.led=b
theorem O2 (j:Nat):SetTable.has #[] j=false:=by
 unfold SetTable.has
 simp
theorem O3 {t:SetTable} (dm:t.dummies = #[]) {h:Int}{j:Nat}{d:Option Nat}:∀ (fuel:Nat) (p:SetTable.Probe),p.dummy=none->SetTable.probe.go t (fun _=>h+1) h fuel p=some (.empty j d)->d=none/\t.slot j = .empty
 | 0,p,_,e=>by cases e
 | fuel+1,p,hp,e=>by
  unfold SetTable.probe.go at e
  have adv:∀ p:SetTable.Probe,p.dummy=none->(t.advance p).dummy=none:=fun p hp=>by
   unfold SetTable.advance
   split <;> exact hp
  cases hs:t.slot p.j with
  | empty=>
   rw [hs] at e
   cases e
   exact⟨hp,hs⟩
  | dummy=>
   exfalso
   unfold SetTable.slot at hs
   dsimp only at hs
   rw [dm,O2] at hs
   split at hs <;> cases hs
  | live i=>
   rw [hs] at e
   dsimp only at e
   rw [if_neg (by simp; omega)] at e
   exact O3 dm fuel _ (adv p hp) e
theorem aG4 {t:SetTable} (dm:t.dummies = #[]) {h:Int}{sl:Nat}{d:Bool} (e:t.freeSlot h=some (sl,d)):t.slot sl = .empty:=by
 unfold SetTable.freeSlot at e
 split at e
 ·rename_i j dummy hm
  obtain ⟨e1,e2⟩:=O3 dm _ _ rfl hm
  subst e1
  cases e
  exact e2
 ·cases e
theorem rC {b:Bool}{t:SetTable} (h:gP b t) (n:Nat):gP b (t.standIn n):=⟨by
 show (Array.range n).toList.Pairwise (· < ·)
 rw [Array.toList_range]; exact List.pairwise_lt_range,rfl,h.led⟩
theorem aG5 {b:Bool}{t:SetTable} (h:gP b t) {j:Nat} (hs:t.slot j = .empty):gP b (t.put j).1:=by
 refine⟨?_,?_,h.led⟩
 ·refine aG3 h.asc fun e=>?_
  unfold SetTable.slot at hs
  dsimp only at hs
  rw [if_pos (by rw [e]; exact beq_self_eq_true _)] at hs
  cases hs
 ·show (if SetTable.has t.dummies j then SetTable.eraseAt t.dummies (SetTable.below t.dummies j) else t.dummies) = #[]
  rw [h.dm,O2]; rfl
theorem aG6 {b:Bool}{t:SetTable} (h:gP b t) (es:Array (Int × Value)) (k:Int) (x:Value):gP b (layNew t es k x).2.1:=by
 unfold layNew
 split
 ·rename_i sl wd e
  have p:=aG5 h (aG4 h.dm e)
  show gP b (SetTable.orStandIn _ _)
  unfold SetTable.orStandIn
  split
  ·exact p
  ·exact rC p _
 ·exact rC h _
theorem aG7 {b:Bool}{t:SetTable} (h:gP b t) (es:Array (Int × Value)) (n:Nat):gP b (relayAll t es n).2.1:=by
 unfold relayAll
 split
 ·rename_i t' order e
  dsimp only
  split
  ·show gP b t'
   unfold SetTable.relaid SetTable.laid at e
   cases hc:SetTable.layClean (SetTable.sizeAbove n - 1) (es.map (·.1)) with
   | none=>rw [hc] at e; cases e
   | some owner=>
    rw [hc] at e
    cases e
    refine⟨?_,rfl,h.led⟩
    show (List.map _ _).Pairwise (· < ·)
    refine bb7.mpr (List.Pairwise.filterMap _ (R:=(· < ·)) ?_ List.pairwise_lt_range)
    intro i i' hlt x hx y hy
    cases ho:owner.getD i none with
    | none=>rw [ho] at hx; cases hx
    | some v=>
     rw [ho] at hx
     cases ho2:owner.getD i' none with
     | none=>rw [ho2] at hy; cases hy
     | some v2=>
      rw [ho2] at hy
      cases hx; cases hy
      exact hlt
  ·exact rC h _
 ·exact rC h _
theorem O4 {us vs:List Value} (p:us.Perm vs):∀ {ns:List Int},IntsAre vs ns->∃ ms,IntsAre us ms/\ms.Perm ns:=by
 induction p with
 | nil=>intro ns h; exact⟨ns,h,List.Perm.refl _⟩
 | cons x _ ih=>
  intro ns h
  cases h with
  | cons n t r=>
   obtain ⟨ms,h1,h2⟩:=ih r
   exact⟨n :: ms,.cons n t h1,h2.cons n⟩
 | swap x y l=>
  intro ns h
  cases h with
  | cons n t r=>
   cases r with
   | cons n' t' r=>
    exact⟨n' :: n :: _,.cons n' t' (.cons n t r),List.Perm.swap _ _ _⟩
 | trans _ _ ih1 ih2=>
  intro ns h
  obtain ⟨ms,h1,h2⟩:=ih2 h
  obtain ⟨ms',h3,h4⟩:=ih1 h1
  exact⟨ms',h3,h4.trans h2⟩
theorem O5:∀ {us:List Value}{ns:List Int},IntsAre us ns->∀ (k:Int) (t:Nat),IntsAre (us ++ [.int k t]) (ns ++ [k])
 | _,_,.nil,k,t=>.cons k t .nil
 | _,_,.cons n u r,k,t=>.cons n u (O5 r k t)
theorem rD:∀ {us:List Value}{ns:List Int},IntsAre us ns->∀ k:Int,k ∈ ns ↔ ∃ t,Value.int k t ∈ us
 | _,_,.nil,k=>⟨(fun h=>nomatch h),(fun ⟨_,h⟩=>nomatch h)⟩
 | _,_,.cons n u r,k=>by
  constructor
  ·intro h
   rcases aQ2.mp h with e | h
   ·exact⟨u,by rw [e]; exact aR2⟩
   ·obtain ⟨t,ht⟩:=(rD r k).mp h
    exact⟨t,aR1 _ ht⟩
  ·rintro ⟨t,h⟩
   rcases aQ2.mp h with e | h
   ·cases e; exact aR2
   ·exact aR1 _ ((rD r k).mpr ⟨t,h⟩)
abbrev o0 (es:Array (Int × Value)) (ep:Nat) (t:SetTable):Obj:={ cls:=.type "set",dict:=none,data:=.set es ep t,slots:=#[] }
section
variable {prog : Program} {w : World} {A : Around} {E : Value → Shared → Prop} {s : Shared}
def aG8 (prog:Program) (w:World) (es:Array (Int × Value)) (t:SetTable) (ms:List Int):Prop:=ElemsOf (intKind prog w) es.toList/\IntsAre (es.toList.map (·.2)) ms/\es.size < scanBound/\t.fits es.size=true/\gP (!w.params.followText "set-order") t
def O6 (prog:Program) (w:World) (h:Heap) (a:Addr) (ms:List Int):Prop:=∃ es ep t,h.get? a=some (o0 es ep t)/\aG8 prog w es t ms
theorem O7 {h:Heap}{a:Addr}{es es':Array (Int × Value)}{ep:Nat}{t t':SetTable} (ho:h.get? a=some (o0 es ep t)):(h.update a (Obj.putSet es' t')).get? a=some (o0 es' (ep+1) t'):=by
 have:=Heap.get?_update_self (Obj.putSet es' t') ho (by rw [putSet_of es' t' (rfl:(o0 es ep t).data=_)]; rfl)
 rw [putSet_of es' t' (rfl:(o0 es ep t).data=_)] at this
 exact this
theorem add_int {a:Addr}{ms:List Int}{k:Int}{u:Nat}{Q:Bool->Shared->Prop} (hS:O6 prog w s.heap a ms) (room:ms.length+1 < scanBound)
  (h:∀ b h' ms',Heap.SameBut a s.heap h'->O6 prog w h' a ms'->(k ∈ ms->ms'.Perm ms)->(k ∉ ms->ms'.Perm (ms ++ [k]))->Q b { s with heap:=h' }) :
  wpAny (model prog w) A (setAddHashed a (.int k u) ((intKind prog w).hash k)) Q E s:=by
 obtain ⟨es,ep,t,ho,hel,hi,hb,hf,tk⟩:=hS
 have key:(intKind prog w).is k (.int k u)=true:=intKind_is _ _ _ _
 have ln:ms.length=es.size:=by
  have:=IntsAre.length hi
  rw [aQ3,aV4] at this
  exact this.symm
 have isk:∀ v,(intKind prog w).is k v=true->∃ u,v = .int k u:=fun v hv=>Value.isInt_shape hv
 unfold setAddHashed setAddHashedIn
 refine bb9 (aQ0 (wpAny_setState_of ho rfl hf ?_))
 dsimp only
 rw [byScan_of (knd:=intKind prog w) (x:=.int k u) rfl hb hel,if_pos rfl]
 unfold setAddByScan
 refine aQ0 (aQ0 (wpAny_rule ?_))
 refine aQ0 (wpAny_setScan_of key ho rfl hf hel ?_)
 cases hr:List.findIdx? (fun e=>(intKind prog w).is k e.2) es.toList with
 | some j=>
  dsimp only
  obtain ⟨hj,hp,_⟩:=List.findIdx?_eq_some_iff_getElem.mp hr
  have km:k ∈ ms:=by
   obtain ⟨u',e⟩:=isk _ hp
   exact (rD hi k).mpr ⟨u',by rw [<- e]; exact aX2.mpr ⟨_,List.getElem_mem hj,rfl⟩⟩
  have e:s={ s with heap:=s.heap }:=by cases s; rfl
  rw [e]
  exact aQ5 (aQ5 (h _ s.heap ms (Heap.SameBut.refl a s.heap) ⟨es,ep,t,ho,hel,hi,hb,hf,tk⟩ (fun _=>List.Perm.refl _) fun n=>absurd km n))
 | none=>
  dsimp only
  have km:k ∉ ms:=fun z=>by
   obtain ⟨u',hm⟩:=(rD hi k).mp z
   obtain ⟨e,he,e2⟩:=aX2.mp hm
   have:=List.findIdx?_eq_none_iff.mp hr e he
   rw [e2,intKind_is _ _ _ _] at this; cases this
  have lp:=layNew_perm t es ((intKind prog w).hash k) (.int k u)
  have lf:=layNew_fits t es ((intKind prog w).hash k) (.int k u)
  have lk:=aG6 tk es ((intKind prog w).hash k) (.int k u)
  generalize hL:layNew t es ((intKind prog w).hash k) (.int k u)=L at lp lf lk ⊢
  obtain ⟨es1,t1,wd,gave⟩:=L
  dsimp only at lp lf lk ⊢
  rw [Array.toList_push] at lp
  have el1:ElemsOf (intKind prog w) es1.toList:=(hel.push key rfl).perm lp
  have sz1:es1.size=es.size+1:=by rw [<- aV4,lp.length_eq,aQ8,aV4]; rfl
  obtain ⟨ms1,i1,p1⟩:∃ ms1,IntsAre (es1.toList.map (·.2)) ms1/\ms1.Perm (ms ++ [k]):=O4 (lp.map (·.2)) (by rw [aS9]; exact O5 hi k u)
  have hb1:es1.size < scanBound:=by omega
  have gw:∀ (b:Bool) (s₁:Shared) (Q':Unit->Shared->Prop),Q' () s₁->wpAny (model prog w) A (match b with | true=>rule "set.scan.the-table-gave-way" | false=>pure ()) Q' E s₁:=fun b s₁ Q' hq=>by
   cases b
   ·exact aQ5 hq
   ·exact wpAny_rule hq
  refine aQ0 (gw _ _ _ ?_)
  split <;> (
   show wpAny _ _ (storeSet a es1 t1 >>= _) _ _ _
   simp only [↓reduceIte]
   refine aQ0 (wpAny_storeSet_of ho rfl ?_ (fits_of_scanBound hb1))
   have ho1:=O7 (es':=es1) (t':=t1) ho
   have sb1:=ba7 s.heap a (Obj.putSet es1 t1)
   split
   ·have rp:=relayAll_perm t1 es1 (SetTable.grown es1.size)
    have rf:=relayAll_fits t1 es1 (SetTable.grown es1.size)
    have rk:=aG7 lk es1 (SetTable.grown es1.size)
    generalize relayAll t1 es1 (SetTable.grown es1.size)=L at rp rf rk ⊢
    obtain ⟨es2,t2,gave2⟩:=L
    dsimp only at rp rf rk ⊢
    have sz2:es2.size=es1.size:=by rw [<- aV4,rp.length_eq,aV4]
    obtain ⟨ms2,i2,p2⟩:=O4 (rp.map (·.2)) i1
    refine aQ0 (gw _ _ _ ?_)
    refine aQ0 (wpAny_storeSet_of ho1 rfl ?_ (fits_of_scanBound (by omega)))
    exact aQ5 (aQ5 (h _ _ ms2 (sb1.trans (ba7 _ a _)) ⟨es2,_,t2,O7 ho1,el1.perm rp,i2,by omega,rf,rk⟩ (fun z=>absurd z km) fun _=>p2.trans p1))
   ·exact aQ5 (aQ5 (h _ _ ms1 sb1 ⟨es1,_,t1,ho1,el1,i1,hb1,lf,lk⟩ (fun z=>absurd z km) fun _=>p1)))
end
end Raw
namespace L2
open PySem PySem.Spec PyProof.Rows
section
variable {X : Cx}
theorem aG9 (hc:X.calm=true):cS X (.builtin "max") (fun xs H Q=>∃ (a:Addr) (ns:List Int),xs = [.ref a]/\aH X.K H a (ns.map V.int)/\ns ≠ []/\∀ M:Int,M ∈ ns->(∀ x ∈ ns,x<=M)->Q (.int M) H):=by
 intro pins s σ H xs us Q I r h
 obtain ⟨a,ns,rfl,hq,ne,q⟩:=h
 obtain ⟨u,rfl,ru⟩:=eI r
 cases ru
 obtain ⟨its,rv,p,hz⟩:=I.list hq
 have ia:=mM rv
 obtain ⟨ys,ey⟩:=ia.allInts.items
 have en:ns=ys.toList.map (·.1):=by
  have e1:=nums_intItems ys
  rw [<- ey] at e1
  exact ia.numsOf.symm.trans e1
 have pos:0 < ys.size:=Nat.pos_of_ne_zero fun z=>ne (by rw [en,Array.eq_empty_of_size_eq_zero z]; rfl)
 have hl:s.heap.IsList a (intItems ys):=ey ▸ p.isList
 refine max_intList (I.ok.hd hc) hl pos fun v h' tk ev old=>?_
 obtain ⟨t,rfl⟩:=intItems_at ev
 have best:=argBest_gt (numAt ys) (ys.size - 1)
 have mem:∀ x:Int,x ∈ ns ↔ ∃ j,j < ys.size/\numAt ys j=x:=fun x=>by
  rw [en]
  constructor
  ·intro z
   obtain ⟨j,hj,e⟩:=mem_getD z
   exact⟨j,by simpa using hj,by rw [numAt_eq]; exact e⟩
  ·rintro ⟨j,hj,rfl⟩
   rw [numAt_eq]
   exact getD_mem (by simpa using hj)
 refine⟨.int _,H,I.kept (t':=tk) (h':=h') old,⟨t,rfl⟩,q _ ?_ fun x hx=>?_⟩
 ·exact (mem _).mpr ⟨_,by have:=best.1; omega,rfl⟩
 ·obtain ⟨j,hj,rfl⟩:=(mem x).mp hx
  exact best.2 j (by omega)
end
end L2
namespace PP
open PySem L2
section
variable {X : Cx} {a b e o : Expr} {ta tb te to : aG} {tr : cO} {pos p2 apos cpos : Pos} {σ : St} {H : Hp} {Q' : VK}
def vW:List PV->(PV->Prop)->Prop:=fun xs Q=>∃ ns:List Int,xs = [.lst (intz ns)]/\ns ≠ []/\∀ M:Int,M ∈ ns->(∀ x ∈ ns,x<=M)->Q (.int M)
theorem aH0:dW X vW (fun xs H Q=>∃ (a:Addr) (ns:List Int),xs = [.ref a]/\aH X.K H a (ns.map V.int)/\ns ≠ []/\∀ M:Int,M ∈ ns->(∀ x ∈ ns,x<=M)->Q (.int M) H):=by
 rintro H vs xs Q Q' r ⟨ns,rfl,ne,q⟩ k
 obtain ⟨v,rfl,r1⟩:=r.one
 obtain ⟨a,us,rfl,_,h,r2⟩:=r1.sqL
 rw [r2.ofInts] at h
 exact⟨a,ns,rfl,aH.of h,ne,fun M m1 m2=>k _ _ _ (aB.refl _) (.int M) (q M m1 m2)⟩
theorem aH1 (B:Bt X.mg) (hc:X.calm=true) (ha:QA X [e] tr) (hg:Gl X "max":=by rfl) (he:starEach [e] X.env=(false,eval e X.env) :: starEach [] X.env:=by rfl) (hpl:(backTo pos (starEach [] X.env)).any (·.1)=false:=by rfl):QE X (.Call (.Name "max" p2) [e] [] pos) (aE vW tr):=
 iP (aG9 hc) aH0 hg B.max PyProof.Rows.boot_max ha (he:=he) (hpl:=hpl)
def rE:List PV->(PV->Prop)->Prop:=fun xs Q=>(∃ i,xs = [.int i]/\Q (.int i)) ∨ ∃ k,xs = [.bl k]/\Q (.int (if k then 1 else 0))
theorem aH2:dW X rE (fun xs H Q=>(∃ i,xs = [.int i]/\Q (.int i) H) ∨ ∃ k,xs = [.bl k]/\Q (.int (if k then 1 else 0)) H):=by
 rintro H vs xs Q Q' r (⟨i,rfl,q⟩ | ⟨i,rfl,q⟩) k
 ·obtain ⟨v,rfl,r1⟩:=r.one
  cases r1
  exact .inl ⟨i,rfl,k _ _ _ (aB.refl _) (.int _) q⟩
 ·obtain ⟨v,rfl,r1⟩:=r.one
  cases r1
  exact .inr ⟨i,rfl,k _ _ _ (aB.refl _) (.int _) q⟩
theorem aH3 (B:Bt X.mg) (ha:QA X [e] tr) (hg:Gl X "int":=by rfl) (he:starEach [e] X.env=(false,eval e X.env) :: starEach [] X.env:=by rfl) (hpl:(backTo pos (starEach [] X.env)).any (·.1)=false:=by rfl):QE X (.Call (.Name "int" p2) [e] [] pos) (aE rE tr):=
 qE ab0 aH2 hg B.int PyProof.Rows.boot_int ha (he:=he) (hpl:=hpl)
open Classical in
def O8 (K:PySem.W.Frag):V->List V->Hp->VK->Prop:=fun x vs H Q=>∃ (p:Addr) (ns:List Int) (i:Int),x = .ref p/\vs = [.int i]/\aH K H p (ns.map V.int)/\i ∈ ns/\ns.length<=16000000/\Q (.int (ns.idxOf i:Nat)) H
theorem aH4:oN X "list.index" (O8 X.K):=by
 intro pins s σ H x vs v us Q I rx rv h
 obtain ⟨p,ns,i,rfl,rfl,hp,hi,hl,q⟩:=h
 cases rx
 obtain ⟨u,rfl,t,rfl⟩:=eI rv
 obtain ⟨its,r,pl,hz⟩:=I.list hp
 have ia:=mM r
 have hlen:=ia.length
 have hj:ns.idxOf i < ns.length:=List.idxOf_lt_length_iff.mpr hi
 obtain ⟨⟨cls,dd,data,sl⟩,ho,hc,n,hd⟩:=id pl.isList
 simp only at hc hd
 subst hc hd
 refine call_meets PySem.F.slot_list_index ⟨_,ho,rfl⟩ PySem.F.entry_list_index (PySem.F.args_list_index_2 _ _)
  (SeqAt.list_indexAt p its.toArray n dd sl (.int i t) (PyProof.Rows.isInt i) (ns.idxOf i) (by simpa [hlen] using hj) (by omega) ?_ ?_) ⟨ho,fun y hy=>(PyProof.Rows.eq_isInt i t ia y (by simpa using hy)).at _ _,⟨.int _,H,I.tok _,⟨_,rfl⟩,q⟩⟩
 ·show PyProof.Rows.isInt i its[ns.idxOf i]=true
  rw [PyProof.Rows.isInt_at i ia _ (by omega) hj]
  simpa using List.getElem_idxOf hj
 ·intro j hjs hlt
  show PyProof.Rows.isInt i its[j]=false
  rw [PyProof.Rows.isInt_at i ia j (by simpa using hjs) (by omega)]
  exact PyProof.Rows.ne_of_lt_idxOf hlt _
def vX (to te:aG):aG:=fun ρ Q=>to ρ fun x _=>∃ ns:List Int,x = .lst (intz ns)/\te ρ fun y _=>∃ i:Int,y = .int i/\i ∈ ns/\ns.length<=16000000/\Q (.int (ns.idxOf i:Nat)) .fr
theorem aH5 (h:LE X (vX to te) σ H Q'):mQ X.K "list" (O8 X.K) (LE X to) (fN (LE X te) gU) σ H Q':=by
 obtain ⟨W,ρ,Q,px,q,k⟩:=h
 refine⟨W,ρ,_,px,q,?_⟩
 rintro v H1 x g s1 r1 ⟨ns,rfl,q1⟩
 obtain ⟨a,us,rfl,m,ea,r⟩:=r1.sqL
 obtain rfl:=r.ofInts
 refine⟨jD (aH.of ea),W,ρ,_,px.mono s1,q1,?_⟩
 rintro w H2 y gy s2 r2 ⟨i,rfl,hi,hl,q2⟩
 cases r2
 exact⟨a,ns,i,rfl,rfl,aH.of (s2 _ _ ea),hi,hl,k _ _ _ .fr (s1.trans s2) (.int _) q2⟩
theorem aH6 (ho:QE X o to) (he:QE X e te) (hbase:attributeBase o "index" X.env (eval o X.env)=eval o X.env:=by rfl)
  (hfew:((backTo cpos (starEach [e] X.env)).all (fun x=>!x.1) && (backToKw cpos (keywordEach [] X.env)).all (fun x=>x.1.isSome) && decide (([e]:List Expr).length+([]:List Keyword).length+(if ([]:List Keyword).isEmpty then 0 else 1) < 30))=true:=by rfl)
  (hline:(apos.endLine == cpos.line)=true:=by rfl) (hs:starEach [e] X.env=(false,eval e X.env) :: starEach [] X.env:=by rfl) (hplain:(backTo cpos (starEach [] X.env)).any (·.1)=false:=by rfl) :
  QE X (.Call (.Attribute o "index" apos) [e] [] cpos) (vX to te):=
 bL (j7 aW6 PySem.F.slot_list_index PySem.F.type_list_index aH4 ho (bO he cK hs) hbase hfew hline hs hplain) fun _ _ _=>aH5
end
section
variable {X : Cx} {a b e : Expr} {ta tb te : aG} {tr : cO} {pos : Pos} {σ : St} {H : Hp} {Q' : VK} {es : List Expr}
def hV (neg:Bool):PV->Tg->PV->Tg->PK->Prop:=fun x _ y _ Q=>∃ i j:Str,x = .str i/\y = .str j/\Q (.bl (if neg=true then !decide (i=j) else decide (i=j))) .fr
theorem O9 (i j:Str):decide (V.str i=V.str j)=decide (i=j):=by
 rw [aY6,ba4,ba4]; exact⟨fun z=>V.str.inj z,fun z=>congrArg V.str z⟩
theorem aH7:dL X (hV true) sE:=by
 rintro W Hs H u v x y g g' Q Q' s n r1 r2 ⟨i,j,rfl,rfl,q⟩ k
 cases r1; cases r2
 exact⟨rfl,by rw [O9]; exact k _ _ _ _ (aB.refl _) (.bl _) q⟩
theorem aH8:dL X (hV false) sD:=by
 rintro W Hs H u v x y g g' Q Q' s n r1 r2 ⟨i,j,rfl,rfl,q⟩ k
 cases r1; cases r2
 exact⟨rfl,by rw [O9]; exact k _ _ _ _ (aB.refl _) (.bl _) q⟩
theorem o4 (ha:QE X a ta) (hb:QE X b tb):QT X (.Compare a [.NotEq] [b] pos) (aU (q2 (hV true) ta tb)):=iO wY aH7 ha hb (eN _)
theorem aH9 (ha:QE X a ta) (hb:QE X b tb):QE X (.Compare a [.Eq] [b] pos) (q2 (hV false) ta tb):=pY wX aH8 ha hb (eN _)
def o7 (t:cO):aG:=fun ρ Q=>t ρ fun xs=>xs.length<=1000/\mW xs/\Q (.lst (xs.map (·.1))) .nw
theorem aI0 (h:LE X (o7 tr) σ H Q'):sI (LA X tr) σ H Q':=by
 obtain ⟨W,ρ,Q,px,q,k⟩:=h
 refine⟨W,ρ,_,px,q,?_⟩
 rintro vs H1 xs s1 r ⟨hl,n,q⟩
 refine⟨by rw [r.length]; exact pI hl,fun p hp=>k _ _ _ .nw (s1.trans (b6 hp _)) (.lst (px.new (s1.free hp)) aZ ?_) q⟩
 exact (mW.reps (vs:=vs) px n r).same (b6 hp _) fun _ z=>z
theorem vY (ha:QA X es tr):QE X (.List es pos) (o7 tr):=bL (oJ ha) fun _ _ _=>aI0
end
end PP
namespace Core
open PySem L2 PP
def m5 (n:Nat) (ps:List Int):Prop:=ps.length=n/\∀ w ∈ ps,0<=w
def aI1 (Ep:Str->Prop):aN:=(aI (bR (aU (nI (aE dY (a6 (a5 0) a9)) (a5 1))) (kR Ep "BadPrices" (a6 (qC (.str "there is one price for each")) a9)) bQ)
 (aI (bR (aU (aE vH (a6 (cH (cD (a5 0)) [none] (bA 0) dA (iM (a5 0) (qC (.int 0)))) a9))) (kR Ep "BadPrices" (a6 (qC (.str "no price is below 0")) a9)) bQ)
 (aY (aE gI (a6 (a5 0) a9)))))
def tJ (ws:List Int) (ls:List (Int × Int)) (ns R:List Int):Prop:=O1 ws ls ns R=true/\aA0 ws ls (ns ++ R)
end Core
namespace L2
open PySem PySem.Spec PyProof.Rows PP
section
variable {prog : Program} {w : World} {A : Around} {R : Result → Shared → Prop} {I S : Addr} {n : Nat} {l : Addr} {its : Array Value} {s0 : Shared} {bt : Nat → Nat → Bool}
abbrev at_ (s:Shared) (h:Heap) (k:Nat):Shared:={ s with heap:=h,toks:=k }
end
end L2
namespace Core
open PySem L2 PP
def FB (L:List (List Int)) (f:List Int->Int) (r:List Int):Prop:=∃ i,L[i]? = some r/\(∀ (j:Nat) (s:List Int),j < i->L[j]? = some s->f s < f r)/\∀ s ∈ L,f s<=f r
structure Moved (ws os ws':List Int):Prop where
 len:ws'.length=ws.length
 at_:∀ h:Nat,h < ws.length->ws'[(os.getD h 0).toNat]? = ws[h]?
end Core
namespace PP
open PySem L2
section
variable {X : Cx} {σ : L2.St} {H : Hp} {Q' : VK} {to te : aG} {o e : Expr} {apos cpos : Pos}
def P0 (K:PySem.W.Frag):V->List V->Hp->VK->Prop:=fun x vs H Q=>∃ (p:Addr) (bs:List Bool) (c:Bool),x = .ref p/\vs = [.bl c]/\aH K H p (bs.map V.bl)/\c ∈ bs/\bs.length<=16000000/\Q (.int (bs.idxOf c:Nat)) H
def isB (c:Bool):Value->Bool
 | .bool b=>b == c
 | _=>false
theorem P3:∀ {bs:List Bool}{its:List Value},aR (bs.map V.bl) its->its=bs.map Value.bool
 | [],_,.nil=>rfl
 | b :: r,_,.cons h t=>by
  cases h
  rw [P3 t]; rfl
theorem aI2:oN X "list.index" (P0 X.K):=by
 intro pins s σ H x vs v us Q I rx rv h
 obtain ⟨p,bs,c,rfl,rfl,hp,hi,hl,q⟩:=h
 cases rx
 obtain ⟨u,rfl,rfl⟩:=eI rv
 obtain ⟨its,r,pl,hz⟩:=I.list hp
 obtain rfl:=P3 r
 have hj:bs.idxOf c < bs.length:=List.idxOf_lt_length_iff.mpr hi
 obtain ⟨⟨cls,dd,data,sl⟩,ho,hc,n,hd⟩:=id pl.isList
 simp only at hc hd
 subst hc hd
 refine call_meets PySem.F.slot_list_index ⟨_,ho,rfl⟩ PySem.F.entry_list_index (PySem.F.args_list_index_2 _ _)
  (SeqAt.list_indexAt p (bs.map Value.bool).toArray n dd sl (.bool c) (isB c) (bs.idxOf c) (by simpa using hj) (by omega) ?_ ?_) ⟨ho,fun y hy=>?_,⟨.int _,H,I.tok _,⟨_,rfl⟩,q⟩⟩
 ·have:(bs.map Value.bool).toArray[bs.idxOf c]'(by simpa using hj)=Value.bool c:=by simp
  rw [this]
  exact beq_self_eq_true c
 ·intro j hjs hlt
  have hjl:j < bs.length:=by simpa using hjs
  have:(bs.map Value.bool).toArray[j]'hjs=Value.bool (bs[j]):=by simp
  rw [this]
  show (bs[j] == c)=false
  exact List.not_of_lt_findIdx hlt
 ·have hy:y ∈ bs.map Value.bool:=by simpa using hy
  obtain ⟨b,hb,rfl⟩:=aX2.mp hy
  exact SeqAt.EqAt.bool_bool _ _
def rF (to te:aG):aG:=fun ρ Q=>to ρ fun x _=>∃ bs:List Bool,x = .lst (bs.map PV.bl)/\te ρ fun y _=>∃ c:Bool,y = .bl c/\c ∈ bs/\bs.length<=16000000/\Q (.int (bs.idxOf c:Nat)) .fr
theorem aI3 (h:LE X (rF to te) σ H Q'):mQ X.K "list" (P0 X.K) (LE X to) (fN (LE X te) gU) σ H Q':=by
 obtain ⟨W,ρ,Q,px,q,k⟩:=h
 refine⟨W,ρ,_,px,q,?_⟩
 rintro v H1 x g s1 r1 ⟨bs,rfl,q1⟩
 obtain ⟨a,us,rfl,m,ea,r⟩:=r1.sqL
 obtain rfl:=r.ofBls
 refine⟨jD (aH.of ea),W,ρ,_,px.mono s1,q1,?_⟩
 rintro w H2 y gy s2 r2 ⟨c,rfl,hi,hl,q2⟩
 cases r2
 exact⟨a,bs,c,rfl,rfl,aH.of (s2 _ _ ea),hi,hl,k _ _ _ .fr (s1.trans s2) (.int _) q2⟩
theorem aI4 (ho:QE X o to) (he:QE X e te) (hbase:attributeBase o "index" X.env (eval o X.env)=eval o X.env:=by rfl)
  (hfew:((backTo cpos (starEach [e] X.env)).all (fun x=>!x.1) && (backToKw cpos (keywordEach [] X.env)).all (fun x=>x.1.isSome) && decide (([e]:List Expr).length+([]:List Keyword).length+(if ([]:List Keyword).isEmpty then 0 else 1) < 30))=true:=by rfl)
  (hline:(apos.endLine == cpos.line)=true:=by rfl) (hs:starEach [e] X.env=(false,eval e X.env) :: starEach [] X.env:=by rfl) (hplain:(backTo cpos (starEach [] X.env)).any (·.1)=false:=by rfl) :
  QE X (.Call (.Attribute o "index" apos) [e] [] cpos) (rF to te):=
 bL (j7 aW6 PySem.F.slot_list_index PySem.F.type_list_index aI2 ho (bO he cK hs) hbase hfew hline hs hplain) fun _ _ _=>aI3
end
section
variable {P : Program} {w : World} {K : PySem.W.Frag} {mg : Str → Option Value} {base : Heap} {k : Nat} {x : Str} {ps N : List Str} {f : Addr} {fd : FuncData}
theorem aX.df {p:cB} (d:aX P w K mg base k x ps p):Df P w K mg base k x ps (p fun _=>False):=by
 obtain ⟨f,fd,F,r⟩:=d.ex
 refine⟨f,fd,⟨fun vs H Q E ⟨xs,Qp,a,b,c⟩=>F.len vs H Q (fun _ _ _=>False) ⟨xs,Qp,fun _=>False,a,b,c,fun _ _ _ _ _ z=>z⟩,fun A outer s H args us vs Q E hr he hb hv ⟨xs,Qp,a,b,c⟩=>?_⟩,r⟩
 have:=F.run A outer s H args us vs Q (fun _ _ _=>False) hr he hb hv ⟨xs,Qp,fun _=>False,a,b,c,fun _ _ _ _ _ z=>z⟩
 refine codeAny_mono this fun r s' h=>?_
 cases r with
 | ok v=>cases v <;> exact h
 | error e=>obtain ⟨_,_,_,_,_,_,z⟩:=h; exact z.elim
theorem aI5 {p:cB}{st:Stmt} (F:dF K x x st f fd) (S:FnScope N ps (aQ st))
  (t:(Str->Prop)->aN) (len:∀ Ep xs Q,p Ep xs Q->xs.length=ps.length) (rd:∀ Ep xs Q,p Ep xs Q->t Ep { nx:=fun _=>Q .non,rt:=Q } (eC N xs))
  (body:∀ (cdv:Value) (A:Around) (outer:List Env) (s:Shared) (H:Hp) (E:XK) (Ep:Str->Prop),bT k (A.deeper (PyProof.Rows.envOfC x (aQ st) s.heap.objs.size f cdv))->kJ (cT (cM P w) P w K mg base N x (aQ st) f cdv A outer s H E) (EX K H Ep)->
   dM (cT (cM P w) P w K mg base N x (aQ st) f cdv A outer s H E) (dI st) (t Ep)):bJ P w K mg base (cM P w) (k+1) f fd ps (kQ K p):=by
 refine F.okX S (fun vs H Q E h=>?_) (fun cdv A outer s H vs Q E hr h=>?_)
 ·obtain ⟨xs,Qp,Ep,r,q,_⟩:=h
  rw [r.length]; exact len Ep xs Qp q
 ·obtain ⟨xs,Qp,Ep,r,q,k,ke⟩:=h
  have ht:=body cdv A outer s H E Ep hr (C6 fun c d H' z=>?_)
  ·refine⟨_,ht,fun _=>False,eC N xs,_,qF r,rd Ep xs Qp q,?_,?_,?_,?_⟩
   ·exact fun W' σ' H' ρ' e px q=>k _ _ _ px.same .non q
   ·exact fun v H' x s r q=>k _ _ _ s r q
   ·exact fun W' σ' H' ρ' e px q=>q
   ·exact fun W' σ' H' ρ' e px q=>q
  ·obtain ⟨rfl,s1,n,C,rfl,z1,z2⟩:=z
   exact ke n C H' s1 z1 z2
theorem aI6 {p1:bD}{p2 p:cB} (F1:bJ P w K mg base cU k f fd ps (kG K p1)) (F2:bJ P w K mg base (cM P w) k f fd ps (kQ K p2)) (h:∀ Ep xs Q,p Ep xs Q->p2 Ep xs Q ∨ p1 xs Q):bJ P w K mg base (cM P w) k f fd ps (kQ K p):=by
 refine⟨fun vs H Q E ⟨xs,Qp,Ep,a,b,c,d⟩=>?_,fun A outer s H args us vs Q E hr he hb hv ⟨xs,Qp,Ep,a,b,c,d⟩=>?_⟩
 ·rcases h _ _ _ b with b | b
  ·exact F2.len vs H Q E ⟨xs,Qp,Ep,a,b,c,d⟩
  ·exact F1.len vs H Q E ⟨xs,Qp,a,b,c⟩
 ·rcases h _ _ _ b with b | b
  ·exact F2.run A outer s H args us vs Q E hr he hb hv ⟨xs,Qp,Ep,a,b,c,d⟩
  ·refine codeAny_mono (F1.run A outer s H args us vs Q E hr he hb hv ⟨xs,Qp,a,b,c⟩) fun r s' h=>?_
   cases r with
   | ok v=>cases v <;> exact h
   | error e=>exact absurd h id
end
end PP
namespace Core
open PySem L2 PP
def kT (Ep:Str->Prop) (ws:List Int) (ls:List (Int × Int)) (x:PV) (wts:List Int):Prop:=Wb ws ls/\bX x wts/\wts.length<=1000/\¬ m5 ls.length wts/\Ep "BadPrices"
def rG (ws:List Int) (ls:List (Int × Int)) (x:PV) (wts:List Int):Prop:=eF (ws.length:Int) ws ls/\ws.length<=40/\bX x wts/\wts.length=ls.length/\∀ w ∈ wts,0<=w
def o8:cB:=fun Ep xs Q=>∃ (x:PV) (ns:List Int) (m:Nat),xs = [x,.int m]/\bX x ns/\ns.length<=1000000/\m<=1000000/\(m5 m ns->Q (.tup (intz ns)))/\(¬ m5 m ns->Ep "BadPrices")
abbrev P4 (Ep:Str->Prop):aN:=aI1 Ep
theorem aI7:g9 P4 ["prices","many"] o8:=by
 rintro Ep xs Q ⟨x,ns,m,rfl,hx,hl,hm,q,qe⟩
 refine⟨_,rfl,_,_,rfl,hx.len,_,rfl,.inl ⟨_,_,rfl,rfl,_,rfl,?_⟩⟩
 show if (!decide ((ns.length:Int)=(m:Int)))=true then _ else _
 by_cases hlm:ns.length=m
 ·rw [aR9 (by omega)]
  refine aP ⟨_,rfl,_,hx.seq,qK hx,by rw [c9]; omega,fun i acc=>acc=((ns.take i).map fun n=>PV.bl (decide (n < 0))),rfl,?_,?_⟩
  ·rintro i y acc hy rfl
   obtain ⟨n,rfl,hn⟩:=jQ hy
   refine⟨_,rfl,_,_,rfl,rfl,trivial,?_⟩
   dsimp only
   rw [aV9,hn,aS9]; rfl
  ·rintro acc rfl
   rw [c9,aT6]
   refine⟨ns.map fun n=>decide (n < 0),by rw [ba1]; rfl,_,rfl,?_⟩
   by_cases hp:∀ w ∈ ns,0<=w
   ·have:(ns.map fun n=>decide (n < 0)).any id=false:=by
     rw [List.any_map,List.any_eq_false]
     intro x hx
     have:=hp x hx
     simp; omega
    rw [this]
    exact aP ⟨_,rfl,⟨_,_,rfl,hx.seqT,cN _,trivial,q ⟨hlm,hp⟩⟩,hx.noscr⟩
   ·have:(ns.map fun n=>decide (n < 0)).any id=true:=by
     obtain ⟨w,hw⟩:=Classical.not_forall.mp hp
     obtain ⟨h1,h2⟩:=Classical.not_imp.mp hw
     rw [List.any_map,List.any_eq_true]
     exact⟨w,h1,by simp; omega⟩
    rw [this]
    exact b4 ⟨by show 1<=1000; decide,qe fun z=>hp z.2⟩
 ·rw [aR4 (by omega)]
  exact b4 ⟨by show 1<=1000; decide,qe fun z=>hlm z.1⟩
def rH:cB:=fun Ep xs Q=>∃ ws ls x wts,xs = [bG ws ls,x]/\kT Ep ws ls x wts
def P5 (Ep:Str->Prop):aN:=(aI (aV 2 (fH Ep o8 (a6 (a5 1) (a6 (aE dY (a6 (bI (a5 0) (qC (.int 1))) a9)) a9))))
 (aI (aV 3 (cH (cD (bI (a5 0) (qC (.int 0)))) [none] (bA 0) dA (bV a9)))
 (aI (cG (lW (bI (a5 0) (qC (.int 1))) (a5 2)) (eW 4 5)
  (aI (pK (bI (a5 3) (bI (a5 4) (qC (.int 0)))) (dU (a6 (bI (a5 4) (qC (.int 1))) (a6 (a5 5) a9))))
  (pK (bI (a5 3) (bI (a5 4) (qC (.int 1)))) (dU (a6 (bI (a5 4) (qC (.int 0))) (a6 (a5 5) a9))))))
 (iE 3))))
theorem aI8:g9 P5 ["web","weights","known","around","link","weight"] rH:=by
 rintro Ep xs Q ⟨ws,ls,x,wts,rfl,wb,hx,hl,ng,ex⟩
 have pl:(cE ls).length=ls.length:=aQ3 _
 have:=wb.most
 refine⟨_,rfl,_,rfl,_,_,_,rfl,rfl,rfl,_,_,rfl,rfl,x,wts,ls.length,by rw [<- pl]; rfl,hx,by omega,by omega,(fun g=>absurd g ng),fun _=>ex⟩
def m6:cB:=fun Ep xs Q=>∃ ws ls x wts,xs = [bG ws ls,x]/\(kT Ep ws ls x wts ∨ qT xs Q)
theorem aI9:∀ Ep xs Q,m6 Ep xs Q->rH Ep xs Q ∨ qT xs Q:=fun Ep xs Q ⟨ws,ls,x,wts,e,h⟩=>h.elim (fun h=>.inl ⟨ws,ls,x,wts,e,h⟩) .inr
theorem aJ0:∀ xs Q,L6 xs Q->o8 (fun _=>False) xs Q:=fun xs Q ⟨x,ns,m,e,hx,hl,hm,hp,q⟩=>⟨x,ns,m,e,hx,by omega,by omega,fun _=>q,fun z=>absurd ⟨hl,hp⟩ z⟩
def jY:cB:=fun Ep xs Q=>∃ ws ls x wts,xs = [bG ws ls,x]/\(kT Ep ws ls x wts ∨ vL xs Q)
def P6 (Ep:Str->Prop):aN:=(aY (cH (lW (bI (a5 0) (qC (.int 0))) (fH Ep m6 (a6 (a5 0) (a6 (a5 1) a9)))) [none,none] (eW 0 1) dA (aE nV (a6 (a5 0) (a6 (a5 1) a9)))))
theorem aJ1:g9 P6 ["web","weights"] jY:=by
 rintro Ep xs Q ⟨ws,ls,x,wts,rfl,h | h⟩
 ·exact⟨_,rfl,_,_,_,rfl,rfl,rfl,_,rfl,_,rfl,ws,ls,x,wts,rfl,.inl h⟩
 ·obtain ⟨m0,e0,a,b,c,h1,h2,h3,m1,e1,m2,e2,hp⟩:=aD1 _ Q h
  cases e1; cases e2
  exact⟨m0,e0,a,b,c,h1,h2,h3,_,rfl,_,rfl,ws,ls,x,wts,rfl,.inr hp⟩
def m7:cB:=fun Ep xs Q=>∃ ws ls x wts,xs = [bG ws ls,x]/\(kT Ep ws ls x wts ∨ M6 xs Q)
def P7 (Ep:Str->Prop):aN:=(aI (aV 2 (aE nD (a6 (cH (cD (fH Ep jY (a6 (a5 0) (a6 (a5 1) a9)))) [none] (bA 0) (aU (A9 (a5 0) (qC .non))) (a5 0)) a9)))
 (aI (aV 3 (qC (.int 0)))
 (aI (aV 4 (aE hU (a6 (a5 1) a9)))
 (aI (cG (cD (a5 2)) (bA 5)
  (aI (aV 4 (lJ (a5 4) (a5 5)))
  (bR (aU (pV (a5 4) (qC (.int 0)))) (aV 3 (fC (a5 3) (qC (.int 1)))) bQ)))
 (iE 3)))))
theorem aJ2:g9 P7 ["web","weights","known","many","left","due"] m7:=by
 rintro Ep xs Q ⟨ws,ls,x,wts,rfl,h | h⟩
 ·exact⟨_,rfl,_,rfl,ws,ls,x,wts,rfl,.inl h⟩
 ·obtain ⟨m1,e1,m2,e2,hp⟩:=aE2 _ Q h
  cases e1; cases e2
  exact⟨_,rfl,_,rfl,ws,ls,x,wts,rfl,.inr hp⟩
def m8:cB:=fun Ep xs Q=>∃ ws ls x wts,xs = [bG ws ls,x]/\kT Ep ws ls x wts
def P8 (Ep:Str->Prop):aN:=(aY (lJ (aE gL (a6 (a5 0) a9)) (fH Ep m7 (a6 (a5 0) (a6 (a5 1) a9)))))
theorem aJ3:g9 P8 ["web","weights"] m8:=by
 rintro Ep xs Q ⟨ws,ls,x,wts,rfl,h⟩
 exact⟨_,rfl,ws,ls,rfl,_,rfl,_,rfl,ws,ls,x,wts,rfl,.inl h⟩
def rJ:cB:=fun Ep xs Q=>∃ ws ls x wts k,xs = [bG ws ls,x,.int k]/\(kT Ep ws ls x wts ∨ (rG ws ls x wts/\(k < 0 ∨ (ws.length:Int) < k)/\Ep "NoSuch"))
def P9 (Ep:Str->Prop):aN:=(aI (aV 3 (fH Ep m7 (a6 (a5 0) (a6 (a5 1) a9))))
 (aI (bR (mY (aU (iM (a5 2) (qC (.int 0)))) (aU (nH (a5 2) (aE gL (a6 (a5 0) a9))))) (kR Ep "NoSuch" (a6 (qC (.str "there are not so many hearths")) a9)) bQ)
 (aY (aE nE (a6 (aE gL (a6 (a5 0) a9)) (a6 (fC (a5 2) (a5 3)) a9))))))
theorem aJ4:g9 P9 ["web","weights","many","borne"] rJ:=by
 rintro Ep xs Q ⟨ws,ls,x,wts,k,rfl,h | ⟨⟨w,few,hx,hwl,hwp⟩,hk,ex⟩⟩
 ·exact⟨_,rfl,_,rfl,ws,ls,x,wts,rfl,.inl h⟩
 ·refine⟨_,rfl,_,rfl,ws,ls,x,wts,rfl,.inr ⟨ws,ls,x,wts,rfl,w,few,hx,hwl,hwp,fun os zs d p o=>⟨trivial,?_⟩⟩⟩
  refine⟨_,rfl,_,_,rfl,rfl,_,rfl,?_⟩
  show if decide (k < 0)=true then _ else _
  by_cases k0:k < 0
  ·rw [aR9 k0]
   exact b4 (b4 ⟨by decide,ex⟩)
  ·rw [aR4 k0]
   refine aP ⟨_,rfl,_,rfl,ws,ls,rfl,_,_,rfl,rfl,_,rfl,?_⟩
   show if decide (k > (ws.length:Int))=true then _ else _
   rw [aR9 (by omega)]
   exact b4 ⟨by decide,ex⟩
def o9:cB:=fun Ep xs Q=>∃ ws ls x wts y ns,xs = [bG ws ls,x,y]/\(kT Ep ws ls x wts ∨ (rG ws ls x wts/\bX y ns/\ns.length<=1000/\cV ws.length ns=false/\Ep "BadSet"))
def Q0 (Ep:Str->Prop):aN:=(aI (aV 3 (fH Ep m6 (a6 (a5 0) (a6 (a5 1) a9))))
 (aI (aV 4 (fH Ep rB (a6 (a5 0) (a6 (a5 2) a9))))
 (aY (cH (nT (a5 3)) [none,none,some 4] (eW 0 1) dA (aE qW (a6 (a5 0) (a6 (a5 1) (a6 (a5 2) a9))))))))
theorem aJ5:g9 Q0 ["web","weights","seeds","around","ranks"] o9:=by
 rintro Ep xs Q ⟨ws,ls,x,wts,y,ns,rfl,h | ⟨⟨w,few,hx,hwl,hwp⟩,hy,hl,hs,ex⟩⟩
 ·exact⟨_,rfl,_,rfl,ws,ls,x,wts,rfl,.inl h⟩
 ·have wb:=w.wb (by omega)
  exact⟨_,rfl,_,rfl,ws,ls,x,wts,rfl,.inr ⟨ws,ls,x,wts,rfl,wb,hx,hwl,hwp,trivial,_,rfl,_,rfl,ws,ls,y,ns,rfl,wb,hy,hl,(fun z=>by rw [hs] at z; cases z),fun _=>ex⟩⟩
def rK:cB:=o9
def Q2 (Ep:Str->Prop):aN:=(aI (aV 3 (fH Ep jY (a6 (a5 0) (a6 (a5 1) a9))))
 (aI (aV 4 (aE kK (a6 (fH Ep m3 (a6 (a5 0) (a6 (a5 2) a9))) a9)))
 (aI (aV 5 (cH (nT (a5 3)) [none,none,some 4] (eW 0 1) (aU (iK true (a5 0) (a5 2))) (a5 1)))
 (aI (bR (aU (q2 (vN false) (qC .non) (a5 5))) (aY (qC (.bl false))) bQ)
 (aY (qLe (aE hU (a6 (a5 5) a9)) (aE hU (a6 (cH (lW (bI (a5 0) (qC (.int 1))) (a5 1)) [none,none,some 4] (eW 0 1) (aU (iM (aE lQ (a6 (a5 0) (a6 (a5 2) a9))) (qC (.int 2)))) (a5 1)) a9))))))))
theorem aJ6:g9 Q2 ["web","weights","seeds","told","inside","others"] rK:=by
 rintro Ep xs Q ⟨ws,ls,x,wts,y,ns,rfl,h | ⟨⟨w,few,hx,hwl,hwp⟩,hy,hl,hs,ex⟩⟩
 ·exact⟨_,rfl,_,rfl,ws,ls,x,wts,rfl,.inl h⟩
 ·exact⟨_,rfl,_,rfl,ws,ls,x,wts,rfl,.inr ⟨ws,ls,x,wts,rfl,w,few,hx,hwl,hwp,fun cs _ _=>⟨trivial,_,rfl,_,rfl,ws,ls,y,ns,rfl,hy,hl,(fun z=>by rw [hs] at z; cases z),fun _=>ex⟩⟩⟩
def rL:cB:=fun Ep xs Q=>∃ ws ls,xs = [bG ws ls]/\8 < ls.length/\Ep "TooMany"
def Q3 (Ep:Str->Prop):aN:=(aI (bR (aU (nH (aE dY (a6 (bI (a5 0) (qC (.int 1))) a9)) (qC (.int 8)))) (kR Ep "TooMany" (a6 (qC (.str "webs of at most 8 links are tried through")) a9)) bQ)
 (aI (aV 1 (bV (a6 (dU a9) a9)))
 (aI (cG (cD (bI (a5 0) (qC (.int 1)))) (bA 2)
  (aV 1 (fW (cH (cD (a5 1)) [none] (bA 0) dA (vF (dU (a6 (qC (.int 0)) a9)) (a5 0))) (cH (cD (a5 1)) [none] (bA 0) dA (vF (dU (a6 (qC (.int 1)) a9)) (a5 0))))))
 (aI (aV 3 (cH (cD (a5 1)) [none,some 0] (bA 0) dA (aE (m8 fun _=>False) (a6 (a5 1) (a6 (a5 0) a9)))))
 (aY (aE pL (a6 (bI (a5 1) (vX (a5 3) (aE vW (a6 (a5 3) a9)))) a9)))))))
theorem aJ7:g9 Q3 ["web","rows","link","bounds"] rL:=by
 rintro Ep xs Q ⟨ws,ls,rfl,h8,ex⟩
 have pl:(cE ls).length=ls.length:=aQ3 _
 refine⟨_,rfl,_,_,_,rfl,rfl,rfl,_,_,rfl,rfl,_,_,rfl,rfl,_,rfl,?_⟩
 show if decide (((cE ls).length:Int) > 8)=true then _ else _
 rw [aR9 (by omega)]
 exact b4 ⟨by decide,ex⟩
def rM:bD:=fun xs Q=>∃ (s:List Int) (c:Int),xs = [.lst (intz s),.int c]/\s.length<=63/\0<=c/\∀ ys,ys.length<=100->¬ m5 s.length ys->Q (.lst (intz ys))
def Q4:aN:=(aI (aV 2 (aE pL (a6 (a5 0) a9)))
 (aI (aV 3 (b5 (bK (a5 1) (qC (.int 3))) (fC (aE dY (a6 (a5 2) a9)) (qC (.int 1)))))
 (aI (bR (mY (aU (fD (b5 (a5 1) (qC (.int 3))) (qC (.int 0)))) (aU (fD (aE dY (a6 (a5 2) a9)) (qC (.int 0))))) (aY (fW (fW (eB (a5 2) e8 (e9 (a5 3))) (bV (a6 (b5 (bK (a5 1) (qC (.int 41))) (qC (.int 9))) a9))) (eB (a5 2) (e9 (a5 3)) e8))) bQ)
 (aI (aV 4 (b5 (bK (a5 1) (qC (.int 3))) (aE dY (a6 (a5 2) a9))))
 (aI (bR (aU (fD (b5 (a5 1) (qC (.int 3))) (qC (.int 1)))) (aY (fW (eB (a5 2) e8 (e9 (a5 4))) (eB (a5 2) (e9 (fC (a5 4) (qC (.int 1)))) e8))) bQ)
 (aY (fW (fW (eB (a5 2) e8 (e9 (a5 4))) (bV (a6 (bI (bV (a6 (iL (qC (.int 1))) (a6 (lJ (iL (qC (.int 1))) (b5 (bK (a5 1) (qC (.int 1009))) (nG (qC (.int 10)) (qC (.int 30))))) a9))) (b5 (bK (a5 1) (qC (.int 41))) (qC (.int 2)))) a9))) (eB (a5 2) (e9 (fC (a5 4) (qC (.int 1)))) e8))))))))
theorem Q5 {s xs:List Int}{a:Int}{g g':Tg}{R:PK} (ha:0<=a) (hl:s.length<=63) (xl:xs.length<=2) (r:R (.lst (intz (s.take a.toNat ++ xs))) .fr):nS (.lst (eY (intz s) none (some a))) g (.lst (intz xs)) g' R:=by
 rw [N5 s ha]
 refine⟨_,_,rfl,rfl,cN _,cN _,?_,?_⟩
 ·rw [c9,c9,aT0]; omega
 ·rw [<- gK]; exact r
theorem vZ {s A:List Int}{b:Int}{g g':Tg}{R:PK} (hb:0<=b) (hl:s.length<=63) (al:A.length<=100) (r:R (.lst (intz (A ++ s.drop b.toNat))) .fr):nS (.lst (intz A)) g (.lst (eY (intz s) (some b) none)) g' R:=by
 rw [J2 s hb]
 refine⟨_,_,rfl,rfl,cN _,cN _,?_,?_⟩
 ·rw [c9,c9,aT9]; omega
 ·rw [<- gK]; exact r
theorem aJ8:dE Q4 ["weights","cell","some","spot","at"] rM:=by
 rintro xs Q ⟨s,c,rfl,hl,c0,q⟩
 have ll:((intz s).length:Int)=s.length:=by rw [c9]
 refine⟨_,rfl,_,_,rfl,rfl,cN _,trivial,?_⟩
 refine⟨_,rfl,_,_,rfl,rfl,⟨by decide,by decide⟩,_,rfl,_,_,rfl,rfl,_,_,rfl,rfl,_,_,rfl,rfl,by omega,trivial,?_⟩
 dsimp only
 rw [ll]
 have k0:0<=c / 3 % ((s.length:Int)+1):=aT4 _ (by omega)
 have k1:c / 3 % ((s.length:Int)+1) < (s.length:Int)+1:=aW2 _ (by omega)
 generalize c / 3 % ((s.length:Int)+1)=k at k0 k1
 have one:(aY (fW (fW (eB (a5 2) e8 (e9 (a5 3))) (bV (a6 (b5 (bK (a5 1) (qC (.int 41))) (qC (.int 9))) a9))) (eB (a5 2) (e9 (a5 3)) e8))) { nx:=(aI (aV 4 (b5 (bK (a5 1) (qC (.int 3))) (aE dY (a6 (a5 2) a9))))
 (aI (bR (aU (fD (b5 (a5 1) (qC (.int 3))) (qC (.int 1)))) (aY (fW (eB (a5 2) e8 (e9 (a5 4))) (eB (a5 2) (e9 (fC (a5 4) (qC (.int 1)))) e8))) bQ)
 (aY (fW (fW (eB (a5 2) e8 (e9 (a5 4))) (bV (a6 (bI (bV (a6 (iL (qC (.int 1))) (a6 (lJ (iL (qC (.int 1))) (b5 (bK (a5 1) (qC (.int 1009))) (nG (qC (.int 10)) (qC (.int 30))))) a9))) (b5 (bK (a5 1) (qC (.int 41))) (qC (.int 2)))) a9))) (eB (a5 2) (e9 (fC (a5 4) (qC (.int 1)))) e8))))) { nx:=fun _=>Q .non,rt:=Q },rt:=Q } [some (.sh false (.lst (intz s))),si c,some (.sh true (.lst (intz s))),si k,none]:=by
  refine⟨_,rfl,_,rfl,_,rfl,_,rfl,cN _,_,rfl,_,_,rfl,rfl,⟨by decide,by decide⟩,_,_,rfl,rfl,(by show (0:Int) < 9; decide),by show 1<=1000; decide,rfl,?_⟩
  refine Q5 (s:=s) (xs:=[_]) k0 hl (by show 1<=2; decide) ?_
  refine⟨_,rfl,_,rfl,_,rfl,_,rfl,cN _,?_⟩
  refine vZ (s:=s) k0 hl (by rw [aQ8,aT0,aT3]; omega) ⟨trivial,q _ (by rw [aQ8,aQ8,aT0,aT9,aT3]; omega) fun z=>?_⟩
  have:=z.1
  rw [aQ8,aQ8,aT0,aT9,aT3] at this
  omega
 refine⟨_,rfl,_,_,rfl,rfl,(by show (0:Int) < 3; decide),.inl ⟨_,_,rfl,rfl,_,rfl,?_⟩⟩
 show if decide (c % 3=0)=true then _ else _
 by_cases h0:c % 3=0
 ·rw [aR9 h0]
  exact b4 (b4 one)
 rw [aR4 h0]
 refine aP ⟨_,rfl,_,_,rfl,rfl,.inl ⟨_,_,rfl,rfl,_,rfl,?_⟩⟩
 show if decide (((intz s).length:Int)=0)=true then _ else _
 rw [ll]
 by_cases hn:(s.length:Int)=0
 ·rw [aR9 hn]
  exact b4 one
 rw [aR4 hn]
 refine aP ?_
 refine⟨_,rfl,_,_,rfl,rfl,⟨by decide,by decide⟩,_,rfl,_,_,rfl,rfl,_,_,rfl,rfl,by rw [ll]; omega,trivial,?_⟩
 dsimp only
 rw [ll]
 have a0:0<=c / 3 % (s.length:Int):=aT4 _ (by omega)
 have a1:c / 3 % (s.length:Int) < (s.length:Int):=aW2 _ (by omega)
 generalize c / 3 % (s.length:Int)=a at a0 a1
 refine⟨_,rfl,_,_,rfl,rfl,(by show (0:Int) < 3; decide),.inl ⟨_,_,rfl,rfl,_,rfl,?_⟩⟩
 show if decide (c % 3=1)=true then _ else _
 by_cases h1:c % 3=1
 ·rw [aR9 h1]
  refine b4 ⟨_,rfl,_,rfl,_,rfl,_,rfl,cN _,_,rfl,_,rfl,_,_,rfl,rfl,_,rfl,_,rfl,cN _,?_⟩
  show nS (.lst (eY (intz s) none (some a))) _ (.lst (eY (intz s) (some (a+1)) none)) _ _
  rw [N5 s a0]
  refine vZ (s:=s) (by omega) hl (by rw [aT0]; omega) ⟨trivial,q _ (by rw [aQ8,aT0,aT9]; omega) fun z=>?_⟩
  have:=z.1
  rw [aQ8,aT0,aT9] at this
  omega
 rw [aR4 h1]
 refine aP ?_
 have f0:0<=c / 1009 % 10 ^ (30:Int).toNat:=aT4 _ (by decide)
 have j0:0<=c / 41 % 2:=aT4 _ (by decide)
 have j1:c / 41 % 2 < 2:=aW2 _ (by decide)
 obtain ⟨v,at2,hv⟩:∃ v:Int,L2.atI [PV.int (-1),.int (-1 - c / 1009 % 10 ^ (30:Int).toNat)] (c / 41 % 2)=some (.int v)/\v < 0:=by
  generalize c / 1009 % 10 ^ (30:Int).toNat=f at f0
  generalize c / 41 % 2=j at j0 j1
  rcases (show j=0 ∨ j=1 by omega) with rfl | rfl
  ·exact⟨-1,rfl,by omega⟩
  ·exact⟨-1 - f,rfl,by omega⟩
 refine⟨_,rfl,_,rfl,_,rfl,_,rfl,cN _,_,rfl,_,rfl,_,rfl,_,_,rfl,rfl,⟨by decide,by decide⟩,_,_,rfl,rfl,⟨by decide,by decide,by decide⟩,_,_,rfl,rfl,(by show (0:Int) < 10 ^ (30:Int).toNat; decide),_,_,rfl,rfl,by show 2<=1000; decide,rfl,?_⟩
 refine⟨_,rfl,_,_,rfl,rfl,⟨by decide,by decide⟩,_,_,rfl,rfl,(by show (0:Int) < 2; decide),_,_,_,rfl,rfl,at2,by show 1<=1000; decide,rfl,?_⟩
 refine Q5 (s:=s) (xs:=[v]) a0 hl (by show 1<=2; decide) ?_
 refine⟨_,rfl,_,rfl,_,_,rfl,rfl,_,rfl,_,rfl,cN _,?_⟩
 refine vZ (s:=s) (by omega) hl (by rw [aQ8,aT0,aT3]; omega) ⟨trivial,q _ (by rw [aQ8,aQ8,aT0,aT9,aT3]; omega) fun z=>?_⟩
 have:=z.2 v (by simp)
 omega
def rN (ws:List Int) (ls:List (Int × Int)) (x:PV) (wts:List Int):Prop:=Wb ws ls/\bX x wts/\wts.length<=1000/\¬ m5 ls.length wts
def Rfs (ws:List Int) (ls:List (Int × Int)) (x:PV) (wts:List Int) (way:Int) (th:PV) (c:Str):Prop:=
 ((way=0 ∨ way=1)/\rN ws ls x wts/\c="BadPrices") ∨ ((way=2 ∨ way=3)/\∃ ns,bX th ns/\rN ws ls x wts/\c="BadPrices") ∨ ((way=2 ∨ way=3)/\∃ ns,bX th ns/\ns.length<=1000/\rG ws ls x wts/\cV ws.length ns=false/\c="BadSet") ∨
 (way=4/\∃ k,th = .int k/\rN ws ls x wts/\c="BadPrices") ∨ (way=4/\∃ k,th = .int k/\rG ws ls x wts/\(k < 0 ∨ (ws.length:Int) < k)/\c="NoSuch") ∨ (way=5/\8 < ls.length/\c="TooMany")
def rO:List (Str × Str):=[("BadPrices","prices"),("BadSet","set"),("NoSuch","such"),("TooMany","many")]
def iY:bD:=fun xs Q=>∃ way ws ls x wts th c r,xs = [.int way,bG ws ls,x,th]/\Rfs ws ls x wts way th c/\(c,r) ∈ rO/\Q (.str r)
def w4:aN:=(aI (bR (mY (aU (ap3 (a5 4) (qC .non))) (pH (aU (jX "ValueError" (a5 4))))) (aY (qC (.str ""))) bQ)
 (aI (eV 6 (bV (a6 (jX "BadPrices" (a5 4)) (a6 (jX "BadSet" (a5 4)) (a6 (jX "NoSuch" (a5 4)) a9)))))
 (aI (iG 6 (jX "TooMany" (a5 4)))
 (aI (pJ 6 (bR (aU (nI (aE hU (a6 (cH (cD (a5 6)) [none] (bA 0) dA (aE rE (a6 (a5 0) a9))) a9)) (qC (.int 1)))) (aY (qC (.str "odd"))) bQ))
 (aY (bI (bV (a6 (qC (.str "prices")) (a6 (qC (.str "set")) (a6 (qC (.str "such")) (a6 (qC (.str "many")) a9))))) (rF (a5 6) (qC (.bl true)))))))))
def Q6:aN:=(aI (aV 4 (qC .non))
 (aI (vP "HearthError" 5 (lX (aU (fD (a5 0) (qC (.int 0)))) (kS jY (a6 (a5 1) (a6 (a5 2) a9))) (lX (aU (fD (a5 0) (qC (.int 1)))) (kS m8 (a6 (a5 1) (a6 (a5 2) a9))) (lX (aU (fD (a5 0) (qC (.int 2)))) (kS o9 (a6 (a5 1) (a6 (a5 2) (a6 (a5 3) a9)))) (lX (aU (fD (a5 0) (qC (.int 3)))) (kS rK (a6 (a5 1) (a6 (a5 2) (a6 (a5 3) a9)))) (lX (aU (fD (a5 0) (qC (.int 4)))) (kS rJ (a6 (a5 1) (a6 (a5 2) (a6 (a5 3) a9)))) (kS rL (a6 (a5 1) a9))))))) (aV 4 (a5 5)))
 w4))
theorem aJ9 {Q:PV->Prop}{y0 y1 y2 y3:Option Slot}{c r:Str} (h:(c,r) ∈ rO) (q:Q (.str r)):w4 { nx:=fun _=>Q .non,rt:=Q } [y0,y1,y2,y3,some (.sh true (.exc c)),none,none]:=by
 have tail:∀ (bs:List Bool),((bs.map fun b=>if b then (1:Int) else 0).sum=1)->(true ∈ bs)->L2.atI [PV.str "prices",.str "set",.str "such",.str "many"] (bs.idxOf true:Nat)=some (.str r)->bs.length<=4->
   (aI (pJ 6 (bR (aU (nI (aE hU (a6 (cH (cD (a5 6)) [none] (bA 0) dA (aE rE (a6 (a5 0) a9))) a9)) (qC (.int 1)))) (aY (qC (.str "odd"))) bQ))
   (aY (bI (bV (a6 (qC (.str "prices")) (a6 (qC (.str "set")) (a6 (qC (.str "such")) (a6 (qC (.str "many")) a9))))) (rF (a5 6) (qC (.bl true)))))) { nx:=fun _=>Q .non,rt:=Q } [y0,y1,y2,y3,some (.sh true (.exc c)),none,some (.own (.lst (bs.map PV.bl)))]:=fun bs hsum htr hat hbl=>by
  refine⟨_,rfl,?_⟩
  refine⟨_,rfl,bs.map PV.bl,rfl,(fun z=>by cases z),by rw [aQ3]; omega,fun i acc=>acc=intz ((bs.take i).map fun b=>if b then (1:Int) else 0),rfl,?_,?_⟩
  ·rintro i z acc hz rfl
   rw [aR6] at hz
   cases e:bs[i]? with
   | none=>rw [e] at hz; cases hz
   | some b=>
    rw [e] at hz; cases hz
    refine⟨_,rfl,.inr ⟨b,rfl,trivial,?_⟩⟩
    dsimp only
    rw [aV9,e,aS9,gK]; rfl
  rintro acc rfl
  rw [aQ3,aT6]
  refine⟨_,_,rfl,rfl,.inl ⟨_,_,rfl,rfl,_,rfl,?_⟩⟩
  rw [hsum]
  refine aP ?_
  exact⟨by show 4<=1000; decide,rfl,_,rfl,bs,rfl,true,rfl,htr,by omega,_,_,_,rfl,rfl,hat,trivial,q⟩
 simp only [rO,aQ2,aQ4,aS6,Prod.mk.injEq] at h
 rcases h with ⟨rfl,rfl⟩ | ⟨rfl,rfl⟩ | ⟨rfl,rfl⟩ | ⟨rfl,rfl⟩
 ·refine⟨_,rfl,rfl,_,rfl,aP ⟨_,rfl,true,(by decide),_,rfl,aP ?_⟩⟩
  refine⟨_,rfl,true,(by decide),_,rfl,false,(by decide),_,rfl,false,(by decide),by show 3<=1000; decide,rfl,rfl,rfl,?_⟩
  refine⟨_,rfl,_,rfl,false,(by decide),trivial,by show 3 < 16000000; decide,?_⟩
  exact tail [true,false,false,false] (by decide) (by decide) rfl (by decide)
 ·refine⟨_,rfl,rfl,_,rfl,aP ⟨_,rfl,true,(by decide),_,rfl,aP ?_⟩⟩
  refine⟨_,rfl,false,(by decide),_,rfl,true,(by decide),_,rfl,false,(by decide),by show 3<=1000; decide,rfl,rfl,rfl,?_⟩
  refine⟨_,rfl,_,rfl,false,(by decide),trivial,by show 3 < 16000000; decide,?_⟩
  exact tail [false,true,false,false] (by decide) (by decide) rfl (by decide)
 ·refine⟨_,rfl,rfl,_,rfl,aP ⟨_,rfl,true,(by decide),_,rfl,aP ?_⟩⟩
  refine⟨_,rfl,false,(by decide),_,rfl,false,(by decide),_,rfl,true,(by decide),by show 3<=1000; decide,rfl,rfl,rfl,?_⟩
  refine⟨_,rfl,_,rfl,false,(by decide),trivial,by show 3 < 16000000; decide,?_⟩
  exact tail [false,false,true,false] (by decide) (by decide) rfl (by decide)
 ·refine⟨_,rfl,rfl,_,rfl,aP ⟨_,rfl,true,(by decide),_,rfl,aP ?_⟩⟩
  refine⟨_,rfl,false,(by decide),_,rfl,false,(by decide),_,rfl,false,(by decide),by show 3<=1000; decide,rfl,rfl,rfl,?_⟩
  refine⟨_,rfl,_,rfl,true,(by decide),trivial,by show 3 < 16000000; decide,?_⟩
  exact tail [false,false,false,true] (by decide) (by decide) rfl (by decide)
theorem aK0:dE Q6 ["way","web","weights","thing","caught","e","kinds"] iY:=by
 rintro xs Q ⟨way,ws,ls,x,wts,th,c,r,rfl,h,ht,q⟩
 refine⟨trivial,?_⟩
 have ex:(fun n=>jW n "HearthError" = some true/\(aV 4 (a5 5)) (vO { nx:=w4 { nx:=fun _=>Q .non,rt:=Q },rt:=Q } 5) (List.set [some (.sh (flat (.int way)) (.int way)),some (.sh (flat (bG ws ls)) (bG ws ls)),some (.sh (flat x) x),some (.sh (flat th) th),some (.sh true .non),none,none] 5 (some (.sh true (.exc n))))) c:=by
  refine⟨?_,_,rfl,trivial,aJ9 ht q⟩
  simp only [rO,aQ2,aQ4,aS6,Prod.mk.injEq] at ht
  rcases ht with ⟨rfl,rfl⟩ | ⟨rfl,rfl⟩ | ⟨rfl,rfl⟩ | ⟨rfl,rfl⟩ <;> decide
 rcases h with ⟨rfl | rfl,⟨wb,hx,hl,ng⟩,rfl⟩ | ⟨rfl | rfl,ns,hy,⟨wb,hx,hl,ng⟩,rfl⟩ | ⟨rfl | rfl,ns,hy,nl,g,hs,rfl⟩ | ⟨rfl,k,rfl,⟨wb,hx,hl,ng⟩,rfl⟩ | ⟨rfl,k,rfl,g,hk,rfl⟩ | ⟨rfl,h8,rfl⟩
 ·exact⟨_,rfl,.inl ⟨_,_,rfl,rfl,_,rfl,b4 ⟨_,rfl,_,rfl,ws,ls,x,wts,rfl,.inl ⟨wb,hx,hl,ng,ex⟩⟩⟩⟩
 ·exact⟨_,rfl,.inl ⟨_,_,rfl,rfl,_,rfl,aP ⟨_,rfl,.inl ⟨_,_,rfl,rfl,_,rfl,b4 ⟨_,rfl,_,rfl,ws,ls,x,wts,rfl,wb,hx,hl,ng,ex⟩⟩⟩⟩⟩
 ·exact⟨_,rfl,.inl ⟨_,_,rfl,rfl,_,rfl,aP ⟨_,rfl,.inl ⟨_,_,rfl,rfl,_,rfl,aP ⟨_,rfl,.inl ⟨_,_,rfl,rfl,_,rfl,b4 ⟨_,rfl,_,rfl,_,rfl,ws,ls,x,wts,th,ns,rfl,.inl ⟨wb,hx,hl,ng,ex⟩⟩⟩⟩⟩⟩⟩⟩
 ·exact⟨_,rfl,.inl ⟨_,_,rfl,rfl,_,rfl,aP ⟨_,rfl,.inl ⟨_,_,rfl,rfl,_,rfl,aP ⟨_,rfl,.inl ⟨_,_,rfl,rfl,_,rfl,aP ⟨_,rfl,.inl ⟨_,_,rfl,rfl,_,rfl,b4 ⟨_,rfl,_,rfl,_,rfl,ws,ls,x,wts,th,ns,rfl,.inl ⟨wb,hx,hl,ng,ex⟩⟩⟩⟩⟩⟩⟩⟩⟩⟩
 ·exact⟨_,rfl,.inl ⟨_,_,rfl,rfl,_,rfl,aP ⟨_,rfl,.inl ⟨_,_,rfl,rfl,_,rfl,aP ⟨_,rfl,.inl ⟨_,_,rfl,rfl,_,rfl,b4 ⟨_,rfl,_,rfl,_,rfl,ws,ls,x,wts,th,ns,rfl,.inr ⟨g,hy,nl,hs,ex⟩⟩⟩⟩⟩⟩⟩⟩
 ·exact⟨_,rfl,.inl ⟨_,_,rfl,rfl,_,rfl,aP ⟨_,rfl,.inl ⟨_,_,rfl,rfl,_,rfl,aP ⟨_,rfl,.inl ⟨_,_,rfl,rfl,_,rfl,aP ⟨_,rfl,.inl ⟨_,_,rfl,rfl,_,rfl,b4 ⟨_,rfl,_,rfl,_,rfl,ws,ls,x,wts,th,ns,rfl,.inr ⟨g,hy,nl,hs,ex⟩⟩⟩⟩⟩⟩⟩⟩⟩⟩
 ·exact⟨_,rfl,.inl ⟨_,_,rfl,rfl,_,rfl,aP ⟨_,rfl,.inl ⟨_,_,rfl,rfl,_,rfl,aP ⟨_,rfl,.inl ⟨_,_,rfl,rfl,_,rfl,aP ⟨_,rfl,.inl ⟨_,_,rfl,rfl,_,rfl,aP ⟨_,rfl,.inl ⟨_,_,rfl,rfl,_,rfl,b4 ⟨_,rfl,_,rfl,_,rfl,ws,ls,x,wts,k,rfl,.inl ⟨wb,hx,hl,ng,ex⟩⟩⟩⟩⟩⟩⟩⟩⟩⟩⟩⟩
 ·exact⟨_,rfl,.inl ⟨_,_,rfl,rfl,_,rfl,aP ⟨_,rfl,.inl ⟨_,_,rfl,rfl,_,rfl,aP ⟨_,rfl,.inl ⟨_,_,rfl,rfl,_,rfl,aP ⟨_,rfl,.inl ⟨_,_,rfl,rfl,_,rfl,aP ⟨_,rfl,.inl ⟨_,_,rfl,rfl,_,rfl,b4 ⟨_,rfl,_,rfl,_,rfl,ws,ls,x,wts,k,rfl,.inr ⟨g,hk,ex⟩⟩⟩⟩⟩⟩⟩⟩⟩⟩⟩⟩
 ·exact⟨_,rfl,.inl ⟨_,_,rfl,rfl,_,rfl,aP ⟨_,rfl,.inl ⟨_,_,rfl,rfl,_,rfl,aP ⟨_,rfl,.inl ⟨_,_,rfl,rfl,_,rfl,aP ⟨_,rfl,.inl ⟨_,_,rfl,rfl,_,rfl,aP ⟨_,rfl,.inl ⟨_,_,rfl,rfl,_,rfl,aP ⟨_,rfl,ws,ls,rfl,h8,ex⟩⟩⟩⟩⟩⟩⟩⟩⟩⟩⟩
def w5:bD:=J3
def Q7:aN:=(aI (bR (aU (q2 (hV true) (aE iY (a6 (qC (.int 4)) (a6 (a5 1) (a6 (a5 3) (a6 (a5 7) a9))))) (qC (.str "such")))) (aY (qC (.bl false))) bQ)
 (aY (tY (iM (aE dY (a6 (bI (a5 1) (qC (.int 1))) a9)) (qC (.int 9))) (q2 (hV false) (aE iY (a6 (qC (.int 5)) (a6 (a5 1) (a6 (bV a9) (a6 (qC .non) a9))))) (qC (.str "many"))))))
def Q8:aN:=(aI (cG (cD (bV (a6 (qC (.int 2)) (a6 (qC (.int 3)) a9)))) (bA 9)
  (cG (cD (o7 (a6 (bV (a6 (a5 2) a9)) (a6 (dU (a6 (iL (qC (.int 1))) a9)) a9)))) (bA 10)
   (bR (aU (q2 (hV true) (aE iY (a6 (a5 9) (a6 (a5 1) (a6 (a5 3) (a6 (a5 10) a9))))) (qC (.str "set")))) (aY (qC (.bl false))) bQ)))
 Q7)
def Q9:aN:=(aI (cG (cD (o7 (a6 (a5 5) (a6 (aE gI (a6 (a5 5) a9)) a9)))) (bA 8)
  (aI (cG (iI (qC (.int 2))) (bA 9)
   (bR (aU (q2 (hV true) (aE iY (a6 (a5 9) (a6 (a5 1) (a6 (a5 8) (a6 (qC .non) a9))))) (qC (.str "prices")))) (aY (qC (.bl false))) bQ))
  (aI (cG (cD (o7 (a6 (dU a9) (a6 (dU (a6 (a5 2) a9)) (a6 (bV (a6 (iL (qC (.int 1))) a9)) a9))))) (bA 10)
   (cG (pN (qC (.int 2)) (qC (.int 4))) (bA 9)
    (bR (aU (q2 (hV true) (aE iY (a6 (a5 9) (a6 (a5 1) (a6 (a5 8) (a6 (a5 10) a9))))) (qC (.str "prices")))) (aY (qC (.bl false))) bQ)))
  (cG (cD (bV (a6 (a5 7) (a6 (qC (.int 0)) a9)))) (bA 11)
   (bR (aU (q2 (hV true) (aE iY (a6 (qC (.int 4)) (a6 (a5 1) (a6 (a5 8) (a6 (a5 11) a9))))) (qC (.str "prices")))) (aY (qC (.bl false))) bQ)))))
 Q8)
def R4:aN:=(aI (aV 1 (aE qU (a6 (a5 0) (a6 (qC (.int 2)) a9))))
 (aI (aV 2 (aE dY (a6 (bI (a5 1) (qC (.int 0))) a9)))
 (aI (aV 3 (aE qV (a6 (a5 0) (a6 (qC (.int 1)) (a6 (aE dY (a6 (bI (a5 1) (qC (.int 1))) a9)) a9)))))
 (aI (aV 4 (b5 (aE eD (a6 (a5 0) (a6 (qC (.int 1)) a9))) (nG (qC (.int 10)) (qC (.int 60)))))
 (aI (aV 5 (aE rM (a6 (a5 3) (a6 (a5 4) a9))))
 (aI (aV 6 (b5 (bK (a5 4) (qC (.int 1009))) (nG (qC (.int 10)) (qC (.int 30)))))
 (aI (aV 7 (bI (bV (a6 (iL (qC (.int 1))) (a6 (fC (a5 2) (qC (.int 1))) (a6 (lJ (iL (qC (.int 1))) (a5 6)) (a6 (fC (fC (a5 2) (qC (.int 1))) (a5 6)) a9))))) (b5 (bK (a5 4) (qC (.int 7))) (qC (.int 4)))))
 Q9)))))))
section
variable {Q : PV → Prop} {ns ws wts bad : List Int} {ls : List (Int × Int)} {c f odd : Int} {y4 y5 y6 y8 y9 y10 y11 : Option Slot}
abbrev hZ (ns ws wts:List Int) (ls:List (Int × Int)) (odd:Int) (y4 y5 y6 y8 y9 y10 y11:Option Slot):b8:=[some (.sh true (.scr ns)),some (.sh true (bG ws ls)),si (ws.length:Nat),some (.sh true (.lst (intz wts))),y4,y5,y6,si odd,y8,y9,y10,y11]
theorem oA {r:Str}{D:iD}{ρ:b8}{a b:aN} (h:b D ρ):(if (if true=true then !decide (r=r) else decide (r=r))=true then a D ρ else b D ρ):=by
 rw [aR9 rfl]; exact aP h
theorem aK1 (w:eF (ws.length:Int) ws ls) (few:ws.length<=40) (hwl:wts.length=ls.length) (hwp:∀ w ∈ wts,0<=w) (ho:odd < 0 ∨ (ws.length:Int) < odd) (q:Q (.bl true)):Q7 { nx:=fun _=>Q .non,rt:=Q } (hZ ns ws wts ls odd y4 y5 y6 y8 y9 y10 y11):=by
 have pl:(cE ls).length=ls.length:=aQ3 _
 have wm:=w.most
 refine⟨_,rfl,_,rfl,_,rfl,4,ws,ls,_,wts,_,"NoSuch","such",rfl,.inr (.inr (.inr (.inr (.inl ⟨rfl,odd,rfl,⟨w,few,.inr rfl,hwl,hwp⟩,ho,rfl⟩)))),(by decide),?_⟩
 refine⟨_,_,rfl,rfl,_,rfl,oA ?_⟩
 refine⟨_,rfl,_,_,_,rfl,rfl,rfl,_,_,rfl,rfl,_,_,rfl,rfl,_,rfl,?_⟩
 show if decide (((cE ls).length:Int) < 9)=true then _ else _
 rw [pl]
 by_cases h9:(ls.length:Int) < 9
 ·rw [aR9 h9]
  exact b4 ⟨trivial,q⟩
 ·rw [aR4 h9]
  refine aP ⟨_,rfl,by decide,rfl,5,ws,ls,_,[],_,"TooMany","many",rfl,.inr (.inr (.inr (.inr (.inr ⟨rfl,by omega,rfl⟩)))),(by decide),?_⟩
  refine⟨_,_,rfl,rfl,trivial,?_⟩
  show Q (.bl (decide (("many" : Str)="many")))
  rw [aR9 rfl]; exact q
theorem aK2 (w:eF (ws.length:Int) ws ls) (few:ws.length<=40) (hwl:wts.length=ls.length) (hwp:∀ w ∈ wts,0<=w) (ho:odd < 0 ∨ (ws.length:Int) < odd) (q:Q (.bl true)):Q8 { nx:=fun _=>Q .non,rt:=Q } (hZ ns ws wts ls odd y4 y5 y6 y8 y9 y10 y11):=by
 have set1:cV ws.length [(ws.length:Int)]=false:=by
  have:=N6 (n:=ws.length) (k:=0) (s:=[]) (x:=(ws.length:Int)) (.inr (Int.le_refl _))
  exact this
 have set2:cV ws.length [-1]=false:=by
  have:=N6 (n:=ws.length) (k:=0) (s:=[]) (x:=-1) (.inl (by decide))
  exact this
 refine⟨by show 2<=1000; decide,rfl,[PV.int 2,.int 3],rfl,(fun z=>by cases z),fun i ρ=>∃ z9 z10:Option Slot,ρ=hZ ns ws wts ls odd y4 y5 y6 y8 z9 z10 y11,⟨y9,y10,rfl⟩,?_,?_⟩
 ·rintro i z ρ hz ⟨z9,z10,rfl⟩
  obtain ⟨k,rfl,hk⟩:∃ k:Int,z = .int k/\(k=2 ∨ k=3):=by
   have:z ∈ [PV.int 2,.int 3]:=aT1 hz
   simp only [aQ2,aQ4,aS6] at this
   rcases this with rfl | rfl
   ·exact⟨2,rfl,.inl rfl⟩
   ·exact⟨3,rfl,.inr rfl⟩
  generalize gF _ _=gg
  refine⟨_,rfl,by show 1<=1000; decide,rfl,_,rfl,by show 1<=1000; decide,rfl,by show 2<=1000; decide,?_,[.lst [.int (ws.length:Nat)],.tup [.int (-1)]],rfl,(fun z=>by cases z),fun j ρ=>∃ z10:Option Slot,ρ=hZ ns ws wts ls odd y4 y5 y6 y8 (some (.sh (gg || true) (.int k))) z10 y11,⟨z10,rfl⟩,?_,?_⟩
  ·intro p hp
   simp only [aQ2,aQ4,aS6] at hp
   rcases hp with rfl | rfl <;> exact trivial
  ·rintro j z ρ hz ⟨z10,rfl⟩
   obtain ⟨ms,hI,hb⟩:∃ ms,bX z ms/\ms.length<=1000/\cV ws.length ms=false:=by
    have:z ∈ [PV.lst [.int (ws.length:Nat)],.tup [.int (-1)]]:=aT1 hz
    simp only [aQ2,aQ4,aS6] at this
    rcases this with rfl | rfl
    ·exact⟨[(ws.length:Int)],.inr rfl,by show 1<=1000; decide,set1⟩
    ·exact⟨[-1],.inl rfl,by decide,set2⟩
   generalize gF _ _=g2
   refine⟨_,rfl,_,rfl,_,rfl,_,rfl,k,ws,ls,_,wts,z,"BadSet","set",rfl,.inr (.inr (.inl ⟨hk,ms,hI,hb.1,⟨w,few,.inr rfl,hwl,hwp⟩,hb.2,rfl⟩)),(by decide),?_⟩
   exact⟨_,_,rfl,rfl,_,rfl,oA ⟨some (.sh (g2 || flat z) z),rfl⟩⟩
  ·rintro ρ ⟨z10,rfl⟩
   exact⟨_,z10,rfl⟩
 ·rintro ρ ⟨z9,z10,rfl⟩
  exact aK1 w few hwl hwp ho q
theorem aK3 (w:eF (ws.length:Int) ws ls) (few:ws.length<=40) (hwl:wts.length=ls.length) (hwp:∀ w ∈ wts,0<=w) (bl:bad.length<=1000) (ng : ¬ m5 ls.length bad) (ho:odd < 0 ∨ (ws.length:Int) < odd) (q:Q (.bl true)) :
  Q9 { nx:=fun _=>Q .non,rt:=Q } (hZ ns ws wts ls odd y4 (some (.sh true (.lst (intz bad)))) y6 none none none none):=by
 have wb:=w.wb (by omega)
 refine⟨_,rfl,_,rfl,⟨_,_,rfl,rfl,cN _,by show 2<=1000; decide,?_,[.lst (intz bad),.tup (intz bad)],rfl,(fun z=>by cases z),fun i ρ=>∃ z8 z9 z10 z11:Option Slot,ρ=hZ ns ws wts ls odd y4 (some (.sh true (.lst (intz bad)))) y6 z8 z9 z10 z11,⟨none,none,none,none,rfl⟩,?_,?_⟩,fun _ z=>by cases z⟩
 ·intro p hp
  simp only [aQ2,aQ4,aS6] at hp
  rcases hp with rfl | rfl <;> exact trivial
 ·rintro i z ρ hz ⟨z8,z9,z10,z11,rfl⟩
  have hI:bX z bad:=by
   have:z ∈ [PV.lst (intz bad),.tup (intz bad)]:=aT1 hz
   simp only [aQ2,aQ4,aS6] at this
   rcases this with rfl | rfl
   ·exact .inr rfl
   ·exact .inl rfl
  have bw:rN ws ls z bad:=⟨wb,hI,bl,ng⟩
  generalize gF _ _=gg
  refine⟨(2:Int),rfl,by decide,by decide,fun j ρ=>∃ z9:Option Slot,ρ=hZ ns ws wts ls odd y4 (some (.sh true (.lst (intz bad)))) y6 (some (.sh (gg || flat z) z)) z9 z10 z11,⟨z9,rfl⟩,?_,?_⟩
  ·rintro j y ρ hy ⟨z9,rfl⟩
   obtain ⟨rfl,hj⟩:=jR hy
   have hj:j < 2:=hj
   refine⟨_,rfl,_,rfl,_,rfl,(0:Int)+(j:Int),ws,ls,z,bad,_,"BadPrices","prices",rfl,.inl ⟨by omega,bw,rfl⟩,(by decide),?_⟩
   exact⟨_,_,rfl,rfl,_,rfl,oA ⟨si ((0:Int)+(j:Int)),rfl⟩⟩
  rintro ρ ⟨z9,rfl⟩
  refine⟨by decide,rfl,_,rfl,by show 1<=1000; decide,rfl,_,rfl,by show 1<=1000; decide,rfl,by show 3<=1000; decide,?_,[.tup [],.tup [.int (ws.length:Nat)],.lst [.int (-1)]],rfl,(fun z=>by cases z),fun j ρ=>∃ z9 z10:Option Slot,ρ=hZ ns ws wts ls odd y4 (some (.sh true (.lst (intz bad)))) y6 (some (.sh (gg || flat z) z)) z9 z10 z11,⟨z9,z10,rfl⟩,?_,?_⟩
  ·intro p hp
   simp only [aQ2,aQ4,aS6] at hp
   rcases hp with rfl | rfl | rfl <;> exact trivial
  ·rintro j y ρ hy ⟨z9,z10,rfl⟩
   obtain ⟨ms,hy'⟩:∃ ms,bX y ms:=by
    have:y ∈ [PV.tup [],.tup [.int (ws.length:Nat)],.lst [.int (-1)]]:=aT1 hy
    simp only [aQ2,aQ4,aS6] at this
    rcases this with rfl | rfl | rfl
    ·exact⟨[],.inl rfl⟩
    ·exact⟨[(ws.length:Int)],.inl rfl⟩
    ·exact⟨[-1],.inr rfl⟩
   generalize gF _ _=g2
   refine⟨_,_,rfl,rfl,by decide,fun k ρ=>∃ z9:Option Slot,ρ=hZ ns ws wts ls odd y4 (some (.sh true (.lst (intz bad)))) y6 (some (.sh (gg || flat z) z)) z9 (some (.sh (g2 || flat y) y)) z11,⟨z9,rfl⟩,?_,?_⟩
   ·rintro k v ρ hv ⟨z9,rfl⟩
    obtain ⟨rfl,hk⟩:=jR hv
    have hk:k < 2:=hk
    refine⟨_,rfl,_,rfl,_,rfl,_,rfl,(2:Int)+(k:Int),ws,ls,z,bad,y,"BadPrices","prices",rfl,.inr (.inl ⟨by omega,ms,hy',bw,rfl⟩),(by decide),?_⟩
    exact⟨_,_,rfl,rfl,_,rfl,oA ⟨si ((2:Int)+(k:Int)),rfl⟩⟩
   ·rintro ρ ⟨z9,rfl⟩
    exact⟨z9,_,rfl⟩
  rintro ρ ⟨z9,z10,rfl⟩
  refine⟨_,rfl,by show 2<=1000; decide,rfl,[.int odd,.int 0],rfl,(fun z=>by cases z),fun j ρ=>∃ z11:Option Slot,ρ=hZ ns ws wts ls odd y4 (some (.sh true (.lst (intz bad)))) y6 (some (.sh (gg || flat z) z)) z9 z10 z11,⟨z11,rfl⟩,?_,?_⟩
  ·rintro j y ρ hy ⟨z11,rfl⟩
   obtain ⟨k,rfl⟩:∃ k:Int,y = .int k:=by
    have:y ∈ [PV.int odd,.int 0]:=aT1 hy
    simp only [aQ2,aQ4,aS6] at this
    rcases this with rfl | rfl
    ·exact⟨odd,rfl⟩
    ·exact⟨0,rfl⟩
   generalize gF _ _=g2
   refine⟨_,rfl,_,rfl,_,rfl,4,ws,ls,z,bad,_,"BadPrices","prices",rfl,.inr (.inr (.inr (.inl ⟨rfl,k,rfl,bw,rfl⟩))),(by decide),?_⟩
   exact⟨_,_,rfl,rfl,_,rfl,oA ⟨some (.sh (g2 || true) (.int k)),rfl⟩⟩
  ·rintro ρ ⟨z11,rfl⟩
   exact⟨_,z9,z10,z11,rfl⟩
 ·rintro ρ ⟨z8,z9,z10,z11,rfl⟩
  exact aK2 w few hwl hwp ho q
end
theorem aK4:dE R4 ["script","web","many","weights","cell","bad","far","odd","some","way","seeds","count"] w5:=by
 rintro xs Q ⟨ns,rfl,hl,q⟩
 refine⟨_,rfl,ns,2,rfl,hl,by decide,fun n ws ls n0 n1 w=>⟨trivial,?_⟩⟩
 have ln:(ws.length:Int)=n:=w.many
 subst ln
 have few:ws.length<=40:=by omega
 have pl:(cE ls).length=ls.length:=aQ3 _
 have wm:=w.most
 refine⟨_,rfl,_,_,_,rfl,rfl,rfl,_,_,rfl,rfl,trivial,?_⟩
 rw [c9]
 refine⟨_,rfl,_,rfl,_,_,_,rfl,rfl,rfl,_,_,rfl,rfl,ns,1,(cE ls).length,rfl,by decide,by omega,fun wts hwl hwp=>⟨trivial,?_⟩⟩
 rw [pl] at hwl
 refine⟨_,rfl,_,ns,1,rfl,.inl rfl,by decide,?_⟩
 generalize ns.getD (1:Int).toNat 0=cell
 refine⟨_,_,rfl,rfl,⟨by decide,by decide,by decide⟩,_,_,rfl,rfl,(by show (0:Int) < 10 ^ (60:Int).toNat; decide),trivial,?_⟩
 dsimp only
 have c0:0<=cell % 10 ^ (60:Int).toNat:=aT4 _ (by decide)
 generalize cell % 10 ^ (60:Int).toNat=c at c0
 refine⟨_,rfl,_,rfl,wts,c,rfl,by omega,c0,fun bad bl ng=>⟨trivial,?_⟩⟩
 rw [hwl] at ng
 refine⟨_,rfl,_,_,rfl,rfl,⟨by decide,by decide⟩,_,_,rfl,rfl,⟨by decide,by decide,by decide⟩,_,_,rfl,rfl,(by show (0:Int) < 10 ^ (30:Int).toNat; decide),trivial,?_⟩
 dsimp only
 have f0:0<=c / 1009 % 10 ^ (30:Int).toNat:=aT4 _ (by decide)
 generalize c / 1009 % 10 ^ (30:Int).toNat=f at f0
 have j0:0<=c / 7 % 4:=aT4 _ (by decide)
 have j1:c / 7 % 4 < 4:=aW2 _ (by decide)
 obtain ⟨v,at4,hv⟩:∃ v:Int,L2.atI [PV.int (-1),.int ((ws.length:Int)+1),.int (-1 - f),.int ((ws.length:Int)+1+f)] (c / 7 % 4)=some (.int v)/\(v < 0 ∨ (ws.length:Int) < v):=by
  obtain ⟨z,h1,h2⟩:=qO (a:=-1) (b:=(ws.length:Int)+1) (c:=-1 - f) (d:=(ws.length:Int)+1+f) j0 j1
  exact⟨z,h1,by rcases h2 with rfl | rfl | rfl | rfl <;> omega⟩
 refine⟨_,rfl,_,rfl,_,_,rfl,rfl,_,rfl,_,rfl,_,_,rfl,rfl,_,rfl,_,_,rfl,rfl,_,rfl,_,_,rfl,rfl,by show 4<=1000; decide,rfl,_,rfl,_,_,rfl,rfl,⟨by decide,by decide⟩,_,_,rfl,rfl,(by show (0:Int) < 4; decide),_,_,_,rfl,rfl,at4,trivial,?_⟩
 exact aK3 w few hwl hwp (by omega) ng hv q
end Core
namespace PP
open PySem L2 Core
section
variable {P : Program} {w : World} {K : PySem.W.Frag} {mg : Str → Option Value} {base : Heap} {f : Addr} {fd : FuncData} {k : Nat}
theorem aK5 (F:bJ P w K mg base cU k f fd ["web","weights"] (vK K)):bJ P w K mg base cU k f fd ["web","weights"] (kG K qT):=by
 refine F.imp fun vs H Q E h=>?_
 obtain ⟨xs,Qp,r,⟨ws,ls,x,wts,rfl,wb,hx,hwl,hwp,q⟩,k⟩:=h
 obtain ⟨v,u,rfl,r1,r2⟩:=r.two
 have:=wb.few
 have:=wb.most
 refine⟨v,u,x,ws,ls,wts,rfl,G8 r1,r2,hx,hwl,hwp,by omega,by omega,wb.links,fun t bs H' hb R=>k _ H' _ R.same (.lst R.new R.row ?_) q⟩
 have:=L8 (K:=K) (M:=fun a=>H a=none) (H:=H') (bs:=bs) (zs:=ls.zip wts) 0 (fun b hb=>(R.news b hb).1) fun k b hk=>by rw [Nat.zero_add]; exact R.rows k b hk
 rw [hb,<- List.range_eq_range'] at this
 exact this
theorem Df.weak2 {x:Str}{ps:List Str}{p p':bD} (d:Df P w K mg base k x ps p) (h:∀ xs Q,p' xs Q->p xs Q):Df P w K mg base k x ps p':=by
 obtain ⟨f,fd,F,r⟩:=d.ex
 exact⟨f,fd,F.imp fun vs H Q E ⟨xs,Qp,a,b,c⟩=>⟨xs,Qp,a,h _ _ b,c⟩,r⟩
theorem aK6 (F1:bJ P w K mg base cU k f fd ["web","weights"] (vK K)) (F2:bJ P w K mg base (cM P w) k f fd ["web","weights"] (kQ K rH)) (b:gB K fd ["web","weights"] []) (kp:PySem.W.keepIn K (.ref f)=true) (m:mg "weighted_lists" = some (.ref f)):aX P w K mg base k "weighted_lists" ["web","weights"] m6:=
 ⟨f,fd,aI6 (aK5 F1) F2 aI9,b,kp,m⟩
end
end PP
namespace K_k69
open PySem PySem.W L2 PP Core
theorem _root_.L2.FnScope.au {N P:List Str}{s:Scope} (a:s.kind=.function:=by rfl) (b:s.isCoroutine=false:=by rfl) (c:s.isGenerator=false:=by rfl) (d:N.Nodup:=by decide +kernel) (e:N.take P.length=P:=by rfl) (f:∀ x∈P,s.names.lookup x=some .local∨s.names.lookup x=some .cell:=by decide +kernel) (g:∀ y∈s.names,y.2≠.free:=by decide +kernel):FnScope N P s:=⟨a,b,c,d,e,f,g⟩
def aW (i:Nat):Stmt:=PySem.Challenge.pw_kindleweb_k69_weights_refused.main.body.getD i (.Pass ⟨0,0,0,0⟩)
structure FK (K:Frag) (n:Str) (i:Nat) (f:Addr) (d:FuncData):Prop where
 a:nsIn K mainGlobals n=some (some (.ref f))
 F:dF K n n (aW i) f d
structure FM (K:Frag) (mg:Str->Option Value) (n:Str) (i:Nat) (f:Addr) (d:FuncData):Prop where
 F:dF K n n (aW i) f d
 m:mg n=some (.ref f)
theorem FK.M {K:Frag}{mg:Str->Option Value}{n:Str}{i:Nat}{f:Addr}{d:FuncData}{h:Heap} (z:FK K n i f d) (X:K.In h) (G:h.Ns mainGlobals mg):FM K mg n i f d:=⟨z.F,mg_of X G z.a⟩
abbrev Hb (x:Str) (ps:List Str) (i:Nat):Prop:=∀ (kV doc pm:Value) (an:Option Addr) (cdv ct:Value) (us:List Value),us.length=ps.length->bindArgs (fnOf x x (i9 (aW i)) (dI (aW i)) (aQ (aW i)) .none kV doc pm an cdv ct) ⟨us,[]⟩=pure (ps.zip us)
theorem aK7 {A:Around}{k:Nat} (hr:bT k A):A.units+3 < cLine:=by have:=hr.units; omega
section
variable {P : Program} {w : World} {K : Frag} {mg : Str → Option Value} {base : Heap} {f : Addr} {fd : FuncData} {k i : Nat} {x : Str} {ps N : List Str}
theorem Df.au {p:bD} (F:FM K mg x i f fd) (S:FnScope N ps (aQ (aW i))) (body:∀ (cdv:Value) (A:Around) (outer:List Env) (s:Shared) (H:Hp) (E:XK),bT k (A.deeper (PyProof.Rows.envOfC x (aQ (aW i)) s.heap.objs.size f cdv))->∃ t,dM (cT cU P w K mg base N x (aQ (aW i)) f cdv A outer s H E).nox (dI (aW i)) t/\∀ xs Q,p xs Q->t { nx:=fun _=>Q .non,rt:=Q } (eC N xs)) (hb:Hb x ps i:=by intro _ _ _ _ _ _ us hl; first | (obtain ⟨_,rfl⟩:=iX hl; rfl) | (obtain ⟨_,_,rfl⟩:=nZ hl; rfl) | (obtain ⟨_,_,_,rfl⟩:=vT hl; rfl) | (obtain ⟨_,_,_,_,rfl⟩:=N7 hl; rfl) | (obtain ⟨_,_,_,_,_,rfl⟩:=us5 hl; rfl)) (len:∀ xs Q,p xs Q->xs.length=ps.length:=by intro xs Q h; repeat (first | (obtain ⟨rfl,_⟩:=h; rfl) | (obtain ⟨_,h⟩:=h))):Df P w K mg base (k+1) x ps p:=
 Df.of F.F F.m S hb len body
theorem aX.au {p:cB} (F:FM K mg x i f fd) (S:FnScope N ps (aQ (aW i))) (t:(Str->Prop)->aN) (rd:∀ Ep xs Q,p Ep xs Q->t Ep { nx:=fun _=>Q .non,rt:=Q } (eC N xs)) (body:∀ (cdv:Value) (A:Around) (outer:List Env) (s:Shared) (H:Hp) (E:XK) (Ep:Str->Prop),bT k (A.deeper (PyProof.Rows.envOfC x (aQ (aW i)) s.heap.objs.size f cdv))->kJ (cT (cM P w) P w K mg base N x (aQ (aW i)) f cdv A outer s H E) (EX K H Ep)->dM (cT (cM P w) P w K mg base N x (aQ (aW i)) f cdv A outer s H E) (dI (aW i)) (t Ep)) (hb:Hb x ps i:=by intro _ _ _ _ _ _ us hl; first | (obtain ⟨_,rfl⟩:=iX hl; rfl) | (obtain ⟨_,_,rfl⟩:=nZ hl; rfl) | (obtain ⟨_,_,_,rfl⟩:=vT hl; rfl) | (obtain ⟨_,_,_,_,rfl⟩:=N7 hl; rfl) | (obtain ⟨_,_,_,_,_,rfl⟩:=us5 hl; rfl)) (len:∀ Ep xs Q,p Ep xs Q->xs.length=ps.length:=by intro Ep xs Q h; repeat (first | (obtain ⟨rfl,_⟩:=h; rfl) | (obtain ⟨_,h⟩:=h))):aX P w K mg base (k+1) x ps p:=
 aX.of F.F F.m S hb t len rd body
end
section
variable {P : Program} {w : World} {K : Frag} {mg : Str → Option Value} {base : Heap} {f : Addr} {fd : FuncData}
theorem nd2:(["ahead","behind"]:List Str).Nodup:=by decide +kernel
abbrev R5:Stmt:=aW 9
theorem scR:FnScope ["things"] ["things"] (aQ R5):=.au
theorem w6 {ns:List Int}{i:Nat}{x y:V} (h1:(ns.map V.int)[i]? = some x) (h2:((ns.map V.int).drop 1)[i]? = some y):∃ p q:Int,x = .int p/\y = .int q/\(ns.zip (ns.drop 1))[i]? = some (p,q):=by
 rw [aR6] at h1
 rw [<- List.map_drop,aR6] at h2
 cases e1:ns[i]? with
 | none=>rw [e1] at h1; cases h1
 | some p=>
  cases e2:(ns.drop 1)[i]? with
  | none=>rw [e2] at h2; cases h2
  | some q=>
   rw [e1] at h1; rw [e2] at h2
   exact⟨p,q,(aS7 h1).symm,(aS7 h2).symm,List.getElem?_zip_eq_some.mpr ⟨e1,e2⟩⟩
theorem aK8 (B:Bt mg) (F:dF K "rises" "rises" R5 f fd):bJ P w K mg base cU 1 f fd ["things"] (G6 K):=by
 refine F.ok scR (fun vs H Q E h=>?_) (fun cdv A outer s H vs Q E hr h=>?_)
 ·obtain ⟨a,ns,rfl,_⟩:=h
  rfl
 obtain ⟨a,ns,rfl,hS,hn,q⟩:=h
 have lz:((ns.map V.int).drop 1).length<=sizeLine:=aX4 (eZ (by rw [aT9,aQ3]; omega))
 have lz2:((ns.map V.int).drop 1).length<=(ns.map V.int).length:=by rw [aT9]; omega
 have lz3:(ns.zip (ns.drop 1)).length=((ns.map V.int).drop 1).length:=by rw [List.length_zip,aT9,aT9,aQ3]; omega
 rcases hS with hS | hS
 ·refine⟨_,k6 (kW (mK (tT rfl) rfl B.all PyProof.Rows.boot_all (bO (yJ (N:=["ahead","behind"]) (fr:=[none,none]) rfl (cF.of rfl rfl) (zJ rfl B.zip (bO (pv 0) (bO (sO zL (pv 0) (sN fJ) sM) cK)))
   ⟨fun _ _ _ _=>show PG _ _ (j4 K 2 (eG (cJ 0) (eG (cJ 1) j3))) from kY rfl (fL (dQ (i:=0) nd2 rfl (Or.inl rfl) (.inr rfl)) (fL (dQ (i:=1) nd2 rfl (Or.inl rfl) (.inr rfl)) kX)),fun _ _ _ _=>mR,fun _ _ _ _=>sF oI (pv 0) (pv 1) (eN _)⟩) cK))),?_⟩
  refine⟨_,rfl,_,rfl,1,rfl,a,_,rfl,hS,fun p hp=>?_,fun e=>?_⟩
  ·have s1:=b6 hp (.tup (dH (ns.map V.int) (some 1) none))
   have hb:aF K (upd H p (.tup (dH (ns.map V.int) (some 1) none))) p ((ns.map V.int).drop 1):=aF.of (by rw [aZ,tW])
   refine⟨a,p,_,_,rfl,s1.tup hS,hb,tV (zK (s1.tup hS) hb lz2) (fun i acc _=>acc=((ns.zip (ns.drop 1)).take i).map fun (p:Int × Int)=>V.bl (decide (p.1 < p.2))) lz (fun _ _=>rfl) (fun _ _ _ _ _ h=>h) (fun i x acc D H' hi hR c hP=>?_) (fun D acc H' hD sm hDa hlen hP=>?_)⟩
   ·obtain ⟨T,x1,y1,rfl,hT,h1,h2⟩:=hR
    obtain ⟨m,k,rfl,rfl,hz⟩:=w6 h1 h2
    refine⟨T,_,rfl,aF.of hT,rfl,_,_,rfl,_,_,rfl,rfl,((Wk.refl _).set (i:=0) rfl).set (i:=1) rfl,mU ⟨_,rfl,_,rfl,_,_,rfl,rfl,c.yes (aB.refl _) ?_⟩⟩
    rw [nM hz,hP]
   ·refine⟨D,(ns.zip (ns.drop 1)).map fun (p:Int × Int)=>decide (p.1 < p.2),rfl,aH.of ?_,q _ (s1.trans sm)⟩
    rw [hDa,hP,<- lz3,aT6,ba1]; rfl
  ·have hb:aF K H a ((ns.map V.int).drop 1):=by
    have:(ns.map V.int).drop 1=ns.map V.int:=by rw [<- tW]; exact e
    rw [this]; exact hS
   refine⟨a,a,_,_,rfl,hS,hb,tV (zK hS hb lz2) (fun i acc _=>acc=((ns.zip (ns.drop 1)).take i).map fun (p:Int × Int)=>V.bl (decide (p.1 < p.2))) lz (fun _ _=>rfl) (fun _ _ _ _ _ h=>h) (fun i x acc D H' hi hR c hP=>?_) (fun D acc H' hD sm hDa hlen hP=>?_)⟩
   ·obtain ⟨T,x1,y1,rfl,hT,h1,h2⟩:=hR
    obtain ⟨m,k,rfl,rfl,hz⟩:=w6 h1 h2
    refine⟨T,_,rfl,aF.of hT,rfl,_,_,rfl,_,_,rfl,rfl,((Wk.refl _).set (i:=0) rfl).set (i:=1) rfl,mU ⟨_,rfl,_,rfl,_,_,rfl,rfl,c.yes (aB.refl _) ?_⟩⟩
    rw [nM hz,hP]
   ·refine⟨D,(ns.zip (ns.drop 1)).map fun (p:Int × Int)=>decide (p.1 < p.2),rfl,aH.of ?_,q _ sm⟩
    rw [hDa,hP,<- lz3,aT6,ba1]; rfl
 ·refine⟨_,k6 (kW (mK (tT rfl) rfl B.all PyProof.Rows.boot_all (bO (yJ (N:=["ahead","behind"]) (fr:=[none,none]) rfl (cF.of rfl rfl) (aj6 rfl B.zip (bO (pv 0) (bO (sO xM (pv 0) (sN fJ) sM) cK)))
   ⟨fun _ _ _ _=>show PG _ _ (j4 K 2 (eG (cJ 0) (eG (cJ 1) j3))) from kY rfl (fL (dQ (i:=0) nd2 rfl (Or.inl rfl) (.inr rfl)) (fL (dQ (i:=1) nd2 rfl (Or.inl rfl) (.inr rfl)) kX)),fun _ _ _ _=>mR,fun _ _ _ _=>sF oI (pv 0) (pv 1) (eN _)⟩) cK))),?_⟩
  refine⟨_,rfl,_,rfl,1,rfl,a,_,rfl,hS,fun p hp=>?_⟩
  have s1:=b6 hp (.lst (dH (ns.map V.int) (some 1) none))
  have hb:aH K (upd H p (.lst (dH (ns.map V.int) (some 1) none))) p ((ns.map V.int).drop 1):=aH.of (by rw [aZ,tW])
  refine⟨a,p,_,_,rfl,s1.seq hS,hb,tV (aj7 (s1.seq hS) hb lz2) (fun i acc _=>acc=((ns.zip (ns.drop 1)).take i).map fun (p:Int × Int)=>V.bl (decide (p.1 < p.2))) lz (fun _ _=>rfl) (fun _ _ _ _ _ h=>h) (fun i x acc D H' hi hR c hP=>?_) (fun D acc H' hD sm hDa hlen hP=>?_)⟩
  ·obtain ⟨T,x1,y1,rfl,hT,h1,h2⟩:=hR
   obtain ⟨m,k,rfl,rfl,hz⟩:=w6 h1 h2
   refine⟨T,_,rfl,aF.of hT,rfl,_,_,rfl,_,_,rfl,rfl,((Wk.refl _).set (i:=0) rfl).set (i:=1) rfl,mU ⟨_,rfl,_,rfl,_,_,rfl,rfl,c.yes (aB.refl _) ?_⟩⟩
   rw [nM hz,hP]
  ·refine⟨D,(ns.zip (ns.drop 1)).map fun (p:Int × Int)=>decide (p.1 < p.2),rfl,aH.of ?_,q _ (s1.trans sm)⟩
   rw [hDa,hP,<- lz3,aT6,ba1]; rfl
abbrev R6:Stmt:=aW 11
theorem rP:FnScope ["web","around","one","other"] ["web"] (aQ R6):=.au
theorem aK9 (F:dF K "near_lists" "near_lists" R6 f fd):bJ P w K mg base cU 1 f fd ["web"] G7:=by
 refine F.ok rP (fun vs H Q E h=>?_) (fun cdv A outer s H vs Q E hr h=>?_)
 ·obtain ⟨v,ws,ls,rfl,_⟩:=h
  rfl
 obtain ⟨v,ws,ls,rfl,W,hn,hm,hin,q⟩:=h
 refine⟨_,j2 (yK (i:=1) (N:=["want"]) (fr:=[none]) rfl (cF.of rfl rfl) (rX (eQ gV (pv 0) fJ (fun _ _=>rfl)))
   ⟨fun _ _ _ _=>dQ (i:=0) (aV3 _ _) rfl (Or.inl rfl) (.inr rfl),fun _ _ _ _=>mR,fun _ _ _ _=>oJ cK⟩ rP.nd rfl rfl rfl)
  (j2 (rY PassesOwn.never rfl (rX (eQ gV (pv 0) fJ (fun _ _=>rfl))) (kY (n:=2) rfl (fL (dQ (i:=2) rP.nd rfl (Or.inl rfl) (.inr rfl)) (fL (dQ (i:=3) rP.nd rfl (Or.inl rfl) (.inr rfl)) kX)) )
   (j2 (k7 (j7 aW6 aY3 aY4 kB (eQ mO (pv 1) (pv 2) (fun _ _=>rfl)) (bO (pv 3) cK)))
   (k6 (k7 (j7 aW6 aY3 aY4 kB (eQ mO (pv 1) (pv 3) (fun _ _=>rfl)) (bO (pv 2) cK))))))
  (k6 (kW (pv 1)))),?_⟩
 obtain ⟨a,p,q',ys,rfl,ha,hp,hq,hL⟩:=W.at_
 have lw:(ws.map V.int).length=ws.length:=aQ3 _
 refine⟨_,rfl,a,_,_,_,rfl,rfl,aF.of ha,rfl,p,rfl,⟨_,aF.of hp⟩,yP (yN (aF.of hp)) (fun i acc H'=>∃ bs:List Addr,acc=bs.map V.ref/\bs.length=i/\bs.Nodup/\∀ b ∈ bs,H b=none/\H' b=some (.lst [])) (by rw [lw]; exact aX4 (oP hn))
  (fun D hD=>⟨[],rfl,rfl,List.nodup_nil,fun _ z=>nomatch z⟩) (fun i x acc D H' hx c hPv=>?_) (fun D acc H' hD sm hDa hlen hPv=>?_)⟩
 ·obtain ⟨bs,rfl,hbl,nd,hb⟩:=hPv
  refine⟨zD (n:=none),mU ⟨aT7 _,fun r hr'=>?_⟩⟩
  have hrD:r ≠ D:=fun z=>by rw [z,c.acc] at hr'; cases hr'
  have hrH:H r=none:=c.same.free hr'
  refine c.yes (b6 hr' _) ⟨bs ++ [r],by simp,by simp [hbl],?_,fun b hm=>?_⟩
  ·refine ba5.mpr ⟨nd,aV3 _ _,fun b hb1 b' hb2 e=>?_⟩
   rw [aR8.mp hb2] at e
   rw [e] at hb1
   rw [(hb r hb1).2] at hr'; cases hr'
  ·rcases aV6.mp hm with hm | hm
   ·have hbD:b ≠ D:=fun z=>by
     rw [z] at hm
     have:=(hb D hm).2
     rw [c.acc] at this
     have:bs.map V.ref = []:=by injection this with e1; injection e1
     have:bs = []:=List.map_eq_nil_iff.mp this
     rw [this] at hm; simp at hm
    refine⟨(hb b hm).1,?_⟩
    rw [aJ hbD,aJ (bS (hb b hm).2 hr')]
    exact (hb b hm).2
   ·rw [aR8.mp hm]
    exact⟨hrH,by rw [aJ hrD,aZ]⟩
 ·obtain ⟨bs,rfl,hbl,nd,hb⟩:=hPv
  rw [lw] at hbl
  have R0:iB H H' D bs (fun k=>dD (ls.take 0) k):=by
   refine⟨hD,fun b hm=>⟨(hb b hm).1,fun z=>?_⟩,nd,hDa,fun k b hk=>(hb b (aT1 hk)).2,sm⟩
   rw [z] at hm
   have:=(hb D hm).2
   rw [hDa] at this
   have:bs.map V.ref = []:=by injection this with e1; injection e1
   have:bs = []:=List.map_eq_nil_iff.mp this
   rw [this] at hm; simp at hm
  have lL:=hL.length
  refine⟨_,rfl,a,_,_,_,rfl,rfl,aF.of (sm _ _ ha),rfl,q',rfl,⟨_,aF.of (sm _ _ hq)⟩,Y6 (K:=K) (a:=q') (xs:=ys) (fun i σ H2=>∃ x y:Option V,σ = [some (.ref a),some (.ref D),x,y]/\iB H H2 D bs (fun k=>dD (ls.take i) k))
   ⟨none,none,rfl,R0⟩ (fun i σ H2 _ ⟨_,_,_,R⟩=>aF.of (R.same _ _ hq)) ?_ ?_⟩
  ·rintro i y σ H2 hi ⟨x1,x2,rfl,R⟩
   obtain ⟨l,b,hl,rfl,hbt⟩:=hL.get hi
   have hlm:l ∈ ls:=aT1 hl
   obtain ⟨⟨h1,h2⟩,h3,h4⟩:=hin l hlm
   have k1:l.1.toNat < bs.length:=by omega
   have k2:l.2.toNat < bs.length:=by omega
   have e1:bs[l.1.toNat]? = some (bs[l.1.toNat]):=aR7 k1
   have e2:bs[l.2.toNat]? = some (bs[l.2.toNat]):=aR7 k2
   refine⟨b,_,rfl,aF.of (R.same _ _ hbt),rfl,_,_,rfl,_,_,rfl,rfl,?_⟩
   refine⟨_,rfl,_,rfl,D,_,_,.ref bs[l.1.toNat],rfl,rfl,aH.of R.row,lA h1 (by rw [aR6,e1]; rfl),jD (aH.of (R.rows _ _ e1)),_,rfl,_,_,_,rfl,rfl,R.rows _ _ e1,?_,?_⟩
   ·rw [aQ3]
    have:=tQ (ls.take i) (l.1.toNat:Nat)
    rw [aT0] at this
    exact eZ (by omega)
   ·have R1:=R.app e1 l.2
    refine⟨_,rfl,_,rfl,D,_,_,.ref bs[l.2.toNat],rfl,rfl,aH.of R1.row,lA h3 (by rw [aR6,e2]; rfl),jD (aH.of (R1.rows _ _ e2)),_,rfl,_,_,_,rfl,rfl,R1.rows _ _ e2,?_,?_⟩
    ·rw [aQ3]
     have:=tQ (ls.take i) (l.2.toNat:Nat)
     rw [aT0] at this
     split
     ·rw [aQ8,aT3]; exact eZ (by omega)
     ·exact eZ (by omega)
    ·have R2:=R1.app e2 l.1
     refine⟨_,_,rfl,R2.congr fun k hk=>?_⟩
     rw [ai5 hl]
     have c1:(k=l.1.toNat) ↔ l.1=(k:Int):=by omega
     have c2:(k=l.2.toNat) ↔ l.2=(k:Int):=by omega
     by_cases d1:k=l.1.toNat
     ·by_cases d2:k=l.2.toNat
      ·rw [if_pos d2,if_pos d1,if_pos (c1.mp d1),if_pos (c2.mp d2)]; simp
      ·rw [if_neg d2,if_pos d1,if_pos (c1.mp d1),if_neg (fun z=>d2 (c2.mpr z))]; simp
     ·by_cases d2:k=l.2.toNat
      ·rw [if_pos d2,if_neg d1,if_neg (fun z=>d1 (c1.mpr z)),if_pos (c2.mp d2)]; simp
      ·rw [if_neg d2,if_neg d1,if_neg (fun z=>d1 (c1.mpr z)),if_neg (fun z=>d2 (c2.mpr z))]; simp
  ·
   rintro σ H2 ⟨x1,x2,rfl,R⟩
   refine⟨_,rfl,q D bs H2 hbl ?_⟩
   rw [lL,aT6] at R
   exact R
abbrev R7:Stmt:=aW 24
theorem oB:FnScope ["web","weights","known","around","link","weight"] ["web","weights"] (aQ R7):=.au
theorem aL0 (B:Bt mg) (F:dF K "weighted_lists" "weighted_lists" R7 f fd) (d_made_prices:Df P w K mg base 1 "made_prices" ["prices","many"] L6):bJ P w K mg base cU 2 f fd ["web","weights"] (vK K):=by
 refine F.ok oB (fun vs H Q E h=>?_) (fun cdv A outer s H vs Q E hr h=>?_)
 ·obtain ⟨v,x,px,ws,ls,wts,rfl,_⟩:=h
  rfl
 obtain ⟨v,xw,px,ws,ls,wts,rfl,W,rx,hpx,hwl,hwp,hn,hm,hin,q⟩:=h
 obtain ⟨fP,fdP,FP,bP,kpP,mP⟩:=d_made_prices.ex
 refine⟨_,j2 (rV (i:=2) oB.nd rfl (Or.inl rfl) (oM FP (hr.mono (by decide)) rfl mP kpP bP .nil yG (bO (pv 1) (bO (mK xP (by rfl) B.len PySem.boot_len (bO (eQ gV (pv 0) fJ (fun _ _=>rfl)) cK)) cK))))
  (j2 (yK (i:=3) (N:=["want"]) (fr:=[none]) rfl (cF.of rfl rfl) (rX (eQ gV (pv 0) fJ (fun _ _=>rfl)))
   ⟨fun _ _ _ _=>dQ (i:=0) (aV3 _ _) rfl (Or.inl rfl) (.inr rfl),fun _ _ _ _=>mR,fun _ _ _ _=>oJ cK⟩ oB.nd rfl rfl rfl)
  (j2 (rY PassesOwn.never rfl (zJ rfl B.zip (bO (eQ gV (pv 0) fJ (fun _ _=>rfl)) (bO (pv 2) cK))) (kY (n:=2) rfl (fL (dQ (i:=4) oB.nd rfl (Or.inl rfl) (.inr rfl)) (fL (dQ (i:=5) oB.nd rfl (Or.inl rfl) (.inr rfl)) kX)))
   (j2 (k7 (j7 aW6 aY3 aY4 kB (eQ mO (pv 3) (eQ gV (pv 4) fJ (fun _ _=>rfl)) (fun _ _=>rfl)) (bO (sJ (bO (eQ gV (pv 4) fJ (fun _ _=>rfl)) (bO (pv 5) cK))) cK)))
   (k6 (k7 (j7 aW6 aY3 aY4 kB (eQ mO (pv 3) (eQ gV (pv 4) fJ (fun _ _=>rfl)) (fun _ _=>rfl)) (bO (sJ (bO (eQ gV (pv 4) fJ (fun _ _=>rfl)) (bO (pv 5) cK))) cK))))))
  (k6 (kW (pv 3))))),?_⟩
 obtain ⟨a,p,q',ys,rfl,ha,hp,hq,hL⟩:=W.at_
 have lw:(ws.map V.int).length=ws.length:=aQ3 _
 have lL:=hL.length
 refine⟨_,rfl,_,rfl,a,_,_,_,rfl,rfl,aF.of ha,rfl,q',_,rfl,.inr (aF.of hq),?_⟩
 refine⟨[px,.int (ls.length:Nat)],fun z=>z = .tup (intz wts),.cons rx (.cons (by rw [lL]; exact .int _) .nil),⟨px,wts,ls.length,rfl,hpx,hwl,by omega,hwp,rfl⟩,?_⟩
 rintro kv H1 _ s1 rk rfl
 obtain ⟨t,kus,rfl,ht,rkk⟩:=rk.sqT
 obtain rfl:=rkk.ofInts
 have ha1:=s1 _ _ ha
 have hp1:=s1 _ _ hp
 have hq1:=s1 _ _ hq
 have hL1:=hL.mono s1
 refine⟨_,rfl,a,_,_,_,rfl,rfl,aF.of ha1,rfl,p,rfl,⟨_,aF.of hp1⟩,yP (yN (aF.of hp1)) (fun i acc H'=>∃ bs:List Addr,acc=bs.map V.ref/\bs.length=i/\bs.Nodup/\∀ b ∈ bs,H1 b=none/\H' b=some (.lst [])) (by rw [lw]; exact aX4 (oP hn))
  (fun D hD=>⟨[],rfl,rfl,List.nodup_nil,fun _ z=>nomatch z⟩) (fun i x acc D H' hx c hPv=>?_) (fun D acc H' hD sm hDa hlen hPv=>?_)⟩
 ·obtain ⟨bs,rfl,hbl,nd,hb⟩:=hPv
  refine⟨zD (n:=none),mU ⟨aT7 _,fun r hr'=>?_⟩⟩
  have hrD:r ≠ D:=fun z=>by rw [z,c.acc] at hr'; cases hr'
  have hrH:H1 r=none:=c.same.free hr'
  refine c.yes (b6 hr' _) ⟨bs ++ [r],by simp,by simp [hbl],?_,fun b hm=>?_⟩
  ·refine ba5.mpr ⟨nd,aV3 _ _,fun b hb1 b' hb2 e=>?_⟩
   rw [aR8.mp hb2] at e
   rw [e] at hb1
   rw [(hb r hb1).2] at hr'; cases hr'
  ·rcases aV6.mp hm with hm | hm
   ·have hbD:b ≠ D:=fun z=>by
     rw [z] at hm
     have:=(hb D hm).2
     rw [c.acc] at this
     have:bs.map V.ref = []:=by injection this with e1; injection e1
     have:bs = []:=List.map_eq_nil_iff.mp this
     rw [this] at hm; simp at hm
    refine⟨(hb b hm).1,?_⟩
    rw [aJ hbD,aJ (bS (hb b hm).2 hr')]
    exact (hb b hm).2
   ·rw [aR8.mp hm]
    exact⟨hrH,by rw [aJ hrD,aZ]⟩
 ·obtain ⟨bs,rfl,hbl,nd,hb⟩:=hPv
  rw [lw] at hbl
  have R0:fY H1 H' D bs (fun k=>cA ((ls.zip wts).take 0) k):=by
   refine⟨hD,fun b hm=>⟨(hb b hm).1,fun z=>?_⟩,nd,hDa,fun k b hk=>⟨[],(hb b (aT1 hk)).2,.nil⟩,sm⟩
   rw [z] at hm
   have:=(hb D hm).2
   rw [hDa] at this
   have:bs.map V.ref = []:=by injection this with e1; injection e1
   have:bs = []:=List.map_eq_nil_iff.mp this
   rw [this] at hm; simp at hm
  have lz:(ls.zip wts).length=ls.length:=by rw [List.length_zip]; omega
  refine⟨_,rfl,a,_,_,_,rfl,rfl,aF.of (sm _ _ ha1),rfl,_,rfl,q',t,_,_,rfl,aF.of (sm _ _ hq1),aF.of (sm _ _ ht),aC5 (K:=K) (xs:=ys) (ys:=wts.map V.int) (fun i σ H2=>∃ x y:Option V,σ = [some (.ref a),some xw,some (.ref t),some (.ref D),x,y]/\aB H1 H2/\fY H1 H2 D bs (fun k=>cA ((ls.zip wts).take i) k))
   (by rw [aQ3,hwl,lL]) ⟨none,none,rfl,sm,R0⟩ (fun i σ H2 _ ⟨_,_,_,S2,R⟩=>⟨aF.of (S2 _ _ hq1),aF.of (S2 _ _ ht)⟩) ?_ ?_⟩
  ·rintro i y u T σ H2 H3 hi hu hT rfl ⟨x1,x2,rfl,S2,R⟩
   obtain ⟨l,b,hl,rfl,hbt⟩:=hL1.get hi
   obtain ⟨wt,hwt,rfl⟩:∃ wt,wts[i]? = some wt/\u = .int wt:=by
    rw [aR6] at hu
    cases e:wts[i]? with
    | none=>rw [e] at hu; cases hu
    | some z=>rw [e] at hu; exact⟨z,rfl,(aS7 hu).symm⟩
   have hz:(ls.zip wts)[i]? = some (l,wt):=List.getElem?_zip_eq_some.mpr ⟨hl,hwt⟩
   have il:i < ls.length:=(aQ7.mp hl).1
   have hlm:l ∈ ls:=aT1 hl
   obtain ⟨⟨h1,h2⟩,h3,h4⟩:=hin l hlm
   have k1:l.1.toNat < bs.length:=by omega
   have k2:l.2.toNat < bs.length:=by omega
   have e1:bs[l.1.toNat]? = some (bs[l.1.toNat]):=aR7 k1
   have e2:bs[l.2.toNat]? = some (bs[l.2.toNat]):=aR7 k2
   have sT:=b6 hT (HO.tup [.ref b,.int wt])
   have R1:=R.mono sT
   have hb3:=sT _ _ (S2 _ _ hbt)
   have S3:=S2.trans sT
   have hTt:upd H2 T (HO.tup [.ref b,.int wt]) T=some (.tup [.ref b,.int wt]):=aZ
   generalize upd H2 T (HO.tup [.ref b,.int wt])=H3 at *
   refine⟨T,_,rfl,aF.of hTt,rfl,_,_,rfl,_,_,rfl,rfl,?_⟩
   obtain ⟨iX,hu1,hl1⟩:=R1.rows _ _ e1
   refine⟨_,rfl,_,rfl,b,_,_,_,rfl,rfl,aF.of hb3,rfl,D,_,_,.ref bs[l.1.toNat],rfl,rfl,aH.of R1.row,lA h1 (by rw [aR6,e1]; rfl),jD (aH.of hu1),_,rfl,b,_,_,_,rfl,rfl,aF.of hb3,rfl,_,rfl,by show 2<=sizeLine; decide,fun T1 hT1=>?_⟩
   have sT1:=b6 hT1 (HO.tup [.int l.2,.int wt])
   have R1':=R1.mono sT1
   have hu1':=sT1 _ _ hu1
   have hl1':=hl1.mono sT1
   have hb4:=sT1 _ _ hb3
   have hT1t:upd H3 T1 (HO.tup [.int l.2,.int wt]) T1=some (.tup [.int l.2,.int wt]):=aZ
   have S4:=S3.trans sT1
   have tl:=vJ (l.1.toNat:Nat) ((ls.zip wts).take i)
   have tl2:=vJ (l.2.toNat:Nat) ((ls.zip wts).take i)
   rw [aT0] at tl tl2
   refine⟨_,_,_,rfl,rfl,hu1',?_,?_⟩
   ·rw [hl1.length]; exact eZ (by omega)
   have R2:=R1'.app (x:=(l.2,wt)) e1 hu1' hl1' hT1t
   have hu1l:bs[l.1.toNat] ∈ bs:=List.getElem_mem k1
   have nb:∀ {o:HO},H1 bs[l.1.toNat]=some o->False:=fun {o} z=>by rw [(R.news _ hu1l).1] at z; cases z
   have S5:aB H1 (upd (upd H3 T1 (HO.tup [.int l.2,.int wt])) bs[l.1.toNat] (HO.lst (iX ++ [V.ref T1]))):=fun c o e=>by rw [aJ (fun z=>nb (z ▸ e))]; exact S4 c o e
   have hb5:upd (upd H3 T1 (HO.tup [.int l.2,.int wt])) bs[l.1.toNat] (HO.lst (iX ++ [V.ref T1])) b=some (.tup [.int l.1,.int l.2]):=S5 _ _ hbt
   generalize upd (upd H3 T1 (HO.tup [.int l.2,.int wt])) bs[l.1.toNat] (HO.lst (iX ++ [V.ref T1]))=H5 at *
   obtain ⟨nZ,hu2,hl2⟩:=R2.rows _ _ e2
   refine⟨_,rfl,_,rfl,b,_,_,_,rfl,rfl,aF.of hb5,rfl,D,_,_,.ref bs[l.2.toNat],rfl,rfl,aH.of R2.row,lA h3 (by rw [aR6,e2]; rfl),jD (aH.of hu2),_,rfl,b,_,_,_,rfl,rfl,aF.of hb5,rfl,_,rfl,by show 2<=sizeLine; decide,fun T2 hT2=>?_⟩
   have sT2:=b6 hT2 (HO.tup [.int l.1,.int wt])
   refine⟨_,_,_,rfl,rfl,sT2 _ _ hu2,?_,?_⟩
   ·rw [hl2.length]
    split
    ·rw [aQ8,aT3]; exact eZ (by omega)
    ·exact eZ (by omega)
   have R3:=(R2.mono sT2).app (x:=(l.1,wt)) e2 (sT2 _ _ hu2) (hl2.mono sT2) aZ
   refine⟨_,_,rfl,fun c o e=>(aJ (fun z=>by rw [z,(R.news _ (List.getElem_mem k2)).1] at e; cases e)).trans (sT2 _ _ (S5 c o e)),R3.congr fun k hk=>?_⟩
   rw [aC4 hz]
   have c1:(k=l.1.toNat) ↔ l.1=(k:Int):=by omega
   have c2:(k=l.2.toNat) ↔ l.2=(k:Int):=by omega
   by_cases d1:k=l.1.toNat
   ·by_cases d2:k=l.2.toNat
    ·rw [if_pos d2,if_pos d1,if_pos (c1.mp d1),if_pos (c2.mp d2)]; simp
    ·rw [if_neg d2,if_pos d1,if_pos (c1.mp d1),if_neg (fun z=>d2 (c2.mpr z))]; simp
   ·by_cases d2:k=l.2.toNat
    ·rw [if_pos d2,if_neg d1,if_neg (fun z=>d1 (c1.mpr z)),if_pos (c2.mp d2)]; simp
    ·rw [if_neg d2,if_neg d1,if_neg (fun z=>d1 (c1.mpr z)),if_neg (fun z=>d2 (c2.mpr z))]; simp
  ·
   rintro σ H2 ⟨x1,x2,rfl,S2,R⟩
   refine⟨_,rfl,q D bs H2 hbl ?_⟩
   rw [lL,<- lz,aT6] at R
   exact⟨s1.free R.new,fun b hb=>⟨s1.free (R.news b hb).1,(R.news b hb).2⟩,R.nd,R.row,R.rows,s1.trans R.same⟩
theorem aL1:FnScope ["prices","many"] ["prices","many"] (aQ (aW 7)):=.au
theorem aL2 (B:Bt mg) (F:FM K mg "made_prices" 7 f fd) (x_BadPrices:Xc K mg base "BadPrices"):aX P w K mg base 1 "made_prices" ["prices","many"] o8:=
 aX.au F aL1 P4 aI7 (fun cdv A outer s H E Ep hr hX=>by
  exact (aM (cQ (uK (fE B (a8 (qv 0) aA)) (qv 1)) (aO (nX hX x_BadPrices (a8 dO aA))) cP)
   (aM (cQ (qA (aB9 B rfl (a8 (nL (N:=["price"]) (fr:=[none]) (cY (qv 0)) (fun _ _ _ _=>(uJ (qv 0) aD))) aA))) (aO (nX hX x_BadPrices (a8 dO aA))) cP)
   (aO (bE (jK B (a8 (qv 0) aA)))))))
theorem aL3:FnScope ["web"] ["web"] (aQ (aW 10)):=.au
theorem aL4 (B:Bt mg) (F:FM K mg "hearths_in" 10 f fd)  : Df P w K mg base 1 "hearths_in" ["web"] gL:=
 Df.au F aL3 (fun cdv A outer s H E hr=>by
  exact⟨(E6),(aO (bE (fE B (a8 (c7 (qv 0) aD) aA)))),au1⟩)
theorem R8:FnScope ["hearths","inside","hearth"] ["hearths"] (aQ (aW 15)):=.au
theorem aL5 (B:Bt mg) (F:FM K mg "marked" 15 f fd)  : Df P w K mg base 1 "marked" ["hearths"] kK:=
 Df.au F R8 (fun cdv A outer s H E hr=>by
  have nd:=R8.nd
  have hu:=jA hr
  exact⟨(F5),(aM (gY (i:=1) nd B5)
   (aM (dP 2 nd (cY (qv 0))
    (aO (B7 hu (i:=1) (qv 2) iN)))
   (aO (lM 1)))),au6⟩)
theorem aL6:FnScope ["hearths","inside"] ["hearths","inside"] (aQ (aW 16)):=.au
theorem aL7 (B:Bt mg) (F:FM K mg "count_inside" 16 f fd)  : Df P w K mg base 1 "count_inside" ["hearths","inside"] lQ:=
 Df.au F aL6 (fun cdv A outer s H E hr=>by
  have hu:=jA hr
  exact⟨(F6),(aO (bE (fE B (a8 (uQ (N:=["hearth","inside"]) (fr:=[none,some 1]) (cY (qv 0)) (fun _ _ _ _=>(ap9 hu (qv 0) (qv 1))) (fun _ _ _ _=>(qv 0))) aA)))),au7⟩)
theorem aL8:FnScope ["want","beside"] ["want","beside"] (aQ (aW 26)):=.au
theorem aL9 (B:Bt mg) (F:FM K mg "due_of" 26 f fd)  : Df P w K mg base 1 "due_of" ["want","beside"] nV:=
 Df.au F aL8 (fun cdv A outer s H E hr=>by
  exact⟨(L9),(aM (cQ (pZ (qv 0) (fE B (a8 (qv 1) aA))) (aO (bE jI)) cP)
   (aO (bE (lV B rfl (a8 (jN (C1 B (a8 (vD (N:=["other","weight"]) (fr:=[none,none]) (cY (qv 1)) (fun _ _ _ _=>(qv 1))) aA)) jL (jM (qv 0))) aA))))),aC7⟩)
theorem R9:FnScope ["hearth","beside","ranks","rank"] ["hearth","beside","ranks"] (aQ (aW 28)):=.au
theorem aM0 (B:Bt mg) (F:FM K mg "taken_by" 28 f fd)  : Df P w K mg base 1 "taken_by" ["hearth","beside","ranks"] qW:=
 Df.au F R9 (fun cdv A outer s H E hr=>by
  have nd:=R9.nd
  have hu:=jA hr
  exact⟨(M9),(aM (cQ (B3 hu (qv 0) (qv 2)) (aO (bE jI)) cP)
   (aM (bB (i:=3) nd (aq5 hu (qv 2) (qv 0)))
   (aO (bE (lV B rfl (a8 (J7 (N:=["other","weight","rank","ranks"]) (fr:=[none,none,some 3,some 2]) (cY (qv 1)) (fun _ _ _ _=>(nK (az6 hu (qv 3) (qv 0) (qv 2)) (qv 2))) (fun _ _ _ _=>(qv 1))) aA)))))),aE6⟩)
theorem aM1:FnScope ["script","k"] ["script","k"] (aQ (aW 35)):=.au
theorem aM2 (B:Bt mg) (F:FM K mg "_law_cell_at" 35 f fd)  : Df P w K mg base 1 "_law_cell_at" ["script","k"] eD:=
 Df.au F aM1 (fun cdv A outer s H E hr=>by
  exact⟨(G2),(aM (cQ (nK (qv 1) (fE B (a8 (qv 0) aA))) (aO (bE (c7 (qv 0) (qv 1)))) cP)
   (aO (bE aD))),av3⟩)
theorem S0:FnScope ["wants_cell","links_cell","many","most","wants","k","links","one","other"] ["wants_cell","links_cell","many","most"] (aQ (aW 36)):=.au
theorem aM3 (B:Bt mg) (F:FM K mg "_law_web_of_digits" 36 f fd)  : Df P w K mg base 1 "_law_web_of_digits" ["wants_cell","links_cell","many","most"] nQ:=
 Df.au F S0 (fun cdv A outer s H E hr=>by
  have nd:=S0.nd
  exact⟨(G3),(aM (gY (i:=4) nd (cX aA))
   (aM (dP 5 nd (lO rfl B.range (qv 2))
    (aM (lN 4 (bW (qv 0) (qv 3)))
    (aO (bB (i:=0) nd (cW (qv 0) (qv 3))))))
   (aM (gY (i:=6) nd (cX aA))
   (aM (dP 7 nd (lO rfl B.range (qv 2))
    (aO (dP 8 nd (B8 rfl B.range (gX (qv 7) aD) (qv 2))
     (aM (cQ (gJ (bW (qv 1) aD) aD) (aO (lN 6 (fV (a8 (qv 7) (a8 (qv 8) aA))))) cP)
     (aO (bB (i:=1) nd (cW (qv 1) aD)))))))
   (aO (bE (fV (a8 (jK B (a8 (qv 4) aA)) (a8 (jK B (a8 (qv 6) aA)) aA))))))))),av4⟩)
theorem S6:FnScope ["weights","cell","some","spot","at"] ["weights","cell"] (aQ (aW 41)):=.au
theorem aM4 (B:Bt mg) (F:FM K mg "_law_bad_weights" 41 f fd)  : Df P w K mg base 1 "_law_bad_weights" ["weights","cell"] rM:=
 Df.au F S6 (fun cdv A outer s H E hr=>by
  have nd:=S6.nd
  exact⟨(Q4),(aM (bB (i:=2) nd (C0 B (a8 (qv 0) aA)))
   (aM (bB (i:=3) nd (bW (cW (qv 1) aD) (gX (fE B (a8 (qv 2) aA)) aD)))
   (aM (cQ (qB (uM (gJ (bW (qv 1) aD) aD) (uL (gJ (fE B (a8 (qv 2) aA)) aD)))) (aO (bE (lU (lU (jN (qv 2) jL (jM (qv 3))) (cX (a8 (bW (cW (qv 1) aD) aD) aA))) (jN (qv 2) (jM (qv 3)) jL)))) cP)
   (aM (bB (i:=4) nd (bW (cW (qv 1) aD) (fE B (a8 (qv 2) aA))))
   (aM (cQ (gJ (bW (qv 1) aD) aD) (aO (bE (lU (jN (qv 2) jL (jM (qv 4))) (jN (qv 2) (jM (gX (qv 4) aD)) jL)))) cP)
   (aO (bE (lU (lU (jN (qv 2) jL (jM (qv 4))) (cX (a8 (c7 (cX (a8 (lP aD) (a8 (pW (lP aD) (bW (cW (qv 1) aD) (pX aD aD))) aA))) (bW (cW (qv 1) aD) aD)) aA))) (jN (qv 2) (jM (gX (qv 4) aD)) jL))))))))),aJ8⟩)
theorem aM5:FnScope ["web","number"] ["web","number"] (aQ (aW 12)):=.au
theorem aM6 (B:Bt mg) (F:FM K mg "is_hearth" 12 f fd) (d_hearths_in:Df P w K mg base 1 "hearths_in" ["web"] gL):Df P w K mg base 2 "is_hearth" ["web","number"] qI:=
 Df.au F aM5 (fun cdv A outer s H E hr=>by
  exact⟨(E7),(aO (bE (uN (B2 (qv 1) aD) (qD (uJ (qv 1) (bF d_hearths_in hr (a8 (qv 0) aA))))))),au2⟩)
theorem aM7:FnScope ["web","around","burning","hearth"] ["web","around","burning","hearth"] (aQ (aW 20)):=.au
theorem aM8 (B:Bt mg) (F:FM K mg "can_kindle" 20 f fd) (d_count_inside:Df P w K mg base 1 "count_inside" ["hearths","inside"] lQ):Df P w K mg base 2 "can_kindle" ["web","around","burning","hearth"] qL:=
 Df.au F aM7 (fun cdv A outer s H E hr=>by
  have hu:=jA hr
  exact⟨(F7),(aO (bE (uN (aq0 hu (qv 3) (qv 2)) (qD (B2 (bF d_count_inside hr (a8 (c7 (qv 1) (qv 3)) (a8 (qv 2) aA))) (c7 (c7 (qv 0) aD) (qv 3))))))),au9⟩)
theorem S7:FnScope ["web","weights","known","around","link","weight"] ["web","weights"] (aQ (aW 24)):=.au
theorem aM9 (B:Bt mg) (F:dF K "weighted_lists" "weighted_lists" (aW 24) f fd) (d_made_prices:aX P w K mg base 1 "made_prices" ["prices","many"] o8):bJ P w K mg base (cM P w) 2 f fd ["web","weights"] (kQ K rH):=
 aI5 F S7 P5 (fun Ep xs Q h=>by obtain ⟨_,_,_,_,rfl,_⟩:=h; rfl) aI8 (fun cdv A outer s H E Ep hr hX=>by
  have nd:=S7.nd
  have hu:=jA hr
  have hu3:=aK7 hr
  exact (aM (bB (i:=2) nd (gO hX d_made_prices hr (a8 (qv 1) (a8 (fE B (a8 (c7 (qv 0) aD) aA)) aA))))
   (aM (C5 (i:=3) nd (N:=["want"]) (fr:=[none]) (cY (c7 (qv 0) aD)) (fun _ _ _ _=>(cX aA)))
   (aM (C4 4 5 (hp:=hX.own) nd (vI B (c7 (qv 0) aD) (qv 2))
    (aM (B6 (c7 (qv 3) (c7 (qv 4) aD)) (fV (a8 (c7 (qv 4) aD) (a8 (qv 5) aA))))
    (aO (B6 (c7 (qv 3) (c7 (qv 4) aD)) (fV (a8 (c7 (qv 4) aD) (a8 (qv 5) aA)))))))
   (aO (lM 3))))))
theorem S8:FnScope ["flow","many","way","wants","k","cell","pairs","one","other"] ["flow","many","way"] (aQ (aW 37)):=.au
theorem aN0 (B:Bt mg) (F:FM K mg "_law_web" 37 f fd) (d__law_web_of_digits:Df P w K mg base 1 "_law_web_of_digits" ["wants_cell","links_cell","many","most"] nQ) (d__law_cell_at:Df P w K mg base 1 "_law_cell_at" ["script","k"] eD):Df P w K mg base 2 "_law_web" ["flow","many","way"] nW:=
 Df.au F S8 (fun cdv A outer s H E hr=>by
  have nd:=S8.nd
  have hu:=jA hr
  exact⟨(M0),(aM (cQ (qB (aq3 (gJ (bW (cW (qv 2) aD) aD) aD) (aq2 (nK (qv 1) aD)))) (aO (bE (bF d__law_web_of_digits hr (a8 (bF d__law_cell_at hr (a8 (qv 0) (a8 aD aA))) (a8 (bF d__law_cell_at hr (a8 (qv 0) (a8 aD aA))) (a8 (qv 1) (a8 (c7 (cX (a8 aD (a8 aD (a8 aD (a8 aD aA))))) (bW (qv 2) aD)) aA))))))) cP)
   (aM (gY (i:=3) nd (cX aA))
   (aM (dP 4 nd (lO rfl B.range (qv 1))
    (aM (bB (i:=5) nd (bF d__law_cell_at hr (a8 (qv 0) (a8 (qv 4) aA))))
    (aO (lN 3 (c7 (cX (a8 (bW (cW (qv 5) aD) aD) (a8 (bW (cW (qv 5) aD) aD) (a8 (bW (cW (qv 5) aD) aD) (a8 (bW (cW (qv 5) aD) aD) aA))))) (bW (qv 2) aD))))))
   (aM (gY (i:=6) nd aq6)
   (aM (dP 5 nd (cY (qv 0))
    (aO (cQ (pZ (qv 1) aD) (aM (bB (i:=7) nd (bW (qv 5) (qv 1)))
     (aM (bB (i:=8) nd (bW (cW (bW (ap4 (bW (qv 5) aD) aD) aD) aD) (qv 1)))
     (aO (cQ (uK (qv 7) (qv 8)) (aO (aq9 hu (i:=6) (fV (a8 (C2 B rfl (a8 (qv 7) (a8 (qv 8) aA))) (a8 (ar2 B rfl (a8 (qv 7) (a8 (qv 8) aA))) aA))) iN)) cP)))) cP)))
   (aO (bE (fV (a8 (jK B (a8 (qv 3) aA)) (a8 (jK B (a8 (av9 B (a8 (av6 B rfl (a8 (qv 6) aA)) aA)) aA)) aA)))))))))),aD2⟩)
theorem S9:FnScope ["script","at","links","found","k","cell"] ["script","at","links"] (aQ (aW 40)):=.au
theorem aN1 (B:Bt mg) (F:FM K mg "_law_weights" 40 f fd) (d__law_cell_at:Df P w K mg base 1 "_law_cell_at" ["script","k"] eD):Df P w K mg base 2 "_law_weights" ["script","at","links"] qV:=
 Df.au F S9 (fun cdv A outer s H E hr=>by
  have nd:=S9.nd
  exact⟨(M4),(aM (gY (i:=3) nd (cX aA))
   (aM (dP 4 nd (lO rfl B.range (qv 2))
    (aM (bB (i:=5) nd (bF d__law_cell_at hr (a8 (qv 0) (a8 (gX (qv 1) (qv 4)) aA))))
    (aO (lN 3 (c7 (cX (a8 (bW (cW (qv 5) aD) aD) (a8 (bW (cW (qv 5) aD) aD) (a8 (bW (qv 5) (pX aD aD)) (a8 aD aA))))) (bW (cW (bF d__law_cell_at hr (a8 (qv 0) (a8 (qv 1) aA))) aD) aD))))))
   (aO (lM 3)))),aD4⟩)
theorem aN2:FnScope ["web","numbers"] ["web","numbers"] (aQ (aW 13)):=.au
theorem aN3 (B:Bt mg) (F:FM K mg "is_set" 13 f fd) (d_rises:Df P w K mg base 1 "rises" ["things"] uY) (d_is_hearth:Df P w K mg base 2 "is_hearth" ["web","number"] qI):Df P w K mg base 3 "is_set" ["web","numbers"] qJ:=
 Df.au F aN2 (fun cdv A outer s H E hr=>by
  exact⟨(E8),(aO (bE (uN (bF d_rises hr (a8 (qv 1) aA)) (qD (ar1 B rfl (a8 (nL (N:=["number","web"]) (fr:=[none,some 0]) (cY (qv 1)) (fun _ _ _ _=>(bF d_is_hearth hr (a8 (qv 1) (a8 (qv 0) aA))))) aA)))))),au3⟩)
theorem aN4:FnScope ["web","around","burning"] ["web","around","burning"] (aQ (aW 19)):=.au
theorem aN5 (B:Bt mg) (F:FM K mg "kindling" 19 f fd) (d_can_kindle:Df P w K mg base 2 "can_kindle" ["web","around","burning","hearth"] qL) (d_hearths_in:Df P w K mg base 1 "hearths_in" ["web"] gL):Df P w K mg base 3 "kindling" ["web","around","burning"] nP:=
 Df.au F aN4 (fun cdv A outer s H E hr=>by
  exact⟨(F9),(aO (bE (jK B (a8 (uQ (N:=["hearth","web","around","burning"]) (fr:=[none,some 0,some 1,some 2]) (lO rfl B.range (bF d_hearths_in hr (a8 (qv 0) aA))) (fun _ _ _ _=>(qA (bF d_can_kindle hr (a8 (qv 1) (a8 (qv 2) (a8 (qv 3) (a8 (qv 0) aA))))))) (fun _ _ _ _=>(qv 0))) aA)))),av0⟩)
theorem aN6:FnScope ["web","weights"] ["web","weights"] (aQ (aW 25)):=.au
theorem aN7 (B:Bt mg) (F:FM K mg "dues" 25 f fd) (d_due_of:Df P w K mg base 1 "due_of" ["want","beside"] nV) (d_weighted_lists:aX P w K mg base 2 "weighted_lists" ["web","weights"] m6):aX P w K mg base 3 "dues" ["web","weights"] jY:=
 aX.au F aN6 P6 aJ1 (fun cdv A outer s H E Ep hr hX=>by
  exact (aO (bE (vD (N:=["want","beside"]) (fr:=[none,none]) (vI B (c7 (qv 0) aD) (gO hX d_weighted_lists hr (a8 (qv 0) (a8 (qv 1) aA)))) (fun _ _ _ _=>(bF d_due_of hr (a8 (qv 0) (a8 (qv 1) aA))))))))
theorem T0:FnScope ["script","at","head","many"] ["script","at"] (aQ (aW 38)):=.au
theorem aN8 (B:Bt mg) (F:FM K mg "_law_web_by" 38 f fd) (d__law_cell_at:Df P w K mg base 1 "_law_cell_at" ["script","k"] eD) (d__law_web:Df P w K mg base 2 "_law_web" ["flow","many","way"] nW):Df P w K mg base 3 "_law_web_by" ["script","at"] qU:=
 Df.au F T0 (fun cdv A outer s H E hr=>by
  have nd:=T0.nd
  exact⟨(M3),(aM (bB (i:=2) nd (bF d__law_cell_at hr (a8 (qv 0) (a8 aD aA))))
   (aM (bB (i:=3) nd (bW (qv 2) aD))
   (aM (cQ (gJ (bW (cW (qv 2) aD) aD) aD) (aO (bB (i:=3) nd (bW (cW (qv 2) aD) aD))) cP)
   (aO (bE (bF d__law_web hr (a8 (jN (qv 0) (jM (qv 1)) jL) (a8 (qv 3) (a8 (cW (qv 2) aD) aA))))))))),aD3⟩)
theorem aN9:FnScope ["web","hearths"] ["web","hearths"] (aQ (aW 14)):=.au
theorem aO0 (B:Bt mg) (F:FM K mg "made_set" 14 f fd) (d_is_set:Df P w K mg base 3 "is_set" ["web","numbers"] qJ) (x_BadSet:Xc K mg base "BadSet"):aX P w K mg base 4 "made_set" ["web","hearths"] m3:=
 aX.au F aN9 N4 aF6 (fun cdv A outer s H E Ep hr hX=>by
  exact (aM (cQ (B4 (qA (bF d_is_set hr (a8 (qv 0) (a8 (qv 1) aA))))) (aO (nX hX x_BadSet (a8 dO aA))) cP)
   (aO (bE (jK B (a8 (qv 1) aA))))))
theorem T3:FnScope ["web","weights","known","many","left","due"] ["web","weights"] (aQ (aW 31)):=.au
theorem aO1 (B:Bt mg) (F:FM K mg "borne_many" 31 f fd) (d_dues:aX P w K mg base 3 "dues" ["web","weights"] jY):aX P w K mg base 4 "borne_many" ["web","weights"] m7:=
 aX.au F T3 P7 aJ2 (fun cdv A outer s H E Ep hr hX=>by
  have nd:=T3.nd
  exact (aM (bB (i:=2) nd (C1 B (a8 (uQ (N:=["due"]) (fr:=[none]) (cY (gO hX d_dues hr (a8 (qv 0) (a8 (qv 1) aA)))) (fun _ _ _ _=>(ap8 (qv 0) jI)) (fun _ _ _ _=>(qv 0))) aA)))
   (aM (bB (i:=3) nd aD)
   (aM (bB (i:=4) nd (lV B rfl (a8 (qv 1) aA)))
   (aM (dP 5 (hp:=hX.own) nd (cY (qv 2))
    (aM (bB (i:=4) nd (pW (qv 4) (qv 5)))
    (aO (cQ (ap6 (qv 4) aD) (aO (bB (i:=3) nd (gX (qv 3) aD))) cP))))
   (aO (lM 3)))))))
theorem T4:FnScope ["web","seeds","told","burning","around","lit"] ["web","seeds"] (aQ (aW 18)):=.au
theorem aO2 (B:Bt mg) (F:FM K mg "rounds" 18 f fd) (d_marked:Df P w K mg base 1 "marked" ["hearths"] kK) (d_near_lists:Df P w K mg base 1 "near_lists" ["web"] v4) (d_kindling:Df P w K mg base 3 "kindling" ["web","around","burning"] nP) (d_made_set:aX P w K mg base 4 "made_set" ["web","hearths"] m3):aX P w K mg base 5 "rounds" ["web","seeds"] rA:=
 aX.au F T4 N9 aF8 (fun cdv A outer s H E Ep hr hX=>by
  have nd:=T4.nd
  exact (aM (gY (i:=2) nd (cX (a8 (gO hX d_made_set hr (a8 (qv 0) (a8 (qv 1) aA))) aA)))
   (aM (gY (i:=3) nd (bF d_marked hr (a8 (c7 (qv 2) aD) aA)))
   (aM (bB (i:=4) nd (bF d_near_lists hr (a8 (qv 0) aA)))
   (aM (bB (i:=5) nd (bF d_kindling hr (a8 (qv 0) (a8 (qv 4) (a8 (qv 3) aA)))))
   (aM (aq8 hX.own (aq1 (qv 5))
    (aM (lN 2 (qv 5))
    (aM (ar4 3 (bF d_marked hr (a8 (qv 5) aA)))
    (aO (bB (i:=5) nd (bF d_kindling hr (a8 (qv 0) (a8 (qv 4) (a8 (qv 3) aA)))))))))
   (aO (lM 2))))))))
theorem T5:FnScope ["web","weights","seeds","told","inside","others"] ["web","weights","seeds"] (aQ (aW 29)):=.au
theorem aO3 (B:Bt mg) (F:FM K mg "is_within" 29 f fd) (d_dues:aX P w K mg base 3 "dues" ["web","weights"] jY) (d_marked:Df P w K mg base 1 "marked" ["hearths"] kK) (d_made_set:aX P w K mg base 4 "made_set" ["web","hearths"] m3) (d_count_inside:Df P w K mg base 1 "count_inside" ["hearths","inside"] lQ):aX P w K mg base 5 "is_within" ["web","weights","seeds"] rK:=
 aX.au F T5 Q2 aJ6 (fun cdv A outer s H E Ep hr hX=>by
  have nd:=T5.nd
  have hu:=jA hr
  exact (aM (bB (i:=3) nd (gO hX d_dues hr (a8 (qv 0) (a8 (qv 1) aA))))
   (aM (bB (i:=4) nd (bF d_marked hr (a8 (gO hX d_made_set hr (a8 (qv 0) (a8 (qv 2) aA))) aA)))
   (aM (az4 (i:=5) nd (N:=["hearth","due","inside"]) (fr:=[none,none,some 4]) (vB rfl B.enum (qv 3)) (fun _ _ _ _=>(B3 hu (qv 0) (qv 2))) (fun _ _ _ _=>(qv 1)))
   (aM (cQ (aE4 jI (qv 5)) (aO (bE iN)) cP)
   (aO (bE (ap5 (lV B rfl (a8 (qv 5) aA)) (lV B rfl (a8 (J7 (N:=["link","weight","inside"]) (fr:=[none,none,some 4]) (vI B (c7 (qv 0) aD) (qv 1)) (fun _ _ _ _=>(nK (bF d_count_inside hr (a8 (qv 0) (a8 (qv 2) aA))) aD)) (fun _ _ _ _=>(qv 1))) aA))))))))))
theorem aO4:FnScope ["web","weights"] ["web","weights"] (aQ (aW 30)):=.au
theorem aO5 (B:Bt mg) (F:FM K mg "pledge_bound" 30 f fd) (d_hearths_in:Df P w K mg base 1 "hearths_in" ["web"] gL) (d_borne_many:aX P w K mg base 4 "borne_many" ["web","weights"] m7):aX P w K mg base 5 "pledge_bound" ["web","weights"] m8:=
 aX.au F aO4 P8 aJ3 (fun cdv A outer s H E Ep hr hX=>by
  exact (aO (bE (pW (bF d_hearths_in hr (a8 (qv 0) aA)) (gO hX d_borne_many hr (a8 (qv 0) (a8 (qv 1) aA)))))))
theorem T6:FnScope ["web","weights","many","borne"] ["web","weights","many"] (aQ (aW 32)):=.au
theorem aO6 (B:Bt mg) (F:FM K mg "pledge_reach" 32 f fd) (d_borne_many:aX P w K mg base 4 "borne_many" ["web","weights"] m7) (d_hearths_in:Df P w K mg base 1 "hearths_in" ["web"] gL) (x_NoSuch:Xc K mg base "NoSuch"):aX P w K mg base 5 "pledge_reach" ["web","weights","many"] rJ:=
 aX.au F T6 P9 aJ4 (fun cdv A outer s H E Ep hr hX=>by
  have nd:=T6.nd
  exact (aM (bB (i:=3) nd (gO hX d_borne_many hr (a8 (qv 0) (a8 (qv 1) aA))))
   (aM (cQ (qB (uM (nK (qv 2) aD) (uL (pZ (qv 2) (bF d_hearths_in hr (a8 (qv 0) aA)))))) (aO (nX hX x_NoSuch (a8 dO aA))) cP)
   (aO (bE (C2 B rfl (a8 (bF d_hearths_in hr (a8 (qv 0) aA)) (a8 (gX (qv 2) (qv 3)) aA))))))))
theorem T7:FnScope ["web","seeds","ranks","rank","lit","hearth"] ["web","seeds"] (aQ (aW 21)):=.au
theorem aO7 (B:Bt mg) (F:FM K mg "ranks_of" 21 f fd) (d_rounds:aX P w K mg base 5 "rounds" ["web","seeds"] rA):aX P w K mg base 6 "ranks_of" ["web","seeds"] rB:=
 aX.au F T7 O0 aF9 (fun cdv A outer s H E Ep hr hX=>by
  have nd:=T7.nd
  have hu:=jA hr
  exact (aM (gY (i:=2) nd B5)
   (aM (C4 3 4 (hp:=hX.own) nd (vB rfl B.enum (gO hX d_rounds hr (a8 (qv 0) (a8 (qv 1) aA))))
    (aO (dP 5 (hp:=hX.own) nd (cY (qv 4))
     (aO (B7 hu (i:=2) (qv 5) (qv 3))))))
   (aO (lM 2)))))
theorem T8:FnScope ["web","rows","link","bounds"] ["web"] (aQ (aW 33)):=.au
theorem aO8 (B:Bt mg) (F:FM K mg "best_plain" 33 f fd) (d_pledge_bound:aX P w K mg base 5 "pledge_bound" ["web","weights"] m8) (x_TooMany:Xc K mg base "TooMany") {u_MOST_LINKS_TRIED:Nat} (m_MOST_LINKS_TRIED:mg "MOST_LINKS_TRIED" = some (.int 8 u_MOST_LINKS_TRIED)):aX P w K mg base 6 "best_plain" ["web"] rL:=
 aX.au F T8 Q3 aJ7 (fun cdv A outer s H E Ep hr hX=>by
  have nd:=T8.nd
  exact (aM (cQ (pZ (fE B (a8 (c7 (qv 0) aD) aA)) (az7 rfl m_MOST_LINKS_TRIED)) (aO (nX hX x_TooMany (a8 dO aA))) cP)
   (aM (bB (i:=1) nd (cX (a8 (fV aA) aA)))
   (aM (dP 2 (hp:=hX.own) nd (cY (c7 (qv 0) aD))
    (aO (bB (i:=1) nd (lU (nL (N:=["row"]) (fr:=[none]) (cY (qv 1)) (fun _ _ _ _=>(K0 (fV (a8 aD aA)) (qv 0)))) (nL (N:=["row"]) (fr:=[none]) (cY (qv 1)) (fun _ _ _ _=>(K0 (fV (a8 aD aA)) (qv 0))))))))
   (aM (C5 (i:=3) nd (N:=["row","web"]) (fr:=[none,some 0]) (cY (qv 1)) (fun _ _ _ _=>(aE7 d_pledge_bound hr (a8 (qv 1) (a8 (qv 0) aA)))))
   (aO (bE (C0 B (a8 (c7 (qv 1) (aH6 (qv 3) (aH1 B rfl (a8 (qv 3) aA)))) aA)))))))))
theorem T9:FnScope ["web","weights","seeds","around","ranks"] ["web","weights","seeds"] (aQ (aW 27)):=.au
theorem aO9 (B:Bt mg) (F:FM K mg "takings" 27 f fd) (d_weighted_lists:aX P w K mg base 2 "weighted_lists" ["web","weights"] m6) (d_ranks_of:aX P w K mg base 6 "ranks_of" ["web","seeds"] rB) (d_taken_by:Df P w K mg base 1 "taken_by" ["hearth","beside","ranks"] qW):aX P w K mg base 7 "takings" ["web","weights","seeds"] o9:=
 aX.au F T9 Q0 aJ5 (fun cdv A outer s H E Ep hr hX=>by
  have nd:=T9.nd
  exact (aM (bB (i:=3) nd (gO hX d_weighted_lists hr (a8 (qv 0) (a8 (qv 1) aA))))
   (aM (bB (i:=4) nd (gO hX d_ranks_of hr (a8 (qv 0) (a8 (qv 2) aA))))
   (aO (bE (vD (N:=["hearth","beside","ranks"]) (fr:=[none,none,some 4]) (vB rfl B.enum (qv 3)) (fun _ _ _ _=>(bF d_taken_by hr (a8 (qv 0) (a8 (qv 1) (a8 (qv 2) aA)))))))))))
theorem U0:FnScope ["way","web","weights","thing","caught","e","kinds"] ["way","web","weights","thing"] (aQ (aW 42)):=.au
theorem aP0 (B:Bt mg) (F:FM K mg "_law_refusal" 42 f fd) (d_dues:aX P w K mg base 3 "dues" ["web","weights"] jY) (d_pledge_bound:aX P w K mg base 5 "pledge_bound" ["web","weights"] m8) (d_takings:aX P w K mg base 7 "takings" ["web","weights","seeds"] o9) (d_is_within:aX P w K mg base 5 "is_within" ["web","weights","seeds"] rK) (d_pledge_reach:aX P w K mg base 5 "pledge_reach" ["web","weights","many"] rJ) (d_best_plain:aX P w K mg base 6 "best_plain" ["web"] rL) (cat_HearthError:vQ K mg "HearthError") (is_BadSet:iV K mg "BadSet") (is_BadPrices:iV K mg "BadPrices") (is_NoSuch:iV K mg "NoSuch") (is_TooMany:iV K mg "TooMany") (is_ValueError:vS K mg):Df P w K mg base 8 "_law_refusal" ["way","web","weights","thing"] iY:=
 Df.au F U0 (fun cdv A outer s H E hr=>by
  have nd:=U0.nd
  exact⟨(Q6),(aM (bB (i:=4) nd jI)
   (aM (aF0 5 cat_HearthError nd (nY (fun _=>(gJ (qv 0) aD)) (lY d_dues hr (fun _=>(a8 (qv 1) (a8 (qv 2) aA)))) (nY (fun _=>(gJ (qv 0) aD)) (lY d_pledge_bound hr (fun _=>(a8 (qv 1) (a8 (qv 2) aA)))) (nY (fun _=>(gJ (qv 0) aD)) (lY d_takings hr (fun _=>(a8 (qv 1) (a8 (qv 2) (a8 (qv 3) aA))))) (nY (fun _=>(gJ (qv 0) aD)) (lY d_is_within hr (fun _=>(a8 (qv 1) (a8 (qv 2) (a8 (qv 3) aA))))) (nY (fun _=>(gJ (qv 0) aD)) (lY d_pledge_reach hr (fun _=>(a8 (qv 1) (a8 (qv 2) (a8 (qv 3) aA))))) (lY d_best_plain hr (fun _=>(a8 (qv 1) aA)))))))) (fun _=>(aO (bB (i:=4) nd (qv 5)))))
   (aM (cQ (qB (uM (ap7 (qv 4) jI) (uL (B4 (qA (aF4 B is_ValueError (qv 4))))))) (aO (bE dO)) cP)
   (aM (gY (i:=6) nd (cX (a8 (qX B is_BadPrices (qv 4)) (a8 (qX B is_BadSet (qv 4)) (a8 (qX B is_NoSuch (qv 4)) aA)))))
   (aM (lN 6 (qX B is_TooMany (qv 4)))
   (aM (aq7 6 (cQ (uK (lV B rfl (a8 (nL (N:=["kind"]) (fr:=[none]) (cY (qv 6)) (fun _ _ _ _=>(aH3 B (a8 (qv 0) aA)))) aA)) aD) (aO (bE dO)) cP))
   (aO (bE (c7 (cX (a8 dO (a8 dO (a8 dO (a8 dO aA))))) (aI4 (qv 6) iN)))))))))),aK0⟩)
theorem U1:FnScope ["script","web","many","weights","cell","bad","far","odd","some","way","seeds","count"] ["script"] (aQ (aW 43)):=.au
theorem aP1 (B:Bt mg) (F:dF K "law" "law" (aW 43) f fd) (d__law_web_by:Df P w K mg base 3 "_law_web_by" ["script","at"] qU) (d__law_weights:Df P w K mg base 2 "_law_weights" ["script","at","links"] qV) (d__law_bad_weights:Df P w K mg base 1 "_law_bad_weights" ["weights","cell"] rM) (d__law_cell_at:Df P w K mg base 1 "_law_cell_at" ["script","k"] eD) (d__law_refusal:Df P w K mg base 8 "_law_refusal" ["way","web","weights","thing"] iY):bJ P w K mg base cU 9 f fd ["script"] (kG K w5):=
 ax4 F U1 (fun xs Q h=>by unfold w5 at h; repeat (first | (obtain ⟨rfl,_⟩:=h; rfl) | (obtain ⟨_,h⟩:=h))) (fun cdv A outer s H E hr=>by
  have nd:=U1.nd
  exact⟨(R4),(aM (bB (i:=1) nd (bF d__law_web_by hr (a8 (qv 0) (a8 aD aA))))
   (aM (bB (i:=2) nd (fE B (a8 (c7 (qv 1) aD) aA)))
   (aM (bB (i:=3) nd (bF d__law_weights hr (a8 (qv 0) (a8 aD (a8 (fE B (a8 (c7 (qv 1) aD) aA)) aA)))))
   (aM (bB (i:=4) nd (bW (bF d__law_cell_at hr (a8 (qv 0) (a8 aD aA))) (pX aD aD)))
   (aM (bB (i:=5) nd (bF d__law_bad_weights hr (a8 (qv 3) (a8 (qv 4) aA))))
   (aM (bB (i:=6) nd (bW (cW (qv 4) aD) (pX aD aD)))
   (aM (bB (i:=7) nd (c7 (cX (a8 (lP aD) (a8 (gX (qv 2) aD) (a8 (pW (lP aD) (qv 6)) (a8 (gX (gX (qv 2) aD) (qv 6)) aA))))) (bW (cW (qv 4) aD) aD)))
   (aM (dP 8 nd (cY (vY (a8 (qv 5) (a8 (jK B (a8 (qv 5) aA)) aA))))
    (aM (dP 9 nd (lO rfl B.range aD)
     (aO (cQ (o4 (bF d__law_refusal hr (a8 (qv 9) (a8 (qv 1) (a8 (qv 8) (a8 jI aA))))) dO) (aO (bE iN)) cP)))
    (aM (dP 10 nd (cY (vY (a8 (fV aA) (a8 (fV (a8 (qv 2) aA)) (a8 (cX (a8 (lP aD) aA)) aA)))))
     (aO (dP 9 nd (B8 rfl B.range aD aD)
      (aO (cQ (o4 (bF d__law_refusal hr (a8 (qv 9) (a8 (qv 1) (a8 (qv 8) (a8 (qv 10) aA))))) dO) (aO (bE iN)) cP)))))
    (aO (dP 11 nd (cY (cX (a8 (qv 7) (a8 aD aA))))
     (aO (cQ (o4 (bF d__law_refusal hr (a8 aD (a8 (qv 1) (a8 (qv 8) (a8 (qv 11) aA))))) dO) (aO (bE iN)) cP)))))))
   (aM (dP 9 nd (cY (cX (a8 aD (a8 aD aA))))
    (aO (dP 10 nd (cY (vY (a8 (cX (a8 (qv 2) aA)) (a8 (fV (a8 (lP aD) aA)) aA))))
     (aO (cQ (o4 (bF d__law_refusal hr (a8 (qv 9) (a8 (qv 1) (a8 (qv 3) (a8 (qv 10) aA))))) dO) (aO (bE iN)) cP)))))
   (aM (cQ (o4 (bF d__law_refusal hr (a8 aD (a8 (qv 1) (a8 (qv 3) (a8 (qv 7) aA))))) dO) (aO (bE iN)) cP)
   (aO (bE (aq4 (uJ (fE B (a8 (c7 (qv 1) aD) aA)) aD) (qD (aH9 (bF d__law_refusal hr (a8 aD (a8 (qv 1) (a8 (cX aA) (a8 jI aA))))) dO))))))))))))))),aK4⟩)
end
set_option autoImplicit true in
theorem aP2 {l:OpenLaw}{w:World}{K:Frag}{h:Heap}{mg:Str->Option Value} (X:K.In h) (G:h.Ns mainGlobals mg) (hfa:mg "law" = some (.ref fa))
  (h0:FK K "made_prices" 7 f0 d0)
  (h1:FK K "rises" 9 f1 d1)
  (h2:FK K "hearths_in" 10 f2 d2)
  (h3:FK K "near_lists" 11 f3 d3)
  (h4:FK K "marked" 15 f4 d4)
  (h5:FK K "count_inside" 16 f5 d5)
  (h6:FK K "due_of" 26 f6 d6)
  (h7:FK K "taken_by" 28 f7 d7)
  (h8:FK K "_law_cell_at" 35 f8 d8)
  (h9:FK K "_law_web_of_digits" 36 f9 d9)
  (h10:FK K "_law_bad_weights" 41 f10 d10)
  (h11:FK K "is_hearth" 12 f11 d11)
  (h12:FK K "can_kindle" 20 f12 d12)
  (h13:FK K "weighted_lists" 24 f13 d13)
  (h14:FK K "_law_web" 37 f14 d14)
  (h15:FK K "_law_weights" 40 f15 d15)
  (h16:FK K "is_set" 13 f16 d16)
  (h17:FK K "kindling" 19 f17 d17)
  (h18:FK K "dues" 25 f18 d18)
  (h19:FK K "_law_web_by" 38 f19 d19)
  (h20:FK K "made_set" 14 f20 d20)
  (h21:FK K "borne_many" 31 f21 d21)
  (h22:FK K "rounds" 18 f22 d22)
  (h23:FK K "is_within" 29 f23 d23)
  (h24:FK K "pledge_bound" 30 f24 d24)
  (h25:FK K "pledge_reach" 32 f25 d25)
  (h26:FK K "ranks_of" 21 f26 d26)
  (h27:FK K "best_plain" 33 f27 d27)
  (h28:FK K "takings" 27 f28 d28)
  (h29:FK K "_law_refusal" 42 f29 d29)
  (a30:nsIn K mainGlobals "law" = some (some (.ref f30))) (l30:K.lookup f30=some ⟨oc30,od30,.func (fnOf "law" "law" (i9 (aW 43)) (dI (aW 43)) (aQ (aW 43)) .none kV30 dc30 pm30 an30 cd30 ct30),sl30⟩) (c30:codeIn K cd30 "law" = true) (k30:keepIn K (.ref f30)=true)
  (z_len:nsIn K mainGlobals "len" = some none)
  (z_range:nsIn K mainGlobals "range" = some none)
  (z_tuple:nsIn K mainGlobals "tuple" = some none)
  (z_list:nsIn K mainGlobals "list" = some none)
  (z_sorted:nsIn K mainGlobals "sorted" = some none)
  (z_all:nsIn K mainGlobals "all" = some none)
  (z_any:nsIn K mainGlobals "any" = some none)
  (z_zip:nsIn K mainGlobals "zip" = some none)
  (z_min:nsIn K mainGlobals "min" = some none)
  (z_max:nsIn K mainGlobals "max" = some none)
  (z_sum:nsIn K mainGlobals "sum" = some none)
  (z_isinstance:nsIn K mainGlobals "isinstance" = some none)
  (z_int:nsIn K mainGlobals "int" = some none)
  (z_bool:nsIn K mainGlobals "bool" = some none)
  (z_enumerate:nsIn K mainGlobals "enumerate" = some none)
  {u_MOST_LINKS_TRIED:Nat} (z_MOST_LINKS_TRIEDx:nsIn K mainGlobals "MOST_LINKS_TRIED" = some (some (.int 8 u_MOST_LINKS_TRIED)))
  {C_HearthError C_BadSet C_BadPrices C_NoSuch C_TooMany:Addr}
  (aX_HE:nsIn K mainGlobals "HearthError" = some (some (.ref C_HearthError)))
  (aX_BS:nsIn K mainGlobals "BadSet" = some (some (.ref C_BadSet)))
  (aX_BP:nsIn K mainGlobals "BadPrices" = some (some (.ref C_BadPrices)))
  (aX_NS:nsIn K mainGlobals "NoSuch" = some (some (.ref C_NoSuch)))
  (aX_TM:nsIn K mainGlobals "TooMany" = some (some (.ref C_TooMany)))
  (zX_BW:nsIn K mainGlobals "BadWeb" = some none)
  (zX_BO:nsIn K mainGlobals "BadOrder" = some none)
  (zX_BB:nsIn K mainGlobals "BadBoard" = some none)
  (zX_BD:nsIn K mainGlobals "BadDeed" = some none)
  (zX_NW:nsIn K mainGlobals "NotWood" = some none)
  (zX_NP:nsIn K mainGlobals "NoPaper" = some none)
  (zX_NT:nsIn K mainGlobals "NoText" = some none)
  (zX_OR:nsIn K mainGlobals "OddRound" = some none)
  (y_fg:specialIn K (.builtin "object.__class__") "__get__" = some (some (.builtin "getset_descriptor.__get__")))
  (y_ft:takesIn K (.builtin "object.__class__")=some true)
  (z_VE:nsIn K mainGlobals "ValueError" = some none)
  (y1_HE:isClsIn K C_HearthError=true)
  (y2_HE:typeIn K (.ref C_HearthError)=some (.type "type"))
  (y3_HE:findIn K (.ref C_HearthError) "__getattribute__" = some (some (.builtin "BaseException.__getattribute__")))
  (y4_HE:findIn K (.ref C_HearthError) "__getattr__" = some none)
  (y5_HE:findIn K (.ref C_HearthError) "__class__" = some (some (.builtin "object.__class__")))
  (y6_HE:mroIn K C_HearthError (.type "object")=some true)
  (y7_HE:mroIn K C_HearthError (.type "BaseException")=some true)
  (y1_BS:isClsIn K C_BadSet=true)
  (y2_BS:typeIn K (.ref C_BadSet)=some (.type "type"))
  (y3_BS:findIn K (.ref C_BadSet) "__getattribute__" = some (some (.builtin "BaseException.__getattribute__")))
  (y4_BS:findIn K (.ref C_BadSet) "__getattr__" = some none)
  (y5_BS:findIn K (.ref C_BadSet) "__class__" = some (some (.builtin "object.__class__")))
  (y6_BS:mroIn K C_BadSet (.type "object")=some true)
  (y7_BS:mroIn K C_BadSet (.type "BaseException")=some true)
  (y1_BP:isClsIn K C_BadPrices=true)
  (y2_BP:typeIn K (.ref C_BadPrices)=some (.type "type"))
  (y3_BP:findIn K (.ref C_BadPrices) "__getattribute__" = some (some (.builtin "BaseException.__getattribute__")))
  (y4_BP:findIn K (.ref C_BadPrices) "__getattr__" = some none)
  (y5_BP:findIn K (.ref C_BadPrices) "__class__" = some (some (.builtin "object.__class__")))
  (y6_BP:mroIn K C_BadPrices (.type "object")=some true)
  (y7_BP:mroIn K C_BadPrices (.type "BaseException")=some true)
  (y1_NS:isClsIn K C_NoSuch=true)
  (y2_NS:typeIn K (.ref C_NoSuch)=some (.type "type"))
  (y3_NS:findIn K (.ref C_NoSuch) "__getattribute__" = some (some (.builtin "BaseException.__getattribute__")))
  (y4_NS:findIn K (.ref C_NoSuch) "__getattr__" = some none)
  (y5_NS:findIn K (.ref C_NoSuch) "__class__" = some (some (.builtin "object.__class__")))
  (y6_NS:mroIn K C_NoSuch (.type "object")=some true)
  (y7_NS:mroIn K C_NoSuch (.type "BaseException")=some true)
  (y1_TM:isClsIn K C_TooMany=true)
  (y2_TM:typeIn K (.ref C_TooMany)=some (.type "type"))
  (y3_TM:findIn K (.ref C_TooMany) "__getattribute__" = some (some (.builtin "BaseException.__getattribute__")))
  (y4_TM:findIn K (.ref C_TooMany) "__getattr__" = some none)
  (y5_TM:findIn K (.ref C_TooMany) "__class__" = some (some (.builtin "object.__class__")))
  (y6_TM:mroIn K C_TooMany (.type "object")=some true)
  (y7_TM:mroIn K C_TooMany (.type "BaseException")=some true)
  (sB_HE:subIn K (.ref C_HearthError) (.type "BaseException")=some true)
  (s_BS_HE:subIn K (.ref C_BadSet) (.ref C_HearthError)=some true)
  (s_BP_HE:subIn K (.ref C_BadPrices) (.ref C_HearthError)=some true)
  (s_NS_HE:subIn K (.ref C_NoSuch) (.ref C_HearthError)=some true)
  (s_TM_HE:subIn K (.ref C_TooMany) (.ref C_HearthError)=some true)
  (sN_BP:subIn K (.type "NoneType") (.ref C_BadPrices)=some false)
  (s_BS_BP:subIn K (.ref C_BadSet) (.ref C_BadPrices)=some false)
  (n_BS_BP:(C_BadSet == C_BadPrices)=false)
  (s_NS_BP:subIn K (.ref C_NoSuch) (.ref C_BadPrices)=some false)
  (n_NS_BP:(C_NoSuch == C_BadPrices)=false)
  (s_TM_BP:subIn K (.ref C_TooMany) (.ref C_BadPrices)=some false)
  (n_TM_BP:(C_TooMany == C_BadPrices)=false)
  (sN_BS:subIn K (.type "NoneType") (.ref C_BadSet)=some false)
  (s_BP_BS:subIn K (.ref C_BadPrices) (.ref C_BadSet)=some false)
  (n_BP_BS:(C_BadPrices == C_BadSet)=false)
  (s_NS_BS:subIn K (.ref C_NoSuch) (.ref C_BadSet)=some false)
  (n_NS_BS:(C_NoSuch == C_BadSet)=false)
  (s_TM_BS:subIn K (.ref C_TooMany) (.ref C_BadSet)=some false)
  (n_TM_BS:(C_TooMany == C_BadSet)=false)
  (sN_NS:subIn K (.type "NoneType") (.ref C_NoSuch)=some false)
  (s_BS_NS:subIn K (.ref C_BadSet) (.ref C_NoSuch)=some false)
  (n_BS_NS:(C_BadSet == C_NoSuch)=false)
  (s_BP_NS:subIn K (.ref C_BadPrices) (.ref C_NoSuch)=some false)
  (n_BP_NS:(C_BadPrices == C_NoSuch)=false)
  (s_TM_NS:subIn K (.ref C_TooMany) (.ref C_NoSuch)=some false)
  (n_TM_NS:(C_TooMany == C_NoSuch)=false)
  (sN_TM:subIn K (.type "NoneType") (.ref C_TooMany)=some false)
  (s_BS_TM:subIn K (.ref C_BadSet) (.ref C_TooMany)=some false)
  (n_BS_TM:(C_BadSet == C_TooMany)=false)
  (s_BP_TM:subIn K (.ref C_BadPrices) (.ref C_TooMany)=some false)
  (n_BP_TM:(C_BadPrices == C_TooMany)=false)
  (s_NS_TM:subIn K (.ref C_NoSuch) (.ref C_TooMany)=some false)
  (n_NS_TM:(C_NoSuch == C_TooMany)=false)
  (sV_BS:subIn K (.ref C_BadSet) (.type "ValueError")=some true)
  (sV_BP:subIn K (.ref C_BadPrices) (.type "ValueError")=some true)
  (sV_NS:subIn K (.ref C_NoSuch) (.type "ValueError")=some true)
  (sV_TM:subIn K (.ref C_TooMany) (.type "ValueError")=some true)
  (q_BP:excIn K C_BadPrices [.type "ValueError",.type "Exception",.type "BaseException",.type "object"] "ValueError.__new__" = true)
  (q_BS:excIn K C_BadSet [.type "ValueError",.type "Exception",.type "BaseException",.type "object"] "ValueError.__new__" = true)
  (q_NS:excIn K C_NoSuch [.type "ValueError",.type "Exception",.type "BaseException",.type "object"] "ValueError.__new__" = true)
  (q_TM:excIn K C_TooMany [.type "ValueError",.type "Exception",.type "BaseException",.type "object"] "ValueError.__new__" = true)
  : ∃ fd:FuncData,(∀ (s:Shared) (v:Value),BindsTo s fd ⟨[v],[]⟩ [("script",v)])/\∀ base:Heap,K.In base->base.Ns mainGlobals mg->bJ l.prog w K mg base cU 9 fa fd ["script"] (qP K):=by
 have e:=hfa.symm.trans (mg_of X G a30)
 cases e
 have F30:=ag2 (st:=aW 43) l30 c30 k30
 have m30:=mg_of X G a30
 have B:Bt mg:=⟨mg_none_of X G z_len,mg_none_of X G z_range,mg_none_of X G z_tuple,mg_none_of X G z_list,mg_none_of X G z_sorted,mg_none_of X G z_all,mg_none_of X G z_any,mg_none_of X G z_zip,mg_none_of X G z_min,mg_none_of X G z_max,mg_none_of X G z_sum,mg_none_of X G z_isinstance,mg_none_of X G z_int,mg_none_of X G z_bool,mg_none_of X G z_enumerate⟩
 have m_MOST_LINKS_TRIED:=mg_of X G z_MOST_LINKS_TRIEDx
 refine⟨fnOf "law" "law" (i9 (aW 43)) (dI (aW 43)) (aQ (aW 43)) .none kV30 dc30 pm30 an30 cd30 ct30,fun s v=>.of_eq rfl,fun base KB _=>?_⟩
 have XK_HearthError:iW K C_HearthError:=⟨y1_HE,y2_HE,y3_HE,y4_HE,y5_HE,y_fg,y_ft,y6_HE,y7_HE⟩
 have XK_BadSet:iW K C_BadSet:=⟨y1_BS,y2_BS,y3_BS,y4_BS,y5_BS,y_fg,y_ft,y6_BS,y7_BS⟩
 have XK_BadPrices:iW K C_BadPrices:=⟨y1_BP,y2_BP,y3_BP,y4_BP,y5_BP,y_fg,y_ft,y6_BP,y7_BP⟩
 have XK_NoSuch:iW K C_NoSuch:=⟨y1_NS,y2_NS,y3_NS,y4_NS,y5_NS,y_fg,y_ft,y6_NS,y7_NS⟩
 have XK_TooMany:iW K C_TooMany:=⟨y1_TM,y2_TM,y3_TM,y4_TM,y5_TM,y_fg,y_ft,y6_TM,y7_TM⟩
 have cat_HearthError:vQ K mg "HearthError":=⟨C_HearthError,mg_of X G aX_HE,⟨y1_HE,y2_HE,sB_HE⟩,fun n C h2 h1=>by
  obtain ⟨hm,hb⟩:=lZ h2
  simp only [jV,aQ2,aQ4,aS6] at hm
  rcases hm with rfl | rfl | rfl | rfl | rfl | rfl | rfl | rfl | rfl | rfl | rfl | rfl
  ·rw [zX_BW] at h1; cases h1
  ·rw [aX_BS] at h1; cases h1; exact s_BS_HE
  ·rw [zX_BO] at h1; cases h1
  ·rw [aX_BP] at h1; cases h1; exact s_BP_HE
  ·rw [zX_BB] at h1; cases h1
  ·rw [zX_BD] at h1; cases h1
  ·rw [zX_NW] at h1; cases h1
  ·rw [zX_NP] at h1; cases h1
  ·rw [aX_NS] at h1; cases h1; exact s_NS_HE
  ·rw [aX_TM] at h1; cases h1; exact s_TM_HE
  ·rw [zX_NT] at h1; cases h1
  ·rw [zX_OR] at h1; cases h1⟩
 have is_BadPrices:iV K mg "BadPrices":=⟨C_BadPrices,mg_of X G aX_BP,fun z=>(by cases z),(fun n C b h1 h2=>by
  obtain ⟨hm,hb⟩:=lZ h2
  simp only [jV,aQ2,aQ4,aS6] at hm
  rcases hm with rfl | rfl | rfl | rfl | rfl | rfl | rfl | rfl | rfl | rfl | rfl | rfl
  ·rw [zX_BW] at h1; cases h1
  ·rw [aX_BS] at h1; cases h1; rw [hb,show (("BadSet" : Str) == "BadPrices" || ("BadPrices" : Str) == "HearthError" || ("BadPrices" : Str) == "ValueError")=false by decide]; exact⟨XK_BadSet.exc,fZ XK_BadPrices n_BS_BP s_BS_BP⟩
  ·rw [zX_BO] at h1; cases h1
  ·rw [aX_BP] at h1; cases h1; rw [hb,show (("BadPrices" : Str) == "BadPrices" || ("BadPrices" : Str) == "HearthError" || ("BadPrices" : Str) == "ValueError")=true by decide]; exact⟨XK_BadPrices.exc,qZ⟩
  ·rw [zX_BB] at h1; cases h1
  ·rw [zX_BD] at h1; cases h1
  ·rw [zX_NW] at h1; cases h1
  ·rw [zX_NP] at h1; cases h1
  ·rw [aX_NS] at h1; cases h1; rw [hb,show (("NoSuch" : Str) == "BadPrices" || ("BadPrices" : Str) == "HearthError" || ("BadPrices" : Str) == "ValueError")=false by decide]; exact⟨XK_NoSuch.exc,fZ XK_BadPrices n_NS_BP s_NS_BP⟩
  ·rw [aX_TM] at h1; cases h1; rw [hb,show (("TooMany" : Str) == "BadPrices" || ("BadPrices" : Str) == "HearthError" || ("BadPrices" : Str) == "ValueError")=false by decide]; exact⟨XK_TooMany.exc,fZ XK_BadPrices n_TM_BP s_TM_BP⟩
  ·rw [zX_NT] at h1; cases h1
  ·rw [zX_OR] at h1; cases h1),r9 XK_BadPrices sN_BP⟩
 have is_BadSet:iV K mg "BadSet":=⟨C_BadSet,mg_of X G aX_BS,fun z=>(by cases z),(fun n C b h1 h2=>by
  obtain ⟨hm,hb⟩:=lZ h2
  simp only [jV,aQ2,aQ4,aS6] at hm
  rcases hm with rfl | rfl | rfl | rfl | rfl | rfl | rfl | rfl | rfl | rfl | rfl | rfl
  ·rw [zX_BW] at h1; cases h1
  ·rw [aX_BS] at h1; cases h1; rw [hb,show (("BadSet" : Str) == "BadSet" || ("BadSet" : Str) == "HearthError" || ("BadSet" : Str) == "ValueError")=true by decide]; exact⟨XK_BadSet.exc,qZ⟩
  ·rw [zX_BO] at h1; cases h1
  ·rw [aX_BP] at h1; cases h1; rw [hb,show (("BadPrices" : Str) == "BadSet" || ("BadSet" : Str) == "HearthError" || ("BadSet" : Str) == "ValueError")=false by decide]; exact⟨XK_BadPrices.exc,fZ XK_BadSet n_BP_BS s_BP_BS⟩
  ·rw [zX_BB] at h1; cases h1
  ·rw [zX_BD] at h1; cases h1
  ·rw [zX_NW] at h1; cases h1
  ·rw [zX_NP] at h1; cases h1
  ·rw [aX_NS] at h1; cases h1; rw [hb,show (("NoSuch" : Str) == "BadSet" || ("BadSet" : Str) == "HearthError" || ("BadSet" : Str) == "ValueError")=false by decide]; exact⟨XK_NoSuch.exc,fZ XK_BadSet n_NS_BS s_NS_BS⟩
  ·rw [aX_TM] at h1; cases h1; rw [hb,show (("TooMany" : Str) == "BadSet" || ("BadSet" : Str) == "HearthError" || ("BadSet" : Str) == "ValueError")=false by decide]; exact⟨XK_TooMany.exc,fZ XK_BadSet n_TM_BS s_TM_BS⟩
  ·rw [zX_NT] at h1; cases h1
  ·rw [zX_OR] at h1; cases h1),r9 XK_BadSet sN_BS⟩
 have is_NoSuch:iV K mg "NoSuch":=⟨C_NoSuch,mg_of X G aX_NS,fun z=>(by cases z),(fun n C b h1 h2=>by
  obtain ⟨hm,hb⟩:=lZ h2
  simp only [jV,aQ2,aQ4,aS6] at hm
  rcases hm with rfl | rfl | rfl | rfl | rfl | rfl | rfl | rfl | rfl | rfl | rfl | rfl
  ·rw [zX_BW] at h1; cases h1
  ·rw [aX_BS] at h1; cases h1; rw [hb,show (("BadSet" : Str) == "NoSuch" || ("NoSuch" : Str) == "HearthError" || ("NoSuch" : Str) == "ValueError")=false by decide]; exact⟨XK_BadSet.exc,fZ XK_NoSuch n_BS_NS s_BS_NS⟩
  ·rw [zX_BO] at h1; cases h1
  ·rw [aX_BP] at h1; cases h1; rw [hb,show (("BadPrices" : Str) == "NoSuch" || ("NoSuch" : Str) == "HearthError" || ("NoSuch" : Str) == "ValueError")=false by decide]; exact⟨XK_BadPrices.exc,fZ XK_NoSuch n_BP_NS s_BP_NS⟩
  ·rw [zX_BB] at h1; cases h1
  ·rw [zX_BD] at h1; cases h1
  ·rw [zX_NW] at h1; cases h1
  ·rw [zX_NP] at h1; cases h1
  ·rw [aX_NS] at h1; cases h1; rw [hb,show (("NoSuch" : Str) == "NoSuch" || ("NoSuch" : Str) == "HearthError" || ("NoSuch" : Str) == "ValueError")=true by decide]; exact⟨XK_NoSuch.exc,qZ⟩
  ·rw [aX_TM] at h1; cases h1; rw [hb,show (("TooMany" : Str) == "NoSuch" || ("NoSuch" : Str) == "HearthError" || ("NoSuch" : Str) == "ValueError")=false by decide]; exact⟨XK_TooMany.exc,fZ XK_NoSuch n_TM_NS s_TM_NS⟩
  ·rw [zX_NT] at h1; cases h1
  ·rw [zX_OR] at h1; cases h1),r9 XK_NoSuch sN_NS⟩
 have is_TooMany:iV K mg "TooMany":=⟨C_TooMany,mg_of X G aX_TM,fun z=>(by cases z),(fun n C b h1 h2=>by
  obtain ⟨hm,hb⟩:=lZ h2
  simp only [jV,aQ2,aQ4,aS6] at hm
  rcases hm with rfl | rfl | rfl | rfl | rfl | rfl | rfl | rfl | rfl | rfl | rfl | rfl
  ·rw [zX_BW] at h1; cases h1
  ·rw [aX_BS] at h1; cases h1; rw [hb,show (("BadSet" : Str) == "TooMany" || ("TooMany" : Str) == "HearthError" || ("TooMany" : Str) == "ValueError")=false by decide]; exact⟨XK_BadSet.exc,fZ XK_TooMany n_BS_TM s_BS_TM⟩
  ·rw [zX_BO] at h1; cases h1
  ·rw [aX_BP] at h1; cases h1; rw [hb,show (("BadPrices" : Str) == "TooMany" || ("TooMany" : Str) == "HearthError" || ("TooMany" : Str) == "ValueError")=false by decide]; exact⟨XK_BadPrices.exc,fZ XK_TooMany n_BP_TM s_BP_TM⟩
  ·rw [zX_BB] at h1; cases h1
  ·rw [zX_BD] at h1; cases h1
  ·rw [zX_NW] at h1; cases h1
  ·rw [zX_NP] at h1; cases h1
  ·rw [aX_NS] at h1; cases h1; rw [hb,show (("NoSuch" : Str) == "TooMany" || ("TooMany" : Str) == "HearthError" || ("TooMany" : Str) == "ValueError")=false by decide]; exact⟨XK_NoSuch.exc,fZ XK_TooMany n_NS_TM s_NS_TM⟩
  ·rw [aX_TM] at h1; cases h1; rw [hb,show (("TooMany" : Str) == "TooMany" || ("TooMany" : Str) == "HearthError" || ("TooMany" : Str) == "ValueError")=true by decide]; exact⟨XK_TooMany.exc,qZ⟩
  ·rw [zX_NT] at h1; cases h1
  ·rw [zX_OR] at h1; cases h1),r9 XK_TooMany sN_TM⟩
 have is_ValueError:vS K mg:=⟨mg_none_of X G z_VE,fun z=>(by cases z),(fun n C b h1 h2=>by
  obtain ⟨hm,hb⟩:=lZ h2
  simp only [jV,aQ2,aQ4,aS6] at hm
  rcases hm with rfl | rfl | rfl | rfl | rfl | rfl | rfl | rfl | rfl | rfl | rfl | rfl
  ·rw [zX_BW] at h1; cases h1
  ·rw [aX_BS] at h1; cases h1; rw [hb,show (("BadSet" : Str) == "ValueError" || ("ValueError" : Str) == "HearthError" || ("ValueError" : Str) == "ValueError")=true by decide]; exact⟨XK_BadSet.exc,r6 sV_BS⟩
  ·rw [zX_BO] at h1; cases h1
  ·rw [aX_BP] at h1; cases h1; rw [hb,show (("BadPrices" : Str) == "ValueError" || ("ValueError" : Str) == "HearthError" || ("ValueError" : Str) == "ValueError")=true by decide]; exact⟨XK_BadPrices.exc,r6 sV_BP⟩
  ·rw [zX_BB] at h1; cases h1
  ·rw [zX_BD] at h1; cases h1
  ·rw [zX_NW] at h1; cases h1
  ·rw [zX_NP] at h1; cases h1
  ·rw [aX_NS] at h1; cases h1; rw [hb,show (("NoSuch" : Str) == "ValueError" || ("ValueError" : Str) == "HearthError" || ("ValueError" : Str) == "ValueError")=true by decide]; exact⟨XK_NoSuch.exc,r6 sV_NS⟩
  ·rw [aX_TM] at h1; cases h1; rw [hb,show (("TooMany" : Str) == "ValueError" || ("ValueError" : Str) == "HearthError" || ("ValueError" : Str) == "ValueError")=true by decide]; exact⟨XK_TooMany.exc,r6 sV_TM⟩
  ·rw [zX_NT] at h1; cases h1
  ·rw [zX_OR] at h1; cases h1),aF5⟩
 have x_BadPrices:Xc K mg base "BadPrices":=⟨C_BadPrices,_,_,_,_,qY KB (mg_of X G aX_BP) q_BP,bb2,aX_BP⟩
 have x_BadSet:Xc K mg base "BadSet":=⟨C_BadSet,_,_,_,_,qY KB (mg_of X G aX_BS) q_BS,bb2,aX_BS⟩
 have x_NoSuch:Xc K mg base "NoSuch":=⟨C_NoSuch,_,_,_,_,qY KB (mg_of X G aX_NS) q_NS,bb2,aX_NS⟩
 have x_TooMany:Xc K mg base "TooMany":=⟨C_TooMany,_,_,_,_,qY KB (mg_of X G aX_TM) q_TM,bb2,aX_TM⟩
 have D0:=aL2 (P:=l.prog) (w:=w) (base:=base) B (h0.M X G)  x_BadPrices
 have D1:=aw0 (aK8 (P:=l.prog) (w:=w) (base:=base) B h1.F) (h1.F.binds (ps:=["things"]) fun _ _ _ _ _ _ us hl=>by obtain ⟨_,rfl⟩:=iX hl; rfl) h1.F.kp (mg_of X G h1.a)
 have D2:=aL4 (P:=l.prog) (w:=w) (base:=base) B (h2.M X G)
 have D3:=aw1 (aK9 (P:=l.prog) (w:=w) (mg:=mg) (base:=base) h3.F) (h3.F.binds (ps:=["web"]) fun _ _ _ _ _ _ us hl=>by obtain ⟨_,rfl⟩:=iX hl; rfl) h3.F.kp (mg_of X G h3.a)
 have D4:=aL5 (P:=l.prog) (w:=w) (base:=base) B (h4.M X G)
 have D5:=aL7 (P:=l.prog) (w:=w) (base:=base) B (h5.M X G)
 have D6:=aL9 (P:=l.prog) (w:=w) (base:=base) B (h6.M X G)
 have D7:=aM0 (P:=l.prog) (w:=w) (base:=base) B (h7.M X G)
 have D8:=aM2 (P:=l.prog) (w:=w) (base:=base) B (h8.M X G)
 have D9:=aM3 (P:=l.prog) (w:=w) (base:=base) B (h9.M X G)
 have D10:=aM4 (P:=l.prog) (w:=w) (base:=base) B (h10.M X G)
 have D11:=aM6 (P:=l.prog) (w:=w) (base:=base) B (h11.M X G) D2
 have D12:=aM8 (P:=l.prog) (w:=w) (base:=base) B (h12.M X G) D5
 have D13:=aK6 (aL0 (P:=l.prog) (w:=w) (mg:=mg) (base:=base) B h13.F (D0.df.weak2 aJ0)) (aM9 (P:=l.prog) (w:=w) (mg:=mg) (base:=base) B h13.F D0) (h13.F.binds (ps:=["web","weights"]) fun _ _ _ _ _ _ us hl=>by obtain ⟨_,_,rfl⟩:=nZ hl; rfl) h13.F.kp (mg_of X G h13.a)
 have D14:=aN0 (P:=l.prog) (w:=w) (base:=base) B (h14.M X G) D9 D8
 have D15:=aN1 (P:=l.prog) (w:=w) (base:=base) B (h15.M X G) D8
 have D16:=aN3 (P:=l.prog) (w:=w) (base:=base) B (h16.M X G) D1 D11
 have D17:=aN5 (P:=l.prog) (w:=w) (base:=base) B (h17.M X G) D12 D2
 have D18:=aN7 (P:=l.prog) (w:=w) (base:=base) B (h18.M X G) D6 D13
 have D19:=aN8 (P:=l.prog) (w:=w) (base:=base) B (h19.M X G) D8 D14
 have D20:=aO0 (P:=l.prog) (w:=w) (base:=base) B (h20.M X G) D16 x_BadSet
 have D21:=aO1 (P:=l.prog) (w:=w) (base:=base) B (h21.M X G) D18
 have D22:=aO2 (P:=l.prog) (w:=w) (base:=base) B (h22.M X G) D4 D3 D17 D20
 have D23:=aO3 (P:=l.prog) (w:=w) (base:=base) B (h23.M X G) D18 D4 D20 D5
 have D24:=aO5 (P:=l.prog) (w:=w) (base:=base) B (h24.M X G) D2 D21
 have D25:=aO6 (P:=l.prog) (w:=w) (base:=base) B (h25.M X G) D21 D2 x_NoSuch
 have D26:=aO7 (P:=l.prog) (w:=w) (base:=base) B (h26.M X G) D22
 have D27:=aO8 (P:=l.prog) (w:=w) (base:=base) B (h27.M X G) D24 x_TooMany m_MOST_LINKS_TRIED
 have D28:=aO9 (P:=l.prog) (w:=w) (base:=base) B (h28.M X G) D13 D26 D7
 have D29:=aP0 (P:=l.prog) (w:=w) (base:=base) B (h29.M X G) D18 D24 D28 D23 D25 D27 cat_HearthError is_BadSet is_BadPrices is_NoSuch is_TooMany is_ValueError
 exact ax5 (aP1 B F30 D19 D15 D10 D8 D29)
theorem aP3 {l:OpenLaw}{q:Program}{loose:List Str}{XP:(Str->Option Value)->Heap->Prop}{YP:World->Heap->Prop}{d:DefRec}{K:Params->Frag} (hn:l.most=some 63) (hdf:d.params.defaults = [])
  (hY:∀ (w:World) (h:Heap),YP w h->(K w.params).In h)
  (F:∀ (w:World) (mg:Str->Option Value) (fa:Addr) (h:Heap),(K w.params).In h->h.Ns mainGlobals mg->mg d.name=some (.ref fa)->
   ∃ fd:FuncData,(∀ (s:Shared) (u:Value),BindsTo s fd ⟨[u],[]⟩ [("script",u)])/\∀ base:Heap,(K w.params).In base->base.Ns mainGlobals mg->bJ l.prog w (K w.params) mg base cU 9 fa fd ["script"] (qP (K w.params))) :
  WalkO q loose XP YP l.row.toRowW d [] (fun f vs=>PySem.call f vs):=
 L2.ag1 (n:=63) (k:=9) (x:="script") (CX:=fun _=>cU) (sp:=fun w=>qP (K w.params)) hn (by decide) hdf ⟨rfl,by decide,by decide⟩ hY F (fun _ _ a ns hl hO hS=>⟨a,ns,rfl,ax6 hO hS,hl,fun _=>rfl⟩) fun _ _ _ _ _ z=>z
end K_k69
open PySem PySem.W PyProof.Rows
theorem PySem.W.Fast.te13052408679150730464 : True := trivial
theorem PySem.W.Fast.te16555476440528808052 : True := trivial
theorem PySem.W.Fast.te5369427470323729400 : True := trivial
set_option maxRecDepth 100000 in
set_option maxHeartbeats 0 in
theorem PySem.Challenge.cw_kindleweb_k69_weights_refused_holds : PySem.Challenge.rw_kindleweb_k69_weights_refused.Holds := by
 w_on; o_law; k_head; (case hw => w_witness2)
 k_fill
 refine K_k69.aP3 (l := PySem.Challenge.rw_kindleweb_k69_weights_refused) rfl rfl (fun w h Y => PySem.W.kIn_of Y) ?F
 case F =>
  intro w mg fa h KX G hmg
  refine' K_k69.aP2 KX G hmg ?h0 ?h1 ?h2 ?h3 ?h4 ?h5 ?h6 ?h7 ?h8 ?h9 ?h10 ?h11 ?h12 ?h13 ?h14 ?h15 ?h16 ?h17 ?h18 ?h19 ?h20 ?h21 ?h22 ?h23 ?h24 ?h25 ?h26 ?h27 ?h28 ?h29 ?a30 ?l30 ?c30 ?k30 ?z_len ?z_range ?z_tuple ?z_list ?z_sorted ?z_all ?z_any ?z_zip ?z_min ?z_max ?z_sum ?z_isinstance ?z_int ?z_bool ?z_enumerate ?z_MOST_LINKS_TRIEDx ?aX_HE ?aX_BS ?aX_BP ?aX_NS ?aX_TM ?zX_BW ?zX_BO ?zX_BB ?zX_BD ?zX_NW ?zX_NP ?zX_NT ?zX_OR ?y_fg ?y_ft ?z_VE ?y1_HE ?y2_HE ?y3_HE ?y4_HE ?y5_HE ?y6_HE ?y7_HE ?y1_BS ?y2_BS ?y3_BS ?y4_BS ?y5_BS ?y6_BS ?y7_BS ?y1_BP ?y2_BP ?y3_BP ?y4_BP ?y5_BP ?y6_BP ?y7_BP ?y1_NS ?y2_NS ?y3_NS ?y4_NS ?y5_NS ?y6_NS ?y7_NS ?y1_TM ?y2_TM ?y3_TM ?y4_TM ?y5_TM ?y6_TM ?y7_TM ?sB_HE ?s_BS_HE ?s_BP_HE ?s_NS_HE ?s_TM_HE ?sN_BP ?s_BS_BP ?n_BS_BP ?s_NS_BP ?n_NS_BP ?s_TM_BP ?n_TM_BP ?sN_BS ?s_BP_BS ?n_BP_BS ?s_NS_BS ?n_NS_BS ?s_TM_BS ?n_TM_BS ?sN_NS ?s_BS_NS ?n_BS_NS ?s_BP_NS ?n_BP_NS ?s_TM_NS ?n_TM_NS ?sN_TM ?s_BS_TM ?n_BS_TM ?s_BP_TM ?n_BP_TM ?s_NS_TM ?n_NS_TM ?sV_BS ?sV_BP ?sV_NS ?sV_TM ?q_BP ?q_BS ?q_NS ?q_TM
  (case h0 | h1 | h2 | h3 | h4 | h5 | h6 | h7 | h8 | h9 | h10 | h11 | h12 | h13 | h14 | h15 | h16 | h17 | h18 | h19 | h20 | h21 | h22 | h23 | h24 | h25 | h26 | h27 | h28 | h29 => exact ⟨by k_is, ⟨⟨_, _, _, _, _, _, _, _, _, rfl, by k_is, by k_is⟩, by k_is⟩⟩)
  (case a30|l30|c30|k30|z_len|z_range|z_tuple|z_list|z_sorted|z_all|z_any|z_zip|z_min|z_max|z_sum|z_isinstance|z_int|z_bool|z_enumerate|z_MOST_LINKS_TRIEDx|aX_HE|aX_BS|aX_BP|aX_NS|aX_TM|zX_BW|zX_BO|zX_BB|zX_BD|zX_NW|zX_NP|zX_NT|zX_OR|y_fg|y_ft|z_VE|y1_HE|y2_HE|y3_HE|y4_HE|y5_HE|y6_HE|y7_HE|y1_BS|y2_BS|y3_BS|y4_BS|y5_BS|y6_BS|y7_BS|y1_BP|y2_BP|y3_BP|y4_BP|y5_BP|y6_BP|y7_BP|y1_NS|y2_NS|y3_NS|y4_NS|y5_NS|y6_NS|y7_NS|y1_TM|y2_TM|y3_TM|y4_TM|y5_TM|y6_TM|y7_TM|sB_HE|s_BS_HE|s_BP_HE|s_NS_HE|s_TM_HE|sN_BP|s_BS_BP => k_is)
  (case n_BS_BP => decide)
  (case s_NS_BP => k_is)
  (case n_NS_BP => decide)
  (case s_TM_BP => k_is)
  (case n_TM_BP => decide)
  (case sN_BS|s_BP_BS => k_is)
  (case n_BP_BS => decide)
  (case s_NS_BS => k_is)
  (case n_NS_BS => decide)
  (case s_TM_BS => k_is)
  (case n_TM_BS => decide)
  (case sN_NS|s_BS_NS => k_is)
  (case n_BS_NS => decide)
  (case s_BP_NS => k_is)
  (case n_BP_NS => decide)
  (case s_TM_NS => k_is)
  (case n_TM_NS => decide)
  (case sN_TM|s_BS_TM => k_is)
  (case n_BS_TM => decide)
  (case s_BP_TM => k_is)
  (case n_BP_TM => decide)
  (case s_NS_TM => k_is)
  (case n_NS_TM => decide)
  (case sV_BS|sV_BP|sV_NS|sV_TM => k_is)
  (case q_BP|q_BS|q_NS|q_TM => k_exc)


