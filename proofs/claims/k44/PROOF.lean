import PyProof.Rows.All
import Wide.All
import OpenK.AllK
import Wide.FinOn
import Lean
import PyProof.EqAt
import PyProof.EqKinds
import PyProof.TupleCall
import PyProof.NeKinds
import PyProof.Draws
import PyProof.ZipIter
import PyProof.DictUpdate
import PyProof.AutoSeq1
import PyProof.ListRange
import PyProof.ListMulRoad
import PyProof.FactsAll.tuple_2
import PyProof.Rows.SortShell
import PyProof.EnumFor
import PyProof.EnumMake
import PyProof.EnumStmt
import PyProof.Rows.SortWalk
import KE.KDictList
import PyProof.SumAny
import PyProof.ConsumeWalk
import PyProof.WalksMore
import PyProof.Rows.TupAssign
import PyProof.ExcArgsOwn
import PySem.Challenge.RW_kindleweb_k44_whole_orders_in_order
set_option Elab.async false
set_option linter.all false
set_option maxRecDepth 100000
set_option maxHeartbeats 4000000
section
open PySem PySem.Spec PyProof.Rows
def aU6:=@wpAny_bind
def aU7:=@Heap.get?_push_of_some
def aU8:=@List.size_toArray
def aU9:=@List.length_append
def aV0:=@Nat.le_refl
def aV1:=@List.length_map
def aV2:=@List.getElem?_eq_getElem
def aV3:=@List.getElem?_eq_some_iff
def aV4:=@wpAny_pure
def aV5:=@List.mem_cons
def aV6:=@List.mem_singleton
def aV7:=@List.getElem?_map
def aV8:=@Heap.get?_push_size
def aV9:=@List.mem_cons_self
def aW0:=@Heap.lt_size
def aW1:=@List.getD_eq_getElem?_getD
def aW2:=@Nat.lt_of_lt_of_le
def aW3:=@List.not_mem_nil
def aW4:=@decide_eq_false
def aW5:=@decide_eq_true
def aW6:=@List.mem_cons_of_mem
def aW7:=@Bool.and_eq_true
def aW8:=@List.mem_of_getElem?
def aW9:=@Bool.false_ne_true
def aX0:=@Bool.false_eq_true
def aX1:=@List.mem_append_right
def aX3:=@List.mem_append
def aX4:=@List.getElem?_set_ne
def aX6:=@Option.some.inj
def aX7:=@List.take_add_one
def aX8:=@List.map_append
def aX9:=@List.take_length
def aY1:=@List.pairwise_singleton
def aY2:=@List.getElem?_cons_succ
def aY4:=@List.append_nil
def aY5:=@Nat.ne_of_lt
def aY6:=@List.map_cons
def aY7:=@List.nodup_append
def aY8:=@Nat.le_trans
def aY9:=@List.length_cons
def aZ0:=@List.mem_append_left
def aZ1:=@List.length_singleton
def aZ2:=@Nat.zero_le
def aZ3:=@List.getElem?_set_self
def aZ5:=@or_false
def aZ6:=@List.mem_filter
def aZ7:=@PySem.mem_of_lookup
def aZ8:=@PyProof.Rows.callWith_type1
def aZ9:=@Nat.lt_irrefl
def ba1:=@List.length_set
def ba4:=@Nat.le_of_lt
def ba5:=@wpAny_field
def ba6:=@wpAny_callSpecial?_slot
def ba8:=@List.length_take
def ba9:=@wpAny_call_entry
def bb0:=@List.lookup_cons
def bb1:=@Nat.le_add_right
def bb2:=@if_false
def bb3:=@decide_eq_true_eq
def bb4:=@List.mem_map
def bb5:=@wpAny_setField_rec
def bb7:=@wpAny_newObj_type
def bb8:=@List.pairwise_map
def bb9:=@List.append_assoc
def bc0:=@List.getElem?_append_left
def bc1:=@wpAny_mono
def bc2:=@Nat.ne_of_gt
def bc3:=@List.take_of_length_le
def bc4:=@PySem.W.kia_one
def bc5:=@List.map_map
def bc6:=@List.getElem?_append_right
def bc7:=@Int.emod_nonneg
def bc8:=@beq_self_eq_true
def bc9:=@List.filter_eq_nil_iff
def bd2:=@Int.toNat_natCast
def bd3:=@List.length_filter_le
def bd4:=@Bool.eq_iff_iff
def bd5:=@List.find?_cons
def bd6:=@of_decide_eq_false
def bd8:=@List.all_eq_true
def bd9:=@wpAny_holding
def be2:=@Heap.size_push
def be3:=@List.length_range
def be4:=@Array.length_toList
def be5:=@PyProof.Rows.slot_tuple_getitem
def be7:=@wpAny_pyIter_tuple
def be8:=@List.length_drop
def be9:=@List.pairwise_cons
def bf0:=@Int.emod_lt_of_pos
def bf4:=@List.pairwise_append
def bf6:=@wpAny_truthy_bool
def bf7:=@Bool.eq_false_iff
def bf8:=@of_decide_eq_true
def bf9:=@Array.getD_eq_getD_getElem?
def bg0:=@List.all_cons
def bg2:=@List.mem_range
def bg4:=@List.zip_cons_cons
def bg6:=@wpAny_seqItems
def bg8:=@PySem.F.excBase_ValueError
def bg9:=@wpAny_passesOwn
def bh3:=@List.getElem?_of_mem
def bh4:=@True.intro
def bh5:=@List.Perm.refl
def bh6:=@List.take_zero
end
namespace L2
open PySem PySem.Spec PyProof.Rows
abbrev aB:=Sum Int Str
def l6:aB->Value->Bool
 | .inl k,v=>Value.isInt k v
 | .inr x,v=>Value.isStrOf x v
def aa0 (w:World):aB->Int
 | .inl k=>hashInt k
 | .inr x=>hashStr w x
theorem i3:∀ {k:aB}{v:Value},l6 k v=true->(∃ i t,k=Sum.inl i/\v=Value.int i t) ∨ (∃ x t,k=Sum.inr x/\v=Value.str x t)
 | .inl i,v,h=>by
  obtain ⟨t,e⟩:=Value.isInt_shape (k:=i) (v:=v) h
  exact .inl ⟨i,t,rfl,e⟩
 | .inr x,v,h=>by
  obtain ⟨t,e⟩:=Value.isStrOf_shape (x:=x) (v:=v) h
  exact .inr ⟨x,t,rfl,e⟩
theorem aa1 (i:Int) (t:Tok):l6 (.inl i) (.int i t)=true:=by simp [l6,Value.isInt]
theorem aa2 (x:Str) (t:Tok):l6 (.inr x) (.str x t)=true:=by simp [l6,Value.isStrOf]
theorem aa3 (a b:Int):decide ((Sum.inl a:aB)=Sum.inl b)=(a == b):=by
 by_cases e:a=b
 ·subst e; simp
 ·have h : ¬ (Sum.inl a:aB)=Sum.inl b:=fun q=>e (Sum.inl.inj q)
  rw [aW4 h]
  exact (beq_eq_false_iff_ne.mpr e).symm
theorem aa4 (a b:Str):decide ((Sum.inr a:aB)=Sum.inr b)=decide (a=b):=by
 by_cases e:a=b
 ·subst e; simp
 ·have h : ¬ (Sum.inr a:aB)=Sum.inr b:=fun q=>e (Sum.inr.inj q)
  rw [aW4 h,aW4 e]
theorem aa5 (a:Int) (b:Str):decide ((Sum.inl a:aB)=Sum.inr b)=false:=aW4 (fun q=>nomatch q)
theorem aa6 (a:Str) (b:Int):decide ((Sum.inr a:aB)=Sum.inl b)=false:=aW4 (fun q=>nomatch q)
def e9 (prog:Program) (w:World):PySem.KeyKind prog w aB where
 is:=l6
 hash:=aa0 w
 inj:=fun v a b ha hb=>by
  rcases i3 ha with ⟨i,t,rfl,rfl⟩ | ⟨x,t,rfl,rfl⟩
  ·rcases i3 hb with ⟨j,u,rfl,e⟩ | ⟨y,u,rfl,e⟩
   ·injection e with e1 _; rw [e1]
   ·exact nomatch e
  ·rcases i3 hb with ⟨j,u,rfl,e⟩ | ⟨y,u,rfl,e⟩
   ·exact nomatch e
   ·injection e with e1 _; rw [e1]
 byValue:=fun k v h=>by
  rcases i3 h with ⟨i,t,rfl,rfl⟩ | ⟨x,t,rfl,rfl⟩ <;> rfl
 pyHash:=fun hv h=>by
  rcases i3 hv with ⟨i,t,rfl,rfl⟩ | ⟨x,t,rfl,rfl⟩
  ·exact wpAny_pyHash_int h
  ·exact wpAny_pyHash_str h
 eqBool:=fun hu hv h=>by
  rcases i3 hu with ⟨i,t,rfl,rfl⟩ | ⟨x,t,rfl,rfl⟩
  ·rcases i3 hv with ⟨j,u,rfl,rfl⟩ | ⟨y,u,rfl,rfl⟩
   ·rw [aa3] at h; exact wpAny_eqBool_int h
   ·rw [aa5] at h; exact SeqAt.EqAt.int_str i t y u _ _ _ _ h
  ·rcases i3 hv with ⟨j,u,rfl,rfl⟩ | ⟨y,u,rfl,rfl⟩
   ·rw [aa6] at h; exact SeqAt.EqAt.str_int x t j u _ _ _ _ h
   ·rw [aa4] at h; exact wpAny_eqBool_str h
 «strs»:=fun k x t v h=>by
  rcases i3 h with ⟨i,u,rfl,e⟩ | ⟨y,u,rfl,e⟩
  ·exact nomatch e
  ·injection e with e1 _
   subst e1
   cases v <;> rfl
theorem aa7 (prog:Program) (w:World) (i:Int) (t:Tok):(e9 prog w).is (.inl i) (.int i t)=true:=aa1 i t
theorem aa8 (prog:Program) (w:World) (x:Str) (t:Tok):(e9 prog w).is (.inr x) (.str x t)=true:=aa2 x t
inductive V where
 | non | bl (b:Bool) | int (i:Int) | str (x:Str) | byt (b:Array UInt8) | flt (b:UInt64) | ref (a:Addr) | ty (n:String)
 deriving DecidableEq
def aR:V->Value->Prop
 | .non,u=>u=Value.none
 | .bl b,u=>u=Value.bool b
 | .int i,u=>∃ t,u=Value.int i t
 | .str x,u=>∃ t,u=Value.str x t
 | .byt b,u=>∃ t,u=Value.bytes b t
 | .flt b,u=>∃ t,u=Value.float b t
 | .ref a,u=>u=Value.ref a
 | .ty n,u=>u=Value.type n
abbrev aN:List V->List Value->Prop:=Paired aR
theorem aN.length {xs:List V}{us:List Value} (r:aN xs us):xs.length=us.length:=Paired.length r
theorem aN.get:∀ {xs:List V}{us:List Value}{i:Nat}{x:V},aN xs us->xs[i]? = some x->∃ u,us[i]? = some u/\aR x u
 | _,_,_,_,.nil,e=>by simp at e
 | _,_,0,_,.cons r _,e=>by simp at e; subst e; exact⟨_,rfl,r⟩
 | _,_,i+1,x,.cons _ t,e=>by
  obtain ⟨u,h1,h2⟩:=aN.get (i:=i) (x:=x) t (by simpa using e)
  exact⟨u,by simpa using h1,h2⟩
theorem aN.set {x:V}{u:Value} (r:aR x u):∀ {xs:List V}{us:List Value} (i:Nat),aN xs us->aN (xs.set i x) (us.set i u)
 | _,_,_,.nil=>.nil
 | _,_,0,.cons _ t=>.cons r t
 | _,_,i+1,.cons q t=>.cons q (aN.set r i t)
theorem aN.append:∀ {xs ys:List V}{us ws:List Value},aN xs us->aN ys ws->aN (xs ++ ys) (us ++ ws)
 | _,_,_,_,.nil,s=>s
 | _,_,_,_,.cons r t,s=>.cons r (aN.append t s)
theorem aN.take:∀ {xs:List V}{us:List Value} (n:Nat),aN xs us->aN (xs.take n) (us.take n)
 | _,_,0,_=>.nil
 | _,_,_+1,.nil=>.nil
 | _,_,n+1,.cons r t=>.cons r (aN.take n t)
theorem aN.drop:∀ {xs:List V}{us:List Value} (n:Nat),aN xs us->aN (xs.drop n) (us.drop n)
 | _,_,0,r=>r
 | _,_,_+1,.nil=>.nil
 | _,_,n+1,.cons _ t=>aN.drop n t
def gU:Option V->Option Value->Prop
 | some v,some u=>aR v u
 | none,none=>True
 | _,_=>False
def KV {κ:Type}:List (κ × V)->List (κ × Value)->Prop:=Paired fun (p:κ × V) (q:κ × Value)=>p.1=q.1/\aR p.2 q.2
def kV:aB->V
 | .inl i=>.int i
 | .inr x=>.str x
inductive HO where
 | lst (xs:List V)
 | tup (xs:List V)
 | dK (kvs:List (aB × V)) | dT (kvs:List (List aB × V))
 | set (S:Int->Bool) (n:Nat)
 | ins (C dx:Addr) (fs:List (Str × V))
 | own (x:Addr)
 | xd (fs:List (Str × V))
 | met (f x:Addr)
 | rng (lo hi:Int)
 | frz (o:Obj) (u:HO)
 | tbl (ps:Array Value)
 | ext (φ:Heap->Prop)
abbrev Hp:=Addr->Option HO
def upd (H:Hp) (a:Addr) (o:HO):Hp:=fun b=>if b=a then some o else H b
theorem b8 {H:Hp}{a:Addr}{o:HO}:upd H a o a=some o:=by unfold upd; rw [if_pos rfl]
theorem aH {H:Hp}{a b:Addr}{o:HO} (h:b ≠ a):upd H a o b=H b:=by unfold upd; rw [if_neg h]
theorem xE {H:Hp}{a b:Addr}{o u:HO} (h:H a=some o) (h':H b=some u) (d:o ≠ u):a ≠ b:=by
 intro e; subst e; rw [h] at h'; exact d (aX6 h')
theorem cA {H:Hp}{a b:Addr}{o:HO} (h:H a=some o) (h':H b=none):a ≠ b:=by
 intro e; subst e; rw [h] at h'; cases h'
section
variable (P : Program) (w : World)
def bK (H:Hp) (h:Heap) (a:Addr):HO->Prop
 | .lst xs=>xs.length<=sizeLine/\∃ (its:List Value) (n:Nat),aN xs its/\h.get? a=some { cls:=.type "list",data:=.seq its.toArray n }
 | .tup xs=>xs.length<=sizeLine/\∃ its:List Value,aN xs its/\IsTup h a its.toArray
 | .dK kvs=>kvs.length<=sizeLine/\(a == sysModules)=false/\∃ vs,KV kvs vs/\h.DictOf (e9 P w) a vs
 | .dT kvs=>kvs.length<=sizeLine/\(a == sysModules)=false/\∃ xs:List (List aB × Addr × Value),
   Paired (fun (p:List aB × V) (q:List aB × Addr × Value)=>p.1=q.1/\H q.2.1=some (.tup (p.1.map kV))/\aR p.2 q.2.2) kvs xs/\
   ∃ o es ep,h.get? a=some o/\o.ExactDict/\o.data = .dict es ep/\es.toList=xs.map (entryOfKey (tupleKind (e9 P w)))/\(xs.map (·.1)).Nodup
 | .set S n=>h.SetOf (intKind P w) a S n
 | .ins C dx fs=>H dx=some (.own a)/\fs.length<=1000/\dx ≠ a/\h.get? a=some (PySem.W.instObj C dx)/\
   ∃ mA,h.Ns1 dx mA/\(∀ f,gU (fs.lookup f) (mA f))/\PySem.Within mA (fs.map (·.1))
 | .own _=>∃ o,h.get? a=some o
 | .xd fs=>∃ mA,h.Ns1 a mA/\∀ f,gU (fs.lookup f) (mA f)
 | .rng lo hi=>∃ t u v,h.get? a=some { cls:=.type "range",data:=.fields #[.int lo t,.int hi u,.int 1 v] }
 | .frz o u=>h.get? a=some o/\bK H h a u
 | .tbl ps=>h.get? a=some { cls:=.none,data:=.fields ps }
 | .met f x=>h.get? a=some (PySem.W.methodObj (.ref f) (.ref x))
 | .ext φ=>φ h/\(∃ o,h.get? a=some o)/\∀ h1 h2:Heap,φ h1->(∀ o,h1.get? a=some o->h2.get? a=some o)->φ h2
def bR (H:Hp) (h:Heap):Prop:=∀ a o,H a=some o->bK P w H h a o
end
section
variable {P : Program} {w : World} {H H' : Hp} {h h' : Heap} {a : Addr} {o : HO}
theorem bK.lt (x:bK P w H h a o):a < h.objs.size:=by
 cases o with
 | lst xs=>obtain ⟨_,_,_,_,e⟩:=x; exact aW0 e
 | tup xs=>obtain ⟨_,_,_,p⟩:=x; exact p.lt
 | dK kvs=>obtain ⟨_,_,_,_,o,_,_,e,_⟩:=x; exact aW0 e
 | dT kvs=>obtain ⟨_,_,_,_,o,_,_,e,_⟩:=x; exact aW0 e
 | set S n=>obtain ⟨o,_,_,_,e,_⟩:=x; exact aW0 e
 | ins C dx fs=>obtain ⟨_,_,_,e,_⟩:=x; exact aW0 e
 | own y=>obtain ⟨_,e⟩:=x; exact aW0 e
 | xd fs=>obtain ⟨_,⟨_,_,_,e,_⟩,_⟩:=x; exact aW0 e
 | rng lo hi=>obtain ⟨_,_,_,e⟩:=x; exact aW0 e
 | frz ob u=>obtain ⟨e,_⟩:=x; exact aW0 e
 | tbl ps=>exact aW0 (show h.get? a=some _ from x)
 | met f y=>exact aW0 (show h.get? a=some _ from x)
 | ext φ=>obtain ⟨_,⟨_,e⟩,_⟩:=x; exact aW0 e
theorem Paired.mapP {α β:Type}{F G:α->β->Prop}:∀ {l₁:List α}{l₂:List β},Paired F l₁ l₂->(∀ a b,F a b->G a b)->Paired G l₁ l₂
 | _,_,.nil,_=>.nil
 | _,_,.cons r t,f=>.cons (f _ _ r) (Paired.mapP t f)
theorem bK.stay (x:bK P w H h a o) (k:∀ b u,(b=a ∨ H b=some (.own a))->h.get? b=some u->h'.get? b=some u)
  (ho:∀ b,H b=some (.own a)->H' b=some (.own a)) (ht:∀ b xs,H b=some (.tup xs)->H' b=some (.tup xs)):bK P w H' h' a o:=by
 induction o with
 | lst xs=>obtain ⟨z,its,n,r,e⟩:=x; exact⟨z,its,n,r,k _ _ (.inl rfl) e⟩
 | tup xs=>obtain ⟨z,its,r,ob,e,c⟩:=x; exact⟨z,its,r,ob,k _ _ (.inl rfl) e,c⟩
 | dK kvs=>obtain ⟨z,y,vs,r,ob,es,ep,e,c⟩:=x; exact⟨z,y,vs,r,ob,es,ep,k _ _ (.inl rfl) e,c⟩
 | dT kvs=>
  obtain ⟨z,y,xs,r,ob,es,ep,e,c⟩:=x
  exact⟨z,y,xs,Paired.mapP r fun p q z=>⟨z.1,ht _ _ z.2.1,z.2.2⟩,ob,es,ep,k _ _ (.inl rfl) e,c⟩
 | set S n=>obtain ⟨ob,es,ep,t,e,c⟩:=x; exact⟨ob,es,ep,t,k _ _ (.inl rfl) e,c⟩
 | ins C dx fs=>
  obtain ⟨d,z,ne,e,mA,⟨od,es,ep,e2,c⟩,r⟩:=x
  exact⟨ho _ d,z,ne,k _ _ (.inl rfl) e,mA,⟨od,es,ep,k _ _ (.inr d) e2,c⟩,r⟩
 | own y=>obtain ⟨ob,e⟩:=x; exact⟨ob,k _ _ (.inl rfl) e⟩
 | xd fs=>obtain ⟨mA,⟨od,es,ep,e,c⟩,r⟩:=x; exact⟨mA,⟨od,es,ep,k _ _ (.inl rfl) e,c⟩,r⟩
 | rng lo hi=>obtain ⟨t,u,v,e⟩:=x; exact⟨t,u,v,k _ _ (.inl rfl) e⟩
 | frz ob u ih=>obtain ⟨e,q⟩:=x; exact⟨k _ _ (.inl rfl) e,ih q⟩
 | tbl ps=>
  have e:h.get? a=some { cls:=.none,data:=.fields ps }:=x
  show h'.get? a=some { cls:=.none,data:=.fields ps }
  exact k a _ (.inl rfl) e
 | met f y=>
  have e:h.get? a=some (PySem.W.methodObj (.ref f) (.ref y)):=x
  show h'.get? a=some (PySem.W.methodObj (.ref f) (.ref y))
  exact k a _ (.inl rfl) e
 | ext φ=>obtain ⟨p,⟨o,e⟩,st⟩:=x; exact⟨st _ _ p fun o q=>k _ _ (.inl rfl) q,⟨o,k _ _ (.inl rfl) e⟩,st⟩
theorem bR.lt (x:bR P w H h) (e:H a=some o):a < h.objs.size:=(x a o e).lt
theorem bR.fresh (x:bR P w H h) (e:h.objs.size<=a):H a=none:=by
 cases q:H a with
 | none=>rfl
 | some u=>exact absurd (aW2 (x.lt q) e) (aZ9 _)
theorem bR.kept (x:bR P w H h) (k:∀ b u,h.get? b=some u->h'.get? b=some u):bR P w H h':=fun a o e=>
 (x a o e).stay (fun b u _ q=>k b u q) (fun _ q=>q) fun _ _ q=>q
theorem bR.laid (x:bR P w H h) (k:∀ b u,h.get? b=some u->h'.get? b=some u) (hp:h.objs.size<=a) (new:bK P w (upd H a o) h' a o):bR P w (upd H a o) h':=fun b u e=>by
 have hn:=x.fresh hp
 by_cases hb:b=a
 ·subst hb; rw [b8] at e; cases e; exact new
 ·rw [aH hb] at e
  exact (x b u e).stay (fun c v _ q=>k c v q) (fun c q=>by rw [aH (cA q hn)]; exact q) fun c xs q=>by rw [aH (cA q hn)]; exact q
end
def Rd (H:Hp) (a:Addr) (u:HO):Prop:=H a=some u ∨ ∃ o,H a=some (.frz o u)
theorem Rd.ok {P:Program}{w:World}{H:Hp}{h:Heap}{a:Addr}{u:HO} (r:Rd H a u) (x:bR P w H h):bK P w H h a u:=by
 rcases r with r | ⟨o,r⟩
 ·exact x a u r
 ·obtain ⟨_,q⟩:=x a _ r
  exact q
def mM:Option HO->Prop
 | some (.lst _)=>True
 | some (.dK _)=>True
 | some (.dT _)=>True
 | some (.set _ _)=>True
 | some (.ins _ _ _)=>True
 | some (.ext _)=>True
 | _=>False
section
variable {P : Program} {w : World} {H : Hp} {h h' : Heap} {x e : Addr} {o' : HO}
theorem bR.write (ok:bR P w H h) (mu:mM (H x)) (he:e=x ∨ H e=some (.own x)) (k:∀ b u,b ≠ e->h.get? b=some u->h'.get? b=some u) (heo:∃ u,h'.get? e=some u)
  (new:bK P w (upd H x o') h' x o'):bR P w (upd H x o') h':=fun b u q=>by
 have nown:∀ c y,H c=some (.own y)->c ≠ x:=fun c y r z=>by subst z; rw [r] at mu; exact mu
 have ntup:∀ c xs,H c=some (.tup xs)->c ≠ x:=fun c xs r z=>by subst z; rw [r] at mu; exact mu
 by_cases hb:b=x
 ·subst hb; rw [b8] at q; cases q; exact new
 ·rw [aH hb] at q
  by_cases hbe:b=e
  ·have q':H b=some (.own x):=by
    rcases he with z | z
    ·exact absurd (hbe.trans z) hb
    ·rw [hbe]; exact z
   rw [q] at q'; cases q'
   obtain ⟨v,hv⟩:=heo
   exact⟨v,by rw [hbe]; exact hv⟩
  ·refine (ok b u q).stay (fun c v hc r=>k c v ?_ r) (fun c r=>by rw [aH (nown c b r)]; exact r) fun c xs r=>by rw [aH (ntup c xs r)]; exact r
   rcases hc with rfl | hc
   ·exact hbe
   ·rintro rfl
    rcases he with z | z
    ·exact nown c b hc z
    ·rw [hc] at z; cases z; exact hb rfl
end
structure Un (fs ex:List Addr) (H H':Hp) (h h':Heap):Prop where
 keep:∀ b o,h.get? b=some o->H b=none->b ∉ fs->b ∉ ex->h'.get? b=some o
 slot:∀ b o,h.get? b=some o->H b=none->b ∈ fs->b ∉ ex->∃ sl,h'.get? b=some { o with slots:=sl }
 free:∀ b o,h.get? b=some o->H b=none->b ∉ ex->H' b=none
 there:∀ b o,h.get? b=some o->b ∉ ex->∃ o',h'.get? b=some o'
 tups:∀ b xs,H b=some (.tup xs)->H' b=some (.tup xs)
 frzs:∀ b o u,H b=some (.frz o u)->H' b=some (.frz o u)
 tbls:∀ b ps,H b=some (.tbl ps)->∃ more,H' b=some (.tbl (ps ++ more))
section
variable {fs fs' ex ex' : List Addr} {H H1 H2 : Hp} {h h1 h2 h' : Heap} {a x e : Addr} {o : HO}
theorem Un.any (u:Un fs ex H H1 h h1) {b:Addr}{ob:Obj} (q:h.get? b=some ob) (n:H b=none) (hx:b ∉ ex):∃ sl,h1.get? b=some { ob with slots:=sl }:=by
 by_cases hb:b ∈ fs
 ·exact u.slot b ob q n hb hx
 ·exact⟨ob.slots,u.keep b ob q n hb hx⟩
theorem Un.kept (k:∀ b u,h.get? b=some u->h'.get? b=some u):Un fs ex H H h h':=
 ⟨fun b ob q _ _ _=>k b ob q,fun b ob q _ _ _=>⟨ob.slots,k b ob q⟩,fun _ _ _ n _=>n,fun b ob q _=>⟨ob,k b ob q⟩,fun _ _ q=>q,fun _ _ _ q=>q,fun _ ps q=>⟨#[],by rw [q]; simp⟩⟩
theorem Un.refl:Un fs ex H H h h:=Un.kept fun _ _ q=>q
theorem Un.laid (k:∀ b u,h.get? b=some u->h'.get? b=some u) (hp:h.objs.size<=a) (hn:H a=none):Un fs ex H (upd H a o) h h' where
 keep:=fun b u q _ _ _=>k b u q
 slot:=fun b u q _ _ _=>⟨u.slots,k b u q⟩
 free:=fun b u q n _=>by rw [aH (aY5 (aW2 (aW0 q) hp))]; exact n
 there:=fun b u q _=>⟨u,k b u q⟩
 tups:=fun b xs q=>by rw [aH (cA q hn)]; exact q
 frzs:=fun b u xs q=>by rw [aH (cA q hn)]; exact q
 tbls:=fun b ps q=>⟨#[],by rw [aH (cA q hn),q]; simp⟩
theorem Un.write (mu:mM (H x)) (he:e=x ∨ H e=some (.own x)) (k:∀ b u,b ≠ e->h.get? b=some u->h'.get? b=some u) (heo:∃ u,h'.get? e=some u):Un fs ex H (upd H x o) h h':=by
 have hx:∀ b,H b=none->b ≠ x:=fun b n z=>by subst z; rw [n] at mu; exact mu
 have hb:∀ b,H b=none->b ≠ e:=fun b n z=>by
  subst z
  rcases he with r | r
  ·exact hx b n r
  ·rw [n] at r; cases r
 have hm:∀ b u,H b=some u->¬ mM (some u)->b ≠ x:=fun b u q nm z=>by subst z; rw [q] at mu; exact nm mu
 refine⟨fun b u q n _ _=>k b u (hb b n) q,fun b u q n _ _=>⟨u.slots,k b u (hb b n) q⟩,fun b u q n _=>by rw [aH (hx b n)]; exact n,fun b u q _=>?_,
  fun b xs q=>by rw [aH (hm b _ q fun z=>z)]; exact q,fun b u xs q=>by rw [aH (hm b _ q fun z=>z)]; exact q,fun b ps q=>⟨#[],by rw [aH (hm b _ q fun z=>z),q]; simp⟩⟩
 by_cases hbe:b=e
 ·subst hbe; exact heo
 ·exact⟨u,k b u hbe q⟩
end
def oU (h:Heap) (H:Hp):List Addr:=(List.range h.objs.size).filter fun a=>(H a).isSome
def iP (h:Heap) (H:Hp):Heap:=PySem.W.hideAll h (oU h H)
theorem aa9 (h:Heap) (H:Hp):(iP h H).objs.size=h.objs.size:=PySem.W.hideAll_size _ _
theorem ab0 {h:Heap}{H:Hp}{b:Addr}{o:Obj} (e:h.get? b=some o) (n:H b=none):(iP h H).get? b=some o:=
 PySem.W.hideAll_get _ e fun hm=>by
  have q:(H b).isSome=true:=(aZ6.mp hm).2
  rw [n] at q; simp at q
theorem ab1 {h:Heap}{H:Hp}{b:Addr}{o:Obj} (e:(iP h H).get? b=some o):h.get? b=some o/\H b=none:=by
 have e':h.get? b=some o:=PySem.W.of_hideAll (oU h H) e
 refine⟨e',?_⟩
 cases q:H b with
 | none=>rfl
 | some x=>
  have hm:b ∈ oU h H:=aZ6.mpr ⟨bg2.mpr (aW0 e'),by simp [q]⟩
  have z:(iP h H).get? b=none:=PySem.W.hideAll_none (oU h H) hm
  rw [z] at e; cases e
def mO (g h:Heap) (L:Addr):List (Addr × Obj):=(List.range h.objs.size).filterMap fun a=>if a=L ∨ (g.get? a).isSome=true then none else (h.get? a).map fun o=>(a,o)
theorem xF {g h:Heap}{L a:Addr}{o:Obj} (h1:a ≠ L) (h2:g.get? a=none) (h3:h.get? a=some o):(a,o) ∈ mO g h L:=
 List.mem_filterMap.mpr ⟨a,bg2.mpr (aW0 h3),by simp [h1,h2,h3]⟩
theorem ab2 {g h:Heap}{L:Addr}{p:Addr × Obj} (hp:p ∈ mO g h L):p.1 ≠ L/\g.get? p.1=none/\h.get? p.1=some p.2:=by
 obtain ⟨b,_,e⟩:=List.mem_filterMap.mp hp
 split at e
 ·cases e
 ·rename_i hn
  cases q:h.get? b with
  | none=>rw [q] at e; simp at e
  | some u=>
   rw [q] at e
   simp only [Option.map_some,Option.some.injEq] at e
   subst e
   refine⟨fun z=>hn (.inl z),?_,q⟩
   show g.get? b=none
   cases r:g.get? b with
   | none=>rfl
   | some v=>exact (hn (.inr (by simp [r]))).elim
def cX (g h:Heap) (L d:Addr):List (Addr × Obj):=(mO g h L).filter fun p=>decide (p.1 ≠ d)
theorem ab3 {g h:Heap}{L:Addr}:News g L h (mO g h L):=fun p hp=>let ⟨a,b,c⟩:=ab2 hp; ⟨c,a,b⟩
structure Mod (K:PySem.W.Frag) (mg:Str->Option Value) (base:Heap):Prop where
 kin:K.In base
 glob:base.Ns mainGlobals mg
 blt:∃ mb,base.Ns builtinsNs mb/\∀ x:Str,x ≠ "__name__"->mb x=bootBuiltins x
 nolimit:base.NoLimit
structure Cx where
 prog:Program
 w:World
 K:PySem.W.Frag
 mg:Str->Option Value
 base:Heap
 A:Around
 N:List Str
 s₀:Shared
 H₀:Hp
 env:Env
 outer:List Env
 stack:List Env
 ex:List Addr
 fn:Str->Bool
 calm:Bool
 pn:List (Addr × Obj)
 xe:Value->Shared->Prop
def bZ (l:List Env):List Addr:=l.filterMap (·.frame)
abbrev Cx.fs (X:Cx):List Addr:=bZ X.outer
def fM (sc:Scope) (x:Str):Prop:=sc.names.lookup x=some .local ∨ sc.names.lookup x=some .cell ∨ sc.names.lookup x=some .free
def gV (sc:Scope) (x:Str):Prop:=sc.names.lookup x=some .local ∨ sc.names.lookup x=some .cell
def ab4 (env:Env) (h:Heap) (m:Str->Option Value) (x:Str) (u:Value):Prop:=
 (env.kindOf x=some .local/\m x=some u) ∨ ((env.kindOf x=some .cell ∨ env.kindOf x=some .free)/\∃ c,env.cells.lookup x=some c/\h.IsCell c (some u))
structure Cx.Ok (X:Cx):Prop where
 mod:Mod X.K X.mg X.base
 kind:X.env.scope.kind = .function
 glob:X.env.globals=mainGlobals
 blt:X.env.builtins=builtinsNs
 above:X.s₀.heap.objs.size<=X.env.locals
 inj:∀ x y c,X.env.cells.lookup x=some c->X.env.cells.lookup y=some c->x=y
 has:∀ x,(X.env.kindOf x=some .cell ∨ X.env.kindOf x=some .free)->∃ c,X.env.cells.lookup x=some c
 cab:∀ x c,X.fn x=true->X.env.cells.lookup x=some c->X.s₀.heap.objs.size<=c
 hd:X.calm=true->X.A.handled=none
 frames:X.A.frames=some X.stack
 stk:X.stack=X.outer ∨ (X.stack=X.env :: X.outer/\X.env.frame=some X.env.locals)
 exf:∀ b ∈ X.ex,b ≠ X.env.locals/\∀ x c,X.env.cells.lookup x=some c->c ≠ b
 bs:∀ b o,X.base.get? b=some o->X.s₀.heap.get? b=some o/\X.H₀ b=none
 bsz:X.base.objs.size<=X.s₀.heap.objs.size
 noex:∀ b o,X.base.get? b=some o->b ∉ X.ex
 exfs:∀ b ∈ X.ex,b ∉ X.fs
 funs:X.s₀.heap.FunFrames X.base X.outer
 frf:∀ b ∈ X.fs,X.H₀ b=none
structure a7 (X:Cx) (pins:List (Addr × Obj)) (σ:List (Option V)) (H:Hp) (s:Shared):Prop where
 ok:X.Ok
 os:s.os=X.s₀.os
 bare:AllBare s.gens
 base:Un X.fs X.ex X.H₀ H X.s₀.heap s.heap
 loc:∃ m,s.heap.Ns X.env.locals m/\∀ (i:Nat) (x:Str) (v:V),X.N[i]? = some x->σ[i]? = some (some v)->fM X.env.scope x->∃ u,aR v u/\ab4 X.env s.heap m x u
 cell:∀ x c,X.env.cells.lookup x=some c->∃ v,s.heap.IsCell c v
 free:H X.env.locals=none
 freeC:∀ x c,X.env.cells.lookup x=some c->H c=none
 pin:∀ p ∈ X.pn ++ pins,s.heap.get? p.1=some p.2/\H p.1=none/\p.1 ≠ X.env.locals/\p.1 ∉ X.fs/\∀ v,p.2.data ≠ .cell v
 hok:bR X.prog X.w H s.heap
 len:σ.length=X.N.length
section
variable {X : Cx} {pins : List (Addr × Obj)} {σ : List (Option V)} {H H' : Hp} {s : Shared} {h' : Heap}
theorem Cx.Ok.nofr (ok:X.Ok) {b:Addr}{o:Obj} (e:X.base.get? b=some o):b ∉ X.fs:=fun hb=>by
 have:=(ok.funs.mem hb).1
 rw [e] at this; cases this
theorem a7.bs (I:a7 X pins σ H s):∀ b o,X.base.get? b=some o->s.heap.get? b=some o/\H b=none:=fun b o e=>
 ⟨I.base.keep b o (I.ok.bs b o e).1 (I.ok.bs b o e).2 (I.ok.nofr e) (I.ok.noex b o e),I.base.free b o (I.ok.bs b o e).1 (I.ok.bs b o e).2 (I.ok.noex b o e)⟩
theorem a7.bk (I:a7 X pins σ H s):∀ b o,X.base.get? b=some o->s.heap.get? b=some o:=fun b o e=>(I.bs b o e).1
theorem a7.mod (I:a7 X pins σ H s):Mod X.K X.mg X.base:=I.ok.mod
theorem a7.kIn (I:a7 X pins σ H s):X.K.In s.heap:=I.ok.mod.kin.keeps I.bk
theorem a7.fr (I:a7 X pins σ H s):∃ m,Fr X.base X.env.locals s.heap m:=
 let ⟨m,hn,_⟩:=I.loc
 ⟨m,hn,I.bk,aY8 I.ok.bsz I.ok.above⟩
theorem a7.lt (I:a7 X pins σ H s):X.env.locals < s.heap.objs.size:=let ⟨_,hn,_⟩:=I.loc; hn.lt
theorem a7.sz (I:a7 X pins σ H s):X.s₀.heap.objs.size<=s.heap.objs.size:=aY8 I.ok.above (ba4 I.lt)
theorem a7.nofs (I:a7 X pins σ H s) {a:Addr} (h:s.heap.objs.size<=a):a ∉ X.fs:=fun hb=>by
 obtain ⟨_,o,ho,_⟩:=I.ok.funs.mem hb
 exact absurd (aW2 (aW0 ho) (aY8 I.sz h)) (aZ9 _)
theorem a7.cne (I:a7 X pins σ H s):∀ x c,X.env.cells.lookup x=some c->c ≠ X.env.locals:=fun x c e z=>by
 obtain ⟨v,o,ho,hd⟩:=I.cell x c e
 obtain ⟨m,⟨o',es,ep,ho',hd',_⟩,_⟩:=I.loc
 rw [z,ho'] at ho; cases ho; rw [hd'] at hd; cases hd
theorem a7.funs (I:a7 X pins σ H s):s.heap.FunFrames X.base X.outer:=by
 have all:∀ (l:List Env),(∀ b ∈ bZ l,b ∈ X.fs)->X.s₀.heap.FunFrames X.base l->s.heap.FunFrames X.base l:=by
  intro l
  induction l with
  | nil=>intro _ _; trivial
  | cons env r ih=>
   intro hs hl
   obtain ⟨hk,⟨L,o,hf,hn,ho,hd⟩,hr⟩:=hl
   have hL:L ∈ X.fs:=hs L (by unfold bZ; rw [List.filterMap_cons,hf]; exact aV9)
   obtain ⟨sl,e⟩:=I.base.slot L o ho (I.ok.frf L hL) hL fun z=>I.ok.exfs L z hL
   exact⟨hk,⟨L,_,hf,hn,e,hd⟩,ih (fun b hb=>hs b (by unfold bZ; rw [List.filterMap_cons,hf]; exact aW6 _ hb)) hr⟩
 exact all X.outer (fun _ hb=>hb) I.ok.funs
theorem a7.stack (I:a7 X pins σ H s):s.heap.FunFrames X.base X.stack:=by
 rcases I.ok.stk with e | ⟨e,hf⟩
 ·rw [e]; exact I.funs
 ·rw [e]
  obtain ⟨m,hn,_⟩:=I.loc
  refine .cons (by rw [I.ok.kind]; decide) hf hn ?_ I.funs
  exact Heap.get?_none_of_le (aY8 I.ok.bsz I.ok.above)
theorem a7.stkSub (I:a7 X pins σ H s):∀ b ∈ bZ X.stack,b ∈ X.env.locals :: X.fs:=fun b hb=>by
 rcases I.ok.stk with e | ⟨e,hf⟩
 ·rw [e] at hb; exact aW6 _ hb
 ·rw [e] at hb
  unfold bZ at hb
  rw [List.filterMap_cons,hf] at hb
  exact hb
theorem a7.stkFree (I:a7 X pins σ H s):∀ b ∈ bZ X.stack,H b=none:=fun b hb=>by
 rcases aV5.mp (I.stkSub b hb) with e | hb
 ·rw [e]; exact I.free
 ·obtain ⟨_,o,ho,_⟩:=I.ok.funs.mem hb
  exact I.base.free b o ho (I.ok.frf b hb) fun z=>I.ok.exfs b z hb
theorem a7.step {g':Array GenState}{t':Nat}{d':Drawn}{ch:List Addr} (I:a7 X pins σ H s)
  (hch:∀ b ∈ ch,(b ∈ X.ex ∨ X.s₀.heap.objs.size<=b)/\b ≠ X.env.locals/\(∀ x c,X.env.cells.lookup x=some c->c ≠ b)/\∀ p ∈ X.pn ++ pins,p.1 ≠ b)
  (keep:∀ b o,b ≠ X.env.locals->b ∉ X.fs->b ∉ ch->s.heap.get? b=some o->H b=none->h'.get? b=some o)
  (slot:∀ b o,b ≠ X.env.locals->b ∈ X.fs->b ∉ ch->s.heap.get? b=some o->H b=none->∃ sl,h'.get? b=some { o with slots:=sl }) (free:∀ b o,b ∉ ch->s.heap.get? b=some o->H b=none->H' b=none)
  (there:∀ b o,b ∉ ch->s.heap.get? b=some o->∃ o',h'.get? b=some o')
  (tups:∀ b xs,H b=some (.tup xs)->H' b=some (.tup xs)) (frzs:∀ b o u,H b=some (.frz o u)->H' b=some (.frz o u)) (tbls:∀ b ps,H b=some (.tbl ps)->∃ more,H' b=some (.tbl (ps ++ more)))
  (ns:∀ m,s.heap.Ns X.env.locals m->h'.Ns X.env.locals m) (hok:bR X.prog X.w H' h') (hg:AllBare g') :
  a7 X pins σ H' { s with heap:=h',gens:=g',drawn:=d',toks:=t' }:=by
 have neL:∀ b o,X.s₀.heap.get? b=some o->b ≠ X.env.locals:=fun b o e=>aY5 (aW2 (aW0 e) I.ok.above)
 have neC:∀ b o,X.s₀.heap.get? b=some o->b ∉ X.ex->b ∉ ch:=fun b o e hx hb=>by
  rcases (hch b hb).1 with z | z
  ·exact hx z
  ·exact absurd (aW2 (aW0 e) z) (aZ9 _)
 have cellK:∀ x c,X.env.cells.lookup x=some c->∀ v,s.heap.IsCell c v->h'.IsCell c v:=fun x c e v ⟨o,ho,hd⟩=>by
  have nch:c ∉ ch:=fun z=>(hch c z).2.2.1 x c e rfl
  by_cases hc:c ∈ X.fs
  ·obtain ⟨sl,q⟩:=slot c o (I.cne x c e) hc nch ho (I.freeC x c e)
   exact⟨_,q,hd⟩
  ·exact⟨o,keep c o (I.cne x c e) hc nch ho (I.freeC x c e),hd⟩
 refine⟨I.ok,I.os,hg,⟨fun b o e n hb hx=>?_,fun b o e n hb hx=>?_,fun b o e n hx=>?_,fun b o e hx=>?_,fun b xs e=>tups b xs (I.base.tups b xs e),fun b o xs e=>frzs b o xs (I.base.frzs b o xs e),fun b ps e=>?_⟩,?_,fun x c e=>?_,?_,fun x c e=>?_,fun p hp=>?_,hok,I.len⟩
 ·exact keep b o (neL b o e) hb (neC b o e hx) (I.base.keep b o e n hb hx) (I.base.free b o e n hx)
 ·obtain ⟨sl,e1⟩:=I.base.slot b o e n hb hx
  obtain ⟨sl',e2⟩:=slot b _ (neL b o e) hb (neC b o e hx) e1 (I.base.free b o e n hx)
  exact⟨sl',e2⟩
 ·obtain ⟨o',e1⟩:=I.base.there b o e hx
  exact free b o' (neC b o e hx) e1 (I.base.free b o e n hx)
 ·obtain ⟨o',e1⟩:=I.base.there b o e hx
  exact there b o' (neC b o e hx) e1
 ·obtain ⟨m1,e1⟩:=I.base.tbls b ps e
  obtain ⟨m2,e2⟩:=tbls b _ e1
  exact⟨m1 ++ m2,by rw [e2,Array.append_assoc]⟩
 ·obtain ⟨m,hn,hl⟩:=I.loc
  refine⟨m,ns m hn,fun i x v e1 e2 e3=>?_⟩
  obtain ⟨u,r,l⟩:=hl i x v e1 e2 e3
  refine⟨u,r,?_⟩
  rcases l with l | ⟨k,c,e,z⟩
  ·exact .inl l
  ·exact .inr ⟨k,c,e,cellK x c e _ z⟩
 ·obtain ⟨v,z⟩:=I.cell x c e
  exact⟨v,cellK x c e v z⟩
 ·obtain ⟨m,⟨o,_,_,ho,_⟩,_⟩:=I.loc
  exact free _ o (fun z=>(hch _ z).2.1 rfl) ho I.free
 ·obtain ⟨v,o,ho,hd⟩:=I.cell x c e
  exact free c o (fun z=>(hch c z).2.2.1 x c e rfl) ho (I.freeC x c e)
 ·obtain ⟨e,n,ne,nf,d⟩:=I.pin p hp
  have nch:p.1 ∉ ch:=fun z=>(hch p.1 z).2.2.2 p hp rfl
  exact⟨keep p.1 p.2 ne nf nch e n,free p.1 p.2 nch e n,ne,nf,d⟩
theorem a7.un {t':Nat} (I:a7 X pins σ H s) (u:Un X.fs [] H H' s.heap h') (hok:bR X.prog X.w H' h'):a7 X pins σ H' { s with heap:=h',toks:=t' }:=by
 obtain ⟨m,⟨o,es,ep,ho,r⟩,_⟩:=id I.loc
 obtain ⟨sl,hL⟩:=u.any ho I.free (by simp)
 exact I.step (g':=s.gens) (d':=s.drawn) (ch:=[]) (fun _ z=>nomatch z) (fun b o _ hb _ e n=>u.keep b o e n hb (by simp)) (fun b o _ hb _ e n=>u.slot b o e n hb (by simp)) (fun b o _ e n=>u.free b o e n (by simp)) (fun b o _ e=>u.there b o e (by simp)) u.tups u.frzs u.tbls (fun m' hm=>by
  obtain ⟨o',es',ep',ho',r'⟩:=hm
  rw [ho] at ho'; cases ho'
  exact⟨_,es',ep',hL,r'⟩) hok I.bare
theorem a7.call {g':Array GenState}{t':Nat}{d':Drawn}{ch:List Addr} (I:a7 X pins σ H s) (u:Un (bZ X.stack) ch H H' s.heap h') (hok:bR X.prog X.w H' h') (hg:AllBare g')
  (hch:∀ b ∈ ch,(b ∈ X.ex ∨ X.s₀.heap.objs.size<=b)/\b ≠ X.env.locals/\(∀ x c,X.env.cells.lookup x=some c->c ≠ b)/\∀ p ∈ X.pn ++ pins,p.1 ≠ b) :
  a7 X pins σ H' { s with heap:=h',gens:=g',drawn:=d',toks:=t' }:=by
 obtain ⟨m,⟨o,es,ep,ho,r⟩,_⟩:=id I.loc
 obtain ⟨sl,hL⟩:=u.any ho I.free fun z=>(hch _ z).2.1 rfl
 exact I.step (ch:=ch) hch (fun b o hL hb hc e n=>u.keep b o e n (fun z=>(aV5.mp (I.stkSub b z)).elim hL hb) hc) (fun b o _ _ hc e n=>u.any e n hc) (fun b o hc e n=>u.free b o e n hc) (fun b o hc e=>u.there b o e hc) u.tups u.frzs u.tbls (fun m' hm=>by
  obtain ⟨o',es',ep',ho',r'⟩:=hm
  rw [ho] at ho'; cases ho'
  exact⟨_,es',ep',hL,r'⟩) hok hg
theorem a7.turned {t':Nat}{it:Addr} (I:a7 X pins σ H s) (k:∀ b o,b ≠ it->s.heap.get? b=some o->h'.get? b=some o) (hn:H it=none) (hL:it ≠ X.env.locals)
  (h1:it ∈ X.ex ∨ X.s₀.heap.objs.size<=it) (h2:∀ x c,X.env.cells.lookup x=some c->c ≠ it) (h3:∀ p ∈ X.pn ++ pins,p.1 ≠ it):a7 X pins σ H { s with heap:=h',toks:=t' }:=by
 have nit:∀ b u,H b=some u->b ≠ it:=fun b u e z=>by rw [z,hn] at e; cases e
 refine I.step (g':=s.gens) (d':=s.drawn) (ch:=[it]) (fun b hb=>?_) (fun b o _ _ hc e _=>k b o (fun z=>hc (by simp [z])) e) (fun b o _ _ hc e _=>⟨o.slots,k b o (fun z=>hc (by simp [z])) e⟩) (fun _ _ _ _ n=>n)
  (fun b o hc e=>⟨o,k b o (fun z=>hc (by simp [z])) e⟩) (fun _ _ e=>e) (fun _ _ _ e=>e) (fun b ps e=>⟨#[],by rw [e]; simp⟩) (fun m hm=>?_) (fun b u e=>?_) I.bare
 ·have e:b=it:=by simpa using hb
  subst e
  exact⟨h1,hL,h2,h3⟩
 ·obtain ⟨o,es,ep,ho,r⟩:=hm
  exact⟨o,es,ep,k _ o (Ne.symm hL) ho,r⟩
 ·refine (I.hok b u e).stay (fun c v hc q=>k c v ?_ q) (fun _ q=>q) fun _ _ q=>q
  rcases hc with z | z
  ·rw [z]; exact nit b u e
  ·exact nit c _ z
theorem a7.tok (I:a7 X pins σ H s) (t:Nat):a7 X pins σ H { s with toks:=t }:=I.un (h':=s.heap) (t':=t) Un.refl I.hok
theorem a7.kept {t':Nat} (I:a7 X pins σ H s) (k:∀ b u,s.heap.get? b=some u->h'.get? b=some u):a7 X pins σ H { s with heap:=h',toks:=t' }:=I.un (Un.kept k) (I.hok.kept k)
theorem a7.laid {a:Addr}{o:HO}{t':Nat} (I:a7 X pins σ H s) (k:∀ b u,s.heap.get? b=some u->h'.get? b=some u) (hp:s.heap.objs.size<=a) (new:bK X.prog X.w (upd H a o) h' a o) :
  a7 X pins σ (upd H a o) { s with heap:=h',toks:=t' }:=I.un (Un.laid k hp (I.hok.fresh hp)) (I.hok.laid k hp new)
theorem a7.write {x e:Addr}{o:HO}{t':Nat} (I:a7 X pins σ H s) (mu:mM (H x)) (he:e=x ∨ H e=some (.own x)) (k:∀ b u,b ≠ e->s.heap.get? b=some u->h'.get? b=some u) (heo:∃ u,h'.get? e=some u)
  (new:bK X.prog X.w (upd H x o) h' x o):a7 X pins σ (upd H x o) { s with heap:=h',toks:=t' }:=I.un (Un.write mu he k heo) (I.hok.write mu he k heo new)
theorem a7.weak {σ':List (Option V)} (I:a7 X pins σ H s) (hl:σ'.length=σ.length) (w:∀ (i:Nat) v,σ'[i]? = some (some v)->σ[i]? = some (some v)):a7 X pins σ' H s:=
 ⟨I.ok,I.os,I.bare,I.base,let ⟨m,hn,hl'⟩:=I.loc; ⟨m,hn,fun i x v e1 e2 e3=>hl' i x v e1 (w i v e2) e3⟩,I.cell,I.free,I.freeC,I.pin,I.hok,hl.trans I.len⟩
theorem a7.pins_of {pins':List (Addr × Obj)} (I:a7 X pins σ H s) (h:∀ p ∈ pins',s.heap.get? p.1=some p.2/\H p.1=none/\p.1 ≠ X.env.locals/\p.1 ∉ X.fs/\∀ v,p.2.data ≠ .cell v):a7 X pins' σ H s:=
 ⟨I.ok,I.os,I.bare,I.base,I.loc,I.cell,I.free,I.freeC,fun p hp=>(aX3.mp hp).elim (fun z=>I.pin p (aZ0 _ z)) (h p),I.hok,I.len⟩
theorem xG {N:List Str} (hN:N.Nodup) {i j:Nat}{x:Str} (a:N[i]? = some x) (b:N[j]? = some x):i=j:=by
 obtain ⟨h1,e1⟩:=aV3.mp a
 obtain ⟨h2,e2⟩:=aV3.mp b
 exact (List.getElem_inj hN).mp (e1.trans e2.symm)
theorem sQ {M:Model}{A:Around}{E:Value->Shared->Prop}{i:Nat}{x:Str}{v:V}{u:Value}{Q:Unit->Shared->Prop} (I:a7 X pins σ H s) (hN:X.N.Nodup) (hi:X.N[i]? = some x) (hx:gV X.env.scope x) (r:aR v u)
  (h:∀ s',a7 X pins (σ.set i (some v)) H s'->(∃ a,Heap.SameBut a s.heap s'.heap/\(a=X.env.locals ∨ X.env.cells.lookup x=some a))->Q () s') (hf:X.fn x=true ∨ X.env.scope.names.lookup x=some .local:=by first | exact .inl rfl | exact .inr rfl | assumption):wpAny M A (storeName X.env x u) Q E s:=by
 obtain ⟨m,hn,hl⟩:=id I.loc
 have hcls:(X.env.scope.kind == .class || (X.env.scope.kind == .module && X.env.locals != X.env.globals))=false:=by rw [I.ok.kind]; rfl
 have hiσ:i < σ.length:=by rw [I.len]; exact (aV3.mp hi).1
 have cne:=I.cne
 have tracked:∀ {a:Addr}{h':Heap},(∃ o,s.heap.get? a=some o/\H a=none)->Heap.SameBut a s.heap h'->bR X.prog X.w H h':=fun {a h'} ha hs b ob e=>by
  obtain ⟨_,_,hfree⟩:=ha
  refine (I.hok b ob e).stay (fun c w' hc q=>(hs.2 c ?_).trans q) (fun _ q=>q) fun _ _ q=>q
  rintro rfl
  rcases hc with rfl | hc
  ·rw [hfree] at e; cases e
  ·rw [hfree] at hc; cases hc
 rcases hx with hk | hk
 ·refine wpAny_storeName_local hk hn (fun h' hn' hs=>?_) hcls
  obtain ⟨oL,_,_,hoL,_⟩:=id hn
  refine h _ ⟨I.ok,I.os,I.bare,⟨fun b o e n hb hx=>?_,fun b o e n hb hx=>?_,I.base.free,fun b o e hx=>?_,I.base.tups,I.base.frzs,I.base.tbls⟩,⟨_,hn',fun j y v' e1 e2 e3=>?_⟩,fun y c e=>?_,I.free,I.freeC,fun p hp=>?_,tracked ⟨oL,hoL,I.free⟩ hs,by simpa using I.len⟩ ⟨_,hs,.inl rfl⟩
  ·exact (hs.2 b (aY5 (aW2 (aW0 e) I.ok.above))).trans (I.base.keep b o e n hb hx)
  ·obtain ⟨sl,e1⟩:=I.base.slot b o e n hb hx
   exact⟨sl,(hs.2 b (aY5 (aW2 (aW0 e) I.ok.above))).trans e1⟩
  ·obtain ⟨o',e1⟩:=I.base.there b o e hx
   exact⟨o',(hs.2 b (aY5 (aW2 (aW0 e) I.ok.above))).trans e1⟩
  ·by_cases hj:j=i
   ·subst hj
    rw [hi] at e1; cases e1
    rw [aZ3 hiσ] at e2
    cases e2
    exact⟨u,r,.inl ⟨hk,by simp⟩⟩
   ·rw [aX4 (Ne.symm hj)] at e2
    obtain ⟨u',r',q⟩:=hl j y v' e1 e2 e3
    refine⟨u',r',?_⟩
    rcases q with ⟨k,e⟩ | ⟨k,c,e,z⟩
    ·refine .inl ⟨k,?_⟩
     have:y ≠ x:=fun e=>hj (xG hN e1 (e ▸ hi))
     simp [this,e]
    ·exact .inr ⟨k,c,e,z.sameBut hs (cne y c e)⟩
  ·obtain ⟨w',z⟩:=I.cell y c e
   exact⟨w',z.sameBut hs (cne y c e)⟩
  ·obtain ⟨e,n,ne,nf,d⟩:=I.pin p hp
   exact⟨(hs.2 p.1 ne).trans e,n,ne,nf,d⟩
 ·have hfn:X.fn x=true:=by
   rcases hf with z | z
   ·exact z
   ·rw [z] at hk; cases hk
  obtain ⟨c,hc⟩:=I.ok.has x (.inl hk)
  obtain ⟨w',z⟩:=I.cell x c hc
  refine wpAny_storeName_cell I.ok.kind hk hc z (fun h' hc' hs=>?_)
  obtain ⟨oc,hoc,hocd⟩:=id z
  refine h { s with heap:=h' } ⟨I.ok,I.os,I.bare,⟨fun b o e n hb hx=>?_,fun b o e n hb hx=>?_,I.base.free,fun b o e hx=>?_,I.base.tups,I.base.frzs,I.base.tbls⟩,⟨m,hn.sameBut hs (Ne.symm (cne x c hc)),fun j y v' e1 e2 e3=>?_⟩,fun y c' e=>?_,I.free,I.freeC,fun p hp=>?_,tracked ⟨oc,hoc,I.freeC x c hc⟩ hs,by simpa using I.len⟩ ⟨c,hs,.inr hc⟩
  ·exact (hs.2 b (aY5 (aW2 (aW0 e) (I.ok.cab x c hfn hc)))).trans (I.base.keep b o e n hb hx)
  ·obtain ⟨sl,e1⟩:=I.base.slot b o e n hb hx
   exact⟨sl,(hs.2 b (aY5 (aW2 (aW0 e) (I.ok.cab x c hfn hc)))).trans e1⟩
  ·obtain ⟨o',e1⟩:=I.base.there b o e hx
   exact⟨o',(hs.2 b (aY5 (aW2 (aW0 e) (I.ok.cab x c hfn hc)))).trans e1⟩
  ·by_cases hj:j=i
   ·subst hj
    rw [hi] at e1; cases e1
    rw [aZ3 hiσ] at e2
    cases e2
    exact⟨u,r,.inr ⟨.inl hk,c,hc,hc'⟩⟩
   ·rw [aX4 (Ne.symm hj)] at e2
    obtain ⟨u',r',q⟩:=hl j y v' e1 e2 e3
    refine⟨u',r',?_⟩
    rcases q with q | ⟨k,c',e,z'⟩
    ·exact .inl q
    ·refine .inr ⟨k,c',e,z'.sameBut hs ?_⟩
     rintro rfl
     exact hj (xG hN e1 (I.ok.inj _ _ _ e hc ▸ hi))
  ·by_cases hcc:c'=c
   ·subst hcc; exact⟨_,hc'⟩
   ·obtain ⟨w2,z2⟩:=I.cell y c' e
    exact⟨w2,z2.sameBut hs hcc⟩
  ·obtain ⟨e,n,ne,nf,d⟩:=I.pin p hp
   refine⟨(hs.2 p.1 ?_).trans e,n,ne,nf,d⟩
   intro q
   rw [q,hoc] at e
   have q':oc=p.2:=aX6 e
   exact d w' (by rw [<- q']; exact hocd)
theorem xH {M:Model}{A:Around}{E:Value->Shared->Prop}{i:Nat}{x:Str}{v:V}{u:Value}{Q:Unit->Shared->Prop} (I:a7 X pins σ H s) (hN:X.N.Nodup) (hi:X.N[i]? = some x) (hx:gV X.env.scope x) (r:aR v u)
  (h:∀ s',a7 X pins (σ.set i (some v)) H s'->Q () s') (hf:X.fn x=true ∨ X.env.scope.names.lookup x=some .local:=by first | exact .inl rfl | exact .inr rfl | assumption):wpAny M A (storeName X.env x u) Q E s:=
 sQ I hN hi hx r (fun s' I' _=>h s' I') hf
theorem a7.call' {s':Shared}{ch:List Addr} (I:a7 X pins σ H s) (ho:s'.os=s.os) (u:Un (bZ X.stack) ch H H' s.heap s'.heap) (hok:bR X.prog X.w H' s'.heap) (hg:AllBare s'.gens)
  (hch:∀ b ∈ ch,(b ∈ X.ex ∨ X.s₀.heap.objs.size<=b)/\b ≠ X.env.locals/\(∀ x c,X.env.cells.lookup x=some c->c ≠ b)/\∀ p ∈ X.pn ++ pins,p.1 ≠ b):a7 X pins σ H' s':=by
 obtain ⟨h',g',d',t',o'⟩:=s'
 have e:o'=s.os:=ho
 subst e
 exact I.call (g':=g') (t':=t') (d':=d') u hok hg hch
end
abbrev XK:=Value->Option Addr->Hp->Prop
abbrev St:=List (Option V)
abbrev VK:=V->Hp->Prop
abbrev TE:=St->Hp->VK->Prop
abbrev TT:=St->Hp->(Bool->Hp->Prop)->Prop
abbrev TA:=St->Hp->(List V->Hp->Prop)->Prop
structure cJ where
 nx:St->Hp->Prop
 rt:VK
 bk:St->Hp->Prop:=fun _ _=>False
 ct:St->Hp->Prop:=fun _ _=>False
abbrev TS:=cJ->St->Hp->Prop
def EP (X:Cx) (pins:List (Addr × Obj)) (σ:St) (Q:VK) (u:Value) (s':Shared):Prop:=∃ v H',a7 X pins σ H' s'/\aR v u/\Q v H'
def TP (X:Cx) (pins:List (Addr × Obj)) (σ:St) (Q:Bool->Hp->Prop) (b:Bool) (s':Shared):Prop:=∃ H',a7 X pins σ H' s'/\Q b H'
def AP (X:Cx) (pins:List (Addr × Obj)) (σ:St) (Q:List V->Hp->Prop) (us:List Value) (s':Shared):Prop:=∃ vs H',a7 X pins σ H' s'/\aN vs us/\Q vs H'
def SP (X:Cx) (pins:List (Addr × Obj)) (D:cJ) (f:Flow) (s':Shared):Prop:=
 match f with
 | .next=>∃ σ' H',a7 X pins σ' H' s'/\D.nx σ' H'
 | .brk=>∃ σ' H',a7 X pins σ' H' s'/\D.bk σ' H'
 | .cont=>∃ σ' H',a7 X pins σ' H' s'/\D.ct σ' H'
 | .ret u=>∃ v σ' H',a7 X pins σ' H' s'/\aR v u/\D.rt v H'
def PE (X:Cx) (e:Expr) (t:TE):Prop:=
 ∀ (pins:List (Addr × Obj)) (s:Shared) (σ:St) (H:Hp) (Q:VK),a7 X pins σ H s->t σ H Q->wpAny (model X.prog X.w) X.A (eval e X.env) (EP X pins σ Q) X.xe s
def PT (X:Cx) (e:Expr) (t:TT):Prop:=
 ∀ (pins:List (Addr × Obj)) (s:Shared) (σ:St) (H:Hp) (Q:Bool->Hp->Prop),a7 X pins σ H s->t σ H Q->wpAny (model X.prog X.w) X.A (isTrue e X.env (eval e X.env)) (TP X pins σ Q) X.xe s
def PW (X:Cx) (e:Expr) (t:TT):Prop:=
 ∀ (whole:Sem Value) (pins:List (Addr × Obj)) (s:Shared) (σ:St) (H:Hp) (Q:Bool->Hp->Prop),a7 X pins σ H s->t σ H Q->wpAny (model X.prog X.w) X.A (isTrue e X.env whole) (TP X pins σ Q) X.xe s
theorem PW.pt {X:Cx}{e:Expr}{t:TT} (h:PW X e t):PT X e t:=h _
def PA (X:Cx) (es:List Expr) (t:TA):Prop:=
 ∀ (pos:Pos) (pins:List (Addr × Obj)) (s:Shared) (σ:St) (H:Hp) (Q:List V->Hp->Prop),a7 X pins σ H s->t σ H Q->wpAny (model X.prog X.w) X.A (spliced (backTo pos (starEach es X.env))) (AP X pins σ Q) X.xe s
def PS (X:Cx) (st:Stmt) (t:TS):Prop:=
 ∀ (pins:List (Addr × Obj)) (s:Shared) (σ:St) (H:Hp) (D:cJ),a7 X pins σ H s->t D σ H->wpAny (model X.prog X.w) X.A (exec st X.env) (SP X pins D) X.xe s
def dD (X:Cx) (st:List Stmt) (t:TS):Prop:=
 ∀ (pins:List (Addr × Obj)) (s:Shared) (σ:St) (H:Hp) (D:cJ),a7 X pins σ H s->t D σ H->wpAny (model X.prog X.w) X.A (execs st X.env) (SP X pins D) X.xe s
theorem aM {α:Type}{t:Sem α}{Q Q':α->Shared->Prop}{M:Model}{A:Around}{E:Value->Shared->Prop}{s:Shared} (h:wpAny M A t Q E s) (hQ:∀ a s,Q a s->Q' a s):wpAny M A t Q' E s:=bc1 h hQ fun _ _ x=>x
section
variable {X : Cx}
theorem bin {a b:Expr}{ta tb:TE} (ha:PE X a ta) (hb:PE X b tb) {pins:List (Addr × Obj)}{s:Shared}{σ:St}{H:Hp}{R:V->V->Hp->Prop} (I:a7 X pins σ H s) (h:ta σ H fun x H1=>tb σ H1 fun y H2=>R x y H2)
  {α:Type}{Q:α->Shared->Prop}{f:Value->Value->Sem α}
  (hf:∀ v u s2 x y H2,a7 X pins σ H2 s2->aR x v->aR y u->R x y H2->wpAny (model X.prog X.w) X.A (f v u) Q X.xe s2) :
  wpAny (model X.prog X.w) X.A (eval a X.env) (fun v s₁=>wpAny (model X.prog X.w) X.A (eval b X.env) (fun u s₂=>wpAny (model X.prog X.w) X.A (f v u) Q X.xe s₂) X.xe s₁) X.xe s:=by
 refine aM (ha pins s σ H _ I h) fun v s1 ⟨x,H1,I1,r1,q1⟩=>?_
 refine aM (hb pins s1 σ H1 _ I1 q1) fun u s2 ⟨y,H2,I2,r2,q2⟩=>?_
 exact hf v u s2 x y H2 I2 r1 r2 q2
def fN (i:Nat):TE:=fun σ H Q=>∃ v,σ[i]? = some (some v)/\Q v H
def tC (v:V):TE:=fun _ H Q=>Q v H
theorem i4 {i:Nat}{x:Str}{pos:Pos} (hN:X.N[i]? = some x) (hv:fM X.env.scope x) (hd:(x == ("__debug__" : Str))=false:=by decide) (hcd:(x == ("__classdict__" : Str))=false:=by decide):PE X (.Name x pos) (fN i):=by
 intro pins s σ H Q I h
 obtain ⟨v,e,h⟩:=h
 obtain ⟨m,hn,hl⟩:=I.loc
 obtain ⟨u,r,l⟩:=hl i x v hN e hv
 have fin:EP X pins σ Q u s:=⟨v,H,I,r,h⟩
 rcases l with ⟨hk,hm⟩ | ⟨hk,c,hc,hcell⟩
 ·exact wpAny_Name (wpAny_loadName_local I.ok.kind hk hn hm fin) hd
 ·rcases hk with hk | hk
  ·exact wpAny_Name (wpAny_loadName_cell I.ok.kind hk hc hcell fin) hd
  ·exact wpAny_Name (wpAny_loadName_free I.ok.kind hk hc hcell fin hcd) hd
theorem mP {i j pos}:PE X (.Constant (.int i) j pos) (tC (.int i)):=fun _ _ _ H _ I h=>wpAny_Constant_int ⟨.int i,H,I.tok _,⟨_,rfl⟩,h⟩
theorem ab5 {b j pos}:PE X (.Constant (.bool b) j pos) (tC (.bl b)):=fun _ _ _ H _ I h=>Constant_bool ⟨.bl b,H,I,rfl,h⟩
theorem ab6 {j pos}:PE X (.Constant .none j pos) (tC .non):=fun _ _ _ H _ I h=>Constant_none ⟨.non,H,I,rfl,h⟩
theorem ab7 {x j pos}:PE X (.Constant (.str x) j pos) (tC (.str x)):=fun _ _ _ H _ I h=>Calls.Constant_str ⟨.str x,H,I.tok _,⟨_,rfl⟩,h⟩
def Gl (X:Cx) (x:Str):Prop:=X.env.kindOf x=some .globalImplicit
theorem sR {E:Value->Shared->Prop}{pins:List (Addr × Obj)}{s:Shared}{σ:St}{H:Hp}{x:Str}{u:Value}{pos:Pos}{Q:Value->Shared->Prop} (I:a7 X pins σ H s) (hg:Gl X x) (hm:X.mg x=some u) (h:Q u s)
  (hd:(x == ("__debug__" : Str))=false:=by decide):wpAny (model X.prog X.w) X.A (eval (.Name x pos) X.env) Q E s:=
 Calls.Name_function_global I.ok.kind hg (Calls.loadGlobal_global (by rw [I.ok.glob]; exact I.mod.glob.keeps I.bk) hm h) hd
theorem i5 {E:Value->Shared->Prop}{pins:List (Addr × Obj)}{s:Shared}{σ:St}{H:Hp}{x:Str}{u:Value}{pos:Pos}{Q:Value->Shared->Prop} (I:a7 X pins σ H s) (hg:Gl X x) (hm:X.mg x=none) (hv:bootBuiltins x=some u) (h:Q u s)
  (hn:x ≠ "__name__":=by decide) (hd:(x == ("__debug__" : Str))=false:=by decide):wpAny (model X.prog X.w) X.A (eval (.Name x pos) X.env) Q E s:=by
 obtain ⟨mb,h1,h2⟩:=I.mod.blt
 exact Calls.Name_function_global I.ok.kind hg (Calls.loadGlobal_builtin (by rw [I.ok.glob]; exact I.mod.glob.keeps I.bk) hm (by rw [I.ok.blt]; exact h1.keeps I.bk) ((h2 x hn).trans hv) h) hd
theorem ab8 {x:Str}{v:V}{u:Value}{pos:Pos} (hg:Gl X x) (hm:X.mg x=some u) (r:aR v u) (hd:(x == ("__debug__" : Str))=false:=by decide):PE X (.Name x pos) (tC v):=
 fun _ _ _ H _ I h=>sR I hg hm ⟨v,H,I,r,h⟩ hd
theorem ab9 {x:Str}{v:V}{u:Value}{pos:Pos} (hg:Gl X x) (hm:X.mg x=none) (hv:bootBuiltins x=some u) (r:aR v u) (hn:x ≠ "__name__":=by decide) (hd:(x == ("__debug__" : Str))=false:=by decide):PE X (.Name x pos) (tC v):=
 fun _ _ _ H _ I h=>i5 I hg hm hv ⟨v,H,I,r,h⟩ hn hd
variable {a b : Expr} {ta tb : TE} {pos : Pos}
def PC (X:Cx) (op:CmpOp) (a b:Expr) (t:TE):Prop:=
 ∀ (pins:List (Addr × Obj)) (s:Shared) (σ:St) (H:Hp) (Q:VK),a7 X pins σ H s->t σ H Q->
  wpAny (model X.prog X.w) X.A (eval a X.env) (fun v s₁=>wpAny (model X.prog X.w) X.A (eval b X.env) (fun u s₂=>wpAny (model X.prog X.w) X.A (compareOp op v u) (EP X pins σ Q) X.xe s₂) X.xe s₁) X.xe s
def tB (t:TE):TT:=fun σ H Q=>t σ H fun x H1=>∃ c,x = .bl c/\Q c H1
theorem ac0 {op:CmpOp}{t:TE} (h:PC X op a b t) (h1:behindInMarks op b=false:=by first | exact nobehind _ (by decide) (by decide) | rfl):PE X (.Compare a [op] [b] pos) t:=fun pins s σ H Q I hw=>wpAny_Compare1 (h pins s σ H Q I hw) h1
theorem ac1 {op:CmpOp}{t:TE} (h:PC X op a b t) (h1:behindInMarks op b=false:=by first | exact nobehind _ (by decide) (by decide) | rfl):PT X (.Compare a [op] [b] pos) (tB t):=by
 intro pins s σ H Q I hw
 refine wpAny_isTrue_Compare1 (aM (h pins s σ H _ I hw) fun v s1 h1=>aM h1 fun u s2 h2=>aM h2 fun c s3 ⟨x,H1,I1,r1,q1⟩=>?_) h1
 obtain ⟨d,rfl,q⟩:=q1
 cases r1
 exact bf6 ⟨H1,I1,q⟩
theorem ac2 {e:Expr}{t:TE} (h:PE X e t) (he:∀ whole,isTrue e X.env whole=(do let v <- whole; standAt e.pos; holding [v] (truthy v)):=by intro _; rfl):PT X e (tB t):=by
 intro pins s σ H Q I hw
 refine isTrue_plain (aM (h pins s σ H _ I hw) fun v s1 ⟨x,H1,I1,r1,q1⟩=>?_) (he _)
 obtain ⟨d,rfl,q⟩:=q1
 cases r1
 exact bf6 ⟨H1,I1,q⟩
variable {tA tB' : TT} {cX : List Expr}
def xI (t u:TT):TT:=fun σ H Q=>t σ H fun c H1=>if c=true then u σ H1 Q else Q false H1
def xJ (t u:TT):TT:=fun σ H Q=>t σ H fun c H1=>if c=true then Q true H1 else u σ H1 Q
def xK (t:TT):TT:=fun σ H Q=>t σ H fun c H1=>Q (!c) H1
theorem ac3 (ha:PT X a tA):PW X (.BoolOp .And [a] pos) tA:=by
 intro wh pins s σ H Q I h
 refine isTrue_and (aM (ha pins s σ H Q I h) fun c s1 e=>?_)
 cases c with
 | true=>exact isTrue_and_nil e
 | false=>exact e
theorem ac4 (ha:PT X a tA):PW X (.BoolOp .Or [a] pos) tA:=by
 intro wh pins s σ H Q I h
 refine isTrue_or (aM (ha pins s σ H Q I h) fun c s1 e=>?_)
 cases c with
 | false=>exact isTrue_or_nil e
 | true=>exact e
theorem ac5 (ha:PT X a tA) (hb:PW X (.BoolOp .And (b :: cX) pos) tB'):PW X (.BoolOp .And (a :: b :: cX) pos) (xI tA tB'):=by
 intro wh pins s σ H Q I h
 refine isTrue_and (aM (ha pins s σ H _ I h) fun c s1 ⟨H1,I1,q1⟩=>?_)
 cases c with
 | true=>exact hb wh pins s1 σ H1 Q I1 q1
 | false=>exact⟨H1,I1,q1⟩
theorem ac6 (ha:PT X a tA) (hb:PW X (.BoolOp .Or (b :: cX) pos) tB'):PW X (.BoolOp .Or (a :: b :: cX) pos) (xJ tA tB'):=by
 intro wh pins s σ H Q I h
 refine isTrue_or (aM (ha pins s σ H _ I h) fun c s1 ⟨H1,I1,q1⟩=>?_)
 cases c with
 | true=>exact⟨H1,I1,q1⟩
 | false=>exact hb wh pins s1 σ H1 Q I1 q1
theorem ac7 (ha:PT X a tA):PT X (.UnaryOp .Not a pos) (xK tA):=by
 intro pins s σ H Q I h
 exact isTrue_not (ha pins s σ H (fun c H1=>Q (!c) H1) I h)
def xL (ta tb:TE):TE:=fun σ H Q=>ta σ H fun x H1=>∃ c,x = .bl c/\if c=true then tb σ H1 Q else Q (.bl false) H1
def xM (ta:TE):TE:=fun σ H Q=>ta σ H fun x H1=>∃ c,x = .bl c/\Q (.bl (!c)) H1
theorem ac8 {op}{t:TE} (h:PE X a t):PE X (.BoolOp op [a] pos) t:=fun pins s σ H Q I hw=>BoolOp_one (h pins s σ H Q I hw)
theorem ac9 (ha:PE X a ta) (hb:PE X (.BoolOp .And (b :: cX) pos) tb):PE X (.BoolOp .And (a :: b :: cX) pos) (xL ta tb):=by
 intro pins s σ H Q I h
 refine BoolOp_and (aM (ha pins s σ H _ I h) fun v s1 ⟨x,H1,I1,r1,q1⟩=>?_)
 obtain ⟨c,rfl,q1⟩:=q1
 cases r1
 refine bf6 ?_
 cases c with
 | true=>exact hb pins s1 σ H1 Q I1 q1
 | false=>exact⟨.bl false,H1,I1,rfl,q1⟩
theorem ad0 (ha:PE X a ta):PE X (.UnaryOp .Not a pos) (xM ta):=by
 intro pins s σ H Q I h
 refine UnaryOp_ (aM (ha pins s σ H _ I h) fun v s1 ⟨x,H1,I1,r1,q1⟩=>?_)
 obtain ⟨c,rfl,q1⟩:=q1
 cases r1
 exact not_of (bf6 ⟨.bl (!c),H1,I1,rfl,q1⟩)
end
def aJ (K:PySem.W.Frag) (H:Hp) (a:Addr) (xs:List V):Prop:=
 Rd H a (.lst xs) ∨
  ∃ (o:Obj) (its:Array Value) (n:Nat),K.lookup a=some o/\o.cls = .type "list"/\o.dict=none/\o.data = .seq its n/\its.size<=sizeLine/\aN xs its.toList
def aG (K:PySem.W.Frag) (H:Hp) (a:Addr) (xs:List V):Prop:=
 Rd H a (.tup xs) ∨
  ∃ (o:Obj) (its:Array Value) (n:Nat),K.lookup a=some o/\o.cls = .type "tuple"/\o.data = .seq its n/\its.size<=sizeLine/\aN xs its.toList
def ad1:Value->Option V
 | .none=>some .non
 | .bool b=>some (.bl b)
 | .int i _=>some (.int i)
 | .str x _=>some (.str x)
 | .bytes b _=>some (.byt b)
 | .float b _=>some (.flt b)
 | .ref a=>some (.ref a)
 | .type n=>some (.ty n)
 | _=>none
theorem aR.abs {x:V}{u:Value} (r:aR x u):ad1 u=some x:=by
 cases x with
 | non=>cases r; rfl
 | bl _=>cases r; rfl
 | int _=>obtain ⟨t,rfl⟩:=r; rfl
 | str _=>obtain ⟨t,rfl⟩:=r; rfl
 | byt _=>obtain ⟨t,rfl⟩:=r; rfl
 | flt _=>obtain ⟨t,rfl⟩:=r; rfl
 | ref _=>cases r; rfl
 | ty _=>cases r; rfl
theorem aR.inj {x y:V}{u:Value} (r:aR x u) (q:aR y u):x=y:=aX6 (r.abs.symm.trans q.abs)
theorem aN.inj:∀ {xs ys:List V}{us:List Value},aN xs us->aN ys us->xs=ys
 | _,_,_,.nil,.nil=>rfl
 | _,_,_,.cons r t,.cons r' t'=>by rw [r.inj r',aN.inj t t']
section
variable {X : Cx} {pins : List (Addr × Obj)} {σ : St} {H : Hp} {s : Shared} {a : Addr} {xs ys : List V}
theorem aJ.of {K:PySem.W.Frag} (h:H a=some (.lst xs)):aJ K H a xs:=.inl (.inl h)
theorem aG.of {K:PySem.W.Frag} (h:H a=some (.tup xs)):aG K H a xs:=.inl (.inl h)
theorem a7.list (I:a7 X pins σ H s) (h:aJ X.K H a xs):∃ its:List Value,aN xs its/\PlainL s.heap a its.toArray/\xs.length<=sizeLine:=by
 rcases h with h | ⟨o,its,n,hk,hc,hd,hs,hz,r⟩
 ·obtain ⟨z,its,n,r,e⟩:=h.ok I.hok
  exact⟨its,r,⟨_,n,e,rfl,rfl,rfl⟩,z⟩
 ·refine⟨its.toList,r,⟨o,n,I.kIn a o hk,hc,hd,by simpa using hs⟩,?_⟩
  have e:=r.length
  simp only [be4] at e
  omega
theorem a7.tuple (I:a7 X pins σ H s) (h:aG X.K H a xs):∃ its:List Value,aN xs its/\IsTup s.heap a its.toArray/\xs.length<=sizeLine:=by
 rcases h with h | ⟨o,its,n,hk,hc,hs,hz,r⟩
 ·obtain ⟨z,its,r,p⟩:=h.ok I.hok
  exact⟨its,r,p,z⟩
 ·refine⟨its.toList,r,⟨o,I.kIn a o hk,hc,n,by simpa using hs⟩,?_⟩
  have e:=r.length
  simp only [be4] at e
  omega
theorem a7.list_inj (I:a7 X pins σ H s) (h:aJ X.K H a xs) (h':aJ X.K H a ys):xs=ys:=by
 obtain ⟨its,r,⟨o,n,e,_,_,d⟩,_⟩:=I.list h
 obtain ⟨its',r',⟨o',n',e',_,_,d'⟩,_⟩:=I.list h'
 rw [e] at e'; cases e'
 rw [d] at d'
 injection d' with d1 _
 have:its=its':=by simpa using congrArg Array.toList d1
 subst this
 exact r.inj r'
theorem a7.tuple_inj (I:a7 X pins σ H s) (h:aG X.K H a xs) (h':aG X.K H a ys):xs=ys:=by
 obtain ⟨its,r,⟨o,e,_,n,d⟩,_⟩:=I.tuple h
 obtain ⟨its',r',⟨o',e',_,n',d'⟩,_⟩:=I.tuple h'
 rw [e] at e'; cases e'
 rw [d] at d'
 injection d' with d1 _
 have:its=its':=by simpa using congrArg Array.toList d1
 subst this
 exact r.inj r'
end
abbrev Cx.wish (X:Cx) (E:Value->Shared->Prop):Cx:={ X with xe:=E }
abbrev Cx.nox (X:Cx):Cx:=X.wish fun _ _=>False
theorem Cx.Ok.wish {X:Cx} (ok:X.Ok) (E:Value->Shared->Prop):(X.wish E).Ok:=
 ⟨ok.mod,ok.kind,ok.glob,ok.blt,ok.above,ok.inj,ok.has,ok.cab,ok.hd,ok.frames,ok.stk,ok.exf,ok.bs,ok.bsz,ok.noex,ok.exfs,ok.funs,ok.frf⟩
theorem Cx.Ok.unwish {X:Cx}{E:Value->Shared->Prop} (ok:(X.wish E).Ok):X.Ok:=
 ⟨ok.mod,ok.kind,ok.glob,ok.blt,ok.above,ok.inj,ok.has,ok.cab,ok.hd,ok.frames,ok.stk,ok.exf,ok.bs,ok.bsz,ok.noex,ok.exfs,ok.funs,ok.frf⟩
section
variable {X : Cx} {pins : List (Addr × Obj)} {σ : St} {H : Hp} {s : Shared} {E : Value → Shared → Prop}
theorem a7.wish (I:a7 X pins σ H s) (E:Value->Shared->Prop):a7 (X.wish E) pins σ H s:=⟨I.ok.wish E,I.os,I.bare,I.base,I.loc,I.cell,I.free,I.freeC,I.pin,I.hok,I.len⟩
theorem a7.unwish (I:a7 (X.wish E) pins σ H s):a7 X pins σ H s:=⟨I.ok.unwish,I.os,I.bare,I.base,I.loc,I.cell,I.free,I.freeC,I.pin,I.hok,I.len⟩
theorem SP.unwish {D:cJ}{f:Flow}{s':Shared} (h:SP (X.wish E) pins D f s'):SP X pins D f s':=by
 cases f with
 | next=>obtain ⟨σ',H',I,q⟩:=h; exact⟨σ',H',I.unwish,q⟩
 | brk=>obtain ⟨σ',H',I,q⟩:=h; exact⟨σ',H',I.unwish,q⟩
 | cont=>obtain ⟨σ',H',I,q⟩:=h; exact⟨σ',H',I.unwish,q⟩
 | ret u=>obtain ⟨v,σ',H',I,r,q⟩:=h; exact⟨v,σ',H',I.unwish,r,q⟩
theorem dD.nox {st:List Stmt}{t:TS} (h:dD X.nox st t):dD X st t:=fun pins s σ H D I hw=>
 bc1 (h pins s σ H D (I.wish _) hw) (fun _ _ q=>q.unwish) fun _ _ z=>False.elim z
end
section
variable {X : Cx} {st : Stmt} {cX : List Stmt} {t u : TS} {e : Expr} {te : TE} {pos : Pos}
def xN:TS:=fun D σ H=>D.nx σ H
def sS (t u:TS):TS:=fun D σ H=>t { D with nx:=u D } σ H
theorem ad2:dD X [] xN:=fun _ _ σ H _ I h=>wpAny_execs_nil ⟨σ,H,I,h⟩
theorem mQ (h1:PS X st t) (h2:dD X cX u):dD X (st :: cX) (sS t u):=by
 intro pins s σ H D I h
 refine wpAny_execs_cons (aM (h1 pins s σ H { D with nx:=u D } I h) fun f s1 q=>?_)
 cases f with
 | next=>
  obtain ⟨σ',H',I',q⟩:=q
  exact h2 pins s1 σ' H' D I' q
 | ret v=>exact q
 | brk=>exact q
 | cont=>exact q
theorem l7 (h1:PS X st t):dD X [st] t:=by
 intro pins s σ H D I h
 refine wpAny_execs_cons (aM (h1 pins s σ H D I h) fun f s1 q=>?_)
 cases f with
 | next=>exact wpAny_execs_nil q
 | ret v=>exact q
 | brk=>exact q
 | cont=>exact q
def xO:TS:=fun D σ H=>D.bk σ H
theorem ad3:PS X (.Break pos) xO:=fun _ _ σ H _ I h=>wpAny_Break ⟨σ,H,I,h⟩
theorem a7.quiet {pins:List (Addr × Obj)}{σ:St}{H:Hp}{s:Shared} (I:a7 X pins σ H s):interactive X.env=false:=by simp [interactive,I.ok.kind]
def oV (te:TE):TS:=fun D σ H=>te σ H fun _ H1=>D.nx σ H1
theorem mR (he:PE X e te) (hs:swapsWith e none pos.line X.env=pure false:=by rfl):PS X (.Expr e pos) (oV te):=by
 intro pins s σ H D I h
 exact wpAny_Expr_any (aM (he pins s σ H _ I h) fun v s1 ⟨x,H1,I1,r1,q1⟩=>⟨σ,H1,I1,q1⟩) I.quiet hs
def l8 (te:TE):TS:=fun D σ H=>te σ H D.rt
theorem l9 (he:PE X e te):PS X (.Return (some e) pos) (l8 te):=by
 intro pins s σ H D I h
 exact wpAny_Return_some (aM (he pins s σ H _ I h) fun v s1 ⟨x,H1,I1,r1,q1⟩=>⟨x,σ,H1,I1,r1,q1⟩)
def xP (c:TT) (t u:TS):TS:=fun D σ H=>c σ H fun b H1=>if b=true then t D σ H1 else u D σ H1
theorem ad4 {c:Expr}{a b:List Stmt}{tc:TT} (hc:PT X c tc) (ha:dD X a t) (hb:dD X b u):PS X (.If c a b pos) (xP tc t u):=by
 intro pins s σ H D I h
 refine wpAny_If (aM (hc pins s σ H _ I h) fun d s1 ⟨H1,I1,q1⟩=>?_)
 cases d with
 | true=>exact ha pins s1 σ H1 D I1 q1
 | false=>exact hb pins s1 σ H1 D I1 q1
end
abbrev TG:=V->St->Hp->(St->Hp->Prop)->Prop
abbrev kB:=List V->St->Hp->(St->Hp->Prop)->Prop
def PG (X:Cx) (target:Expr) (t:TG):Prop:=
 ∀ (pins:List (Addr × Obj)) (s:Shared) (σ:St) (H:Hp) (v:V) (u:Value) (Q:St->Hp->Prop),a7 X pins σ H s->aR v u->t v σ H Q->
  wpAny (model X.prog X.w) X.A (assign target X.env u) (fun _ s'=>∃ σ' H',a7 X pins σ' H' s'/\Q σ' H') X.xe s
def oW (X:Cx) (ts:List Expr) (t:kB):Prop:=
 ∀ (pins:List (Addr × Obj)) (s:Shared) (σ:St) (H:Hp) (vs:List V) (us:List Value) (Q:St->Hp->Prop),a7 X pins σ H s->aN vs us->t vs σ H Q->
  wpAny (model X.prog X.w) X.A (assignInOrder ((assignEach ts X.env).map (·.2)) us) (fun _ s'=>∃ σ' H',a7 X pins σ' H' s'/\Q σ' H') X.xe s
abbrev sT:=V->V->V->Hp->(Hp->Prop)->Prop
def xQ (X:Cx) (t:sT):Prop:=
 ∀ (pins:List (Addr × Obj)) (s:Shared) (σ:St) (H:Hp) (o i v:V) (ov iv u:Value) (Q:Hp->Prop),a7 X pins σ H s->aR o ov->aR i iv->aR v u->t o i v H Q->
  wpAny (model X.prog X.w) X.A (setItem ov iv u) (fun _ s'=>∃ H',a7 X pins σ H' s'/\Q H') X.xe s
section
variable {X : Cx} {pos : Pos}
def bP (i:Nat):TG:=fun v σ H Q=>Q (σ.set i (some v)) H
theorem eB {i:Nat}{x:Str} (hN:X.N.Nodup) (hi:X.N[i]? = some x) (hx:gV X.env.scope x) (hf:X.fn x=true ∨ X.env.scope.names.lookup x=some .local:=by first | exact .inl rfl | exact .inr rfl | assumption):PG X (.Name x pos) (bP i):=by
 intro pins s σ H v u Q I r h
 exact wpAny_assign_Name (xH I hN hi hx r (fun s' I'=>⟨_,H,I',h⟩) hf)
def i6:kB:=fun vs σ H Q=>vs = []/\Q σ H
def dI (t:TG) (u:kB):kB:=fun vs σ H Q=>∃ v r,vs=v :: r/\t v σ H fun σ' H'=>u r σ' H' Q
theorem lA:oW X [] i6:=by
 intro pins s σ H vs us Q I r h
 obtain ⟨e,h⟩:=h
 subst e
 cases r
 exact assignInOrder_nil ⟨σ,H,I,h⟩
theorem fZ {e:Expr}{es:List Expr}{t:TG}{u:kB} (h1:PG X e t) (h2:oW X es u)
  (hs:(assignEach (e :: es) X.env).map (·.2)=assign e X.env :: (assignEach es X.env).map (·.2):=by rfl):oW X (e :: es) (dI t u):=by
 intro pins s σ H vs us Q I r h
 obtain ⟨v,vr,e1,h⟩:=h
 subst e1
 cases r with
 | cons r rr=>
  rw [hs]
  refine assignInOrder_cons (aM (h1 pins s σ H _ _ _ I r h) fun _ s1 ⟨σ1,H1,I1,q1⟩=>?_)
  exact h2 pins s1 σ1 H1 _ _ Q I1 rr q1
def i7 (K:PySem.W.Frag) (n:Nat) (t:kB):TG:=fun v σ H Q=>∃ a xs,v = .ref a/\aG K H a xs/\xs.length=n/\t xs σ H Q
theorem lB {es:List Expr}{k:Nat}{t:kB}{n:Nat} (hc:X.calm=true) (h:oW X es t)
  (hn:(assignEach es X.env).length=n:=by rfl) (hst:(assignEach es X.env).findIdx? (·.1)=none:=by rfl):PG X (.Tuple es k pos) (i7 X.K n t):=by
 intro pins s σ H v u Q I r hw
 obtain ⟨a,xs,e1,hq,hl,hw⟩:=hw
 subst e1
 cases r
 obtain ⟨its,rv,ht,hz⟩:=I.tuple hq
 refine assign_Tuple_tuple (I.ok.hd hc) ht (by simp [hn,<- hl,rv.length]) hst fun h' hx=>?_
 have I1:a7 X pins σ H { s with heap:=h' }:=I.kept (t':=s.toks) fun b o e=>hx b o (aY5 (aW0 e)) e
 exact h pins _ σ H xs _ Q I1 (by simpa using rv) hw
def sU (to ti:TE) (t:sT):TG:=fun v σ H Q=>to σ H fun o H1=>ti σ H1 fun i H2=>t o i v H2 fun H3=>Q σ H3
theorem ad5 {o i:Expr}{to ti:TE}{t:sT} (ho:PE X o to) (hi:PE X i ti) (hs:xQ X t)
  (ha:∀ v,assign (.Subscript o i pos) X.env v=(do
   let ov <- holding [v] (eval o X.env)
   let iv <- holding [v,ov] (eval i X.env)
   standAt pos
   holding [v,ov,iv] (setItem ov iv v)
   release [v,ov,iv] []):=by intro _; rfl):PG X (.Subscript o i pos) (sU to ti t):=by
 intro pins s σ H v u Q I r h
 rw [ha]
 refine aU6 (bd9 (aM (ho pins s σ H _ I h) fun ov s1 ⟨x,H1,I1,r1,q1⟩=>?_))
 refine aU6 (bd9 (aM (hi pins s1 σ H1 _ I1 q1) fun iv s2 ⟨y,H2,I2,r2,q2⟩=>?_))
 refine aU6 (wpAny_standAt (aU6 (bd9 (aM (hs pins s2 σ H2 x y v ov iv u _ I2 r1 r2 r q2) fun _ s3 ⟨H3,I3,q3⟩=>?_))))
 exact wpAny_release ⟨σ,H3,I3,q3⟩
def jE (te:TE) (g:TG):TS:=fun D σ H=>te σ H fun x H1=>g x σ H1 D.nx
theorem xR {tg e:Expr}{te:TE}{g:TG} (he:PE X e te) (hg:PG X tg g) (hs:swapsWithSole [tg] e pos.line X.env=pure false:=by rfl) (hw:swappedStores [tg] e X.env=pure none:=by rfl)
  (h1:(assignEach [tg] X.env).map (·.2) = [assign tg X.env]:=by rfl):PS X (.Assign [tg] e pos) (jE te g):=by
 intro pins s σ H D I h
 refine wpAny_Assign_stores (aM (he pins s σ H _ I h) fun v s1 ⟨x,H1,I1,r1,q1⟩=>?_) hs hw
 rw [h1]
 exact aM (hg pins s1 σ H1 x v _ I1 r1 q1) fun _ s2 q=>q
theorem xS {i:Nat}{x:Str}{e:Expr}{te:TE}{pos':Pos} (hN:X.N.Nodup) (hi:X.N[i]? = some x) (hx:gV X.env.scope x) (he:PE X e te) (hs:swapsWith e (some (.Name x pos')) pos.line X.env=pure false:=by rfl) (hf:X.fn x=true ∨ X.env.scope.names.lookup x=some .local:=by first | exact .inl rfl | exact .inr rfl | assumption) :
  PS X (.Assign [.Name x pos'] e pos) (jE te (bP i)):=by
 intro pins s σ H D I h
 refine wpAny_Assign_Name (aM (he pins s σ H _ I h) fun v s1 ⟨y,H1,I1,r1,q1⟩=>?_) hs
 exact xH I1 hN hi hx r1 (fun s2 I2=>⟨_,H1,I2,q1⟩) hf
end
section
variable {X : Cx} {pos : Pos}
def xT (c:TT) (tb:TS):TS:=fun D σ H=>∃ W:Nat->St->Hp->Prop,(∃ m,W m σ H)/\∀ m σ H,W m σ H->
 c σ H fun b H1=>if b=true then ∃ N:St->Hp->Prop,(∀ σ' H',N σ' H'->∃ m',m' < m/\W m' σ' H')/\tb { D with nx:=N,ct:=N,bk:=D.nx } σ H1 else D.nx σ H1
theorem ad6 {c:Expr}{body:List Stmt}{tc:TT}{tb:TS} (hp:PassesOwn (model X.prog X.w) X.A X.env X.xe) (hc:PT X c tc) (hb:dD X body tb):PS X (.While c body [] pos) (xT tc tb):=by
 intro pins s σ H D I h
 obtain ⟨W,⟨m0,w0⟩,turn⟩:=h
 refine wpAny_While (codeAny_whileLoop (fun n s'=>∃ σ' H',a7 X pins σ' H' s'/\W n σ' H') ?_ m0 ⟨σ,H,I,w0⟩)
 rintro n s1 ⟨σ1,H1,I1,w1⟩
 refine bg9 hp (aM (hc pins s1 σ1 H1 _ I1 (turn n σ1 H1 w1)) fun b s2 ⟨H2,I2,q2⟩=>?_)
 cases b with
 | true=>
  obtain ⟨N,hN,q2⟩:=q2
  rw [if_pos rfl]
  refine bg9 hp (aM (hb pins s2 σ1 H2 _ I2 q2) fun f s3 q3=>?_)
  cases f with
  | next=>
   obtain ⟨σ3,H3,I3,n3⟩:=q3
   obtain ⟨m',hm,w3⟩:=hN σ3 H3 n3
   exact⟨m',hm,σ3,H3,I3,w3⟩
  | cont=>
   obtain ⟨σ3,H3,I3,n3⟩:=q3
   obtain ⟨m',hm,w3⟩:=hN σ3 H3 n3
   exact⟨m',hm,σ3,H3,I3,w3⟩
  | brk=>exact q3
  | ret v=>exact q3
 | false=>
  rw [if_neg aW9]
  exact wpAny_execs_nil ⟨σ1,H2,I2,q2⟩
end
structure It where
 go:Nat->Hp->Prop
 yld:Nat->Hp->V->Hp->Prop
 stop:Nat->Hp->Prop
def g9 (X:Cx) (pins:List (Addr × Obj)) (H:Hp) (b:Addr):Prop:=
 H b=none/\b ≠ X.env.locals/\b ∉ X.fs/\(b ∈ X.ex ∨ X.s₀.heap.objs.size<=b)/\(∀ x c,X.env.cells.lookup x=some c->c ≠ b)/\∀ p ∈ X.pn ++ pins,p.1 ≠ b
theorem a7.fpOk {X:Cx}{pins:List (Addr × Obj)}{σ:St}{H H':Hp}{s:Shared}{b:Addr} (I:a7 X pins σ H s) (hb:s.heap.objs.size<=b) (hn:H' b=none):g9 X pins H' b:=by
 refine⟨hn,bc2 (aW2 I.lt hb),I.nofs hb,.inr (aY8 I.sz hb),fun x c e z=>?_,fun p hp z=>?_⟩
 ·obtain ⟨v,q⟩:=I.cell x c e
  exact absurd (aW2 q.lt (by rw [z]; exact hb)) (aZ9 _)
 ·exact absurd (aW2 (aW0 (I.pin p hp).1) (by rw [z]; exact hb)) (aZ9 _)
structure gD (P:Program) (w:World) (K:PySem.W.Frag) (tg:Expr) (J:It) (fp:List Addr) (it:Addr) (tn:Nat->Heap->Prop):Prop where
 mem:it ∈ fp
 obj:∀ i h,tn i h->∀ b ∈ fp,∃ o,h.get? b=some o/\∀ v,o.data ≠ .cell v
 keep:∀ i h h',tn i h->(∀ b ∈ fp,∀ o,h.get? b=some o->h'.get? b=some o)->tn i h'
 item:∀ (X:Cx),X.prog=P->X.w=w->X.K=K->X.calm=true->∀ (i:Nat) (pins:List (Addr × Obj)) (s:Shared) (σ:St) (H:Hp) (E:Value->Shared->Prop),a7 X pins σ H s->(∀ b ∈ fp,g9 X pins H b)->tn i s.heap->J.go i H->
  wpAny (model P w) X.A (pyNext (.ref it)) (fun r s1=>∃ u,r=some u/\
   wpAny (model P w) X.A (letOwnedTupleGo tg (.ref it) u) (fun _ s2=>∃ x H',a7 X pins σ H' s2/\aR x u/\J.yld i H x H'/\tn (i+1) s2.heap/\∀ b ∈ fp,H' b=none) E s1) E s
 done:∀ (X:Cx),X.prog=P->X.w=w->X.K=K->X.calm=true->∀ (i:Nat) (pins:List (Addr × Obj)) (s:Shared) (σ:St) (H:Hp) (E:Value->Shared->Prop),a7 X pins σ H s->(∀ b ∈ fp,g9 X pins H b)->tn i s.heap->J.stop i H->
  wpAny (model P w) X.A (pyNext (.ref it)) (fun r s1=>r=none/\a7 X pins σ H s1) E s
 self:∀ (A:Around) (i:Nat) (s:Shared) (Q:Value->Shared->Prop) (E:Value->Shared->Prop),tn i s.heap->Q (.ref it) s->wpAny (model P w) A (pyIter (.ref it)) Q E s
abbrev TI:=St->Hp->(It->Hp->Prop)->Prop
def xU (X:Cx) (pins:List (Addr × Obj)) (σ:St) (tg:Expr) (R:It->Hp->Prop) (itv:Value) (s2:Shared):Prop:=
 ∃ (it:Addr) (fp:List Addr) (tn:Nat->Heap->Prop) (J:It) (H':Hp),itv = .ref it/\a7 X pins σ H' s2/\gD X.prog X.w X.K tg J fp it tn/\tn 0 s2.heap/\(∀ b ∈ fp,g9 X pins H' b)/\R J H'
def PI (X:Cx) (tg iter:Expr) (wi:TI):Prop:=
 ∀ (pins:List (Addr × Obj)) (s:Shared) (σ:St) (H:Hp) (R:It->Hp->Prop),a7 X pins σ H s->wi σ H R->
  wpAny (model X.prog X.w) X.A (eval iter X.env) (fun v s1=>wpAny (model X.prog X.w) X.A (pyIter v) (xU X pins σ tg R) X.xe s1) X.xe s
theorem mS {M:Model}{A:Around}{E:Value->Shared->Prop}{s:Shared}{tg:Expr}{it:Addr}{u:Value}{o:Obj}{n:String}{vs:Array Value}{Q:Unit->Shared->Prop} (ho:s.heap.get? it=some o) (hc:o.cls = .type n) (hd:o.data = .fields vs)
    (hn : ["enumerate","zip","dict_itemiterator","dict_reverseitemiterator","odict_iterator","itertools.zip_longest","itertools.pairwise"].contains n=false) (hQ:Q () s):wpAny M A (letOwnedTupleGo tg (.ref it) u) Q E s:=by
  unfold letOwnedTupleGo
  cases tg <;> first
    | exact aV4 hQ
    | (cases u <;> first
        | exact aV4 hQ
        | (refine aU6 (wpAny_load ho ?_)
           rw [hc,hd]
           show wpAny M A (if (["enumerate","zip","dict_itemiterator","dict_reverseitemiterator","odict_iterator","itertools.zip_longest","itertools.pairwise"].contains n && vs[0]? == some (rawInt _))=true then _ else _) Q E s
           rw [if_neg (by intro h; rw [hn,Bool.false_and] at h; cases h)]
           exact aV4 hQ))
def lC (K:PySem.W.Frag) (a:Addr):It:=
 ⟨fun i H=>∃ xs x,aJ K H a xs/\xs[i]? = some x,fun i H x H'=>H'=H/\∀ xs,aJ K H a xs->xs[i]? = some x,fun i H=>∃ xs,aJ K H a xs/\xs.length<=i⟩
def jF (K:PySem.W.Frag) (a:Addr):It:=
 ⟨fun i H=>∃ xs x,aG K H a xs/\xs[i]? = some x,fun i H x H'=>H'=H/\∀ xs,aG K H a xs->xs[i]? = some x,fun i H=>∃ xs,aG K H a xs/\xs.length<=i⟩
def mT (lo:Int) (n:Nat):It:=⟨fun i _=>i < n,fun i H x H'=>H'=H/\x = .int (lo+i),fun i _=>n<=i⟩
theorem ad7 {P:Program}{w:World}{K:PySem.W.Frag}{tg:Expr} (a it:Addr):gD P w K tg (lC K a) [it] it (fun i h=>h.IsListIter it a i) where
 mem:=by simp
 obj:=fun i h st b hb=>by
  have e:b=it:=by simpa using hb
  subst e
  obtain ⟨o,e,c,d⟩:=st
  exact⟨o,e,fun v z=>by rw [d] at z; cases z⟩
 keep:=fun i h h' st k=>st.at fun o e=>k it (by simp) o e
 item:=by
  intro X hP hw hK hc i pins s σ H E I hf st hg
  subst hP hw hK
  obtain ⟨xs,x,hq,hx⟩:=hg
  obtain ⟨its,rv,p,hz⟩:=I.list hq
  obtain ⟨u,hu,ru⟩:=rv.get hx
  obtain ⟨f0,f1,f2,f3,f4,f5⟩:=hf it (by simp)
  refine wpAny_pyNext_list_item st p.isList (x:=u) (by simpa using hu) fun h' st' sb=>?_
  have I1:a7 X pins σ H { s with heap:=h' }:=I.turned (t':=s.toks) (fun b o hb e=>(sb.2 b hb).trans e) f0 f1 f3 f4 f5
  obtain ⟨o,e,c,d⟩:=id st'
  exact⟨u,rfl,mS (s:={ s with heap:=h' }) e c d (by decide) ⟨x,H,I1,ru,⟨rfl,fun ys hy=>by rw [I.list_inj hy hq]; exact hx⟩,st',fun b hb=>(hf b hb).1⟩⟩
 done:=by
  intro X hP hw hK hc i pins s σ H E I hf st hg
  subst hP hw hK
  obtain ⟨xs,hq,hx⟩:=hg
  obtain ⟨its,rv,p,hz⟩:=I.list hq
  obtain ⟨f0,f1,f2,f3,f4,f5⟩:=hf it (by simp)
  have hl:=rv.length
  exact wpAny_pyNext_list_end (I.ok.hd hc) st p.isList (by simp; omega) fun h' eb=>⟨rfl,I.turned (t':=s.toks) (fun b o hb e=>eb b o hb e) f0 f1 f3 f4 f5⟩
 self:=fun _ _ _ _ _ st h=>wpAny_pyIter_listiter st h
theorem xV {P:Program}{w:World}{K:PySem.W.Frag}{tg:Expr} (a it:Addr):gD P w K tg (jF K a) [it] it (fun i h=>h.IsTupleIter it a i) where
 mem:=by simp
 obj:=fun i h st b hb=>by
  have e:b=it:=by simpa using hb
  subst e
  obtain ⟨o,e,c,d⟩:=st
  exact⟨o,e,fun v z=>by rw [d] at z; cases z⟩
 keep:=fun i h h' st k=>st.at fun o e=>k it (by simp) o e
 item:=by
  intro X hP hw hK hc i pins s σ H E I hf st hg
  subst hP hw hK
  obtain ⟨xs,x,hq,hx⟩:=hg
  obtain ⟨its,rv,p,hz⟩:=I.tuple hq
  obtain ⟨u,hu,ru⟩:=rv.get hx
  obtain ⟨f0,f1,f2,f3,f4,f5⟩:=hf it (by simp)
  refine wpAny_pyNext_tuple_item st (show s.heap.IsTuple a its.toArray from p) (x:=u) (by simpa using hu) fun h' st' sb=>?_
  have I1:a7 X pins σ H { s with heap:=h' }:=I.turned (t':=s.toks) (fun b o hb e=>(sb.2 b hb).trans e) f0 f1 f3 f4 f5
  obtain ⟨o,e,c,d⟩:=id st'
  exact⟨u,rfl,mS (s:={ s with heap:=h' }) e c d (by decide) ⟨x,H,I1,ru,⟨rfl,fun ys hy=>by rw [I.tuple_inj hy hq]; exact hx⟩,st',fun b hb=>(hf b hb).1⟩⟩
 done:=by
  intro X hP hw hK hc i pins s σ H E I hf st hg
  subst hP hw hK
  obtain ⟨xs,hq,hx⟩:=hg
  obtain ⟨its,rv,p,hz⟩:=I.tuple hq
  obtain ⟨f0,f1,f2,f3,f4,f5⟩:=hf it (by simp)
  have hl:=rv.length
  exact wpAny_pyNext_tuple_end (I.ok.hd hc) st (show s.heap.IsTuple a its.toArray from p) (by simp; omega) fun h' eb=>⟨rfl,I.turned (t':=s.toks) (fun b o hb e=>eb b o hb e) f0 f1 f3 f4 f5⟩
 self:=fun _ _ _ _ _ st h=>wpAny_pyIter_tupleiter st h
theorem ad8 {P:Program}{w:World}{K:PySem.W.Frag}{tg:Expr} (it:Addr) (lo:Int) (n:Nat):gD P w K tg (mT lo n) [it] it (fun i h=>IsRangeIter h it (lo+(i:Nat) * 1) ((n:Int) - (i:Nat)) 1) where
 mem:=by simp
 obj:=fun i h st b hb=>by
  have e:b=it:=by simpa using hb
  subst e
  exact⟨_,st,fun v z=>by
   have z':Data.fields _=Data.cell v:=z
   cases z'⟩
 keep:=fun i h h' st k=>k it (by simp) _ st
 item:=by
  intro X hP hw hK hc i pins s σ H E I hf st hg
  subst hP hw hK
  obtain ⟨f0,f1,f2,f3,f4,f5⟩:=hf it (by simp)
  have W:=Walks.range (prog:=X.prog) (w:=X.w) (I.ok.hd hc) it lo 1 n
  refine W.item i s _ _ hg st fun v h' tk hv st' kk=>?_
  obtain ⟨t,rfl⟩:=hv
  have I1:a7 X pins σ H { s with heap:=h',toks:=tk }:=I.turned (fun b o hb e=>kk b o (by simpa using hb) e) f0 f1 f3 f4 f5
  refine⟨_,rfl,mS (s:={ s with heap:=h',toks:=tk }) (n:="range_iterator") st' rfl rfl (by decide) ⟨.int (lo+i),H,I1,⟨t,?_⟩,⟨rfl,rfl⟩,st',fun b hb=>(hf b hb).1⟩⟩
  rw [Int.mul_one]
 done:=by
  intro X hP hw hK hc i pins s σ H E I hf st hg
  subst hP hw hK
  obtain ⟨f0,f1,f2,f3,f4,f5⟩:=hf it (by simp)
  exact wpAny_pyNext_range_end (I.ok.hd hc) st (by have:n<=i:=hg; omega) fun h' eb=>⟨rfl,I.turned (t':=s.toks) (fun b o hb e=>eb b o hb e) f0 f1 f3 f4 f5⟩
 self:=fun _ _ _ _ _ st h=>wpAny_pyIter_rangeiter st h
section
variable {X : Cx} {tg : Expr}
def ad9 (K:PySem.W.Frag) (tl:TE):TI:=fun σ H R=>tl σ H fun x H1=>∃ a,x = .ref a/\(∃ xs,aG K H1 a xs)/\R (jF K a) H1
theorem xW {l:Expr}{tl:TE} (hl:PE X l tl):PI X tg l (ad9 X.K tl):=by
 intro pins s σ H R I h
 refine aM (hl pins s σ H _ I h) fun v s1 ⟨x,H1,I1,r1,q1⟩=>?_
 obtain ⟨a,e,⟨xs,hq⟩,q⟩:=q1
 subst e
 cases r1
 obtain ⟨its,rv,p,hz⟩:=I1.tuple hq
 refine be7 (show s1.heap.IsTuple a its.toArray from p) ?_
 refine⟨s1.heap.objs.size,[s1.heap.objs.size],_,_,H1,rfl,I1.kept (t':=s1.toks) fun b o e=>aU7 _ e,xV a _,⟨_,aV8 _ rfl,rfl,rfl⟩,fun b hb=>?_,q⟩
 have e:b=s1.heap.objs.size:=by simpa using hb
 subst e
 exact I1.fpOk (aV0 _) (I1.hok.fresh (aV0 _))
theorem xX {pins:List (Addr × Obj)}{σ:St}{H:Hp}{s:Shared}{R:It->Hp->Prop}{E:Value->Shared->Prop}{lo hi:Int}{t u v:Tok}{tk:Nat} (I:a7 X pins σ H s) (h1 : -(2 ^ 62)<=lo) (h2:lo < 2 ^ 62) (h3 : -(2 ^ 62)<=hi) (h4:hi < 2 ^ 62)
  (q:R (mT lo (hi - lo).toNat) H):wpAny (model X.prog X.w) X.A (pyIter (.ref s.heap.objs.size)) (xU X pins σ tg R) E { s with heap:=s.heap.push { cls:=.type "range",data:=.fields #[.int lo t,.int hi u,.int 1 v] },toks:=tk }:=by
 refine wpAny_pyIter_range (IsRange.new ..) (small_one h1 h2 h3 h4) ?_
 have I1:a7 X pins σ H { s with heap:=s.heap.push { cls:=.type "range",data:=.fields #[.int lo t,.int hi u,.int 1 v] },toks:=tk }:=I.kept fun b o e=>aU7 _ e
 refine⟨(s.heap.push { cls:=.type "range",data:=.fields #[.int lo t,.int hi u,.int 1 v] }).objs.size,[(s.heap.push { cls:=.type "range",data:=.fields #[.int lo t,.int hi u,.int 1 v] }).objs.size],_,_,H,rfl,
  I1.kept (t':=tk) fun b o e=>aU7 _ e,ad8 _ lo (hi - lo).toNat,?_,fun b hb=>?_,q⟩
 ·have e1:lo+((0:Nat):Int) * 1=lo:=by simp
  have e2:(((hi - lo).toNat:Nat):Int) - ((0:Nat):Int)=Builtin.Range.rangeSize lo hi 1:=by rw [rangeSize_one]; split <;> omega
  show IsRangeIter _ _ (lo+((0:Nat):Int) * 1) ((((hi - lo).toNat:Nat):Int) - ((0:Nat):Int)) 1
  rw [e1,e2]
  exact aV8 _ rfl
 ·have e:b=(s.heap.push { cls:=.type "range",data:=.fields #[.int lo t,.int hi u,.int 1 v] }).objs.size:=by simpa using hb
  subst e
  exact I1.fpOk (aV0 _) (I1.hok.fresh (aV0 _))
def xY (ta:TA):TI:=fun σ H R=>ta σ H fun vs H1=>∃ j:Int,vs = [.int j]/\-(2 ^ 62)<=j/\j < 2 ^ 62/\R (mT 0 j.toNat) H1
def xZ (ta:TA):TI:=fun σ H R=>ta σ H fun vs H1=>∃ i j:Int,vs = [.int i,.int j]/\(-(2 ^ 62)<=i/\i < 2 ^ 62/\-(2 ^ 62)<=j/\j < 2 ^ 62)/\R (mT i (j - i).toNat) H1
theorem ae0 {a:Expr}{ta:TA}{p pos:Pos} (hg:Gl X "range") (hm:X.mg "range" = none) (ha:PA X [a] ta) (hs:starEach [a] X.env = [(false,eval a X.env)]:=by rfl):PI X tg (.Call (.Name "range" p) [a] [] pos) (xY ta):=by
 intro pins s σ H R I h
 refine Call_ (i5 I hg hm boot_range (aZ8 (aM (ha pos pins s σ H _ I h) fun us s1 ⟨vs,H1,I1,r1,q1⟩=>?_) hs rfl))
 obtain ⟨j,e,q1,q2,q⟩:=q1
 subst e
 cases r1 with
 | cons r rr=>
  cases rr
  obtain ⟨t,rfl⟩:=r
  exact call_range_1 (xX I1 (by omega) (by omega) q1 q2 (by simpa using q))
theorem ae1 {a b:Expr}{ta:TA}{p pos:Pos} (hg:Gl X "range") (hm:X.mg "range" = none) (ha:PA X [a,b] ta) (hs:starEach [a,b] X.env = [(false,eval a X.env),(false,eval b X.env)]:=by rfl) (hs2:starEach [b] X.env = [(false,eval b X.env)]:=by rfl) :
  PI X tg (.Call (.Name "range" p) [a,b] [] pos) (xZ ta):=by
 intro pins s σ H R I h
 refine Call_ (i5 I hg hm boot_range (aZ8 (aM (ha pos pins s σ H _ I h) fun us s1 ⟨vs,H1,I1,r1,q1⟩=>?_) (by rw [hs,hs2]) (by rw [hs2]; rfl)))
 obtain ⟨i,j,e,⟨q1,q2,q3,q4⟩,q⟩:=q1
 subst e
 cases r1 with
 | cons r rr=>
  cases rr with
  | cons r' rr=>
   cases rr
   obtain ⟨t,rfl⟩:=r
   obtain ⟨t',rfl⟩:=r'
   exact call_range_2 (xX I1 q1 q2 q3 q4 q)
def y3 (wi:TI) (g:TG) (tb:TS):TS:=fun D σ H=>wi σ H fun J H1=>∃ W:Nat->Nat->St->Hp->Prop,(∃ m,W 0 m σ H1)/\∀ i m σ H,W i m σ H->
 (J.stop i H/\D.nx σ H) ∨ (J.go i H/\∃ N:St->Hp->Prop,(∀ σ' H',N σ' H'->∃ m',m' < m/\W (i+1) m' σ' H')/\∀ x H',J.yld i H x H'->g x σ H' fun σ2 H2=>tb { D with nx:=N,ct:=N,bk:=D.nx } σ2 H2)
def mU (fp:List Addr) (h:Heap):List (Addr × Obj):=fp.filterMap fun b=>(h.get? b).map fun o=>(b,o)
theorem oX {fp:List Addr}{h:Heap}{b:Addr}{o:Obj} (hb:b ∈ fp) (e:h.get? b=some o):(b,o) ∈ mU fp h:=List.mem_filterMap.mpr ⟨b,hb,by rw [e]; rfl⟩
theorem ae2 {fp:List Addr}{h:Heap}{p:Addr × Obj} (hp:p ∈ mU fp h):p.1 ∈ fp/\h.get? p.1=some p.2:=by
 obtain ⟨b,hb,e⟩:=List.mem_filterMap.mp hp
 cases q:h.get? b with
 | none=>rw [q] at e; cases e
 | some o=>
  rw [q] at e
  have e':(b,o)=p:=aX6 e
  subst e'
  exact⟨hb,q⟩
theorem a7.pinned {pins:List (Addr × Obj)}{σ:St}{H:Hp}{s:Shared}{fp:List Addr} (I:a7 X pins σ H s) (hf:∀ b ∈ fp,g9 X pins H b) (ho:∀ b ∈ fp,∃ o,s.heap.get? b=some o/\∀ v,o.data ≠ .cell v):a7 X (pins ++ mU fp s.heap) σ H s:=
 I.pins_of fun p hp=>(aX3.mp hp).elim (fun z=>I.pin p (aX1 _ z)) fun z=>by
  obtain ⟨hb,e⟩:=ae2 z
  obtain ⟨f0,f1,f2,_⟩:=hf p.1 hb
  obtain ⟨o,e',d⟩:=ho p.1 hb
  rw [e] at e'; cases e'
  exact⟨e,f0,f1,f2,d⟩
theorem a7.unpinned {pins pl:List (Addr × Obj)}{σ:St}{H:Hp}{s:Shared} (I:a7 X (pins ++ pl) σ H s):a7 X pins σ H s:=I.pins_of fun p hp=>I.pin p (aX1 _ (aZ0 _ hp))
theorem y4 {iter:Expr}{body:List Stmt}{wi:TI}{g:TG}{tb:TS}{pos:Pos} (hp:PassesOwn (model X.prog X.w) X.A X.env X.xe) (hc:X.calm=true) (hi:PI X tg iter wi) (hg:PG X tg g) (hb:dD X body tb)
  (hs:∀ x,foldedSetIterable iter X.env x=pure x:=by intro _; rfl):PS X (.For tg iter body [] pos) (y3 wi g tb):=by
 intro pins s σ H D I h
 refine wpAny_For (aM (hi pins s σ H _ I h) fun v s1 h1=>aM h1 fun itv s2 h2=>?_) hs
 obtain ⟨it,fp,tn,J,H2,e,I2,T,st2,f2,W,⟨m0,w0⟩,turn⟩:=h2
 subst e
 have stat:∀ {H':Hp},(∀ b ∈ fp,H' b=none)->∀ b ∈ fp,g9 X pins H' b:=fun hn b hb=>⟨hn b hb,(f2 b hb).2⟩
 refine codeAny_forLoop_any (fun n s'=>∃ i σ' H',a7 X pins σ' H' s'/\tn i s'.heap/\(∀ b ∈ fp,H' b=none)/\W i n σ' H') ?_ m0 ⟨0,σ,H2,I2,st2,fun b hb=>(f2 b hb).1,w0⟩
 rintro n s3 ⟨i,σ3,H3,I3,st3,fr3,w3⟩
 rcases turn i n σ3 H3 w3 with ⟨stop,qn⟩ | ⟨go,N,hN,step⟩
 ·refine bg9 hp (aM (T.done X rfl rfl rfl hc i pins s3 σ3 H3 X.xe I3 (stat fr3) st3 stop) fun r s4 ⟨hr,I4⟩=>?_)
  subst hr
  exact wpAny_execs_nil ⟨σ3,H3,I4,qn⟩
 ·refine bg9 hp (aM (T.item X rfl rfl rfl hc i pins s3 σ3 H3 X.xe I3 (stat fr3) st3 go) fun r s4 ⟨u,hr,h4⟩=>?_)
  subst hr
  refine bg9 hp (aM h4 fun _ s5 ⟨x,H5,I5,r5,y5,st5,fr5⟩=>?_)
  have I5':=I5.pinned (stat fr5) (T.obj _ _ st5)
  refine bg9 hp (aM (hg _ s5 σ3 H5 x u _ I5' r5 (step x H5 y5)) fun _ s6 ⟨σ6,H6,I6,q6⟩=>?_)
  refine bg9 hp (aM (hb _ s6 σ6 H6 _ I6 q6) fun f s7 q7=>?_)
  have again:∀ {σ7:St}{H7:Hp},a7 X (pins ++ mU fp s5.heap) σ7 H7 s7->N σ7 H7->∃ m,m < n/\∃ i σ' H',a7 X pins σ' H' s7/\tn i s7.heap/\(∀ b ∈ fp,H' b=none)/\W i m σ' H':=fun {σ7 H7} I7 n7=>by
   obtain ⟨m',hm,w7⟩:=hN σ7 H7 n7
   refine⟨m',hm,i+1,σ7,H7,I7.unpinned,T.keep _ _ _ st5 fun b hb o e=>(I7.pin (b,o) (aX1 _ (aX1 _ (oX hb e)))).1,fun b hb=>?_,w7⟩
   obtain ⟨o,e,d⟩:=T.obj _ _ st5 b hb
   exact (I7.pin (b,o) (aX1 _ (aX1 _ (oX hb e)))).2.1
  cases f with
  | next=>obtain ⟨σ7,H7,I7,n7⟩:=q7; exact again I7 n7
  | cont=>obtain ⟨σ7,H7,I7,n7⟩:=q7; exact again I7 n7
  | brk=>obtain ⟨σ7,H7,I7,q7⟩:=q7; exact⟨σ7,H7,I7.unpinned,q7⟩
  | ret v=>obtain ⟨x7,σ7,H7,I7,r7,q7⟩:=q7; exact⟨x7,σ7,H7,I7.unpinned,r7,q7⟩
end
theorem aU2 {K:PySem.W.Frag}{a:Addr}{xs:List V}{g:TG}{tb:TS}{D:cJ}{σ:St}{H:Hp} (Pv:Nat->St->Hp->Prop) (h0:Pv 0 σ H) (hl:∀ i σ H,i<=xs.length->Pv i σ H->aJ K H a xs)
  (hs:∀ i x σ H,xs[i]? = some x->Pv i σ H->g x σ H fun σ2 H2=>tb { D with nx:=Pv (i+1),ct:=Pv (i+1),bk:=D.nx } σ2 H2) (hd:∀ σ H,Pv xs.length σ H->D.nx σ H) :
  ∃ W:Nat->Nat->St->Hp->Prop,(∃ m,W 0 m σ H)/\∀ i m σ H,W i m σ H->
   ((lC K a).stop i H/\D.nx σ H) ∨ ((lC K a).go i H/\∃ N:St->Hp->Prop,(∀ σ' H',N σ' H'->∃ m',m' < m/\W (i+1) m' σ' H')/\∀ x H',(lC K a).yld i H x H'->g x σ H' fun σ2 H2=>tb { D with nx:=N,ct:=N,bk:=D.nx } σ2 H2):=by
 refine⟨fun i m σ H=>m=xs.length - i/\i<=xs.length/\Pv i σ H,⟨xs.length,by simp,aZ2 _,h0⟩,?_⟩
 rintro i m σ H ⟨rfl,hi,p⟩
 have q:=hl i σ H hi p
 by_cases hlt:i < xs.length
 ·refine .inr ⟨⟨xs,xs[i],q,by simp [hlt]⟩,Pv (i+1),fun σ' H' p'=>⟨xs.length - (i+1),by omega,rfl,hlt,p'⟩,fun x H' y=>?_⟩
  obtain ⟨e,y⟩:=y
  subst e
  exact hs i x σ _ (y xs q) p
 ·have e:i=xs.length:=by omega
  subst e
  exact .inl ⟨⟨xs,q,aV0 _⟩,hd σ H p⟩
theorem ae3 {K:PySem.W.Frag}{a:Addr}{xs:List V}{g:TG}{tb:TS}{D:cJ}{σ:St}{H:Hp} (Pv:Nat->St->Hp->Prop) (h0:Pv 0 σ H) (hl:∀ i σ H,i<=xs.length->Pv i σ H->aG K H a xs)
  (hs:∀ i x σ H,xs[i]? = some x->Pv i σ H->g x σ H fun σ2 H2=>tb { D with nx:=Pv (i+1),ct:=Pv (i+1),bk:=D.nx } σ2 H2) (hd:∀ σ H,Pv xs.length σ H->D.nx σ H) :
  ∃ W:Nat->Nat->St->Hp->Prop,(∃ m,W 0 m σ H)/\∀ i m σ H,W i m σ H->
   ((jF K a).stop i H/\D.nx σ H) ∨ ((jF K a).go i H/\∃ N:St->Hp->Prop,(∀ σ' H',N σ' H'->∃ m',m' < m/\W (i+1) m' σ' H')/\∀ x H',(jF K a).yld i H x H'->g x σ H' fun σ2 H2=>tb { D with nx:=N,ct:=N,bk:=D.nx } σ2 H2):=by
 refine⟨fun i m σ H=>m=xs.length - i/\i<=xs.length/\Pv i σ H,⟨xs.length,by simp,aZ2 _,h0⟩,?_⟩
 rintro i m σ H ⟨rfl,hi,p⟩
 have q:=hl i σ H hi p
 by_cases hlt:i < xs.length
 ·refine .inr ⟨⟨xs,xs[i],q,by simp [hlt]⟩,Pv (i+1),fun σ' H' p'=>⟨xs.length - (i+1),by omega,rfl,hlt,p'⟩,fun x H' y=>?_⟩
  obtain ⟨e,y⟩:=y
  subst e
  exact hs i x σ _ (y xs q) p
 ·have e:i=xs.length:=by omega
  subst e
  exact .inl ⟨⟨xs,q,aV0 _⟩,hd σ H p⟩
abbrev R2:=V->V->Hp->VK->Prop
def cD (X:Cx) (f:Value->Value->Sem Value) (r:R2):Prop:=
 ∀ (pins:List (Addr × Obj)) (s:Shared) (σ:St) (H:Hp) (x y:V) (v u:Value) (Q:VK),a7 X pins σ H s->aR x v->aR y u->r x y H Q->
  wpAny (model X.prog X.w) X.A (f v u) (EP X pins σ Q) X.xe s
def cK (X:Cx) (f:Value) (r:List V->Hp->VK->Prop):Prop:=
 ∀ (pins:List (Addr × Obj)) (s:Shared) (σ:St) (H:Hp) (xs:List V) (us:List Value) (Q:VK),a7 X pins σ H s->aN xs us->r xs H Q->
  wpAny (model X.prog X.w) X.A (call f us) (EP X pins σ Q) X.xe s
def ae4 (X:Cx) (r:V->Hp->(Bool->Hp->Prop)->Prop):Prop:=
 ∀ (pins:List (Addr × Obj)) (s:Shared) (σ:St) (H:Hp) (x:V) (v:Value) (Q:Bool->Hp->Prop),a7 X pins σ H s->aR x v->r x H Q->
  wpAny (model X.prog X.w) X.A (truthy v) (TP X pins σ Q) X.xe s
def mV (r:R2) (ta tb:TE):TE:=fun σ H Q=>ta σ H fun x H1=>tb σ H1 fun y H2=>r x y H2 Q
def rI (C:Int->Int->Prop) (g:Int->Int->V):R2:=fun x y H Q=>∃ i j,x = .int i/\y = .int j/\C i j/\Q (g i j) H
def iQ (g:Int->Int->V):R2:=fun x y H Q=>∃ i j,x = .int i/\y = .int j/\Q (g i j) H
section
variable {X : Cx} {a b c : Expr} {ta tb tc : TE} {pos : Pos}
theorem sV (ha:PE X a ta) (hb:PE X b tb) {pins:List (Addr × Obj)}{s:Shared}{σ:St}{H:Hp}{R:V->V->Hp->Prop} (I:a7 X pins σ H s)
  (h:ta σ H fun x H1=>tb σ H1 fun y H2=>R x y H2) {Q:Value->Shared->Prop}{f:Value->Value->Sem Value}
  (hf:∀ v u s2 x y H2,a7 X pins σ H2 s2->aR x v->aR y u->R x y H2->wpAny (model X.prog X.w) X.A (f v u) Q X.xe s2) :
  wpAny (model X.prog X.w) X.A (eval a X.env) (fun v s₁=>wpAny (model X.prog X.w) X.A (eval b X.env) (fun u s₂=>wpAny (model X.prog X.w) X.A (f v u) Q X.xe s₂) X.xe s₁) X.xe s:=by
 refine aM (ha pins s σ H _ I h) fun v s1 ⟨x,H1,I1,r1,q1⟩=>?_
 refine aM (hb pins s1 σ H1 _ I1 q1) fun u s2 ⟨y,H2,I2,r2,q2⟩=>?_
 exact hf v u s2 x y H2 I2 r1 r2 q2
theorem ae5 {op:Operator}{r:R2} (ho:cD X (binaryOp op) r) (ha:PE X a ta) (hb:PE X b tb):PE X (.BinOp a op b pos) (mV r ta tb):=by
 intro pins s σ H Q I h
 exact wpAny_BinOp (sV ha hb I h fun v u s2 x y H2 I2 rx ry q=>ho pins s2 σ H2 x y v u Q I2 rx ry q)
theorem oY {f:Value->Value->Sem Value}{C:Int->Int->Prop}{g:Int->Int->Int}
  (rule:∀ (i j:Int) (t u:Tok) (s:Shared) (Q:Value->Shared->Prop) (E:Value->Shared->Prop),C i j->Q (.int (g i j) s.toks) { s with toks:=s.toks+1 }->wpAny (model X.prog X.w) X.A (f (.int i t) (.int j u)) Q E s) :
  cD X f (rI C fun i j=>.int (g i j)):=by
 intro pins s σ H x y v u Q I rx ry h
 obtain ⟨i,j,rfl,rfl,hc,q⟩:=h
 obtain ⟨t,rfl⟩:=rx
 obtain ⟨t',rfl⟩:=ry
 exact rule i j t t' s _ _ hc ⟨.int (g i j),H,I.tok _,⟨_,rfl⟩,q⟩
theorem yA {f:Value->Value->Sem Value}{g:Int->Int->Int}
  (rule:∀ (i j:Int) (t u:Tok) (s:Shared) (Q:Value->Shared->Prop) (E:Value->Shared->Prop),Q (.int (g i j) s.toks) { s with toks:=s.toks+1 }->wpAny (model X.prog X.w) X.A (f (.int i t) (.int j u)) Q E s) :
  cD X f (iQ fun i j=>.int (g i j)):=by
 intro pins s σ H x y v u Q I rx ry h
 obtain ⟨i,j,rfl,rfl,q⟩:=h
 obtain ⟨t,rfl⟩:=rx
 obtain ⟨t',rfl⟩:=ry
 exact rule i j t t' s _ _ ⟨.int (g i j),H,I.tok _,⟨_,rfl⟩,q⟩
theorem sW {f:Value->Value->Sem Value}{g:Int->Int->Bool}
  (rule:∀ (i j:Int) (t u:Tok) (s:Shared) (Q:Value->Shared->Prop) (E:Value->Shared->Prop),Q (.bool (g i j)) s->wpAny (model X.prog X.w) X.A (f (.int i t) (.int j u)) Q E s) :
  cD X f (iQ fun i j=>.bl (g i j)):=by
 intro pins s σ H x y v u Q I rx ry h
 obtain ⟨i,j,rfl,rfl,q⟩:=h
 obtain ⟨t,rfl⟩:=rx
 obtain ⟨t',rfl⟩:=ry
 exact rule i j t t' s _ _ ⟨.bl (g i j),H,I,rfl,q⟩
def sX (i j:Int):Prop:=0 < j/\j < 1073741824
def mW (i j:Int):Prop:=(-(2 ^ 64) < i/\i < 2 ^ 64) ∨ (-(2 ^ 64) < j/\j < 2 ^ 64)
theorem mW.ok {i j:Int} (h:mW i j):IntMulOk i j:=by
 rcases h with ⟨h1,h2⟩ | ⟨h1,h2⟩
 ·exact .of_left (intBits_le_64 h1 h2)
 ·exact .of_right (intBits_le_64 h1 h2)
theorem ae6 (k:Nat):(0:Int)<=2 ^ k:=by
 rw [two_pow_cast]
 exact Int.natCast_nonneg _
theorem ae7:cD X (binaryOp .Add) (iQ fun i j=>.int (i+j)):=yA fun _ _ _ _ _ _ _ q=>add_int q
theorem ae8:cD X (binaryOp .Sub) (iQ fun i j=>.int (i - j)):=yA fun _ _ _ _ _ _ _ q=>sub_int q
theorem ae9:cD X (binaryOp .Mult) (rI mW fun i j=>.int (i * j)):=oY fun _ _ _ _ _ _ _ hc q=>mul_int q hc.ok
theorem af0:cD X (binaryOp .FloorDiv) (rI sX fun i j=>.int (i / j)):=oY fun i j _ _ _ _ _ hc q=>by
 have h1:(0:Int) < j:=hc.1
 have h2:j < 1073741824:=hc.2
 exact floordiv_int (by omega) (by rw [Int.fdiv_eq_ediv_of_nonneg i (by omega)]; exact q) (.inl (PyProof.noPylong_small (by omega)))
theorem af1:cD X (binaryOp .Mod) (rI (fun _ j=>0 < j) fun i j=>.int (i % j)):=oY fun i j _ _ _ _ _ hc q=>by
 have h1:(0:Int) < j:=hc
 exact mod_int' (by omega) (by rw [Int.fmod_eq_emod_of_nonneg i (by omega)]; exact q)
theorem af2:cD X (binaryOp .RShift) (rI (fun _ j=>0<=j) fun i j=>.int (i / 2 ^ j.toNat)):=oY fun i j _ _ _ _ _ hc q=>
 rshift_int hc (by rw [Int.fdiv_eq_ediv_of_nonneg i (ae6 _)]; exact q)
end
def yB:V->V->Bool
 | .non,.non=>true | .non,.int _=>true | .int _,.non=>true | .non,.bl _=>true | .bl _,.non=>true | .non,.str _=>true | .str _,.non=>true
 | .int _,.int _=>true | .bl _,.bl _=>true | .str _,.str _=>true | .byt _,.byt _=>true
 | .int _,.str _=>true | .str _,.int _=>true | .bl _,.str _=>true | .str _,.bl _=>true
 | _,_=>false
def yC:R2:=fun x y H Q=>yB x y=true/\Q (.bl (decide (x=y))) H
def yD:R2:=fun x y H Q=>yB x y=true/\Q (.bl (!decide (x=y))) H
theorem yE {i j:Int}:decide (V.int i=V.int j)=(i == j):=by
 rw [bd4]
 simp
theorem yF {i j:Bool}:decide (V.bl i=V.bl j)=(i == j):=by
 rw [bd4]
 simp
theorem yG {i j:Str}:decide (V.str i=V.str j)=(i == j):=by
 rw [bd4]
 simp
theorem yH {i j:Array UInt8}:decide (V.byt i=V.byt j)=(i.toList == j.toList):=by
 rw [bd4]
 cases i
 cases j
 simp
section
variable {X : Cx} {a b c : Expr} {ta tb tc : TE} {pos : Pos}
theorem bY {pins:List (Addr × Obj)}{σ:St}{H:Hp}{s:Shared}{Q:VK}{k k':Bool} (I:a7 X pins σ H s) (q:Q (.bl k) H) (e:k=k'):EP X pins σ Q (.bool k') s:=by
 subst e
 exact⟨.bl k,H,I,rfl,q⟩
theorem yI:cD X (compareOp .Eq) yC:=by
 intro pins s σ H x y v u Q I rx ry h
 obtain ⟨hs,q⟩:=h
 cases x with
 | non=>
  cases rx
  cases y with
  | non=>cases ry; exact PySem.EqNone.eq_none_none (bY I q (by simp))
  | bl j=>cases ry; exact PySem.EqNone.eq_none_bool (bY I q (by simp))
  | int j=>obtain ⟨t',rfl⟩:=ry; exact PySem.EqNone.eq_none_int (bY I q (by simp))
  | str j=>obtain ⟨t',rfl⟩:=ry; exact PySem.EqNone.eq_none_str (bY I q (by simp))
  | _=>exact absurd (show false=true from hs) aW9
 | bl i=>
  cases rx
  cases y with
  | non=>cases ry; exact PySem.EqNone.eq_bool_none (bY I q (by simp))
  | bl j=>cases ry; exact eq_bool (bY I q yF)
  | str j=>obtain ⟨t',rfl⟩:=ry; exact PySem.EqMixed.eq_bool_str (bY I q (by simp))
  | _=>exact absurd (show false=true from hs) aW9
 | int i=>
  obtain ⟨t,rfl⟩:=rx
  cases y with
  | non=>cases ry; exact PySem.EqNone.eq_int_none (bY I q (by simp))
  | int j=>obtain ⟨t',rfl⟩:=ry; exact eq_int (bY I q yE)
  | str j=>obtain ⟨t',rfl⟩:=ry; exact PySem.EqMixed.eq_int_str (bY I q (by simp))
  | _=>exact absurd (show false=true from hs) aW9
 | str i=>
  obtain ⟨t,rfl⟩:=rx
  cases y with
  | non=>cases ry; exact PySem.EqNone.eq_str_none (bY I q (by simp))
  | bl j=>cases ry; exact PySem.EqMixed.eq_str_bool (bY I q (by simp))
  | int j=>obtain ⟨t',rfl⟩:=ry; exact PySem.EqMixed.eq_str_int (bY I q (by simp))
  | str j=>obtain ⟨t',rfl⟩:=ry; exact eq_str (bY I q yG)
  | _=>exact absurd (show false=true from hs) aW9
 | byt i=>
  obtain ⟨t,rfl⟩:=rx
  cases y with
  | byt j=>obtain ⟨t',rfl⟩:=ry; exact PySem.W.eq_bytes (bY I q yH)
  | _=>exact absurd (show false=true from hs) aW9
 | _=>cases y <;> exact absurd (show false=true from hs) aW9
theorem yJ:cD X (compareOp .NotEq) yD:=by
 intro pins s σ H x y v u Q I rx ry h
 obtain ⟨hs,q⟩:=h
 cases x with
 | non=>
  cases rx
  cases y with
  | non=>cases ry; exact PySem.EqNone.ne_none_none (bY I q (by simp))
  | bl j=>cases ry; exact PySem.EqNone.ne_none_bool (bY I q (by simp))
  | int j=>obtain ⟨t',rfl⟩:=ry; exact PySem.EqNone.ne_none_int (bY I q (by simp))
  | str j=>obtain ⟨t',rfl⟩:=ry; exact PySem.EqNone.ne_none_str (bY I q (by simp))
  | _=>exact absurd (show false=true from hs) aW9
 | bl i=>
  cases rx
  cases y with
  | non=>cases ry; exact PySem.EqNone.ne_bool_none (bY I q (by simp))
  | bl j=>cases ry; exact ne_bool (bY I q (congrArg not yF))
  | str j=>obtain ⟨t',rfl⟩:=ry; exact PySem.EqMixed.ne_bool_str (bY I q (by simp))
  | _=>exact absurd (show false=true from hs) aW9
 | int i=>
  obtain ⟨t,rfl⟩:=rx
  cases y with
  | non=>cases ry; exact PySem.EqNone.ne_int_none (bY I q (by simp))
  | int j=>obtain ⟨t',rfl⟩:=ry; exact ne_int (bY I q (congrArg not yE))
  | str j=>obtain ⟨t',rfl⟩:=ry; exact PySem.EqMixed.ne_int_str (bY I q (by simp))
  | _=>exact absurd (show false=true from hs) aW9
 | str i=>
  obtain ⟨t,rfl⟩:=rx
  cases y with
  | non=>cases ry; exact PySem.EqNone.ne_str_none (bY I q (by simp))
  | bl j=>cases ry; exact PySem.EqMixed.ne_str_bool (bY I q (by simp))
  | int j=>obtain ⟨t',rfl⟩:=ry; exact PySem.EqMixed.ne_str_int (bY I q (by simp))
  | str j=>obtain ⟨t',rfl⟩:=ry; exact ne_str (bY I q (congrArg not yG))
  | _=>exact absurd (show false=true from hs) aW9
 | byt i=>
  obtain ⟨t,rfl⟩:=rx
  cases y with
  | byt j=>obtain ⟨t',rfl⟩:=ry; exact PySem.W.ne_bytes (bY I q (congrArg not yH))
  | _=>exact absurd (show false=true from hs) aW9
 | _=>cases y <;> exact absurd (show false=true from hs) aW9
theorem oZ:cD X (compareOp .Lt) (iQ fun i j=>.bl (decide (i < j))):=sW fun _ _ _ _ _ _ _ q=>lt_int q
theorem af3:cD X (compareOp .Gt) (iQ fun i j=>.bl (decide (j < i))):=sW fun _ _ _ _ _ _ _ q=>gt_int q
theorem yK:cD X (compareOp .GtE) (iQ fun i j=>.bl (decide (j<=i))):=sW fun _ _ _ _ _ _ _ q=>ge_int q
theorem af4:cD X (compareOp .IsNot) (fun x y H Q=>y = .non/\Q (.bl (!decide (x = .non))) H):=by
 intro pins s σ H x y v u Q I rx ry h
 obtain ⟨rfl,q⟩:=h
 cases ry
 refine isnot_none_gen (bY I q ?_)
 cases x <;> first
  | (cases rx; rfl)
  | (obtain ⟨t,rfl⟩:=rx; rfl)
theorem eC (b:Expr) {op:CmpOp} (h:op ≠ .In:=by decide) (h2:op ≠ .NotIn:=by decide):behindInMarks op b=false:=by
 have e1:(op == CmpOp.In)=false:=by cases op <;> first | rfl | exact absurd rfl h
 have e2:(op == CmpOp.NotIn)=false:=by cases op <;> first | rfl | exact absurd rfl h2
 cases b <;> simp [behindInMarks,e1,e2]
theorem sY {op:CmpOp}{r:R2} (ho:cD X (compareOp op) r) (ha:PE X a ta) (hb:PE X b tb) (hm:behindInMarks op b=false):PE X (.Compare a [op] [b] pos) (mV r ta tb):=by
 intro pins s σ H Q I h
 exact wpAny_Compare1 (sV ha hb I h fun v u s2 x y H2 I2 rx ry q=>ho pins s2 σ H2 x y v u Q I2 rx ry q) hm
def af5 (t:TE):TT:=fun σ H Q=>t σ H fun x H'=>∃ k,x = .bl k/\Q k H'
theorem af6 {op:CmpOp}{r:R2} (ho:cD X (compareOp op) r) (ha:PE X a ta) (hb:PE X b tb) (hm:behindInMarks op b=false):PT X (.Compare a [op] [b] pos) (af5 (mV r ta tb)):=by
 intro pins s σ H Q I h
 refine wpAny_isTrue_Compare1 (aM (ha pins s σ H _ I h) fun v s1 ⟨x,H1,I1,r1,q1⟩=>aM (hb pins s1 σ H1 _ I1 q1) fun u s2 ⟨y,H2,I2,r2,q2⟩=>
  aM (ho pins s2 σ H2 x y v u _ I2 r1 r2 q2) fun c s3 ⟨z,H3,I3,r3,k,e,q3⟩=>?_) hm
 subst e
 cases r3
 exact bf6 ⟨H3,I3,q3⟩
def sZ (K:PySem.W.Frag) (x:V) (H:Hp) (k:Bool):Prop:=
 match x with
 | .non=>k=false
 | .bl b=>k=b
 | .int i=>k=(i != 0)
 | .str y=>y.length<=sizeLine/\k=((y.length:Int) != 0)
 | .byt y=>y.size<=sizeLine/\k=((y.size:Int) != 0)
 | .ref p=>(∃ xs,aJ K H p xs/\k = !xs.isEmpty) ∨ (∃ xs,aG K H p xs/\k = !xs.isEmpty) ∨ ∃ kvs,H p=some (.dK kvs)/\k = !kvs.isEmpty
 | _=>False
theorem af7 {κ:Type}{kvs:List (κ × V)}{vs:List (κ × Value)} (r:KV kvs vs):(!vs.isEmpty) = !kvs.isEmpty:=by
 cases r <;> rfl
theorem yL {xs:List V}{its:List Value} (r:aN xs its):(!its.toArray.isEmpty) = !xs.isEmpty:=by
 cases r <;> simp
theorem lD:(sizeLine:Nat) < 2 ^ 63:=by rw [sizeLine_eq]; decide
theorem af8:ae4 X (fun x H Q=>∃ k,sZ X.K x H k/\Q k H):=by
 intro pins s σ H x v Q I rx h
 obtain ⟨k,e,q⟩:=h
 have hl:=lD
 have hs:sizeLine=16777216:=sizeLine_eq
 cases x with
 | non=>
  cases rx
  have e':k=false:=e
  subst e'
  exact truthy_none ⟨H,I,q⟩
 | bl b=>
  cases rx
  have e':k=b:=e
  subst e'
  exact bf6 ⟨H,I,q⟩
 | int i=>
  obtain ⟨t,rfl⟩:=rx
  have e':k=(i != 0):=e
  subst e'
  exact PySem.P.truthy_int ⟨H,I,q⟩
 | str y=>
  obtain ⟨t,rfl⟩:=rx
  obtain ⟨hy,e'⟩:y.length<=sizeLine/\k=((y.length:Int) != 0):=e
  subst e'
  exact PySem.P.truthy_str (by omega) ⟨H,I.tok _,q⟩
 | byt y=>
  obtain ⟨t,rfl⟩:=rx
  obtain ⟨hy,e'⟩:y.size<=sizeLine/\k=((y.size:Int) != 0):=e
  subst e'
  exact PySem.W.truthy_bytes (by omega) ⟨H,I.tok _,q⟩
 | ref p=>
  cases rx
  have e':(∃ xs,aJ X.K H p xs/\k = !xs.isEmpty) ∨ (∃ xs,aG X.K H p xs/\k = !xs.isEmpty) ∨ ∃ kvs,H p=some (.dK kvs)/\k = !kvs.isEmpty:=e
  rcases e' with ⟨xs,hx,e'⟩ | ⟨xs,hx,e'⟩ | ⟨kvs,hx,e'⟩
  ·subst e'
   obtain ⟨its,r,pl,hz⟩:=I.list hx
   have hlen:=r.length
   exact wpAny_truthy_list pl.isList (by simp only [aU8]; omega) ⟨H,I.tok _,by rw [yL r]; exact q⟩
  ·subst e'
   obtain ⟨its,r,pl,hz⟩:=I.tuple hx
   have hlen:=r.length
   exact truthy_tuple pl (by simp only [aU8]; omega) ⟨H,I.tok _,by rw [yL r]; exact q⟩
  ·subst e'
   obtain ⟨hz,hS,vs,r,m⟩:kvs.length<=sizeLine/\(p == sysModules)=false/\∃ vs,KV kvs vs/\s.heap.DictOf (e9 X.prog X.w) p vs:=I.hok p _ hx
   have hlen:kvs.length=vs.length:=Paired.length r
   exact wpAny_truthy_dict hS m (by omega) ⟨H,I.tok _,by rw [af7 r]; exact q⟩
 | _=>exact (show False from e).elim
theorem af9 (ha:PE X a ta) (he:∀ whole,isTrue a X.env whole=(do let v <- whole; standAt a.pos; holding [v] (truthy v))) :
  PT X a (fun σ H Q=>ta σ H fun x H'=>∃ k,sZ X.K x H' k/\Q k H'):=by
 intro pins s σ H Q I h
 exact isTrue_plain (aM (ha pins s σ H _ I h) fun v s1 ⟨x,H1,I1,r1,q1⟩=>af8 pins s1 σ H1 x v Q I1 r1 q1) (he _)
theorem eW {x:V}{us:List Value} (r:aN [x] us):∃ u,us = [u]/\aR x u:=by
 cases r with
 | cons r1 r2=>cases r2; exact⟨_,rfl,r1⟩
theorem p4 {x y:V}{us:List Value} (r:aN [x,y] us):∃ u w',us = [u,w']/\aR x u/\aR y w':=by
 cases r with
 | cons r1 r2=>
  cases r2 with
  | cons r3 r4=>cases r4; exact⟨_,_,rfl,r1,r3⟩
theorem ag0 (hc:X.calm=true):cK X (.builtin "max") (fun xs H Q=>∃ i j,xs = [.int i,.int j]/\Q (.int (if j > i then j else i)) H):=by
 intro pins s σ H xs us Q I r h
 obtain ⟨i,j,rfl,q⟩:=h
 obtain ⟨u,w',rfl,⟨t,rfl⟩,⟨t',rfl⟩⟩:=p4 r
 refine max_two_ints (I.ok.hd hc) fun h' tk k=>⟨_,H,I.kept k,?_,q⟩
 by_cases hj:j > i
 ·rw [if_pos hj,if_pos hj]; exact⟨_,rfl⟩
 ·rw [if_neg hj,if_neg hj]; exact⟨_,rfl⟩
theorem ag1 (hc:X.calm=true):cK X (.builtin "min") (fun xs H Q=>∃ i j,xs = [.int i,.int j]/\Q (.int (if j < i then j else i)) H):=by
 intro pins s σ H xs us Q I r h
 obtain ⟨i,j,rfl,q⟩:=h
 obtain ⟨u,w',rfl,⟨t,rfl⟩,⟨t',rfl⟩⟩:=p4 r
 refine min_two_ints (I.ok.hd hc) fun h' tk k=>⟨_,H,I.kept k,?_,q⟩
 by_cases hj:j < i
 ·rw [if_pos hj,if_pos hj]; exact⟨_,rfl⟩
 ·rw [if_neg hj,if_neg hj]; exact⟨_,rfl⟩
theorem ag2:cK X (.type "int") (fun xs H Q=>(∃ i,xs = [.int i]/\Q (.int i) H) ∨ ∃ k,xs = [.bl k]/\Q (.int (if k then 1 else 0)) H):=by
 intro pins s σ H xs us Q I r h
 rcases h with ⟨i,rfl,q⟩ | ⟨k,rfl,q⟩
 ·obtain ⟨u,rfl,t,rfl⟩:=eW r
  exact call_int_int ⟨.int i,H,I,⟨_,rfl⟩,q⟩
 ·obtain ⟨u,rfl,r1⟩:=eW r
  cases r1
  exact call_int_bool ⟨.int (if k then 1 else 0),H,I.tok _,⟨_,rfl⟩,q⟩
end
structure t4 (h:Heap) (x dx C:Addr) (mA:Str->Option Value):Prop where
 obj:h.get? x=some (PySem.W.instObj C dx)
 ns:h.Ns1 dx mA
 ne:dx ≠ x
theorem ag3 {h:Heap}{dx:Addr}{mA:Str->Option Value} (n:h.Ns1 dx mA):∃ od,h.get? dx=some od/\∀ name,PySem.W.lookIn name od=some (mA name):=by
 obtain ⟨o,es,ep,ho,hd,hk,_,hm⟩:=n
 refine⟨o,ho,fun name=>?_⟩
 have e:=hm name
 unfold nsFind findBy at e
 rw [<- Array.find?_toList] at e
 unfold PySem.W.lookIn
 rw [hd]
 dsimp only
 split
 ·rename_i y q
  rw [q] at e
  exact congrArg some e
 ·rename_i q
  rw [q] at e
  have a:es.toList.any (·.refKey)=false:=by
   rw [List.any_eq_false]
   intro y hy
   obtain ⟨z,t,hkey⟩:=hk y (Array.mem_toList_iff.mp hy)
   simp [DictEntry.refKey,hkey]
  have a' : ¬ es.toList.any (·.refKey)=true:=by rw [a]; exact aW9
  rw [if_neg a']
  exact congrArg some e
theorem t4.look {h:Heap}{x dx C:Addr}{mA:Str->Option Value} (I:t4 h x dx C mA):∃ od,PySem.W.InstAt h x (PySem.W.instObj C dx) C (some od)/\∀ name,PySem.W.lookIn name od=some (mA name):=
 let ⟨od,ho,hl⟩:=ag3 I.ns
 ⟨od,⟨I.obj,rfl,rfl,ho⟩,hl⟩
theorem gU.some_of {v:V}{o:Option Value} (r:gU (some v) o):∃ u,o=some u/\aR v u:=by
 cases o with
 | none=>exact (show False from r).elim
 | some u=>exact⟨u,rfl,r⟩
section
variable {P : Program} {w : World} {H H' : Hp} {h h' : Heap} {a C dx : Addr} {fs fs' : List (Str × V)}
theorem ag4 (hok:bR P w H h) (e:H a=some (.ins C dx fs)):∃ mA,t4 h a dx C mA/\(∀ f,gU (fs.lookup f) (mA f))/\PySem.Within mA (fs.map (·.1))/\fs.length<=1000/\H dx=some (.own a):=by
 obtain ⟨d,z,ne,ob,mA,n,r,q⟩:=(show bK P w H h a (.ins C dx fs) from hok a _ e)
 exact⟨mA,⟨ob,n,ne⟩,r,q,z,d⟩
end
structure t5 (K:PySem.W.Frag) (C:Addr):Prop where
 pg:PySem.W.plainGet K C Str.empty=true
 hd:PySem.W.hasDictIn K C=true
 po:PySem.W.plainOver K C=true
 sa:PySem.W.findIn K (.ref C) "__setattr__" = some (some (.builtin "object.__setattr__"))
theorem t5.get {K:PySem.W.Frag}{C:Addr} (c:t5 K C) (f:Str):PySem.W.plainGet K C f=true:=c.pg
section
variable {X : Cx} {pins : List (Addr × Obj)} {σ : St} {H : Hp} {s : Shared} {A : Around} {E : Value → Shared → Prop} {Q : Value → Shared → Prop} {c : Value} {b : Bool}
inductive eY (K:PySem.W.Frag) (H:Hp):V->Value->Prop where
 | non:eY K H .non (.type "NoneType")
 | bl (x:Bool):eY K H (.bl x) (.type "bool")
 | int (i:Int):eY K H (.int i) (.type "int")
 | str (x:Str):eY K H (.str x) (.type "str")
 | flt (x:UInt64):eY K H (.flt x) (.type "float")
 | lst {a:Addr}{xs:List V} (e:H a=some (.lst xs)):eY K H (.ref a) (.type "list")
 | frz {a:Addr}{o:Obj}{xs:List V} (e:H a=some (.frz o (.lst xs))):eY K H (.ref a) (.type "list")
 | tup {a:Addr}{xs:List V} (e:H a=some (.tup xs)):eY K H (.ref a) (.type "tuple")
 | dK {a:Addr}{kvs:List (aB × V)} (e:H a=some (.dK kvs)):eY K H (.ref a) (.type "dict")
 | dT {a:Addr}{kvs:List (List aB × V)} (e:H a=some (.dT kvs)):eY K H (.ref a) (.type "dict")
 | ins {a C dx:Addr}{fs:List (Str × V)} (e:H a=some (.ins C dx fs)) (cl:t5 K C) (ha:PySem.W.findIn K (.ref C) "__class__" = some (some (.builtin "object.__class__")))
   (hn:PySem.W.specialIn K (.builtin "object.__class__") "__get__" = some (some (.builtin "getset_descriptor.__get__"))) (htk:PySem.W.takesIn K (.builtin "object.__class__")=some true)
   (hm:PySem.W.mroIn K C (.type "object")=some true):eY K H (.ref a) (.ref C)
theorem ag5 {x:V}{u t:Value} (I:a7 X pins σ H s) (rx:aR x u) (ty:eY X.K H x t) (e:PySem.W.kitOne X.K t c=some b) (h:∀ tk,Q (.bool b) { s with toks:=tk }) :
  wpAny (model X.prog X.w) A (call (.builtin "isinstance") [u,c]) Q E s:=by
 cases ty with
 | non=>cases (show u=Value.none from rx); exact bc4 PySem.W.kitx_none I.kIn bh4 e (fun z=>nomatch z) h
 | bl y=>cases (show u=Value.bool y from rx); exact bc4 PySem.W.kitx_bool I.kIn bh4 e (fun z=>nomatch z) h
 | int i=>obtain ⟨t,q⟩:=(show ∃ t,u=Value.int i t from rx); cases q; exact bc4 PySem.W.kitx_int I.kIn bh4 e (fun z=>nomatch z) h
 | str y=>obtain ⟨t,q⟩:=(show ∃ t,u=Value.str y t from rx); cases q; exact bc4 PySem.W.kitx_str I.kIn bh4 e (fun z=>nomatch z) h
 | flt y=>obtain ⟨t,q⟩:=(show ∃ t,u=Value.float y t from rx); cases q; exact bc4 PySem.W.kitx_float I.kIn bh4 e (fun z=>nomatch z) h
 | @lst a xs ea=>
  cases (show u=Value.ref a from rx)
  obtain ⟨_,_,n,_,h1⟩:=(show bK X.prog X.w H s.heap a (.lst xs) from I.hok a _ ea)
  exact bc4 PySem.W.kitx_list I.kIn ⟨_,h1,rfl⟩ e (fun z=>nomatch z) h
 | @frz a ob xs ea=>
  cases (show u=Value.ref a from rx)
  obtain ⟨_,_,_,n,_,h1⟩:=(show bK X.prog X.w H s.heap a (.frz ob (.lst xs)) from I.hok a _ ea)
  exact bc4 PySem.W.kitx_list I.kIn ⟨_,h1,rfl⟩ e (fun z=>nomatch z) h
 | @tup a xs ea=>
  cases (show u=Value.ref a from rx)
  obtain ⟨_,_,_,p⟩:=(show bK X.prog X.w H s.heap a (.tup xs) from I.hok a _ ea)
  obtain ⟨o,h1,h2,_⟩:=p
  exact bc4 PySem.W.kitx_tuple I.kIn ⟨o,h1,h2⟩ e (fun z=>nomatch z) h
 | @dK a kvs ea=>
  cases (show u=Value.ref a from rx)
  obtain ⟨_,_,vs,_,p⟩:=(show bK X.prog X.w H s.heap a (.dK kvs) from I.hok a _ ea)
  obtain ⟨o,es,ep,h1,h2,_⟩:=p
  exact bc4 PySem.W.kitx_dict I.kIn ⟨o,h1,h2.1⟩ e (fun z=>nomatch z) h
 | @dT a kvs ea=>
  cases (show u=Value.ref a from rx)
  obtain ⟨_,_,xs,_,o,es,ep,h1,h2,_⟩:=(show bK X.prog X.w H s.heap a (.dT kvs) from I.hok a _ ea)
  exact bc4 PySem.W.kitx_dict I.kIn ⟨o,h1,h2.1⟩ e (fun z=>nomatch z) h
 | @ins a C dx fs ea cl ha hn htk hm=>
  cases (show u=Value.ref a from rx)
  obtain ⟨mA,O,_⟩:=ag4 I.hok ea
  obtain ⟨od,J,_⟩:=O.look
  exact bc4 (PySem.W.kitx_own (cl.get _) cl.hd ha hn htk hm) I.kIn J e (fun z=>nomatch z) h
end
structure c6 (k:Nat) (A:Around):Prop where
 hd:A.handled=none
 dp:A.depth+3 * k+5 < recursionLimit
 un:A.units+16 * k+200 < cLine
theorem c6.mono {j k:Nat}{A:Around} (r:c6 k A) (h:j<=k):c6 j A:=⟨r.hd,by have:=r.dp; omega,by have:=r.un; omega⟩
theorem c6.deeper {k:Nat}{A:Around} (r:c6 (k+1) A) (env:Env):c6 k (A.deeper env):=
 ⟨r.hd,by have:=r.dp; show A.depth+1+3 * k+5 < _; omega,by have:=r.un; show A.units+3+16 * k+200 < _; omega⟩
theorem c6.depth {k:Nat}{A:Around} (r:c6 k A):A.depth < recursionLimit:=by have:=r.dp; omega
theorem c6.units {k:Nat}{A:Around} (r:c6 k A):A.units+64 < cLine:=by have:=r.un; omega
def kC:TA:=fun _ H Q=>Q [] H
def jG (ta:TE) (tr:TA):TA:=fun σ H Q=>ta σ H fun x H1=>tr σ H1 fun xs H2=>Q (x :: xs) H2
section
variable {X : Cx} {e : Expr} {es : List Expr} {te : TE} {t : TA} {pos : Pos}
theorem eD:PA X [] kC:=fun _ _ _ _ H Q I h=>Calls.spliced_nil ⟨[],H,I,.nil,h⟩
theorem dJ (ha:PE X e te) (hr:PA X es t) (hs:starEach (e :: es) X.env=(false,eval e X.env) :: starEach es X.env:=by rfl):PA X (e :: es) (jG te t):=by
 intro pos pins s σ H Q I h
 rw [hs]
 show wpAny _ _ (spliced ((false,eval e X.env) :: backTo pos (starEach es X.env))) _ _ s
 refine Calls.spliced_cons (aM (ha pins s σ H _ I h) fun u s1 ⟨x,H1,I1,r1,q1⟩=>?_)
 exact aM (hr pos pins s1 σ H1 _ I1 q1) fun us s2 ⟨xs,H2,I2,r2,q2⟩=>⟨x :: xs,H2,I2,.cons r1 r2,q2⟩
def t6 (t:TA):TE:=fun σ H Q=>t σ H fun xs H1=>xs.length<=sizeLine/\∀ p,H1 p=none->Q (.ref p) (upd H1 p (.tup xs))
def yM (t:TA):TE:=fun σ H Q=>t σ H fun xs H1=>xs.length<=sizeLine/\∀ p,H1 p=none->Q (.ref p) (upd H1 p (.lst xs))
theorem yN {x1} (h:PA X es t):PE X (.Tuple es x1 pos) (t6 t):=by
 intro pins s σ H Q I hq
 refine wpAny_Tuple_spliced (aM (h pos pins s σ H _ I hq) fun us s1 ⟨xs,H1,I1,r,z,q⟩=>⟨by rw [<- r.length]; exact z,?_⟩)
 have hf:H1 s1.heap.objs.size=none:=I1.hok.fresh (aV0 _)
 refine⟨.ref s1.heap.objs.size,upd H1 s1.heap.objs.size (.tup xs),I1.laid (t':=s1.toks) (fun b u e=>aU7 _ e) (aV0 _) ?_,rfl,q _ hf⟩
 exact⟨z,us,r,⟨_,aV8 _ rfl,rfl,_,rfl⟩⟩
theorem yO (h:PA X es t):PE X (.List es pos) (yM t):=by
 intro pins s σ H Q I hq
 refine wpAny_List_spliced (aM (h pos pins s σ H _ I hq) fun us s1 ⟨xs,H1,I1,r,z,q⟩=>⟨by rw [<- r.length]; exact z,?_⟩)
 have hf:H1 s1.heap.objs.size=none:=I1.hok.fresh (aV0 _)
 refine⟨.ref s1.heap.objs.size,upd H1 s1.heap.objs.size (.lst xs),I1.laid (t':=s1.toks) (fun b u e=>aU7 _ e) (aV0 _) ?_,rfl,q _ hf⟩
 exact⟨z,us,0,r,aV8 _ rfl⟩
end
abbrev Sp:=List V->Hp->VK->XK->Prop
abbrev gE:=List Env->Hp->Shared->XK->Value->Shared->Prop
structure p5 (P:Program) (w:World) (K:PySem.W.Frag) (mg:Str->Option Value) (base:Heap) (A:Around) (outer:List Env) (s:Shared) (H:Hp):Prop where
 frames:A.frames=some outer
 mod:Mod K mg base
 bs:∀ b o,base.get? b=some o->s.heap.get? b=some o/\H b=none
 bsz:base.objs.size<=s.heap.objs.size
 funs:s.heap.FunFrames base outer
 frf:∀ b ∈ bZ outer,H b=none
 hok:bR P w H s.heap
 bare:AllBare s.gens
def CE (outer:List Env) (P:Program) (w:World) (H:Hp) (s:Shared) (Q:VK) (u:Value) (s':Shared):Prop:=
 ∃ v H',s'.os=s.os/\AllBare s'.gens/\Un (bZ outer) [] H H' s.heap s'.heap/\bR P w H' s'.heap/\aR v u/\Q v H'
def CR (CX:gE) (outer:List Env) (P:Program) (w:World) (H:Hp) (s:Shared) (Q:VK) (E:XK) (r:Result) (s':Shared):Prop:=
 match r with
 | .ok (.ret u)=>CE outer P w H s Q u s'
 | .ok _=>False
 | .error e=>CX outer H s E e s'
structure cR (P:Program) (w:World) (K:PySem.W.Frag) (mg:Str->Option Value) (base:Heap) (CX:gE) (k:Nat) (f:Addr) (fd:FuncData) (ps:List Str) (sp:Sp):Prop where
 len:∀ vs H Q E,sp vs H Q E->vs.length=ps.length
 run:∀ (A:Around) (outer:List Env) (s:Shared) (H:Hp) (args:Args) (us:List Value) (vs:List V) (Q:VK) (E:XK),c6 k A->p5 P w K mg base A outer s H->BindsTo s fd args (ps.zip us)->aN vs us->sp vs H Q E->
  codeAny (model P w) A (.call (.ref f) args) (CR CX outer P w H s Q E) s
theorem cR.imp {P:Program}{w:World}{K:PySem.W.Frag}{mg:Str->Option Value}{base:Heap}{CX:gE}{k:Nat}{f:Addr}{fd:FuncData}{ps:List Str}{sp sp':Sp} (F:cR P w K mg base CX k f fd ps sp)
  (h:∀ vs H Q E,sp' vs H Q E->sp vs H Q E):cR P w K mg base CX k f fd ps sp':=
 ⟨fun vs H Q E q=>F.len vs H Q E (h _ _ _ _ q),fun A outer s H args us vs Q E hr he hb hv hs=>F.run A outer s H args us vs Q E hr he hb hv (h _ _ _ _ hs)⟩
section
variable {X : Cx} {pins : List (Addr × Obj)} {σ : St} {H : Hp} {s s' : Shared}
theorem a7.env0 (I:a7 X pins σ H s):p5 X.prog X.w X.K X.mg X.base X.A X.stack s H:=
 ⟨I.ok.frames,I.ok.mod,I.bs,aY8 I.ok.bsz I.sz,I.stack,I.stkFree,I.hok,I.bare⟩
theorem a7.after {Q:VK}{u:Value} (I:a7 X pins σ H s) (h:CE X.stack X.prog X.w H s Q u s'):EP X pins σ Q u s':=by
 obtain ⟨v,H',os,bare,un,hok,r,q⟩:=h
 obtain ⟨hh,g,d,t,os'⟩:=s'
 obtain rfl:os'=s.os:=os
 exact⟨v,H',I.call (h':=hh) (g':=g) (d':=d) (t':=t) (ch:=[]) un hok bare (fun b z=>absurd z (by simp)),r,q⟩
end
def t7 (sp:Sp) (dvs:List V) (E:XK) (t:TA):TE:=fun σ H Q=>t σ H fun vs H1=>sp (vs ++ dvs) H1 Q E
def i8 (K:PySem.W.Frag) (fd:FuncData) (ps:List Str) (ds:List Value):Prop:=
 ∀ (s:Shared) (us:List Value),K.In s.heap->(us ++ ds).length=ps.length->BindsTo s fd ⟨us,[]⟩ (ps.zip (us ++ ds))
theorem i8.all {K:PySem.W.Frag}{fd:FuncData}{ps:List Str} (h:∀ us:List Value,us.length=ps.length->bindArgs fd ⟨us,[]⟩=pure (ps.zip us)):i8 K fd ps []:=fun s us _ hl=>by
 rw [aY4] at hl ⊢
 exact .of_eq (h us hl)
def mX (CX:gE) (X:Cx) (E:XK):Prop:=∀ (pins:List (Addr × Obj)) (σ:St) (H:Hp) (s:Shared) (e:Value) (s':Shared),a7 X pins σ H s->CX X.stack H s E e s'->X.xe e s'
section
variable {X : Cx} {CX : gE} {k : Nat} {f C : Addr} {fd : FuncData} {ps : List Str} {sp : Sp} {dvs : List V} {ds : List Value} {E : XK} {x m : Str} {p pos apos : Pos} {e o : Expr} {es : List Expr} {ta : TE} {t : TA}
theorem ag6 {pins:List (Addr × Obj)}{σ:St}{H:Hp}{s:Shared}{Q:VK}{us:List Value}{vs:List V} (F:cR X.prog X.w X.K X.mg X.base CX k f fd ps sp) (hr:c6 k X.A) (hb:i8 X.K fd ps ds) (hd:aN dvs ds) (hx:mX CX X E)
  (I:a7 X pins σ H s) (r:aN vs us) (h:sp (vs ++ dvs) H Q E):wpAny (model X.prog X.w) X.A (call (.ref f) us) (EP X pins σ Q) X.xe s:=by
 have r2:aN (vs ++ dvs) (us ++ ds):=r.append hd
 have hl:(us ++ ds).length=ps.length:=by rw [<- r2.length]; exact F.len _ _ _ _ h
 refine wpAny_call (codeAny_mono (F.run X.A X.stack s H ⟨us,[]⟩ (us ++ ds) (vs ++ dvs) Q E hr I.env0 (hb s us I.kIn hl) r2 h) fun r s' hq=>?_)
 cases r with
 | error e=>exact hx pins σ H s e s' I hq
 | ok fl=>
  cases fl with
  | ret u=>exact I.after hq
  | next=>exact False.elim hq
  | brk=>exact False.elim hq
  | cont=>exact False.elim hq
theorem p6 (F:cR X.prog X.w X.K X.mg X.base CX k f fd ps sp) (hr:c6 k X.A) (hg:Gl X x) (hm:X.mg x=some (.ref f)) (hk:PySem.W.keepIn X.K (.ref f)=true) (hb:i8 X.K fd ps ds) (hd:aN dvs ds) (hx:mX CX X E)
  (ha:PA X (e :: es) t) (hdb:(x == ("__debug__" : Str))=false:=by decide) (he:starEach (e :: es) X.env=(false,eval e X.env) :: starEach es X.env:=by rfl) (hpl:(backTo pos (starEach es X.env)).any (·.1)=false:=by rfl) :
  PE X (.Call (.Name x p) (e :: es) [] pos) (t7 sp dvs E t):=by
 intro pins s σ H Q I h
 refine wpAny_Call_Name_kw (sR I hg hm ?_ hdb)
 refine PySem.W.callWith_K (h₀:=X.base) I.ok.mod.kin hk (aM (ha pos pins s σ H _ I h) fun us s1 ⟨vs,H1,I1,r,q⟩=>⟨I1.kIn,?_⟩) he hpl
 exact ag6 F hr hb hd hx I1 r q
end
def PK (X:Cx) (kws:List Keyword) (t:TA):Prop:=
 ∀ (pos:Pos) (pins:List (Addr × Obj)) (s:Shared) (σ:St) (H:Hp) (Q:List V->Hp->Prop),a7 X pins σ H s->t σ H Q->wpAny (model X.prog X.w) X.A (evalAll ((backToKw pos (keywordEach kws X.env)).map (·.2))) (AP X pins σ Q) X.xe s
structure FnScope (N P:List Str) (sc:Scope):Prop where
 kind:sc.kind = .function
 co:sc.isCoroutine=false
 gen:sc.isGenerator=false
 nd:N.Nodup
 pre:N.take P.length=P
 par:∀ x ∈ P,sc.names.lookup x=some .local ∨ sc.names.lookup x=some .cell
 nofree:∀ y ∈ sc.names,y.2 ≠ .free
theorem yP {kindOf:Str->Option NameKind}{x:Str}:∀ {binds:List (Str × Value)}{m:Str->Option Value},(∀ v,(x,v) ∉ binds)->bindL kindOf binds m x=m x
 | [],_,_=>rfl
 | (n,v) :: r,m,h=>by
  unfold bindL
  rw [yP fun w hw=>h w (aW6 _ hw)]
  split
  ·have:x ≠ n:=by rintro rfl; exact h v aV9
   simp [this]
  ·rfl
theorem yQ {kindOf:Str->Option NameKind}{x:Str}:∀ {binds:List (Str × Value)}{m:Str->Option Value},(∀ v,(x,v) ∉ binds)->bindC kindOf binds m x=m x
 | [],_,_=>rfl
 | (n,v) :: r,m,h=>by
  unfold bindC
  rw [yQ fun w hw=>h w (aW6 _ hw)]
  split
  ·rfl
  ·have:x ≠ n:=by rintro rfl; exact h v aV9
   simp [this]
theorem yR {kindOf:Str->Option NameKind}{x:Str}{v:Value}:∀ {P:List Str}{vs:List Value}{i:Nat}{m:Str->Option Value},P.Nodup->P[i]? = some x->vs[i]? = some v->kindOf x=some .local->
  bindL kindOf (P.zip vs) m x=some v
 | [],_,_,_,_,h,_,_=>by simp at h
 | _ :: _,[],_,_,_,_,h,_=>by simp at h
 | p :: P,w :: vs,0,m,nd,h1,h2,hk=>by
  simp at h1 h2; subst h1; subst h2
  show bindL kindOf ((p,w) :: P.zip vs) m p=_
  unfold bindL
  rw [yP fun v hv=>(List.nodup_cons.mp nd).1 (List.of_mem_zip hv).1,if_pos hk]
  simp
 | p :: P,w :: vs,i+1,m,nd,h1,h2,hk=>by
  show bindL kindOf ((p,w) :: P.zip vs) m x=_
  unfold bindL
  exact yR (i:=i) (List.nodup_cons.mp nd).2 (by simpa using h1) (by simpa using h2) hk
theorem yS {kindOf:Str->Option NameKind}{x:Str}{v:Value}:∀ {P:List Str}{vs:List Value}{i:Nat}{m:Str->Option Value},P.Nodup->P[i]? = some x->vs[i]? = some v->kindOf x ≠ some .local->
  bindC kindOf (P.zip vs) m x=some v
 | [],_,_,_,_,h,_,_=>by simp at h
 | _ :: _,[],_,_,_,_,h,_=>by simp at h
 | p :: P,w :: vs,0,m,nd,h1,h2,hk=>by
  simp at h1 h2; subst h1; subst h2
  show bindC kindOf ((p,w) :: P.zip vs) m p=_
  unfold bindC
  rw [yQ fun v hv=>(List.nodup_cons.mp nd).1 (List.of_mem_zip hv).1,if_neg hk]
  simp
 | p :: P,w :: vs,i+1,m,nd,h1,h2,hk=>by
  show bindC kindOf ((p,w) :: P.zip vs) m x=_
  unfold bindC
  exact yS (i:=i) (List.nodup_cons.mp nd).2 (by simpa using h1) (by simpa using h2) hk
def gF (N:List Str) (vs:List V):St:=vs.map some ++ List.replicate (N.length - vs.length) none
def cS (CX:gE) (P:Program) (w:World) (K:PySem.W.Frag) (mg:Str->Option Value) (base:Heap) (N:List Str) (qual:Str) (scope:Scope) (f:Addr) (cd:Value) (A:Around) (outer:List Env) (s:Shared) (H:Hp) (E:XK):Cx where
 prog:=P
 w:=w
 K:=K
 mg:=mg
 base:=base
 A:=A.deeper (envOfC qual scope s.heap.objs.size f cd)
 N:=N
 s₀:=s
 H₀:=H
 env:=envOfC qual scope s.heap.objs.size f cd
 outer:=outer
 stack:=envOfC qual scope s.heap.objs.size f cd :: outer
 ex:=[]
 calm:=true
 fn:=fun _=>true
 pn:=[]
 xe:=fun e s'=>wpAny (model P w) (A.deeper (envOfC qual scope s.heap.objs.size f cd)) (leaving (envOfC qual scope s.heap.objs.size f cd) e) (fun _ s''=>CX outer H s E e s'') (fun e' s''=>CX outer H s E e' s'') s'
theorem yT {sc:Scope}{n:Nat}{x:Str} (h:sc.names.lookup x=some .cell):∃ c,(cellsFrom n sc.names []).lookup x=some c:=by
 have q:=PySem.W.cellsFrom_some sc.names n [] (.inl h)
 exact Option.isSome_iff_exists.mp q
theorem ag7 {CX:gE}{P:Program}{w:World}{K:PySem.W.Frag}{mg:Str->Option Value}{base:Heap}{N ps:List Str}{qual:Str}{scope:Scope}{f:Addr}{cd:Value}{A:Around}{outer:List Env}{s s1:Shared}{H:Hp}{E:XK}{us:List Value}{vs:List V}
  (S:FnScope N ps scope) (hd:A.handled=none) (e0:p5 P w K mg base A outer s H) (hl:vs.length=ps.length) (r:aN vs us)
  (x:InCallC s s.heap.objs.size (bindL (envOfC qual scope s.heap.objs.size f cd).kindOf (ps.zip us) fun _=>none) (cellsFrom (s.heap.objs.size+1) scope.names []) (bindC (envOfC qual scope s.heap.objs.size f cd).kindOf (ps.zip us) fun _=>none) s1) :
  a7 (cS CX P w K mg base N qual scope f cd A outer s H E) [] (gF N vs) H s1:=by
 have hpl:ps.length<=N.length:=by have:=congrArg List.length S.pre; rw [ba8] at this; omega
 obtain ⟨h1,tk,rfl,hk⟩:=x.done
 have noA:∀ b:Addr,b ∉ (cS CX P w K mg base N qual scope f cd A outer s H E).ex:=fun b z=>absurd (show b ∈ ([]:List Addr) from z) (by simp)
 refine⟨⟨e0.mod,S.kind,rfl,rfl,aV0 _,fun y z c h1 h2=>?_,fun y hy=>?_,fun y c _ h=>?_,fun _=>hd,Around.frames_deeper e0.frames,.inr ⟨rfl,rfl⟩,fun b z=>absurd z (noA b),e0.bs,e0.bsz,fun b _ _=>noA b,fun b z=>absurd z (noA b),e0.funs,e0.frf⟩,
  rfl,e0.bare,Un.kept hk,⟨_,x.toInCall.ns,fun i y v h1 h2 h3=>?_⟩,fun y c h=>⟨_,x.cell y c h⟩,e0.hok.fresh (aV0 _),fun y c h=>?_,fun p hp=>absurd (show p ∈ ([]:List (Addr × Obj)) from hp) (by simp),e0.hok.kept hk,?_⟩
 ·exact name_of_addr x.apart (aZ7 h1) (aZ7 h2)
 ·have hy:scope.names.lookup y=some .cell ∨ scope.names.lookup y=some .free:=hy
  rcases hy with hy | hy
  ·exact yT hy
  ·exact absurd rfl (S.nofree _ (aZ7 hy))
 ·exact ba4 (x.above y c (aZ7 h))
 ·have hi:i < vs.length:=by
   unfold gF at h2
   by_cases hi:i < vs.length
   ·exact hi
   ·rw [bc6 (by simpa using hi)] at h2
    rw [List.getElem?_replicate] at h2
    split at h2 <;> cases h2
  have ha:vs[i]? = some v:=by
   unfold gF at h2
   rw [bc0 (by simpa using hi),aV7] at h2
   cases e:vs[i]? with
   | none=>rw [e] at h2; cases h2
   | some a=>rw [e] at h2; cases h2; rfl
  obtain ⟨u,hu,rv⟩:=r.get ha
  have hp:ps[i]? = some y:=by
   rw [<- S.pre,List.getElem?_take_of_lt (by omega)]; exact h1
  have ndP:ps.Nodup:=by rw [<- S.pre]; exact S.nd.sublist (List.take_sublist _ _)
  refine⟨u,rv,?_⟩
  rcases S.par y (aW8 hp) with k | k
  ·exact .inl ⟨k,yR ndP hp hu k⟩
  ·obtain ⟨c,e⟩:=yT (n:=s.heap.objs.size+1) k
   refine .inr ⟨.inl k,c,e,?_⟩
   have q:=x.cell y c e
   rw [yS ndP hp hu (by show scope.names.lookup y ≠ _; rw [k]; decide)] at q
   exact q
 ·exact e0.hok.fresh (ba4 (x.above y c (aZ7 h)))
 ·unfold gF
  show _=N.length
  rw [aU9,aV1,List.length_replicate]
  omega
theorem yU {CX:gE}{P:Program}{w:World}{K:PySem.W.Frag}{mg:Str->Option Value}{base:Heap}{k:Nat}{f:Addr}{name qual:Str}{params:Arguments}{body:List Stmt}{scope:Scope}{dV kV doc pm cdv ct oc:Value}{an od:Option Addr}
  {osl:Array (Option Value)}{N ps:List Str}{sp:Sp} (lk:K.lookup f=some ⟨oc,od,.func (PySem.W.fnOf name qual params body scope dV kV doc pm an cdv ct),osl⟩) (hcd:PySem.W.codeIn K cdv qual=true) (S:FnScope N ps scope)
  (len:∀ vs H Q E,sp vs H Q E->vs.length=ps.length)
  (hbody:∀ (A:Around) (outer:List Env) (s:Shared) (H:Hp) (vs:List V) (Q:VK) (E:XK),c6 k (A.deeper (envOfC qual scope s.heap.objs.size f cdv))->sp vs H Q E->
   ∃ t,dD (cS CX P w K mg base N qual scope f cdv A outer s H E) body t/\t { nx:=fun _ H'=>Q .non H',rt:=Q } (gF N vs) H) :
  cR P w K mg base CX (k+1) f (PySem.W.fnOf name qual params body scope dV kV doc pm an cdv ct) ps sp:=by
 refine⟨len,fun A outer s H args us vs Q E hr e0 hb r hsp=>?_⟩
 have hl:=len _ _ _ _ hsp
 have KX:K.In s.heap:=e0.mod.kin.keeps fun b o e=>(e0.bs b o e).1
 have lim:s.heap.NoLimit:=e0.mod.nolimit.keeps fun b o e=>(e0.bs b o e).1
 have hkind:∀ y ∈ ps.zip us,scope.names.lookup y.1=some .local ∨ (scope.names.lookup y.1=some .cell/\((cellsFrom (s.heap.objs.size+1) scope.names []).lookup y.1).isSome=true):=fun ⟨n,v⟩ hy=>by
  rcases S.par n (List.of_mem_zip hy).1 with q | q
  ·exact .inl q
  ·exact .inr ⟨q,PySem.W.cellsFrom_some _ _ _ (.inl q)⟩
 refine codeAny_call_function hr.depth (KX _ _ lk) rfl S.co S.gen rfl (PySem.W.codeRec_of KX hcd) (hb _ _ _ _ ?_)
 refine wpAny_newFunctionEnv_cells S.kind hkind fun env he s1 x=>?_
 subst he
 refine⟨lim.keeps x.toInCall.keep,codeAny_func ?_⟩
 obtain ⟨t,ht,hq⟩:=hbody A outer s H vs Q E (hr.deeper _) hsp
 have I:a7 (cS CX P w K mg base N qual scope f cdv A outer s H E) [] (gF N vs) H s1:=ag7 S hr.hd e0 hl r x
 refine bc1 (ht [] s1 (gF N vs) H _ I hq) (fun fl s' hs=>?_) fun e s' hs=>hs
 have fin:∀ {σ':St}{H':Hp}{v:V}{u:Value},a7 (cS CX P w K mg base N qual scope f cdv A outer s H E) [] σ' H' s'->aR v u->Q v H'->CE outer P w H s Q u s':=
  fun {σ' H' v u} J rv q=>⟨v,H',J.os,J.bare,J.base,J.hok,rv,q⟩
 cases fl with
 | ret u=>
  obtain ⟨v,σ',H',J,rv,q⟩:=hs
  exact fin J rv q
 | next=>
  obtain ⟨σ',H',J,q⟩:=hs
  exact fin (v:=V.non) (u:=Value.none) J rfl q
 | brk=>
  obtain ⟨_,_,_,q⟩:=hs
  exact False.elim q
 | cont=>
  obtain ⟨_,_,_,q⟩:=hs
  exact False.elim q
section
variable {X : Cx} {x : Str} {p pos : Pos} {e : Expr} {es : List Expr} {t : TA} {id T : String} {r : List V → Hp → VK → Prop}
def t8 (r:List V->Hp->VK->Prop) (t:TA):TE:=fun σ H Q=>t σ H fun vs H1=>r vs H1 Q
theorem p9 (hc:cK X (.builtin id) r) (hg:Gl X x) (hm:X.mg x=none) (hv:bootBuiltins x=some (.builtin id)) (ha:PA X (e :: es) t) (hn:x ≠ "__name__":=by decide) (hdb:(x == ("__debug__" : Str))=false:=by decide)
  (he:starEach (e :: es) X.env=(false,eval e X.env) :: starEach es X.env:=by rfl) (hpl:(backTo pos (starEach es X.env)).any (·.1)=false:=by rfl):PE X (.Call (.Name x p) (e :: es) [] pos) (t8 r t):=by
 intro pins s σ H Q I h
 refine wpAny_Call_Name_kw (i5 I hg hm hv ?_ hn hdb)
 exact PyProof.Rows.callWith_builtin1 (aM (ha pos pins s σ H _ I h) fun us s1 ⟨vs,H1,I1,r1,q1⟩=>hc pins s1 σ H1 vs us Q I1 r1 q1) he hpl
theorem yV (hc:cK X (.type T) r) (hg:Gl X x) (hm:X.mg x=none) (hv:bootBuiltins x=some (.type T)) (ha:PA X (e :: es) t) (hn:x ≠ "__name__":=by decide) (hdb:(x == ("__debug__" : Str))=false:=by decide)
  (he:starEach (e :: es) X.env=(false,eval e X.env) :: starEach es X.env:=by rfl) (hpl:(backTo pos (starEach es X.env)).any (·.1)=false:=by rfl):PE X (.Call (.Name x p) (e :: es) [] pos) (t8 r t):=by
 intro pins s σ H Q I h
 refine wpAny_Call_Name_kw (i5 I hg hm hv ?_ hn hdb)
 exact aZ8 (aM (ha pos pins s σ H _ I h) fun us s1 ⟨vs,H1,I1,r1,q1⟩=>hc pins s1 σ H1 vs us Q I1 r1 q1) he hpl
end
end L2
namespace HT
open PySem PyProof.Rows
def cB:List Int->List Int->Bool
 | [],[]=>false
 | [],_ :: _=>true
 | _ :: _,[]=>false
 | x :: xs,y :: ys=>if x=y then cB xs ys else decide (x < y)
theorem iR (x y:Int) (xs ys:List Int):cB (x :: xs) (y :: ys)=if x=y then cB xs ys else decide (x < y):=rfl
theorem ag8:cB [] []=false:=rfl
theorem ag9 (y:Int) (ys:List Int):cB [] (y :: ys)=true:=rfl
theorem ah0 (x:Int) (xs:List Int):cB (x :: xs) []=false:=rfl
theorem ah1 (A:Around) (s:Shared) (a:Int) (t:Tok) (c:Int) (u:Tok):∃ e,SeqAt.EqAt A s (.int a t) (.int c u) e/\(e=true ↔ a=c):=
 ⟨(a == c),SeqAt.EqAt.int_int a t c u,by simp⟩
theorem ah2 (A:Around) (s:Shared) (a:Int) (t:Tok) (c:Int) (u:Tok) (prog:Program) (w:World) (E:Value->Shared->Prop) (Q:Value->Shared->Prop) (h:Q (.bool (decide (a < c))) s) :
  wpAny (model prog w) A (richCompare .Lt (.int a t) (.int c u)) Q E s:=
 (PyProof.Rows.lt_int h:wpAny (model prog w) A (compareOp .Lt (.int a t) (.int c u)) Q E s)
section
open PySem.SeqAt
open PySem.AutoSeq1 (wpAny_loadPart')
open PySem.MeetsSeq PySem.MeetsSeq2 PySem.MeetsSeq3
theorem ah3 (l b:Addr) (items items2:Array Value) (n n2:Nat) (dd dd2:Option Addr) (sl sl2:Array (Option Value)) (ns ms:List Int) (hi:IntsAre items.toList ns) (hj:IntsAre items2.toList ms) :
  Meets (Builtin.«tuple.__lt__» ⟨[.ref l,.ref b],[]⟩)
   (fun _ R s=>s.heap.get? l=some { cls:=.type "tuple",dict:=dd,data:=.seq items n,slots:=sl }/\s.heap.get? b=some { cls:=.type "tuple",dict:=dd2,data:=.seq items2 n2,slots:=sl2 }/\
    R (.ok (.ret (.bool (cB ns ms)))) s):=
 .of_wp fun prog w A R s h=>by
  obtain ⟨hp,g,d,tk,os⟩:=s; obtain ⟨hl,hb,h⟩:=h
  have f2:=AutoSeq1.sub_tuple_tuple
  have z1:items.size=ns.length:=by rw [<- hi.length]; simp
  have z2:items2.size=ms.length:=by rw [<- hj.length]; simp
  wp_walk using wpAny_loadPart' hl,wpAny_loadPart' hb,wpAny_forIn_list _ (fun cX b s'=>b.1=none/\s'=⟨hp,g,d,tk,os⟩/\∃ (vs ws:List Value) (ns' ms':List Int),cX=vs.zip ws/\
   IntsAre vs ns'/\IntsAre ws ms'/\ns'.length+items2.size=ms'.length+items.size/\R (.ok (.ret (.bool (cB ns' ms')))) ⟨hp,g,d,tk,os⟩) _
  case turn=>
   rintro ⟨y,x⟩ cX b s' ⟨hb',rfl,vs,ws,ns',ms',hz,hvi,hwi,hlen,hR⟩
   cases hvi with
   | nil=>rw [List.zip_nil_left] at hz; cases hz
   | cons a t hvi'=>
    cases hwi with
    | nil=>rw [List.zip_nil_right] at hz; cases hz
    | cons c u hwi'=>
     rw [bg4] at hz
     injection hz with hyx hrest
     injection hyx with hy hx
     subst hy hx
     rw [iR] at hR
     simp only [aY9] at hlen
     obtain ⟨e,he,hiff⟩:=ah1 A.in1 ⟨hp,g,d,tk,os⟩ a t c u
     refine aU6 (he prog w _ _ ?_)
     cases e with
     | true=>
      rw [if_pos (hiff.mp rfl)] at hR
      wp_walk
      exact⟨rfl,rfl,_,_,_,_,hrest,hvi',hwi',by omega,hR⟩
     | false=>
      rw [if_neg (fun q=>absurd (hiff.mpr q) aW9)] at hR
      have hri:=ah2 A.in1 ⟨hp,g,d,tk,os⟩ a t c u prog w
      wp_walk using hri
      exact⟨_,rfl,by simpa using hR⟩
  case fin=>
   rintro ⟨b1,b2⟩ s' ⟨hb',rfl,vs,ws,ns',ms',hz,hvi,hwi,hlen,hR⟩
   simp only at hb'
   subst hb'
   have hv:cB ns' ms'=decide (items.size < items2.size):=by
    cases hvi with
    | nil=>
     cases hwi with
     | nil=>
      simp only [List.length_nil] at hlen
      rw [ag8]
      exact (aW4 (by omega)).symm
     | cons c u hw=>
      simp only [List.length_nil,aY9] at hlen
      rw [ag9]
      exact (aW5 (by omega)).symm
    | cons a t hv=>
     cases hwi with
     | nil=>
      simp only [List.length_nil,aY9] at hlen
      rw [ah0]
      exact (aW4 (by omega)).symm
     | cons c u hw=>
      rw [bg4] at hz
      cases hz
   rw [hv] at hR
   wp_walk
   exact⟨_,rfl,by simpa [Builtin.Tuple.tupleCompareSizes] using hR⟩
  case h=>
   exact⟨rfl,rfl,items.toList,items2.toList,ns,ms,rfl,hi,hj,by omega,h⟩
end
section
variable {prog : Program} {w : World} {A : Around} {E : Value → Shared → Prop} {s : Shared}
theorem ah4 {l b:Addr}{items items2:Array Value}{ns ms:List Int}{Q:Value->Shared->Prop} (hl:IsTup s.heap l items) (hb:IsTup s.heap b items2) (hi:IntsAre items.toList ns) (hj:IntsAre items2.toList ms)
  (hu:A.units < cLine) (h:Q (.bool (cB ns ms)) s):wpAny (model prog w) A (compareOp .Lt (.ref l) (.ref b)) Q E s:=by
 obtain ⟨⟨cls,dd,data,sl⟩,ho,hc,n,hd⟩:=id hl
 obtain ⟨⟨cls2,dd2,data2,sl2⟩,ho2,hc2,n2,hd2⟩:=id hb
 simp only at hc hd hc2 hd2
 subst hc hd hc2 hd2
 exact richCompare_meets_room (op:=.Lt) ⟨_,ho,rfl⟩ ⟨_,ho2,rfl⟩ PySem.F.slot_tuple_lt PySem.F.entry_tuple_lt (PySem.F.args_tuple_lt_2 _ _) (ah3 l b items items2 n n2 dd dd2 sl sl2 ns ms hi hj)
  ⟨ho,ho2,show Value.bool (cB ns ms) ≠ Value.notImplemented/\Q (.bool (cB ns ms)) s from ⟨(fun x=>nomatch x),h⟩⟩ hu
theorem ah5 {t b:Addr}{vs ws:List Value}{Q:Value->Shared->Prop} (ht:IsTup s.heap t vs.toArray) (hb:IsTup s.heap b ws.toArray) (hv:vs ≠ [])
  (h1:ws = []->Q (.ref t) s) (h2:ws ≠ []->Q (.ref s.heap.objs.size) { s with heap:=s.heap.push { cls:=.type "tuple",data:=.seq (vs ++ ws).toArray } })
  (hsz:vs.length+ws.length<=sizeLine):wpAny (model prog w) A (binaryOp .Add (.ref t) (.ref b)) Q E s:=by
 obtain ⟨⟨cls,dd,data,sl⟩,ho,hc,n,hd⟩:=id ht
 obtain ⟨⟨cls2,dd2,data2,sl2⟩,ho2,hc2,n2,hd2⟩:=id hb
 simp only at hc hd hc2 hd2
 subst hc hd hc2 hd2
 have e:vs.toArray ++ ws.toArray=(vs ++ ws).toArray:=by simp
 by_cases hw:ws = []
 ·exact concat_meets ⟨_,ho,rfl⟩ ⟨_,ho2,rfl⟩ noFill_tuple_add seq_tuple_add PySem.F.slot_tuple_add PySem.F.entry_tuple_add (PySem.F.args_tuple_add_2 _ _)
   (tuple_addW1 t b vs.toArray ws.toArray n n2 dd dd2 sl sl2 (by simpa using hv) (by simp [hw])) ⟨ho,ho2,h1 hw⟩
 ·refine concat_meets ⟨_,ho,rfl⟩ ⟨_,ho2,rfl⟩ noFill_tuple_add seq_tuple_add PySem.F.slot_tuple_add PySem.F.entry_tuple_add (PySem.F.args_tuple_add_2 _ _)
   (tuple_addW2 t b vs.toArray ws.toArray n n2 dd dd2 sl sl2 (by simpa using hv) (by simpa using hw) (by rw [aU8,aU8]; exact hsz)) ⟨ho,ho2,?_⟩
  rw [e]
  exact h2 hw
def aS (n d:Nat):Option Int->Nat
 | none=>d
 | some v=>if v < 0 then (v+(n:Int)).toNat else min v.toNat n
theorem ah6 (n d:Nat):aS n d none=d:=rfl
theorem yW (n d k:Nat):aS n d (some (k:Int))=min k n:=by
 show (if (k:Int) < 0 then ((k:Int)+(n:Int)).toNat else min (k:Int).toNat n)=min k n
 rw [if_neg (by omega),bd2]
theorem ah7 (n d:Nat) (hd:d<=n) (o:Option Int):aS n d o<=n:=by
 cases o with
 | none=>exact hd
 | some v=>
  show (if v < 0 then (v+(n:Int)).toNat else min v.toNat n)<=n
  by_cases hv:v < 0
  ·rw [if_pos hv]; omega
  ·rw [if_neg hv]; exact Nat.min_le_right _ _
theorem yX (v:Int) (n d:Nat):(if v < 0 then max (v+(n:Int)) 0 else min v (n:Int))=((aS n d (some v):Nat):Int):=by
 show (if v < 0 then max (v+(n:Int)) 0 else min v (n:Int))=(((if v < 0 then (v+(n:Int)).toNat else min v.toNat n):Nat):Int)
 by_cases hv:v < 0
 ·simp only [if_pos hv]; omega
 ·simp only [if_neg hv]; omega
theorem ah8 (lo hi:Option Int) (n:Nat):Builtin.Slice.sliceAdjust lo hi 1 (n:Int)=(((aS n 0 lo:Nat):Int),((aS n n hi:Nat):Int)):=by
 have h1 : ¬ ((1:Int) < 0):=by omega
 unfold Builtin.Slice.sliceAdjust
 simp only [h1,bb2]
 refine Prod.ext ?_ ?_
 ·cases lo with
  | none=>rfl
  | some v=>exact yX v n 0
 ·cases hi with
  | none=>rfl
  | some v=>exact yX v n n
theorem ah9 (i j:Nat):Builtin.Slice.slicePlaces (i:Int) (j:Int) 1=j - i:=by
 unfold Builtin.Slice.slicePlaces
 have h1:(1:Int) > 0:=by omega
 simp only [h1,if_true,Int.ediv_one]
 split <;> omega
theorem yY {v:Value}{o:Option Int}{Q:Option Int->Shared->Prop} (p:IsPart v o) (h:Q o s):wpAny (model prog w) A (Builtin.Slice.slicePartIndex v) Q E s:=by
 cases p with
 | none=>exact slicePart_none h
 | int i t=>exact slicePart_int h
theorem yZ {sl:Addr}{vl vu:Value}{lo hi:Option Int}{n:Nat}{Q:Int × Int × Nat->Shared->Prop} (hs:s.heap.IsSliceOf sl vl vu .none) (pl:IsPart vl lo) (pu:IsPart vu hi)
  (h:Q (((aS n 0 lo:Nat):Int),1,aS n n hi - aS n 0 lo) s):wpAny (model prog w) A (Builtin.Slice.sliceApplied (.ref sl) (pure (n:Int))) Q E s:=by
 obtain ⟨os,hos,hcs,hds⟩:=id hs
 unfold Builtin.Slice.sliceApplied Builtin.Slice.sliceFields
 refine aU6 (aU6 (ba5 hos hds (x:=vl) rfl (aU6 (ba5 hos hds (x:=vu) rfl (aU6 (ba5 hos hds (x:=.none) rfl (aV4 ?_)))))))
 refine aU6 (slicePart_none ?_)
 show wpAny _ _ (if ((1:Int) == 0)=true then _ else _) _ _ s
 rw [if_neg (by decide)]
 refine aU6 (yY pl (aU6 (yY pu (aU6 (aV4 ?_)))))
 show wpAny _ _ (match Builtin.Slice.sliceAdjust lo hi 1 (n:Int) with | (lo,hi)=>pure (lo,(1:Int),Builtin.Slice.slicePlaces lo hi 1)) _ _ s
 rw [ah8 lo hi n]
 show wpAny _ _ (pure (((aS n 0 lo:Nat):Int),(1:Int),Builtin.Slice.slicePlaces ((aS n 0 lo:Nat):Int) ((aS n n hi:Nat):Int) 1)) _ _ s
 rw [ah9]
 exact aV4 h
theorem ai0 (xs:Array Value) (i k:Nat):((List.range k).filterMap fun (m:Nat)=>xs[((i:Int)+(m:Int) * 1).toNat]?).toArray=((xs.toList.drop i).take k).toArray:=by
 have e:(fun (m:Nat)=>xs[((i:Int)+(m:Int) * 1).toNat]?)=fun m=>xs[i+m]?:=by
  funext m
  have:((i:Int)+(m:Int) * 1).toNat=i+m:=by omega
  rw [this]
 rw [e]
 have:=pick_run xs i k
 rw [List.filterMap_map] at this
 have e2:((fun x=>xs[x]?) ∘ fun x=>i+x)=fun m=>xs[i+m]?:=rfl
 rw [e2] at this
 rw [this]
theorem ai1 {t sl:Addr}{items:Array Value}{vl vu:Value}{lo hi:Option Int}{Q:Value->Shared->Prop} (ht:IsTup s.heap t items) (hs:s.heap.IsSliceOf sl vl vu .none) (pl:IsPart vl lo) (pu:IsPart vu hi)
  (hw : ¬ (aS items.size 0 lo=0/\aS items.size items.size hi=items.size))
  (h:Q (.ref s.heap.objs.size) { s with heap:=s.heap.push { cls:=.type "tuple",data:=.seq ((items.toList.drop (aS items.size 0 lo)).take (aS items.size items.size hi - aS items.size 0 lo)).toArray } })
  (hsz:items.size<=sizeLine):wpAny (model prog w) A (getItem (.ref t) (.ref sl)) Q E s:=by
 have htake:sizeOk (.seq ((items.toList.drop (aS items.size 0 lo)).take (aS items.size items.size hi - aS items.size 0 lo)).toArray):=by
  show ((items.toList.drop (aS items.size 0 lo)).take (aS items.size items.size hi - aS items.size 0 lo)).toArray.size<=sizeLine
  rw [aU8,ba8,be8,be4]
  omega
 have hj:aS items.size items.size hi<=items.size:=ah7 _ _ (aV0 _) hi
 obtain ⟨os,hos,hcs,hds⟩:=id hs
 have hTs:s.TypeIs (.ref sl) "slice":=⟨os,hos,hcs⟩
 unfold getItem
 try with_reducible refine bd9 ?_
 first | refine aU6 (aV4 ?_) | skip
 refine aU6 (wpAny_sequenceKey ht.typeIs (by decide) ?_)
 refine aU6 (ba6 (name:=Str.ofString "__getitem__") ht.typeIs be5
  (ba9 be5 ht.typeIs entry_tuple_getitem ?_ (args_tuple_getitem _ _)))
 show wpAny _ _ (Builtin.Tuple.tupleItemsOf (.ref t) >>= _) _ _ s
 refine aU6 (tupleItemsOf_ ht ?_)
 refine aU6 (wpAny_typeOf hTs ?_)
 rw [if_pos (by decide)]
 refine aU6 (yZ hs pl pu ?_)
 have hno : ¬ ((((aS items.size 0 lo:Nat):Int) == 0 && (1:Int) == 1 && (aS items.size items.size hi - aS items.size 0 lo) == items.size)=true):=by
  intro q
  rw [aW7,aW7] at q
  have q1:((aS items.size 0 lo:Nat):Int)=0:=eq_of_beq q.1.1
  have q2:aS items.size items.size hi - aS items.size 0 lo=items.size:=eq_of_beq q.2
  exact hw ⟨by omega,by omega⟩
 show wpAny _ _ (if (((aS items.size 0 lo:Nat):Int) == 0 && (1:Int) == 1 && (aS items.size items.size hi - aS items.size 0 lo) == items.size)=true then _ else _) _ _ s
 rw [if_neg hno,ai0]
 first
  | exact aU6 (m:=Builtin.Tuple.tupleExact _) (bb7 (aV4 ⟨_,rfl,aV4 h⟩) htake)
  | exact aU6 (m:=Builtin.Tuple.tupleExact _) (bb7 (aU6 (aV4 (aV4 ⟨_,rfl,aV4 h⟩))) htake)
  | exact aU6 (aU6 (m:=Builtin.Tuple.tupleExact _) (bb7 (aV4 (aV4 ⟨_,rfl,aV4 h⟩)) htake))
  | exact aU6 (aU6 (m:=Builtin.Tuple.tupleExact _) (bb7 (aV4 ⟨_,rfl,aV4 h⟩) htake))
end
end HT
namespace L2
open PySem PySem.Spec PyProof.Rows
abbrev TO:=St->Hp->(Option Int->Hp->Prop)->Prop
def PO (X:Cx) (e:Option Expr) (t:TO):Prop:=
 ∀ (pins:List (Addr × Obj)) (s:Shared) (σ:St) (H:Hp) (Q:Option Int->Hp->Prop),a7 X pins σ H s->t σ H Q->
  wpAny (model X.prog X.w) X.A (evalPart e X.env) (fun u s'=>∃ o H',a7 X pins σ H' s'/\IsPart u o/\Q o H') X.xe s
def ai2:TO:=fun _ H Q=>Q none H
def ai3 (t:TE):TO:=fun σ H Q=>t σ H fun x H1=>∃ i,x = .int i/\Q (some i) H1
theorem kD {ns:List Int}:∀ {us:List Value},aN (ns.map V.int) us->IntsAre us ns:=by
 induction ns with
 | nil=>intro us r; rw [List.map_nil] at r; cases r; exact .nil
 | cons n ns ih=>
  intro us r
  rw [aY6] at r
  cases r with
  | cons r1 r2=>
   obtain ⟨t,e⟩:=r1
   subst e
   exact .cons n t (ih r2)
section
variable {X : Cx} {e : Expr} {te : TE} {lo hi : Option Expr} {tl th : TO} {pos p2 : Pos}
theorem t9:PO X none ai2:=by
 intro pins s σ H Q I h
 rw [evalPart_none]
 exact aV4 ⟨none,H,I,.none,h⟩
theorem tD (h:PE X e te):PO X (some e) (ai3 te):=by
 intro pins s σ H Q I hw
 rw [evalPart_some]
 refine aM (h pins s σ H _ I hw) fun u s1 ⟨x,H1,I1,r1,q1⟩=>?_
 obtain ⟨i,rfl,q⟩:=q1
 obtain ⟨t,rfl⟩:=r1
 exact⟨some i,H1,I1,.int i t,q⟩
def jH (X:Cx) (r:V->Option Int->Option Int->Hp->VK->Prop):Prop:=
 ∀ (pins:List (Addr × Obj)) (s:Shared) (σ:St) (H:Hp) (x:V) (v vl vu:Value) (lo hi:Option Int) (sl:Addr) (Q:VK),a7 X pins σ H s->aR x v->s.heap.IsSliceOf sl vl vu .none->IsPart vl lo->IsPart vu hi->r x lo hi H Q->
  ∃ T id,typeLookup (.type T) "__getitem__" = pure (some (.builtin id))/\s.TypeIs v T/\wpAny (model X.prog X.w) X.A (getItem v (.ref sl)) (EP X pins σ Q) X.xe s
theorem jH.or {r r':V->Option Int->Option Int->Hp->VK->Prop} (h:jH X r) (h':jH X r'):jH X (fun x lo hi H Q=>r x lo hi H Q ∨ r' x lo hi H Q):=by
 intro pins s σ H x v vl vu lo hi sl Q I rx hs pl pu q
 rcases q with q | q
 ·exact h pins s σ H x v vl vu lo hi sl Q I rx hs pl pu q
 ·exact h' pins s σ H x v vl vu lo hi sl Q I rx hs pl pu q
def tSl (r:V->Option Int->Option Int->Hp->VK->Prop) (te:TE) (tl th:TO):TE:=fun σ H Q=>te σ H fun x H1=>tl σ H1 fun l H2=>th σ H2 fun u H3=>r x l u H3 Q
theorem tE {r:V->Option Int->Option Int->Hp->VK->Prop} (hr:jH X r) (he:PE X e te) (hl:PO X lo tl) (hu:PO X hi th):PE X (.Subscript e (.Slice lo hi none p2) pos) (tSl r te tl th):=by
 intro pins s σ H Q I h
 refine Subscript_ (aM (he pins s σ H _ I h) fun v s1 ⟨x,H1,I1,r1,q1⟩=>?_)
 refine wpAny_Slice (aM (hl pins s1 σ H1 _ I1 q1) fun vl s2 ⟨l,H2,I2,pl,q2⟩=>aM (hu pins s2 σ H2 _ I2 q2) fun vu s3 ⟨u,H3,I3,pu,q3⟩=>?_)
 rw [evalPart_none]
 refine aV4 ?_
 have I4:a7 X pins σ H3 { s3 with heap:=s3.heap.push { cls:=.type "slice",data:=.fields #[vl,vu,.none] } }:=I3.kept (t':=s3.toks) fun b ob q=>aU7 _ q
 obtain ⟨T,id,hT,ht,hg⟩:=hr pins { s3 with heap:=s3.heap.push { cls:=.type "slice",data:=.fields #[vl,vu,.none] } } σ H3 x v vl vu l u s3.heap.objs.size Q I4 r1 (Heap.IsSliceOf.new ..) pl pu q3
 show wpAny (model X.prog X.w) X.A (subscriptTail e (.Slice lo hi none p2) v (.ref s3.heap.objs.size)) (EP X pins σ Q) X.xe { s3 with heap:=s3.heap.push { cls:=.type "slice",data:=.fields #[vl,vu,.none] } }
 exact tail_any (ops:=[.ref s3.heap.objs.size,v]) ht hT hg (by with_unfolding_all rfl)
def dR (xs:List V) (lo hi:Option Int):List V:=(xs.drop (HT.aS xs.length 0 lo)).take (HT.aS xs.length xs.length hi - HT.aS xs.length 0 lo)
theorem z9 (xs:List V) (lo hi:Option Int):(dR xs lo hi).length<=xs.length:=by
 unfold dR
 rw [ba8,be8]
 omega
def ai4 (K:PySem.W.Frag):V->Option Int->Option Int->Hp->VK->Prop:=fun x lo hi H Q=>∃ a xs,x = .ref a/\aG K H a xs/\
 ¬ (HT.aS xs.length 0 lo=0/\HT.aS xs.length xs.length hi=xs.length)/\∀ p,H p=none->Q (.ref p) (upd H p (.tup (dR xs lo hi)))
theorem ai5:jH X (ai4 X.K):=by
 intro pins s σ H x v vl vu lo hi sl Q I rx hs pl pu h
 obtain ⟨a,xs,rfl,hx,hw,q⟩:=h
 cases rx
 obtain ⟨its,r,ht,hz⟩:=I.tuple hx
 have hlen:its.toArray.size=xs.length:=by rw [aU8]; exact r.length.symm
 refine⟨"tuple",_,PyProof.Rows.slot_tuple_getitem.lookup,ht.typeIs,?_⟩
 refine HT.ai1 ht hs pl pu (by rw [hlen]; exact hw) ?_ (by rw [hlen]; exact hz)
 rw [hlen]
 refine⟨.ref s.heap.objs.size,_,I.laid (t':=s.toks) (o:=.tup (dR xs lo hi)) (fun b ob q=>aU7 _ q) (aV0 _) ?_,rfl,q _ (I.hok.fresh (aV0 _))⟩
 exact⟨aY8 (z9 xs lo hi) hz,_,(r.drop (HT.aS xs.length 0 lo)).take (HT.aS xs.length xs.length hi - HT.aS xs.length 0 lo),IsTup.new _ _⟩
def zA (K:PySem.W.Frag):R2:=fun x y H Q=>∃ a b ns ms,x = .ref a/\y = .ref b/\aG K H a (ns.map V.int)/\aG K H b (ms.map V.int)/\Q (.bl (HT.cB ns ms)) H
theorem zB (hu:X.A.units < cLine):cD X (compareOp .Lt) (zA X.K):=by
 intro pins s σ H x y v u Q I rx ry h
 obtain ⟨a,b,ns,ms,rfl,rfl,ha,hb,q⟩:=h
 cases rx
 cases ry
 obtain ⟨its,r1,p1,_⟩:=I.tuple ha
 obtain ⟨its2,r2,p2,_⟩:=I.tuple hb
 have i1:IntsAre its.toArray.toList ns:=kD r1
 have i2:IntsAre its2.toArray.toList ms:=kD r2
 exact HT.ah4 p1 p2 i1 i2 hu ⟨.bl (HT.cB ns ms),H,I,rfl,q⟩
def ai6 (K:PySem.W.Frag):R2:=fun x y H Q=>∃ a b xs ys,x = .ref a/\y = .ref b/\aG K H a xs/\aG K H b ys/\xs ≠ []/\xs.length+ys.length<=sizeLine/\
 (ys = []->Q (.ref a) H)/\(ys ≠ []->∀ p,H p=none->Q (.ref p) (upd H p (.tup (xs ++ ys))))
theorem aN.nil_iff {xs:List V}{us:List Value} (r:aN xs us):us = [] ↔ xs = []:=by
 cases r with
 | nil=>simp
 | cons _ _=>simp
theorem ai7:cD X (binaryOp .Add) (ai6 X.K):=by
 intro pins s σ H x y v u Q I rx ry h
 obtain ⟨a,b,xs,ys,rfl,rfl,ha,hb,hx,hz,q1,q2⟩:=h
 cases rx
 cases ry
 obtain ⟨its,r1,p1,_⟩:=I.tuple ha
 obtain ⟨its2,r2,p2,_⟩:=I.tuple hb
 refine HT.ah5 p1 p2 (fun z=>hx (r1.nil_iff.mp z)) (fun z=>⟨.ref a,H,I,rfl,q1 (r2.nil_iff.mp z)⟩) (fun z=>?_) (by rw [<- r1.length,<- r2.length]; exact hz)
 refine⟨.ref s.heap.objs.size,_,I.laid (t':=s.toks) (o:=.tup (xs ++ ys)) (fun b ob q=>aU7 _ q) (aV0 _) ?_,rfl,q2 (fun w=>z (r2.nil_iff.mpr w)) _ (I.hok.fresh (aV0 _))⟩
 exact⟨by rw [aU9]; exact hz,_,r1.append r2,IsTup.new _ _⟩
end
def i9 (n:Nat) (i:Int):Option Nat:=if 0<=i then (if i < n then some i.toNat else none) else if -(n:Int)<=i then some (i+n).toNat else none
def atI {α:Type} (xs:List α) (i:Int):Option α:=(i9 xs.length i).bind fun j=>xs[j]?
theorem zC {n:Nat}{i:Int}{j:Nat} (h:i9 n i=some j):seqIndex? i n=some j/\j < n/\-(n:Int)<=i/\i < n:=by
 unfold i9 at h
 by_cases h0:0<=i
 ·rw [if_pos h0] at h
  by_cases h1:i < n
  ·rw [if_pos h1] at h
   have e:i.toNat=j:=aX6 h
   exact⟨by rw [seqIndex_of h0 h1,e],by omega,by omega,h1⟩
  ·rw [if_neg h1] at h; cases h
 ·rw [if_neg h0] at h
  by_cases h1 : -(n:Int)<=i
  ·rw [if_pos h1] at h
   have e:(i+n).toNat=j:=aX6 h
   exact⟨by rw [seqIndex_neg (by omega) h1,e],by omega,h1,by omega⟩
  ·rw [if_neg h1] at h; cases h
theorem tF {α:Type}{xs:List α}{i:Int}{v:α} (h:atI xs i=some v):∃ j,seqIndex? i xs.length=some j/\xs[j]? = some v/\j < xs.length/\-(xs.length:Int)<=i/\i < xs.length:=by
 unfold atI at h
 cases e:i9 xs.length i with
 | none=>rw [e] at h; cases h
 | some j=>
  rw [e] at h
  obtain ⟨h1,h2,h3,h4⟩:=zC e
  exact⟨j,h1,h,h2,h3,h4⟩
theorem tG {α:Type}{xs:List α}{j:Nat}{v:α} (h:xs[j]? = some v):atI xs (j:Int)=some v:=by
 have hj:j < xs.length:=(aV3.mp h).1
 have e:i9 xs.length (j:Int)=some j:=by
  unfold i9
  rw [if_pos (by omega),if_pos (by omega)]; simp
 unfold atI; rw [e]; exact h
def zD (b:Expr):Prop:=∀ o i,subscripted b false o i=operate [o,i] (getItem o i)
def iS (X:Cx) (r:R2):Prop:=
 ∀ (value slice:Expr) (pins:List (Addr × Obj)) (s:Shared) (σ:St) (H:Hp) (x y:V) (v u:Value) (Q:VK),a7 X pins σ H s->aR x v->aR y u->r x y H Q->
  subscripted slice false v u=operate [v,u] (getItem v u)->wpAny (model X.prog X.w) X.A (subscriptTail value slice v u) (EP X pins σ Q) X.xe s
def MtR (X:Cx) (id:String) (r:V->List V->Hp->VK->Prop):Prop:=
 ∀ (pins:List (Addr × Obj)) (s:Shared) (σ:St) (H:Hp) (x:V) (xs:List V) (v:Value) (us:List Value) (Q:VK),a7 X pins σ H s->aR x v->aN xs us->r x xs H Q->
  wpAny (model X.prog X.w) X.A (call (.builtin id) (v :: us)) (EP X pins σ Q) X.xe s
section
variable {X : Cx} {a b : Expr} {ta tb : TE} {pos : Pos}
theorem iS.or {r r':R2} (h:iS X r) (h':iS X r'):iS X (fun x y H Q=>r x y H Q ∨ r' x y H Q):=by
 intro value slice pins s σ H x y v u Q I rx ry q hs
 rcases q with q | q
 ·exact h value slice pins s σ H x y v u Q I rx ry q hs
 ·exact h' value slice pins s σ H x y v u Q I rx ry q hs
theorem mY {r:R2} (hr:iS X r) (ha:PE X a ta) (hb:PE X b tb) (hs:zD b):PE X (.Subscript a b pos) (mV r ta tb):=by
 intro pins s σ H Q I h
 exact Subscript_ (sV ha hb I h fun v u s2 x y H2 I2 rx ry q=>hr a b pins s2 σ H2 x y v u Q I2 rx ry q (hs _ _))
def zE (K:PySem.W.Frag):R2:=fun x y H Q=>∃ p xs i v,x = .ref p/\y = .int i/\aJ K H p xs/\atI xs i=some v/\Q v H
def zF (K:PySem.W.Frag):R2:=fun x y H Q=>∃ p xs i v,x = .ref p/\y = .int i/\aG K H p xs/\atI xs i=some v/\Q v H
def zG:R2:=fun x y H Q=>∃ z i c,x = .str z/\y = .int i/\z.length<=sizeLine/\atI z.cps.toList i=some c/\Q (.str ⟨#[c]⟩) H
theorem tH:iS X (zE X.K):=by
 intro value slice pins s σ H x y v u Q I rx ry h hs
 obtain ⟨p,xs,i,z,rfl,rfl,hq,he,q⟩:=h
 cases rx
 obtain ⟨t,rfl⟩:=ry
 obtain ⟨its,r,pl,hz⟩:=I.list hq
 obtain ⟨j,h1,h2,h3,h4,h5⟩:=tF he
 obtain ⟨w,ew,rw'⟩:=r.get h2
 have hl:=r.length
 have hn:=lD
 have fin:EP X pins σ Q w s:=⟨z,H,I,rw',q⟩
 by_cases h0:0<=i
 ·have hj:i.toNat=j:=by
   rw [seqIndex_of h0 h5] at h1
   exact aX6 h1
  exact item_listR pl.isList h0 (by omega) (by rw [hj]; simpa using ew) fin hs
 ·have hj:(i+(its.toArray.size:Int)).toNat=j:=by
   rw [seqIndex_neg (by omega) h4] at h1
   rw [aU8,<- hl]
   exact aX6 h1
  exact subscriptTail_builtinR (x:=w) pl.isList.typeIs slot_list_getitem.lookup
   (wpAny_getItem_list_neg (Q:=fun r s'=>r=w/\EP X pins σ Q r s') pl.isList (by omega) (by rw [aU8] <;> omega) (by omega) (by rw [hj]; simpa using ew) ⟨rfl,fin⟩) hs
theorem tI:iS X (zF X.K):=by
 intro value slice pins s σ H x y v u Q I rx ry h hs
 obtain ⟨p,xs,i,z,rfl,rfl,hq,he,q⟩:=h
 cases rx
 obtain ⟨t,rfl⟩:=ry
 obtain ⟨its,r,pl,hz⟩:=I.tuple hq
 obtain ⟨j,h1,h2,h3,h4,h5⟩:=tF he
 obtain ⟨w,ew,rw'⟩:=r.get h2
 have hl:=r.length
 have hn:=lD
 have fin:EP X pins σ Q w s:=⟨z,H,I,rw',q⟩
 exact subscriptTail_builtinR (x:=w) pl.typeIs slot_tuple_getitem.lookup
  (getItem_tuple (j:=j) (Q:=fun r s'=>r=w/\EP X pins σ Q r s') pl (by omega) (by omega) (by rw [aU8,<- hl]; exact h1) (by simpa using ew) ⟨rfl,fin⟩) hs
theorem ai8:iS X zG:=by
 intro value slice pins s σ H x y v u Q I rx ry h hs
 obtain ⟨z,i,c,rfl,rfl,hz,he,q⟩:=h
 obtain ⟨t,rfl⟩:=rx
 obtain ⟨t',rfl⟩:=ry
 obtain ⟨j,h1,h2,h3,h4,h5⟩:=tF he
 have hl:z.cps.toList.length=z.length:=by simp [Str.length]
 rw [hl] at h1 h4 h5
 have hn:=lD
 exact tail_any (typeIs_str s z t) slot_str_getitem.lookup (getItem_str (c:=c) (by
  have e1:decide (i < -(2 ^ 63:Int))=false:=aW4 (by omega)
  have e2:decide (i >= 2 ^ 63)=false:=aW4 (by omega)
  rw [e1,e2,Bool.or_false]) (by rw [h1]; simpa using h2) ⟨.str ⟨#[c]⟩,H,I.tok _,⟨_,rfl⟩,q⟩) hs
def zH (K:PySem.W.Frag):R2:=fun x y H Q=>zE K x y H Q ∨ zF K x y H Q ∨ zG x y H Q
theorem ai9:iS X (zH X.K):=tH.or (tI.or ai8)
theorem aj0 (its:List Value) (n j:Nat) (u:Value):Obj.mapSeq (·.setIfInBounds j u) { cls:=.type "list",data:=.seq its.toArray n }={ cls:=.type "list",data:=.seq (its.set j u).toArray n }:=by
 simp [Obj.mapSeq]
theorem a7.lst {pins:List (Addr × Obj)}{σ:St}{H:Hp}{s:Shared}{p:Addr}{xs:List V} (I:a7 X pins σ H s) (h:H p=some (.lst xs)) :
  ∃ (its:List Value) (n:Nat),aN xs its/\s.heap.get? p=some { cls:=.type "list",data:=.seq its.toArray n }/\xs.length<=sizeLine:=by
 obtain ⟨z,its,n,r,e⟩:=I.hok p _ h
 exact⟨its,n,r,e,z⟩
theorem a7.lstUpd {pins:List (Addr × Obj)}{σ:St}{H:Hp}{s:Shared}{p:Addr}{xs ys:List V}{its its':List Value}{n n':Nat}{f:Obj->Obj} (I:a7 X pins σ H s) (h:H p=some (.lst xs))
  (ho:s.heap.get? p=some { cls:=.type "list",data:=.seq its.toArray n }) (hf:f { cls:=.type "list",data:=.seq its.toArray n }={ cls:=.type "list",data:=.seq its'.toArray n' }) (r:aN ys its') (hz:ys.length<=sizeLine) (t:Nat) :
  a7 X pins σ (upd H p (.lst ys)) { s with heap:=s.heap.update p f,toks:=t }:=by
 have e:(s.heap.update p f).get? p=some { cls:=.type "list",data:=.seq its'.toArray n' }:=by
  rw [Heap.get?_update_self f ho (by rw [hf] <;> rfl),hf]
 refine I.write (x:=p) (e:=p) (by rw [h]; trivial) (.inl rfl) (fun b u hb q=>(Heap.get?_update_other _ _ (Ne.symm hb)).trans q) ⟨_,e⟩ ?_
 exact⟨hz,its',n',r,e⟩
def tJ:V->V->V->Hp->(Hp->Prop)->Prop:=fun o i v H Q=>∃ p xs k j,o = .ref p/\i = .int k/\H p=some (.lst xs)/\i9 xs.length k=some j/\Q (upd H p (.lst (xs.set j v)))
theorem aj1:xQ X tJ:=by
 intro pins s σ H o i v ov iv u Q I ro ri rv h
 obtain ⟨p,xs,k,j,rfl,rfl,hp,hj,q⟩:=h
 cases ro
 obtain ⟨t,rfl⟩:=ri
 obtain ⟨its,n,r,ho,hz⟩:=I.lst hp
 obtain ⟨h1,h2,h3,h4⟩:=zC hj
 have hl:=r.length
 have hn:=lD
 have I':a7 X pins σ (upd H p (.lst (xs.set j v))) { s with heap:=s.heap.update p (Obj.mapSeq (·.setIfInBounds j u)) }:=
  I.lstUpd hp ho (aj0 its n j u) (r.set rv j) (by rw [ba1]; exact hz) s.toks
 by_cases h0:0<=k
 ·have hk:k.toNat=j:=by
   rw [seqIndex_of h0 h4] at h1
   exact aX6 h1
  exact PySem.W.ki_setAt ho h0 (by omega) (by rw [aU8,<- hl]; exact h4) (by rw [hk]; exact⟨_,I',q⟩)
 ·have hk:(k+(its.toArray.size:Int)).toNat=j:=by
   rw [seqIndex_neg (by omega) h3] at h1
   rw [aU8,<- hl]
   exact aX6 h1
  exact PySem.W.ki_setBack ho (by omega) (by rw [aU8,<- hl]; exact h3) (by omega) (by rw [hk]; exact⟨_,I',q⟩)
theorem aj2 (lo hi:Option Int) (n:Nat):(sliceBounds lo hi none n).1=((HT.aS n 0 lo:Nat):Int)/\(sliceBounds lo hi none n).2.1=((HT.aS n n hi:Nat):Int)/\(sliceBounds lo hi none n).2.2=1:=by
 refine⟨?_,?_,rfl⟩
 ·cases lo with
  | none=>simp [sliceBounds,HT.aS]
  | some i=>
   simp only [sliceBounds,HT.aS,Option.getD_none,show (1:Int) > 0 by decide,if_true]
   by_cases h:i < 0
   ·simp only [h,if_true] <;> omega
   ·simp only [h,bb2] <;> omega
 ·cases hi with
  | none=>simp [sliceBounds,HT.aS]
  | some i=>
   simp only [sliceBounds,HT.aS,Option.getD_none,show (1:Int) > 0 by decide,if_true]
   by_cases h:i < 0
   ·simp only [h,if_true] <;> omega
   ·simp only [h,bb2] <;> omega
theorem aj3 (its:List Value) (lo hi:Option Int):slicePick its.toArray lo hi none=((its.drop (HT.aS its.length 0 lo)).take (HT.aS its.length its.length hi - HT.aS its.length 0 lo)).toArray:=by
 obtain ⟨h1,h2,h3⟩:=aj2 lo hi its.toArray.size
 unfold slicePick
 rw [h1,h2,h3]
 simp only [sliceRange_one,pick_run,aU8] <;> rfl
def aj4 (K:PySem.W.Frag):V->Option Int->Option Int->Hp->VK->Prop:=fun x lo hi H Q=>∃ a xs,x = .ref a/\aJ K H a xs/\∀ p,H p=none->Q (.ref p) (upd H p (.lst (dR xs lo hi)))
theorem zI:jH X (aj4 X.K):=by
 intro pins s σ H x v vl vu lo hi sl Q I rx hs pl pu h
 obtain ⟨a,xs,rfl,hx,q⟩:=h
 cases rx
 obtain ⟨its,r,ht,hz⟩:=I.list hx
 have hlen:=r.length
 refine⟨"list",_,slot_list_getitem.lookup,ht.isList.typeIs,?_⟩
 refine wpAny_getItem_list_slice ht.isList hs pl pu .none (by simp) ?_ (by rw [aU8] <;> omega)
 rw [aj3,<- hlen]
 refine⟨.ref s.heap.objs.size,_,I.laid (t':=s.toks) (o:=.lst (dR xs lo hi)) (fun b ob q=>aU7 _ q) (aV0 _) ?_,rfl,q _ (I.hok.fresh (aV0 _))⟩
 exact⟨aY8 (z9 xs lo hi) hz,_,0,(r.drop (HT.aS xs.length 0 lo)).take (HT.aS xs.length xs.length hi - HT.aS xs.length 0 lo),aV8 _ rfl⟩
def iT:V->Bool
 | .non=>true
 | .bl _=>true
 | .int _=>true
 | .str _=>true
 | _=>false
def gW:V->V->Bool
 | .non,.non=>true
 | .bl a,.bl b=>a == b
 | .bl a,.int b=>(if a then 1 else 0) == b
 | .int a,.bl b=>a == (if b then 1 else 0)
 | .int a,.int b=>a == b
 | .str a,.str b=>a == b
 | _,_=>false
theorem aj5 {A:Around}{s:Shared}{y x:V}{u v:Value} (ry:aR y u) (rx:aR x v) (fy:iT y=true) (fx:iT x=true):SeqAt.EqAt A s u v (gW y x):=by
 cases y with
 | non=>
  cases ry
  cases x with
  | non=>cases rx; exact SeqAt.EqAt.same _
  | bl b=>cases rx; exact SeqAt.EqAt.none_bool b
  | int b=>obtain ⟨t,rfl⟩:=rx; exact SeqAt.EqAt.none_int b t
  | str b=>obtain ⟨t,rfl⟩:=rx; exact SeqAt.EqAt.none_str b t
  | _=>exact absurd (show false=true from fx) aW9
 | bl a=>
  cases ry
  cases x with
  | non=>cases rx; exact SeqAt.EqAt.bool_none a
  | bl b=>cases rx; exact SeqAt.EqAt.bool_bool a b
  | int b=>obtain ⟨t,rfl⟩:=rx; exact SeqAt.EqAt.bool_int a b t
  | str b=>obtain ⟨t,rfl⟩:=rx; exact SeqAt.EqAt.bool_str a b t
  | _=>exact absurd (show false=true from fx) aW9
 | int a=>
  obtain ⟨t',rfl⟩:=ry
  cases x with
  | non=>cases rx; exact SeqAt.EqAt.int_none a t'
  | bl b=>cases rx; exact SeqAt.EqAt.int_bool a t' b
  | int b=>obtain ⟨t,rfl⟩:=rx; exact SeqAt.EqAt.int_int a t' b t
  | str b=>obtain ⟨t,rfl⟩:=rx; exact SeqAt.EqAt.int_str a t' b t
  | _=>exact absurd (show false=true from fx) aW9
 | str a=>
  obtain ⟨t',rfl⟩:=ry
  cases x with
  | non=>cases rx; exact SeqAt.EqAt.str_none a t'
  | bl b=>cases rx; exact SeqAt.EqAt.str_bool a t' b
  | int b=>obtain ⟨t,rfl⟩:=rx; exact SeqAt.EqAt.str_int a t' b t
  | str b=>obtain ⟨t,rfl⟩:=rx; exact SeqAt.EqAt.str_str a t' b t
  | _=>exact absurd (show false=true from fx) aW9
 | _=>exact absurd (show false=true from fy) aW9
def iU (x:V) (u:Value):Bool:=match u with
 | .none=>gW .non x
 | .bool b=>gW (.bl b) x
 | .int i _=>gW (.int i) x
 | .str z _=>gW (.str z) x
 | _=>false
theorem zJ {x y:V}{u:Value} (r:aR y u) (f:iT y=true):iU x u=gW y x:=by
 cases y with
 | non=>cases r; rfl
 | bl b=>cases r; rfl
 | int i=>obtain ⟨t,rfl⟩:=r; rfl
 | str z=>obtain ⟨t,rfl⟩:=r; rfl
 | _=>exact absurd (show false=true from f) aW9
theorem tK {x:V}:∀ {xs:List V}{us:List Value},aN xs us->xs.all iT=true->us.any (iU x)=xs.any fun y=>gW y x
 | _,_,.nil,_=>rfl
 | y :: xs,u :: us,.cons r t,f=>by
  rw [bg0,aW7] at f
  rw [List.any_cons,List.any_cons,zJ r f.1,tK t f.2]
theorem tL {A:Around}{s:Shared}{x:V}{v:Value} (rx:aR x v) (fx:iT x=true):∀ {xs:List V}{us:List Value},aN xs us->xs.all iT=true->∀ u ∈ us,SeqAt.EqAt A s u v (iU x u)
 | _,_,.nil,_=>fun u hu=>by cases hu
 | y :: xs,u :: us,.cons r t,f=>fun u' hu=>by
  rw [bg0,aW7] at f
  rcases aV5.mp hu with rfl | hu
  ·rw [zJ r f.1]; exact aj5 r rx f.1 fx
  ·exact tL rx fx t f.2 u' hu
def mZ (x:V) (xs:List V):Bool:=xs.any fun y=>gW y x
def zK (K:PySem.W.Frag) (neg:Bool):R2:=fun x y H Q=>∃ p xs,y = .ref p/\(aJ K H p xs ∨ aG K H p xs)/\iT x=true/\xs.all iT=true/\Q (.bl (if neg then !mZ x xs else mZ x xs)) H
theorem aj6:cD X (compareOp .In) (zK X.K false):=by
 intro pins s σ H x y v u Q I rx ry h
 obtain ⟨p,xs,rfl,hq,fx,fs,q⟩:=h
 cases ry
 rcases hq with hq | hq
 ·obtain ⟨its,r,pl,hz⟩:=I.list hq
  refine SeqAt.in_listAt (iU x) pl.isList (fun w hw=>tL rx fx r fs w (by simpa using hw)) ⟨.bl _,H,I,rfl,?_⟩
  rw [show its.toArray.any (iU x)=its.any (iU x) by simp,tK r fs]
  exact q
 ·obtain ⟨its,r,pl,hz⟩:=I.tuple hq
  refine SeqAt.in_tupleAt (iU x) pl (fun w hw=>tL rx fx r fs w (by simpa using hw)) ⟨.bl _,H,I,rfl,?_⟩
  rw [show its.toArray.any (iU x)=its.any (iU x) by simp,tK r fs]
  exact q
theorem aj7:cK X (.builtin "len") (fun xs H Q=>∃ p ys,xs = [.ref p]/\(aJ X.K H p ys ∨ aG X.K H p ys)/\Q (.int ys.length) H):=by
 intro pins s σ H xs us Q I r h
 obtain ⟨p,ys,rfl,hq,q⟩:=h
 obtain ⟨u,rfl,rx⟩:=eW r
 cases rx
 have hn:=lD
 rcases hq with hq | hq
 ·obtain ⟨its,r',pl,hz⟩:=I.list hq
  have hlen:=r'.length
  exact Calls.call_len_list pl.isList (by simp only [aU8] <;> omega) ⟨.int ys.length,H,I.tok _,⟨s.toks+1,by rw [aU8,hlen]⟩,q⟩
 ·obtain ⟨its,r',pl,hz⟩:=I.tuple hq
  have hlen:=r'.length
  exact len_tuple pl (by simp only [aU8] <;> omega) ⟨.int ys.length,H,I.tok _,⟨s.toks+1,by rw [aU8,hlen]⟩,q⟩
theorem cK.or {f:Value}{r r':List V->Hp->VK->Prop} (h:cK X f r) (h':cK X f r'):cK X f (fun xs H Q=>r xs H Q ∨ r' xs H Q):=by
 intro pins s σ H xs us Q I rs q
 rcases q with q | q
 ·exact h pins s σ H xs us Q I rs q
 ·exact h' pins s σ H xs us Q I rs q
theorem aj8:cK X (.type "list") (fun xs H Q=>∃ p ys,xs = [.ref p]/\(aJ X.K H p ys ∨ aG X.K H p ys)/\∀ l,H l=none->Q (.ref l) (upd H l (.lst ys))):=by
 intro pins s σ H xs us Q I r h
 obtain ⟨p,ys,rfl,hq,q⟩:=h
 obtain ⟨u,rfl,rx⟩:=eW r
 cases rx
 have fin:∀ (its:List Value),aN ys its->ys.length<=sizeLine->∀ (h':Heap) (c':Nat),(∀ b o',s.heap.get? b=some o'->h'.get? b=some o')->
   h'.get? s.heap.objs.size=some { cls:=.type "list",dict:=none,data:=.seq its.toArray c',slots:=#[] }->EP X pins σ Q (.ref s.heap.objs.size) { s with heap:=h' }:=fun its r' hz h' c' kp e=>
  ⟨.ref s.heap.objs.size,_,I.laid (t':=s.toks) kp (aV0 _) (show bK X.prog X.w _ h' _ (.lst ys) from ⟨hz,its,c',r',e⟩),rfl,q _ (I.hok.fresh (aV0 _))⟩
 rcases hq with hq | hq
 ·obtain ⟨its,r',pl,hz⟩:=I.list hq
  have hlen:=r'.length
  obtain ⟨o,ho,hc,n,hd⟩:=pl.isList
  exact call_list_seq p (.inl rfl) ho hc hd (fun h' c' kp e=>fin its r' hz h' c' kp e) (by simp only [aU8] <;> omega)
 ·obtain ⟨its,r',pl,hz⟩:=I.tuple hq
  have hlen:=r'.length
  obtain ⟨o,ho,hc,n,hd⟩:=pl
  exact call_list_seq p (.inr rfl) ho hc hd (fun h' c' kp e=>fin its r' hz h' c' kp e) (by simp only [aU8] <;> omega)
theorem aj9:cK X (.type "tuple") (fun xs H Q=>∃ p ys,xs = [.ref p]/\((aJ X.K H p ys/\∀ l,H l=none->Q (.ref l) (upd H l (.tup ys))) ∨ (aG X.K H p ys/\Q (.ref p) H))):=by
 intro pins s σ H xs us Q I r h
 obtain ⟨p,ys,rfl,h⟩:=h
 obtain ⟨u,rfl,rx⟩:=eW r
 cases rx
 rcases h with ⟨hq,q⟩ | ⟨hq,q⟩
 ·obtain ⟨its,r',pl,hz⟩:=I.list hq
  have hlen:=r'.length
  refine call_tuple_list pl.isList (fun h' kp=>?_) (by simp only [aU8] <;> omega)
  have I1:a7 X pins σ H { s with heap:=h' }:=I.kept (t':=s.toks) kp
  have I2:a7 X pins σ (upd H h'.objs.size (.tup ys)) { s with heap:=h'.push { cls:=.type "tuple",data:=.seq its.toArray } }:=
   I1.laid (t':=s.toks) (fun b o e=>aU7 _ e) (aV0 _) (show bK X.prog X.w _ _ _ (.tup ys) from ⟨hz,its,r',IsTup.new _ _⟩)
  exact⟨.ref h'.objs.size,_,I2,rfl,q _ (I1.hok.fresh (aV0 _))⟩
 ·obtain ⟨its,r',pl,hz⟩:=I.tuple hq
  exact call_tuple_same pl ⟨.ref p,H,I,rfl,q⟩
def pA (K:PySem.W.Frag) (T:String) (x:V) (H:Hp):Prop:=match x with
 | .str _=>T="str"
 | .int _=>T="int"
 | .ref p=>(T="list"/\∃ xs,aJ K H p xs) ∨ (T="tuple"/\∃ o,K.lookup p=some o/\o.cls = .type "tuple"/\o.dict=none) ∨
   (T="dict"/\((∃ kvs,H p=some (.dK kvs)) ∨ ∃ kvs,H p=some (.dT kvs))) ∨ (T="set"/\∃ S n,H p=some (.set S n))
 | _=>False
theorem ak0 {pins:List (Addr × Obj)}{σ:St}{H:Hp}{s:Shared}{T:String}{x:V}{v:Value} (I:a7 X pins σ H s) (r:aR x v) (ty:pA X.K T x H) :
  s.TypeIs v T/\∀ a,v = .ref a->∃ ob,s.heap.get? a=some ob/\ob.dict=none:=by
 cases x with
 | str z=>
  obtain ⟨t,rfl⟩:=r
  cases (show T="str" from ty)
  exact⟨typeIs_str s z t,fun _ e=>nomatch e⟩
 | int i=>
  obtain ⟨t,rfl⟩:=r
  cases (show T="int" from ty)
  exact⟨typeIs_int s i t,fun _ e=>nomatch e⟩
 | ref p=>
  cases r
  rcases ty with ⟨rfl,xs,hq⟩ | ⟨rfl,o,hk,hc,hd⟩ | ⟨rfl,hk⟩ | ⟨rfl,S,n,hk⟩
  ·obtain ⟨its,_,pl,_⟩:=I.list hq
   refine⟨pl.isList.typeIs,fun a e=>?_⟩
   cases e
   obtain ⟨o,n,e,c,hd,_⟩:=pl
   exact⟨o,e,hd⟩
  ·refine⟨⟨o,I.kIn p o hk,hc⟩,fun a e=>?_⟩
   cases e
   exact⟨o,I.kIn _ o hk,hd⟩
  ·have z:∃ o,s.heap.get? p=some o/\o.ExactDict:=by
    rcases hk with ⟨kvs,hk⟩ | ⟨kvs,hk⟩
    ·obtain ⟨_,_,_,_,o,_,_,e,ex,_⟩:=I.hok p _ hk
     exact⟨o,e,ex⟩
    ·obtain ⟨_,_,_,_,o,_,_,e,ex,_⟩:=I.hok p _ hk
     exact⟨o,e,ex⟩
   obtain ⟨o,e,ex⟩:=z
   refine⟨⟨o,e,ex.1⟩,fun a e2=>?_⟩
   cases e2
   exact⟨o,e,ex.2.1⟩
  ·obtain ⟨o,_,_,_,e,ex,_⟩:=I.hok p _ hk
   refine⟨⟨o,e,ex.1⟩,fun a e2=>?_⟩
   cases e2
   exact⟨o,e,ex.2.1⟩
 | _=>exact False.elim ty
def zL (K:PySem.W.Frag) (T:String) (r:V->List V->Hp->VK->Prop) (to:TE) (t:TA):TE:=fun σ H Q=>to σ H fun x H1=>pA K T x H1/\t σ H1 fun xs H2=>r x xs H2 Q
variable {o e : Expr} {es : List Expr} {to : TE} {t : TA} {name : Str} {apos cpos : Pos} {T id : String} {r : V → List V → Hp → VK → Prop}
theorem tM (pa:PlainAttrs T) (slot:Slot T name id) (hty:typeOf (.builtin id)=pure (.type "method_descriptor")) (hm:MtR X id r) (ho:PE X o to) (ha:PA X (e :: es) t)
  (hbase:attributeBase o name X.env (eval o X.env)=eval o X.env:=by rfl)
  (hfew:((backTo cpos (starEach (e :: es) X.env)).all (fun x=>!x.1) && (backToKw cpos (keywordEach [] X.env)).all (fun x=>x.1.isSome)
   && decide ((e :: es).length+([]:List Keyword).length+(if ([]:List Keyword).isEmpty then 0 else 1) < 30))=true:=by rfl)
  (hline:(apos.endLine == cpos.line)=true:=by rfl) (hs:starEach (e :: es) X.env=(false,eval e X.env) :: starEach es X.env:=by rfl) (hplain:(backTo cpos (starEach es X.env)).any (·.1)=false:=by rfl) :
  PE X (.Call (.Attribute o name apos) (e :: es) [] cpos) (zL X.K T r to t):=by
 intro pins s σ H Q I h
 refine wpAny_Call_method_late hbase hfew hline rfl (aM (ho pins s σ H _ I h) fun v s1 ⟨x,H1,I1,r1,ty,q1⟩=>?_)
 obtain ⟨h1,h2⟩:=ak0 I1 r1 ty
 refine⟨T,id,pa,slot,hty,h1,h2,?_⟩
 have hA:=ha cpos pins s1 σ H1 _ I1 q1
 rw [hs] at hA ⊢
 refine Calls.callWith_builtin (by show (false || (backTo cpos (starEach es X.env)).any (·.1))=false; rw [hplain] <;> rfl) (Calls.evalArgs_plain ?_)
 exact aM hA fun us s2 ⟨vs,H2,I2,r2,q2⟩=>hm pins s2 σ H2 x vs v us Q I2 r1 r2 q2
end
def zM (X:Cx) (id:String) (r:V->List V->Hp->VK->Prop):Prop:=
 ∀ (pins:List (Addr × Obj)) (s:Shared) (σ:St) (H:Hp) (x:V) (xs:List V) (v:Value) (us:List Value) (Q:VK),a7 X pins σ H s->aR x v->aN xs us->r x xs H Q->
  wpAny (model X.prog X.w) X.A (call (.builtin id) (v :: us)) (EP X pins σ Q) X.xe s
theorem aN.one {x:V}{us:List Value} (h:aN [x] us):∃ u,us = [u]/\aR x u:=by
 cases h with
 | cons r t=>
  cases t
  exact⟨_,rfl,r⟩
theorem aN.eraseIdx:∀ {xs:List V}{us:List Value} (i:Nat),aN xs us->aN (xs.eraseIdx i) (us.eraseIdx i)
 | _,_,_,.nil=>.nil
 | _,_,0,.cons _ t=>t
 | _,_,i+1,.cons r t=>.cons r (aN.eraseIdx i t)
section
variable {X : Cx} {pins : List (Addr × Obj)} {σ : St} {H : Hp} {s : Shared} {l b : Addr} {xs ys zs : List V}
theorem a7.lset {its its':List Value}{n:Nat}{f:Array Value->Array Value}{t':Nat} (I:a7 X pins σ H s) (hH:H l=some (.lst xs))
  (e:s.heap.get? l=some { cls:=.type "list",data:=.seq its.toArray n }) (hf:f its.toArray=its'.toArray) (hv:aN ys its') (hz:ys.length<=sizeLine) :
  a7 X pins σ (upd H l (.lst ys)) { s with heap:=s.heap.update l (Obj.mapSeq f),toks:=t' }:=by
 have q:=PySem.IsL.update e f
 rw [hf] at q
 refine I.write (x:=l) (e:=l) (by rw [hH]; exact trivial) (.inl rfl) (fun b' u hb hu=>(Heap.get?_update_other s.heap (Obj.mapSeq f) (Ne.symm hb)).trans hu) ⟨_,q⟩ ?_
 exact⟨hz,its',_,hv,q⟩
theorem a7.lnew {its:List Value}{t':Nat} (I:a7 X pins σ H s) (hv:aN ys its) (hz:ys.length<=sizeLine) :
  a7 X pins σ (upd H s.heap.objs.size (.lst ys)) { s with heap:=s.heap.push { cls:=.type "list",data:=.seq its.toArray },toks:=t' }:=
 I.laid (fun _ _ q=>aU7 _ q) (aV0 _) ⟨hz,its,0,hv,aV8 _ rfl⟩
theorem a7.fresh (I:a7 X pins σ H s):H s.heap.objs.size=none:=I.hok.fresh (aV0 _)
theorem a7.lstM (I:a7 X pins σ H s) (hH:H l=some (.lst xs)):xs.length<=sizeLine/\∃ (its:List Value) (n:Nat),aN xs its/\xs.length=its.length/\s.heap.get? l=some { cls:=.type "list",data:=.seq its.toArray n }:=by
 obtain ⟨z,its,n,r,e⟩:=I.hok l _ hH
 exact⟨z,its,n,r,r.length,e⟩
theorem ak1 {n:Nat} (h:n<=sizeLine):Builtin.List.listTooLong n=false:=by
 unfold Builtin.List.listTooLong
 exact aW4 (by omega)
end
section
variable {X : Cx}
def zN:V->List V->Hp->VK->Prop:=fun x vs H Q=>∃ l xs y,x = .ref l/\vs = [y]/\H l=some (.lst xs)/\xs.length < sizeLine/\Q .non (upd H l (.lst (xs ++ [y])))
theorem pB:zM X "list.append" zN:=by
 intro pins s σ H x vs v us Q I rx rv h
 obtain ⟨l,xs,y,rfl,rfl,hH,hz,q⟩:=h
 cases rx
 obtain ⟨u,rfl,ru⟩:=rv.one
 obtain ⟨z,its,n,r,hl,e⟩:=I.lstM hH
 refine call_meets F.slot_list_append ⟨_,e,rfl⟩ F.entry_list_append (F.args_list_append_2 _ _) (PySem.list_append l its.toArray n u (by rw [aU8]; omega)) ⟨e,?_⟩
 refine⟨.non,_,I.lset (its':=its ++ [u]) hH e (by simp) (r.append (.cons ru .nil)) ?_,rfl,q⟩
 rw [aU9,aZ1]
 omega
def ak2:V->List V->Hp->VK->Prop:=fun x vs H Q=>∃ l b xs zs,x = .ref l/\vs = [.ref b]/\H l=some (.lst xs)/\H b=some (.lst zs)/\xs.length+zs.length<=sizeLine/\Q .non (upd H l (.lst (xs ++ zs)))
theorem aU3:zM X "list.extend" ak2:=by
 intro pins s σ H x vs v us Q I rx rv h
 obtain ⟨l,b,xs,zs,rfl,rfl,hH,hB,hz,q⟩:=h
 cases rx
 obtain ⟨u,rfl,ru⟩:=rv.one
 cases ru
 obtain ⟨z,its,n,r,hl,e⟩:=I.lstM hH
 obtain ⟨z2,its2,n2,r2,hl2,e2⟩:=I.lstM hB
 have hsz:its.toArray.size+its2.toArray.size<=sizeLine:=by rw [aU8,aU8]; omega
 have hlong : ¬ (!its.toArray.isEmpty && Builtin.List.listTooLong (its.toArray.size+its2.toArray.size))=true:=by
  rw [ak1 hsz,Bool.and_false]
  exact aW9
 refine call_meets F.slot_list_extend ⟨_,e,rfl⟩ F.entry_list_extend (F.args_list_extend_2 _ _)
  (AutoSeq1.list_extend_list_list_0 l its.toArray n b its2.toArray n2 hlong (by rw [aU8]; omega) (by omega)) ⟨e,e2,?_⟩
 refine⟨.non,_,I.lset (its':=its ++ its2) hH e (by simp) (r.append r2) ?_,rfl,q⟩
 rw [aU9]
 omega
def zO:R2:=fun x y H Q=>∃ l b xs zs,x = .ref l/\y = .ref b/\H l=some (.lst xs)/\H b=some (.lst zs)/\xs.length+zs.length<=sizeLine/\∀ p,H p=none->Q (.ref p) (upd H p (.lst (xs ++ zs)))
theorem ak3:cD X (binaryOp .Add) zO:=by
 intro pins s σ H x y v u Q I rx ry h
 obtain ⟨l,b,xs,zs,rfl,rfl,hH,hB,hz,q⟩:=h
 cases rx
 cases ry
 obtain ⟨z,its,n,r,hl,e⟩:=I.lstM hH
 obtain ⟨z2,its2,n2,r2,hl2,e2⟩:=I.lstM hB
 refine PySem.P.add_list e e2 ?_ (by rw [aU8,aU8]; omega)
 have ea:its.toArray ++ its2.toArray=(its ++ its2).toArray:=by simp
 rw [ea]
 exact⟨.ref _,_,I.lnew (t':=s.toks) (r.append r2) (by rw [aU9]; omega),rfl,q _ I.fresh⟩
end
section
variable {κ : Type} [DecidableEq κ]
def eN (kvs:List (κ × V)) (k:κ):Option V:=(kvs.find? fun kv=>decide (kv.1=k)).map (·.2)
def dL (kvs:List (κ × V)) (k:κ) (v:V):List (κ × V):=
 if (kvs.any fun kv=>decide (kv.1=k))=true then kvs.map (fun kv=>if kv.1=k then (kv.1,v) else kv) else kvs ++ [(k,v)]
theorem tN {p:κ × V}{r:List (κ × V)}{k:κ} (e:p.1=k):eN (p :: r) k=some p.2:=by simp [eN,bd5,e]
theorem tO {p:κ × V}{r:List (κ × V)}{k:κ} (e : ¬ p.1=k):eN (p :: r) k=eN r k:=by simp [eN,bd5,e]
theorem zP (k:κ):∀ kvs:List (κ × V),(kvs.any fun kv=>decide (kv.1=k))=(eN kvs k).isSome
 | []=>rfl
 | p :: r=>by
  rw [List.any_cons]
  by_cases e:p.1=k
  ·simp only [tN e,aW5 e,Bool.true_or,Option.isSome_some]
  ·rw [tO e,aW4 e,Bool.false_or]; exact zP k r
theorem tP (kvs:List (κ × V)) (k:κ) (v:V):(dL kvs k v).length<=kvs.length+1:=by
 unfold dL
 split
 ·rw [aV1]; omega
 ·rw [aU9,aY9,List.length_nil]; omega
theorem gU.isSome_eq {o:Option V}{u:Option Value} (r:gU o u):o.isSome=u.isSome:=by
 cases o with
 | none=>cases u with
  | none=>rfl
  | some _=>exact (show False from r).elim
 | some _=>cases u with
  | none=>exact (show False from r).elim
  | some _=>rfl
theorem KV.val {kvs:List (κ × V)}{vs:List (κ × Value)} (r:KV kvs vs) (k:κ):gU (eN kvs k) (valueAt vs k):=by
 unfold KV at r
 induction r with
 | nil=>exact bh4
 | @cons p q ps qs h t ih=>
  obtain ⟨h1,h2⟩:=h
  by_cases e:p.1=k
  ·have e':q.1=k:=h1.symm.trans e
   have b:valueAt (q :: qs) k=some q.2:=by simp [valueAt,bd5,e']
   rw [tN e,b]; exact h2
  ·have e' : ¬ q.1=k:=fun z=>e (h1.trans z)
   have b:valueAt (q :: qs) k=valueAt qs k:=by simp [valueAt,bd5,e']
   rw [tO e,b]; exact ih
theorem KV.any {kvs:List (κ × V)}{vs:List (κ × Value)} (r:KV kvs vs) (k:κ):(kvs.any fun kv=>decide (kv.1=k))=vs.any fun kv=>decide (kv.1=k):=by
 unfold KV at r
 induction r with
 | nil=>rfl
 | cons h t ih=>rw [List.any_cons,List.any_cons,ih,h.1]
theorem KV.repl {kvs:List (κ × V)}{vs:List (κ × Value)} (r:KV kvs vs) (k:κ) {y:V}{u:Value} (ry:aR y u) :
  KV (kvs.map fun kv=>if kv.1=k then (kv.1,y) else kv) (vs.map fun kv=>if kv.1=k then (kv.1,u) else kv):=by
 unfold KV at r ⊢
 induction r with
 | nil=>exact .nil
 | @cons p q ps qs h t ih=>
  rw [aY6,aY6]
  refine .cons ?_ ih
  obtain ⟨h1,h2⟩:=h
  by_cases e:p.1=k
  ·rw [if_pos e,if_pos (h1.symm.trans e)]; exact⟨h1,ry⟩
  ·rw [if_neg e,if_neg (fun z=>e (h1.trans z))]; exact⟨h1,h2⟩
theorem KV.put {kvs:List (κ × V)}{vs:List (κ × Value)} (r:KV kvs vs) (k:κ) {y:V}{u:Value} (ry:aR y u):KV (dL kvs k y) (stored vs k u):=by
 unfold dL stored
 rw [r.any k]
 by_cases e:(vs.any fun kv=>decide (kv.1=k))=true
 ·rw [if_pos e,if_pos e]; exact r.repl k ry
 ·rw [if_neg e,if_neg e]; exact Paired.snoc r ⟨rfl,ry⟩
theorem KV.length {kvs:List (κ × V)}{vs:List (κ × Value)} (r:KV kvs vs):kvs.length=vs.length:=Paired.length r
end
theorem nD {P:Program}{w:World}{k:aB}{u:Value} (r:aR (kV k) u):(e9 P w).is k u=true:=by
 cases k with
 | inl i=>obtain ⟨t,e⟩:=(show ∃ t,u=Value.int i t from r); subst e; exact aa7 P w i t
 | inr x=>obtain ⟨t,e⟩:=(show ∃ t,u=Value.str x t from r); subst e; exact aa8 P w x t
theorem zQ {P:Program}{w:World}:∀ {ks:List aB}{us:List Value},aN (ks.map kV) us->ItemsAre (e9 P w) ks us
 | [],_,r=>by rw [List.map_nil] at r; cases r; exact .nil
 | k :: ks,_,r=>by
  rw [aY6] at r
  cases r with
  | cons h t=>exact .cons (nD h) (zQ t)
abbrev KT (H:Hp):List (List aB × V)->List (List aB × Addr × Value)->Prop:=Paired fun p q=>p.1=q.1/\H q.2.1=some (.tup (p.1.map kV))/\aR p.2 q.2.2
theorem KT.val {H:Hp}{kvs:List (List aB × V)}{xs:List (List aB × Addr × Value)} (r:KT H kvs xs) (k:List aB):gU (eN kvs k) ((atKey xs k).map (·.2)):=by
 induction r with
 | nil=>exact bh4
 | @cons p q ps qs h t ih=>
  obtain ⟨h1,_,h2⟩:=h
  by_cases e:p.1=k
  ·have e':q.1=k:=h1.symm.trans e
   have b:atKey (q :: qs) k=some q.2:=by simp [atKey,bd5,e']
   rw [tN e,b]; exact h2
  ·have e' : ¬ q.1=k:=fun z=>e (h1.trans z)
   have b:atKey (q :: qs) k=atKey qs k:=by simp [atKey,bd5,e']
   rw [tO e,b]; exact ih
theorem KT.repl {H:Hp}{kvs:List (List aB × V)}{xs:List (List aB × Addr × Value)} (r:KT H kvs xs) (k:List aB) {y:V}{u:Value} (ry:aR y u) :
  KT H (kvs.map fun kv=>if kv.1=k then (kv.1,y) else kv) (xs.map (putAt k u)):=by
 induction r with
 | nil=>exact .nil
 | @cons p q ps qs h t ih=>
  rw [aY6,aY6]
  refine .cons ?_ ih
  obtain ⟨h1,h2,h3⟩:=h
  unfold putAt
  by_cases e:p.1=k
  ·rw [if_pos e,if_pos (h1.symm.trans e)]; exact⟨h1,h2,ry⟩
  ·rw [if_neg e,if_neg (fun z=>e (h1.trans z))]; exact⟨h1,h2,h3⟩
theorem KT.put {H:Hp}{kvs:List (List aB × V)}{xs:List (List aB × Addr × Value)} (r:KT H kvs xs) (k:List aB) {b:Addr}{y:V}{u:Value} (hb:H b=some (.tup (k.map kV))) (ry:aR y u) :
  KT H (dL kvs k y) (storedH xs k b u):=by
 have e:(kvs.any fun kv=>decide (kv.1=k))=(atKey xs k).isSome:=by
  rw [zP,(r.val k).isSome_eq,Option.isSome_map]
 unfold dL storedH
 rw [e]
 by_cases q:(atKey xs k).isSome=true
 ·rw [if_pos q,if_pos q]; exact r.repl k ry
 ·rw [if_neg q,if_neg q]; exact Paired.snoc r ⟨rfl,hb,ry⟩
theorem KT.keeps {H H':Hp}{kvs:List (List aB × V)}{xs:List (List aB × Addr × Value)} (r:KT H kvs xs) (ht:∀ b ys,H b=some (.tup ys)->H' b=some (.tup ys)):KT H' kvs xs:=
 Paired.mapP r fun _ _ z=>⟨z.1,ht _ _ z.2.1,z.2.2⟩
section
variable {P : Program} {w : World} {H : Hp} {h : Heap} {a : Addr}
theorem zR {u:HO} (ok:bR P w H h) (e:Rd H a u):bK P w H h a u:=e.ok ok
theorem kE {kvs:List (aB × V)} (ok:bR P w H h) (e:Rd H a (.dK kvs)):kvs.length<=sizeLine/\(a == sysModules)=false/\∃ vs,KV kvs vs/\h.DictOf (e9 P w) a vs:=
 show bK P w H h a (.dK kvs) from zR ok e
theorem tQ {kvs:List (aB × V)} (ok:bR P w H h) (e:H a=some (.dK kvs)):kvs.length<=sizeLine/\(a == sysModules)=false/\∃ vs,KV kvs vs/\h.DictOf (e9 P w) a vs:=kE ok (.inl e)
theorem lE {ks:List aB} (ok:bR P w H h) (e:H a=some (.tup (ks.map kV))):(tupleKind (e9 P w)).is h ks a:=by
 obtain ⟨_,its,r,o,h1,h2,n,h3⟩:=(show bK P w H h a (.tup (ks.map kV)) from ok a _ e)
 exact⟨o,its.toArray,n,h1,h2,h3,by simpa using zQ r⟩
theorem lF {kvs:List (List aB × V)} (ok:bR P w H h) (e:Rd H a (.dT kvs)):kvs.length<=sizeLine/\(a == sysModules)=false/\
  ∃ xs,KT H kvs xs/\h.DictOfH (tupleKind (e9 P w)) a xs:=by
 obtain ⟨z,y,xs,r,o,es,ep,h1,h2,h3,h4,h5⟩:=(show bK P w H h a (.dT kvs) from zR ok e)
 refine⟨z,y,xs,r,o,es,ep,h1,h2,h3,h4,fun x hx=>?_,h5⟩
 have all:∀ {l:List (List aB × V)}{m:List (List aB × Addr × Value)},KT H l m->∀ x ∈ m,(tupleKind (e9 P w)).is h x.1 x.2.1:=by
  intro l m q
  induction q with
  | nil=>intro x hx; exact nomatch hx
  | @cons p q ps qs hq t ih=>
   intro x hx
   rcases aV5.mp hx with e | hx
   ·subst e
    exact lE ok (by rw [<- hq.1]; exact hq.2.1)
   ·exact ih x hx
 exact all r x hx
theorem zS {kvs:List (List aB × V)} (ok:bR P w H h) (e:H a=some (.dT kvs)):kvs.length<=sizeLine/\(a == sysModules)=false/\
  ∃ xs,KT H kvs xs/\h.DictOfH (tupleKind (e9 P w)) a xs:=lF ok (.inl e)
end
def eZ (H:Hp) (a:Addr) (y:V) (r:Option V):Prop:=
 (∃ kvs k,Rd H a (.dK kvs)/\y=kV k/\r=eN kvs k) ∨ ∃ kvs k b,Rd H a (.dT kvs)/\y = .ref b/\H b=some (.tup (k.map kV))/\r=eN kvs k
def jI (H:Hp) (a:Addr) (y v:V) (H':Hp):Prop:=
 (∃ kvs k,H a=some (.dK kvs)/\y=kV k/\kvs.length < sizeLine/\H'=upd H a (.dK (dL kvs k v))) ∨
 ∃ kvs k b,H a=some (.dT kvs)/\y = .ref b/\H b=some (.tup (k.map kV))/\kvs.length < sizeLine/\H'=upd H a (.dT (dL kvs k v))
theorem eZ.k {H:Hp}{a:Addr}{kvs:List (aB × V)}{k:aB} (e:H a=some (.dK kvs)):eZ H a (kV k) (eN kvs k):=.inl ⟨kvs,k,.inl e,rfl,rfl⟩
theorem eZ.t {H:Hp}{a b:Addr}{kvs:List (List aB × V)}{k:List aB} (e:H a=some (.dT kvs)) (eb:H b=some (.tup (k.map kV))):eZ H a (.ref b) (eN kvs k):=.inr ⟨kvs,k,b,.inl e,rfl,eb,rfl⟩
theorem jI.k {H:Hp}{a:Addr}{kvs:List (aB × V)}{k:aB}{v:V} (e:H a=some (.dK kvs)) (hl:kvs.length < sizeLine):jI H a (kV k) v (upd H a (.dK (dL kvs k v))):=.inl ⟨kvs,k,e,rfl,hl,rfl⟩
theorem jI.t {H:Hp}{a b:Addr}{kvs:List (List aB × V)}{k:List aB}{v:V} (e:H a=some (.dT kvs)) (eb:H b=some (.tup (k.map kV))) (hl:kvs.length < sizeLine) :
  jI H a (.ref b) v (upd H a (.dT (dL kvs k v))):=.inr ⟨kvs,k,b,e,rfl,eb,hl,rfl⟩
section
variable {X : Cx} {pins : List (Addr × Obj)} {σ : St} {H : Hp} {s : Shared} {a : Addr} {y v : V} {u r : Value} {o : Option V} {A : Around} {E : Value → Shared → Prop}
theorem a7.big (I:a7 X pins σ H s):sysModules < s.heap.objs.size:=by
 have h:mainGlobals < s.heap.objs.size:=(I.mod.glob.keeps I.bk).lt
 exact Nat.lt_trans (by decide) h
theorem ak4 {Q:Value->Shared->Prop} (hu:A.units+1 < cLine) (I:a7 X pins σ H s) (g:eZ H a y (some v)) (ry:aR y u) (h:∀ w' s',a7 X pins σ H s'->aR v w'->Q w' s') :
  wpAny (model X.prog X.w) A (getItem (.ref a) u) Q E s:=by
 rcases g with ⟨kvs,k,e,ey,l⟩ | ⟨kvs,k,b,e,ey,eb,l⟩
 ·subst ey
  obtain ⟨z,hd,vs,rel,dd⟩:=kE I.hok e
  obtain ⟨w',hw,rw'⟩:=gU.some_of (v:=v) (o:=valueAt vs k) (by rw [l]; exact rel.val k)
  exact wpAny_getItem_of (nD ry) dd.mapOf hw (h w' _ (I.tok _) rw')
 ·subst ey
  cases (show u=Value.ref b from ry)
  obtain ⟨z,hd,xs,rel,dd⟩:=lF I.hok e
  obtain ⟨w',hw,rw'⟩:=gU.some_of (v:=v) (o:=(atKey xs k).map (·.2)) (by rw [l]; exact rel.val k)
  obtain ⟨p,hp,hp2⟩:=Option.map_eq_some_iff.mp hw
  refine wpAny_getItem_heap (tupleKind_room_in1 hu) (lE I.hok eb) dd hp ?_
  rw [hp2]
  exact h w' _ (I.tok _) rw'
theorem ak5 {Q:Value->Shared->Prop} (hu:A.units+1 < cLine) (I:a7 X pins σ H s) (g:eZ H a y o) (ry:aR y u) (h:∀ s',a7 X pins σ H s'->Q (.bool o.isSome) s') :
  wpAny (model X.prog X.w) A (compareOp .In u (.ref a)) Q E s:=by
 rcases g with ⟨kvs,k,e,ey,l⟩ | ⟨kvs,k,b,e,ey,eb,l⟩
 ·subst ey
  obtain ⟨z,hd,vs,rel,dd⟩:=kE I.hok e
  refine wpAny_in_of (nD ry) hd dd.mapOf ?_
  rw [<- (rel.val k).isSome_eq,<- l]
  exact h _ (I.tok _)
 ·subst ey
  cases (show u=Value.ref b from ry)
  obtain ⟨z,hd,xs,rel,dd⟩:=lF I.hok e
  refine wpAny_in_heap (tupleKind_room_in1 hu) (lE I.hok eb) hd dd ?_
  have q:=(rel.val k).isSome_eq
  rw [Option.isSome_map] at q
  rw [<- q,<- l]
  exact h _ (I.tok _)
theorem ak6 {Q:Value->Shared->Prop} (hu:A.units+1 < cLine) (I:a7 X pins σ H s) (g:eZ H a y o) (ry:aR y u) (h:∀ s',a7 X pins σ H s'->Q (.bool (!o.isSome)) s') :
  wpAny (model X.prog X.w) A (compareOp .NotIn u (.ref a)) Q E s:=by
 rcases g with ⟨kvs,k,e,ey,l⟩ | ⟨kvs,k,b,e,ey,eb,l⟩
 ·subst ey
  obtain ⟨z,hd,vs,rel,dd⟩:=kE I.hok e
  refine wpAny_notIn_of (nD ry) hd dd.mapOf ?_
  rw [<- (rel.val k).isSome_eq,<- l]
  exact h _ (I.tok _)
 ·subst ey
  cases (show u=Value.ref b from ry)
  obtain ⟨z,hd,xs,rel,dd⟩:=lF I.hok e
  refine wpAny_notIn_heap (tupleKind_room_in1 hu) (lE I.hok eb) hd dd ?_
  have q:=(rel.val k).isSome_eq
  rw [Option.isSome_map] at q
  rw [<- q,<- l]
  exact h _ (I.tok _)
theorem pC {h':Heap}{t':Nat}{ob:HO} (I:a7 X pins σ H s) (mu:mM (H a)) (hs:Heap.SameBut a s.heap h') (he:∃ q,h'.get? a=some q) (new:bK X.prog X.w (upd H a ob) h' a ob) :
  a7 X pins σ (upd H a ob) { s with heap:=h',toks:=t' }:=
 I.write (x:=a) (e:=a) mu (.inl rfl) (fun b q hb z=>(hs.2 b hb).trans z) he new
theorem zT {P:Program}{w:World}{H':Hp}{h':Heap}{kvs:List (aB × V)}{vs:List (aB × Value)} (z:kvs.length<=sizeLine) (hd:(a == sysModules)=false) (rel:KV kvs vs) (dd:h'.DictOf (e9 P w) a vs) :
  bK P w H' h' a (.dK kvs):=⟨z,hd,vs,rel,dd⟩
theorem ak7 {H':Hp}{Q:Unit->Shared->Prop} (hu:A.units+1 < cLine) (I:a7 X pins σ H s) (g:jI H a y v H') (ry:aR y u) (rv:aR v r) (h:∀ s',a7 X pins σ H' s'->Q () s') :
  wpAny (model X.prog X.w) A (setItem (.ref a) u r) Q E s:=by
 rcases g with ⟨kvs,k,e,ey,l,eH⟩ | ⟨kvs,k,b,e,ey,eb,l,eH⟩
 ·subst ey eH
  obtain ⟨z,hd,vs,rel,dd⟩:=tQ I.hok e
  have hz:vs.length<=sizeLine:=by rw [<- rel.length]; exact z
  have hl:(dL kvs k v).length<=sizeLine:=by have:=tP kvs k v; omega
  refine wpAny_setItem_pairs (hsz:=hz) (nD ry) dd fun h' dd' hs=>h _ ?_
  have he:∃ q,h'.get? a=some q:=let ⟨q,_,_,hq,_⟩:=dd'; ⟨q,hq⟩
  exact pC I (by rw [e]; exact bh4) hs he (zT hl hd (rel.put k rv) dd')
 ·subst ey eH
  cases (show u=Value.ref b from ry)
  obtain ⟨z,hd,xs,rel,dd⟩:=zS I.hok e
  have hz:xs.length<=sizeLine:=by rw [<- Paired.length rel]; exact z
  have hl:(dL kvs k v).length<=sizeLine:=by have:=tP kvs k v; omega
  refine wpAny_setItem_heap (hsz:=hz) (tupleKind_room_in1 hu) (lE I.hok eb) dd fun h' dd' hs=>h _ ?_
  obtain ⟨q,es,ep,hq,h2,h3,h4,_,h5⟩:=dd'
  refine pC I (by rw [e]; exact bh4) hs ⟨q,hq⟩ ⟨hl,hd,_,(rel.put k eb rv).keeps fun c ys ec=>?_,q,es,ep,hq,h2,h3,h4,h5⟩
  rw [aH (xE ec e (fun z=>nomatch z))]
  exact ec
end
section
variable {X : Cx} {pins : List (Addr × Obj)} {σ : St} {H : Hp} {s : Shared} {a : Addr} {kvs : List (aB × V)} {k : aB} {u : Value} {A : Around} {E : Value → Shared → Prop}
theorem ak8 {Q:Value->Shared->Prop} (I:a7 X pins σ H s) (e:Rd H a (.dK kvs)) (h:∀ t s',a7 X pins σ H s'->Q (.int kvs.length t) s'):wpAny (model X.prog X.w) A (call (.builtin "len") [.ref a]) Q E s:=by
 obtain ⟨z,hd,vs,rel,dd⟩:=kE I.hok e
 refine call_len_dict hd dd (by rw [<- rel.length]; rw [sizeLine_eq] at z; omega) ?_
 rw [<- rel.length]
 exact h _ _ (I.tok _)
end
def tR (i:Expr):Prop:=∀ ov iv,subscripted i false ov iv=operate [ov,iv] (getItem ov iv)
theorem ak9 {prog:Program}{w:World}{A:Around}{E:Value->Shared->Prop}{s:Shared}{env:Env}{value slice:Expr}{pos:Pos}{T id:String}{Q:Value->Shared->Prop}
  (hl:typeLookup (.type T) "__getitem__" = pure (some (.builtin id))) (hs:tR slice)
  (h:wpAny (model prog w) A (eval value env) (fun o s₁=>wpAny (model prog w) A (eval slice env) (fun i s₂=>s₂.TypeIs o T/\wpAny (model prog w) A (getItem o i) Q E s₂) E s₁) E s) :
  wpAny (model prog w) A (eval (.Subscript value slice pos) env) Q E s:=by
 refine Subscript_ (bc1 h (fun o s₁ h₁=>bc1 h₁ (fun i s₂ h₂=>?_) fun _ _ x=>x) fun _ _ x=>x)
 obtain ⟨hT,h₂⟩:=h₂
 unfold subscriptTail
 refine aU6 ?_
 rw [getitemInPython_of_ne hT.not_modules]
 refine aU6 (wpAny_specialOf hT hl ?_)
 have fin:wpAny (model prog w) A (subscripted slice false o i) (fun r s₃=>wpAny (model prog w) A (letTemporaryGo value o r >>= fun _=>pure r) Q E s₃) E s₂:=by
  rw [hs o i]
  exact wpAny_operating (bc1 h₂ (fun r s₃ h₃=>aU6 (wpAny_letTemporaryGo (aV4 h₃))) fun _ _ x=>x)
 first
  | exact aV4 (aU6 fin)
  | exact aU6 (aV4 (aU6 fin))
  | exact aU6 fin
theorem al0 {X:Cx}{pins:List (Addr × Obj)}{σ:St}{H:Hp}{s:Shared}{a:Addr}{y:V}{o:Option V} (I:a7 X pins σ H s) (g:eZ H a y o):s.TypeIs (.ref a) "dict":=by
 rcases g with ⟨kvs,k,e,_,_⟩ | ⟨kvs,k,b,e,_,_,_⟩
 ·obtain ⟨_,_,vs,_,dd⟩:=kE I.hok e
  exact dd.typeIs
 ·obtain ⟨_,_,xs,_,dd⟩:=lF I.hok e
  exact dd.typeIs
def zU (td ty:TE):TE:=fun σ H Q=>td σ H fun x H1=>ty σ H1 fun y H2=>∃ a v,x = .ref a/\eZ H2 a y (some v)/\Q v H2
def zV (ty td:TE):TE:=fun σ H Q=>ty σ H fun y H1=>td σ H1 fun x H2=>∃ a o,x = .ref a/\eZ H2 a y o/\Q (.bl o.isSome) H2
def zW (ty td:TE):TE:=fun σ H Q=>ty σ H fun y H1=>td σ H1 fun x H2=>∃ a o,x = .ref a/\eZ H2 a y o/\Q (.bl (!o.isSome)) H2
def tS (td ty tv:TE):TS:=fun D σ H=>tv σ H fun v H1=>td σ H1 fun x H2=>ty σ H2 fun y H3=>∃ a H4,x = .ref a/\jI H3 a y v H4/\D.nx σ H4
section
variable {X : Cx} {o i e value : Expr} {pos pos' tpos : Pos} {td ty tv : TE}
theorem al1 (hu:X.A.units+1 < cLine) (ho:PE X o td) (hi:PE X i ty) (hs:tR i):PE X (.Subscript o i pos) (zU td ty):=by
 intro pins s σ H Q I h
 refine ak9 PySem.F.slot_dict_getitem.lookup hs (aM (ho pins s σ H _ I h) fun u s1 ⟨x,H1,I1,rx,q1⟩=>aM (hi pins s1 σ H1 _ I1 q1) fun iv s2 ⟨y,H2,I2,ry,a,v,ex,g,q2⟩=>?_)
 subst ex
 obtain rfl:u=Value.ref a:=rx
 exact⟨al0 I2 g,ak4 hu I2 g ry fun w' s3 I3 rw'=>⟨v,H2,I3,rw',q2⟩⟩
theorem al2 (hu:X.A.units+1 < cLine) (hi:PE X i ty) (ho:PE X o td):PC X .In i o (zV ty td):=by
 intro pins s σ H Q I h
 refine aM (hi pins s σ H _ I h) fun iv s1 ⟨y,H1,I1,ry,q1⟩=>aM (ho pins s1 σ H1 _ I1 q1) fun u s2 ⟨x,H2,I2,rx,a,ov,ex,g,q2⟩=>?_
 subst ex
 obtain rfl:u=Value.ref a:=rx
 exact ak5 hu I2 g ry fun s3 I3=>⟨.bl ov.isSome,H2,I3,rfl,q2⟩
theorem al3 (hu:X.A.units+1 < cLine) (hi:PE X i ty) (ho:PE X o td):PC X .NotIn i o (zW ty td):=by
 intro pins s σ H Q I h
 refine aM (hi pins s σ H _ I h) fun iv s1 ⟨y,H1,I1,ry,q1⟩=>aM (ho pins s1 σ H1 _ I1 q1) fun u s2 ⟨x,H2,I2,rx,a,ov,ex,g,q2⟩=>?_
 subst ex
 obtain rfl:u=Value.ref a:=rx
 exact ak6 hu I2 g ry fun s3 I3=>⟨.bl (!ov.isSome),H2,I3,rfl,q2⟩
theorem zX (hu:X.A.units+1 < cLine) (ho:PE X o td) (hi:PE X i ty) (hv:PE X value tv) (hs:swapsWith value (some (.Subscript o i pos')) pos.line X.env=pure false) :
  PS X (.Assign [.Subscript o i pos'] value pos) (tS td ty tv):=by
 intro pins s σ H D I h
 refine wpAny_Assign_Subscript (aM (hv pins s σ H _ I h) fun r s1 ⟨v,H1,I1,rv,q1⟩=>aM (ho pins s1 σ H1 _ I1 q1) fun u s2 ⟨x,H2,I2,rx,q2⟩=>aM (hi pins s2 σ H2 _ I2 q2) fun iv s3 ⟨y,H3,I3,ry,a,H4,ex,g,q3⟩=>?_) hs
 subst ex
 obtain rfl:u=Value.ref a:=rx
 exact ak7 hu I3 g ry rv fun s4 I4=>⟨σ,H4,I4,q3⟩
end
theorem al4 {P:Program}{w:World}{H:Hp} (h:Heap) (hb:sysModules < h.objs.size):bK P w H (h.push { cls:=.type "dict",data:=.dict #[] }) h.objs.size (.dK []):=
 ⟨aZ2 _,beq_eq_false_iff_ne.mpr (Ne.symm (aY5 hb)),[],.nil,Heap.DictOf.new h⟩
theorem al5 {P:Program}{w:World}{H:Hp} (h:Heap) (hb:sysModules < h.objs.size):bK P w H (h.push { cls:=.type "dict",data:=.dict #[] }) h.objs.size (.dT []):=
 ⟨aZ2 _,beq_eq_false_iff_ne.mpr (Ne.symm (aY5 hb)),[],.nil,_,#[],0,aV8 _ rfl,⟨rfl,rfl,rfl⟩,rfl,rfl,List.nodup_nil⟩
def zY:TE:=fun _ H Q=>∀ p,H p=none->Q (.ref p) (upd H p (.dK []))
def zZ:TE:=fun _ H Q=>∀ p,H p=none->Q (.ref p) (upd H p (.dT []))
section
variable {X : Cx} {pos : Pos}
theorem al6:PE X (.Dict [] [] pos) zY:=fun pins s σ H Q I h=>
 wpAny_Dict_empty ⟨.ref s.heap.objs.size,_,I.laid (a:=s.heap.objs.size) (o:=.dK []) (t':=s.toks) (fun _ _ q=>aU7 _ q) (aV0 _) (al4 s.heap I.big),rfl,h _ (I.hok.fresh (aV0 _))⟩
theorem al7:PE X (.Dict [] [] pos) zZ:=fun pins s σ H Q I h=>
 wpAny_Dict_empty ⟨.ref s.heap.objs.size,_,I.laid (a:=s.heap.objs.size) (o:=.dT []) (t':=s.toks) (fun _ _ q=>aU7 _ q) (aV0 _) (al5 s.heap I.big),rfl,h _ (I.hok.fresh (aV0 _))⟩
end
def kF (kvs more:List (aB × V)):List (aB × V):=more.foldl (fun acc kv=>dL acc kv.1 kv.2) kvs
theorem KV.merge:∀ {more:List (aB × V)}{rs:List (aB × Value)}{kvs:List (aB × V)}{vs:List (aB × Value)},KV more rs->KV kvs vs->KV (kF kvs more) (merged vs rs):=by
 intro more rs kvs vs r
 unfold KV at r
 induction r generalizing kvs vs with
 | nil=>intro q; exact q
 | @cons p q ps qs h t ih=>
  intro r0
  have e:KV (dL kvs p.1 p.2) (stored vs q.1 q.2):=by
   have:=r0.put p.1 h.2
   rw [<- h.1]; exact this
  exact ih e
theorem A0:∀ (more kvs:List (aB × V)),(kF kvs more).length<=kvs.length+more.length
 | [],kvs=>by show kvs.length<=kvs.length+0; omega
 | p :: r,kvs=>by
  have h1:=A0 r (dL kvs p.1 p.2)
  have h2:=tP kvs p.1 p.2
  show (kF (dL kvs p.1 p.2) r).length<=_
  rw [aY9]; omega
structure M1 (X:Cx) (o:Expr) (m:Str) (apos:Pos) (e:Expr) (cpos:Pos):Prop where
 base:attributeBase o m X.env (eval o X.env)=eval o X.env
 few:((backTo cpos (starEach [e] X.env)).all (fun x=>!x.1) && (backToKw cpos (keywordEach [] X.env)).all (fun x=>x.1.isSome)
  && decide (([e]:List Expr).length+([]:List Keyword).length+(if ([]:List Keyword).isEmpty then 0 else 1) < 30))=true
 line:(apos.endLine == cpos.line)=true
 trees:backTo cpos (starEach [e] X.env) = [(false,eval e X.env)]
structure M2 (X:Cx) (o:Expr) (m:Str) (apos:Pos) (e f:Expr) (cpos:Pos):Prop where
 base:attributeBase o m X.env (eval o X.env)=eval o X.env
 few:((backTo cpos (starEach [e,f] X.env)).all (fun x=>!x.1) && (backToKw cpos (keywordEach [] X.env)).all (fun x=>x.1.isSome)
  && decide (([e,f]:List Expr).length+([]:List Keyword).length+(if ([]:List Keyword).isEmpty then 0 else 1) < 30))=true
 line:(apos.endLine == cpos.line)=true
 trees:backTo cpos (starEach [e,f] X.env) = [(false,eval e X.env),(false,eval f X.env)]
def tT (H:Hp) (a:Addr):Prop:=(∃ kvs,Rd H a (.dK kvs)) ∨ ∃ kvs,Rd H a (.dT kvs)
theorem A1 {X:Cx}{pins:List (Addr × Obj)}{σ:St}{H:Hp}{s:Shared}{a:Addr} (I:a7 X pins σ H s) (d:tT H a) :
  s.TypeIs (.ref a) "dict"/\(∀ b,Value.ref a = .ref b->∃ ob,s.heap.get? b=some ob/\ob.dict=none)/\(a == sysModules)=false:=by
 rcases d with ⟨kvs,e⟩ | ⟨kvs,e⟩
 ·obtain ⟨_,hd,vs,_,dd⟩:=kE I.hok e
  refine⟨dd.typeIs,fun b q=>?_,hd⟩
  cases q
  obtain ⟨ob,_,_,h1,h2,_⟩:=dd
  exact⟨ob,h1,h2.2.1⟩
 ·obtain ⟨_,hd,xs,_,dd⟩:=lF I.hok e
  refine⟨dd.typeIs,fun b q=>?_,hd⟩
  cases q
  obtain ⟨ob,_,_,h1,h2,_⟩:=dd
  exact⟨ob,h1,h2.2.1⟩
end L2
namespace Att
open PySem PySem.W PySem.Calls PyProof.Rows
theorem al8 {P:Params}{h:Heap}:∀ (ns:List Int) (vs:List Value),WellAll P h vs (ns.map WData.int)->IntsAre vs ns:=by
 intro ns
 induction ns with
 | nil=>
  intro vs w
  rw [List.map_nil] at w
  cases w
  exact .nil
 | cons n ns ih=>
  intro vs w
  rw [aY6] at w
  cases w with
  | cons a b=>
   cases a
   exact .cons _ _ (ih _ b)
theorem A2 {l:OpenLaw}{n:Nat} (hn:l.most=some n) {P:Params}{h:Heap}{args:List WData}{vals:List Value}
  (hpre:l.row.toRowW.claim.pre args=true) (hwl:WellAll P h vals args) :
  ∃ a vs ns,vals = [Value.ref a]/\args = [WData.list (ns.map WData.int)]/\h.get? a=some { cls:=.type "list",data:=.seq vs.toArray }/\IntsAre vs ns/\ns.length<=n:=by
 have hsh:WShape.hasAll [] args [.list .int]=true:=(pre_splitW hpre).1
 have hc:l.pre.holds [] { args:=args }=true:=(pre_splitW hpre).2
 obtain ⟨d,r,rfl,h1,h2⟩:=hasAllW_cons hsh
 obtain rfl:=hasAllW_nil h2
 obtain ⟨xs,rfl,h3⟩:=hasW_list h1
 obtain ⟨ns,rfl⟩:=items_int h3
 have hlen:ns.length<=n:=by
  unfold OpenLaw.pre at hc
  have h4:(WTm.not (.lt (.lit (.int (n:Int))) (.len (.arg 0)))).holds [] { args:=[.list (ns.map .int)] }=true:=by
   have h4:=(holds_andW hc).1
   rw [hn] at h4
   exact h4
  have h5:=condW_of h4 (w_not (w_lt w_lit (w_len_list (w_arg rfl))))
  rw [aV1] at h5
  refine Nat.le_of_not_lt fun q=>?_
  have q':(n:Int) < ((ns.length:Nat):Int):=by omega
  first
   | (rw [aW5 q'] at h5; exact absurd h5 (by decide))
   | (simp at h5; omega)
 cases hwl with
 | cons w1 w2=>
  cases w2
  cases w1 with
  | list ho hall=>exact⟨_,_,ns,rfl,rfl,ho,al8 ns _ hall,hlen⟩
theorem A3 (l:OpenLaw) (args:List WData):l.row.toRowW.claim.post args (.bool true) args=true:=
 postW_of (r:=l.row.toRowW) (X:=(true == true))
  (show WShape.has [] (.bool true) .bool=true by first | rfl | decide | simp [WShape.has,WShape.arms,WShape.armsAll])
  (show (WTm.eq .res (.lit (.bool true))).value [] { args:=args,res:=some (.bool true),after:=args }=some (.bool (true == true)) from w_eq_bool (w_res rfl) w_lit) rfl
theorem aU4 {l:OpenLaw}{n:Nat}{q:Program}{loose:List Str}{XP:(Str->Option Value)->Heap->Prop}{YP:World->Heap->Prop}{d:DefRec}{x:Str}
  (hn:l.most=some n) (hdf:d.params.defaults = [])
  (hbind:∀ pm cd doc v:Value,bindArgs (docDef d.name d.params d.body d.scope pm cd doc) ⟨[v],[]⟩=pure [(x,v)])
  (hx:d.scope.names.lookup x=some .local ∨ d.scope.names.lookup x=some .cell)
  (hk:d.scope.kind = .function) (hco:d.scope.isCoroutine=false) (hgen:d.scope.isGenerator=false)
  (body:∀ (w:World) (s₀ s₁ s:Shared) (mg mb:Str->Option Value) (fa:Addr) (o:Obj) (pm cd doc:Value) (a:Addr) (vs:List Value) (ns:List Int),
   Ground q loose [] XP w s₀ mg mb s₁.heap->YP w s₁.heap->
   s₁.heap.get? fa=some o->o.data = .func (docDef d.name d.params d.body d.scope pm cd doc)->s₁.heap.CodeRec cd d.name->mg d.name=some (.ref fa)->
   s₁.heap.get? a=some { cls:=.type "list",data:=.seq vs.toArray }->IntsAre vs ns->ns.length<=n->
   s.gens = #[]->s.os=s₁.os->
   Fr s₁.heap s₁.heap.objs.size s.heap (bindL (envOfC d.name d.scope s₁.heap.objs.size fa cd).kindOf [(x,.ref a)] fun _=>none)->
   Cl s₁.heap.objs.size (cellsFrom (s₁.heap.objs.size+1) d.scope.names []) s.heap (bindC (envOfC d.name d.scope s₁.heap.objs.size fa cd).kindOf [(x,.ref a)] fun _=>none)->
   wpAny (model l.prog w) (callerA.deeper (envOfC d.name d.scope s₁.heap.objs.size fa cd)) (execs d.body (envOfC d.name d.scope s₁.heap.objs.size fa cd))
    (fun f s'=>f = .ret (.bool true)/\OldK s₁.heap s'.heap/\s'.os=s₁.os/\AllBare s'.gens) (fun _ _=>False) s) :
  WalkO q loose XP YP l.row.toRowW d [] (fun f vs=>PySem.call f vs):=by
 intro w s₀ s₁ mg mb G Y fa o pm cd doc dV kV ho hd hcd hD hmg hg args vals as hpre hlay hrd hwl hlo
 obtain rfl:dV = .none:=Dflts.none hD hdf
 obtain rfl:kV = .none:=Dflts.noKw hD
 obtain ⟨a,vs,ns,rfl,rfl,hobj,hints,hlen⟩:=A2 hn hpre hwl
 refine enter_call ?_
 refine call_cells_ret (o:=o) (by rw [depth_caller]; decide) ho (fd_plain hd) G.T.nolimit hcd (hbind pm cd doc (.ref a)) (fun y hy=>?_) (fun h₁ tk F X=>?_) hco hgen hk
 ·obtain rfl:y=(x,Value.ref a):=aV6.mp hy
  rcases hx with e | e
  ·exact .inl e
  ·exact .inr ⟨e,cellsFrom_some _ _ _ (.inl e)⟩
 ·refine bc1 (body w s₀ s₁ { s₁ with heap:=h₁,toks:=tk } mg mb fa o pm cd doc a vs ns G Y ho (fd_plain hd) hcd hmg hobj hints hlen hg rfl F X) (fun f s' hq=>?_) (fun _ _ hq=>hq)
  obtain ⟨rfl,h2,h3,h4⟩:=hq
  exact⟨.inl ⟨.bool true,.bool true,[],rfl,fun _=>rfl,.bool true,A3 l _,fun _=>⟨List.Pairwise.nil,fun _ hm=>(nomatch hm)⟩⟩,h2,h3,h4⟩
theorem al9 {l:OpenLaw}{n:Nat}{q:Program}{loose:List Str}{XP:(Str->Option Value)->Heap->Prop}{YP:World->Heap->Prop}{d:DefRec}
  (hn:l.most=some n) (hdf:d.params.defaults = [])
  (call:∀ (w:World) (s₀ s₁:Shared) (mg mb:Str->Option Value) (fa:Addr) (o:Obj) (pm cd doc:Value) (a:Addr) (vs:List Value) (ns:List Int),
   Ground q loose [] XP w s₀ mg mb s₁.heap->YP w s₁.heap->
   s₁.heap.get? fa=some o->o.data = .func (docDef d.name d.params d.body d.scope pm cd doc)->s₁.heap.CodeRec cd d.name->mg d.name=some (.ref fa)->
   s₁.heap.get? a=some { cls:=.type "list",data:=.seq vs.toArray }->IntsAre vs ns->ns.length<=n->s₁.gens = #[]->
   codeAny (model l.prog w) callerA (.call (.ref fa) ⟨[.ref a],[]⟩) (fun r s'=>r = .ok (.ret (.bool true))/\OldK s₁.heap s'.heap/\s'.os=s₁.os/\AllBare s'.gens) s₁) :
  WalkO q loose XP YP l.row.toRowW d [] (fun f vs=>PySem.call f vs):=by
 intro w s₀ s₁ mg mb G Y fa o pm cd doc dV kV ho hd hcd hD hmg hg args vals as hpre hlay hrd hwl hlo
 obtain rfl:dV = .none:=Dflts.none hD hdf
 obtain rfl:kV = .none:=Dflts.noKw hD
 obtain ⟨a,vs,ns,rfl,rfl,hobj,hints,hlen⟩:=A2 hn hpre hwl
 refine enter_call (codeAny_mono (call w s₀ s₁ mg mb fa o pm cd doc a vs ns G Y ho (fd_plain hd) hcd hmg hobj hints hlen hg) fun r s' hq=>?_)
 obtain ⟨rfl,h2,h3,h4⟩:=hq
 exact⟨.inl ⟨.bool true,.bool true,[],rfl,fun _=>rfl,.bool true,A3 l _,fun _=>⟨List.Pairwise.nil,fun _ hm=>(nomatch hm)⟩⟩,h2,h3,h4⟩
end Att
namespace L2
open PySem PySem.Spec PyProof.Rows
theorem nE:∀ {vs:List Value}{ns:List Int},IntsAre vs ns->aN (ns.map V.int) vs
 | _,_,.nil=>.nil
 | _,_,.cons n t h=>.cons ⟨t,rfl⟩ (nE h)
def pD (H:Hp):Prop:=∀ b,H b=none ∨ ∃ o xs,H b=some (.frz o (.lst xs))
theorem am0 {P:Program}{w:World}{K:PySem.W.Frag}{mg mb:Str->Option Value}{CX:gE}{k:Nat}{fa a:Addr}{fd:FuncData}{x:Str}{sp:Sp}{s₁:Shared}{vs:List Value}{ns:List Int}
  (KX:K.In s₁.heap) (hns:s₁.heap.Ns mainGlobals mg) (hb:s₁.heap.Ns builtinsNs mb) (hbb:∀ x:Str,x ≠ "__name__"->mb x=bootBuiltins x) (hlim:s₁.heap.NoLimit) (hg:s₁.gens = #[])
  (ha:s₁.heap.get? a=some { cls:=.type "list",data:=.seq vs.toArray }) (hi:IntsAre vs ns) (hl:ns.length<=sizeLine) (hr:c6 k callerA)
  (F:∀ base:Heap,K.In base->base.Ns mainGlobals mg->cR P w K mg base CX k fa fd [x] sp) (hbind:∀ (s:Shared) (u:Value),BindsTo s fd ⟨[u],[]⟩ [(x,u)])
  (hsp:∀ H:Hp,pD H->aJ K H a (ns.map V.int)->sp [.ref a] H (fun v _=>v = .bl true) fun _ _ _=>False)
  (hCX:∀ H e s',CX [] H s₁ (fun _ _ _=>False) e s'->False) :
  codeAny (model P w) callerA (.call (.ref fa) ⟨[.ref a],[]⟩) (fun r s'=>r = .ok (.ret (.bool true))/\OldK s₁.heap s'.heap/\s'.os=s₁.os/\AllBare s'.gens) s₁:=by
 have rv:=nE hi
 have lenV:=hi.length
 have core:∀ H:Hp,pD H->aJ K H a (ns.map V.int)->bR P w H s₁.heap->(∀ b,H b ≠ none->b=a)->(H a ≠ none->K.lookup a=none)->
   codeAny (model P w) callerA (.call (.ref fa) ⟨[.ref a],[]⟩) (fun r s'=>r = .ok (.ret (.bool true))/\OldK s₁.heap s'.heap/\s'.os=s₁.os/\AllBare s'.gens) s₁:=by
  intro H hO hS hok hA hK
  have base_of:∀ {b:Addr}{o:Obj},s₁.heap.get? b=some o->H b=none->(iP s₁.heap H).get? b=some o:=fun e n=>ab0 e n
  have noA:∀ {b:Addr}{o:Obj}{es:Array DictEntry}{ep:Nat},s₁.heap.get? b=some o->o.data = .dict es ep->H b=none:=fun {b o es ep} e d=>by
   cases q:H b with
   | none=>rfl
   | some u=>
    have e':b=a:=hA b (by rw [q]; simp)
    subst e'
    rw [ha] at e; cases e
    have d':Data.seq vs.toArray _=Data.dict es ep:=d
    cases d'
  have nsK:∀ {b:Addr}{m:Str->Option Value},s₁.heap.Ns b m->(iP s₁.heap H).Ns b m:=fun {b m} ⟨o,es,ep,e,d,r⟩=>⟨o,es,ep,base_of e (noA e d),d,r⟩
  have hKb:K.In (iP s₁.heap H):=fun b o e=>base_of (KX b o e) (by
   cases q:H b with
   | none=>rfl
   | some u=>
    have e':b=a:=hA b (by rw [q]; simp)
    subst e'
    rw [hK (by rw [q]; simp)] at e; cases e)
  have hM:Mod K mg (iP s₁.heap H):=⟨hKb,nsK hns,⟨mb,nsK hb,hbb⟩,let ⟨mc,h1,h2⟩:=hlim; ⟨mc,nsK h1,h2⟩⟩
  have e0:p5 P w K mg (iP s₁.heap H) callerA [] s₁ H:=⟨rfl,hM,fun b o e=>ab1 e,Nat.le_of_eq (aa9 _ _),trivial,fun b hb=>absurd (show b ∈ ([]:List Addr) from hb) (by simp),hok,.of_eq hg⟩
  refine codeAny_mono ((F _ hKb (nsK hns)).run callerA [] s₁ H ⟨[.ref a],[]⟩ [.ref a] [.ref a] _ _ hr e0 (hbind s₁ (.ref a)) (.cons rfl .nil) (hsp H hO hS)) fun r s' h=>?_
  cases r with
  | error e=>exact (hCX H e s' h).elim
  | ok fl=>
   cases fl with
   | next=>exact False.elim h
   | brk=>exact False.elim h
   | cont=>exact False.elim h
   | ret u=>
    obtain ⟨v,H',os,bare,un,hok',r',q⟩:=h
    have q':v = .bl true:=q
    subst q'
    obtain rfl:u=Value.bool true:=r'
    refine⟨rfl,OldK.of_keep fun b o e=>?_,os,bare⟩
    cases q:H b with
    | none=>exact un.keep b o e q (by intro z; exact absurd (show b ∈ ([]:List Addr) from z) (by simp)) (by simp)
    | some u=>
     rcases hO b with z | ⟨ob,xs,z⟩
     ·rw [q] at z; cases z
     ·have z2:=un.frzs b ob _ z
      obtain ⟨e1,_⟩:=hok b _ z
      obtain ⟨e2,_⟩:=hok' b _ z2
      rw [e] at e1; cases e1
      exact e2
 cases hk:K.lookup a with
 | some o=>
  have e:=KX a o hk
  rw [ha] at e
  cases e
  refine core (fun _=>none) (fun _=>.inl rfl) (.inr ⟨_,vs.toArray,_,hk,rfl,rfl,rfl,by rw [aU8,lenV]; exact hl,by simpa using rv⟩) (fun b u z=>by have z':(none:Option HO)=some u:=z; cases z') (fun b z=>absurd rfl z) fun z=>absurd rfl z
 | none=>
  refine core (fun b=>if b=a then some (.frz { cls:=.type "list",data:=.seq vs.toArray } (.lst (ns.map V.int))) else none) (fun b=>?_) (.inl (.inr ⟨{ cls:=.type "list",data:=.seq vs.toArray },if_pos rfl⟩)) (fun b u z=>?_) (fun b z=>?_) fun _=>hk
  ·by_cases hb:b=a
   ·exact .inr ⟨_,_,if_pos hb⟩
   ·exact .inl (if_neg hb)
  ·by_cases hb:b=a
   ·have z':=(if_pos hb).symm.trans z
    cases z'
    subst hb
    exact⟨ha,by rw [aV1]; exact hl,vs,_,rv,ha⟩
   ·have z':=(if_neg hb).symm.trans z
    cases z'
  ·by_cases hb:b=a
   ·exact hb
   ·exact absurd (if_neg hb) z
theorem am1 {l:PySem.W.OpenLaw}{n k:Nat}{q:Program}{loose:List Str}{XP:(Str->Option Value)->Heap->Prop}{YP:World->Heap->Prop}{d:DefRec}{K:Params->PySem.W.Frag}{CX:World->gE}{sp:World->Sp}{x:Str}
  (hn:l.most=some n) (hn2:n<=sizeLine) (hdf:d.params.defaults = []) (hr:c6 k callerA)
  (hY:∀ (w:World) (h:Heap),YP w h->(K w.params).In h)
  (F:∀ (w:World) (mg:Str->Option Value) (fa:Addr) (h:Heap),(K w.params).In h->h.Ns mainGlobals mg->mg d.name=some (.ref fa)->
   ∃ fd:FuncData,(∀ (s:Shared) (u:Value),BindsTo s fd ⟨[u],[]⟩ [(x,u)])/\
    ∀ base:Heap,(K w.params).In base->base.Ns mainGlobals mg->cR l.prog w (K w.params) mg base (CX w) k fa fd [x] (sp w))
  (hsp:∀ (w:World) (H:Hp) (a:Addr) (ns:List Int),ns.length<=n->pD H->aJ (K w.params) H a (ns.map V.int)->sp w [.ref a] H (fun v _=>v = .bl true) fun _ _ _=>False)
  (hCX:∀ (w:World) (H:Hp) (s:Shared) (e:Value) (s':Shared),CX w [] H s (fun _ _ _=>False) e s'->False) :
  PySem.W.WalkO q loose XP YP l.row.toRowW d [] (fun f vs=>PySem.call f vs):=by
 refine Att.al9 hn hdf fun w s₀ s₁ mg mb fa o pm cd doc a vs ns G Y ho hd hcd hmg hobj hints hlen hg=>?_
 have KX:=hY w _ Y
 obtain ⟨fd,hb,hF⟩:=F w mg fa _ KX G.T.g hmg
 exact am0 KX G.T.g G.T.b G.T.builtins G.T.nolimit hg hobj hints (aY8 hlen hn2) hr hF hb (fun H hO hS=>hsp w H a ns hlen hO hS) fun H e s'=>hCX w H s₁ e s'
def iA (s:Stmt):Arguments:=match s with
 | .FunctionDef _ a _ _ _ _ _ _ _ _=>a
 | _=>{ posonlyargs:=[],args:=[],vararg:=none,kwonlyargs:=[],kw_defaults:=[],kwarg:=none,defaults:=[] }
def dN (s:Stmt):List Stmt:=match s with
 | .FunctionDef _ _ b _ _ _ _ _ _ _=>b
 | _=>[]
def aQ (s:Stmt):Scope:=match s with
 | .FunctionDef _ _ _ _ _ _ sc _ _ _=>sc
 | _=>{ kind:=.function,names:=[],isGenerator:=false,isCoroutine:=false }
abbrev dE:gE:=fun _ _ _ _ _ _=>False
abbrev E0:XK:=fun _ _ _=>False
theorem A4 {X:Cx}:mX dE X E0:=fun _ _ _ _ _ _ _ h=>h.elim
structure eF (K:PySem.W.Frag) (x qual:Str) (st:Stmt) (f:Addr) (fd:FuncData):Prop where
 ex:∃ (oc:Value) (od:Option Addr) (kV doc pm:Value) (an:Option Addr) (cdv ct:Value) (osl:Array (Option Value)),
  fd=PySem.W.fnOf x qual (iA st) (dN st) (aQ st) .none kV doc pm an cdv ct/\K.lookup f=some ⟨oc,od,.func fd,osl⟩/\PySem.W.codeIn K cdv qual=true
 kp:PySem.W.keepIn K (.ref f)=true
section
variable {P : Program} {w : World} {K : PySem.W.Frag} {mg : Str → Option Value} {base : Heap}
theorem eF.ok {x qual:Str}{st:Stmt}{f:Addr}{fd:FuncData}{N ps:List Str}{k:Nat}{sp:Sp} (F:eF K x qual st f fd) (S:FnScope N ps (aQ st)) (len:∀ vs H Q E,sp vs H Q E->vs.length=ps.length)
  (hbody:∀ (cdv:Value) (A:Around) (outer:List Env) (s:Shared) (H:Hp) (vs:List V) (Q:VK) (E:XK),c6 k (A.deeper (envOfC qual (aQ st) s.heap.objs.size f cdv))->sp vs H Q E->
   ∃ t,dD (cS dE P w K mg base N qual (aQ st) f cdv A outer s H E).nox (dN st) t/\t { nx:=fun _ H'=>Q .non H',rt:=Q } (gF N vs) H):cR P w K mg base dE (k+1) f fd ps sp:=by
 obtain ⟨oc,od,kV,doc,pm,an,cdv,ct,osl,rfl,lk,hcd⟩:=F.ex
 refine yU lk hcd S len fun A outer s H vs Q E hr hsp=>?_
 obtain ⟨t,h,q⟩:=hbody cdv A outer s H vs Q E hr hsp
 exact⟨t,h.nox,q⟩
theorem eF.binds {x qual:Str}{st:Stmt}{f:Addr}{fd:FuncData}{ps:List Str} (F:eF K x qual st f fd)
  (h:∀ (kV doc pm:Value) (an:Option Addr) (cdv ct:Value) (us:List Value),us.length=ps.length->bindArgs (PySem.W.fnOf x qual (iA st) (dN st) (aQ st) .none kV doc pm an cdv ct) ⟨us,[]⟩=pure (ps.zip us)):i8 K fd ps []:=by
 obtain ⟨oc,od,kV,doc,pm,an,cdv,ct,osl,rfl,lk,hcd⟩:=F.ex
 exact .all (h kV doc pm an cdv ct)
theorem am2 {x qual:Str}{st:Stmt}{f:Addr}{oc:Value}{od an:Option Addr}{osl:Array (Option Value)}{kV doc pm cdv ct:Value} (l:K.lookup f=some ⟨oc,od,.func (PySem.W.fnOf x qual (iA st) (dN st) (aQ st) .none kV doc pm an cdv ct),osl⟩)
  (c:PySem.W.codeIn K cdv qual=true) (k:PySem.W.keepIn K (.ref f)=true):eF K x qual st f (PySem.W.fnOf x qual (iA st) (dN st) (aQ st) .none kV doc pm an cdv ct):=⟨⟨oc,od,kV,doc,pm,an,cdv,ct,osl,rfl,l,c⟩,k⟩
end
theorem gG {A:Around}{k:Nat} (hr:c6 k A):A.units+1 < cLine:=Nat.lt_of_le_of_lt (Nat.add_le_add_left (by decide:1<=64) _) hr.units
theorem nF {n:Nat} (h:n<=1000):n < sizeLine:=Nat.lt_of_le_of_lt h (by decide)
section
variable {X : Cx}
theorem pv (i:Nat) {x:Str}{pos:Pos} (hN:X.N[i]? = some x:=by rfl) (hv:fM X.env.scope x:=by first | exact Or.inl rfl | exact Or.inr (Or.inl rfl) | exact Or.inr (Or.inr rfl)) (hd:(x == ("__debug__" : Str))=false:=by decide)
  (hcd:(x == ("__classdict__" : Str))=false:=by decide):PE X (.Name x pos) (fN i):=i4 hN hv hd hcd
theorem am3:cK X (.builtin "len") (fun xs H Q=>∃ a kvs,xs = [V.ref a]/\H a=some (.dK kvs)/\Q (.int kvs.length) H):=by
 intro pins s σ H xs us Q I r h
 obtain ⟨a,kvs,rfl,ha,q⟩:=h
 obtain ⟨u,rfl,ru⟩:=eW r
 cases ru
 exact ak8 I (.inl ha) fun t s' I'=>⟨.int kvs.length,H,I',⟨t,rfl⟩,q⟩
end
theorem aU {A B:Prop} (h:B):if false=true then A else B:=by
 rw [if_neg aW9]
 exact h
theorem aY {A B:Prop} (h:A):if true=true then A else B:=by
 rw [if_pos rfl]
 exact h
def aD (H H':Hp):Prop:=∀ b o,H b=some o->H' b=some o
theorem aD.refl (H:Hp):aD H H:=fun _ _ h=>h
theorem aD.trans {H H1 H2:Hp} (a:aD H H1) (b:aD H1 H2):aD H H2:=fun c o h=>b c o (a c o h)
theorem aD.free {H H':Hp} (e:aD H H') {l:Addr} (h:H' l=Option.none):H l=Option.none:=by
 cases q:H l with
 | none=>rfl
 | some o=>
  rw [e l o q] at h
  cases h
theorem aD.seq {K:PySem.W.Frag}{H H':Hp}{a:Addr}{xs:List V} (e:aD H H') (h:aJ K H a xs):aJ K H' a xs:=by
 rcases h with (h | ⟨o,h⟩) | h
 ·exact .inl (.inl (e _ _ h))
 ·exact .inl (.inr ⟨o,e _ _ h⟩)
 ·exact .inr h
def dS (cells:List (Str × Addr)):List (Str × NameKind)->List (Str × Addr)->List (Str × Addr)
 | [],cs=>cs
 | (n,k) :: r,cs=>dS cells r (if k == .free then (n,(cells.lookup n).getD 0) :: cs else cs)
theorem tU {env:Env}:∀ (ns:List (Str × NameKind)) (cs:List (Str × Addr)),(∀ x ∈ ns,x.2 = .free->∃ c,env.cells.lookup x.1=some c)->
  (forIn ns cs (fun (x:Str × NameKind) r=>(match x with
   | (name,kind)=>if (kind == .free)=true then (do let y <- cellOf env name; pure (ForInStep.yield ((name,y) :: r))) else pure (ForInStep.yield r)):_->_->Sem _))=(pure (dS env.cells ns cs):Sem (List (Str × Addr)))
 | [],cs,_=>by rw [List.forIn_nil]; rfl
 | (n,k) :: r,cs,h=>by
  rw [List.forIn_cons]
  have hr:∀ x ∈ r,x.2 = .free->∃ c,env.cells.lookup x.1=some c:=fun x hx=>h x (aW6 _ hx)
  cases hk:(k == NameKind.free) with
  | true=>
   have e:k = .free:=by simpa using hk
   obtain ⟨c,hc⟩:=h (n,k) aV9 e
   simp only [hk,if_true]
   have e1:cellOf env n=pure c:=by unfold cellOf; rw [hc]
   rw [e1]
   show ((pure c >>= fun y=>pure (ForInStep.yield ((n,y) :: cs))) >>= _:Sem _)=_
   rw [pure_bind,pure_bind]
   have:=tU (env:=env) r ((n,c) :: cs) hr
   refine this.trans ?_
   unfold dS
   simp only [hk,if_true,hc,Option.getD_some]
   cases r <;> rfl
  | false=>
   simp only [hk,aX0,bb2]
   rw [pure_bind]
   have:=tU (env:=env) r cs hr
   refine this.trans ?_
   conv=>rhs; unfold dS
   simp only [hk,aX0,bb2]
theorem pE {scope:Scope}{env:Env} (h:∀ x ∈ scope.names,x.2 = .free->∃ c,env.cells.lookup x.1=some c):closureFor scope env=pure (dS env.cells scope.names []):=by
 have e:=tU (env:=env) scope.names [] h
 unfold closureFor
 rw [show (pure (dS env.cells scope.names []):Sem (List (Str × Addr)))=(pure (dS env.cells scope.names []) >>= pure) by rw [pure_bind]]
 rw [<- e]
theorem pF {cells:List (Str × Addr)}:∀ (ns:List (Str × NameKind)) (cs:List (Str × Addr)) {x:Str}{c:Addr},(∀ y ∈ ns,y.2 = .free->∃ c,cells.lookup y.1=some c)->
  (∀ x c,cs.lookup x=some c->cells.lookup x=some c)->(dS cells ns cs).lookup x=some c->cells.lookup x=some c
 | [],cs,x,c,_,hc,h=>hc x c h
 | (n,k) :: r,cs,x,c,hn,hc,h=>by
  unfold dS at h
  have hr:∀ y ∈ r,y.2 = .free->∃ c,cells.lookup y.1=some c:=fun y hy=>hn y (aW6 _ hy)
  cases hk:(k == NameKind.free) with
  | false=>
   simp only [hk,aX0,bb2] at h
   exact pF r cs hr hc h
  | true=>
   simp only [hk,if_true] at h
   refine pF r _ hr (fun y d e=>?_) h
   obtain ⟨c0,h0⟩:=hn (n,k) aV9 (by simpa using hk)
   have h0:cells.lookup n=some c0:=h0
   rw [h0] at e
   rw [bb0] at e
   by_cases hyn:y=n
   ·subst hyn
    simp only [bc8,Option.getD_some] at e
    rw [h0]; exact e
   ·have:(y == n)=false:=beq_eq_false_iff_ne.mpr hyn
    simp only [this] at e
    exact hc y d e
theorem tV {cells:List (Str × Addr)}:∀ (ns:List (Str × NameKind)) (cs:List (Str × Addr)) {x:Str},((x,NameKind.free) ∈ ns ∨ ∃ c,cs.lookup x=some c)->∃ c,(dS cells ns cs).lookup x=some c
 | [],cs,x,h=>by
  rcases h with h | h
  ·simp at h
  ·exact h
 | (n,k) :: r,cs,x,h=>by
  unfold dS
  refine tV r _ ?_
  rcases h with h | ⟨c,h⟩
  ·rcases aV5.mp h with e | e
   ·cases e
    exact .inr ⟨_,by simp [bb0]; rfl⟩
   ·exact .inl e
  ·right
   cases hk:(k == NameKind.free) with
   | false=>exact⟨c,by simpa [hk] using h⟩
   | true=>
    simp only [if_true]
    rw [bb0]
    by_cases hxn:(x == n)=true
    ·simp only [hxn]; exact⟨_,rfl⟩
    ·simp only [bf7.mpr hxn]; exact⟨c,h⟩
theorem pG {env:Env}:∀ {names:List (Str × NameKind)}{x:Str}{k:NameKind},(names.map fun (n,k)=>if (k == NameKind.free && env.scope.kind == .function && env.kindOf n == some .cell) then (n,NameKind.cell) else (n,k)).lookup x=some k->
  names.lookup x=some k ∨ (names.lookup x=some .free/\k = .cell)
 | [],_,_,h=>by simp at h
 | (n,q) :: r,x,k,h=>by
  have ih:=@pG env r x k
  rw [aY6] at h
  by_cases hx:(x == n)=true
  ·have e:x=n:=by simpa using hx
   subst e
   by_cases hc:(q == NameKind.free && env.scope.kind == .function && env.kindOf x == some .cell)=true
   ·simp only [hc,if_true,bb0,bc8] at h
    have hq:q = .free:=by simp at hc; exact hc.1.1
    exact .inr ⟨by simp [bb0,hq],(aX6 h).symm⟩
   ·simp only [hc,aX0,bb2,bb0,bc8] at h
    exact .inl (by simp [bb0]; exact aX6 h)
  ·have hx':(x == n)=false:=bf7.mpr hx
   have h':(r.map fun (n,k)=>if (k == NameKind.free && env.scope.kind == .function && env.kindOf n == some .cell) then (n,NameKind.cell) else (n,k)).lookup x=some k:=by
    by_cases hc:(q == NameKind.free && env.scope.kind == .function && env.kindOf n == some .cell)=true
    ·simp only [hc,if_true,bb0,hx'] at h; exact h
    ·simp only [hc,aX0,bb2,bb0,hx'] at h; exact h
   simp only [bb0,hx']
   exact ih h'
def dO (fr:List (Option Nat)) (σ:St):St:=fr.map fun o=>o.bind fun j=>(σ[j]?).join
def Wk (σ₁ σ₂:St):Prop:=σ₁.length=σ₂.length/\∀ (i:Nat) v,σ₁[i]? = some (some v)->σ₂[i]? = some (some v)
theorem Wk.refl (σ:St):Wk σ σ:=⟨rfl,fun _ _ h=>h⟩
theorem Wk.set {σ τ:St}{i:Nat}{v:V} (h:Wk σ τ) (hi:σ[i]? = some none):Wk σ (τ.set i (some v)):=by
 refine⟨by rw [ba1]; exact h.1,fun j w e=>?_⟩
 by_cases hj:j=i
 ·subst hj; rw [hi] at e; cases e
 ·rw [aX4 (Ne.symm hj)]; exact h.2 j w e
theorem iV:∀ (ns:List (Str × NameKind)) (n:Nat) (cs:List (Str × Addr)),cellsFrom n ns cs=cellsFrom n ns [] ++ cs
 | [],_,_=>rfl
 | (x,k) :: r,n,cs=>by
  unfold cellsFrom
  split
  ·rw [iV r (n+1) ((x,n) :: cs),iV r (n+1) [(x,n)]]; simp
  ·exact iV r n cs
theorem tW:∀ (ns:List (Str × NameKind)) (n:Nat) {x:Str}{c:Addr},(x,c) ∈ cellsFrom n ns []->(x,NameKind.cell) ∈ ns
 | [],_,_,_,h=>by simp [cellsFrom] at h
 | (y,k) :: r,n,x,c,h=>by
  unfold cellsFrom at h
  split at h
  ·rename_i hk
   rw [iV] at h
   rcases aX3.mp h with z | z
   ·exact aW6 _ (tW r _ z)
   ·rw [aV6] at z
    cases z
    have:k = .cell:=by simpa using hk
    rw [this]; exact aV9
  ·exact aW6 _ (tW r _ h)
theorem pH:∀ (ns:List (Str × NameKind)) (n:Nat) {x:Str},(x,NameKind.cell) ∈ ns->∃ c,(x,c) ∈ cellsFrom n ns []
 | (y,k) :: r,n,x,h=>by
  unfold cellsFrom
  rcases aV5.mp h with z | z
  ·cases z
   rw [if_pos (by rfl),iV]
   exact⟨n,aX1 _ (by simp)⟩
  ·split
   ·obtain ⟨c,hc⟩:=pH r (n+1) z
    rw [iV]
    exact⟨c,aZ0 _ hc⟩
   ·exact pH r n z
theorem tX {α:Type}:∀ {l:List (Str × α)}{x:Str}{c:α},(x,c) ∈ l->∃ d,l.lookup x=some d
 | (y,v) :: r,x,c,h=>by
  rw [bb0]
  cases hb:x == y with
  | true=>exact⟨v,rfl⟩
  | false=>
   rcases aV5.mp h with z | z
   ·cases z; simp at hb
   ·exact tX z
theorem pI {α:Type}{x:Str}:∀ (l r:List (Str × α)),(l ++ r).lookup x=(match l.lookup x with | some v=>some v | none=>r.lookup x)
 | [],_=>rfl
 | (y,v) :: l,r=>by
  rw [List.cons_append,bb0,bb0]
  cases hb:x == y with
  | true=>rfl
  | false=>exact pI l r
def gH (X:Cx) (scope:Scope) (C:Addr):List (Str × Addr):=cellsFrom (C+1) scope.names (dS X.env.cells scope.names [])
theorem kG {X:Cx}{scope:Scope}{C:Addr}{x:Str}{c:Addr} (h:(gH X scope C).lookup x=some c) :
  (x,c) ∈ cellsFrom (C+1) scope.names [] ∨ ((∀ d,(x,d) ∉ cellsFrom (C+1) scope.names [])/\(dS X.env.cells scope.names []).lookup x=some c):=by
 unfold gH at h
 rw [iV,pI] at h
 cases e:(cellsFrom (C+1) scope.names []).lookup x with
 | some v=>rw [e] at h; cases h; exact .inl (aZ7 e)
 | none=>
  rw [e] at h
  refine .inr ⟨fun d hd=>?_,h⟩
  obtain ⟨d',z⟩:=tX hd
  rw [e] at z; cases z
theorem am4 {X:Cx}{scope:Scope}{C:Addr}{x:Str}{c:Addr} (hn:(x,NameKind.cell) ∉ scope.names) (h:(dS X.env.cells scope.names []).lookup x=some c):(gH X scope C).lookup x=some c:=by
 unfold gH
 rw [iV,pI]
 cases e:(cellsFrom (C+1) scope.names []).lookup x with
 | some v=>exact absurd (tW _ _ (aZ7 e)) hn
 | none=>exact h
theorem A5 {X:Cx}{scope:Scope}{C:Addr}{x:Str} (h:(x,NameKind.cell) ∈ scope.names ∨ ∃ c,(dS X.env.cells scope.names []).lookup x=some c):∃ c,(gH X scope C).lookup x=some c:=by
 unfold gH
 rw [iV,pI]
 cases e:(cellsFrom (C+1) scope.names []).lookup x with
 | some v=>exact⟨v,rfl⟩
 | none=>
  rcases h with h | h
  ·obtain ⟨c,hc⟩:=pH scope.names (C+1) h
   obtain ⟨d,hd⟩:=tX hc
   rw [e] at hd; cases hd
  ·exact h
def b6 (X:Cx) (scope:Scope) (N:List Str) (s:Shared) (H:Hp) (C:Addr) (fp:List Addr) (E:Value->Shared->Prop):Cx:=
 { X with N:=N,s₀:=s,H₀:=H,env:=compEnvC scope (gH X scope C) C X.env,outer:=X.stack,ex:=fp,fn:=fun x=>scope.names.lookup x == some .cell,pn:=[],xe:=E }
structure bS (X:Cx) (scope:Scope) (N:List Str) (fr:List (Option Nat)):Prop where
 kind:scope.kind = .function
 own:∀ y ∈ scope.names,y.2 = .cell->scope.names.lookup y.1=some .cell
 names:∀ y ∈ scope.names,y.2 = .local->scope.names.lookup y.1=some .local
 free:∀ y ∈ scope.names,y.2 = .free->X.env.scope.names.lookup y.1=some .cell ∨ X.env.scope.names.lookup y.1=some .free
 len:fr.length=N.length
 from_:∀ (i j:Nat),fr[i]? = some (some j)->∃ x,N[i]? = some x/\X.N[j]? = some x/\scope.names.lookup x=some .free
section
variable {X : Cx} {pins : List (Addr × Obj)} {σ : St} {H : Hp} {s : Shared} {scope : Scope} {N : List Str} {fr : List (Option Nat)}
theorem bS.cells (S:bS X scope N fr) (I:a7 X pins σ H s):∀ y ∈ scope.names,y.2 = .free->∃ c,X.env.cells.lookup y.1=some c:=fun y hy hk=>I.ok.has y.1 (S.free y hy hk)
theorem am5 {C D:Addr}{fp:List Addr}{E:Value->Shared->Prop}{h1:Heap}{tk:Nat}{m:Str->Option Value} (S:bS X scope N fr) (I:a7 X pins σ H s)
  (hf:∀ b ∈ fp,g9 X pins H b) (hfl:∀ b ∈ fp,b < s.heap.objs.size) (hD:s.heap.objs.size<=D) (hC:s.heap.objs.size<=C) (hDC:D < C)
  (old:∀ b o,s.heap.get? b=some o->h1.get? b=some o) (hns:h1.Ns C m) (hacc:h1.get? D=some { cls:=.type "list",data:=.seq #[] 0 }) (hco:CellsOk h1 (C+1) (cellsFrom (C+1) scope.names [])) :
  a7 (b6 X scope N s H C fp E) [] (dO fr σ) (upd H D (.lst [])) { s with heap:=h1,toks:=tk }:=by
 have hHD:H D=none:=I.hok.fresh hD
 have cl:=S.cells I
 have cs:∀ {x:Str}{c:Addr},(dS X.env.cells scope.names []).lookup x=some c->X.env.cells.lookup x=some c:=fun {x c} h=>pF scope.names [] cl (fun _ _ z=>by simp at z) h
 have clt:∀ {x:Str}{c:Addr},X.env.cells.lookup x=some c->c < s.heap.objs.size:=fun {x c} h=>by obtain ⟨v,z⟩:=I.cell x c h; exact z.lt
 have nge:∀ {x:Str}{c:Addr},(x,c) ∈ cellsFrom (C+1) scope.names []->C < c:=fun {x c} h=>(hco.empty x c h).2
 refine⟨⟨I.ok.mod,?_,I.ok.glob,I.ok.blt,hC,?_,?_,?_,I.ok.hd,I.ok.frames,.inl rfl,?_,I.bs,aY8 I.ok.bsz I.sz,?_,?_,I.stack,I.stkFree⟩,rfl,I.bare,Un.laid old hD hHD,⟨m,hns,?_⟩,?_,?_,?_,fun p hp=>absurd (show p ∈ ([]:List (Addr × Obj)) from hp) (by simp),?_,?_⟩
 ·exact S.kind
 ·intro x y c h1 h2
  rcases kG h1 with a | ⟨_,a⟩ <;> rcases kG h2 with b | ⟨_,b⟩
  ·exact name_of_addr hco.apart a b
  ·exact absurd (aW2 (Nat.lt_trans (nge a) (clt (cs b))) hC) (aZ9 _)
  ·exact absurd (aW2 (Nat.lt_trans (nge b) (clt (cs a))) hC) (aZ9 _)
  ·exact I.ok.inj x y c (cs a) (cs b)
 ·intro x hx
  have hx:(relabel scope X.env).names.lookup x=some .cell ∨ (relabel scope X.env).names.lookup x=some .free:=hx
  have fin:(x,NameKind.free) ∈ scope.names->∃ c,(gH X scope C).lookup x=some c:=fun z=>A5 (.inr (tV scope.names [] (.inl z)))
  rcases hx with hx | hx
  ·rcases pG hx with z | z
   ·exact A5 (.inl (aZ7 z))
   ·exact fin (aZ7 z.1)
  ·rcases pG hx with z | z
   ·exact fin (aZ7 z)
   ·exact absurd z.2 (by decide)
 ·intro x c hx h
  have hx:(scope.names.lookup x == some NameKind.cell)=true:=hx
  have hx:scope.names.lookup x=some .cell:=by simpa using hx
  rcases kG h with a | ⟨a,_⟩
  ·exact aY8 hC (ba4 (nge a))
  ·obtain ⟨d,hd⟩:=pH scope.names (C+1) (aZ7 hx)
   exact absurd hd (a d)
 ·intro b hb
  refine⟨aY5 (aW2 (hfl b hb) hC),fun x c e=>?_⟩
  rcases kG e with a | ⟨_,a⟩
  ·exact bc2 (Nat.lt_trans (aW2 (hfl b hb) hC) (nge a))
  ·exact (hf b hb).2.2.2.2.1 x c (cs a)
 ·intro b o e hb
  rcases (hf b hb).2.2.2.1 with z | z
  ·exact I.ok.noex b o e z
  ·exact absurd (aW2 (aW0 e) (aY8 I.ok.bsz z)) (aZ9 _)
 ·intro b hb z
  rcases aV5.mp (I.stkSub b z) with e | e
  ·exact (hf b hb).2.1 e
  ·exact (hf b hb).2.2.1 e
 ·intro i x v e1 e2 e3
  have e2:(fr.map fun o=>o.bind fun j=>(σ[j]?).join)[i]? = some (some v):=e2
  rw [aV7] at e2
  cases ef:fr[i]? with
  | none=>rw [ef] at e2; cases e2
  | some o=>
   rw [ef] at e2
   cases o with
   | none=>cases e2
   | some j=>
    have e2:some ((σ[j]?).join)=some (some v):=e2
    have ej:σ[j]? = some (some v):=by
     cases q:σ[j]? with
     | none=>rw [q] at e2; cases e2
     | some w=>rw [q] at e2; cases w with
      | none=>cases e2
      | some w=>cases e2; rfl
    obtain ⟨y,a1,a2,a4⟩:=S.from_ i j ef
    have e1:N[i]? = some x:=e1
    rw [e1] at a1
    cases a1
    have a3:(x,NameKind.free) ∈ scope.names:=aZ7 a4
    have vis:fM X.env.scope x:=(S.free _ a3 rfl).elim (fun z=>.inr (.inl z)) fun z=>.inr (.inr z)
    obtain ⟨m0,hn0,hl0⟩:=I.loc
    obtain ⟨u,r,l⟩:=hl0 j x v a2 ej vis
    refine⟨u,r,.inr ⟨?_,?_⟩⟩
    ·have e3:(relabel scope X.env).names.lookup x=some .local ∨ (relabel scope X.env).names.lookup x=some .cell ∨ (relabel scope X.env).names.lookup x=some .free:=e3
     rcases e3 with z | z | z
     ·rcases pG z with y | y
      ·rw [a4] at y; cases y
      ·exact absurd y.2 (by decide)
     ·exact .inl z
     ·exact .inr z
    ·obtain ⟨c,hc⟩:=tV (cells:=X.env.cells) scope.names [] (x:=x) (.inl a3)
     refine⟨c,am4 (fun z=>by have:=S.own _ z rfl; rw [a4] at this; cases this) hc,?_⟩
     have hc':=cs hc
     have S1:=S.free (x,.free) a3 rfl
     rcases l with ⟨k,_⟩ | ⟨_,c2,hc2,z⟩
     ·have k:X.env.scope.names.lookup x=some .local:=k
      rcases S1 with q | q <;> (have q:X.env.scope.names.lookup x=_:=q; rw [k] at q; cases q)
     ·rw [hc'] at hc2; cases hc2
      obtain ⟨oc,ho,hd⟩:=z
      exact⟨oc,old c oc ho,hd⟩
 ·intro x c e
  rcases kG e with a | ⟨_,a⟩
  ·exact⟨_,(hco.empty x c a).1⟩
  ·obtain ⟨v,oc,ho,hd⟩:=I.cell x c (cs a)
   exact⟨v,oc,old c oc ho,hd⟩
 ·show upd H D (.lst []) C=none
  rw [aH (bc2 hDC)]; exact I.hok.fresh hC
 ·intro x c e
  show upd H D (.lst []) c=none
  rcases kG e with a | ⟨_,a⟩
  ·rw [aH (bc2 (Nat.lt_trans hDC (nge a)))]; exact I.hok.fresh (aY8 hC (ba4 (nge a)))
  ·have q:=cs a
   rw [aH (aY5 (aW2 (clt q) hD))]
   exact I.freeC x c q
 ·exact I.hok.laid old hD ⟨aZ2 _,[],0,.nil,hacc⟩
 ·show (dO fr σ).length=N.length
  unfold dO; rw [aV1]; exact S.len
end
def iW (X:Cx) (ifs:List Expr) (t:TT):Prop:=
 ∀ (pins:List (Addr × Obj)) (s:Shared) (σ:St) (H:Hp) (Q:Bool->Hp->Prop),a7 X pins σ H s->t σ H Q->
  wpAny (model X.prog X.w) X.A (forIn ifs true fun c r=>if r=true then do let ok <- isTrue c X.env (eval c X.env); pure (ForInStep.yield ok) else pure (ForInStep.yield r)) (TP X pins σ Q) X.xe s
def tY:TT:=fun _ H Q=>Q true H
theorem pJ {X:Cx}:iW X [] tY:=fun _ _ _ H _ I h=>wpAny_tests_nil ⟨H,I,h⟩
theorem nG {X:Cx}{c:Expr}{t:TT} (h:PT X c t):iW X [c] t:=fun pins s σ H Q I hq=>wpAny_tests_one (h pins s σ H Q I hq)
section
variable {prog : Program} {w : World} {A : Around}
def tZ (prog:Program) (w:World) (A:Around) (elt tg:Expr) (ifs:List Expr) (it acc:Value) (env:Env) (lost:Value->Shared->Prop) (stop next:Shared->Prop) (s:Shared):Prop:=
 let M:=model prog w
 let tests:Sem Bool:=forIn ifs true fun c r=>if r=true then do let ok <- isTrue c env (eval c env); pure (ForInStep.yield ok) else pure (ForInStep.yield r)
 let put:Shared->Prop:=wpAny M A (eval elt env) (fun x=>wpAny M A (call (.builtin "list.append") [acc,x]) (fun _=>next) lost) lost
 let taken:Value->Shared->Prop:=fun v=>wpAny M A (letOwnedTupleGo tg it v) (fun _=>wpAny M A (assign tg env v) (fun _=>wpAny M A tests (fun ok s'=>if ok=true then put s' else next s') lost) lost) lost
 wpAny M A (pyNext it) (fun r s'=>match r with
  | none=>stop s'
  | some v=>taken v s') lost s
theorem am6 {R:Result->Shared->Prop}{s:Shared}{elt tg iter:Expr}{ifs:List Expr}{scope:Scope}{pos:Pos}{it acc:Value}{env:Env} (I:Nat->Shared->Prop)
  (turn:∀ n s,I n s->tZ prog w A elt tg ifs it acc env (notedBy (model prog w) A env fun e=>R (.error e)) (R (.ok .next)) (fun s'=>∃ m,m < n/\I m s') s) (n:Nat) (h:I n s) :
  codeAny (model prog w) A (.compLoop (.ListComp elt [⟨tg,iter,ifs,0⟩] scope pos) 0 it acc env) R s:=by
 apply codeAny_loop rfl I _ n h
 intro k s1 h1
 change wpAny _ A ((compTurn _ 0 it acc env).onRaise (fun x=>do noteFrame x env; theTreesLotGoes x)) _ _ s1
 apply wpAny_noted
 rw [compTurn_list]
 have t:=turn k s1 h1
 unfold tZ at t
 apply aU6
 apply wpAny_standAt
 apply aU6
 refine bc1 t (fun r s2 h2=>?_) fun _ _ z=>z
 cases r with
 | none=>exact aV4 h2
 | some v=>
  apply aU6
  refine bc1 h2 (fun _ s3 h3=>?_) fun _ _ z=>z
  apply aU6
  refine bc1 h3 (fun _ s4 h4=>?_) fun _ _ z=>z
  apply aU6
  refine bc1 h4 (fun ok s5 h5=>?_) fun _ _ z=>z
  cases ok with
  | false=>exact aV4 ⟨rfl,h5⟩
  | true=>
   apply aU6
   apply aU6
   refine bc1 h5 (fun x s6 h6=>?_) fun _ _ z=>z
   apply aU6
   exact bc1 h6 (fun _ s7 h7=>aV4 (aV4 ⟨rfl,h7⟩)) fun _ _ z=>z
end
def nH (g:TG) (tc:TT) (te:TE) (σ0:St) (J:It) (D:Addr) (Q:VK) (W:Nat->Nat->List V->Hp->Prop):Prop:=
 ∀ i m acc H',W i m acc H'->H' D=some (.lst acc)/\((J.stop i H'/\Q (.ref D) H') ∨ (J.go i H'/\∀ x H2,J.yld i H' x H2->g x σ0 H2 fun σ2 H3=>Wk σ0 σ2/\tc σ2 H3 fun b H4=>
  if b=true then te σ2 H4 fun v H5=>H5 D=some (.lst acc)/\acc.length < sizeLine/\∃ m',m' < m/\W (i+1) m' (acc ++ [v]) (upd H5 D (.lst (acc ++ [v]))) else ∃ m',m' < m/\W (i+1) m' acc H4))
def A6 (wi:TI) (fr:List (Option Nat)) (g:TG) (tc:TT) (te:TE):TE:=fun σ H Q=>wi σ H fun J H1=>∀ D,H1 D=none->
 ∃ W:Nat->Nat->List V->Hp->Prop,(∃ m,W 0 m [] (upd H1 D (.lst [])))/\nH g tc te (dO fr σ) J D Q W
section
variable {M : Model} {A : Around} {E : Value → Shared → Prop} {s : Shared}
theorem am7 {scope:Scope}{globals:Addr}{cl:List (Str × Addr)}{qual:Str}{func:Option Addr}{code:Value}{builtins:Addr}{outer:Env}{Q:Env->Shared->Prop}
  (hQ:∀ h',h'.Ns s.heap.objs.size (fun _=>none)->(∀ b o,s.heap.get? b=some o->h'.get? b=some o)->CellsOk h' (s.heap.objs.size+1) (cellsFrom (s.heap.objs.size+1) scope.names [])->
   Q (newEnv scope s.heap.objs.size globals (cellsFrom (s.heap.objs.size+1) scope.names cl) qual func code (some outer) builtins) { s with heap:=h' }) :
  wpAny M A (newFunctionEnv scope globals cl [] qual func code (some outer) builtins) Q E s:=by
 simp only [newFunctionEnv,Option.isSome_some,if_true]
 refine aU6 (wpAny_alloc ?_)
 refine aU6 (wpAny_layCells _ (fun name kind cells=>by cases hkc:kind == NameKind.cell <;> simp [hkc]) _ _ _ _ ?_)
 have ok:=cellsFrom_ok scope.names (s.heap.push { cls:=.type "dict",data:=.dict #[] }) (s.heap.objs.size+1) [] ⟨fun _ _ hm=>(nomatch hm),List.Pairwise.nil⟩ (by rw [be2]; exact aV0 _)
 rw [be2] at ok
 rw [show ({ s with heap:=s.heap.push { cls:=.type "dict",data:=.dict #[] } }:Shared).heap.objs.size=s.heap.objs.size+1 from be2 ..]
 rw [List.forIn_nil]
 refine aU6 (aV4 (aV4 (hQ _ ((Heap.Ns.new s.heap (.type "dict")).keeps (pushCells_keeps _ _)) (fun b o e=>pushCells_keeps _ _ b o (aU7 _ e)) ok)))
end
section
variable {X : Cx} {pins : List (Addr × Obj)} {σ : St} {H : Hp} {s : Shared} {scope : Scope} {N : List Str} {fr : List (Option Nat)} {tg iter elt : Expr} {ifs : List Expr} {pos : Pos} {wi : TI} {g : TG} {tc : TT} {te : TE}
structure kH (X:Cx) (scope:Scope) (N:List Str) (tg:Expr) (ifs:List Expr) (elt:Expr) (s:Shared) (H:Hp) (g:TG) (tc:TT) (te:TE):Prop where
 tg:∀ (C:Addr) (fp:List Addr),PG (b6 X scope N s H C fp fun _ _=>False) tg g
 ifs:∀ (C:Addr) (fp:List Addr),iW (b6 X scope N s H C fp fun _ _=>False) ifs tc
 elt:∀ (C:Addr) (fp:List Addr),PE (b6 X scope N s H C fp fun _ _=>False) elt te
structure pK (X:Cx) (scope:Scope) (N:List Str) (tg:Expr) (ifs:List Expr) (elt:Expr) (g:TG) (tc:TT) (te:TE):Prop where
 tg:∀ (s:Shared) (H:Hp) (C:Addr) (fp:List Addr),PG (b6 X scope N s H C fp fun _ _=>False) tg g
 ifs:∀ (s:Shared) (H:Hp) (C:Addr) (fp:List Addr),iW (b6 X scope N s H C fp fun _ _=>False) ifs tc
 elt:∀ (s:Shared) (H:Hp) (C:Addr) (fp:List Addr),PE (b6 X scope N s H C fp fun _ _=>False) elt te
theorem pK.at (B:pK X scope N tg ifs elt g tc te) (s:Shared) (H:Hp):kH X scope N tg ifs elt s H g tc te:=⟨B.tg s H,B.ifs s H,B.elt s H⟩
theorem am8 {C:Addr}{fp:List Addr}{E:Value->Shared->Prop}{pins':List (Addr × Obj)}{σ':St}{H':Hp}{s':Shared} (I:a7 X pins σ H s) (hf:∀ b ∈ fp,g9 X pins H b) (I':a7 (b6 X scope N s H C fp E) pins' σ' H' s'):a7 X pins σ H' s':=
 I.call' (ch:=fp) I'.os I'.base I'.hok I'.bare fun b hb=>⟨(hf b hb).2.2.2.1,(hf b hb).2.1,(hf b hb).2.2.2.2.1,(hf b hb).2.2.2.2.2⟩
theorem pM {Rr:Value->Addr->Result->Shared->Prop}{J:It}{fp:List Addr}{it:Addr}{tn:Nat->Heap->Prop}{Q:VK}
  (hc:X.calm=true) (S:bS X scope N fr) (B:kH X scope N tg ifs elt s H g tc te) (I:a7 X pins σ H s) (T:gD X.prog X.w X.K tg J fp it tn) (hst:tn 0 s.heap) (hf:∀ b ∈ fp,g9 X pins H b)
  (h:∀ D,H D=none->∃ W:Nat->Nat->List V->Hp->Prop,(∃ m,W 0 m [] (upd H D (.lst [])))/\nH g tc te (dO fr σ) J D Q W)
  (hend:∀ (D C:Addr) (s':Shared) (H':Hp) (m:Str->Option Value),s.heap.objs.size<=C->s.heap.objs.size<=D->a7 X pins σ H' s'->s'.heap.Ns C m->H' C=none->Q (.ref D) H'->Rr (.ref D) C (.ok .next) s') :
  wpAny (model X.prog X.w) X.A (newList []) (fun acc s₃=>wpAny (model X.prog X.w) X.A (newFunctionEnv scope X.env.globals (dS X.env.cells scope.names []) [] X.env.qual none .none (some X.env)) (fun cenv s₄=>
   codeAny (model X.prog X.w) X.A (.compStart (.ListComp elt [⟨tg,iter,ifs,0⟩] scope pos) 0 (.ref it) acc { cenv with scope:=relabel scope X.env }) (Rr acc cenv.locals) s₄) X.xe s₃) X.xe s:=by
 refine bb7 (am7 (fun h₁ hns₁ keep₁ hco₁=>?_))
 dsimp only at hns₁ keep₁ hco₁ ⊢
 generalize hH2:s.heap.push { cls:=.type "list",dict:=none,data:=.seq ([]:List Value).toArray }=H2 at hns₁ keep₁ hco₁ ⊢
 have hC:H2.objs.size=s.heap.objs.size+1:=by rw [<- hH2,be2]
 have hDC:s.heap.objs.size < H2.objs.size:=by rw [hC]; exact Nat.lt_succ_self _
 have hCle:s.heap.objs.size<=H2.objs.size:=by rw [hC]; exact Nat.le_succ _
 have old:∀ b o,s.heap.get? b=some o->h₁.get? b=some o:=fun b o e=>keep₁ b o (hH2 ▸ aU7 _ e)
 have hacc:h₁.get? s.heap.objs.size=some { cls:=.type "list",data:=.seq #[] 0 }:=keep₁ _ _ (hH2 ▸ aV8 _ rfl)
 have hfl:∀ b ∈ fp,b < s.heap.objs.size:=fun b hb=>by obtain ⟨o,e,_⟩:=T.obj _ _ hst b hb; exact aW0 e
 obtain ⟨W,⟨m0,w0⟩,turn⟩:=h s.heap.objs.size (I.hok.fresh (aV0 _))
 have st1:tn 0 h₁:=T.keep _ _ _ hst fun b _ o e=>old b o e
 have fr0:∀ b ∈ fp,upd H s.heap.objs.size (.lst []) b=none:=fun b hb=>by rw [aH (aY5 (hfl b hb))]; exact (hf b hb).1
 have stat:∀ {H':Hp},(∀ b ∈ fp,H' b=none)->∀ b ∈ fp,g9 (b6 X scope N s H H2.objs.size fp fun _ _=>False) [] H' b:=fun {H'} hn b hb=>by
  have f:=hf b hb
  refine⟨hn b hb,aY5 (aW2 (hfl b hb) hCle),fun z=>?_,.inl hb,fun x c e=>(kG e).elim (fun z=>bc2 (Nat.lt_trans (aW2 (hfl b hb) hCle) (hco₁.empty x c z).2)) fun z=>f.2.2.2.2.1 x c (pF scope.names [] (S.cells I) (fun _ _ z=>by simp at z) z.2),fun p hp=>absurd (show p ∈ ([]:List (Addr × Obj)) from hp) (by simp)⟩
  rcases aV5.mp (I.stkSub b z) with e | e
  ·exact f.2.1 e
  ·exact f.2.2.1 e
 generalize hX:b6 X scope N s H H2.objs.size fp (fun _ _=>False)=Y at stat
 have I0:a7 Y [] (dO fr σ) (upd H s.heap.objs.size (.lst [])) { s with heap:=h₁ }:=hX ▸ am5 S I hf hfl (aV0 _) hCle hDC old hns₁ hacc hco₁
 have bt:PG Y tg g:=hX ▸ B.tg H2.objs.size fp
 have bi:iW Y ifs tc:=hX ▸ B.ifs H2.objs.size fp
 have be:PE Y elt te:=hX ▸ B.elt H2.objs.size fp
 have eP:Y.prog=X.prog:=by rw [<- hX]; rfl
 have ew:Y.w=X.w:=by rw [<- hX]; rfl
 have eK:Y.K=X.K:=by rw [<- hX]; rfl
 have eA:Y.A=X.A:=by rw [<- hX]; rfl
 have eE:Y.env=compEnvC scope (gH X scope H2.objs.size) H2.objs.size X.env:=by rw [<- hX]; rfl
 have eX:Y.xe=fun _ _=>False:=by rw [<- hX]; rfl
 have ec:Y.calm=true:=by rw [<- hX]; exact hc
 have never:∀ {E:Value->Shared->Prop} (e:Value) (s':Shared),Y.xe e s'->E e s':=fun {E} e s' z=>by rw [eX] at z; exact z.elim
 have out:∀ {pins' σ' H' s'},a7 Y pins' σ' H' s'->a7 X pins σ H' s':=fun {_ _ _ _} I'=>am8 (C:=H2.objs.size) (E:=fun _ _=>False) (scope:=scope) (N:=N) I hf (hX ▸ I')
 have loop:codeAny (model X.prog X.w) X.A (.compLoop (.ListComp elt [⟨tg,iter,ifs,0⟩] scope pos) 0 (.ref it) (.ref s.heap.objs.size) (compEnvC scope (gH X scope H2.objs.size) H2.objs.size X.env))
   (Rr (.ref s.heap.objs.size) H2.objs.size) { s with heap:=h₁ }:=by
  refine am6 (fun n s'=>∃ i acc H',a7 Y [] (dO fr σ) H' s'/\tn i s'.heap/\(∀ b ∈ fp,H' b=none)/\W i n acc H') ?_ m0 ⟨0,[],_,I0,st1,fr0,w0⟩
  rintro n s3 ⟨i,acc,H3,I3,st3,fr3,w3⟩
  unfold tZ
  dsimp only
  obtain ⟨hD3,step⟩:=turn i n acc H3 w3
  rcases step with ⟨stop,qn⟩ | ⟨go,step⟩
  ·have z:=T.done Y eP ew eK ec i [] s3 _ H3 (notedBy (model X.prog X.w) X.A (compEnvC scope (gH X scope H2.objs.size) H2.objs.size X.env) fun e s'=>Rr (.ref s.heap.objs.size) H2.objs.size (.error e) s') I3 (stat fr3) st3 stop
   rw [eA] at z
   refine aM z fun r s4 ⟨hr,I4⟩=>?_
   subst hr
   obtain ⟨m4,hn4,_⟩:=I4.loc
   rw [eE] at hn4
   have f4:=I4.free
   rw [eE] at f4
   exact hend _ _ s4 H3 m4 hCle (aV0 _) (out I4) hn4 f4 qn
  ·have z:=T.item Y eP ew eK ec i [] s3 _ H3 (notedBy (model X.prog X.w) X.A (compEnvC scope (gH X scope H2.objs.size) H2.objs.size X.env) fun e s'=>Rr (.ref s.heap.objs.size) H2.objs.size (.error e) s') I3 (stat fr3) st3 go
   rw [eA] at z
   refine aM z fun r s4 ⟨u,hr,h4⟩=>?_
   subst hr
   refine aM h4 fun _ s5 ⟨x,H5,I5,r5,y5,st5,fr5⟩=>?_
   have I5':=I5.pinned (stat fr5) (T.obj _ _ st5)
   have q1:=bt _ s5 _ H5 x u _ I5' r5 (step x H5 y5)
   rw [eP,ew,eA,eE] at q1
   refine bc1 q1 (fun _ s6 ⟨σ6,H6,I6,wk,q6⟩=>?_) never
   have q2:=bi _ s6 σ6 H6 _ I6 q6
   rw [eP,ew,eA,eE] at q2
   refine bc1 q2 (fun b s7 ⟨H7,I7,q7⟩=>?_) never
   have again:∀ {H8:Hp}{s8:Shared}{acc':List V},a7 Y ([] ++ mU fp s5.heap) σ6 H8 s8->(∃ m',m' < n/\W (i+1) m' acc' H8)->∃ m,m < n/\∃ i acc H',a7 Y [] (dO fr σ) H' s8/\tn i s8.heap/\(∀ b ∈ fp,H' b=none)/\W i m acc H':=fun {H8 s8 acc'} I8 n8=>by
    obtain ⟨m',hm,w8⟩:=n8
    refine⟨m',hm,i+1,acc',H8,(I8.unpinned).weak wk.1 wk.2,T.keep _ _ _ st5 fun b hb o e=>(I8.pin (b,o) (aX1 _ (aX1 _ (oX hb e)))).1,fun b hb=>?_,w8⟩
    obtain ⟨o,e,d⟩:=T.obj _ _ st5 b hb
    exact (I8.pin (b,o) (aX1 _ (aX1 _ (oX hb e)))).2.1
   cases b with
   | false=>
    rw [if_neg aW9] at q7 ⊢
    exact again I7 q7
   | true=>
    rw [if_pos rfl] at q7 ⊢
    have q3:=be _ s7 σ6 H7 _ I7 q7
    rw [eP,ew,eA,eE] at q3
    refine bc1 q3 (fun v s8 ⟨y,H8,I8,r8,hD8,hz8,q8⟩=>?_) never
    have q4:=pB _ s8 σ6 H8 (.ref s.heap.objs.size) [y] (.ref s.heap.objs.size) [v] (fun _ H9=>∃ m',m' < n/\W (i+1) m' (acc ++ [y]) H9) I8 rfl (.cons r8 .nil) ⟨_,_,_,rfl,rfl,hD8,hz8,q8⟩
    rw [eP,ew,eA] at q4
    exact bc1 q4 (fun _ s9 ⟨_,H9,I9,_,q9⟩=>again I9 q9) never
 exact codeAny_compStart_list loop (T.self _ 0 _ _ _ st1 loop)
end
section
variable {X : Cx} {scope : Scope} {N : List Str} {fr : List (Option Nat)} {tg iter elt : Expr} {ifs : List Expr} {pos : Pos} {wi : TI} {g : TG} {tc : TT} {te : TE}
theorem a7.drop {pins:List (Addr × Obj)}{σ:St}{H H':Hp}{s s':Shared}{C:Addr}{h':Heap} (I0:a7 X pins σ H s) (hC:s.heap.objs.size<=C) {σ':St} (I:a7 X pins σ' H' s') (hn:H' C=none) (sb:Heap.SameBut C s'.heap h'):a7 X pins σ' H' { s' with heap:=h' }:=by
 refine I.turned (t':=s'.toks) (it:=C) (fun b o hb e=>(sb.2 b hb).trans e) hn (bc2 (aW2 I0.lt hC)) (.inr (aY8 I0.sz hC)) (fun x c e z=>?_) fun p hp z=>?_
 ·obtain ⟨v,q⟩:=I0.cell x c e
  exact absurd (aW2 q.lt (by rw [z]; exact hC)) (aZ9 _)
 ·exact absurd (aW2 (aW0 (I0.pin p hp).1) (by rw [z]; exact hC)) (aZ9 _)
theorem A7 (hc:X.calm=true) (S:bS X scope N fr) (hi:PI X tg iter wi) (B:pK X scope N tg ifs elt g tc te)
  (hs:∀ x,foldedSetIterable iter X.env x=pure x:=by intro _; rfl):PE X (.ListComp elt [⟨tg,iter,ifs,0⟩] scope pos) (A6 wi fr g tc te):=by
 intro pins s σ H Q I h
 rw [eval_ListComp]
 refine wpAny_comprehension_free (use:=none) rfl hs (pE (S.cells I)) S.kind S.names (aM (hi pins s σ H _ I h) fun v s1 h1=>aM h1 fun itv s2 h2=>?_)
 obtain ⟨it,fp,tn,J,H2,e,I2,T,st2,f2,hW⟩:=h2
 subst e
 refine pM (Rr:=fun acc C=>compPost (model X.prog X.w) X.A X.xe none (EP X pins σ Q) acc C) hc S (B.at _ _) I2 T st2 f2 hW ?_
 intro D C s' H' m hC hD I' hns hHC q
 exact⟨m,hns,fun h' sb=>⟨.ref D,H',I2.drop hC I' hHC sb,rfl,q⟩⟩
theorem am9 {i:Nat}{x:Str}{px spos:Pos} (hc:X.calm=true) (S:bS X scope N fr) (hi:PI X tg iter wi) (B:pK X scope N tg ifs elt g tc te) (hN:X.N.Nodup) (hix:X.N[i]? = some x) (hx:X.env.scope.names.lookup x=some .local)
  (hsw:swapsWith (.ListComp elt [⟨tg,iter,ifs,0⟩] scope pos) (some (.Name x px)) spos.line X.env=pure true) (hs:∀ x,foldedSetIterable iter X.env x=pure x:=by intro _; rfl) :
  PS X (.Assign [.Name x px] (.ListComp elt [⟨tg,iter,ifs,0⟩] scope pos) spos) (jE (A6 wi fr g tc te) (bP i)):=by
 intro pins s σ H D I h
 rw [exec_Assign_Name_used _ _ _ _ hsw]
 refine aU6 (wpAny_standAt (aU6 ?_))
 show wpAny _ _ (do let _ <- comprehension (.ListComp elt [⟨tg,iter,ifs,0⟩] scope pos) scope X.env _ (newList []) false (eval iter X.env) (some (assign (.Name x px) X.env))) _ _ s
 refine aU6 (bc1 (wpAny_comprehension_free (Q:=fun _ s'=>SP X pins D .next s') (use:=some (assign (.Name x px) X.env)) rfl hs (pE (S.cells I)) S.kind S.names (aM (hi pins s σ H _ I h) fun v s1 h1=>aM h1 fun itv s2 h2=>?_))
  (fun _ s' hq=>aV4 (aV4 hq)) fun _ _ e=>e)
 obtain ⟨it,fp,tn,J,H2,e,I2,T,st2,f2,hW⟩:=h2
 subst e
 refine pM (Rr:=fun acc C=>compPost (model X.prog X.w) X.A X.xe (some (assign (.Name x px) X.env)) (fun _ s'=>SP X pins D .next s') acc C) hc S (B.at _ _) I2 T st2 f2 hW ?_
 intro D' C s' H' m hC hD I' hns hHC q
 refine wpAny_assign_Name (sQ I' hN hix (.inl hx) (v:=.ref D') rfl (fun s'' I'' sb=>?_) (.inr hx))
 obtain ⟨a,sb,ha⟩:=sb
 have hCa:C ≠ a:=by
  rcases ha with z | z
  ·rw [z]; exact bc2 (aW2 I2.lt hC)
  ·intro e; subst e
   obtain ⟨v,q⟩:=I2.cell x _ z
   exact absurd (aW2 q.lt hC) (aZ9 _)
 exact⟨m,hns.sameBut sb hCa,fun h' sb'=>⟨_,H',I2.drop hC I'' hHC sb',q⟩⟩
variable {gh : Hp → TG} {tch : Hp → TT} {teh : Hp → TE}
def pN (wi:TI) (fr:List (Option Nat)) (gh:Hp->TG) (tch:Hp->TT) (teh:Hp->TE):TE:=fun σ H Q=>wi σ H fun J H1=>∀ D,H1 D=none->
 ∃ W:Nat->Nat->List V->Hp->Prop,(∃ m,W 0 m [] (upd H1 D (.lst [])))/\nH (gh H1) (tch H1) (teh H1) (dO fr σ) J D Q W
theorem nI (hc:X.calm=true) (S:bS X scope N fr) (hi:PI X tg iter wi) (B:∀ (s:Shared) (H:Hp),kH X scope N tg ifs elt s H (gh H) (tch H) (teh H))
  (hs:∀ x,foldedSetIterable iter X.env x=pure x:=by intro _; rfl):PE X (.ListComp elt [⟨tg,iter,ifs,0⟩] scope pos) (pN wi fr gh tch teh):=by
 intro pins s σ H Q I h
 rw [eval_ListComp]
 refine wpAny_comprehension_free (use:=none) rfl hs (pE (S.cells I)) S.kind S.names (aM (hi pins s σ H _ I h) fun v s1 h1=>aM h1 fun itv s2 h2=>?_)
 obtain ⟨it,fp,tn,J,H2,e,I2,T,st2,f2,hW⟩:=h2
 subst e
 refine pM (Rr:=fun acc C=>compPost (model X.prog X.w) X.A X.xe none (EP X pins σ Q) acc C) hc S (B _ _) I2 T st2 f2 hW ?_
 intro D C s' H' m hC hD I' hns hHC q
 exact⟨m,hns,fun h' sb=>⟨.ref D,H',I2.drop hC I' hHC sb,rfl,q⟩⟩
theorem nJ {i:Nat}{x:Str}{px spos:Pos} (hc:X.calm=true) (S:bS X scope N fr) (hi:PI X tg iter wi) (B:∀ (s:Shared) (H:Hp),kH X scope N tg ifs elt s H (gh H) (tch H) (teh H)) (hN:X.N.Nodup) (hix:X.N[i]? = some x) (hx:X.env.scope.names.lookup x=some .local)
  (hsw:swapsWith (.ListComp elt [⟨tg,iter,ifs,0⟩] scope pos) (some (.Name x px)) spos.line X.env=pure true) (hs:∀ x,foldedSetIterable iter X.env x=pure x:=by intro _; rfl) :
  PS X (.Assign [.Name x px] (.ListComp elt [⟨tg,iter,ifs,0⟩] scope pos) spos) (jE (pN wi fr gh tch teh) (bP i)):=by
 intro pins s σ H D I h
 rw [exec_Assign_Name_used _ _ _ _ hsw]
 refine aU6 (wpAny_standAt (aU6 ?_))
 show wpAny _ _ (do let _ <- comprehension (.ListComp elt [⟨tg,iter,ifs,0⟩] scope pos) scope X.env _ (newList []) false (eval iter X.env) (some (assign (.Name x px) X.env))) _ _ s
 refine aU6 (bc1 (wpAny_comprehension_free (Q:=fun _ s'=>SP X pins D .next s') (use:=some (assign (.Name x px) X.env)) rfl hs (pE (S.cells I)) S.kind S.names (aM (hi pins s σ H _ I h) fun v s1 h1=>aM h1 fun itv s2 h2=>?_))
  (fun _ s' hq=>aV4 (aV4 hq)) fun _ _ e=>e)
 obtain ⟨it,fp,tn,J,H2,e,I2,T,st2,f2,hW⟩:=h2
 subst e
 refine pM (Rr:=fun acc C=>compPost (model X.prog X.w) X.A X.xe (some (assign (.Name x px) X.env)) (fun _ s'=>SP X pins D .next s') acc C) hc S (B _ _) I2 T st2 f2 hW ?_
 intro D' C s' H' m hC hD I' hns hHC q
 refine wpAny_assign_Name (sQ I' hN hix (.inl hx) (v:=.ref D') rfl (fun s'' I'' sb=>?_) (.inr hx))
 obtain ⟨a,sb,ha⟩:=sb
 have hCa:C ≠ a:=by
  rcases ha with z | z
  ·rw [z]; exact bc2 (aW2 I2.lt hC)
  ·intro e; subst e
   obtain ⟨v,q⟩:=I2.cell x _ z
   exact absurd (aW2 q.lt hC) (aZ9 _)
 exact⟨m,hns.sameBut sb hCa,fun h' sb'=>⟨_,H',I2.drop hC I'' hHC sb',q⟩⟩
end
theorem bD {H:Hp}{p:Addr} (h:H p=none) (o:HO):aD H (upd H p o):=fun b u q=>by rw [aH (cA q h)]; exact q
theorem aD.tup {K:PySem.W.Frag}{H H':Hp}{a:Addr}{xs:List V} (e:aD H H') (h:aG K H a xs):aG K H' a xs:=by
 rcases h with (h | ⟨o,h⟩) | h
 ·exact .inl (.inl (e _ _ h))
 ·exact .inl (.inr ⟨o,e _ _ h⟩)
 ·exact .inr h
structure A8 (H:Hp) (J:It) (xs:List V):Prop where
 go:∀ i H',aD H H'->i < xs.length->J.go i H'
 yld:∀ i H' x H2,aD H H'->J.yld i H' x H2->i < xs.length->xs[i]? = some x/\H2=H'
 stop:∀ H',aD H H'->J.stop xs.length H'
theorem an0 {K:PySem.W.Frag}{H:Hp}{a:Addr}{xs:List V} (h:aG K H a xs):A8 H (jF K a) xs:=
 ⟨fun i H' e hi=>⟨xs,xs[i],e.tup h,by simp [hi]⟩,fun i H' x H2 e y hi=>⟨y.2 xs (e.tup h),y.1⟩,fun H' e=>⟨xs,e.tup h,aV0 _⟩⟩
def iX (lo:Int) (n:Nat):List V:=(List.range n).map fun (i:Nat)=>V.int (lo+(i:Int))
theorem u4 (lo:Int) (n:Nat):(iX lo n).length=n:=by unfold iX; rw [aV1,be3]
def CW (H1:Hp) (D:Addr) (n:Nat) (Pv:Nat->List V->Hp->Prop):Nat->Nat->List V->Hp->Prop:=fun i m acc H'=>m=n - i/\i<=n/\acc.length<=i/\aD H1 H'/\H' D=some (.lst acc)/\Pv i acc H'
def u5 (H1:Hp) (D:Addr) (n:Nat) (Pv:Nat->List V->Hp->Prop) (i:Nat) (acc:List V) (v:V) (H5:Hp):Prop:=H5 D=some (.lst acc)/\acc.length < sizeLine/\∃ m',m' < n - i/\CW H1 D n Pv (i+1) m' (acc ++ [v]) (upd H5 D (.lst (acc ++ [v])))
def A9 (H1:Hp) (D:Addr) (n:Nat) (Pv:Nat->List V->Hp->Prop) (i:Nat) (acc:List V) (H4:Hp):Prop:=∃ m',m' < n - i/\CW H1 D n Pv (i+1) m' acc H4
structure pO (H1:Hp) (D:Addr) (n i:Nat) (acc:List V) (H':Hp):Prop where
 lt:i < n
 few:acc.length<=i
 sz:n<=sizeLine
 same:aD H1 H'
 new:H1 D=none
 acc:H' D=some (.lst acc)
theorem pO.yes {H1:Hp}{D:Addr}{n i:Nat}{acc:List V}{H' H5:Hp}{Pv:Nat->List V->Hp->Prop}{v:V} (c:pO H1 D n i acc H') (s:aD H' H5) (p:Pv (i+1) (acc ++ [v]) (upd H5 D (.lst (acc ++ [v])))):u5 H1 D n Pv i acc v H5:=by
 refine⟨s _ _ c.acc,Nat.lt_of_le_of_lt c.few (aW2 c.lt c.sz),_,?_,rfl,c.lt,?_,fun b o e=>?_,b8,p⟩
 ·have:=c.lt; omega
 ·rw [aU9,aZ1]; exact Nat.succ_le_succ c.few
 ·rw [aH (cA e c.new)]; exact s _ _ (c.same _ _ e)
theorem an1 {H1:Hp}{J:It}{xs:List V}{g:TG}{tc:TT}{te:TE}{σ0:St}{Q:VK} (O:A8 H1 J xs) (Pv:Nat->List V->Hp->Prop) (hn:xs.length<=sizeLine)
  (h0:∀ D,H1 D=none->Pv 0 [] (upd H1 D (.lst [])))
  (hs:∀ i x acc D H',xs[i]? = some x->pO H1 D xs.length i acc H'->Pv i acc H'->g x σ0 H' fun σ2 H3=>Wk σ0 σ2/\tc σ2 H3 fun b H4=>
   if b=true then te σ2 H4 fun v H5=>u5 H1 D xs.length Pv i acc v H5 else A9 H1 D xs.length Pv i acc H4)
  (hd:∀ D acc H',H1 D=none->aD H1 H'->H' D=some (.lst acc)->acc.length<=xs.length->Pv xs.length acc H'->Q (.ref D) H') :
  ∀ D,H1 D=none->∃ W:Nat->Nat->List V->Hp->Prop,(∃ m,W 0 m [] (upd H1 D (.lst [])))/\nH g tc te σ0 J D Q W:=by
 intro D hD
 refine⟨CW H1 D xs.length Pv,⟨xs.length,rfl,aZ2 _,aV0 _,bD hD _,b8,h0 D hD⟩,?_⟩
 rintro i m acc H' ⟨rfl,hi,ha,sm,hDa,p⟩
 refine⟨hDa,?_⟩
 by_cases hlt:i < xs.length
 ·refine .inr ⟨O.go i H' sm hlt,fun x H2 y=>?_⟩
  obtain ⟨hx,e⟩:=O.yld i H' x H2 sm y hlt
  subst e
  exact hs i x acc D H2 hx ⟨hlt,ha,hn,sm,hD,hDa⟩ p
 ·have e:i=xs.length:=by omega
  subst e
  exact .inl ⟨O.stop H' sm,hd D acc H' hD sm hDa ha p⟩
end L2
namespace Srt
open PySem PySem.W PyProof.Rows
abbrev G (p:Array Nat) (i:Nat):Nat:=p.getD i 0
theorem nK {p q:Array Nat}{i j:Nat} (h:p[i]? = q[j]?):G p i=G q j:=by
 unfold G; rw [bf9,bf9,h]
theorem u6 {p:Array Nat}{i j:Nat} (hj:j<=p.size) (k:Nat):G (kas_rev p i j) k=if i<=k/\k < j then G p (i+j - 1 - k) else G p k:=by
 have e:=getElem?_mirror_all (i:=i) hj k
 unfold kas_rev
 by_cases h1:i<=k/\k < j
 ·rw [if_pos h1] at e ⊢; exact nK e
 ·rw [if_neg h1] at e ⊢; exact nK e
theorem an2 {p:Array Nat}{src d:Nat} (hs:src < p.size) (hd:d<=src) (k:Nat):G (bubble p src d) k=if k=src - d then G p src else if src - d < k/\k<=src then G p (k - 1) else G p k:=by
 have e:=getElem?_bubble hs d hd k
 by_cases h1:k=src - d
 ·rw [if_pos h1] at e ⊢; exact nK e
 ·rw [if_neg h1] at e ⊢
  by_cases h2:src - d < k/\k<=src
  ·rw [if_pos h2] at e ⊢; exact nK e
  ·rw [if_neg h2] at e ⊢; exact nK e
def PP (n:Nat) (p:Array Nat):Prop:=p.toList.Perm (List.range n)
theorem PP.size {n:Nat}{p:Array Nat} (h:PP n p):p.size=n:=by
 have:=h.length_eq
 rw [be3] at this
 simpa using this
theorem PP.lt {n:Nat}{p:Array Nat} (h:PP n p) {k:Nat} (hk:k < n):G p k < n:=by
 have hs:=h.size
 have hk':k < p.toList.length:=by simpa [hs] using hk
 have e:G p k=p.toList[k]:=by
  unfold G; rw [bf9]; simp [hs,hk]
 have m:p.toList[k] ∈ p.toList:=List.getElem_mem hk'
 rw [e]
 exact bg2.mp (h.mem_iff.mp m)
theorem PP.of {n:Nat}{p q:Array Nat} (h:PP n p) (e:q.Perm p):PP n q:=(Array.perm_iff_toList_perm.mp e).trans h
theorem PP.rev {n:Nat}{p:Array Nat} (h:PP n p) (i j:Nat):PP n (kas_rev p i j):=h.of (mirror_perm _ _ _ _)
theorem PP.bub {n:Nat}{p:Array Nat} (h:PP n p) (i j:Nat):PP n (bubble p i j):=h.of (bubble_perm _ _ _)
structure eO (c:Nat->Nat->Bool):Prop where
 asym:∀ {i j},c i j=true->c j i=false
 ntr:∀ {i j k},c i j=false->c j k=false->c i k=false
section
variable {c : Nat → Nat → Bool} (O : eO c)
def Le (c:Nat->Nat->Bool) (i j:Nat):Prop:=c j i=false
include O
theorem le_refl (i:Nat):Le c i i:=by
 unfold Le
 cases h:c i i with
 | false=>rfl
 | true=>have:=O.asym h; rw [h] at this; exact this
theorem le_trans {i j k:Nat} (h1:Le c i j) (h2:Le c j k):Le c i k:=O.ntr h2 h1
theorem pP {i j:Nat} (h:c i j=true):Le c i j:=O.asym h
omit O
def fA (c:Nat->Nat->Bool) (p:Array Nat) (n:Nat):Prop:=∀ a b,a<=b->b < n->Le c (G p a) (G p b)
def jJ (c:Nat->Nat->Bool) (p:Array Nat) (n:Nat):Prop:=∀ a b,a<=b->b < n->Le c (G p b) (G p a)
include O
theorem an3 {p:Array Nat}{n:Nat} (h:fA c p n) (h1:1<=n) (hl:Le c (G p (n - 1)) (G p n)):fA c p (n+1):=fun a b hab hb=>by
 by_cases hbn:b < n
 ·exact h a b hab hbn
 ·have e:b=n:=by omega
  subst e
  by_cases han:a=b
  ·subst han; exact le_refl O _
  ·exact le_trans O (h a (b - 1) (by omega) (by omega)) hl
theorem pQ {p:Array Nat}{n:Nat} (h:jJ c p n) (h1:1<=n) (hl:Le c (G p n) (G p (n - 1))):jJ c p (n+1):=fun a b hab hb=>by
 by_cases hbn:b < n
 ·exact h a b hab hbn
 ·have e:b=n:=by omega
  subst e
  by_cases han:a=b
  ·subst han; exact le_refl O _
  ·exact le_trans O hl (h a (b - 1) (by omega) (by omega))
omit O
def c7 {α:Type} (n:Nat) (c:Nat->Nat->Bool) (R:α->Prop):KasT α->Prop
 | .ret a=>R a
 | .ask i j k=>i < n/\j < n/\c7 n c R (k (c i j))
theorem c7.mono {α:Type}{n:Nat}{R R':α->Prop} (h:∀ a,R a->R' a):∀ (t:KasT α),c7 n c R t->c7 n c R' t
 | .ret a,q=>h a q
 | .ask i j k,q=>⟨q.1,q.2.1,c7.mono h (k (c i j)) q.2.2⟩
theorem c7.bind {α β:Type}{n:Nat}{R:α->Prop}{R':β->Prop}{f:α->KasT β} (h:∀ a,R a->c7 n c R' (f a)):∀ (t:KasT α),c7 n c R t->c7 n c R' (t.bind f)
 | .ret a,q=>h a q
 | .ask i j k,q=>⟨q.1,q.2.1,c7.bind h (k (c i j)) q.2.2⟩
theorem c7.run {α:Type}{n:Nat}{R:α->Prop}{I:Shared->Prop}{cmp:Nat->Nat->(Bool->Shared->Prop)->Shared->Prop}{Q:α->Shared->Prop}
  (hc:∀ i j C s,i < n->j < n->I s->(∀ s',I s'->C (c i j) s')->cmp i j C s) (hQ:∀ a s,R a->I s->Q a s):∀ (t:KasT α) (s:Shared),I s->c7 n c R t->t.kasWp cmp Q s
 | .ret a,s,hI,q=>hQ a s q hI
 | .ask i j k,s,hI,q=>hc i j _ s q.1 q.2.1 hI fun s' hI'=>c7.run hc hQ (k (c i j)) s' hI' q.2.2
include O
theorem u7 {n:Nat}{p:Array Nat} (hp:PP n p):∀ (f m:Nat),1<=m->m+f<=n->fA c p m->c7 n c (fun r=>m<=r/\r<=m+f/\fA c p r/\(r < m+f->c (G p r) (G p (r - 1))=true)) (kas_asc p f m)
 | 0,m,_,_,h=>⟨aV0 _,aV0 _,h,fun z=>absurd z (aZ9 _)⟩
 | f+1,m,h1,h2,h=>by
  refine⟨hp.lt (by omega),hp.lt (by omega),?_⟩
  by_cases hc:c (p.getD m 0) (p.getD (m - 1) 0)=true
  ·simp only [hc,if_true]
   exact⟨aV0 _,by omega,h,fun _=>hc⟩
  ·have hc':c (p.getD m 0) (p.getD (m - 1) 0)=false:=bf7.mpr hc
   simp only [hc',aX0,bb2]
   refine c7.mono (fun r q=>⟨by omega,by omega,q.2.2.1,fun z=>q.2.2.2 (by omega)⟩) _ (u7 hp f (m+1) (by omega) (by omega) (an3 O h h1 hc'))
omit O
def kI (c:Nat->Nat->Bool) (i j:Nat):Prop:=Le c i j/\Le c j i
include O
theorem u8 {p q:Array Nat}{n:Nat} (h:jJ c p n) (e:∀ k,k < n->kI c (G q k) (G p k)):jJ c q n:=fun a b hab hb=>
 le_trans O (e b hb).1 (le_trans O (h a b hab hb) (e a (by omega)).2)
theorem B0 {n m i:Nat}{p:Array Nat} (hp:PP n p) (hm:m<=n) (h:∀ a,i<=a->a < m->kI c (G p a) (G p (m - 1))):∀ k,kI c (G (kas_rev p i m) k) (G p k):=fun k=>by
 rw [u6 (by rw [hp.size]; exact hm)]
 by_cases hk:i<=k/\k < m
 ·rw [if_pos hk]
  have h1:=h (i+m - 1 - k) (by omega) (by omega)
  have h2:=h k hk.1 hk.2
  exact⟨le_trans O h1.1 h2.2,le_trans O h2.1 h1.2⟩
 ·rw [if_neg hk]; exact⟨le_refl O _,le_refl O _⟩
omit O
def DI (c:Nat->Nat->Bool) (n:Nat) (p:Array Nat) (m q:Nat):Prop:=PP n p/\1<=m/\m<=n/\jJ c p m/\q+1<=m/\∀ a,m - (q+1)<=a->a < m->kI c (G p a) (G p (m - 1))
include O
theorem B1 {n m q:Nat}{p:Array Nat} (h:DI c n p m q):PP n (kas_rev p (m - (q+1)) m)/\∀ k,kI c (G (kas_rev p (m - (q+1)) m) k) (G p k):=
 ⟨h.1.rev _ _,B0 O h.1 h.2.2.1 h.2.2.2.2.2⟩
theorem pR {n:Nat}:∀ (f:Nat) (p:Array Nat) (m q:Nat),m+f<=n->DI c n p m q->c7 n c (fun r=>DI c n r.1 r.2.1 r.2.2) (kas_desc f p m q)
 | 0,p,m,q,_,h=>h
 | f+1,p,m,q,hf,h=>by
  have hp:=h.1
  have h1:=h.2.1
  refine⟨hp.lt (by omega),hp.lt (by omega),?_⟩
  by_cases hc:c (p.getD m 0) (p.getD (m - 1) 0)=true
  ·simp only [hc,if_true]
   have dn:jJ c p (m+1):=pQ O h.2.2.2.1 h1 (pP O hc)
   by_cases hq:q > 0
   ·simp only [hq,if_true]
    obtain ⟨pr,er⟩:=B1 O h
    refine pR f _ (m+1) 0 (by omega) ⟨pr,by omega,by omega,u8 O dn fun k _=>er k,by omega,fun a h1 h2=>?_⟩
    have e:a=m+1 - 1:=by omega
    rw [e]; exact⟨le_refl O _,le_refl O _⟩
   ·simp only [hq,bb2]
    refine pR f p (m+1) 0 (by omega) ⟨hp,by omega,by omega,dn,by omega,fun a h1 h2=>?_⟩
    have e:a=m+1 - 1:=by omega
    rw [e]; exact⟨le_refl O _,le_refl O _⟩
  ·have hc':c (p.getD m 0) (p.getD (m - 1) 0)=false:=bf7.mpr hc
   simp only [hc',aX0,bb2]
   refine⟨hp.lt (by omega),hp.lt (by omega),?_⟩
   by_cases hd:c (p.getD (m - 1) 0) (p.getD m 0)=true
   ·simp only [hd,if_true]
    exact h
   ·have hd':c (p.getD (m - 1) 0) (p.getD m 0)=false:=bf7.mpr hd
    simp only [hd',aX0,bb2]
    have ee:kI c (G p (m - 1)) (G p m):=⟨hc',hd'⟩
    refine pR f p (m+1) (q+1) (by omega) ⟨hp,by omega,by omega,pQ O h.2.2.2.1 h1 ee.2,by have:=h.2.2.2.2.1; omega,fun a h1 h2=>?_⟩
    rw [Nat.add_sub_cancel]
    by_cases ha:a=m
    ·rw [ha]; exact⟨le_refl O _,le_refl O _⟩
    ·have z:=h.2.2.2.2.2 a (by omega) (by omega)
     exact⟨le_trans O z.1 ee.1,le_trans O ee.2 z.2⟩
omit O
def CI (c:Nat->Nat->Bool) (n:Nat) (r:Nat × Array Nat):Prop:=PP n r.2/\1<=r.1/\r.1<=n/\fA c r.2 r.1
include O
theorem B2 {n m:Nat}{p:Array Nat} (hp:PP n p) (h1:1<=m) (hm:m<=n) (h:jJ c p m):c7 n c (CI c n) (kas_tail3 m n p):=by
 have ha:fA c (kas_rev p 0 m) m:=fun a b hab hb=>by
  rw [u6 (by rw [hp.size]; exact hm),u6 (by rw [hp.size]; exact hm),if_pos ⟨aZ2 _,by omega⟩,if_pos ⟨aZ2 _,hb⟩]
  exact h _ _ (by omega) (by omega)
 refine c7.bind (R:=fun r=>m<=r/\r<=m+(n - m)/\fA c (kas_rev p 0 m) r/\_) (fun r q=>?_) _ (u7 O (hp.rev 0 m) (n - m) m h1 (by omega) ha)
 exact⟨hp.rev _ _,by have:=q.1; omega,by have:=q.2.1; omega,q.2.2.1⟩
theorem B3 {n m:Nat}{p:Array Nat} (hp:PP n p) (h1:1<=m) (hm:m+1<=n) (h:jJ c p (m+1)):c7 n c (CI c n) (kas_descPart m n p):=by
 refine c7.bind (R:=fun r=>DI c n r.1 r.2.1 r.2.2) (fun r q=>?_) _ (pR O (n - (m+1)) p (m+1) 0 (by omega) ⟨hp,by omega,hm,h,by omega,fun a h1 h2=>?_⟩)
 ·by_cases hq:r.2.2 > 0
  ·rw [if_pos hq]
   obtain ⟨pr,er⟩:=B1 O q
   exact B2 O pr q.2.1 q.2.2.1 (u8 O q.2.2.2.1 fun k _=>er k)
  ·rw [if_neg hq]
   exact B2 O q.1 q.2.1 q.2.2.1 q.2.2.2.1
 ·have e:a=m+1 - 1:=by omega
  rw [e]; exact⟨le_refl O _,le_refl O _⟩
theorem an4 {n:Nat}{p:Array Nat} (hp:PP n p) (hn:1<=n):c7 n c (CI c n) (kas_count n p):=by
 have a1:fA c p 1:=fun a b hab hb=>by
  have e1:a=0:=by omega
  have e2:b=0:=by omega
  rw [e1,e2]; exact le_refl O _
 refine c7.bind (R:=fun r=>1<=r/\r<=1+(n - 1)/\fA c p r/\(r < 1+(n - 1)->c (G p r) (G p (r - 1))=true)) (fun m q=>?_) _ (u7 O hp (n - 1) 1 (aV0 _) (by omega) a1)
 obtain ⟨q1,q2,q3,q4⟩:=q
 by_cases hm:(m == n)=true
 ·rw [if_pos hm]
  exact⟨hp,q1,by omega,q3⟩
 ·rw [if_neg hm]
  have hne:m ≠ n:=by simpa using hm
  have hc:=q4 (by omega)
  by_cases h1:m > 1
  ·rw [if_pos h1]
   refine⟨hp.lt (by omega),hp.lt (by omega),?_⟩
   by_cases hd:c (p.getD 0 0) (p.getD (m - 1) 0)=true
   ·simp only [hd,if_true]
    exact⟨hp,q1,by omega,q3⟩
   ·have hd':c (p.getD 0 0) (p.getD (m - 1) 0)=false:=bf7.mpr hd
    simp only [hd',aX0,bb2]
    have eq:∀ a,0<=a->a < m->kI c (G p a) (G p (m - 1)):=fun a _ ha=>⟨q3 a (m - 1) (by omega) (by omega),le_trans O hd' (q3 0 a (aZ2 _) ha)⟩
    have er:=B0 O hp (by omega:m<=n) eq
    refine B3 O (hp.rev 0 m) q1 (by omega) (u8 O (p:=p) ?_ fun k _=>er k)
    refine pQ O (fun a b hab hb=>?_) q1 (pP O hc)
    exact le_trans O (eq b (aZ2 _) hb).1 (eq a (aZ2 _) (by omega)).2
  ·rw [if_neg h1]
   have e:m=1:=by omega
   subst e
   refine B3 O hp (aV0 _) (by omega) (pQ O (fun a b hab hb=>?_) (aV0 _) (pP O hc))
   have e1:a=0:=by omega
   have e2:b=0:=by omega
   rw [e1,e2]; exact le_refl O _
theorem u9 {n k:Nat}{p:Array Nat} (hp:PP n p) (hk:k < n) (ha:fA c p k):∀ (f l r:Nat),l<=r->r<=k->r - l<=f->(∀ a,a < l->Le c (G p a) (G p k))->(∀ a,r<=a->a < k->Le c (G p k) (G p a))->
  c7 n c (fun l=>l<=k/\(∀ a,a < l->Le c (G p a) (G p k))/\∀ a,l<=a->a < k->Le c (G p k) (G p a)) (kas_place p k f l r)
 | 0,l,r,h1,h2,h3,hl,hr=>⟨by omega,hl,fun a h4 h5=>hr a (by omega) h5⟩
 | f+1,l,r,h1,h2,h3,hl,hr=>by
  unfold kas_place
  by_cases hlr:l >= r
  ·rw [if_pos hlr]
   exact⟨by omega,hl,fun a h4 h5=>hr a (by omega) h5⟩
  ·rw [if_neg hlr]
   refine⟨hp.lt hk,hp.lt (by omega),?_⟩
   by_cases hc:c (p.getD k 0) (p.getD ((l+r) / 2) 0)=true
   ·simp only [hc,if_true]
    exact u9 hp hk ha f l ((l+r) / 2) (by omega) (by omega) (by omega) hl fun a h4 h5=>le_trans O (pP O hc) (ha _ _ h4 h5)
   ·have hc':c (p.getD k 0) (p.getD ((l+r) / 2) 0)=false:=bf7.mpr hc
    simp only [hc',aX0,bb2]
    exact u9 hp hk ha f ((l+r) / 2+1) r (by omega) h2 (by omega) (fun a h4=>le_trans O (ha a ((l+r) / 2) (by omega) (by omega)) hc') hr
theorem B4 {n:Nat}:∀ (f:Nat) (p:Array Nat) (k:Nat),PP n p->k+f<=n->fA c p k->c7 n c (fun q=>PP n q/\fA c q (k+f)) (kas_bin f p k)
 | 0,p,k,hp,_,h=>⟨hp,h⟩
 | f+1,p,k,hp,hk,h=>by
  refine c7.bind (R:=fun l=>l<=k/\(∀ a,a < l->Le c (G p a) (G p k))/\∀ a,l<=a->a < k->Le c (G p k) (G p a)) (fun l q=>?_) _ (u9 O hp (by omega) h k 0 k (aZ2 _) (aV0 _) (by omega) (fun a z=>absurd z (Nat.not_lt_zero _)) fun a h1 h2=>absurd h2 (by omega))
  obtain ⟨q1,q2,q3⟩:=q
  have e:∀ a,G (bubble p k (k - l)) a=if a=l then G p k else if l < a/\a<=k then G p (a - 1) else G p a:=fun a=>by
   rw [an2 (by rw [hp.size]; omega) (by omega),show k - (k - l)=l by omega]
  refine c7.mono (fun r z=>⟨z.1,by rw [show k+(f+1)=k+1+f by omega]; exact z.2⟩) _ (B4 f _ (k+1) (hp.bub _ _) (by omega) fun a b hab hb=>?_)
  rw [e,e]
  by_cases ha:a=l
  ·rw [if_pos ha]
   by_cases hb':b=l
   ·rw [if_pos hb']; exact le_refl O _
   ·rw [if_neg hb',if_pos (by omega)]; exact q3 _ (by omega) (by omega)
  ·rw [if_neg ha]
   by_cases ha2:l < a/\a<=k
   ·rw [if_pos ha2,if_neg (by omega),if_pos (by omega)]
    exact h _ _ (by omega) (by omega)
   ·rw [if_neg ha2]
    by_cases hb':b=l
    ·rw [if_pos hb']; exact q2 a (by omega)
    ·rw [if_neg hb']
     by_cases hb2:l < b/\b<=k
     ·rw [if_pos hb2]; exact h _ _ (by omega) (by omega)
     ·rw [if_neg hb2]; exact h _ _ hab (by omega)
theorem an5 {n:Nat} (hn:1<=n):c7 n c (fun q=>PP n q/\fA c q n) (kas_sort n):=by
 have hp:PP n (List.toArray (List.range n)):=by unfold PP; simp
 refine c7.bind (R:=CI c n) (fun r q=>?_) _ (an4 O hp hn)
 obtain ⟨q1,q2,q3,q4⟩:=q
 by_cases h:r.1 < n
 ·rw [if_pos h]
  have e:max r.1 1=r.1:=by omega
  rw [e]
  exact c7.mono (fun p z=>⟨z.1,by rw [show r.1+(n - r.1)=n by omega] at z; exact z.2⟩) _ (B4 O (n - r.1) r.2 r.1 q1 (by omega) q4)
 ·rw [if_neg h]
  have e:r.1=n:=by omega
  exact⟨q1,by rw [e] at q4; exact q4⟩
end
end Srt
namespace L2
open PySem PySem.Spec PyProof.Rows
theorem bK.there {P:Program}{w:World}{H:Hp}{h:Heap}{a:Addr}{o:HO} (x:bK P w H h a o):∃ u,h.get? a=some u:=by
 cases o with
 | lst xs=>obtain ⟨_,_,_,_,e⟩:=x; exact⟨_,e⟩
 | tup xs=>obtain ⟨_,_,_,o,e,_⟩:=x; exact⟨_,e⟩
 | dK kvs=>obtain ⟨_,_,_,_,o,_,_,e,_⟩:=x; exact⟨_,e⟩
 | dT kvs=>obtain ⟨_,_,_,_,o,_,_,e,_⟩:=x; exact⟨_,e⟩
 | set S n=>obtain ⟨o,_,_,_,e,_⟩:=x; exact⟨_,e⟩
 | ins C dx fs=>obtain ⟨_,_,_,e,_⟩:=x; exact⟨_,e⟩
 | own y=>exact x
 | xd fs=>obtain ⟨_,⟨_,_,_,e,_⟩,_⟩:=x; exact⟨_,e⟩
 | rng lo hi=>obtain ⟨_,_,_,e⟩:=x; exact⟨_,e⟩
 | frz ob u=>obtain ⟨e,_⟩:=x; exact⟨_,e⟩
 | tbl ps=>exact⟨_,(show h.get? a=some _ from x)⟩
 | met f y=>exact⟨_,(show h.get? a=some _ from x)⟩
 | ext φ=>obtain ⟨_,z,_⟩:=x; exact z
section
variable {X : Cx} {pins : List (Addr × Obj)} {σ : St} {H : Hp} {s : Shared} {h' : Heap} {a : Addr} {o : HO} {t' : Nat}
theorem a7.laidF (I:a7 X pins σ H s) (hn:s.heap.get? a=none) (k:∀ b u,b ≠ X.env.locals->s.heap.get? b=some u->h'.get? b=some u) (ns:∀ m,s.heap.Ns X.env.locals m->h'.Ns X.env.locals m)
  (new:bK X.prog X.w (upd H a o) h' a o):H a=none/\a7 X pins σ (upd H a o) { s with heap:=h',toks:=t' }:=by
 have hHn:H a=none:=by
  cases q:H a with
  | none=>rfl
  | some u=>obtain ⟨z,e⟩:=(I.hok a u q).there; rw [hn] at e; cases e
 have ne:∀ b u,s.heap.get? b=some u->b ≠ a:=fun b u e z=>by rw [z,hn] at e; cases e
 have hL:=I.free
 refine⟨hHn,I.step (g':=s.gens) (d':=s.drawn) (ch:=[]) (fun _ z=>nomatch z) (fun b o' h1 _ _ e _=>k b o' h1 e) (fun b o' h1 _ _ e _=>⟨o'.slots,k b o' h1 e⟩) (fun b o' _ e n=>by rw [aH (ne b o' e)]; exact n) (fun b o' _ e=>?_)
  (fun b xs q=>by rw [aH (cA q hHn)]; exact q) (fun b u xs q=>by rw [aH (cA q hHn)]; exact q) (fun b ps q=>⟨#[],by rw [aH (cA q hHn),q]; simp⟩) ns (fun b u q=>?_) I.bare⟩
 ·by_cases hb:b=X.env.locals
  ·obtain ⟨m,hm,_⟩:=I.loc
   obtain ⟨o2,_,_,e2,_⟩:=ns m hm
   exact⟨o2,by rw [hb]; exact e2⟩
  ·exact⟨o',k b o' hb e⟩
 ·by_cases hb:b=a
  ·subst hb; rw [b8] at q; cases q; exact new
  ·rw [aH hb] at q
   refine (I.hok b u q).stay (fun c v hc e=>k c v ?_ e) (fun c e=>by rw [aH (cA e hHn)]; exact e) fun c xs e=>by rw [aH (cA e hHn)]; exact e
   rcases hc with z | z
   ·rw [z]; intro y; rw [y,hL] at q; cases q
   ·intro y; rw [y,hL] at z; cases z
theorem a7.newsAll (I:a7 X pins σ H s) {news:List (Addr × Obj)}{m:Str->Option Value} (hs:∀ p ∈ mO X.base s.heap X.env.locals,p ∈ news) (F:Fr X.base X.env.locals h' m) (N:News X.base X.env.locals h' news) :
  ∀ b o,b ≠ X.env.locals->s.heap.get? b=some o->h'.get? b=some o:=fun b o h1 e=>by
 cases q:X.base.get? b with
 | some u=>
  have:=I.bk b u q
  rw [e] at this; cases this
  exact F.keep b _ q
 | none=>exact (N (b,o) (hs _ (xF h1 q e))).1
end
theorem an6 {α:Type}{d:α} (l:List α) {p:List Nat} (h:p.Perm (List.range l.length)):(p.map fun i=>l.getD i d).Perm l:=by
 have e:(List.range l.length).map (fun i=>l.getD i d)=l:=by
  apply List.ext_getElem
  ·simp
  ·intro i h1 h2
   simp at h1
   simp [h1]
 have:=h.map fun i=>l.getD i d
 rw [e] at this
 exact this
theorem uA:∀ {xs:List V}{us:List Value} (i:Nat),i < xs.length->aN xs us->aR (xs.getD i .non) (us.getD i Value.none)
 | _,_,_,h,.nil=>by simp at h
 | _,_,0,_,.cons r _=>by simpa using r
 | _,_,i+1,h,.cons _ t=>by
  have:=uA i (by simpa using h) t
  simpa using this
theorem B5 {xs:List V}{us:List Value} (r:aN xs us):∀ {p:List Nat},(∀ i ∈ p,i < xs.length)->aN (p.map fun i=>xs.getD i .non) (p.map fun i=>us.getD i Value.none)
 | [],_=>.nil
 | i :: p,h=>.cons (uA i (h i aV9) r) (B5 r fun j hj=>h j (aW6 _ hj))
theorem uB {α:Type}:∀ l:List α,(l.zip l).map (·.2)=l
 | []=>rfl
 | a :: l=>by
  show a :: ((l.zip l).map (·.2))=a :: l
  rw [uB l]
theorem an7 {prog:Program}{w:World}{A:Around}{E:Value->Shared->Prop}{s:Shared}{a:Addr}{vs:List Value}{n:Nat}{P:PySem.Fin->Shared->Prop} (e:s.heap.get? a=some (seqObj "list" vs.toArray n)) (few:vs.length < 2)
  (q:P (.done (.ret .none)) { s with heap:=sortedHeap s.heap a vs vs.toArray }):wpAny (model prog w) A (Builtin.«list.sort» ⟨[.ref a],[]⟩) P E s:=by
 have big:vs.length<=sizeLine:=aY8 (ba4 few) (by decide)
 have la:=aW0 e
 have c:vs.toArray.size < 2:=by simpa using few
 have same:(arrOf (SortSt.mk' general' (vs.toArray.zip vs.toArray) #[] 7 none)).map (·.2)=vs.toArray:=by
  change (vs.toArray.zip vs.toArray).map (·.2)=vs.toArray
  apply Array.ext'
  simpa using uB vs
 obtain ⟨k,ek⟩:∃ k,(s.heap.update a (Obj.mapSeq fun _=>#[])).get? a=some (seqObj "list" #[] k):=⟨_,get?_update_seq e fun _=>#[]⟩
 have there:(((s.heap.update a (Obj.mapSeq fun _=>#[])).push (seqObj "tuple" vs.toArray 0)).push (seqObj "list" #[] 0)).get? a=some (seqObj "list" #[] k):=
  aU7 _ (aU7 _ ek)
 rw [list_sort_plain]
 apply aU6
 apply listItems_at e rfl
 apply aU6
 refine listUpdate_at e rfl ?_ (by simpa using big) (aZ2 _)
 apply aU6
 apply seqEpoch_at ek rfl
 apply aU6
 refine wpAny_newTuple ?_ big
 apply aU6
 refine wpAny_newList ?_ (aZ2 _)
 apply bd9
 simp only [c,if_true,StateT.run_pure]
 apply aU6
 apply aV4
 apply aU6
 apply aV4
 apply aU6
 apply seqEpoch_at there rfl
 apply aU6
 refine listUpdate_at there rfl ?_ (aZ2 _) (by rw [same,aU8]; exact Nat.le_succ_of_le big)
 rw [same]
 simp only [bne_self_eq_false,aX0,bb2]
 exact aV4 q
theorem an8 {prog:Program}{w:World}{A:Around}{E:Value->Shared->Prop}{s:Shared}{l:Addr}{vs:List Value}{Q:Value->Shared->Prop} (hl:s.heap.IsList l vs.toArray) (few:vs.length < 2)
  (q:Q (.ref (s.heap.objs.size+1)) { s with heap:=sortedAll s.heap vs vs.toArray }):wpAny (model prog w) A (call (.builtin "sorted") [.ref l]) Q E s:=by
 have big:vs.length<=sizeLine:=aY8 (ba4 few) (by decide)
 apply Calls.call_function_entry kind_sorted plain_sorted entry_sorted (args_sorted1 _)
 simp only [Builtin.«sorted»]
 apply aU6 (m:=checkCount "sorted" 1 1 _)
 apply aV4
 apply aU6
 refine collect_list hl ?_ big
 apply aU6
 refine wpAny_newList ?_ big
 have one:((s.heap.push (seqObj "list" #[] 0)).update s.heap.objs.size (Obj.mapSeq (· ++ vs.toArray))).objs.size=s.heap.objs.size+1:=(Heap.size_update _ _ _).trans (size_push' _ _)
 have at1:(((s.heap.push (seqObj "list" #[] 0)).update s.heap.objs.size (Obj.mapSeq (· ++ vs.toArray))).push (seqObj "list" vs.toArray 0)).get? (s.heap.objs.size+1)=some (seqObj "list" vs.toArray 0):=one ▸ aV8 _ rfl
 change wpAny _ _ _ _ _ { s with heap:=((s.heap.push (seqObj "list" #[] 0)).update s.heap.objs.size (Obj.mapSeq (· ++ vs.toArray))).push (seqObj "list" vs.toArray 0) }
 rw [one]
 apply aU6
 apply bd9
 refine ba9 slot_list_sort ⟨_,at1,rfl⟩ entry_list_sort ?_ (args_list_sort _)
 refine an7 at1 few ⟨_,rfl,?_⟩
 exact aV4 ⟨_,rfl,q⟩
def an9 (K:PySem.W.Frag):List V->Hp->VK->Prop:=fun xs H Q=>∃ a ns,xs = [.ref a]/\aJ K H a (ns.map V.int)/\ns.length < 64/\∀ l (ms:List Int),H l=none->ms.Perm ns->ms.Pairwise (· <= ·)->Q (.ref l) (upd H l (.lst (ms.map V.int)))
theorem ao0 {X:Cx}:cK X (.builtin "sorted") (an9 X.K):=by
 intro pins s σ H xs us Q I r h
 obtain ⟨a,ns,rfl,hs,h64,q⟩:=h
 obtain ⟨u,rfl,ru⟩:=eW r
 cases ru
 obtain ⟨its,rv,p,hz⟩:=I.list hs
 have hl:=rv.length
 rw [aV1] at hl
 refine sorted_ints p.isList (kD rv) (by omega) fun out ns' a1 a2 a3=>?_
 obtain ⟨e,he⟩:=sortedAll_at s.heap its out
 have hn:s.heap.objs.size<=s.heap.objs.size+1:=Nat.le_succ _
 have hlen:ns'.length=ns.length:=a2.length_eq
 refine⟨.ref (s.heap.objs.size+1),upd H (s.heap.objs.size+1) (.lst (ns'.map V.int)),I.laid (t':=s.toks) (fun _ _=>sortedAll_old) hn ⟨?_,out.toList,e,nE a1,by simpa using he⟩,rfl,q _ ns' (I.hok.fresh hn) a2 a3⟩
 rw [aV1,hlen]
 exact ba4 (nF (by omega))
theorem B6:∀ {a b:List Int},HT.cB a b=true->HT.cB b a=false
 | [],[],h=>by cases h
 | [],_ :: _,_=>rfl
 | _ :: _,[],h=>by cases h
 | x :: xs,y :: ys,h=>by
  rw [HT.iR] at h ⊢
  by_cases e:x=y
  ·rw [if_pos e] at h; rw [if_pos e.symm]; exact B6 h
  ·rw [if_neg e] at h; rw [if_neg (Ne.symm e)]
   have:=bf8 h
   exact aW4 (by omega)
theorem B7:∀ {a b c:List Int},HT.cB a b=false->HT.cB b c=false->HT.cB a c=false
 | [],[],c,_,h=>h
 | [],_ :: _,_,h,_=>by cases h
 | _ :: _,[],[],_,_=>rfl
 | _ :: _,[],_ :: _,_,h=>by cases h
 | _ :: _,_ :: _,[],_,_=>rfl
 | x :: xs,y :: ys,z :: zs,h1,h2=>by
  rw [HT.iR] at h1 h2 ⊢
  by_cases e1:x=y
  ·rw [if_pos e1] at h1
   by_cases e2:y=z
   ·rw [if_pos e2] at h2; rw [if_pos (e1.trans e2)]; exact B7 h1 h2
   ·rw [if_neg e2] at h2; rw [if_neg (by rw [e1]; exact e2)]; rw [e1]; exact h2
  ·rw [if_neg e1] at h1
   have k1:=bd6 h1
   by_cases e2:y=z
   ·rw [<- e2,if_neg e1]; exact h1
   ·rw [if_neg e2] at h2
    have k2:=bd6 h2
    rw [if_neg (by omega)]
    exact aW4 (by omega)
def B8 (H:Hp):V->List Int
 | .ref b=>match H b with
  | some (.tup xs)=>xs.map fun x=>match x with
   | .int i=>i
   | _=>0
  | _=>[]
 | _=>[]
section
variable {prog : Program} {w : World} {A : Around} {s : Shared} {Q : Bool → Shared → Prop}
theorem B9:∀ {us ws:List Value}{xs ys:List Int} (i:Nat),IntsAre us xs->IntsAre ws ys->Q (HT.cB xs ys) s->PySem.W.KatLex prog w A true (decide (us.length < ws.length)) Q (us.zip ws) i s
 | _,_,_,_,_,.nil,.nil,h=>h
 | _,_,_,_,_,.nil,.cons _ _ _,h=>h
 | _,_,_,_,_,.cons _ _ _,.nil,h=>h
 | _,_,_,_,i,.cons (vs:=us) x t hx,.cons (vs:=ws) y u hy,h=>by
  refine PySem.W.kat_cons (wpAny_eqBool_int ?_)
  rw [HT.iR] at h
  by_cases e:x=y
  ·rw [if_pos e] at h
   have eb:(x == y)=true:=by simpa using e
   rw [eb]
   refine PySem.W.kat_yes ?_
   have e2:decide ((Value.int x t :: us).length < (Value.int y u :: ws).length)=decide (us.length < ws.length):=by simp
   rw [e2]
   exact B9 (i+1) hx hy h
  ·rw [if_neg e] at h
   have eb:(x == y)=false:=by simpa using e
   rw [eb]
   refine PySem.W.kat_no ?_
   cases hi:(true && i == 0) with
   | true=>exact PySem.W.kat_lt_int h
   | false=>exact PySem.W.kat_one _ _ (lt_int h)
end
def C0 (K:PySem.W.Frag):List V->Hp->VK->Prop:=fun xs H Q=>∃ (a:Addr) (ys:List V) (key:V->List Int),xs = [.ref a]/\aJ K H a ys/\ys.length < 64/\(∀ y ∈ ys,∃ b,y = .ref b/\aG K H b ((key y).map V.int)/\key y ≠ [])/\
 ∀ l (zs:List V),H l=none->zs.Perm ys->zs.Pairwise (fun u v=>HT.cB (key v) (key u)=false)->Q (.ref l) (upd H l (.lst zs))
theorem ao1 {c:Nat->Nat->Bool}{R:V->V->Prop}{ys:List V}{p:Array Nat}{n:Nat} (hp:Srt.PP n p) (ha:Srt.fA c p n) (hR:∀ i j,Srt.Le c i j->R (ys.getD i .non) (ys.getD j .non)) :
  (p.toList.map fun i=>ys.getD i .non).Pairwise R:=by
 rw [bb8,List.pairwise_iff_getElem]
 intro i j hi hj hij
 have hs:=hp.size
 have h1:i < n:=by rw [<- hs]; simpa using hi
 have h2:j < n:=by rw [<- hs]; simpa using hj
 have q:=ha i j (ba4 hij) h2
 have e:∀ k (hk:k < p.toList.length),Srt.G p k=p.toList[k]:=fun k hk=>by
  have hk':k < p.size:=by simpa using hk
  unfold Srt.G; rw [bf9]; simp [hk']
 rw [e i hi,e j hj] at q
 exact hR _ _ q
theorem ao2 {X:Cx}:cK X (.builtin "sorted") (C0 X.K):=by
 intro pins s σ H xs us Q I r h
 obtain ⟨a,ys,key,rfl,hs,h64,hk,q⟩:=h
 obtain ⟨u,rfl,ru⟩:=eW r
 cases ru
 obtain ⟨its,rv,p,hz⟩:=I.list hs
 have hl:=rv.length
 by_cases h2:its.length < 2
 ·
  refine an8 p.isList h2 ?_
  obtain ⟨e,he⟩:=sortedAll_at s.heap its its.toArray
  have hn:s.heap.objs.size<=s.heap.objs.size+1:=Nat.le_succ _
  refine⟨.ref (s.heap.objs.size+1),upd H (s.heap.objs.size+1) (.lst ys),I.laid (t':=s.toks) (fun _ _=>sortedAll_old) hn ⟨hz,its,e,rv,he⟩,rfl,q _ ys (I.hok.fresh hn) (bh5 _) ?_⟩
  match ys,hl with
  | [],_=>exact List.Pairwise.nil
  | [_],_=>exact aY1 _ _
  | _ :: _ :: _,hl=>simp at hl; omega
 ·obtain ⟨m,F⟩:=I.fr
  have hL:∀ {b:Addr}{k:List Int},aG X.K H b (k.map V.int)->b ≠ X.env.locals:=fun {b k} z e=>by
   obtain ⟨its',_,⟨ob,e1,c1,_⟩,_⟩:=I.tuple z
   obtain ⟨m',⟨o',es',ep',e2,d2,_⟩,_⟩:=I.loc
   rcases z with (z | ⟨_,z⟩) | ⟨o3,its3,n3,z3,zc,zd,_⟩
   ·rw [e,I.free] at z; cases z
   ·rw [e,I.free] at z; cases z
   ·have:=I.kIn b o3 z3
    rw [e,e2] at this
    cases this
    rw [d2] at zd; cases zd
  refine PySem.W.kat_sorted F (ab3 (g:=X.base) (h:=s.heap) (L:=X.env.locals)) p.isList (by omega) (by omega) fun D e1 h' F' N' hD=>?_
  have keep:=I.newsAll (fun p hp=>aW6 _ hp) F' N'
  have look:∀ i,i < ys.length->∃ (b:Addr) (ob:Obj) (us:List Value) (n:Nat),its.getD i Value.none = .ref b/\h'.get? b=some ob/\ob.cls = .type "tuple"/\ob.data = .seq us.toArray n/\IntsAre us (key (ys.getD i .non))/\key (ys.getD i .non) ≠ []:=fun i hi=>by
   have hy:ys.getD i .non ∈ ys:=by
    rw [aW1,aV2 hi]; exact List.getElem_mem hi
   obtain ⟨b,eb,sq,ne⟩:=hk _ hy
   have rr:=uA i hi rv
   rw [eb] at rr
   have rr:its.getD i Value.none = .ref b:=rr
   obtain ⟨us,ru,⟨ob,e1,c1,n1,d1⟩,_⟩:=I.tuple sq
   exact⟨b,ob,us,n1,rr,keep b ob (hL sq) e1,c1,d1,kD ru,ne⟩
  have firsts:∀ {xs:List V}{vs:List Value},aN xs vs->(∀ y ∈ xs,∃ b,y = .ref b/\aG X.K H b ((key y).map V.int)/\key y ≠ [])->∃ fs:List Value,PySem.W.KatTups h' vs fs/\fs.length=vs.length/\∀ v ∈ fs,∃ i t,v=Value.int i t:=by
   intro xs vs r
   induction r with
   | nil=>intro _; exact⟨[],PySem.W.KatTups.nil,rfl,fun _ z=>nomatch z⟩
   | @cons x v xs vs rx rt ih=>
    intro hh
    obtain ⟨fs,t1,t2,t3⟩:=ih fun y hy=>hh y (aW6 _ hy)
    obtain ⟨b,eb,sq,ne⟩:=hh x aV9
    subst eb
    cases rx
    obtain ⟨us,ru,⟨ob,e1,c1,n1,d1⟩,_⟩:=I.tuple sq
    have ia:=kD ru
    generalize key (V.ref b)=kk at ia ne
    cases ia with
    | nil=>exact absurd rfl ne
    | @cons n t vs0 ns0 ht=>
     exact⟨Value.int n t :: fs,PySem.W.KatTups.cons (keep b ob (hL sq) e1) c1 d1 (by simp) t1,by simp [t2],fun v hv=>(aV5.mp hv).elim (fun z=>⟨n,t,z⟩) (t3 v)⟩
  obtain ⟨fs,t1,t2,t3⟩:=firsts rv hk
  refine PySem.W.kat_kind (T:=.type "int") t1 (by omega) (fun v hv=>?_) (by decide) ?_
  ·obtain ⟨i,t,rfl⟩:=t3 v hv
   exact PySem.W.Looks.now
  let c:Nat->Nat->Bool:=fun i j=>HT.cB (key (ys.getD i .non)) (key (ys.getD j .non))
  have O:Srt.eO c:=⟨fun h=>B6 h,fun h1 h2=>B7 h1 h2⟩
  have ok:=Srt.an5 (n:=its.length) O (by omega)
  refine Srt.c7.run (I:=fun s'=>s'={ s with heap:=h' }) (fun i j C s' hi hj hI hC=>?_) (fun pa s' hR hI=>?_) _ _ rfl ok
  ·subst hI
   obtain ⟨b1,o1,u1,n1,g1,g2,_,g4,g5,_⟩:=look i (by omega)
   obtain ⟨b2,o2,u2,n2,k1,k2,_,k4,k5,_⟩:=look j (by omega)
   show wpAny _ _ (keyLt' (tuples' (Value.type "int" != Value.type "tuple")) (its.getD i Value.none) (its.getD j Value.none)) _ _ _
   rw [g1,k1]
   have eT:(Value.type "int" != Value.type "tuple")=true:=by decide
   rw [eT]
   refine PySem.W.kat_lt g2 g4 k2 k4 ?_
   have:=B9 (prog:=X.prog) (w:=X.w) (A:=X.A.in1.in1) (s:={ s with heap:=h' }) (Q:=C) 0 g5 k5 (hC _ rfl)
   simpa using this
  ·subst hI
   obtain ⟨hp,hasc⟩:=hR
   refine PySem.W.KasFin.intro F' N' (PySem.W.UpdF.head fun p hp=>aY5 (hD p hp)) fun h2 cc F2 N2=>?_
   have keep2:=I.newsAll (fun p hp=>aW6 _ hp) F2 N2
   have hDn:s.heap.get? D=none:=by
    cases z:s.heap.get? D with
    | none=>rfl
    | some o=>
     obtain ⟨_,n1,n2⟩:=N2 (D,_) aV9
     exact absurd (hD _ (xF n1 n2 z)) (aZ9 _)
   have hpl:∀ i ∈ pa.toList,i < ys.length:=fun i hi=>by
    have:=bg2.mp (hp.mem_iff.mp hi); omega
   have hp':pa.toList.Perm (List.range ys.length):=by rw [hl]; exact hp
   have pm:=an6 (d:=V.non) ys hp'
   obtain ⟨hDo,hDL,hDb⟩:=N2 (D,_) aV9
   obtain ⟨hHD,I2⟩:=I.laidF (t':=s.toks) (a:=D) (o:=.lst (pa.toList.map fun i=>ys.getD i .non)) hDn keep2 (fun m' hm'=>by
     have e:m'=m:=funext fun nm=>Heap.Ns.agree hm' F.ns nm
     rw [e]; exact F2.ns) ⟨by rw [pm.length_eq]; exact hz,_,cc,B5 rv hpl,hDo⟩
   exact⟨.ref D,_,I2,rfl,q D _ hHD pm (ao1 hp hasc fun i j hle=>hle)⟩
end L2
namespace Raw
open PySem PySem.W PySem.Calls PyProof.Rows
def fO (h:Heap) (d:Addr) (es:Array DictEntry) (ep:Nat):Prop:=∃ o,h.get? d=some o/\o.ExactDict/\o.data = .dict es ep
theorem fO.ty {s:Shared}{d:Addr}{es:Array DictEntry}{ep:Nat} (x:fO s.heap d es ep):s.TypeIs (.ref d) "dict":=x.elim fun o y=>⟨o,y.1,y.2.1.1⟩
theorem fO.lt {h:Heap}{d:Addr}{es:Array DictEntry}{ep:Nat} (x:fO h d es ep):d < h.objs.size:=x.elim fun _ y=>aW0 y.1
theorem fO.keep {h h':Heap}{d:Addr}{es:Array DictEntry}{ep:Nat} (x:fO h d es ep) (k:∀ o,h.get? d=some o->h'.get? d=some o):fO h' d es ep:=x.elim fun o y=>⟨o,k o y.1,y.2⟩
section
variable {prog : Program} {w : World} {A : Around} {E : Value → Shared → Prop} {s : Shared} {d it : Addr} {es : Array DictEntry} {ep i : Nat}
theorem made (far:(d == sysModules)=false) (x:fO s.heap d es ep) {Q:Value->Shared->Prop}
  (q:Q (.ref s.heap.objs.size) { s with heap:=s.heap.push { cls:=.type "dict_keyiterator",data:=.fields #[.ref d,.int 0 0,.int es.size 0,.int ep 0] } }):wpAny (model prog w) A (pyIter (.ref d)) Q E s:=by
 have T:=x.ty
 obtain ⟨o,e1,e2,e3⟩:=x
 apply wpAny_pyIter_slot T PySem.F.slot_dict_iter
 apply ba9 PySem.F.slot_dict_iter T PySem.F.entry_dict_iter _ (PySem.F.args_dict_iter_1 _)
 simp only [Builtin.«dict.__iter__»,Builtin.Dict.dictSlotNone]
 apply aU6
 apply aU6
 apply wpAny_notOrdered_dict T
 apply aV4
 change wpAny _ _ (Builtin.Dict.showsAll d >>= _) _ _ s
 have far':Builtin.Dict.showsAll d=pure ():=by
  unfold Builtin.Dict.showsAll
  simp only [far,aX0,bb2]
 rw [far',pure_bind]
 apply aU6
 apply wpAny_dictEntries e1 e3
 apply aU6
 apply wpAny_dictEpoch e1 e3
 apply aU6
 refine bb7 (aV4 ?_)
 refine⟨.ref s.heap.objs.size,rfl,"dict_keyiterator",_,⟨_,aV8 _ rfl,rfl⟩,PySem.F.slot_dict_keyiterator_next.lookup,?_⟩
 simpa only [rawInt] using q
theorem turn (hh:A.handled=none) (hi:s.heap.IsKeyIter it d i es.size ep) (x:fO s.heap d es ep) {Q:Option Value->Shared->Prop}
  (yes:∀ (lt:i < es.size) h',h'.IsKeyIter it d (i+1) es.size ep->Heap.SameBut it s.heap h'->Q (some es[i].key) { s with heap:=h' })
  (no:es.size<=i->∀ h',Heap.ExtBut it s.heap h'->Q none { s with heap:=h' }):wpAny (model prog w) A (pyNext (.ref it)) Q E s:=by
 have T:=hi.typeIs
 obtain ⟨oi,f1,f2,f3⟩:=hi
 obtain ⟨o,e1,e2,e3⟩:=x
 have slot:=PySem.F.slot_dict_keyiterator_next
 have plain:Builtin.Dict_items.ownsTuple "dict_keyiterator" = false:=by decide
 have isref:(Value.ref d == Value.none)=false:=rfl
 have nn : ¬ (i:Int) < 0:=by omega
 unfold pyNext
 apply aU6
 apply wpAny_attempt
 apply ba6 (name:=Str.ofString "__next__") T slot
 apply ba9 slot T PySem.F.entry_dict_keyiterator_next _ (PySem.F.args_dict_keyiterator_next_1 _)
 apply aU6
 apply aV4
 apply aU6
 apply aU6
 apply aU6
 first
  | apply wpAny_typeNameOfWhole_keyiter T
  | apply wpAny_typeNameOf_keyiter T
 apply aV4
 apply aU6
 apply wpAny_fieldsOf f1 f3
 simp only [plain,aX0,bb2]
 change wpAny _ _ (if (Value.ref d == Value.none)=true then _ else _) _ _ s
 have adr:Builtin.Dict_items.addrOf (Value.ref d)=pure d:=rfl
 simp only [isref,aX0,bb2,adr,pure_bind]
 apply aU6
 apply wpAny_dictEntries e1 e3
 simp only [bne_self_eq_false,aX0,bb2]
 apply aU6
 apply wpAny_dictEpoch e1 e3
 simp only [bne_self_eq_false,aX0,bb2]
 apply aV4
 simp only [nn,bb2,bd2]
 by_cases lt:i < es.size
 ·simp only [Array.getElem?_eq_getElem lt]
  apply aU6
  apply aU6
  first
   | apply wpAny_typeNameOfWhole_keyiter T
   | apply wpAny_typeNameOf_keyiter T
  apply aV4
  apply aU6
  apply wpAny_isOneOf_keyiter T
  change wpAny _ _ (setField (.ref it) 1 (rawInt ((i:Int)+1)) >>= _) _ _ s
  apply aU6
  refine wpAny_setField f1 f3 (by simp) ?_
  have again:(s.heap.update it (Obj.mapFields (·.setIfInBounds 1 (rawInt ((i:Int)+1))))).IsKeyIter it d (i+1) es.size ep:=by
   refine⟨_,Heap.get?_update_self _ f1 (Obj.isFreed_of_fields (Obj.data_mapFields f3 _)),?_,?_⟩
   ·rw [Obj.cls_mapFields]; exact f2
   ·rw [Obj.data_mapFields f3]; simp [rawInt]
  apply aU6
  apply bd9
  apply aU6
  refine wpAny_isOneOf_keyiter (s:={ s with heap:=s.heap.update it (Obj.mapFields (·.setIfInBounds 1 (rawInt ((i:Int)+1)))) }) again.typeIs ?_
  change wpAny _ _ (pure es[i].key) _ _ _
  apply aV4
  apply aV4
  exact⟨es[i].key,rfl,aV4 (yes lt _ again (Heap.SameBut.update ..))⟩
 ·have ge:es.size<=i:=Nat.le_of_not_lt lt
  simp only [Array.getElem?_eq_none ge]
  apply aU6
  apply aU6
  first
   | apply wpAny_typeNameOfWhole_keyiter T
   | apply wpAny_typeNameOf_keyiter T
  apply aV4
  change wpAny _ _ (setField (.ref it) 0 .none >>= _) _ _ s
  apply aU6
  refine wpAny_setField f1 f3 (by simp) ?_
  apply aU6
  simp only [newExc,newTuple]
  apply aU6
  refine bb7 ?_ (by size_fits)
  apply aU6
  refine wpAny_of_eq (a:=Value.none) (by first | rfl | (simp only [firstArgMember]; rfl)) ?_
  refine bb7 ?_ (by size_fits)
  unfold raiseNew
  apply aU6
  apply wpAny_handled
  have quiet:A.in1.handled=none:=hh
  rw [quiet]
  refine wpAny_throw ?_
  apply aU6
  refine wpAny_isInstance (T:="StopIteration") (b:=true) ⟨_,aV8 _ rfl,rfl⟩ isSubtype_stop ?_
  exact aV4 (no ge _ (((Heap.SameBut.update ..).extBut.push _).push _))
theorem ao3 (hh:A.handled=none) (ne:d ≠ it):Walks prog w A it [it,d] [it] es.size (fun i v=>∃ lt:i < es.size,es[i].key=v) (fun i h=>h.IsKeyIter it d i es.size ep/\fO h d es ep) where
 sub:=by intro b hb; rw [aV6.mp hb]; exact aV9
 frame:=by
  intro i h h' st hk
  exact⟨st.1.at (hk it aV9),st.2.keep (hk d (aW6 _ aV9))⟩
 item:=by
  intro i s Q E lt st hQ
  refine turn hh st.1 st.2 (fun lt' h' again sb=>?_) fun ge=>absurd lt (Nat.not_lt.mpr ge)
  exact hQ _ h' s.toks ⟨lt',rfl⟩ ⟨again,st.2.keep fun o e=>sb.extBut d o ne e⟩ fun b o hb e=>sb.extBut b o (fun z=>hb (aV6.mpr z)) e
 done:=by
  intro s Q E st hQ
  refine turn hh st.1 st.2 (fun lt=>absurd lt (aZ9 _)) fun _ h' eb=>?_
  exact hQ h' s.toks fun b o hb e=>eb b o (fun z=>hb (aV6.mpr z)) e
 self:=by intro i s Q E st hQ; exact wpAny_pyIter_keyiter st.1 hQ
theorem C1 (far:(d == sysModules)=false):KdlSrc prog w "dict" d d es.size (fun i v=>∃ lt:i < es.size,es[i].key=v) (fun h=>fO h d es ep) where
 type:=fun _ x=>x.ty
 there:=fun _ x=>⟨x.lt,x.lt⟩
 keep:=fun _ _ x k=>x.keep (k d (.inl rfl))
 notList:=by decide
 notTuple:=by decide
 hint:=fun _ _ _ _ x q=>kdl_hint_dict x.ty q
 iter:=fun _ _ hh x=>⟨_,_,fun _ _ q=>made far x q,ao3 hh (aY5 x.lt),⟨_,aV8 _ rfl,rfl,rfl⟩,x.keep fun o e=>aU7 _ e⟩
end
end Raw
namespace L2
open PySem PySem.Spec PyProof.Rows
section
variable {X : Cx} {pins : List (Addr × Obj)} {σ : St} {H : Hp} {s : Shared} {a : Addr}
def nL (H:Hp) (y:V) (k:List aB):Prop:=∃ q,y = .ref q/\H q=some (.tup (k.map kV))
theorem ao4 {kvs:List (aB × V)} (I:a7 X pins σ H s) (h:H a=some (.dK kvs)):∃ es ep,Raw.fO s.heap a es ep/\(a == sysModules)=false/\aN (kvs.map fun p=>kV p.1) (es.toList.map (·.key))/\kvs.length<=sizeLine:=by
 obtain ⟨z,far,vs,rel,o,es,ep,e1,e2,e3,kk,pr,nd⟩:=(show bK X.prog X.w H s.heap a (.dK kvs) from I.hok a _ h)
 refine⟨es,ep,⟨o,e1,e2,e3⟩,far,?_,z⟩
 clear z far e1 e2 e3 kk nd h
 generalize es.toList=l at pr
 induction pr generalizing kvs with
 | nil=>cases rel; exact .nil
 | @cons e k es' kvs' h1 h2 _ ih=>
  cases rel with
  | @cons p q ps qs r rs=>
   refine .cons ?_ (ih rs)
   obtain ⟨r1,_⟩:=r
   show aR (kV p.1) e.key
   rw [r1]
   rcases i3 h1 with ⟨n,t,e4,e5⟩ | ⟨x,t,e4,e5⟩
   ·rw [e4,e5]; exact⟨t,rfl⟩
   ·rw [e4,e5]; exact⟨t,rfl⟩
theorem C2 {kvs:List (List aB × V)} (I:a7 X pins σ H s) (h:H a=some (.dT kvs)):∃ es ep ys,Raw.fO s.heap a es ep/\(a == sysModules)=false/\Paired (nL H) ys (kvs.map (·.1))/\aN ys (es.toList.map (·.key))/\kvs.length<=sizeLine:=by
 obtain ⟨z,far,xs,rel,o,es,ep,e1,e2,e3,e4,nd⟩:=(show bK X.prog X.w H s.heap a (.dT kvs) from I.hok a _ h)
 refine⟨es,ep,xs.map fun q=>V.ref q.2.1,⟨o,e1,e2,e3⟩,far,?_,?_,z⟩
 ·clear e4 nd h z
  induction rel with
  | nil=>exact .nil
  | cons r rs ih=>exact .cons ⟨_,rfl,r.2.1⟩ ih
 ·rw [e4]
  clear rel e4 nd
  induction xs with
  | nil=>exact .nil
  | cons q qs ih=>exact .cons rfl ih
theorem C3 {es:Array DictEntry}{acc:Array Value} (h:ItemsOf (fun i v=>∃ lt:i < es.size,es[i].key=v) acc es.size):acc.toList=es.toList.map (·.key):=by
 apply List.ext_getElem?
 intro j
 have h1:=h.1
 by_cases hj:j < es.size
 ·have hj':j < acc.size:=by rw [h1]; exact hj
  obtain ⟨_,e⟩:=h.2 j acc[j] (by simp [hj'])
  rw [aV7]
  simp [hj,hj',e]
 ·have hj' : ¬ j < acc.size:=by rw [h1]; exact hj
  rw [aV7]
  simp [Nat.le_of_not_lt hj,Nat.le_of_not_lt hj']
theorem ao5 (hc:X.calm=true):cK X (.type "list") (fun xs H Q=>∃ a kvs,xs = [.ref a]/\H a=some (.dT kvs)/\∀ l ys,H l=none->Paired (nL H) ys (kvs.map (·.1))->Q (.ref l) (upd H l (.lst ys))):=by
 intro pins s σ H xs us Q I r h
 obtain ⟨a,kvs,rfl,ha,q⟩:=h
 obtain ⟨u,rfl,ru⟩:=eW r
 cases ru
 obtain ⟨es,ep,ys,rd,far,pk,vk,z⟩:=C2 I ha
 have hl:=vk.length
 have hl2:=pk.length
 rw [aV1] at hl hl2
 have hsz:es.toList.length=es.size:=be4
 refine PySem.W.kdl_call (Raw.C1 far) (I.ok.hd hc) rd (by omega) fun h' tk acc c kp e it=>?_
 refine⟨.ref s.heap.objs.size,_,I.laid (t':=tk) kp (aV0 _) (show bK X.prog X.w _ h' _ (.lst ys) from ⟨by omega,acc.toList,c,by rw [C3 it]; exact vk,by simpa using e⟩),rfl,q _ ys (I.hok.fresh (aV0 _)) pk⟩
end
section
variable {X : Cx}
theorem ao6:cK X (.builtin "isinstance") (fun xs H Q=>∃ x t n b,xs = [x,.ty n]/\eY X.K H x t/\PySem.W.kitOne X.K t (.type n)=some b/\Q (.bl b) H):=by
 intro pins s σ H xs us Q I r h
 obtain ⟨x,t,n,b,rfl,ty,e,q⟩:=h
 obtain ⟨u,u',rfl,ru,ru'⟩:=p4 r
 cases ru'
 exact ag5 I ru ty e fun tk=>⟨.bl b,H,I.tok tk,rfl,q⟩
end
def C4 (outer:List (Str × NameKind)) (XN:List Str) (names:List (Str × NameKind)) (N:List Str) (fr:List (Option Nat)):Bool:=
 names.all (fun y=>!(y.2 == .cell) || names.lookup y.1 == some .cell) && names.all (fun y=>!(y.2 == .local) || names.lookup y.1 == some .local) &&
 names.all (fun y=>!(y.2 == .free) || (outer.lookup y.1 == some .cell || outer.lookup y.1 == some .free)) && fr.length == N.length &&
 (fr.zip N).all (fun p=>match p.1 with
  | none=>true
  | some j=>XN[j]? == some p.2 && names.lookup p.2 == some .free)
theorem bS.of {X:Cx}{scope:Scope}{N:List Str}{fr:List (Option Nat)} (hk:scope.kind = .function) (h:C4 X.env.scope.names X.N scope.names N fr=true):bS X scope N fr:=by
 unfold C4 at h
 simp only [aW7] at h
 obtain ⟨⟨⟨⟨h1,h2⟩,h3⟩,h4⟩,h5⟩:=h
 refine⟨hk,fun y hy e=>?_,fun y hy e=>?_,fun y hy e=>?_,by simpa using h4,fun i j e=>?_⟩
 ·have:=bd8.mp h1 y hy
  rw [e] at this; simpa using this
 ·have:=bd8.mp h2 y hy
  rw [e] at this; simpa using this
 ·have:=bd8.mp h3 y hy
  rw [e] at this; simpa using this
 ·have hl:fr.length=N.length:=by simpa using h4
  have hi:i < fr.length:=(aV3.mp e).1
  have m:(some j,N[i]'(by omega)) ∈ fr.zip N:=by
   have:(fr.zip N)[i]? = some (some j,N[i]'(by omega)):=by
    rw [List.getElem?_zip_eq_some]
    exact⟨e,by simp⟩
   exact aW8 this
  have:=bd8.mp h5 _ m
  simp only [aW7,beq_iff_eq] at this
  exact⟨N[i]'(by omega),by simp,this.1,this.2⟩
theorem wk0 {n:Option V}{r:St}{v:V}:Wk (none :: r) (some v :: r):=(Wk.refl (none :: r)).set (i:=0) rfl
def lG (H:Hp) (ys:List V) (ls:List (Int × Int)):Prop:=Paired (fun y l=>∃ b,y = .ref b/\H b=some (.tup [.int l.1,.int l.2])) ys ls
structure C5 (H:Hp) (v:V) (ws:List Int) (ls:List (Int × Int)):Prop where
 at_:∃ a p q ys,v = .ref a/\H a=some (.tup [.ref p,.ref q])/\H p=some (.tup (ws.map V.int))/\H q=some (.tup ys)/\lG H ys ls
theorem lG.get {H:Hp}:∀ {ys:List V}{ls:List (Int × Int)}{i:Nat}{y:V},lG H ys ls->ys[i]? = some y->∃ l b,ls[i]? = some l/\y = .ref b/\H b=some (.tup [.int l.1,.int l.2])
 | _,_,_,_,.nil,e=>by simp at e
 | _,_,0,_,.cons (b:=l) ⟨b,h1,h2⟩ _,e=>by simp at e; subst e; exact⟨l,b,rfl,h1,h2⟩
 | _,_,i+1,_,.cons _ t,e=>by
  obtain ⟨l,b,h1,h2⟩:=lG.get (i:=i) t (by simpa using e)
  exact⟨l,b,by simpa using h1,h2⟩
def cN (ls:List (Int × Int)) (k:Int):List Int:=ls.flatMap fun l=>(if l.1=k then [l.2] else []) ++ (if l.2=k then [l.1] else [])
theorem ao7 (ls:List (Int × Int)) (l:Int × Int) (k:Int):cN (ls ++ [l]) k=cN ls k ++ ((if l.1=k then [l.2] else []) ++ (if l.2=k then [l.1] else [])):=by
 unfold cN; rw [List.flatMap_append]; simp
theorem C6 {ls:List (Int × Int)}{i:Nat}{l:Int × Int} (h:ls[i]? = some l) (k:Int):cN (ls.take (i+1)) k=cN (ls.take i) k ++ ((if l.1=k then [l.2] else []) ++ (if l.2=k then [l.1] else [])):=by
 rw [aX7,h]; exact ao7 _ _ _
structure iY (H H':Hp) (r:Addr) (bs:List Addr) (f:Nat->List Int):Prop where
 new:H r=none
 news:∀ b ∈ bs,H b=none/\b ≠ r
 nd:bs.Nodup
 row:H' r=some (.lst (bs.map V.ref))
 rows:∀ (k:Nat) (b:Addr),bs[k]? = some b->H' b=some (.lst ((f k).map V.int))
 same:aD H H'
theorem iY.congr {H H':Hp}{r:Addr}{bs:List Addr}{f g:Nat->List Int} (h:iY H H' r bs f) (e:∀ k,k < bs.length->f k=g k):iY H H' r bs g:=
 ⟨h.new,h.news,h.nd,h.row,fun k b hb=>by rw [<- e k (aV3.mp hb).1]; exact h.rows k b hb,h.same⟩
theorem iY.app {H H':Hp}{r:Addr}{bs:List Addr}{f:Nat->List Int} (h:iY H H' r bs f) {k:Nat}{b:Addr} (hb:bs[k]? = some b) (x:Int) :
  iY H (upd H' b (.lst ((f k).map V.int ++ [V.int x]))) r bs (fun j=>if j=k then f j ++ [x] else f j):=by
 have hm:b ∈ bs:=aW8 hb
 refine⟨h.new,h.news,h.nd,by rw [aH (Ne.symm (h.news b hm).2)]; exact h.row,fun j c hc=>?_,fun c o e=>by rw [aH (cA e (h.news b hm).1)]; exact h.same c o e⟩
 by_cases hj:j=k
 ·subst hj
  rw [hb] at hc; cases hc
  rw [b8,if_pos rfl]; simp
 ·rw [if_neg hj]
  have ne:c ≠ b:=fun z=>by
   subst z
   obtain ⟨i1,e1⟩:=aV3.mp hb
   obtain ⟨i2,e2⟩:=aV3.mp hc
   refine hj (Nat.le_antisymm (Nat.le_of_not_lt fun z=>?_) (Nat.le_of_not_lt fun z=>?_))
   ·exact List.pairwise_iff_getElem.mp h.nd _ _ i1 i2 z (e1.trans e2.symm)
   ·exact List.pairwise_iff_getElem.mp h.nd _ _ i2 i1 z (e2.trans e1.symm)
  rw [aH ne]; exact h.rows j c hc
theorem pS (ls:List (Int × Int)) (k:Int):(cN ls k).length<=2 * ls.length:=by
 induction ls with
 | nil=>exact aV0 _
 | cons l r ih=>
  have e:cN (l :: r) k=((if l.1=k then [l.2] else []) ++ (if l.2=k then [l.1] else [])) ++ cN r k:=rfl
  rw [e,aU9,aU9,aY9]
  have h1:(if l.1=k then [l.2] else []).length<=1:=by split <;> simp
  have h2:(if l.2=k then [l.1] else []).length<=1:=by split <;> simp
  omega
theorem pT {α:Type}{xs:List α}{i:Int}{v:α} (h0:0<=i) (h:xs[i.toNat]? = some v):atI xs i=some v:=by
 have:=tG h
 rwa [show ((i.toNat:Nat):Int)=i by omega] at this
theorem iB {n:Nat} (h:n<=16000000):n < sizeLine:=by rw [sizeLine_eq]; omega
theorem pU {σ:St}{H:Hp}{A B:Hp->Prop} (h:A H):tY σ H fun b H4=>if b=true then A H4 else B H4:=by
 show if true=true then A H else B H
 rw [if_pos rfl]; exact h
theorem uC {K:PySem.W.Frag}{H:Hp}{p:Addr}{xs:List V} (h:aJ K H p xs):pA K "list" (.ref p) H:=.inl ⟨rfl,xs,h⟩
def nM (H:Hp) (y:V):Int × Int:=match B8 H y with
 | [a,b]=>(a,b)
 | _=>(0,0)
theorem pV {H:Hp}:∀ {zs:List V},(∀ y ∈ zs,∃ b,y = .ref b/\H b=some (.tup [.int (nM H y).1,.int (nM H y).2])/\B8 H y = [(nM H y).1,(nM H y).2])->lG H zs (zs.map (nM H))
 | [],_=>.nil
 | y :: zs,h=>by
  obtain ⟨b,e,hb,_⟩:=h y aV9
  exact .cons ⟨b,e,hb⟩ (pV fun z hz=>h z (aW6 _ hz))
end L2
namespace Zp
open PySem PyProof.Rows
section
variable {prog : Program} {w : World} {A : Around} {E : Value → Shared → Prop} {s : Shared}
theorem C7 {it t:Addr}{i:Nat}{items:Array Value}{x:Value}{Q:Value->Shared->Prop} (hi:s.heap.IsTupleIter it t i) (ht:s.heap.IsTuple t items) (hx:items[i]? = some x)
  (q:∀ h',h'.IsTupleIter it t (i+1)->Heap.SameBut it s.heap h'->Q x { s with heap:=h' }):wpAny (model prog w) A (Builtin.SmallTypes.nextOf (.ref it)) Q E s:=by
 have T:=hi.typeIs
 obtain ⟨o,e1,e2,e3⟩:=hi
 obtain ⟨u,f1,_,k,f3⟩:=ht
 have slot:=PySem.F.slot_tuple_iterator_next
 have isref:(Value.ref t == Value.none)=false:=rfl
 unfold Builtin.SmallTypes.nextOf
 apply aU6
 apply ba6 (name:=Str.ofString "__next__") T slot
 apply ba9 slot T PySem.F.entry_tuple_iterator_next _ (PySem.F.args_tuple_iterator_next_1 _)
 change wpAny _ _ (field (.ref it) 0 >>= _) _ _ s
 apply aU6
 refine ba5 e1 e3 (x:=.ref t) rfl ?_
 change wpAny _ _ (if (Value.ref t == Value.none)=true then _ else _) _ _ s
 simp only [isref,aX0,bb2]
 change wpAny _ _ (field (.ref it) 1 >>= _) _ _ s
 apply aU6
 refine ba5 e1 e3 (x:=.int i 0) rfl ?_
 change wpAny _ _ (seqItems? (.ref t) >>= _) _ _ s
 apply aU6
 apply bg6 f1 f3
 simp only [bd2,hx]
 apply aU6
 refine wpAny_setField e1 e3 (by simp) ?_
 apply aV4
 refine⟨x,rfl,aV4 (q _ ⟨_,Heap.get?_update_self _ e1 (Obj.isFreed_of_fields (Obj.data_mapFields e3 _)),?_,?_⟩ (Heap.SameBut.update ..))⟩
 ·rw [Obj.cls_mapFields]; exact e2
 ·rw [Obj.data_mapFields e3]; simp [rawInt]
theorem C8 {it t:Addr}{i:Nat}{items:Array Value}{Q:Value->Shared->Prop} (hh:A.handled=none) (hi:s.heap.IsTupleIter it t i) (ht:s.heap.IsTuple t items) (hx:items[i]? = none)
  (q:∀ h' e,Heap.ExtBut it s.heap h'->(∃ o,h'.get? e=some o/\o.cls = .type "StopIteration")->E (.ref e) { s with heap:=h' }):wpAny (model prog w) A (Builtin.SmallTypes.nextOf (.ref it)) Q E s:=by
 have T:=hi.typeIs
 obtain ⟨o,e1,e2,e3⟩:=hi
 obtain ⟨u,f1,_,k,f3⟩:=ht
 have slot:=PySem.F.slot_tuple_iterator_next
 have isref:(Value.ref t == Value.none)=false:=rfl
 unfold Builtin.SmallTypes.nextOf
 apply aU6
 apply ba6 (name:=Str.ofString "__next__") T slot
 apply ba9 slot T PySem.F.entry_tuple_iterator_next _ (PySem.F.args_tuple_iterator_next_1 _)
 change wpAny _ _ (field (.ref it) 0 >>= _) _ _ s
 apply aU6
 refine ba5 e1 e3 (x:=.ref t) rfl ?_
 change wpAny _ _ (if (Value.ref t == Value.none)=true then _ else _) _ _ s
 simp only [isref,aX0,bb2]
 change wpAny _ _ (field (.ref it) 1 >>= _) _ _ s
 apply aU6
 refine ba5 e1 e3 (x:=.int i 0) rfl ?_
 change wpAny _ _ (seqItems? (.ref t) >>= _) _ _ s
 apply aU6
 apply bg6 f1 f3
 simp only [bd2,hx]
 apply aU6
 apply wpAny_rule
 apply aU6
 refine wpAny_setField e1 e3 (by simp) ?_
 apply aU6
 simp only [newExc,newTuple]
 apply aU6
 refine bb7 ?_ (by size_fits)
 apply aU6
 refine wpAny_of_eq (a:=Value.none) (by first | rfl | (simp only [firstArgMember]; rfl)) ?_
 refine bb7 ?_ (by size_fits)
 unfold raiseNew
 apply aU6
 apply wpAny_handled
 have quiet:A.in1.handled=none:=hh
 rw [quiet]
 refine wpAny_throw ?_
 exact q _ _ (((Heap.SameBut.update ..).extBut.push _).push _) ⟨_,aV8 _ rfl,rfl⟩
theorem ao8 (hh:A.handled=none) (it t:Addr) (ne:t ≠ it) (items:Array Value):Draws prog w A it [it,t] items.size (fun i v=>items[i]? = some v) (fun i h=>h.IsTupleIter it t i/\h.IsTuple t items) where
 live:=fun _ _ st=>st.1.elim fun o y=>⟨o,y.1⟩
 frame:=fun _ _ _ st k=>⟨st.1.at fun o e=>k it aV9 o e,st.2.elim fun o y=>⟨o,k t (aW6 _ aV9) o y.1,y.2⟩⟩
 item:=fun i s Q E lt st q=>C7 st.1 st.2 (Array.getElem?_eq_getElem lt) fun h' again sb=>q _ h' s.toks (Array.getElem?_eq_getElem lt) ⟨again,st.2.elim fun o y=>⟨o,sb.extBut t o ne y.1,y.2⟩⟩ sb
 done:=fun s Q E st q=>C8 hh st.1 st.2 (Array.getElem?_eq_none (aV0 _)) q
end
structure Ap (z TI TO i1 i2:Addr) (fp1 fp2:List Addr):Prop where
 TIz:TI ≠ z
 TOz:TO ≠ z
 TITO:TI ≠ TO
 z1:z ∉ fp1
 z2:z ∉ fp2
 o1:TO ∉ fp1
 o2:TO ∉ fp2
 t1:TI ∉ fp1
 t2:TI ∉ fp2
 m1:i1 ∈ fp1
 m2:i2 ∈ fp2
 n1:i1 ∉ fp2
 n2:i2 ∉ fp1
structure uD (z TI TO i1 i2:Addr) (St1 St2:Nat->Heap->Prop) (f0:Value) (i j:Nat) (h:Heap):Prop where
 zz:IsZip h z TI TO f0
 ti:IsPair h TI (.ref i1) (.ref i2)
 to_:∃ a b,IsPair h TO a b
 s1:St1 i h
 s2:St2 j h
section
variable {prog : Program} {w : World} {A : Around} {E : Value → Shared → Prop} {s : Shared} {z TI TO i1 i2 : Addr} {fp1 fp2 : List Addr} {n1 n2 : Nat} {P1 P2 : Nat → Value → Prop} {St1 St2 : Nat → Heap → Prop}
theorem lH (ap:Ap z TI TO i1 i2 fp1 fp2) {b:Addr} (h:b ∉ fp1):b ≠ i1:=fun e=>h (e ▸ ap.m1)
theorem lI (ap:Ap z TI TO i1 i2 fp1 fp2) {b:Addr} (h:b ∉ fp2):b ≠ i2:=fun e=>h (e ▸ ap.m2)
theorem item (D1:Draws prog w A.in1 i1 fp1 n1 P1 St1) (D2:Draws prog w A.in1 i2 fp2 n2 P2 St2) (ap:Ap z TI TO i1 i2 fp1 fp2) {i:Nat} (l1:i < n1) (l2:i < n2) (st:uD z TI TO i1 i2 St1 St2 .none i i s.heap) {Q:Option Value->Shared->Prop}
  (q:∀ x y h' tk,P1 i x->P2 i y->uD z TI TO i1 i2 St1 St2 (rawInt s.heap.objs.size) (i+1) (i+1) h'->IsPair h' s.heap.objs.size x y->(∀ c o,c ≠ z->c ≠ TO->c ≠ i1->c ≠ i2->s.heap.get? c=some o->h'.get? c=some o)->
   h'.objs.size=s.heap.objs.size+1->Q (some (.ref s.heap.objs.size)) { s with heap:=h',toks:=tk }):wpAny (model prog w) A (pyNext (.ref z)) Q E s:=by
 obtain ⟨hz,hti,⟨a,b,hto⟩,h1,h2⟩:=st
 have T:s.TypeIs (.ref z) "zip":=⟨_,hz,rfl⟩
 have slot:=PySem.F.slot_zip_next
 unfold pyNext
 apply aU6
 apply wpAny_attempt
 apply ba6 (name:=Str.ofString "__next__") T slot
 apply ba9 slot T PySem.F.entry_zip_next _ (PySem.F.args_zip_next_1 _)
 change wpAny _ _ (field (.ref z) 2 >>= _) _ _ _
 apply aU6
 refine ba5 hz rfl (x:=.bool false) rfl ?_
 change wpAny _ _ (field (.ref z) 3 >>= _) _ _ _
 apply aU6
 refine ba5 hz rfl (x:=.ref TI) rfl ?_
 apply aU6
 apply bg6 hti rfl
 change wpAny _ _ (Builtin.SmallTypes.ownedTupleIsFree (.ref z) >>= _) _ _ _
 apply aU6
 unfold Builtin.SmallTypes.ownedTupleIsFree
 apply aU6
 refine ba5 hz rfl (x:=.none) rfl (aV4 ?_)
 simp only [if_true]
 apply aU6
 apply wpAny_rule
 apply aU6
 refine ba5 hz rfl (x:=.ref TO) rfl ?_
 apply aU6
 refine bb5 hz (by simp) fun g1 hz1 sb1=>?_
 have k1:∀ c o,c ≠ z->s.heap.get? c=some o->g1.get? c=some o:=fun c o c1 e=>sb1.extBut c o c1 e
 apply aU6
 simp only [List.zipIdx_cons,List.zipIdx_nil,List.forIn_cons,List.forIn_nil]
 apply aU6
 apply aU6
 apply wpAny_onRaise
 change wpAny _ _ (Builtin.SmallTypes.nextOf (.ref i1) >>= _) _ _ _
 apply aU6
 refine D1.item i { s with heap:=g1 } _ _ l1 (D1.frame _ _ _ h1 fun c hc o e=>k1 c o (fun y=>ap.z1 (y ▸ hc)) e) fun x g2 tk2 px st1 sb2=>aV4 ?_
 have k2:∀ c o,c ≠ z->c ≠ i1->s.heap.get? c=some o->g2.get? c=some o:=fun c o c1 c2 e=>sb2.extBut c o c2 (k1 c o c1 e)
 have to2:IsPair g2 TO a b:=k2 _ _ ap.TOz (lH ap ap.o1) hto
 apply aU6
 apply bg6 to2 rfl
 apply aU6
 refine wpAny_updateSeq_pair to2 fun g3 to3 sb3=>?_
 have to3:IsPair g3 TO x b:=to3
 apply aU6
 apply wpAny_letGo
 apply aV4
 apply aU6
 apply aU6
 apply wpAny_onRaise
 change wpAny _ _ (Builtin.SmallTypes.nextOf (.ref i2) >>= _) _ _ _
 apply aU6
 have k3:∀ c o,c ≠ z->c ≠ i1->c ≠ TO->s.heap.get? c=some o->g3.get? c=some o:=fun c o c1 c2 c3 e=>sb3.extBut c o c3 (k2 c o c1 c2 e)
 refine D2.item i { s with heap:=g3,toks:=tk2 } _ _ l2 (D2.frame _ _ _ h2 fun c hc o e=>k3 c o (fun y=>ap.z2 (y ▸ hc)) (fun y=>ap.n1 (y ▸ hc)) (fun y=>ap.o2 (y ▸ hc)) e) fun y g4 tk4 py st2 sb4=>aV4 ?_
 have to4:IsPair g4 TO x b:=sb4.extBut _ _ (lI ap ap.o2) to3
 apply aU6
 apply bg6 to4 rfl
 apply aU6
 refine wpAny_updateSeq_pair to4 fun g5 to5 sb5=>?_
 have to5:IsPair g5 TO x y:=to5
 apply aU6
 apply wpAny_letGo
 apply aV4
 apply aV4
 apply aU6
 apply bg6 to5 rfl
 apply aU6
 refine wpAny_newTuple ?_ (by show 2<=sizeLine; decide)
 have size:g5.objs.size=s.heap.objs.size:=by rw [sb5.1,sb4.1,sb3.1,sb2.1,sb1.1]
 have k5:∀ c o,c ≠ z->c ≠ TO->c ≠ i1->c ≠ i2->s.heap.get? c=some o->g5.get? c=some o:=fun c o c1 c2 c3 c4 e=>sb5.extBut c o c2 (sb4.extBut c o c4 (k3 c o c1 c3 c2 e))
 have z5:IsZip g5 z TI TO .ellipsis:=sb5.extBut _ _ (Ne.symm ap.TOz) (sb4.extBut _ _ (lI ap ap.z2) (sb3.extBut _ _ (Ne.symm ap.TOz) (sb2.extBut _ _ (lH ap ap.z1) hz1)))
 change wpAny _ _ (Builtin.SmallTypes.ownedTupleHandOut (.ref z) (.ref g5.objs.size) >>= _) _ _ _
 apply aU6
 unfold Builtin.SmallTypes.ownedTupleHandOut
 apply aU6
 have z6:IsZip (g5.push { cls:=.type "tuple",data:=.seq #[x,y] }) z TI TO .ellipsis:=aU7 _ z5
 refine bb5 z6 (by simp) fun g7 z7 sb7=>?_
 have z7:IsZip g7 z TI TO (rawInt g5.objs.size):=z7
 refine bb5 z7 (by simp) fun g8 z8 sb8=>?_
 have z8:IsZip g8 z TI TO (rawInt g5.objs.size):=z8
 have zlt:z < g5.objs.size:=aW0 z5
 have up:∀ c o,c ≠ z->g5.get? c=some o->g8.get? c=some o:=fun c o c1 e=>sb8.extBut c o c1 (sb7.extBut c o c1 (aU7 _ e))
 have p8:IsPair g8 g5.objs.size x y:=sb8.extBut _ _ (bc2 zlt) (sb7.extBut _ _ (bc2 zlt) (aV8 _ rfl))
 have s8:g8.objs.size=g5.objs.size+1:=by rw [sb8.1,sb7.1,be2]
 have f1:St1 (i+1) g8:=D1.frame _ _ _ st1 fun c hc o e=>up c o (fun y=>ap.z1 (y ▸ hc)) (sb5.extBut c o (fun y=>ap.o1 (y ▸ hc)) (sb4.extBut c o (fun y=>ap.n2 (y ▸ hc)) (sb3.extBut c o (fun y=>ap.o1 (y ▸ hc)) e)))
 have f2:St2 (i+1) g8:=D2.frame _ _ _ st2 fun c hc o e=>up c o (fun y=>ap.z2 (y ▸ hc)) (sb5.extBut c o (fun y=>ap.o2 (y ▸ hc)) e)
 have ti8:IsPair g8 TI (.ref i1) (.ref i2):=up _ _ ap.TIz (k5 _ _ ap.TIz ap.TITO (lH ap ap.t1) (lI ap ap.t2) hti)
 rw [size] at z8 p8 s8
 apply aV4
 refine⟨_,rfl,aV4 ?_⟩
 change Q (some (.ref g5.objs.size)) _
 rw [size]
 exact q x y g8 tk4 px py ⟨z8,ti8,⟨x,y,up _ _ ap.TOz to5⟩,f1,f2⟩ p8 (fun c o c1 c2 c3 c4 e=>up c o c1 (k5 c o c1 c2 c3 c4 e)) s8
theorem fin (D1:Draws prog w A.in1 i1 fp1 n1 P1 St1) (D2:Draws prog w A.in1 i2 fp2 n2 P2 St2) (ap:Ap z TI TO i1 i2 fp1 fp2) {i:Nat} (le:i=n1 ∨ (i < n1/\i=n2)) (st:uD z TI TO i1 i2 St1 St2 .none i i s.heap) {Q:Option Value->Shared->Prop}
  (q:∀ h' tk,(∀ c o,c ≠ z->c ≠ TO->c ≠ i1->c ≠ i2->s.heap.get? c=some o->h'.get? c=some o)->Q none { s with heap:=h',toks:=tk }):wpAny (model prog w) A (pyNext (.ref z)) Q E s:=by
 obtain ⟨hz,hti,⟨a,b,hto⟩,h1,h2⟩:=st
 have T:s.TypeIs (.ref z) "zip":=⟨_,hz,rfl⟩
 have slot:=PySem.F.slot_zip_next
 unfold pyNext
 apply aU6
 apply wpAny_attempt
 apply ba6 (name:=Str.ofString "__next__") T slot
 apply ba9 slot T PySem.F.entry_zip_next _ (PySem.F.args_zip_next_1 _)
 change wpAny _ _ (field (.ref z) 2 >>= _) _ _ _
 apply aU6
 refine ba5 hz rfl (x:=.bool false) rfl ?_
 change wpAny _ _ (field (.ref z) 3 >>= _) _ _ _
 apply aU6
 refine ba5 hz rfl (x:=.ref TI) rfl ?_
 apply aU6
 apply bg6 hti rfl
 change wpAny _ _ (Builtin.SmallTypes.ownedTupleIsFree (.ref z) >>= _) _ _ _
 apply aU6
 unfold Builtin.SmallTypes.ownedTupleIsFree
 apply aU6
 refine ba5 hz rfl (x:=.none) rfl (aV4 ?_)
 simp only [if_true]
 apply aU6
 apply wpAny_rule
 apply aU6
 refine ba5 hz rfl (x:=.ref TO) rfl ?_
 apply aU6
 refine bb5 hz (by simp) fun g1 hz1 sb1=>?_
 have k1:∀ c o,c ≠ z->s.heap.get? c=some o->g1.get? c=some o:=fun c o c1 e=>sb1.extBut c o c1 e
 apply aU6
 simp only [List.zipIdx_cons,List.zipIdx_nil,List.forIn_cons,List.forIn_nil]
 apply aU6
 apply aU6
 apply wpAny_onRaise
 change wpAny _ _ (Builtin.SmallTypes.nextOf (.ref i1) >>= _) _ _ _
 apply aU6
 have z1:IsZip g1 z TI TO .ellipsis:=hz1
 rcases le with rfl | ⟨lt,rfl⟩
 ·refine D1.done { s with heap:=g1 } _ _ (D1.frame _ _ _ h1 fun c hc o e=>k1 c o (fun y=>ap.z1 (y ▸ hc)) e) fun g2 e eb ex=>?_
  have z2:IsZip g2 z TI TO .ellipsis:=eb _ _ (lH ap ap.z1) z1
  refine bb5 z2 (by simp) fun g3 z3 sb3=>?_
  obtain ⟨oe,eo,co⟩:=ex
  have ne:e ≠ z:=fun y=>by
   rw [y,z2] at eo
   have:=aX6 eo
   rw [<- this] at co; exact absurd (show Value.type "zip" = Value.type "StopIteration" from co) (by decide)
  apply aU6
  refine wpAny_isInstance (T:="StopIteration") (b:=true) ⟨oe,sb3.extBut _ _ ne eo,co⟩ isSubtype_stop ?_
  exact aV4 (q g3 s.toks fun c o c1 _ c3 _ e=>sb3.extBut c o c1 (eb c o c3 (k1 c o c1 e)))
 ·refine D1.item i { s with heap:=g1 } _ _ lt (D1.frame _ _ _ h1 fun c hc o e=>k1 c o (fun y=>ap.z1 (y ▸ hc)) e) fun x g2 tk2 px st1 sb2=>aV4 ?_
  have k2:∀ c o,c ≠ z->c ≠ i1->s.heap.get? c=some o->g2.get? c=some o:=fun c o c1 c2 e=>sb2.extBut c o c2 (k1 c o c1 e)
  have to2:IsPair g2 TO a b:=k2 _ _ ap.TOz (lH ap ap.o1) hto
  apply aU6
  apply bg6 to2 rfl
  apply aU6
  refine wpAny_updateSeq_pair to2 fun g3 to3 sb3=>?_
  apply aU6
  apply wpAny_letGo
  apply aV4
  apply aU6
  apply aU6
  apply wpAny_onRaise
  change wpAny _ _ (Builtin.SmallTypes.nextOf (.ref i2) >>= _) _ _ _
  apply aU6
  have k3:∀ c o,c ≠ z->c ≠ i1->c ≠ TO->s.heap.get? c=some o->g3.get? c=some o:=fun c o c1 c2 c3 e=>sb3.extBut c o c3 (k2 c o c1 c2 e)
  refine D2.done { s with heap:=g3,toks:=tk2 } _ _ (D2.frame _ _ _ h2 fun c hc o e=>k3 c o (fun y=>ap.z2 (y ▸ hc)) (fun y=>ap.n1 (y ▸ hc)) (fun y=>ap.o2 (y ▸ hc)) e) fun g4 e eb ex=>?_
  have z4:IsZip g4 z TI TO .ellipsis:=eb _ _ (lI ap ap.z2) (sb3.extBut _ _ (Ne.symm ap.TOz) (sb2.extBut _ _ (lH ap ap.z1) z1))
  refine bb5 z4 (by simp) fun g5 z5 sb5=>?_
  obtain ⟨oe,eo,co⟩:=ex
  have ne:e ≠ z:=fun y=>by
   rw [y,z4] at eo
   have:=aX6 eo
   rw [<- this] at co; exact absurd (show Value.type "zip" = Value.type "StopIteration" from co) (by decide)
  apply aU6
  refine wpAny_isInstance (T:="StopIteration") (b:=true) ⟨oe,sb5.extBut _ _ ne eo,co⟩ isSubtype_stop ?_
  exact aV4 (q g5 tk2 fun c o c1 c2 c3 c4 e=>sb5.extBut c o c1 (eb c o c4 (k3 c o c1 c3 c2 e)))
end
def fP (h:Heap) (t u:Addr):Heap:=
 ((((h.push { cls:=.type "tuple_iterator",data:=.fields #[.ref t,.int 0 0] }).push { cls:=.type "tuple_iterator",data:=.fields #[.ref u,.int 0 0] }).push { cls:=.type "tuple",data:=.seq #[.ref h.objs.size,.ref (h.objs.size+1)] }).push
  { cls:=.type "tuple",data:=.seq #[.none,.none] }).push { cls:=.type "zip",data:=.fields #[.none,.bool false,.bool false,.ref (h.objs.size+2),.ref (h.objs.size+3)] }
theorem ao9 (t u:Addr) (xs ys:Array Value):Meets (Builtin.«zip.__new__» ⟨[.type "zip",.ref t,.ref u],[]⟩) (fun _ R s=>s.heap.IsTuple t xs/\s.heap.IsTuple u ys/\R (.ok (.ret (.ref (s.heap.objs.size+4)))) { s with heap:=fP s.heap t u }):=
 .of_wp fun prog w A R s h=>by
  obtain ⟨hp,g,d,tk,os⟩:=s
  obtain ⟨ht,hu,h⟩:=h
  have sub:=sub_zip
  have a1:Heap.IsTuple (Shared.heap ⟨hp,g,d,tk,os⟩) t xs:=ht
  have a2:Heap.IsTuple (Shared.heap ⟨hp.push { cls:=.type "tuple_iterator",data:=.fields #[.ref t,.int 0 0] },g,d,tk,os⟩) u ys:=hu.elim fun o y=>⟨o,aU7 _ y.1,y.2⟩
  wp_walk using be7 a1,be7 a2
  have e:∀ (o:Obj) (k:Heap),(k.push o).objs.size=k.objs.size+1:=fun o k=>be2 ..
  refine⟨_,rfl,?_⟩
  simp only [fP,e] at h ⊢
  exact h
section
variable {prog : Program} {w : World} {A : Around} {E : Value → Shared → Prop} {s : Shared}
theorem ap0 {t u:Addr}{xs ys:Array Value}{Q:Value->Shared->Prop} (ht:s.heap.IsTuple t xs) (hu:s.heap.IsTuple u ys)
  (q:∀ h',IsZip h' (s.heap.objs.size+4) (s.heap.objs.size+2) (s.heap.objs.size+3) .none->IsPair h' (s.heap.objs.size+2) (.ref s.heap.objs.size) (.ref (s.heap.objs.size+1))->
   IsPair h' (s.heap.objs.size+3) .none .none->h'.IsTupleIter s.heap.objs.size t 0->h'.IsTupleIter (s.heap.objs.size+1) u 0->(∀ c o,s.heap.get? c=some o->h'.get? c=some o)->Q (.ref (s.heap.objs.size+4)) { s with heap:=h' }) :
  wpAny (model prog w) A (call (.type "zip") [.ref t,.ref u]) Q E s:=by
 refine callType_new PySem.F.called_zip (by decide) (PySem.F.typeCall_zip_2 _ _) (PySem.F.newCall_zip_2 _ _) (fun obj=>PySem.F.args_object_init_3 obj _ _) PySem.F.entry_zip_new (ao9 t u xs ys) ⟨ht,hu,?_⟩
 have e:∀ (o:Obj) (k:Heap),(k.push o).objs.size=k.objs.size+1:=fun o k=>be2 ..
 have p0:∀ (k:Heap) (o:Obj) (m:Nat),o.isFreed=false->m=k.objs.size->(k.push o).get? m=some o:=fun k o m f z=>by rw [z]; exact aV8 _ f
 have g0:(fP s.heap t u).get? s.heap.objs.size=some { cls:=.type "tuple_iterator",data:=.fields #[.ref t,.int 0 0] }:=by
  unfold fP
  exact aU7 _ (aU7 _ (aU7 _ (aU7 _ (p0 _ _ _ rfl rfl))))
 have g1:(fP s.heap t u).get? (s.heap.objs.size+1)=some { cls:=.type "tuple_iterator",data:=.fields #[.ref u,.int 0 0] }:=by
  unfold fP
  exact aU7 _ (aU7 _ (aU7 _ (p0 _ _ _ rfl (by simp only [e]))))
 have g2:(fP s.heap t u).get? (s.heap.objs.size+2)=some { cls:=.type "tuple",data:=.seq #[.ref s.heap.objs.size,.ref (s.heap.objs.size+1)] }:=by
  unfold fP
  exact aU7 _ (aU7 _ (p0 _ _ _ rfl (by simp only [e])))
 have g3:(fP s.heap t u).get? (s.heap.objs.size+3)=some { cls:=.type "tuple",data:=.seq #[.none,.none] }:=by
  unfold fP
  exact aU7 _ (p0 _ _ _ rfl (by simp only [e]))
 have g4:(fP s.heap t u).get? (s.heap.objs.size+4)=some { cls:=.type "zip",data:=.fields #[.none,.bool false,.bool false,.ref (s.heap.objs.size+2),.ref (s.heap.objs.size+3)] }:=by
  unfold fP
  exact p0 _ _ _ rfl (by simp only [e])
 refine⟨⟨_,g4,rfl⟩,q _ g4 g2 g3 ⟨_,g0,rfl,rfl⟩ ⟨_,g1,rfl,rfl⟩ fun c o z=>?_⟩
 unfold fP
 exact aU7 _ (aU7 _ (aU7 _ (aU7 _ (aU7 _ z))))
end
end Zp
namespace L2
open PySem PySem.Spec PyProof.Rows
def uE (K:PySem.W.Frag) (a b:Addr):It:=
  ⟨fun i H=>∃ xs ys x y,aG K H a xs/\aG K H b ys/\xs[i]? = some x/\ys[i]? = some y,
   fun i H v H'=>∃ T x y,H T=none/\v = .ref T/\H'=upd H T (.tup [x,y])/\∀ xs ys,aG K H a xs->aG K H b ys->xs[i]? = some x/\ys[i]? = some y,
   fun i H=>∃ xs ys,aG K H a xs/\aG K H b ys/\(i=xs.length ∨ (i < xs.length/\i=ys.length))⟩
def Sq (t:Bool) (K:PySem.W.Frag) (H:Hp) (a:Addr) (xs:List V):Prop:=match t with
 | true=>aG K H a xs
 | false=>aJ K H a xs
def fQ (t:Bool) (h:Heap) (i a:Addr) (n:Nat):Prop:=match t with
 | true=>h.IsTupleIter i a n
 | false=>h.IsListIter i a n
def C9 (t:Bool) (h:Heap) (a:Addr) (xs:Array Value):Prop:=match t with
 | true=>h.IsTuple a xs
 | false=>h.IsList a xs
theorem fQ.at {h h':Heap}{i a:Addr}{n:Nat}:∀ {t:Bool},fQ t h i a n->(∀ o,h.get? i=some o->h'.get? i=some o)->fQ t h' i a n
 | true,x,k=>Heap.IsTupleIter.at x k
 | false,x,k=>Heap.IsListIter.at x k
theorem fQ.ob {h:Heap}{i a:Addr}{n:Nat}:∀ {t:Bool},fQ t h i a n->∃ o,h.get? i=some o/\∀ v,o.data ≠ .cell v
 | true,⟨o,f,_,d⟩=>⟨o,f,fun v q=>by rw [d] at q; cases q⟩
 | false,⟨o,f,_,d⟩=>⟨o,f,fun v q=>by rw [d] at q; cases q⟩
theorem fQ.draws {prog:Program}{w:World}{A:Around}:∀ (t:Bool) (hh:A.handled=none) (it a:Addr) (ne:a ≠ it) (items:Array Value),Draws prog w A it [it,a] items.size (fun i v=>items[i]? = some v) (fun i h=>fQ t h it a i/\C9 t h a items)
 | true,hh,it,a,ne,items=>Zp.ao8 hh it a ne items
 | false,hh,it,a,ne,items=>Draws.list hh it a ne items
section
variable {X : Cx} {pins : List (Addr × Obj)} {σ : St} {H : Hp} {s : Shared} {a : Addr} {xs ys : List V}
theorem Sq.get (I:a7 X pins σ H s):∀ {t:Bool},Sq t X.K H a xs->∃ us,aN xs us/\C9 t s.heap a us.toArray
 | true,h=>by obtain ⟨us,r,p,_⟩:=I.tuple h; exact⟨us,r,p⟩
 | false,h=>by obtain ⟨us,r,p,_⟩:=I.list h; exact⟨us,r,p.isList⟩
theorem Sq.inj (I:a7 X pins σ H s):∀ {t:Bool},Sq t X.K H a xs->Sq t X.K H a ys->xs=ys
 | true,h,g=>I.tuple_inj h g
 | false,h,g=>I.list_inj h g
theorem Sq.off (I:a7 X pins σ H s) (he:H a=none) (hb:X.base.get? a=none):∀ {t:Bool},Sq t X.K H a xs->False
 | true,h=>by
  rcases h with (h | ⟨_,h⟩) | ⟨o,_,_,h,_⟩
  ·rw [he] at h; cases h
  ·rw [he] at h; cases h
  ·have:=I.ok.mod.kin a o h
   rw [hb] at this; cases this
 | false,h=>by
  rcases h with (h | ⟨_,h⟩) | ⟨o,_,_,h,_⟩
  ·rw [he] at h; cases h
  ·rw [he] at h; cases h
  ·have:=I.ok.mod.kin a o h
   rw [hb] at this; cases this
end
def ap1 (t1 t2:Bool) (K:PySem.W.Frag) (a b:Addr):It:=
  ⟨fun i H=>∃ xs ys x y,Sq t1 K H a xs/\Sq t2 K H b ys/\xs[i]? = some x/\ys[i]? = some y,
   fun i H v H'=>∃ T x y,H T=none/\v = .ref T/\H'=upd H T (.tup [x,y])/\∀ xs ys,Sq t1 K H a xs->Sq t2 K H b ys->xs[i]? = some x/\ys[i]? = some y,
   fun i H=>∃ xs ys,Sq t1 K H a xs/\Sq t2 K H b ys/\(i=xs.length ∨ (i < xs.length/\i=ys.length))⟩
structure uF (t1 t2:Bool) (z TI TO i1 i2 a b:Addr) (i:Nat) (h:Heap):Prop where
 zz:IsZip h z TI TO .none
 ti:IsPair h TI (.ref i1) (.ref i2)
 to_:∃ x y,IsPair h TO x y
 s1:fQ t1 h i1 a i
 s2:fQ t2 h i2 b i
theorem E1 (t1 t2:Bool) {P:Program}{w:World}{K:PySem.W.Frag}{elts:List Expr}{k:Nat}{pos:Pos} (a b z TI TO i1 i2:Addr) (d : [z,TI,TO,i1,i2].Nodup) :
  gD P w K (.Tuple elts k pos) (ap1 t1 t2 K a b) [z,TI,TO,i1,i2] z (uF t1 t2 z TI TO i1 i2 a b):=by
 have nd:z ≠ TI/\z ≠ TO/\z ≠ i1/\z ≠ i2/\TI ≠ TO/\TI ≠ i1/\TI ≠ i2/\TO ≠ i1/\TO ≠ i2/\i1 ≠ i2:=by
  simp only [List.nodup_cons,aV5,aW3,aZ5,not_or] at d
  obtain ⟨⟨a1,a2,a3,a4⟩,⟨b1,b2,b3⟩,⟨c1,c2⟩,e1,_⟩:=d
  exact⟨a1,a2,a3,a4,b1,b2,b3,c1,c2,e1⟩
 obtain ⟨n1,n2,n3,n4,n5,n6,n7,n8,n9,n10⟩:=nd
 have offBase:∀ {X:Cx}{pins:List (Addr × Obj)}{σ:St}{H:Hp}{s:Shared},a7 X pins σ H s->(∀ c ∈ [z,TI,TO,i1,i2],g9 X pins H c)->∀ c ∈ [z,TI,TO,i1,i2],X.base.get? c=none:=by
  intro X pins σ H s I hf c hc
  cases q:X.base.get? c with
  | none=>rfl
  | some o=>
   rcases (hf c hc).2.2.2.1 with h | h
   ·exact absurd h (I.ok.noex c o q)
   ·exact absurd (aW2 (aW0 q) (aY8 I.ok.bsz h)) (aZ9 _)
 have off:∀ {t:Bool}{X:Cx}{pins:List (Addr × Obj)}{σ:St}{H:Hp}{s:Shared}{c:Addr}{zs:List V},a7 X pins σ H s->(∀ c ∈ [z,TI,TO,i1,i2],g9 X pins H c)->Sq t X.K H c zs->c ∉ [z,TI,TO,i1,i2]:=by
  intro t X pins σ H s c zs I hf hc hm
  exact Sq.off I (hf c hm).1 (offBase I hf c hm) hc
 have ap:∀ {c e:Addr},c ∉ [z,TI,TO,i1,i2]->e ∉ [z,TI,TO,i1,i2]->Zp.Ap z TI TO i1 i2 [i1,c] [i2,e]:=fun {c e} hc he=>by
  simp only [aV5,aW3,aZ5,not_or] at hc he
  obtain ⟨c1,c2,c3,c4,c5⟩:=hc
  obtain ⟨e1,e2,e3,e4,e5⟩:=he
  have two:∀ {q u v:Addr},q ≠ u->q ≠ v->q ∉ [u,v]:=fun {q u v} h1 h2 hm=>by
   simp only [aV5,aW3,aZ5] at hm
   exact hm.elim h1 h2
  exact⟨n1.symm,n2.symm,n5,two n3 (Ne.symm c1),two n4 (Ne.symm e1),two n8 (Ne.symm c3),two n9 (Ne.symm e3),two n6 (Ne.symm c2),two n7 (Ne.symm e2),aV9,aV9,two n10 (Ne.symm e4),two n10.symm (Ne.symm c5)⟩
 refine⟨by simp,fun i h st c hc=>?_,fun i h h' st kp=>?_,?_,?_,fun A i s Q E st q=>wpAny_pyIter_zip st.zz q⟩
 ·simp only [aV5,aW3,aZ5] at hc
  obtain ⟨x,y,to⟩:=st.to_
  rcases hc with rfl | rfl | rfl | rfl | rfl
  ·exact⟨_,st.zz,fun v q=>by cases q⟩
  ·exact⟨_,st.ti,fun v q=>by cases q⟩
  ·exact⟨_,to,fun v q=>by cases q⟩
  ·exact st.s1.ob
  ·exact st.s2.ob
 ·obtain ⟨x,y,to⟩:=st.to_
  exact⟨kp z (by simp) _ st.zz,kp TI (by simp) _ st.ti,⟨x,y,kp TO (by simp) _ to⟩,st.s1.at fun o e=>kp i1 (by simp) o e,st.s2.at fun o e=>kp i2 (by simp) o e⟩
 ·
  intro X hP hw hK hc i pins s σ H E I hf st hg
  subst hP hw hK
  obtain ⟨xs,ys,x,y,ha,hb,hx,hy⟩:=hg
  obtain ⟨us,ru,pu⟩:=Sq.get I ha
  obtain ⟨vs,rv,pv'⟩:=Sq.get I hb
  obtain ⟨ux,eux,rux⟩:=ru.get hx
  obtain ⟨vy,evy,rvy⟩:=rv.get hy
  have fa:=off I hf ha
  have fb:=off I hf hb
  have hh:X.A.in1.handled=none:=I.ok.hd hc
  have l1:i < us.toArray.size:=by simpa using (aV3.mp eux).1
  have l2:i < vs.toArray.size:=by simpa using (aV3.mp evy).1
  have fa':a ≠ i1:=fun q=>fa (by rw [q]; simp)
  have fb':b ≠ i2:=fun q=>fb (by rw [q]; simp)
  have D1:=fQ.draws t1 (prog:=X.prog) (w:=X.w) hh i1 a fa' us.toArray
  have D2:=fQ.draws t2 (prog:=X.prog) (w:=X.w) hh i2 b fb' vs.toArray
  refine Zp.item D1 D2 (ap fa fb) l1 l2 ⟨st.zz,st.ti,st.to_,⟨st.s1,pu⟩,⟨st.s2,pv'⟩⟩ fun p q h' tk hp hq st' pr kp sz=>⟨_,rfl,?_⟩
  obtain rfl:p=ux:=by
   have:us.toArray[i]? = some ux:=by simpa using eux
   rw [this] at hp; exact (aX6 hp).symm
  obtain rfl:q=vy:=by
   have:vs.toArray[i]? = some vy:=by simpa using evy
   rw [this] at hq; exact (aX6 hq).symm
  refine wpAny_letOwnedTupleGo_zip (s:={ s with heap:=h',toks:=tk }) st'.zz fun g zz sb=>?_
  have hzl:z < s.heap.objs.size:=aW0 st.zz
  have up:∀ c o,c ≠ z->c ≠ TO->c ≠ i1->c ≠ i2->s.heap.get? c=some o->g.get? c=some o:=fun c o c1 c2 c3 c4 e=>sb.extBut c o c1 (kp c o c1 c2 c3 c4 e)
  have hT:H s.heap.objs.size=none:=I.hok.fresh (aV0 _)
  have prG:IsPair g s.heap.objs.size p q:=sb.extBut _ _ (bc2 hzl) pr
  have fpn:∀ c u,H c=some u->c ∉ [z,TI,TO,i1,i2]:=fun c u e hm=>by rw [(hf c hm).1] at e; cases e
  have upH:∀ c o u,H c=some u->s.heap.get? c=some o->g.get? c=some o:=fun c o u e z=>by
   have:=fpn c u e
   simp only [aV5,aW3,aZ5,not_or] at this
   exact up c o this.1 this.2.2.1 this.2.2.2.1 this.2.2.2.2 z
  have ns:∀ m,s.heap.Ns X.env.locals m->g.Ns X.env.locals m:=fun m hm=>by
   obtain ⟨o,es,ep,e1,e2⟩:=hm
   exact⟨o,es,ep,up _ o (Ne.symm (hf z (by simp)).2.1) (Ne.symm (hf TO (by simp)).2.1) (Ne.symm (hf i1 (by simp)).2.1) (Ne.symm (hf i2 (by simp)).2.1) e1,e2⟩
  have I2:a7 X pins σ (upd H s.heap.objs.size (.tup [x,y])) { s with heap:=g,toks:=tk }:=by
   refine I.step (g':=s.gens) (d':=s.drawn) (ch:=[z,TO,i1,i2]) (fun c hc'=>?_) (fun c o _ _ hc' e _=>?_) (fun c o _ _ hc' e _=>⟨o.slots,?_⟩) (fun c o _ e n=>?_) (fun c o hc' e=>⟨o,?_⟩)
    (fun c zs e=>by rw [aH (cA e hT)]; exact e) (fun c u zs e=>by rw [aH (cA e hT)]; exact e) (fun c ps e=>⟨#[],by rw [aH (cA e hT),e]; simp⟩) ns (fun c u e=>?_) I.bare
   ·have hm:c ∈ [z,TI,TO,i1,i2]:=by
     simp only [aV5,aW3,aZ5] at hc' ⊢
     rcases hc' with h | h | h | h <;> simp [h]
    exact⟨(hf c hm).2.2.2.1,(hf c hm).2.1,(hf c hm).2.2.2.2.1,(hf c hm).2.2.2.2.2⟩
   ·simp only [aV5,aW3,aZ5,not_or] at hc'
    exact up c o hc'.1 hc'.2.1 hc'.2.2.1 hc'.2.2.2 e
   ·simp only [aV5,aW3,aZ5,not_or] at hc'
    exact up c o hc'.1 hc'.2.1 hc'.2.2.1 hc'.2.2.2 e
   ·rw [aH (aY5 (aW0 e))]; exact n
   ·simp only [aV5,aW3,aZ5,not_or] at hc'
    exact up c o hc'.1 hc'.2.1 hc'.2.2.1 hc'.2.2.2 e
   ·by_cases hcT:c=s.heap.objs.size
    ·subst hcT
     rw [b8] at e; cases e
     exact⟨by show 2<=sizeLine; decide,[p,q],.cons rux (.cons rvy .nil),⟨_,prG,rfl,_,rfl⟩⟩
    ·rw [aH hcT] at e
     refine (I.hok c u e).stay (fun c' o' hc2 q'=>?_) (fun c' q'=>by rw [aH (cA q' hT)]; exact q') fun c' zs q'=>by rw [aH (cA q' hT)]; exact q'
     rcases hc2 with rfl | hc2
     ·exact upH _ _ _ e q'
     ·exact upH _ _ _ hc2 q'
  obtain ⟨x',y',to'⟩:=st'.to_
  refine⟨.ref s.heap.objs.size,_,I2,rfl,⟨_,x,y,hT,rfl,rfl,fun xs' ys' ha' hb'=>?_⟩,⟨zz,sb.extBut _ _ n1.symm st'.ti,⟨x',y',sb.extBut _ _ n2.symm to'⟩,st'.s1.1.at fun o e=>sb.extBut _ o n3.symm e,st'.s2.1.at fun o e=>sb.extBut _ o n4.symm e⟩,fun c hc'=>?_⟩
  ·rw [Sq.inj I ha' ha,Sq.inj I hb' hb]; exact⟨hx,hy⟩
  ·obtain ⟨o,e,_⟩:∃ o,s.heap.get? c=some o/\True:=by
    simp only [aV5,aW3,aZ5] at hc'
    obtain ⟨x2,y2,to2⟩:=st.to_
    obtain ⟨o1,f1,_⟩:=st.s1.ob
    obtain ⟨o2,f2,_⟩:=st.s2.ob
    rcases hc' with rfl | rfl | rfl | rfl | rfl
    ·exact⟨_,st.zz,trivial⟩
    ·exact⟨_,st.ti,trivial⟩
    ·exact⟨_,to2,trivial⟩
    ·exact⟨_,f1,trivial⟩
    ·exact⟨_,f2,trivial⟩
   rw [aH (aY5 (aW0 e))]; exact (hf c hc').1
 ·
  intro X hP hw hK hc i pins s σ H E I hf st hg
  subst hP hw hK
  obtain ⟨xs,ys,ha,hb,hi⟩:=hg
  obtain ⟨us,ru,pu⟩:=Sq.get I ha
  obtain ⟨vs,rv,pv'⟩:=Sq.get I hb
  have fa:=off I hf ha
  have fb:=off I hf hb
  have hh:X.A.in1.handled=none:=I.ok.hd hc
  have fa':a ≠ i1:=fun q=>fa (by rw [q]; simp)
  have fb':b ≠ i2:=fun q=>fb (by rw [q]; simp)
  have D1:=fQ.draws t1 (prog:=X.prog) (w:=X.w) hh i1 a fa' us.toArray
  have D2:=fQ.draws t2 (prog:=X.prog) (w:=X.w) hh i2 b fb' vs.toArray
  have e1:=ru.length
  have e2:=rv.length
  refine Zp.fin D1 D2 (ap fa fb) (by simp only [aU8]; omega) ⟨st.zz,st.ti,st.to_,⟨st.s1,pu⟩,⟨st.s2,pv'⟩⟩ fun g tk kp=>⟨rfl,?_⟩
  have fpn:∀ c u,H c=some u->c ∉ [z,TI,TO,i1,i2]:=fun c u e hm=>by rw [(hf c hm).1] at e; cases e
  have upH:∀ c o u,H c=some u->s.heap.get? c=some o->g.get? c=some o:=fun c o u e z=>by
   have:=fpn c u e
   simp only [aV5,aW3,aZ5,not_or] at this
   exact kp c o this.1 this.2.2.1 this.2.2.2.1 this.2.2.2.2 z
  have ns:∀ m,s.heap.Ns X.env.locals m->g.Ns X.env.locals m:=fun m hm=>by
   obtain ⟨o,es,ep,e1,e2⟩:=hm
   exact⟨o,es,ep,kp _ o (Ne.symm (hf z (by simp)).2.1) (Ne.symm (hf TO (by simp)).2.1) (Ne.symm (hf i1 (by simp)).2.1) (Ne.symm (hf i2 (by simp)).2.1) e1,e2⟩
  refine I.step (g':=s.gens) (d':=s.drawn) (ch:=[z,TO,i1,i2]) (fun c hc'=>?_) (fun c o _ _ hc' e _=>?_) (fun c o _ _ hc' e _=>⟨o.slots,?_⟩) (fun c o _ e n=>n) (fun c o hc' e=>⟨o,?_⟩)
   (fun c zs e=>e) (fun c u zs e=>e) (fun c ps e=>⟨#[],by rw [e]; simp⟩) ns (fun c u e=>?_) I.bare
  ·have hm:c ∈ [z,TI,TO,i1,i2]:=by
    simp only [aV5,aW3,aZ5] at hc' ⊢
    rcases hc' with h | h | h | h <;> simp [h]
   exact⟨(hf c hm).2.2.2.1,(hf c hm).2.1,(hf c hm).2.2.2.2.1,(hf c hm).2.2.2.2.2⟩
  ·simp only [aV5,aW3,aZ5,not_or] at hc'
   exact kp c o hc'.1 hc'.2.1 hc'.2.2.1 hc'.2.2.2 e
  ·simp only [aV5,aW3,aZ5,not_or] at hc'
   exact kp c o hc'.1 hc'.2.1 hc'.2.2.1 hc'.2.2.2 e
  ·simp only [aV5,aW3,aZ5,not_or] at hc'
   exact kp c o hc'.1 hc'.2.1 hc'.2.2.1 hc'.2.2.2 e
  ·refine (I.hok c u e).stay (fun c' o' hc2 q'=>?_) (fun _ q'=>q') fun _ _ q'=>q'
   rcases hc2 with rfl | hc2
   ·exact upH _ _ _ e q'
   ·exact upH _ _ _ hc2 q'
abbrev ap2:=uF true true
theorem ap3 {P:Program}{w:World}{K:PySem.W.Frag}{elts:List Expr}{k:Nat}{pos:Pos} (a b z TI TO i1 i2:Addr) (d : [z,TI,TO,i1,i2].Nodup) :
  gD P w K (.Tuple elts k pos) (uE K a b) [z,TI,TO,i1,i2] z (ap2 z TI TO i1 i2 a b):=E1 true true a b z TI TO i1 i2 d
section
variable {X : Cx}
def ap4 (K:PySem.W.Frag) (ta:TA):TI:=fun σ H R=>ta σ H fun vs H1=>∃ a b xs ys,vs = [.ref a,.ref b]/\aG K H1 a xs/\aG K H1 b ys/\R (uE K a b) H1
theorem ap5 {elts:List Expr}{kt:Nat}{pt:Pos}{a b:Expr}{ta:TA}{p pos:Pos} (hg:Gl X "zip") (hm:X.mg "zip" = none) (ha:PA X [a,b] ta) (hs:starEach [a,b] X.env = [(false,eval a X.env),(false,eval b X.env)]:=by rfl) (hs2:starEach [b] X.env = [(false,eval b X.env)]:=by rfl) :
  PI X (.Tuple elts kt pt) (.Call (.Name "zip" p) [a,b] [] pos) (ap4 X.K ta):=by
 intro pins s σ H R I h
 refine Call_ (i5 I hg hm PyProof.Rows.boot_zip (aZ8 (aM (ha pos pins s σ H _ I h) fun us s1 ⟨vs,H1,I1,r1,q1⟩=>?_) (by rw [hs,hs2]) (by rw [hs2]; rfl)))
 obtain ⟨a',b',xs,ys,e,h1,h2,q⟩:=q1
 subst e
 cases r1 with
 | cons r rr=>
  cases rr with
  | cons r' rr=>
   cases rr
   cases r
   cases r'
   obtain ⟨us,_,p1,_⟩:=I1.tuple h1
   obtain ⟨ws,_,p2,_⟩:=I1.tuple h2
   refine Zp.ap0 p1 p2 fun h' z ti to s1' s2' kp=>wpAny_pyIter_zip z ?_
   have fresh:∀ k,H1 (s1.heap.objs.size+k)=none:=fun k=>I1.hok.fresh (bb1 _ _)
   refine⟨s1.heap.objs.size+4,[s1.heap.objs.size+4,s1.heap.objs.size+2,s1.heap.objs.size+3,s1.heap.objs.size,s1.heap.objs.size+1],_,_,H1,rfl,I1.kept (t':=s1.toks) kp,
    ap3 a' b' _ _ _ _ _ (by simp),⟨z,ti,⟨_,_,to⟩,s1',s2'⟩,fun c hc=>?_,q⟩
   simp only [aV5,aW3,aZ5] at hc
   rcases hc with rfl | rfl | rfl | rfl | rfl
   ·exact I1.fpOk (bb1 _ _) (fresh 4)
   ·exact I1.fpOk (bb1 _ _) (fresh 2)
   ·exact I1.fpOk (bb1 _ _) (fresh 3)
   ·exact I1.fpOk (aV0 _) (fresh 0)
   ·exact I1.fpOk (bb1 _ _) (fresh 1)
theorem uG (hc:X.calm=true):cK X (.builtin "all") (fun xs H Q=>∃ (a:Addr) (bs:List Bool),xs = [.ref a]/\aJ X.K H a (bs.map V.bl)/\Q (.bl (bs.all id)) H):=by
 intro pins s σ H xs us Q I r h
 obtain ⟨a,bs,rfl,hq,q⟩:=h
 obtain ⟨u,rfl,ru⟩:=eW r
 cases ru
 obtain ⟨its,rv,p,hz⟩:=I.list hq
 have hl:=rv.length
 rw [aV1] at hl
 have hlt:a < s.heap.objs.size:=by obtain ⟨o,e,_⟩:=p.isList; exact aW0 e
 refine call_all_walk (wpAny_pyIter_list p.isList ?_)
 have hh:X.A.in1.handled=none:=I.ok.hd hc
 refine⟨s.heap.objs.size,_,_,_,_,_,fun i=>bs.getD i false,rfl,Walks.list hh s.heap.objs.size a (aY5 hlt) its.toArray,⟨⟨_,aV8 _ rfl,rfl,rfl⟩,p.isList.push _⟩,?_,fun h' tk kp=>?_⟩
 ·intro i v s' Q' E' hP hQ'
  have hi:its[i]? = some v:=by simpa using hP
  have hil:i < bs.length:=by rw [hl]; exact (aV3.mp hi).1
  obtain ⟨u,e1,e2⟩:=rv.get (i:=i) (x:=.bl bs[i]) (by simp [hil])
  rw [hi] at e1; cases e1
  cases e2
  have:bs.getD i false=bs[i]:=by rw [aW1,aV2 hil]; rfl
  have hQ2:Q' (bs.getD i false) s':=hQ'
  rw [this] at hQ2
  exact bf6 hQ2
 ·have all_eq:(List.range its.toArray.size).all (fun i=>bs.getD i false)=bs.all id:=by
   rw [aU8,<- hl]
   clear q rv hz hl hq hlt p hh kp
   induction bs with
   | nil=>rfl
   | cons b r ih=>
    rw [aY9,List.range_succ_eq_map,bg0,List.all_map,bg0,<- ih]
    rfl
  rw [all_eq]
  refine⟨.bl (bs.all id),H,I.kept (t':=tk) (h':=h') fun b o e=>kp b o (fun z=>?_) (aU7 _ e),rfl,q⟩
  rw [aV6.mp z] at e
  exact absurd (aW0 e) (aZ9 _)
end
structure uH (H:Hp) (J:It) (n:Nat) (R:Nat->V->Hp->Prop):Prop where
 go:∀ i H',aD H H'->i < n->J.go i H'
 yld:∀ i H' x H2,aD H H'->J.yld i H' x H2->i < n->aD H' H2/\R i x H2
 stop:∀ H',aD H H'->J.stop n H'
theorem uI {H1:Hp}{J:It}{n:Nat}{R:Nat->V->Hp->Prop}{g:TG}{tc:TT}{te:TE}{σ0:St}{Q:VK} (O:uH H1 J n R) (Pv:Nat->List V->Hp->Prop) (hn:n<=sizeLine)
  (h0:∀ D,H1 D=none->Pv 0 [] (upd H1 D (.lst [])))
  (mono:∀ i acc H' H2,aD H' H2->Pv i acc H'->Pv i acc H2)
  (hs:∀ i x acc D H',i < n->R i x H'->pO H1 D n i acc H'->Pv i acc H'->g x σ0 H' fun σ2 H3=>Wk σ0 σ2/\tc σ2 H3 fun b H4=>
   if b=true then te σ2 H4 fun v H5=>u5 H1 D n Pv i acc v H5 else A9 H1 D n Pv i acc H4)
  (hd:∀ D acc H',H1 D=none->aD H1 H'->H' D=some (.lst acc)->acc.length<=n->Pv n acc H'->Q (.ref D) H') :
  ∀ D,H1 D=none->∃ W:Nat->Nat->List V->Hp->Prop,(∃ m,W 0 m [] (upd H1 D (.lst [])))/\nH g tc te σ0 J D Q W:=by
 intro D hD
 refine⟨CW H1 D n Pv,⟨n,rfl,aZ2 _,aV0 _,bD hD _,b8,h0 D hD⟩,?_⟩
 rintro i m acc H' ⟨rfl,hi,ha,sm,hDa,p⟩
 refine⟨hDa,?_⟩
 by_cases hlt:i < n
 ·refine .inr ⟨O.go i H' sm hlt,fun x H2 y=>?_⟩
  obtain ⟨s2,r2⟩:=O.yld i H' x H2 sm y hlt
  exact hs i x acc D H2 hlt r2 ⟨hlt,ha,hn,sm.trans s2,hD,s2 _ _ hDa⟩ (mono i acc H' H2 s2 p)
 ·have e:i=n:=by omega
  subst e
  exact .inl ⟨O.stop H' sm,hd D acc H' hD sm hDa ha p⟩
theorem E2 {K:PySem.W.Frag}{H:Hp}{a b:Addr}{xs ys:List V} (ha:aG K H a xs) (hb:aG K H b ys) (hl:ys.length<=xs.length) :
  uH H (uE K a b) ys.length (fun i v H2=>∃ T x y,v = .ref T/\H2 T=some (.tup [x,y])/\xs[i]? = some x/\ys[i]? = some y):=by
 refine⟨fun i H' sm hi=>⟨xs,ys,xs[i]'(by omega),ys[i],sm.tup ha,sm.tup hb,by simp,by simp⟩,fun i H' v H2 sm y hi=>?_,fun H' sm=>⟨xs,ys,sm.tup ha,sm.tup hb,by omega⟩⟩
 obtain ⟨T,x,y',hT,hv,e,hxy⟩:=y
 subst e
 obtain ⟨h1,h2⟩:=hxy xs ys (sm.tup ha) (sm.tup hb)
 exact⟨bD hT _,T,x,y',hv,b8,h1,h2⟩
end L2
namespace HT
open PySem PyProof.Rows
section
variable {prog : Program} {w : World} {A : Around} {E : Value → Shared → Prop} {s : Shared}
theorem ap6 {t sl:Addr}{items:Array Value}{vl vu:Value}{lo hi:Option Int}{Q:Value->Shared->Prop} (ht:IsTup s.heap t items) (hs:s.heap.IsSliceOf sl vl vu .none) (pl:IsPart vl lo) (pu:IsPart vu hi)
  (h1:aS items.size 0 lo=0) (h2:aS items.size items.size hi=items.size) (h:Q (.ref t) s):wpAny (model prog w) A (getItem (.ref t) (.ref sl)) Q E s:=by
 obtain ⟨o,e1,e2,e3⟩:=id hs
 have T:s.TypeIs (.ref sl) "slice":=⟨o,e1,e2⟩
 unfold getItem
 try with_reducible refine bd9 ?_
 first | refine aU6 (aV4 ?_) | skip
 apply aU6
 apply wpAny_sequenceKey ht.typeIs (by decide)
 apply aU6
 apply ba6 (name:=Str.ofString "__getitem__") ht.typeIs be5
 apply ba9 be5 ht.typeIs entry_tuple_getitem _ (args_tuple_getitem _ _)
 change wpAny _ _ (Builtin.Tuple.tupleItemsOf (.ref t) >>= _) _ _ s
 apply aU6
 apply tupleItemsOf_ ht
 apply aU6
 apply wpAny_typeOf T
 rw [if_pos (by decide)]
 apply aU6
 apply yZ hs pl pu
 rw [h1,h2]
 have yes:((((0:Nat):Int) == 0 && (1:Int) == 1 && (items.size - 0) == items.size)=true):=by simp
 change wpAny _ _ (if ((((0:Nat):Int) == 0 && (1:Int) == 1 && (items.size - 0) == items.size)=true) then _ else _) _ _ s
 rw [if_pos yes]
 apply aU6
 unfold Builtin.Tuple.tupleIsExact
 apply aU6
 apply wpAny_typeOf ht.typeIs
 apply aV4
 change wpAny _ _ (rule "tuple.getitem.whole" >>= fun _=>ret (Value.ref t)) _ _ s
 apply aU6
 apply wpAny_rule
 exact aV4 ⟨_,rfl,aV4 h⟩
end
end HT
namespace L2
open PySem PySem.Spec PyProof.Rows
section
variable {X : Cx}
def ap7 (K:PySem.W.Frag):V->Option Int->Option Int->Hp->VK->Prop:=fun x lo hi H Q=>∃ a xs,x = .ref a/\aG K H a xs/\(∀ p,H p=none->Q (.ref p) (upd H p (.tup (dR xs lo hi))))/\(dR xs lo hi=xs->Q (.ref a) H)
theorem E3:jH X (ap7 X.K):=by
 intro pins s σ H x v vl vu lo hi sl Q I rx hs pl pu h
 obtain ⟨a,xs,ex,hx,q1,q2⟩:=h
 by_cases hw:HT.aS xs.length 0 lo=0/\HT.aS xs.length xs.length hi=xs.length
 ·subst ex
  cases rx
  obtain ⟨its,r,ht,hz⟩:=I.tuple hx
  have hlen:its.toArray.size=xs.length:=by rw [aU8]; exact r.length.symm
  refine⟨"tuple",_,PyProof.Rows.slot_tuple_getitem.lookup,ht.typeIs,?_⟩
  refine HT.ap6 ht hs pl pu (by rw [hlen]; exact hw.1) (by rw [hlen]; exact hw.2) ⟨.ref a,H,I,rfl,q2 ?_⟩
  unfold dR
  rw [hw.1,hw.2]
  simp
 ·exact ai5 pins s σ H x v vl vu lo hi sl Q I rx hs pl pu ⟨a,xs,ex,hx,hw,q1⟩
end
theorem uJ (xs:List V):dR xs (some 1) none=xs.drop 1:=by
 unfold dR
 have e1:HT.aS xs.length 0 (some 1)=min 1 xs.length:=HT.yW xs.length 0 1
 have e2:HT.aS xs.length xs.length none=xs.length:=rfl
 rw [e1,e2]
 cases xs with
 | nil=>rfl
 | cons x r=>
  have:min 1 (x :: r).length=1:=by simp
  rw [this]
  simp
def uK (K:PySem.W.Frag) (a b:Addr):It:=
  ⟨fun i H=>∃ xs ys x y,aJ K H a xs/\aJ K H b ys/\xs[i]? = some x/\ys[i]? = some y,
   fun i H v H'=>∃ T x y,H T=none/\v = .ref T/\H'=upd H T (.tup [x,y])/\∀ xs ys,aJ K H a xs->aJ K H b ys->xs[i]? = some x/\ys[i]? = some y,
   fun i H=>∃ xs ys,aJ K H a xs/\aJ K H b ys/\(i=xs.length ∨ (i < xs.length/\i=ys.length))⟩
abbrev ap8:=uF false false
theorem ap9 {P:Program}{w:World}{K:PySem.W.Frag}{elts:List Expr}{k:Nat}{pos:Pos} (a b z TI TO i1 i2:Addr) (d : [z,TI,TO,i1,i2].Nodup) :
  gD P w K (.Tuple elts k pos) (uK K a b) [z,TI,TO,i1,i2] z (ap8 z TI TO i1 i2 a b):=E1 false false a b z TI TO i1 i2 d
section
variable {X : Cx}
def aq0 (K:PySem.W.Frag) (ta:TA):TI:=fun σ H R=>ta σ H fun vs H1=>∃ a b xs ys,vs = [.ref a,.ref b]/\aJ K H1 a xs/\aJ K H1 b ys/\R (uK K a b) H1
theorem aq1 {elts:List Expr}{kt:Nat}{pt:Pos}{a b:Expr}{ta:TA}{p pos:Pos} (hg:Gl X "zip") (hm:X.mg "zip" = none) (ha:PA X [a,b] ta) (hs:starEach [a,b] X.env = [(false,eval a X.env),(false,eval b X.env)]:=by rfl) (hs2:starEach [b] X.env = [(false,eval b X.env)]:=by rfl) :
  PI X (.Tuple elts kt pt) (.Call (.Name "zip" p) [a,b] [] pos) (aq0 X.K ta):=by
 intro pins s σ H R I h
 refine Call_ (i5 I hg hm PyProof.Rows.boot_zip (aZ8 (aM (ha pos pins s σ H _ I h) fun us s1 ⟨vs,H1,I1,r1,q1⟩=>?_) (by rw [hs,hs2]) (by rw [hs2]; rfl)))
 obtain ⟨a',b',xs,ys,e,h1,h2,q⟩:=q1
 subst e
 cases r1 with
 | cons r rr=>
  cases rr with
  | cons r' rr=>
   cases rr
   cases r
   cases r'
   obtain ⟨us,_,p1,_⟩:=I1.list h1
   obtain ⟨ws,_,p2,_⟩:=I1.list h2
   refine call_zip_2 p1.isList p2.isList fun h' z ti to s1' s2' _ kp=>wpAny_pyIter_zip z ?_
   have fresh:∀ k,H1 (s1.heap.objs.size+k)=none:=fun k=>I1.hok.fresh (bb1 _ _)
   refine⟨s1.heap.objs.size+4,[s1.heap.objs.size+4,s1.heap.objs.size+2,s1.heap.objs.size+3,s1.heap.objs.size,s1.heap.objs.size+1],_,_,H1,rfl,I1.kept (t':=s1.toks) kp,
    ap9 a' b' _ _ _ _ _ (by simp),⟨z,ti,⟨_,_,to⟩,s1',s2'⟩,fun c hc=>?_,q⟩
   simp only [aV5,aW3,aZ5] at hc
   rcases hc with rfl | rfl | rfl | rfl | rfl
   ·exact I1.fpOk (bb1 _ _) (fresh 4)
   ·exact I1.fpOk (bb1 _ _) (fresh 2)
   ·exact I1.fpOk (bb1 _ _) (fresh 3)
   ·exact I1.fpOk (aV0 _) (fresh 0)
   ·exact I1.fpOk (bb1 _ _) (fresh 1)
end
theorem aq2 {K:PySem.W.Frag}{H:Hp}{a b:Addr}{xs ys:List V} (ha:aJ K H a xs) (hb:aJ K H b ys) (hl:ys.length<=xs.length) :
  uH H (uK K a b) ys.length (fun i v H2=>∃ T x y,v = .ref T/\H2 T=some (.tup [x,y])/\xs[i]? = some x/\ys[i]? = some y):=by
 refine⟨fun i H' sm hi=>⟨xs,ys,xs[i]'(by omega),ys[i],sm.seq ha,sm.seq hb,by simp,by simp⟩,fun i H' v H2 sm y hi=>?_,fun H' sm=>⟨xs,ys,sm.seq ha,sm.seq hb,by omega⟩⟩
 obtain ⟨T,x,y',hT,hv,e,hxy⟩:=y
 subst e
 obtain ⟨h1,h2⟩:=hxy xs ys (sm.seq ha) (sm.seq hb)
 exact⟨bD hT _,T,x,y',hv,b8,h1,h2⟩
section
variable {X : Cx} {pins : List (Addr × Obj)} {σ : St} {H : Hp} {s : Shared} {a b : Addr} {A : Around} {E : Value → Shared → Prop}
theorem aq3 {kvs more:List (aB × V)}{Q:Value->Shared->Prop} (I:a7 X pins σ H s) (ea:H a=some (.dK kvs)) (eb:H b=some (.dK more)) (hne:a ≠ b) (hl:kvs.length+more.length<=sizeLine)
  (h:∀ s',a7 X pins σ (upd H a (.dK (kF kvs more))) s'->Q .none s'):wpAny (model X.prog X.w) A (call (.builtin "dict.update") [.ref a,.ref b]) Q E s:=by
 obtain ⟨z,hd,vs,rel,dd⟩:=tQ I.hok ea
 obtain ⟨z2,hd2,rs,rel2,dd2⟩:=tQ I.hok eb
 have l1:=rel.length
 have l2:=rel2.length
 refine call_meetsIn PySem.F.slot_dict_update dd.typeIs PySem.F.entry_dict_update (PySem.F.args_dict_update_2 _ _) (meets_dict_update (e9 X.prog X.w) a b hne hd2) ⟨vs,rs,dd,dd2,by omega,fun h' dd' _ hs=>h _ ?_⟩
 have he:∃ q,h'.get? a=some q:=let ⟨q,_,_,hq,_⟩:=dd'; ⟨q,hq⟩
 refine pC I (by rw [ea]; exact bh4) hs he (zT ?_ hd (rel2.merge rel) dd')
 have:=A0 more kvs
 omega
end
def E4 (td ty:TE):TE:=fun σ H Q=>td σ H fun x H1=>∃ a,x = .ref a/\tT H1 a/\ty σ H1 fun y H2=>∃ (b:Addr) (kvs more:List (aB × V)),y = .ref b/\a ≠ b/\H2 a=some (.dK kvs)/\H2 b=some (.dK more)/\kvs.length+more.length<=sizeLine/\Q .non (upd H2 a (.dK (kF kvs more)))
section
variable {X : Cx} {o e : Expr} {apos cpos : Pos} {td ty : TE}
theorem aq4 (ho:PE X o td) (he:PE X e ty) (m:M1 X o "update" apos e cpos):PE X (.Call (.Attribute o "update" apos) [e] [] cpos) (E4 td ty):=by
 intro pins s σ H Q I h
 refine wpAny_Call_method m.base m.few m.line PySem.F.plainAttrs_dict PySem.F.slot_dict_update PySem.F.type_dict_update (aM (ho pins s σ H _ I h) fun u s1 ⟨x,H1,I1,rx,a,ex,d,q1⟩=>?_)
 subst ex
 obtain rfl:u=Value.ref a:=rx
 obtain ⟨t1,t2,_⟩:=A1 I1 d
 refine⟨t1,t2,?_⟩
 rw [m.trees]
 refine Calls.callWith_builtin rfl (Calls.evalArgs_plain (Calls.spliced_cons (aM (he pins s1 σ H1 _ I1 q1) fun iv s2 ⟨y,H2,I2,ry,b,kvs,more,ey,ne,ea,eb,l,q2⟩=>Calls.spliced_nil ?_)))
 subst ey
 obtain rfl:iv=Value.ref b:=ry
 exact aq3 I2 ea eb ne l fun s3 I3=>⟨.non,_,I3,rfl,q2⟩
end
end L2
namespace PP
open PySem L2
inductive PV where
 | non | bl (b:Bool) | int (i:Int) | str (x:Str) | tup (xs:List PV) | lst (xs:List PV)
 | dK (kvs:List (aB × PV)) | dT (kvs:List (List aB × PV)) | scr (ns:List Int) | kt (xs:List PV) | exc (c:Str)
mutual
def flat:PV->Bool
 | .tup xs=>flats xs
 | .lst _=>false
 | .dK _=>false
 | .dT _=>false
 | .non=>true
 | .bl _=>true
 | .int _=>true
 | .str _=>true
 | .scr _=>true
 | .kt xs=>flats xs
 | .exc _=>true
def flats:List PV->Bool
 | []=>true
 | x :: r=>flat x && flats r
end
def iZ (K:PySem.W.Frag) (H:Hp) (a:Addr) (ns:List Int):Prop:=(∃ o,H a=some (.frz o (.lst (ns.map V.int)))) ∨
  ∃ (o:Obj) (its:Array Value) (n:Nat),K.lookup a=some o/\o.cls = .type "list"/\o.dict=none/\o.data = .seq its n/\its.size<=sizeLine/\aN (ns.map V.int) its.toList
def lJ (K:PySem.W.Frag) (a:Addr) (us:List V):Prop:=∃ (o:Obj) (its:Array Value) (n:Nat),K.lookup a=some o/\o.cls = .type "tuple"/\o.data = .seq its n/\its.size<=sizeLine/\aN us its.toList
mutual
inductive aF (K:PySem.W.Frag) (M:Addr->Prop) (H:Hp):V->PV->Prop
 | non:aF K M H .non .non
 | bl (b:Bool):aF K M H (.bl b) (.bl b)
 | int (i:Int):aF K M H (.int i) (.int i)
 | str (x:Str):aF K M H (.str x) (.str x)
 | tup {a:Addr}{us:List V}{xs:List PV}:H a=some (.tup us)->Reps K M H us xs->aF K M H (.ref a) (.tup xs)
 | lst {a:Addr}{us:List V}{xs:List PV}:M a->H a=some (.lst us)->Reps K M H us xs->aF K M H (.ref a) (.lst xs)
 | dK {a:Addr}{kvs:List (aB × V)}{ps:List (aB × PV)}:M a->H a=some (.dK kvs)->kvs.map (·.1)=ps.map (·.1)->Reps K M H (kvs.map (·.2)) (ps.map (·.2))->aF K M H (.ref a) (.dK ps)
 | dT {a:Addr}{kvs:List (List aB × V)}{ps:List (List aB × PV)}:M a->H a=some (.dT kvs)->kvs.map (·.1)=ps.map (·.1)->Reps K M H (kvs.map (·.2)) (ps.map (·.2))->aF K M H (.ref a) (.dT ps)
 | scr {a:Addr}{ns:List Int}:iZ K H a ns->aF K M H (.ref a) (.scr ns)
 | kt {a:Addr}{us:List V}{xs:List PV}:lJ K a us->Reps K M H us xs->aF K M H (.ref a) (.kt xs)
 | exc {a C:Addr}{o:Obj}{c:Str}:H a=some (.frz o (.own a))->PySem.W.nsIn K mainGlobals c=some (some (.ref C))->o.cls = .ref C->aF K M H (.ref a) (.exc c)
inductive Reps (K:PySem.W.Frag) (M:Addr->Prop) (H:Hp):List V->List PV->Prop
 | nil:Reps K M H [] []
 | cons {v:V}{x:PV}{vs:List V}{xs:List PV}:aF K M H v x->Reps K M H vs xs->Reps K M H (v :: vs) (x :: xs)
end
structure gX (M M':Addr->Prop) (H H':Hp):Prop where
 lst:∀ a us,M a->H a=some (.lst us)->M' a/\H' a=some (.lst us)
 dK:∀ a kvs,M a->H a=some (.dK kvs)->M' a/\H' a=some (.dK kvs)
 dT:∀ a kvs,M a->H a=some (.dT kvs)->M' a/\H' a=some (.dT kvs)
 tup:∀ a us,H a=some (.tup us)->H' a=some (.tup us)
 frz:∀ a o u,H a=some (.frz o u)->H' a=some (.frz o u)
theorem iZ.keep {K:PySem.W.Frag}{H H':Hp}{a:Addr}{ns:List Int} (k:∀ a o u,H a=some (.frz o u)->H' a=some (.frz o u)) (h:iZ K H a ns):iZ K H' a ns:=
 h.elim (fun ⟨o,e⟩=>.inl ⟨o,k _ _ _ e⟩) .inr
mutual
theorem aF.keep {K:PySem.W.Frag}{M M':Addr->Prop}{H H':Hp} (k:gX M M' H H'):∀ {v:V}{x:PV},aF K M H v x->aF K M' H' v x
 | _,_,.non=>.non
 | _,_,.bl b=>.bl b
 | _,_,.int i=>.int i
 | _,_,.str x=>.str x
 | _,_,.tup h r=>.tup (k.tup _ _ h) (Reps.keep k r)
 | _,_,.lst m h r=>.lst (k.lst _ _ m h).1 (k.lst _ _ m h).2 (Reps.keep k r)
 | _,_,.dK m h e r=>.dK (k.dK _ _ m h).1 (k.dK _ _ m h).2 e (Reps.keep k r)
 | _,_,.dT m h e r=>.dT (k.dT _ _ m h).1 (k.dT _ _ m h).2 e (Reps.keep k r)
 | _,_,.scr h=>.scr (h.keep k.frz)
 | _,_,.kt h r=>.kt h (Reps.keep k r)
 | _,_,.exc h e c=>.exc (k.frz _ _ _ h) e c
theorem Reps.keep {K:PySem.W.Frag}{M M':Addr->Prop}{H H':Hp} (k:gX M M' H H'):∀ {vs:List V}{xs:List PV},Reps K M H vs xs->Reps K M' H' vs xs
 | _,_,.nil=>.nil
 | _,_,.cons r t=>.cons (aF.keep k r) (Reps.keep k t)
end
mutual
theorem aF.flat {K:PySem.W.Frag}{M M':Addr->Prop}{H:Hp}{v:V}{x:PV} (f:flat x=true) (r:aF K M H v x):aF K M' H v x:=by
 cases r with
 | non=>exact .non
 | bl b=>exact .bl b
 | int i=>exact .int i
 | str x=>exact .str x
 | tup h r=>exact .tup h (Reps.flat (by unfold PP.flat at f; exact f) r)
 | lst m h r=>unfold PP.flat at f; cases f
 | dK m h e r=>unfold PP.flat at f; cases f
 | dT m h e r=>unfold PP.flat at f; cases f
 | scr h=>exact .scr h
 | kt h r=>exact .kt h (Reps.flat (by unfold PP.flat at f; exact f) r)
 | exc h e c=>exact .exc h e c
theorem Reps.flat {K:PySem.W.Frag}{M M':Addr->Prop}{H:Hp}{vs:List V}{xs:List PV} (f:flats xs=true) (r:Reps K M H vs xs):Reps K M' H vs xs:=by
 cases r with
 | nil=>exact .nil
 | cons r t=>
  unfold PP.flats at f
  rw [aW7] at f
  exact .cons (aF.flat f.1 r) (Reps.flat f.2 t)
end
theorem gX.same {M M':Addr->Prop}{H H':Hp} (s:aD H H') (m:∀ a,M a->M' a):gX M M' H H':=
 ⟨fun a _ h e=>⟨m a h,s _ _ e⟩,fun a _ h e=>⟨m a h,s _ _ e⟩,fun a _ h e=>⟨m a h,s _ _ e⟩,fun _ _ e=>s _ _ e,fun _ _ _ e=>s _ _ e⟩
theorem aF.same {K:PySem.W.Frag}{M M':Addr->Prop}{H H':Hp}{v:V}{x:PV} (r:aF K M H v x) (s:aD H H') (m:∀ a,M a->M' a):aF K M' H' v x:=r.keep (.same s m)
theorem Reps.same {K:PySem.W.Frag}{M M':Addr->Prop}{H H':Hp}{v:List V}{x:List PV} (r:Reps K M H v x) (s:aD H H') (m:∀ a,M a->M' a):Reps K M' H' v x:=r.keep (.same s m)
def fR:HO->Bool
 | .lst _=>true
 | .dK _=>true
 | .dT _=>true
 | _=>false
theorem gX.upd {M M':Addr->Prop}{H:Hp}{a:Addr}{o o':HO} (h:H a=some o') (mu:fR o'=true) (m:∀ b,M b->b ≠ a/\M' b):gX M M' H (upd H a o):=
 ⟨fun b _ hb e=>⟨(m b hb).2,by rw [aH (m b hb).1]; exact e⟩,fun b _ hb e=>⟨(m b hb).2,by rw [aH (m b hb).1]; exact e⟩,fun b _ hb e=>⟨(m b hb).2,by rw [aH (m b hb).1]; exact e⟩,
  fun b _ e=>by rw [aH (fun z=>by rw [z,h] at e; cases e; cases mu)]; exact e,
  fun b _ _ e=>by rw [aH (fun z=>by rw [z,h] at e; cases e; cases mu)]; exact e⟩
theorem Reps.length {K:PySem.W.Frag}{M:Addr->Prop}{H:Hp}:∀ {vs:List V}{xs:List PV},Reps K M H vs xs->vs.length=xs.length
 | _,_,.nil=>rfl
 | _,_,.cons _ t=>congrArg (· + 1) t.length
theorem Reps.get {K:PySem.W.Frag}{M:Addr->Prop}{H:Hp}:∀ {vs:List V}{xs:List PV}{i:Nat}{v:V},Reps K M H vs xs->vs[i]? = some v->∃ x,xs[i]? = some x/\aF K M H v x
 | _,_,_,_,.nil,e=>by simp at e
 | _,_,0,_,.cons r _,e=>by simp at e; subst e; exact⟨_,rfl,r⟩
 | _,_,i+1,v,.cons _ t,e=>by
  rw [aY2] at e
  obtain ⟨x,h1,h2⟩:=t.get e
  exact⟨x,by rw [aY2]; exact h1,h2⟩
theorem Reps.at {K:PySem.W.Frag}{M:Addr->Prop}{H:Hp}:∀ {vs:List V}{xs:List PV}{i:Nat}{x:PV},Reps K M H vs xs->xs[i]? = some x->∃ v,vs[i]? = some v/\aF K M H v x
 | _,_,_,_,.nil,e=>by simp at e
 | _,_,0,_,.cons r _,e=>by simp at e; subst e; exact⟨_,rfl,r⟩
 | _,_,i+1,v,.cons _ t,e=>by
  rw [aY2] at e
  obtain ⟨x,h1,h2⟩:=t.at e
  exact⟨x,by rw [aY2]; exact h1,h2⟩
theorem Reps.append {K:PySem.W.Frag}{M:Addr->Prop}{H:Hp}:∀ {vs:List V}{xs:List PV}{us:List V}{ys:List PV},Reps K M H vs xs->Reps K M H us ys->Reps K M H (vs ++ us) (xs ++ ys)
 | _,_,_,_,.nil,s=>s
 | _,_,_,_,.cons r t,s=>.cons r (t.append s)
theorem Reps.set {K:PySem.W.Frag}{M:Addr->Prop}{H:Hp}{v:V}{x:PV} (q:aF K M H v x):∀ (i:Nat) {vs:List V}{xs:List PV},Reps K M H vs xs->Reps K M H (vs.set i v) (xs.set i x)
 | _,_,_,.nil=>.nil
 | 0,_,_,.cons r t=>.cons q t
 | i+1,_,_,.cons r t=>.cons r (Reps.set q i t)
theorem Reps.take {K:PySem.W.Frag}{M:Addr->Prop}{H:Hp}:∀ (n:Nat) {vs:List V}{xs:List PV},Reps K M H vs xs->Reps K M H (vs.take n) (xs.take n)
 | 0,_,_,_=>by simp; exact .nil
 | _+1,_,_,.nil=>.nil
 | n+1,_,_,.cons r t=>.cons r (Reps.take n t)
theorem Reps.drop {K:PySem.W.Frag}{M:Addr->Prop}{H:Hp}:∀ (n:Nat) {vs:List V}{xs:List PV},Reps K M H vs xs->Reps K M H (vs.drop n) (xs.drop n)
 | 0,_,_,r=>r
 | _+1,_,_,.nil=>.nil
 | n+1,_,_,.cons _ t=>Reps.drop n t
theorem Reps.eraseIdx {K:PySem.W.Frag}{M:Addr->Prop}{H:Hp}:∀ (n:Nat) {vs:List V}{xs:List PV},Reps K M H vs xs->Reps K M H (vs.eraseIdx n) (xs.eraseIdx n)
 | _,_,_,.nil=>.nil
 | 0,_,_,.cons _ t=>t
 | n+1,_,_,.cons r t=>.cons r (Reps.eraseIdx n t)
abbrev intz (ns:List Int):List PV:=ns.map PV.int
theorem Reps.intz {K:PySem.W.Frag}{M:Addr->Prop}{H:Hp}:∀ (ns:List Int),Reps K M H (ns.map V.int) (intz ns)
 | []=>.nil
 | n :: r=>.cons (.int n) (Reps.intz r)
theorem Reps.ofInts {K:PySem.W.Frag}{M:Addr->Prop}{H:Hp}:∀ {ns:List Int}{us:List V},Reps K M H us (PP.intz ns)->us=ns.map V.int
 | [],_,.nil=>rfl
 | n :: r,_,.cons q t=>by
  cases q
  rw [Reps.ofInts t]; rfl
theorem c8:∀ (ns:List Int),flats (intz ns)=true
 | []=>rfl
 | n :: r=>by show (flat (.int n) && flats (intz r))=true; rw [c8 r]; rfl
inductive Tg | rd | sh | nw | fr
inductive Slot | sh (g:Bool) (x:PV) | own (x:PV)
def Slot.val:Slot->PV
 | .sh _ x=>x
 | .own x=>x
def Slot.tag:Slot->Tg
 | .sh true _=>.nw
 | .sh false _=>.sh
 | .own _=>.rd
abbrev bJ:=List (Option Slot)
def Ms (H0:Hp) (W:Addr->Prop):Bool->Addr->Prop
 | false,a=>¬ W a
 | true,a=>¬ W a/\H0 a=none
def Mg (H0:Hp) (W:Addr->Prop) (Hs:Hp):Tg->Addr->Prop
 | .rd,_=>True
 | .sh,a=>¬ W a
 | .nw,a=>¬ W a/\H0 a=none
 | .fr,a=>Hs a=none
def gI (K:PySem.W.Frag) (M:Addr->Prop) (H:Hp) (a:Addr):PV->Prop
 | .lst xs=>∃ us,H a=some (.lst us)/\Reps K M H us xs
 | .dK ps=>∃ kvs,H a=some (.dK kvs)/\kvs.map (·.1)=ps.map (·.1)/\Reps K M H (kvs.map (·.2)) (ps.map (·.2))
 | .dT ps=>∃ kvs,H a=some (.dT kvs)/\kvs.map (·.1)=ps.map (·.1)/\Reps K M H (kvs.map (·.2)) (ps.map (·.2))
 | _=>False
def E5 (K:PySem.W.Frag) (H0:Hp) (W:Addr->Prop) (H:Hp) (v:V):Slot->Prop
 | .sh g x=>aF K (Ms H0 W g) H v x
 | .own x=>∃ a,v = .ref a/\W a/\gI K (Ms H0 W true) H a x
structure PX (K:PySem.W.Frag) (H0:Hp) (W:Addr->Prop) (σ:St) (ρ:bJ) (H:Hp):Prop where
 len:ρ.length=σ.length
 same:aD H0 H
 wm:∀ a,W a->H0 a=none/\∃ o,H a=some o/\fR o=true
 sl:∀ (i:Nat) (m:Slot),ρ[i]? = some (some m)->∃ v,σ[i]? = some (some v)/\E5 K H0 W H v m
 dis:∀ (i j:Nat) (x y:PV) (a:Addr),ρ[i]? = some (some (.own x))->ρ[j]? = some (some (.own y))->σ[i]? = some (some (.ref a))->σ[j]? = some (some (.ref a))->i=j
theorem gI.keep {K:PySem.W.Frag}{M M':Addr->Prop}{H H':Hp}{a:Addr} (k:gX M M' H H') (ha:∀ o,H a=some o->H' a=some o):∀ {x:PV},gI K M H a x->gI K M' H' a x
 | .lst _,⟨us,e,r⟩=>⟨us,ha _ e,r.keep k⟩
 | .dK _,⟨us,e,q,r⟩=>⟨us,ha _ e,q,r.keep k⟩
 | .dT _,⟨us,e,q,r⟩=>⟨us,ha _ e,q,r.keep k⟩
theorem gI.at {K:PySem.W.Frag}{M:Addr->Prop}{H:Hp}{a:Addr}:∀ {x:PV},gI K M H a x->∃ o,H a=some o/\fR o=true
 | .lst _,⟨us,e,r⟩=>⟨_,e,rfl⟩
 | .dK _,⟨us,e,q,r⟩=>⟨_,e,rfl⟩
 | .dT _,⟨us,e,q,r⟩=>⟨_,e,rfl⟩
theorem gI.rep {K:PySem.W.Frag}{M M':Addr->Prop}{H:Hp}{a:Addr} (m:∀ b,M b->M' b) (ha:M' a):∀ {x:PV},gI K M H a x->aF K M' H (.ref a) x
 | .lst _,⟨us,e,r⟩=>.lst ha e (r.same (aD.refl _) m)
 | .dK _,⟨us,e,q,r⟩=>.dK ha e q (r.same (aD.refl _) m)
 | .dT _,⟨us,e,q,r⟩=>.dT ha e q (r.same (aD.refl _) m)
section
variable {K : PySem.W.Frag} {H0 : Hp} {W W' : Addr → Prop} {σ : St} {ρ : bJ} {H H' : Hp}
theorem PX.mono (p:PX K H0 W σ ρ H) (s:aD H H'):PX K H0 W σ ρ H':=by
 refine⟨p.len,p.same.trans s,fun a h=>⟨(p.wm a h).1,let ⟨o,e,m⟩:=(p.wm a h).2; ⟨o,s _ _ e,m⟩⟩,fun i m h=>?_,p.dis⟩
 obtain ⟨v,e,r⟩:=p.sl i m h
 refine⟨v,e,?_⟩
 cases m with
 | sh g x=>exact aF.same r s fun _ z=>z
 | own x=>
  obtain ⟨a,e1,e2,r⟩:=r
  exact⟨a,e1,e2,r.keep (.same s fun _ z=>z) fun _ z=>s _ _ z⟩
theorem PX.new (p:PX K H0 W σ ρ H) {a:Addr} (h:H a=none) : ¬ W a/\H0 a=none:=
 ⟨fun z=>(by obtain ⟨_,o,e,_⟩:=p.wm a z; rw [h] at e; cases e),p.same.free h⟩
theorem Mg.back {g:Tg}{H1:Hp} (s:aD H H1) {a:Addr} (h:Mg H0 W H1 g a):Mg H0 W H g a:=by
 cases g with
 | fr=>exact s.free h
 | rd=>exact h
 | sh=>exact h
 | nw=>exact h
end
abbrev PK:=PV->Tg->Prop
abbrev aE:=bJ->PK->Prop
abbrev bT:=bJ->(Bool->Prop)->Prop
abbrev cL:=bJ->(List (PV × Tg)->Prop)->Prop
inductive gJ (K:PySem.W.Frag) (H0:Hp) (W:Addr->Prop) (Hs H:Hp):List V->List (PV × Tg)->Prop
 | nil:gJ K H0 W Hs H [] []
 | cons {v:V}{x:PV}{g:Tg}{vs:List V}{xs:List (PV × Tg)}:aF K (Mg H0 W Hs g) H v x->gJ K H0 W Hs H vs xs->gJ K H0 W Hs H (v :: vs) ((x,g) :: xs)
def pW (K:PySem.W.Frag) (H0:Hp) (W:Addr->Prop) (H:Hp) (Q:PK) (Q':VK):Prop:=∀ v H' x g,aD H H'->aF K (Mg H0 W H g) H' v x->Q x g->Q' v H'
def LE (X:Cx) (t:aE):TE:=fun σ H Q'=>∃ (W:Addr->Prop) (ρ:bJ) (Q:PK),PX X.K X.H₀ W σ ρ H/\t ρ Q/\pW X.K X.H₀ W H Q Q'
def LT (X:Cx) (t:bT):TT:=fun σ H Q'=>∃ (W:Addr->Prop) (ρ:bJ) (Q:Bool->Prop),PX X.K X.H₀ W σ ρ H/\t ρ Q/\∀ b H',aD H H'->Q b->Q' b H'
def LA (X:Cx) (t:cL):TA:=fun σ H Q'=>∃ (W:Addr->Prop) (ρ:bJ) (Q:List (PV × Tg)->Prop),PX X.K X.H₀ W σ ρ H/\t ρ Q/\∀ vs H' xs,aD H H'->gJ X.K X.H₀ W H H' vs xs->Q xs->Q' vs H'
theorem gJ.same {K:PySem.W.Frag}{H0:Hp}{W:Addr->Prop}{Hs Hs' H H':Hp} (s:aD H H') (b:aD Hs' Hs):∀ {vs:List V}{xs:List (PV × Tg)},gJ K H0 W Hs H vs xs->gJ K H0 W Hs' H' vs xs
 | _,_,.nil=>.nil
 | _,_,.cons r t=>.cons (r.same s fun _ z=>Mg.back b z) (t.same s b)
theorem gJ.any {K:PySem.W.Frag}{H0:Hp}{W:Addr->Prop}{Hs H:Hp}:∀ {vs:List V}{xs:List (PV × Tg)},gJ K H0 W Hs H vs xs->Reps K (fun _=>True) H vs (xs.map (·.1))
 | _,_,.nil=>.nil
 | _,_,.cons r t=>.cons (r.same (aD.refl _) fun _ _=>trivial) t.any
def Nw:Tg->PV->Prop
 | .fr,_=>True
 | .nw,_=>True
 | _,x=>flat x=true
def nN (xs:List (PV × Tg)):Prop:=∀ p ∈ xs,Nw p.2 p.1
section
variable {K : PySem.W.Frag} {H0 Hs H : Hp} {W : Addr → Prop} {σ : St} {ρ : bJ}
theorem Nw.rep {g:Tg}{x:PV}{v:V} (px:PX K H0 W σ ρ Hs) (n:Nw g x) (r:aF K (Mg H0 W Hs g) H v x):aF K (Ms H0 W true) H v x:=by
 cases g with
 | fr=>exact r.same (aD.refl _) fun a z=>px.new z
 | nw=>exact r.same (aD.refl _) fun a z=>z
 | sh=>exact r.flat n
 | rd=>exact r.flat n
theorem nN.reps {vs:List V}:∀ {xs:List (PV × Tg)}{vs:List V},PX K H0 W σ ρ Hs->nN xs->gJ K H0 W Hs H vs xs->Reps K (Ms H0 W true) H vs (xs.map (·.1))
 | _,_,px,n,.nil=>.nil
 | _,_,px,n,.cons r t=>.cons (Nw.rep px (n _ aV9) r) (nN.reps (vs:=vs) px (fun p hp=>n p (aW6 _ hp)) t)
theorem pX {v:V}{m:Slot} (r:E5 K H0 W H v m):aF K (Mg H0 W Hs m.tag) H v m.val:=by
 cases m with
 | sh g x=>
  cases g with
  | true=>exact aF.same r (aD.refl _) fun _ z=>z
  | false=>exact aF.same r (aD.refl _) fun _ z=>z
 | own x=>
  obtain ⟨a,rfl,_,r⟩:=r
  exact r.rep (fun _ _=>trivial) trivial
end
section
variable {X : Cx} {σ : St} {H : Hp} {Q' : VK} {ta tb : aE}
def a5 (i:Nat):aE:=fun ρ Q=>∃ m,ρ[i]? = some (some m)/\Q m.val m.tag
def qC (x:PV):aE:=fun _ Q=>Q x .fr
theorem aq5 {i:Nat} (h:LE X (a5 i) σ H Q'):fN i σ H Q':=by
 obtain ⟨W,ρ,Q,px,⟨m,e,q⟩,k⟩:=h
 obtain ⟨v,ev,r⟩:=px.sl i m e
 exact⟨v,ev,k v H _ _ (aD.refl _) (pX r) q⟩
theorem nO {x:PV}{v:V} (hr:∀ M,aF X.K M H v x) (h:LE X (qC x) σ H Q'):tC v σ H Q':=by
 obtain ⟨W,ρ,Q,px,q,k⟩:=h
 exact k v H _ _ (aD.refl _) (hr _) q
def eG (X:Cx) (R:PV->Tg->PV->Tg->PK->Prop) (r:R2):Prop:=∀ (W:Addr->Prop) (Hs H:Hp) (u v:V) (x y:PV) (g g':Tg) (Q:PK) (Q':VK),aD Hs H->
 (∀ a,Hs a=none->¬ W a/\X.H₀ a=none)->aF X.K (Mg X.H₀ W Hs g) H u x->aF X.K (Mg X.H₀ W Hs g') H v y->R x g y g' Q->(∀ w H' z gz,aD H H'->aF X.K (Mg X.H₀ W Hs gz) H' w z->Q z gz->Q' w H')->r u v H Q'
def q2 (R:PV->Tg->PV->Tg->PK->Prop) (ta tb:aE):aE:=fun ρ Q=>ta ρ fun x g=>tb ρ fun y g'=>R x g y g' Q
theorem pY {R:PV->Tg->PV->Tg->PK->Prop}{r:R2} (c:eG X R r) (h:LE X (q2 R ta tb) σ H Q'):mV r (LE X ta) (LE X tb) σ H Q':=by
 obtain ⟨W,ρ,Q,px,q,k⟩:=h
 refine⟨W,ρ,_,px,q,fun u H1 x g s1 r1 q1=>⟨W,ρ,_,px.mono s1,q1,fun v H2 y g' s2 r2 q2=>?_⟩⟩
 exact c W H H2 u v x y g g' Q Q' (s1.trans s2) (fun a z=>px.new z) (r1.same s2 fun _ z=>z) (r2.same (aD.refl _) fun _ z=>Mg.back s1 z) q2 fun w H' z gz s3 r3 q3=>k w H' z gz ((s1.trans s2).trans s3) r3 q3
def RI (C:Int->Int->Prop) (f:Int->Int->PV):PV->Tg->PV->Tg->PK->Prop:=fun x _ y _ Q=>∃ i j,x = .int i/\y = .int j/\C i j/\Q (f i j) .fr
def fB (f:Int->Int->PV):PV->Tg->PV->Tg->PK->Prop:=fun x _ y _ Q=>∃ i j,x = .int i/\y = .int j/\Q (f i j) .fr
theorem pZ {C:Int->Int->Prop}{f:Int->Int->Int}:eG X (RI C fun i j=>.int (f i j)) (rI C fun i j=>.int (f i j)):=by
 rintro W Hs H u v x y g g' Q Q' s n r1 r2 ⟨i,j,rfl,rfl,c,q⟩ k
 cases r1; cases r2
 exact⟨i,j,rfl,rfl,c,k _ _ _ _ (aD.refl _) (.int _) q⟩
theorem E6 {f:Int->Int->Int}:eG X (fB fun i j=>.int (f i j)) (iQ fun i j=>.int (f i j)):=by
 rintro W Hs H u v x y g g' Q Q' s n r1 r2 ⟨i,j,rfl,rfl,q⟩ k
 cases r1; cases r2
 exact⟨i,j,rfl,rfl,k _ _ _ _ (aD.refl _) (.int _) q⟩
theorem nP {f:Int->Int->Bool}:eG X (fB fun i j=>.bl (f i j)) (iQ fun i j=>.bl (f i j)):=by
 rintro W Hs H u v x y g g' Q Q' s n r1 r2 ⟨i,j,rfl,rfl,q⟩ k
 cases r1; cases r2
 exact⟨i,j,rfl,rfl,k _ _ _ _ (aD.refl _) (.bl _) q⟩
def j3 (neg:Bool):PV->Tg->PV->Tg->PK->Prop:=fun x _ y _ Q=>(∃ i j,x = .int i/\y = .int j/\Q (.bl (if neg=true then !decide (i=j) else decide (i=j))) .fr) ∨ (∃ i j,x = .bl i/\y = .bl j/\Q (.bl (if neg=true then !decide (i=j) else decide (i=j))) .fr)
theorem E7 (i j:Int):decide (V.int i=V.int j)=decide (i=j):=by
 rw [bd4,bb3,bb3]; exact⟨fun z=>V.int.inj z,fun z=>congrArg V.int z⟩
theorem E8 (i j:Bool):decide (V.bl i=V.bl j)=decide (i=j):=by
 rw [bd4,bb3,bb3]; exact⟨fun z=>V.bl.inj z,fun z=>congrArg V.bl z⟩
theorem E9:eG X (j3 false) yC:=by
 rintro W Hs H u v x y g g' Q Q' s n r1 r2 (⟨i,j,rfl,rfl,q⟩ | ⟨i,j,rfl,rfl,q⟩) k
 ·cases r1; cases r2
  exact⟨rfl,by rw [E7]; exact k _ _ _ _ (aD.refl _) (.bl _) q⟩
 ·cases r1; cases r2
  exact⟨rfl,by rw [E8]; exact k _ _ _ _ (aD.refl _) (.bl _) q⟩
theorem F0:eG X (j3 true) yD:=by
 rintro W Hs H u v x y g g' Q Q' s n r1 r2 (⟨i,j,rfl,rfl,q⟩ | ⟨i,j,rfl,rfl,q⟩) k
 ·cases r1; cases r2
  exact⟨rfl,by rw [E7]; exact k _ _ _ _ (aD.refl _) (.bl _) q⟩
 ·cases r1; cases r2
  exact⟨rfl,by rw [E8]; exact k _ _ _ _ (aD.refl _) (.bl _) q⟩
def aV (t:aE):bT:=fun ρ Q=>t ρ fun x _=>∃ b,x = .bl b/\Q b
theorem uL {t:aE}{Q':Bool->Hp->Prop} (h:LT X (aV t) σ H Q'):LE X t σ H fun x H'=>∃ k,x = .bl k/\Q' k H':=by
 obtain ⟨W,ρ,Q,px,q,k⟩:=h
 refine⟨W,ρ,_,px,q,?_⟩
 rintro v H1 x g s r ⟨b,rfl,q⟩
 cases r
 exact⟨b,rfl,k _ _ s q⟩
def nQ (t u:bT):bT:=fun ρ Q=>t ρ fun c=>if c=true then u ρ Q else Q false
def jK (t u:bT):bT:=fun ρ Q=>t ρ fun c=>if c=true then Q true else u ρ Q
def iC (t:bT):bT:=fun ρ Q=>t ρ fun c=>Q (!c)
variable {t u : bT} {Qb : Bool → Hp → Prop}
theorem aq6 (h:LT X (nQ t u) σ H Qb):xI (LT X t) (LT X u) σ H Qb:=by
 obtain ⟨W,ρ,Q,px,q,k⟩:=h
 refine⟨W,ρ,_,px,q,fun b H1 s1 q1=>?_⟩
 cases b with
 | true=>exact aY ⟨W,ρ,Q,px.mono s1,by simpa using q1,fun b H2 s2 q2=>k _ _ (s1.trans s2) q2⟩
 | false=>exact aU (k _ _ s1 (by simpa using q1))
theorem aq7 (h:LT X (jK t u) σ H Qb):xJ (LT X t) (LT X u) σ H Qb:=by
 obtain ⟨W,ρ,Q,px,q,k⟩:=h
 refine⟨W,ρ,_,px,q,fun b H1 s1 q1=>?_⟩
 cases b with
 | false=>exact aU ⟨W,ρ,Q,px.mono s1,by simpa using q1,fun b H2 s2 q2=>k _ _ (s1.trans s2) q2⟩
 | true=>exact aY (k _ _ s1 (by simpa using q1))
theorem aq8 (h:LT X (iC t) σ H Qb):xK (LT X t) σ H Qb:=by
 obtain ⟨W,ρ,Q,px,q,k⟩:=h
 exact⟨W,ρ,_,px,q,fun b H1 s1 q1=>k _ _ s1 q1⟩
def jL (ta tb:aE):aE:=fun ρ Q=>ta ρ fun x _=>∃ c,x = .bl c/\if c=true then tb ρ Q else Q (.bl false) .fr
def uM (ta:aE):aE:=fun ρ Q=>ta ρ fun x _=>∃ c,x = .bl c/\Q (.bl (!c)) .fr
theorem pW.back {K:PySem.W.Frag}{H0:Hp}{W:Addr->Prop}{H H1:Hp}{Q:PK} (k:pW K H0 W H Q Q') (s:aD H H1):pW K H0 W H1 Q Q':=fun v H' x g s' r q=>k v H' x g (s.trans s') (r.same (aD.refl _) fun _ z=>Mg.back s z) q
theorem aq9 (h:LE X (jL ta tb) σ H Q'):xL (LE X ta) (LE X tb) σ H Q':=by
 obtain ⟨W,ρ,Q,px,q,k⟩:=h
 refine⟨W,ρ,_,px,q,?_⟩
 rintro v H1 x g s1 r ⟨c,rfl,q⟩
 cases r
 refine⟨c,rfl,?_⟩
 cases c with
 | true=>exact aY ⟨W,ρ,Q,px.mono s1,by simpa using q,k.back s1⟩
 | false=>exact aU (k _ _ _ _ s1 (.bl _) (by simpa using q))
theorem ar0 (h:LE X (uM ta) σ H Q'):xM (LE X ta) σ H Q':=by
 obtain ⟨W,ρ,Q,px,q,k⟩:=h
 refine⟨W,ρ,_,px,q,?_⟩
 rintro v H1 x g s1 r ⟨c,rfl,q⟩
 cases r
 exact⟨c,rfl,k _ _ _ _ s1 (.bl _) q⟩
def a9:cL:=fun _ Q=>Q []
def a6 (te:aE) (tr:cL):cL:=fun ρ Q=>te ρ fun x g=>tr ρ fun xs=>Q ((x,g) :: xs)
variable {Qa : List V → Hp → Prop} {tr : cL}
theorem ar1 (h:LA X a9 σ H Qa):kC σ H Qa:=by
 obtain ⟨W,ρ,Q,px,q,k⟩:=h
 exact k _ _ _ (aD.refl _) .nil q
theorem ar2 (h:LA X (a6 ta tr) σ H Qa):jG (LE X ta) (LA X tr) σ H Qa:=by
 obtain ⟨W,ρ,Q,px,q,k⟩:=h
 refine⟨W,ρ,_,px,q,fun v H1 x g s1 r1 q1=>⟨W,ρ,_,px.mono s1,q1,fun vs H2 xs s2 r2 q2=>?_⟩⟩
 exact k _ _ _ (s1.trans s2) (.cons (r1.same s2 fun _ z=>z) (r2.same (aD.refl _) s1)) q2
def uN (t:cL):aE:=fun ρ Q=>t ρ fun xs=>xs.length<=1000/\nN xs/\Q (.tup (xs.map (·.1))) .nw
def dF (t:cL):aE:=fun ρ Q=>t ρ fun xs=>xs.length<=1000/\flats (xs.map (·.1))=true/\Q (.tup (xs.map (·.1))) .fr
def jM (t:cL):aE:=fun ρ Q=>t ρ fun xs=>xs.length<=1000/\flats (xs.map (·.1))=true/\Q (.lst (xs.map (·.1))) .fr
theorem gJ.length {K:PySem.W.Frag}{H0:Hp}{W:Addr->Prop}{Hs H:Hp}:∀ {vs:List V}{xs:List (PV × Tg)},gJ K H0 W Hs H vs xs->vs.length=xs.length
 | _,_,.nil=>rfl
 | _,_,.cons _ t=>congrArg (· + 1) t.length
theorem qA {n:Nat} (h:n<=1000):n<=sizeLine:=ba4 (nF h)
theorem ar3 (h:LE X (uN tr) σ H Q'):t6 (LA X tr) σ H Q':=by
 obtain ⟨W,ρ,Q,px,q,k⟩:=h
 refine⟨W,ρ,_,px,q,?_⟩
 rintro vs H1 xs s1 r ⟨hl,n,q⟩
 refine⟨by rw [r.length]; exact qA hl,fun p hp=>k _ _ _ .nw (s1.trans (bD hp _)) (.tup b8 ?_) q⟩
 exact (nN.reps (vs:=vs) px n r).same (bD hp _) fun _ z=>z
theorem ar4 (h:LE X (dF tr) σ H Q'):t6 (LA X tr) σ H Q':=by
 obtain ⟨W,ρ,Q,px,q,k⟩:=h
 refine⟨W,ρ,_,px,q,?_⟩
 rintro vs H1 xs s1 r ⟨hl,n,q⟩
 refine⟨by rw [r.length]; exact qA hl,fun p hp=>k _ _ _ .fr (s1.trans (bD hp _)) (.tup b8 ?_) q⟩
 exact (r.any.flat n).same (bD hp _) fun _ z=>z
theorem ar5 (h:LE X (jM tr) σ H Q'):yM (LA X tr) σ H Q':=by
 obtain ⟨W,ρ,Q,px,q,k⟩:=h
 refine⟨W,ρ,_,px,q,?_⟩
 rintro vs H1 xs s1 r ⟨hl,n,q⟩
 refine⟨by rw [r.length]; exact qA hl,fun p hp=>k _ _ _ .fr (s1.trans (bD hp _)) (.lst (s1.free hp) b8 ?_) q⟩
 exact (r.any.flat n).same (bD hp _) fun _ z=>z
def eQ (X:Cx) (R:List PV->(PV->Prop)->Prop) (r:List V->Hp->VK->Prop):Prop:=∀ (H:Hp) (vs:List V) (xs:List PV) (Q:PV->Prop) (Q':VK),Reps X.K (fun _=>True) H vs xs->R xs Q->
 (∀ w H' z,aD H H'->aF X.K (fun a=>H a=none) H' w z->Q z->Q' w H')->r vs H Q'
def aC (R:List PV->(PV->Prop)->Prop) (t:cL):aE:=fun ρ Q=>t ρ fun xs=>R (xs.map (·.1)) fun z=>Q z .fr
theorem F1 {R:List PV->(PV->Prop)->Prop}{r:List V->Hp->VK->Prop} (c:eQ X R r) (h:LE X (aC R tr) σ H Q'):t8 r (LA X tr) σ H Q':=by
 obtain ⟨W,ρ,Q,px,q,k⟩:=h
 refine⟨W,ρ,_,px,q,fun vs H1 xs s1 r1 q1=>c H1 vs _ _ Q' r1.any q1 fun w H' z s2 r2 q2=>k w H' z .fr (s1.trans s2) (r2.same (aD.refl _) fun _ z=>s1.free z) q2⟩
end
structure nR where
 nx:bJ->Prop
 rt:PV->Prop
 bk:bJ->Prop:=fun _=>False
 ct:bJ->Prop:=fun _=>False
abbrev aK:=nR->bJ->Prop
def Ev (W:Addr->Prop) (H:Hp) (W':Addr->Prop) (H':Hp):Prop:=∀ b o,H b=some o->¬ W b->H' b=some o/\¬ W' b
theorem Ev.trans {W W1 W2:Addr->Prop}{H H1 H2:Hp} (a:Ev W H W1 H1) (b:Ev W1 H1 W2 H2):Ev W H W2 H2:=fun c o h n=>let ⟨h1,n1⟩:=a c o h n; b c o h1 n1
theorem Ev.same {W:Addr->Prop}{H H':Hp} (s:aD H H'):Ev W H W H':=fun c o h n=>⟨s _ _ h,n⟩
theorem Ev.refl (W:Addr->Prop) (H:Hp):Ev W H W H:=Ev.same (aD.refl _)
structure nS (X:Cx) (W:Addr->Prop) (H:Hp) (D':nR) (D:cJ):Prop where
 nx:∀ W' σ' H' ρ',Ev W H W' H'->PX X.K X.H₀ W' σ' ρ' H'->D'.nx ρ'->D.nx σ' H'
 rt:∀ v H' x,aD X.H₀ H'->aF X.K (fun a=>X.H₀ a=none) H' v x->D'.rt x->D.rt v H'
 bk:∀ W' σ' H' ρ',Ev W H W' H'->PX X.K X.H₀ W' σ' ρ' H'->D'.bk ρ'->D.bk σ' H'
 ct:∀ W' σ' H' ρ',Ev W H W' H'->PX X.K X.H₀ W' σ' ρ' H'->D'.ct ρ'->D.ct σ' H'
theorem nS.step {X:Cx}{W W1:Addr->Prop}{H H1:Hp}{D':nR}{D:cJ} (k:nS X W H D' D) (e:Ev W H W1 H1):nS X W1 H1 D' D:=
 ⟨fun W' σ' H' ρ' e'=>k.nx W' σ' H' ρ' (e.trans e'),k.rt,fun W' σ' H' ρ' e'=>k.bk W' σ' H' ρ' (e.trans e'),fun W' σ' H' ρ' e'=>k.ct W' σ' H' ρ' (e.trans e')⟩
def LS (X:Cx) (t:aK):TS:=fun D σ H=>∃ (W:Addr->Prop) (ρ:bJ) (D':nR),PX X.K X.H₀ W σ ρ H/\t D' ρ/\nS X W H D' D
theorem dP {α:Type}{l:List α}{i j:Nat}{a b:α} (h:(l.set i a)[j]? = some b):(j=i/\i < l.length/\b=a) ∨ (j ≠ i/\l[j]? = some b):=by
 by_cases e:j=i
 ·subst e
  have hl:j < (l.set j a).length:=(aV3.mp h).1
  rw [ba1] at hl
  rw [aZ3 hl] at h
  exact .inl ⟨rfl,hl,(aX6 h).symm⟩
 ·rw [aX4 (Ne.symm e)] at h
  exact .inr ⟨e,h⟩
section
variable {K : PySem.W.Frag} {H0 : Hp} {W W' : Addr → Prop} {σ : St} {ρ : bJ} {H H' Hs : Hp}
theorem PX.setSh {i:Nat}{v:V}{g:Bool}{x:PV} (p:PX K H0 W σ ρ H) (r:aF K (Ms H0 W g) H v x):PX K H0 W (σ.set i (some v)) (ρ.set i (some (.sh g x))) H:=by
 refine⟨by rw [ba1,ba1]; exact p.len,p.same,p.wm,fun j m h=>?_,fun j k y z a h1 h2 h3 h4=>?_⟩
 ·rcases dP h with ⟨rfl,hl,e⟩ | ⟨hne,h⟩
  ·cases e
   rw [p.len] at hl
   exact⟨v,aZ3 hl,r⟩
  ·obtain ⟨u,e,q⟩:=p.sl j m h
   exact⟨u,by rw [aX4 (Ne.symm hne)]; exact e,q⟩
 ·rcases dP h1 with ⟨_,_,e⟩ | ⟨n1,h1⟩
  ·cases e
  ·rcases dP h2 with ⟨_,_,e⟩ | ⟨n2,h2⟩
   ·cases e
   ·rw [aX4 (Ne.symm n1)] at h3
    rw [aX4 (Ne.symm n2)] at h4
    exact p.dis j k y z a h1 h2 h3 h4
def lK (W:Addr->Prop) (a:Addr):Addr->Prop:=fun b=>W b ∨ b=a
theorem uO {g:Bool}{a b:Addr} (n:b ≠ a) (h:Ms H0 W g b):Ms H0 (lK W a) g b:=by
 cases g with
 | true=>exact⟨fun z=>z.elim h.1 n,h.2⟩
 | false=>exact fun z=>z.elim h n
theorem PX.setOwn {i:Nat}{a:Addr}{x:PV} (p:PX K H0 W σ ρ Hs) (s:aD Hs H) (ha:Hs a=none) (r:gI K (Ms H0 (lK W a) true) H a x):PX K H0 (lK W a) (σ.set i (some (.ref a))) (ρ.set i (some (.own x))) H:=by
 have old:∀ b o,Hs b=some o->b ≠ a:=fun b o e z=>by rw [z,ha] at e; cases e
 have kp:∀ g,gX (Ms H0 W g) (Ms H0 (lK W a) g) Hs H:=fun g=>⟨fun b _ m e=>⟨uO (old _ _ e) m,s _ _ e⟩,fun b _ m e=>⟨uO (old _ _ e) m,s _ _ e⟩,fun b _ m e=>⟨uO (old _ _ e) m,s _ _ e⟩,fun _ _ e=>s _ _ e,fun _ _ _ e=>s _ _ e⟩
 have wa : ¬ W a:=(p.new ha).1
 refine⟨by rw [ba1,ba1]; exact p.len,p.same.trans s,fun b z=>?_,fun j m h=>?_,fun j k y z b h1 h2 h3 h4=>?_⟩
 ·rcases z with z | rfl
  ·obtain ⟨h1,o,h2,h3⟩:=p.wm b z
   exact⟨h1,o,s _ _ h2,h3⟩
  ·exact⟨(p.new ha).2,r.at⟩
 ·rcases dP h with ⟨rfl,hl,e⟩ | ⟨hne,h⟩
  ·cases e
   rw [p.len] at hl
   exact⟨_,aZ3 hl,a,rfl,.inr rfl,r⟩
  ·obtain ⟨u,e,q⟩:=p.sl j m h
   refine⟨u,by rw [aX4 (Ne.symm hne)]; exact e,?_⟩
   cases m with
   | sh g y=>exact aF.keep (kp g) q
   | own y=>
    obtain ⟨b,e1,e2,q⟩:=q
    exact⟨b,e1,.inl e2,q.keep (kp true) fun o z=>s _ _ z⟩
 ·have ne:∀ {j:Nat}{y:PV},ρ[j]? = some (some (.own y))->σ[j]? ≠ some (some (.ref a)):=fun {j y} h1 h2=>by
   obtain ⟨u,e,c,e1,e2,_⟩:=p.sl j _ h1
   rw [h2] at e
   cases e
   cases e1
   exact wa e2
  rcases dP h1 with ⟨e1,l1,_⟩ | ⟨n1,h1⟩
  ·rcases dP h2 with ⟨e2,_,_⟩ | ⟨n2,h2⟩
   ·rw [e1,e2]
   ·rw [e1,aZ3 (by rw [<- p.len]; exact l1)] at h3
    rw [aX4 (Ne.symm n2)] at h4
    cases h3
    exact absurd h4 (ne h2)
  ·rw [aX4 (Ne.symm n1)] at h3
   rcases dP h2 with ⟨e2,l2,_⟩ | ⟨n2,h2⟩
   ·rw [e2,aZ3 (by rw [<- p.len]; exact l2)] at h4
    cases h4
    exact absurd h3 (ne h1)
   ·rw [aX4 (Ne.symm n2)] at h4
    exact p.dis j k y z b h1 h2 h3 h4
theorem Ev.own {a:Addr} (s:aD Hs H) (ha:Hs a=none):Ev W Hs (lK W a) H:=fun b o e n=>⟨s _ _ e,fun z=>z.elim n fun z=>by rw [z,ha] at e; cases e⟩
theorem kJ {g:Bool}{a b:Addr} (wa:W a) (h:Ms H0 W g b):b ≠ a:=by
 cases g with
 | true=>exact fun z=>h.1 (by rw [z]; exact wa)
 | false=>exact fun z=>h (by rw [z]; exact wa)
theorem PX.updOwn {i:Nat}{a:Addr}{x y:PV}{o:HO} (p:PX K H0 W σ ρ H) (hi:ρ[i]? = some (some (.own x))) (ha:σ[i]? = some (some (.ref a))) (wa:W a) (mu:fR o=true) (r:gI K (Ms H0 W true) (upd H a o) a y) :
  PX K H0 W σ (ρ.set i (some (.own y))) (upd H a o):=by
 obtain ⟨w0,o',e',mu'⟩:=p.wm a wa
 have kp:∀ g,gX (Ms H0 W g) (Ms H0 W g) H (upd H a o):=fun g=>.upd e' mu' fun b m=>⟨kJ wa m,m⟩
 refine⟨by rw [ba1]; exact p.len,fun b u e=>by rw [aH (fun z=>by rw [z,w0] at e; cases e)]; exact p.same _ _ e,fun b z=>?_,fun j m h=>?_,fun j k y' z b h1 h2 h3 h4=>?_⟩
 ·by_cases e:b=a
  ·subst e; exact⟨w0,o,b8,mu⟩
  ·obtain ⟨h1,o2,h2,h3⟩:=p.wm b z
   exact⟨h1,o2,by rw [aH e]; exact h2,h3⟩
 ·rcases dP h with ⟨rfl,hl,e⟩ | ⟨hne,h⟩
  ·cases e
   exact⟨_,ha,a,rfl,wa,r⟩
  ·obtain ⟨u,e,q⟩:=p.sl j m h
   refine⟨u,e,?_⟩
   cases m with
   | sh g y=>exact aF.keep (kp g) q
   | own y=>
    obtain ⟨b,e1,e2,q⟩:=q
    have hb:b ≠ a:=fun z=>by
     subst e1
     rw [z] at e
     exact hne (p.dis j i _ _ a h hi e ha)
    exact⟨b,e1,e2,q.keep (kp true) fun o z=>by rw [aH hb]; exact z⟩
 ·have g1:∃ y,ρ[j]? = some (some (.own y)):=by
   rcases dP h1 with ⟨e,_,_⟩ | ⟨_,h⟩
   ·exact⟨x,by rw [e]; exact hi⟩
   ·exact⟨_,h⟩
  have g2:∃ y,ρ[k]? = some (some (.own y)):=by
   rcases dP h2 with ⟨e,_,_⟩ | ⟨_,h⟩
   ·exact⟨x,by rw [e]; exact hi⟩
   ·exact⟨_,h⟩
  obtain ⟨y1,g1⟩:=g1
  obtain ⟨y2,g2⟩:=g2
  exact p.dis j k y1 y2 b g1 g2 h3 h4
theorem Ev.upd {a:Addr}{o:HO} (wa:W a):Ev W H W (upd H a o):=fun b u e n=>⟨by rw [aH (fun z=>n (by rw [z]; exact wa))]; exact e,n⟩
def nT (W:Addr->Prop) (a:Addr):Addr->Prop:=fun b=>W b/\b ≠ a
theorem uP {g:Bool}{a b:Addr} (h:Ms H0 W g b):Ms H0 (nT W a) g b:=by
 cases g with
 | true=>exact⟨fun z=>h.1 z.1,h.2⟩
 | false=>exact fun z=>h z.1
theorem PX.freeze {i:Nat}{a:Addr}{x:PV} (p:PX K H0 W σ ρ H) (hi:ρ[i]? = some (some (.own x))) (ha:σ[i]? = some (some (.ref a))):PX K H0 (nT W a) σ (ρ.set i (some (.sh true x))) H:=by
 obtain ⟨v,ev,a',e1,wa,r⟩:=p.sl i _ hi
 rw [ha] at ev
 cases ev
 cases e1
 refine⟨by rw [ba1]; exact p.len,p.same,fun b z=>p.wm b z.1,fun j m h=>?_,fun j k y' z b h1 h2 h3 h4=>?_⟩
 ·rcases dP h with ⟨rfl,hl,e⟩ | ⟨hne,h⟩
  ·cases e
   exact⟨_,ha,r.rep (M':=Ms H0 (nT W a) true) (fun b m=>uP (g:=true) m) (show Ms H0 (nT W a) true a from ⟨fun z=>z.2 rfl,(p.wm a wa).1⟩)⟩
  ·obtain ⟨u,e,q⟩:=p.sl j m h
   refine⟨u,e,?_⟩
   cases m with
   | sh g y=>exact aF.same q (aD.refl _) fun _ m=>uP m
   | own y=>
    obtain ⟨b,e1,e2,q⟩:=q
    have hb:b ≠ a:=fun z=>by
     subst e1
     rw [z] at e
     exact hne (p.dis j i _ _ a h hi e ha)
    exact⟨b,e1,⟨e2,hb⟩,q.keep (.same (aD.refl _) fun _ m=>uP m) fun _ z=>z⟩
 ·rcases dP h1 with ⟨_,_,e⟩ | ⟨_,h1⟩
  ·cases e
  ·rcases dP h2 with ⟨_,_,e⟩ | ⟨_,h2⟩
   ·cases e
   ·exact p.dis j k _ _ b h1 h2 h3 h4
theorem Ev.off {a:Addr}:Ev W H (nT W a) H:=fun b u e n=>⟨e,fun z=>n z.1⟩
end
section
variable {X : Cx} {σ : St} {H : Hp} {D : cJ} {te : aE} {t u : aK}
def cF:aK:=fun D ρ=>D.nx ρ
def aI (t u:aK):aK:=fun D ρ=>t { D with nx:=u D } ρ
theorem ar6 (h:LS X cF D σ H):xN D σ H:=by
 obtain ⟨W,ρ,D',px,q,k⟩:=h
 exact k.nx W σ H ρ (Ev.refl _ _) px q
theorem ar7 (h:LS X (aI t u) D σ H):sS (LS X t) (LS X u) D σ H:=by
 obtain ⟨W,ρ,D',px,q,k⟩:=h
 exact⟨W,ρ,_,px,q,fun W' σ' H' ρ' e px' q'=>⟨W',ρ',D',px',q',k.step e⟩,k.rt,k.bk,k.ct⟩
def uQ:aK:=fun D ρ=>D.bk ρ
theorem ar8 (h:LS X uQ D σ H):xO D σ H:=by
 obtain ⟨W,ρ,D',px,q,k⟩:=h
 exact k.bk W σ H ρ (Ev.refl _ _) px q
def F3:Tg->PV->Bool
 | .fr,_=>true
 | .nw,_=>true
 | _,x=>flat x
def F4:Tg->PV->Prop
 | .rd,x=>flat x=true
 | _,_=>True
theorem ar9 {K:PySem.W.Frag}{H0 Hs H:Hp}{W:Addr->Prop}{σ:St}{ρ:bJ}{g:Tg}{x:PV}{v:V} (px:PX K H0 W σ ρ Hs) (n:F4 g x) (r:aF K (Mg H0 W Hs g) H v x):aF K (Ms H0 W (F3 g x)) H v x:=by
 cases g with
 | fr=>exact Nw.rep (g:=.fr) px trivial r
 | nw=>exact Nw.rep (g:=.nw) px trivial r
 | sh=>
  show aF K (Ms H0 W (flat x)) H v x
  cases e:flat x with
  | true=>exact r.flat e
  | false=>exact r.same (aD.refl _) fun _ z=>z
 | rd=>exact r.flat n
def b5 (i:Nat) (te:aE):aK:=fun D ρ=>te ρ fun x g=>F4 g x/\D.nx (ρ.set i (some (.sh (F3 g x) x)))
theorem nU {i:Nat} (h:LS X (b5 i te) D σ H):jE (LE X te) (bP i) D σ H:=by
 obtain ⟨W,ρ,D',px,q,k⟩:=h
 refine⟨W,ρ,_,px,q,?_⟩
 rintro v H1 x g s r ⟨n,q⟩
 exact k.nx W _ H1 _ (Ev.same s) ((px.mono s).setSh (ar9 px n r)) q
def F5:PV->Bool
 | .lst xs=>flats xs
 | .dK ps=>flats (ps.map (·.2))
 | .dT ps=>flats (ps.map (·.2))
 | _=>false
theorem as0 {K:PySem.W.Frag}{M:Addr->Prop}{H:Hp}{v:V}{x:PV} (r:aF K M H v x) (o:F5 x=true):∃ a,v = .ref a/\M a/\∀ M',gI K M' H a x:=by
 cases r with
 | lst m e r=>exact⟨_,rfl,m,fun _=>⟨_,e,r.flat o⟩⟩
 | dK m e q r=>exact⟨_,rfl,m,fun _=>⟨_,e,q,r.flat o⟩⟩
 | dT m e q r=>exact⟨_,rfl,m,fun _=>⟨_,e,q,r.flat o⟩⟩
 | _=>cases o
def eI (i:Nat) (te:aE):aK:=fun D ρ=>te ρ fun x g=>g = .fr/\F5 x=true/\D.nx (ρ.set i (some (.own x)))
theorem F6 {i:Nat} (h:LS X (eI i te) D σ H):jE (LE X te) (bP i) D σ H:=by
 obtain ⟨W,ρ,D',px,q,k⟩:=h
 refine⟨W,ρ,_,px,q,?_⟩
 rintro v H1 x g s r ⟨rfl,o,q⟩
 obtain ⟨a,rfl,m,w⟩:=as0 r o
 exact k.nx _ _ H1 _ (Ev.own s m) (px.setOwn s m (w _)) q
def qB (i:Nat) (t:aK):aK:=fun D ρ=>∃ x,ρ[i]? = some (some (.own x))/\t D (ρ.set i (some (.sh true x)))
theorem as1 {i:Nat} (h:LS X (qB i t) D σ H):LS X t D σ H:=by
 obtain ⟨W,ρ,D',px,⟨x,hi,q⟩,k⟩:=h
 obtain ⟨v,ev,a,rfl,wa,r⟩:=px.sl i _ hi
 exact⟨_,_,D',px.freeze hi ev,q,k.step Ev.off⟩
def bE (te:aE):aK:=fun D ρ=>te ρ fun x g=>Nw g x/\D.rt x
theorem as2 (h:LS X (bE te) D σ H):l8 (LE X te) D σ H:=by
 obtain ⟨W,ρ,D',px,q,k⟩:=h
 refine⟨W,ρ,_,px,q,?_⟩
 rintro v H1 x g s r ⟨n,q⟩
 exact k.rt v H1 x (px.same.trans s) ((Nw.rep px n r).same (aD.refl _) fun _ z=>z.2) q
def Slot.nw:Slot->Prop
 | .own _=>True
 | .sh true _=>True
 | .sh false x=>flat x=true
def gK (i:Nat):aK:=fun D ρ=>∃ m,ρ[i]? = some (some m)/\m.nw/\D.rt m.val
theorem as3 {i:Nat} (h:LS X (gK i) D σ H):l8 (fN i) D σ H:=by
 obtain ⟨W,ρ,D',px,⟨m,hi,n,q⟩,k⟩:=h
 obtain ⟨v,ev,r⟩:=px.sl i _ hi
 refine⟨v,ev,k.rt v H _ px.same ?_ q⟩
 cases m with
 | own x=>
  obtain ⟨a,rfl,wa,r⟩:=r
  exact r.rep (fun _ z=>z.2) (px.wm a wa).1
 | sh g x=>
  cases g with
  | true=>exact aF.same r (aD.refl _) fun _ z=>z.2
  | false=>exact aF.flat n r
def cC (c:bT) (t u:aK):aK:=fun D ρ=>c ρ fun b=>if b=true then t D ρ else u D ρ
theorem as4 {c:bT} (h:LS X (cC c t u) D σ H):xP (LT X c) (LS X t) (LS X u) D σ H:=by
 obtain ⟨W,ρ,D',px,q,k⟩:=h
 refine⟨W,ρ,_,px,q,fun b H1 s q1=>?_⟩
 cases b with
 | true=>exact aY ⟨W,ρ,D',px.mono s,by simpa using q1,k.step (Ev.same s)⟩
 | false=>exact aU ⟨W,ρ,D',px.mono s,by simpa using q1,k.step (Ev.same s)⟩
def lM (c:bT) (tb:aK):aK:=fun D ρ=>∃ I:Nat->bJ->Prop,(∃ m,I m ρ)/\∀ m ρ',I m ρ'->c ρ' fun b=>if b=true then tb { D with nx:=fun ρ2=>∃ m',m' < m/\I m' ρ2,ct:=fun ρ2=>∃ m',m' < m/\I m' ρ2,bk:=D.nx } ρ' else D.nx ρ'
theorem as5 {c:bT}{tb:aK} (h:LS X (lM c tb) D σ H):xT (LT X c) (LS X tb) D σ H:=by
 obtain ⟨W,ρ,D',px,⟨I,⟨m0,i0⟩,turn⟩,k⟩:=h
 refine⟨fun m σ2 H2=>∃ W2 ρ2,PX X.K X.H₀ W2 σ2 ρ2 H2/\Ev W H W2 H2/\I m ρ2,⟨m0,W,ρ,px,Ev.refl _ _,i0⟩,?_⟩
 rintro m σ2 H2 ⟨W2,ρ2,px2,e2,i2⟩
 refine⟨W2,ρ2,_,px2,turn m ρ2 i2,fun b H3 s3 q3=>?_⟩
 cases b with
 | true=>
  refine aY ⟨fun σ4 H4=>∃ W4 ρ4,PX X.K X.H₀ W4 σ4 ρ4 H4/\Ev W H W4 H4/\∃ m',m' < m/\I m' ρ4,fun σ4 H4 ⟨W4,ρ4,a,b,m',c,d⟩=>⟨m',c,W4,ρ4,a,b,d⟩,W2,ρ2,_,px2.mono s3,by simpa using q3,?_⟩
  have e3:Ev W H W2 H3:=e2.trans (Ev.same s3)
  exact⟨fun W' σ' H' ρ' e p q=>⟨W',ρ',p,e3.trans e,q⟩,k.rt,fun W' σ' H' ρ' e p q=>k.nx W' σ' H' ρ' (e3.trans e) p q,fun W' σ' H' ρ' e p q=>⟨W',ρ',p,e3.trans e,q⟩⟩
 | false=>exact aU (k.nx W2 σ2 H3 ρ2 (e2.trans (Ev.same s3)) (px2.mono s3) (by simpa using q3))
end
theorem lim {n:Nat} (h:n<=16000000):n<=sizeLine:=ba4 (iB h)
theorem aF.sqT {K:PySem.W.Frag}{M:Addr->Prop}{H:Hp}{v:V}{xs:List PV} (r:aF K M H v (.tup xs)):∃ a us,v = .ref a/\H a=some (.tup us)/\Reps K M H us xs:=by
 cases r with
 | tup e r=>exact⟨_,_,rfl,e,r⟩
theorem aF.sqL {K:PySem.W.Frag}{M:Addr->Prop}{H:Hp}{v:V}{xs:List PV} (r:aF K M H v (.lst xs)):∃ a us,v = .ref a/\M a/\H a=some (.lst us)/\Reps K M H us xs:=by
 cases r with
 | lst m e r=>exact⟨_,_,rfl,m,e,r⟩
theorem iZ.sqL {K:PySem.W.Frag}{H:Hp}{a:Addr}{ns:List Int} (h:iZ K H a ns):aJ K H a (ns.map V.int):=h.elim (fun z=>.inl (.inr z)) .inr
def iD:PV->Option (List PV)
 | .tup xs=>some xs
 | .lst xs=>some xs
 | .scr ns=>some (intz ns)
 | .kt xs=>some xs
 | _=>none
theorem aF.seq {K:PySem.W.Frag}{M:Addr->Prop}{H:Hp}{v:V}{x:PV}{xs:List PV} (r:aF K M H v x) (e:iD x=some xs):∃ a us,v = .ref a/\(aJ K H a us ∨ aG K H a us)/\Reps K M H us xs:=by
 cases r with
 | tup h r=>cases e; exact⟨_,_,rfl,.inr (aG.of h),r⟩
 | lst m h r=>cases e; exact⟨_,_,rfl,.inl (aJ.of h),r⟩
 | scr h=>cases e; exact⟨_,_,rfl,.inl h.sqL,Reps.intz _⟩
 | kt h r=>cases e; exact⟨_,_,rfl,.inr (.inr h),r⟩
 | _=>cases e
section
variable {X : Cx} {σ : St} {H : Hp} {D : cJ} {te ti to : aE} {t u : aK} {Q' : VK}
theorem _root_.PP.PX.updL {K:PySem.W.Frag}{H0:Hp}{W:Addr->Prop}{σ:St}{ρ:bJ}{H:Hp}{i:Nat}{a:Addr}{x:PV}{us:List V}{ys:List PV} (p:PX K H0 W σ ρ H) (hi:ρ[i]? = some (some (.own x))) (ha:σ[i]? = some (some (.ref a))) (wa:W a) (r:Reps K (Ms H0 W true) (upd H a (.lst us)) us ys) :
  PX K H0 W σ (ρ.set i (some (.own (.lst ys)))) (upd H a (.lst us)):=p.updOwn hi ha wa rfl (y:=.lst ys) ⟨us,b8,r⟩
def lN (i:Nat) (te:aE):aK:=fun D ρ=>∃ xs,ρ[i]? = some (some (.own (.lst xs)))/\te ρ fun x g=>Nw g x/\xs.length < 16000000/\D.nx (ρ.set i (some (.own (.lst (xs ++ [x])))))
theorem as6 {i:Nat} (h:LS X (lN i te) D σ H):oV (zL X.K "list" zN (fN i) (jG (LE X te) kC)) D σ H:=by
 obtain ⟨W,ρ,D',px,⟨xs,hi,q⟩,k⟩:=h
 obtain ⟨v,ev,a,rfl,wa,us,ea,r⟩:=px.sl i _ hi
 refine⟨_,ev,uC (aJ.of ea),W,ρ,_,px,q,?_⟩
 rintro w H1 x g s rx ⟨n,hl,q⟩
 have ea1:=s _ _ ea
 refine⟨a,us,w,rfl,rfl,ea1,iB (by rw [r.length]; omega),?_⟩
 refine k.nx W σ _ _ ((Ev.same s).trans (Ev.upd wa)) ((px.mono s).updL hi ev wa ?_) q
 exact ((r.same s fun _ z=>z).append (.cons (Nw.rep px n rx) .nil)).keep (.upd ea1 rfl fun b m=>⟨kJ wa m,m⟩)
def uR (i:Nat) (tk te:aE):aK:=fun D ρ=>te ρ fun x g=>∃ xs,ρ[i]? = some (some (.own (.lst xs)))/\tk ρ fun y _=>∃ n j,y = .int n/\i9 xs.length n=some j/\Nw g x/\D.nx (ρ.set i (some (.own (.lst (xs.set j x)))))
theorem as7 {i:Nat}{tk:aE} (h:LS X (uR i tk te) D σ H):jE (LE X te) (sU (fN i) (LE X tk) tJ) D σ H:=by
 obtain ⟨W,ρ,D',px,q,k⟩:=h
 refine⟨W,ρ,_,px,q,?_⟩
 rintro w H1 x g s rx ⟨xs,hi,q1⟩
 obtain ⟨v,ev,a,rfl,wa,us,ea,r⟩:=(px.mono s).sl i _ hi
 refine⟨_,ev,W,ρ,_,px.mono s,q1,?_⟩
 rintro kv H2 y gy s2 ry ⟨n,j,rfl,hj,nw,q2⟩
 cases ry
 have ea2:=s2 _ _ ea
 refine⟨a,us,n,j,rfl,rfl,ea2,by rw [r.length]; exact hj,?_⟩
 refine k.nx W σ _ _ ((Ev.same (s.trans s2)).trans (Ev.upd wa)) ((px.mono (s.trans s2)).updL hi ev wa ?_) q2
 exact (Reps.set ((Nw.rep px nw rx).same s2 fun _ z=>z) j (r.same s2 fun _ z=>z)).keep (.upd ea2 rfl fun b m=>⟨kJ wa m,m⟩)
end
theorem Reps.atI {K:PySem.W.Frag}{M:Addr->Prop}{H:Hp}{us:List V}{xs:List PV}{i:Int}{z:PV} (r:Reps K M H us xs) (h:L2.atI xs i=some z):∃ v,L2.atI us i=some v/\aF K M H v z:=by
 unfold L2.atI at h ⊢
 rw [r.length]
 cases e:i9 xs.length i with
 | none=>rw [e] at h; cases h
 | some j=>rw [e] at h; exact r.at h
section
variable {X : Cx} {σ : St} {H : Hp} {Q' : VK} {ta tb te : aE} {tr : cL}
def uS:PV->Tg->PV->Tg->PK->Prop:=fun x g y _ Q=>∃ xs i z,iD x=some xs/\y = .int i/\L2.atI xs i=some z/\Q z g
theorem as8:eG X uS (zH X.K):=by
 rintro W Hs H u v x y g g' Q Q' s n r1 r2 ⟨xs,i,z,e,rfl,hz,q⟩ k
 cases r2
 obtain ⟨a,us,rfl,hs,r⟩:=r1.seq e
 obtain ⟨v,hv,rv⟩:=r.atI hz
 rcases hs with hs | hs
 ·exact .inl ⟨a,us,i,v,rfl,rfl,hs,hv,k v H z g (aD.refl _) rv q⟩
 ·exact .inr (.inl ⟨a,us,i,v,rfl,rfl,hs,hv,k v H z g (aD.refl _) rv q⟩)
def uT:PV->Option Nat
 | .tup xs=>some xs.length
 | .lst xs=>some xs.length
 | .scr ns=>some ns.length
 | .dK ps=>some ps.length
 | .kt xs=>some xs.length
 | _=>none
def dU:List PV->(PV->Prop)->Prop:=fun xs Q=>∃ x n,xs = [x]/\uT x=some n/\Q (.int n)
theorem Reps.one {K:PySem.W.Frag}{M:Addr->Prop}{H:Hp}{vs:List V}{x:PV} (r:Reps K M H vs [x]):∃ v,vs = [v]/\aF K M H v x:=by
 cases r with
 | cons r t=>cases t; exact⟨_,rfl,r⟩
theorem Reps.two {K:PySem.W.Frag}{M:Addr->Prop}{H:Hp}{vs:List V}{x y:PV} (r:Reps K M H vs [x,y]):∃ v w,vs = [v,w]/\aF K M H v x/\aF K M H w y:=by
 cases r with
 | cons r t=>
  obtain ⟨w,rfl,q⟩:=t.one
  exact⟨_,_,rfl,r,q⟩
theorem as9:eQ X dU (fun xs H Q=>(∃ p ys,xs = [.ref p]/\(aJ X.K H p ys ∨ aG X.K H p ys)/\Q (.int ys.length) H) ∨ ∃ a kvs,xs = [V.ref a]/\H a=some (.dK kvs)/\Q (.int kvs.length) H):=by
 rintro H vs xs Q Q' r ⟨x,n,rfl,e,q⟩ k
 obtain ⟨v,rfl,r1⟩:=r.one
 have fin:∀ {m:Nat},m=n->Q' (.int m) H:=fun {m} z=>by rw [z]; exact k _ _ _ (aD.refl _) (.int _) q
 cases r1 with
 | tup h r2=>cases e; exact .inl ⟨_,_,rfl,.inr (aG.of h),fin r2.length⟩
 | lst m h r2=>cases e; exact .inl ⟨_,_,rfl,.inl (aJ.of h),fin r2.length⟩
 | scr h=>cases e; exact .inl ⟨_,_,rfl,.inl h.sqL,fin (by rw [aV1])⟩
 | kt h r2=>cases e; exact .inl ⟨_,_,rfl,.inr (.inr h),fin r2.length⟩
 | dK m h e' r=>
  cases e
  refine .inr ⟨_,_,rfl,h,fin ?_⟩
  have:=congrArg List.length e'
  rw [aV1,aV1] at this
  exact this
 | _=>cases e
def seqT:PV->Option (List PV)
 | .kt _=>none
 | x=>iD x
def F7:List PV->(PV->Prop)->Prop:=fun xs Q=>∃ x ys,xs = [x]/\seqT x=some ys/\flats ys=true/\Q (.tup ys)
def nV:List PV->(PV->Prop)->Prop:=fun xs Q=>∃ x ys,xs = [x]/\iD x=some ys/\flats ys=true/\Q (.lst ys)
theorem at0:eQ X (fun xs Q=>F7 xs Q/\∀ ns,xs ≠ [.scr ns]) (fun xs H Q=>∃ p ys,xs = [.ref p]/\((aJ X.K H p ys/\∀ l,H l=none->Q (.ref l) (upd H l (.tup ys))) ∨ (aG X.K H p ys/\Q (.ref p) H))):=by
 rintro H vs xs Q Q' r ⟨⟨x,ys,rfl,e,f,q⟩,nsc⟩ k
 obtain ⟨v,rfl,r1⟩:=r.one
 cases r1 with
 | tup h r2=>cases e; exact⟨_,_,rfl,.inr ⟨aG.of h,k _ _ _ (aD.refl _) (.tup h (r2.flat f)) q⟩⟩
 | lst m h r2=>cases e; exact⟨_,_,rfl,.inl ⟨aJ.of h,fun l hl=>k _ _ _ (bD hl _) (.tup b8 ((r2.flat f).same (bD hl _) fun _ z=>z)) q⟩⟩
 | scr h=>exact absurd rfl (nsc _)
 | _=>cases e
theorem at2:eQ X nV (fun xs H Q=>∃ p ys,xs = [.ref p]/\(aJ X.K H p ys ∨ aG X.K H p ys)/\∀ l,H l=none->Q (.ref l) (upd H l (.lst ys))):=by
 rintro H vs xs Q Q' r ⟨x,ys,rfl,e,f,q⟩ k
 obtain ⟨v,rfl,r1⟩:=r.one
 obtain ⟨a,us,rfl,hs,r2⟩:=r1.seq e
 exact⟨_,_,rfl,hs,fun l hl=>k _ _ _ (bD hl _) (.lst hl b8 ((r2.flat f).same (bD hl _) fun _ z=>z)) q⟩
def uU:List PV->(PV->Prop)->Prop:=fun xs Q=>∃ bs:List Bool,xs = [.lst (bs.map PV.bl)]/\Q (.bl (bs.all id))
theorem Reps.ofBls {K:PySem.W.Frag}{M:Addr->Prop}{H:Hp}:∀ {ns:List Bool}{us:List V},Reps K M H us (ns.map PV.bl)->us=ns.map V.bl
 | [],_,.nil=>rfl
 | n :: r,_,.cons q t=>by
  cases q
  rw [Reps.ofBls t]; rfl
theorem at3:eQ X uU (fun xs H Q=>∃ (a:Addr) (bs:List Bool),xs = [.ref a]/\aJ X.K H a (bs.map V.bl)/\Q (.bl (bs.all id)) H):=by
 rintro H vs xs Q Q' r ⟨bs,rfl,q⟩ k
 obtain ⟨v,rfl,r1⟩:=r.one
 obtain ⟨a,us,rfl,_,h,r2⟩:=r1.sqL
 obtain rfl:=r2.ofBls
 exact⟨a,bs,rfl,aJ.of h,k _ _ _ (aD.refl _) (.bl _) q⟩
def lO:List PV->(PV->Prop)->Prop:=fun xs Q=>∃ i j,xs = [.int i,.int j]/\Q (.int (if j < i then j else i))
def kK:List PV->(PV->Prop)->Prop:=fun xs Q=>∃ i j,xs = [.int i,.int j]/\Q (.int (if j > i then j else i))
theorem at4:eQ X lO (fun xs H Q=>∃ i j,xs = [.int i,.int j]/\Q (.int (if j < i then j else i)) H):=by
 rintro H vs xs Q Q' r ⟨i,j,rfl,q⟩ k
 obtain ⟨v,w,rfl,r1,r2⟩:=r.two
 cases r1; cases r2
 exact⟨i,j,rfl,k _ _ _ (aD.refl _) (.int _) q⟩
theorem at5:eQ X kK (fun xs H Q=>∃ i j,xs = [.int i,.int j]/\Q (.int (if j > i then j else i)) H):=by
 rintro H vs xs Q Q' r ⟨i,j,rfl,q⟩ k
 obtain ⟨v,w,rfl,r1,r2⟩:=r.two
 cases r1; cases r2
 exact⟨i,j,rfl,k _ _ _ (aD.refl _) (.int _) q⟩
abbrev bF:=List PV->(PV->Prop)->Prop
def nW (K:PySem.W.Frag) (p:bF):Sp:=fun vs H Q _=>∃ xs Qp,Reps K (fun _=>True) H vs xs/\p xs Qp/\∀ v H' x,aD H H'->aF K (fun a=>H a=none) H' v x->Qp x->Q v H'
theorem at6 {p:bF}{E:XK} (h:LE X (aC p tr) σ H Q'):t7 (nW X.K p) [] E (LA X tr) σ H Q':=by
 obtain ⟨W,ρ,Q,px,q,k⟩:=h
 refine⟨W,ρ,_,px,q,fun vs H1 xs s1 r1 q1=>⟨_,_,by rw [aY4]; exact r1.any,q1,fun v H' x s2 r2 q2=>k v H' x .fr (s1.trans s2) (r2.same (aD.refl _) fun _ z=>s1.free z) q2⟩⟩
def at7:PV->Option Bool
 | .non=>some false
 | .bl b=>some b
 | .int i=>some (i != 0)
 | .tup xs=>some (!xs.isEmpty)
 | .lst xs=>some (!xs.isEmpty)
 | .dK ps=>some (!ps.isEmpty)
 | _=>none
def nX (t:aE):bT:=fun ρ Q=>t ρ fun x _=>∃ b,at7 x=some b/\Q b
theorem uV {α β:Type}:∀ {l:List α}{m:List β},l.length=m.length->l.isEmpty=m.isEmpty
 | [],[],_=>rfl
 | _ :: _,_ :: _,_=>rfl
theorem at8 {t:aE}{Qb:Bool->Hp->Prop} (h:LT X (nX t) σ H Qb):LE X t σ H fun x H'=>∃ k,sZ X.K x H' k/\Qb k H':=by
 obtain ⟨W,ρ,Q,px,q,k⟩:=h
 refine⟨W,ρ,_,px,q,?_⟩
 rintro v H1 x g s r ⟨b,e,q⟩
 refine⟨b,?_,k _ _ s q⟩
 cases r with
 | non=>cases e; rfl
 | bl b=>cases e; rfl
 | int i=>cases e; rfl
 | str x=>cases e
 | tup h r=>cases e; exact .inr (.inl ⟨_,aG.of h,by rw [uV r.length]⟩)
 | lst m h r=>cases e; exact .inl ⟨_,aJ.of h,by rw [uV r.length]⟩
 | dK m h e' r=>
  cases e
  refine .inr (.inr ⟨_,h,?_⟩)
  have:=congrArg List.length e'
  rw [aV1,aV1] at this
  rw [uV this]
 | dT m h e' r=>cases e
 | scr h=>cases e
 | kt h r=>cases e
 | exc h e' c=>cases e
def uW:PV->Bool
 | .non=>true
 | _=>false
def uX (neg:Bool):PV->Tg->PV->Tg->PK->Prop:=fun x _ y _ Q=>y = .non/\Q (.bl (if neg=true then !uW x else uW x)) .fr
theorem at9 {K:PySem.W.Frag}{M:Addr->Prop}{H:Hp}{v:V}{x:PV} (r:aF K M H v x):decide (v = .non)=uW x:=by
 cases r <;> rfl
theorem au0:eG X (uX true) (fun x y H Q=>y = .non/\Q (.bl (!decide (x = .non))) H):=by
 rintro W Hs H u v x y g g' Q Q' s n r1 r2 ⟨rfl,q⟩ k
 cases r2
 exact⟨rfl,by rw [at9 r1]; exact k _ _ _ _ (aD.refl _) (.bl _) q⟩
end
structure lP (K:PySem.W.Frag) (H0:Hp) (W:Addr->Prop) (g:Bool) (H1:Hp) (J:It) (xs:List PV):Prop where
 go:∀ W' H' i,Ev W H1 W' H'->i < xs.length->J.go i H'
 yld:∀ W' H' i v H2,Ev W H1 W' H'->J.yld i H' v H2->i < xs.length->aD H' H2/\∃ x,xs[i]? = some x/\aF K (Ms H0 W' g) H2 v x
 stop:∀ W' H',Ev W H1 W' H'->J.stop xs.length H'
abbrev dW:=bJ->(List PV->Bool->Prop)->Prop
def LI (X:Cx) (t:dW):TI:=fun σ H R=>∃ (W:Addr->Prop) (ρ:bJ) (Q:List PV->Bool->Prop),PX X.K X.H₀ W σ ρ H/\t ρ Q/\∀ J H1 xs g,aD H H1->lP X.K X.H₀ W g H1 J xs->Q xs g->R J H1
theorem Ev.keep {H0:Hp}{W W':Addr->Prop}{H H':Hp}{g:Bool} (e:Ev W H W' H') (tw:∀ a,W a->∃ o,H a=some o/\fR o=true):gX (Ms H0 W g) (Ms H0 W' g) H H':=by
 have m:∀ {a:Addr}{o:HO},Ms H0 W g a->H a=some o->Ms H0 W' g a/\H' a=some o:=fun {a o} z h=>by
  cases g with
  | true=>
   obtain ⟨h1,h2⟩:=e a _ h z.1
   exact⟨⟨h2,z.2⟩,h1⟩
  | false=>
   obtain ⟨h1,h2⟩:=e a _ h z
   exact⟨h2,h1⟩
 refine⟨fun a _ z h=>m z h,fun a _ z h=>m z h,fun a _ z h=>m z h,fun a _ h=>(e a _ h fun z=>?_).1,fun a _ _ h=>(e a _ h fun z=>?_).1⟩
 ·obtain ⟨o,h',mu⟩:=tw a z; rw [h] at h'; cases h'; cases mu
 ·obtain ⟨o,h',mu⟩:=tw a z; rw [h] at h'; cases h'; cases mu
section
variable {X : Cx} {σ : St} {H : Hp} {te : aE} {tr : cL} {R : It → Hp → Prop}
def F8 (K:PySem.W.Frag) (tl:TE):TI:=fun σ H R=>tl σ H fun x H1=>∃ a,x = .ref a/\((∃ xs,aJ K H1 a xs/\R (lC K a) H1) ∨ (∃ xs,aG K H1 a xs/\R (jF K a) H1))
def kL:Tg->List PV->Bool
 | .fr,_=>true
 | .nw,_=>true
 | _,xs=>flats xs
def dG (te:aE):dW:=fun ρ Q=>te ρ fun x g=>∃ xs,iD x=some xs/\(g = .rd->flat x=true)/\Q xs (kL g xs)
theorem F9 {K:PySem.W.Frag}{H0:Hp}{W:Addr->Prop}{g:Bool}{H1:Hp}{a:Addr}{us:List V}{xs:List PV} (tw:∀ a,W a->∃ o,H1 a=some o/\fR o=true) (ha:∀ W' H',Ev W H1 W' H'->aJ K H' a us) (r:Reps K (Ms H0 W g) H1 us xs):lP K H0 W g H1 (lC K a) xs:=by
 have lr:=r.length
 refine⟨fun W' H' i e hi=>⟨us,us[i]'(by omega),ha W' H' e,by simp⟩,fun W' H' i v H2 e y hi=>?_,fun W' H' e=>⟨us,ha W' H' e,by omega⟩⟩
 obtain ⟨rfl,y⟩:=y
 obtain ⟨x,hx,rx⟩:=r.get (y us (ha W' _ e))
 exact⟨aD.refl _,x,hx,rx.keep (e.keep tw)⟩
theorem G0 {K:PySem.W.Frag}{H0:Hp}{W:Addr->Prop}{g:Bool}{H1:Hp}{a:Addr}{us:List V}{xs:List PV} (tw:∀ a,W a->∃ o,H1 a=some o/\fR o=true) (ha:∀ W' H',Ev W H1 W' H'->aG K H' a us) (r:Reps K (Ms H0 W g) H1 us xs):lP K H0 W g H1 (jF K a) xs:=by
 have lr:=r.length
 refine⟨fun W' H' i e hi=>⟨us,us[i]'(by omega),ha W' H' e,by simp⟩,fun W' H' i v H2 e y hi=>?_,fun W' H' e=>⟨us,ha W' H' e,by omega⟩⟩
 obtain ⟨rfl,y⟩:=y
 obtain ⟨x,hx,rx⟩:=r.get (y us (ha W' _ e))
 exact⟨aD.refl _,x,hx,rx.keep (e.keep tw)⟩
theorem kM {K:PySem.W.Frag}{H0 Hs H:Hp}{W:Addr->Prop}{σ:St}{ρ:bJ}{g:Tg}{us:List V}{xs:List PV} (px:PX K H0 W σ ρ Hs) (hg:g = .rd->flats xs=true) (r:Reps K (Mg H0 W Hs g) H us xs):Reps K (Ms H0 W (kL g xs)) H us xs:=by
 cases g with
 | fr=>exact r.same (aD.refl _) fun _ z=>px.new z
 | nw=>exact r.same (aD.refl _) fun _ z=>z
 | sh=>
  show Reps K (Ms H0 W (flats xs)) H us xs
  cases e:flats xs with
  | true=>exact r.flat e
  | false=>exact r.same (aD.refl _) fun _ z=>z
 | rd=>exact r.flat (hg rfl)
theorem au1 (h:LI X (dG te) σ H R):F8 X.K (LE X te) σ H R:=by
 obtain ⟨W,ρ,Q,px,q,k⟩:=h
 refine⟨W,ρ,_,px,q,?_⟩
 rintro v H1 x g s r ⟨xs,e,hg,q⟩
 have px1:=px.mono s
 have tw:∀ a,W a->∃ o,H1 a=some o/\fR o=true:=fun a z=>(px1.wm a z).2
 cases r with
 | tup h r=>
  cases e
  refine⟨_,rfl,.inr ⟨_,aG.of h,k _ _ _ _ s (G0 tw (fun W' H' e=>aG.of (e _ _ h fun z=>?_).1) (kM px (fun z=>by have:=hg z; unfold flat at this; exact this) r)) q⟩⟩
  obtain ⟨o,h',mu⟩:=tw _ z; rw [h] at h'; cases h'; cases mu
 | @lst a us xs' m h r=>
  cases e
  have wa : ¬ W a:=by
   cases g with
   | fr=>exact (px.new m).1
   | nw=>exact m.1
   | sh=>exact m
   | rd=>have:=hg rfl; unfold flat at this; cases this
  exact⟨_,rfl,.inl ⟨_,aJ.of h,k _ _ _ _ s (F9 tw (fun W' H' e=>aJ.of (e _ _ h wa).1) (kM px (fun z=>by have:=hg z; unfold flat at this; cases this) r)) q⟩⟩
 | scr h=>
  cases e
  refine⟨_,rfl,.inl ⟨_,h.sqL,k _ _ _ _ s (F9 tw (fun W' H' e=>(iZ.keep (fun a o u hz=>(e _ _ hz fun z=>?_).1) h).sqL) (kM (g:=g) px (fun z=>c8 _) (Reps.intz _))) q⟩⟩
  obtain ⟨o,h',mu⟩:=tw _ z; rw [hz] at h'; cases h'; cases mu
 | kt h r=>
  cases e
  exact⟨_,rfl,.inr ⟨_,.inr h,k _ _ _ _ s (G0 tw (fun W' H' e=>.inr h) (kM px (fun z=>by have:=hg z; unfold flat at this; exact this) r)) q⟩⟩
 | _=>cases e
def fC (lo:Int) (n:Nat):List PV:=(List.range n).map fun (i:Nat)=>PV.int (lo+(i:Int))
theorem cO (lo:Int) (n:Nat):(fC lo n).length=n:=by unfold fC; rw [aV1,be3]
theorem G1 {lo:Int}{n i:Nat} (h:i < n):(fC lo n)[i]? = some (.int (lo+i)):=by unfold fC; rw [aV7,List.getElem?_range h]; rfl
def fD (te:aE):dW:=fun ρ Q=>te ρ fun x _=>∃ j:Int,x = .int j/\-1000000<=j/\j<=1000000/\Q (fC 0 j.toNat) true
def uY (ta tb:aE):dW:=fun ρ Q=>ta ρ fun x _=>tb ρ fun y _=>∃ i j:Int,x = .int i/\y = .int j/\(-1000000<=i/\i<=1000000/\-1000000<=j/\j<=1000000)/\Q (fC i (j - i).toNat) true
theorem G2 {K:PySem.W.Frag}{H0:Hp}{W:Addr->Prop}{H1:Hp} (lo:Int) (n:Nat):lP K H0 W true H1 (mT lo n) (fC lo n):=by
 refine⟨fun W' H' i e hi=>by rw [cO] at hi; exact hi,fun W' H' i v H2 e y hi=>?_,fun W' H' e=>by show n<=(fC lo n).length; rw [cO]; exact aV0 _⟩
 rw [cO] at hi
 obtain ⟨rfl,rfl⟩:=y
 exact⟨aD.refl _,_,G1 hi,.int _⟩
theorem au2 (h:LI X (fD te) σ H R):xY (jG (LE X te) kC) σ H R:=by
 obtain ⟨W,ρ,Q,px,q,k⟩:=h
 refine⟨W,ρ,_,px,q,?_⟩
 rintro v H1 x g s r ⟨j,rfl,h1,h2,q⟩
 cases r
 exact⟨j,rfl,by omega,by omega,k _ _ _ _ s (G2 0 j.toNat) q⟩
theorem au3 {ta tb:aE} (h:LI X (uY ta tb) σ H R):xZ (jG (LE X ta) (jG (LE X tb) kC)) σ H R:=by
 obtain ⟨W,ρ,Q,px,q,k⟩:=h
 refine⟨W,ρ,_,px,q,fun v H1 x g s r q=>⟨W,ρ,_,px.mono s,q,?_⟩⟩
 rintro w H2 y g' s2 r2 ⟨i,j,rfl,rfl,h,q⟩
 cases r; cases r2
 exact⟨i,j,rfl,by omega,k _ _ _ _ (s.trans s2) (G2 i (j - i).toNat) q⟩
end
abbrev iE:=PV->Bool->bJ->(bJ->Prop)->Prop
def lQ (K:PySem.W.Frag) (own:Nat->Prop) (p:iE) (t:TG):Prop:=∀ (H0:Hp) (W:Addr->Prop) (σ:St) (ρ:bJ) (H:Hp) (v:V) (x:PV) (g:Bool) (Q:bJ->Prop) (Q':St->Hp->Prop),
 PX K H0 W σ ρ H->aF K (Ms H0 W g) H v x->p x g ρ Q->(∀ σ' ρ',PX K H0 W σ' ρ' H->(∀ i,¬ own i->σ'[i]? = σ[i]?)->σ'.length=σ.length->Q ρ'->Q' σ' H)->t v σ H Q'
def bG (i:Nat):iE:=fun x g ρ Q=>Q (ρ.set i (some (.sh (g || flat x) x)))
theorem qD {K:PySem.W.Frag}{H0 H:Hp}{W:Addr->Prop}{v:V}{x:PV}{g:Bool} (r:aF K (Ms H0 W g) H v x):aF K (Ms H0 W (g || flat x)) H v x:=by
 cases g with
 | true=>exact r
 | false=>
  show aF K (Ms H0 W (flat x)) H v x
  cases e:flat x with
  | true=>exact r.flat e
  | false=>exact r
theorem jN (K:PySem.W.Frag) (i:Nat):lQ K (· = i) (bG i) (bP i):=by
 intro H0 W σ ρ H v x g Q Q' px r q k
 exact k _ _ (px.setSh (qD r)) (fun j hj=>by rw [aX4 (Ne.symm hj)]) (ba1 ..) q
def gY (i j:Nat):iE:=fun x g ρ Q=>∃ y z,x = .tup [y,z]/\Q ((ρ.set i (some (.sh (g || flat y) y))).set j (some (.sh (g || flat z) z)))
theorem qE (K:PySem.W.Frag) (i j:Nat):lQ K (fun k=>k=i ∨ k=j) (gY i j) (i7 K 2 (dI (bP i) (dI (bP j) i6))):=by
 intro H0 W σ ρ H v x g Q Q' px r q k
 obtain ⟨y,z,rfl,q⟩:=q
 obtain ⟨a,us,rfl,h,r⟩:=r.sqT
 obtain ⟨u1,u2,rfl,r1,r2⟩:=r.two
 refine⟨a,_,rfl,aG.of h,rfl,u1,_,rfl,u2,_,rfl,rfl,k _ _ ((px.setSh (qD r1)).setSh (qD r2)) (fun k hk=>?_) (by rw [ba1,ba1]) q⟩
 rw [aX4 (fun e=>hk (.inr e.symm)),aX4 (fun e=>hk (.inl e.symm))]
section
variable {X : Cx} {σ : St} {H : Hp} {D : cJ}
def dX (ti:dW) (p:iE) (tb:aK):aK:=fun D ρ=>ti ρ fun xs g=>∃ I:Nat->bJ->Prop,I 0 ρ/\(∀ i x ρ',xs[i]? = some x->I i ρ'->p x g ρ' fun ρ2=>tb { D with nx:=I (i+1),ct:=I (i+1),bk:=D.nx } ρ2)/\∀ ρ',I xs.length ρ'->D.nx ρ'
theorem au4 {ti:dW}{p:iE}{g:TG}{tb:aK}{own:Nat->Prop} (hg:lQ X.K own p g) (h:LS X (dX ti p tb) D σ H):y3 (LI X ti) g (LS X tb) D σ H:=by
 obtain ⟨W,ρ,D',px,q,k⟩:=h
 refine⟨W,ρ,_,px,q,?_⟩
 rintro J H1 xs gb s it ⟨I,i0,turn,fin⟩
 refine⟨fun i m σ2 H2=>m=xs.length - i/\i<=xs.length/\∃ W2 ρ2,PX X.K X.H₀ W2 σ2 ρ2 H2/\Ev W H1 W2 H2/\I i ρ2,⟨xs.length,by omega,aZ2 _,W,ρ,px.mono s,Ev.refl _ _,i0⟩,?_⟩
 rintro i m σ2 H2 ⟨rfl,hi,W2,ρ2,px2,e2,i2⟩
 have e0:Ev W H W2 H2:=(Ev.same s).trans e2
 by_cases hlt:i < xs.length
 ·refine .inr ⟨it.go W2 H2 i e2 hlt,fun σ3 H3=>∃ W3 ρ3,PX X.K X.H₀ W3 σ3 ρ3 H3/\Ev W H1 W3 H3/\I (i+1) ρ3,fun σ3 H3 ⟨W3,ρ3,a,b,c⟩=>⟨xs.length - (i+1),by omega,rfl,hlt,W3,ρ3,a,b,c⟩,fun v H3 y=>?_⟩
  obtain ⟨s3,x,hx,rx⟩:=it.yld W2 H2 i v H3 e2 y hlt
  refine hg X.H₀ W2 σ2 ρ2 H3 v x gb _ _ (px2.mono s3) rx (turn i x ρ2 hx i2) fun σ4 ρ4 px4 _ _ q4=>?_
  have e3:Ev W H1 W2 H3:=e2.trans (Ev.same s3)
  have e3':Ev W H W2 H3:=e0.trans (Ev.same s3)
  exact⟨W2,ρ4,_,px4,q4,fun W' σ' H' ρ' e p q=>⟨W',ρ',p,e3.trans e,q⟩,k.rt,fun W' σ' H' ρ' e p q=>k.nx W' σ' H' ρ' (e3'.trans e) p q,fun W' σ' H' ρ' e p q=>⟨W',ρ',p,e3.trans e,q⟩⟩
 ·have e:i=xs.length:=by omega
  subst e
  exact .inl ⟨it.stop W2 H2 e2,k.nx W2 σ2 H2 ρ2 e0 px2 (fin ρ2 i2)⟩
end
def fS (fr:List (Option Nat)) (ρ:bJ):bJ:=fr.map fun o=>o.bind fun j=>(ρ[j]?).join.map fun m=>Slot.sh false m.val
def gL (D:Addr):Addr->Prop:=fun a=>a=D
theorem au5 {K:PySem.W.Frag}{H0:Hp}{W:Addr->Prop}{σ:St}{ρ:bJ}{H1 H':Hp}{D:Addr}{acc:List V}{fr:List (Option Nat)} (px:PX K H0 W σ ρ H1) (hD:H1 D=none) (s:aD H1 H') (ha:H' D=some (.lst acc)) :
  PX K H1 (gL D) (dO fr σ) (fS fr ρ) H':=by
 have old:∀ {a:Addr}{o:HO},H1 a=some o->a ≠ D:=fun {a o} e z=>by rw [z,hD] at e; cases e
 refine⟨by unfold dO fS; rw [aV1,aV1],s,fun a z=>by cases z; exact⟨hD,_,ha,rfl⟩,fun i m h=>?_,fun i j x y a h1=>?_⟩
 ·unfold fS at h
  rw [aV7] at h
  cases ef:fr[i]? with
  | none=>rw [ef] at h; cases h
  | some o=>
   rw [ef] at h
   cases o with
   | none=>cases h
   | some j=>
    have h:some ((ρ[j]?).join.map fun m=>Slot.sh false m.val)=some (some m):=h
    cases er:ρ[j]? with
    | none=>rw [er] at h; cases h
    | some o=>
     rw [er] at h
     cases o with
     | none=>cases h
     | some m0=>
      cases h
      obtain ⟨v,ev,r⟩:=px.sl j m0 er
      refine⟨v,?_,?_⟩
      ·unfold dO
       rw [aV7,ef]
       show some ((σ[j]?).join)=_
       rw [ev]; rfl
      ·have r':aF K (fun _=>True) H1 v m0.val:=(pX (Hs:=H1) r).same (aD.refl _) fun _ _=>trivial
       exact r'.keep ⟨fun a _ _ e=>⟨old e,s _ _ e⟩,fun a _ _ e=>⟨old e,s _ _ e⟩,fun a _ _ e=>⟨old e,s _ _ e⟩,fun _ _ e=>s _ _ e,fun _ _ _ e=>s _ _ e⟩
 ·unfold fS at h1
  rw [aV7] at h1
  cases ef:fr[i]? with
  | none=>rw [ef] at h1; cases h1
  | some o=>
   rw [ef] at h1
   cases o with
   | none=>cases h1
   | some j=>
    have h1:some ((ρ[j]?).join.map fun m=>Slot.sh false m.val)=some (some (Slot.own x)):=h1
    cases er:ρ[j]? with
    | none=>rw [er] at h1; cases h1
    | some o=>
     rw [er] at h1
     cases o with
     | none=>cases h1
     | some m0=>cases h1
section
variable {X : Cx} {σ : St} {H : Hp} {Q' : VK}
abbrev _root_.L2.Cx.frm (X:Cx) (H1:Hp):Cx:={ X with H₀:=H1 }
def bU (ti:dW) (fr:List (Option Nat)) (p:iE) (tc:bT) (te:aE):aE:=fun ρ Q=>ti ρ fun xs g=>xs.length<=16000000/\∃ I:Nat->List PV->Prop,I 0 []/\
 (∀ i x acc,xs[i]? = some x->I i acc->p x false (fS fr ρ) fun ρ2=>tc ρ2 fun b=>if b=true then te ρ2 fun y gy=>Nw gy y/\I (i+1) (acc ++ [y]) else I (i+1) acc)/\∀ acc,I xs.length acc->Q (.lst acc) .fr
theorem j4 {ti:dW}{fr:List (Option Nat)}{p:iE}{g:TG}{tc:bT}{te:aE}{own:Nat->Prop} (hg:lQ X.K own p g) (ho:∀ i,own i->fr[i]? = some none) (h:LE X (bU ti fr p tc te) σ H Q') :
  pN (LI X ti) fr (fun _=>g) (fun H1=>LT (X.frm H1) tc) (fun H1=>LE (X.frm H1) te) σ H Q':=by
 obtain ⟨W,ρ,Q,px,q,k⟩:=h
 refine⟨W,ρ,_,px,q,?_⟩
 rintro J H1 xs gb s it ⟨hl,I,i0,turn,fin⟩ D hD
 have px1:=px.mono s
 refine⟨fun i m acc H'=>m=xs.length - i/\i<=xs.length/\aD H1 H'/\H' D=some (.lst acc)/\∃ ys,Reps X.K (Ms H1 (gL D) true) H' acc ys/\ys.length<=i/\I i ys,⟨xs.length,by omega,aZ2 _,bD hD _,b8,[],.nil,aV0 _,i0⟩,?_⟩
 rintro i m acc H' ⟨rfl,hi,sm,ha,ys,ry,hy,iy⟩
 refine⟨ha,?_⟩
 have ev:Ev W H1 (lK W D) H':=Ev.own sm hD
 by_cases hlt:i < xs.length
 ·refine .inr ⟨it.go _ H' i ev hlt,fun v H2 y=>?_⟩
  obtain ⟨s2,x,hx,rx⟩:=it.yld _ H' i v H2 ev y hlt
  have ha2:=s2 _ _ ha
  have pxb:PX X.K H1 (gL D) (dO fr σ) (fS fr ρ) H2:=au5 px1 hD (sm.trans s2) ha2
  have rx':aF X.K (Ms H1 (gL D) false) H2 v x:=rx.same (aD.refl _) fun a z=>by
   cases gb with
   | true=>exact fun e=>z.1 (.inr e)
   | false=>exact fun e=>z (.inr e)
  refine hg H1 (gL D) _ _ H2 v x false _ _ pxb rx' (turn i x ys hx iy) fun σ2 ρ2 px2 hown hlen q2=>⟨⟨hlen.symm,fun j w e=>?_⟩,?_⟩
  ·by_cases oj:own j
   ·have:=ho j oj
    unfold dO at e
    rw [aV7,this] at e
    cases e
   ·rw [hown j oj]; exact e
  ·refine⟨gL D,ρ2,_,px2,q2,fun b H4 s4 q4=>?_⟩
   have ha4:=s4 _ _ ha2
   have sm4:=(sm.trans s2).trans s4
   cases b with
   | false=>
    refine aU ⟨xs.length - (i+1),by omega,rfl,hlt,sm4,ha4,ys,ry.same (s2.trans s4) fun _ z=>z,by omega,by simpa using q4⟩
   | true=>
    refine aY ⟨gL D,ρ2,_,px2.mono s4,by simpa using q4,?_⟩
    rintro w H5 y gy s5 ryy ⟨nw,q5⟩
    have ha5:=s5 _ _ ha4
    have lr:=ry.length
    refine⟨ha5,iB (by omega),xs.length - (i+1),by omega,rfl,hlt,fun b o e=>?_,b8,ys ++ [y],?_,by rw [aU9,aZ1]; omega,q5⟩
    ·rw [aH (fun z=>by rw [z,hD] at e; cases e)]
     exact s5 _ _ (sm4 _ _ e)
    ·exact ((ry.same ((s2.trans s4).trans s5) fun _ z=>z).append (.cons (Nw.rep (px2.mono s4) nw ryy) .nil)).keep (.upd ha5 rfl fun b m=>⟨m.1,m⟩)
 ·have e:i=xs.length:=by omega
  subst e
  refine .inl ⟨it.stop _ H' ev,k _ H' _ .fr (s.trans sm) (.lst (s.free hD) ha (ry.same (aD.refl _) fun _ z=>s.free z.2)) (fin ys iy)⟩
def cT:bT:=fun _ Q=>Q true
theorem au6 {Qb:Bool->Hp->Prop} (h:LT X cT σ H Qb):tY σ H Qb:=by
 obtain ⟨W,ρ,Q,px,q,k⟩:=h
 exact k _ _ (aD.refl _) q
end
section
variable {κ : Type} [DecidableEq κ]
def bQ (ps:List (κ × PV)) (k:κ):Option PV:=(ps.find? fun p=>decide (p.1=k)).map (·.2)
def cE (ps:List (κ × PV)) (k:κ) (x:PV):List (κ × PV):=if (ps.any fun p=>decide (p.1=k))=true then ps.map (fun p=>if p.1=k then (p.1,x) else p) else ps ++ [(k,x)]
variable {K : PySem.W.Frag} {M : Addr → Prop} {H : Hp}
theorem nY (k:κ):∀ {kvs:List (κ × V)}{ps:List (κ × PV)},kvs.map (·.1)=ps.map (·.1)->Reps K M H (kvs.map (·.2)) (ps.map (·.2))->(bQ ps k=none->eN kvs k=none)/\∀ x,bQ ps k=some x->∃ v,eN kvs k=some v/\aF K M H v x
 | [],[],_,_=>⟨fun _=>rfl,fun x h=>by cases h⟩
 | [],_ :: _,e,_=>by cases e
 | _ :: _,[],e,_=>by cases e
 | (k1,v) :: kvs,(k2,x) :: ps,e,r=>by
  injection e with e1 e2
  have e1:k1=k2:=e1
  subst e1
  cases r with
  | cons r t=>
   obtain ⟨h1,h2⟩:=nY k e2 t
   unfold bQ eN at h1 h2 ⊢
   by_cases e:k1=k
   ·simp only [bd5,e,decide_true,Option.map_some]
    exact⟨fun z=>(by cases z),fun y z=>(by cases z; exact⟨v,rfl,r⟩)⟩
   ·simp only [bd5,e,decide_false]
    exact⟨h1,h2⟩
theorem au7 (k:κ) {kvs:List (κ × V)}{ps:List (κ × PV)} (e:kvs.map (·.1)=ps.map (·.1)):(kvs.any fun p=>decide (p.1=k))=ps.any fun p=>decide (p.1=k):=by
 have h1:(kvs.any fun p=>decide (p.1=k))=(kvs.map (·.1)).any fun z=>decide (z=k):=by rw [List.any_map]; rfl
 have h2:(ps.any fun p=>decide (p.1=k))=(ps.map (·.1)).any fun z=>decide (z=k):=by rw [List.any_map]; rfl
 rw [h1,h2,e]
theorem G3 (k:κ) {w:V}{y:PV} (q:aF K M H w y):∀ {kvs:List (κ × V)}{ps:List (κ × PV)},kvs.map (·.1)=ps.map (·.1)->Reps K M H (kvs.map (·.2)) (ps.map (·.2))->
  (kvs.map fun kv=>if kv.1=k then (kv.1,w) else kv).map (·.1)=(ps.map fun kv=>if kv.1=k then (kv.1,y) else kv).map (·.1)/\Reps K M H ((kvs.map fun kv=>if kv.1=k then (kv.1,w) else kv).map (·.2)) ((ps.map fun kv=>if kv.1=k then (kv.1,y) else kv).map (·.2))
 | [],[],_,_=>⟨rfl,.nil⟩
 | [],_ :: _,e,_=>by cases e
 | _ :: _,[],e,_=>by cases e
 | (k1,v) :: kvs,(k2,x) :: ps,e,r=>by
  injection e with e1 e2
  have e1:k1=k2:=e1
  subst e1
  cases r with
  | cons r t=>
   obtain ⟨h1,h2⟩:=G3 k q e2 t
   by_cases e:k1=k
   ·simp only [aY6,e,if_true]
    exact⟨by rw [h1],.cons q h2⟩
   ·simp only [aY6,e,bb2]
    exact⟨by rw [h1],.cons r h2⟩
theorem uZ (k:κ) {w:V}{y:PV} (q:aF K M H w y) {kvs:List (κ × V)}{ps:List (κ × PV)} (e:kvs.map (·.1)=ps.map (·.1)) (r:Reps K M H (kvs.map (·.2)) (ps.map (·.2))) :
  (dL kvs k w).map (·.1)=(cE ps k y).map (·.1)/\Reps K M H ((dL kvs k w).map (·.2)) ((cE ps k y).map (·.2)):=by
 unfold dL cE
 rw [au7 k e]
 split
 ·exact G3 k q e r
 ·rw [aX8,aX8,aX8,aX8,e]
  exact⟨rfl,r.append (.cons q .nil)⟩
end
def kP:aB->PV
 | .inl i=>.int i
 | .inr x=>.str x
theorem v0 {K:PySem.W.Frag}{M:Addr->Prop}{H:Hp}{v:V}{k:aB} (r:aF K M H v (kP k)):v=kV k:=by
 cases k with
 | inl i=>cases r; rfl
 | inr x=>cases r; rfl
theorem qF {K:PySem.W.Frag}{M:Addr->Prop}{H:Hp}:∀ {ks:List aB}{us:List V},Reps K M H us (ks.map kP)->us=ks.map kV
 | [],_,.nil=>rfl
 | k :: r,_,.cons q t=>by rw [v0 q,qF t]; rfl
def v3 (x y:PV) (o:Option PV):Prop:=(∃ ps k,x = .dK ps/\y=kP k/\o=bQ ps k) ∨ (∃ ps k,x = .dT ps/\y = .tup (k.map kP)/\o=bQ ps k)
theorem v4 {K:PySem.W.Frag}{M M2:Addr->Prop}{H:Hp}{v w:V}{x y:PV}{o:Option PV} (h:v3 x y o) (rx:aF K M H v x) (ry:aF K M2 H w y):∃ a o',v = .ref a/\eZ H a w o'/\(o=none->o'=none)/\∀ z,o=some z->∃ u,o'=some u/\aF K M H u z:=by
 rcases h with ⟨ps,k,rfl,rfl,rfl⟩ | ⟨ps,k,rfl,rfl,rfl⟩
 ·obtain rfl:=v0 ry
  cases rx with
  | dK m h e r=>exact⟨_,_,rfl,eZ.k h,(nY k e r).1,(nY k e r).2⟩
 ·obtain ⟨b,us,rfl,hb,rb⟩:=ry.sqT
  obtain rfl:=qF rb
  cases rx with
  | dT m h e r=>exact⟨_,_,rfl,eZ.t h hb,(nY k e r).1,(nY k e r).2⟩
section
variable {X : Cx} {σ : St} {H : Hp} {D : cJ} {tk td te : aE} {Q' : VK}
def kN (neg:Bool) (tk td:aE):aE:=fun ρ Q=>tk ρ fun y _=>td ρ fun x _=>∃ o,v3 x y o/\Q (.bl (if neg=true then !o.isSome else o.isSome)) .fr
theorem G4 {α β:Type}{o:Option α}{o':Option β}{P:β->α->Prop} (h1:o=none->o'=none) (h2:∀ z,o=some z->∃ u,o'=some u/\P u z):o'.isSome=o.isSome:=by
 cases o with
 | none=>rw [h1 rfl]; rfl
 | some z=>obtain ⟨u,e,_⟩:=h2 z rfl; rw [e]; rfl
theorem au8 (h:LE X (kN false tk td) σ H Q'):zV (LE X tk) (LE X td) σ H Q':=by
 obtain ⟨W,ρ,Q,px,q,k⟩:=h
 refine⟨W,ρ,_,px,q,fun w H1 y g s r q=>⟨W,ρ,_,px.mono s,q,?_⟩⟩
 rintro v H2 x g' s2 r2 ⟨o,ak,q⟩
 obtain ⟨a,o',rfl,dg,h1,h2⟩:=v4 ak r2 (r.same s2 fun _ z=>z)
 refine⟨a,o',rfl,dg,?_⟩
 rw [G4 h1 h2]
 exact k _ _ _ .fr (s.trans s2) (.bl _) q
theorem au9 (h:LE X (kN true tk td) σ H Q'):zW (LE X tk) (LE X td) σ H Q':=by
 obtain ⟨W,ρ,Q,px,q,k⟩:=h
 refine⟨W,ρ,_,px,q,fun w H1 y g s r q=>⟨W,ρ,_,px.mono s,q,?_⟩⟩
 rintro v H2 x g' s2 r2 ⟨o,ak,q⟩
 obtain ⟨a,o',rfl,dg,h1,h2⟩:=v4 ak r2 (r.same s2 fun _ z=>z)
 refine⟨a,o',rfl,dg,?_⟩
 rw [G4 h1 h2]
 exact k _ _ _ .fr (s.trans s2) (.bl _) q
def jO (td tk:aE):aE:=fun ρ Q=>td ρ fun x g=>tk ρ fun y _=>∃ z,v3 x y (some z)/\Q z g
theorem av0 (h:LE X (jO td tk) σ H Q'):zU (LE X td) (LE X tk) σ H Q':=by
 obtain ⟨W,ρ,Q,px,q,k⟩:=h
 refine⟨W,ρ,_,px,q,fun v H1 x g s r q=>⟨W,ρ,_,px.mono s,q,?_⟩⟩
 rintro w H2 y g' s2 r2 ⟨z,ak,q⟩
 obtain ⟨a,o',rfl,dg,h1,h2⟩:=v4 ak (r.same s2 fun _ z=>z) r2
 obtain ⟨u,rfl,ru⟩:=h2 z rfl
 exact⟨a,u,rfl,dg,k _ _ _ g (s.trans s2) ru q⟩
theorem PX.updD {K:PySem.W.Frag}{H0:Hp}{W:Addr->Prop}{σ:St}{ρ:bJ}{H:Hp}{i:Nat}{a:Addr}{x:PV}{kvs:List (aB × V)}{ps:List (aB × PV)} (p:PX K H0 W σ ρ H) (hi:ρ[i]? = some (some (.own x))) (ha:σ[i]? = some (some (.ref a))) (wa:W a)
  (r:kvs.map (·.1)=ps.map (·.1)/\Reps K (Ms H0 W true) (upd H a (.dK kvs)) (kvs.map (·.2)) (ps.map (·.2))):PX K H0 W σ (ρ.set i (some (.own (.dK ps)))) (upd H a (.dK kvs)):=p.updOwn hi ha wa rfl (y:=.dK ps) ⟨kvs,b8,r⟩
theorem PX.updT {K:PySem.W.Frag}{H0:Hp}{W:Addr->Prop}{σ:St}{ρ:bJ}{H:Hp}{i:Nat}{a:Addr}{x:PV}{kvs:List (List aB × V)}{ps:List (List aB × PV)} (p:PX K H0 W σ ρ H) (hi:ρ[i]? = some (some (.own x))) (ha:σ[i]? = some (some (.ref a))) (wa:W a)
  (r:kvs.map (·.1)=ps.map (·.1)/\Reps K (Ms H0 W true) (upd H a (.dT kvs)) (kvs.map (·.2)) (ps.map (·.2))):PX K H0 W σ (ρ.set i (some (.own (.dT ps)))) (upd H a (.dT kvs)):=p.updOwn hi ha wa rfl (y:=.dT ps) ⟨kvs,b8,r⟩
theorem nZ {κ α β:Type}{l:List (κ × α)}{m:List (κ × β)} (e:l.map (·.1)=m.map (·.1)):l.length=m.length:=by
 have:=congrArg List.length e
 rw [aV1,aV1] at this
 exact this
def lR (i:Nat) (tk te:aE):aK:=fun D ρ=>te ρ fun z g=>∃ ps,ρ[i]? = some (some (.own (.dK ps)))/\tk ρ fun y _=>∃ k,y=kP k/\Nw g z/\ps.length < 16000000/\D.nx (ρ.set i (some (.own (.dK (cE ps k z)))))
def lS (i:Nat) (tk te:aE):aK:=fun D ρ=>te ρ fun z g=>∃ ps,ρ[i]? = some (some (.own (.dT ps)))/\tk ρ fun y _=>∃ k,y = .tup (k.map kP)/\Nw g z/\ps.length < 16000000/\D.nx (ρ.set i (some (.own (.dT (cE ps k z)))))
theorem av1 {i:Nat} (h:LS X (lR i tk te) D σ H):tS (fN i) (LE X tk) (LE X te) D σ H:=by
 obtain ⟨W,ρ,D',px,q,k⟩:=h
 refine⟨W,ρ,_,px,q,?_⟩
 rintro w H1 z g s rz ⟨ps,hi,q⟩
 obtain ⟨v,ev,a,rfl,wa,kvs,ea,e1,r⟩:=(px.mono s).sl i _ hi
 refine⟨_,ev,W,ρ,_,px.mono s,q,?_⟩
 rintro kv H2 y g' s2 ry ⟨kk,rfl,nw,hl,q⟩
 obtain rfl:=v0 ry
 have ea2:=s2 _ _ ea
 refine⟨a,_,rfl,jI.k ea2 (iB (by rw [nZ e1]; omega)),?_⟩
 refine k.nx W σ _ _ ((Ev.same (s.trans s2)).trans (Ev.upd wa)) ((px.mono (s.trans s2)).updD hi ev wa ?_) q
 obtain ⟨h1,h2⟩:=uZ kk ((Nw.rep px nw rz).same s2 fun _ z=>z) e1 (r.same s2 fun _ z=>z)
 exact⟨h1,h2.keep (.upd ea2 rfl fun b m=>⟨kJ wa m,m⟩)⟩
theorem av2 {i:Nat} (h:LS X (lS i tk te) D σ H):tS (fN i) (LE X tk) (LE X te) D σ H:=by
 obtain ⟨W,ρ,D',px,q,k⟩:=h
 refine⟨W,ρ,_,px,q,?_⟩
 rintro w H1 z g s rz ⟨ps,hi,q⟩
 obtain ⟨v,ev,a,rfl,wa,kvs,ea,e1,r⟩:=(px.mono s).sl i _ hi
 refine⟨_,ev,W,ρ,_,px.mono s,q,?_⟩
 rintro kv H2 y g' s2 ry ⟨kk,rfl,nw,hl,q⟩
 obtain ⟨b,us,rfl,hb,rb⟩:=ry.sqT
 obtain rfl:=qF rb
 have ea2:=s2 _ _ ea
 refine⟨a,_,rfl,jI.t ea2 hb (iB (by rw [nZ e1]; omega)),?_⟩
 refine k.nx W σ _ _ ((Ev.same (s.trans s2)).trans (Ev.upd wa)) ((px.mono (s.trans s2)).updT hi ev wa ?_) q
 obtain ⟨h1,h2⟩:=uZ kk ((Nw.rep px nw rz).same s2 fun _ z=>z) e1 (r.same s2 fun _ z=>z)
 exact⟨h1,h2.keep (.upd ea2 rfl fun b m=>⟨kJ wa m,m⟩)⟩
theorem av3 (h:LE X (qC (.dK [])) σ H Q'):zY σ H Q':=by
 obtain ⟨W,ρ,Q,px,q,k⟩:=h
 exact fun p hp=>k _ _ _ .fr (bD hp _) (.dK hp b8 rfl .nil) q
theorem av4 (h:LE X (qC (.dT [])) σ H Q'):zZ σ H Q':=by
 obtain ⟨W,ρ,Q,px,q,k⟩:=h
 exact fun p hp=>k _ _ _ .fr (bD hp _) (.dT hp b8 rfl .nil) q
def gZ (ps more:List (aB × PV)):List (aB × PV):=more.foldl (fun acc kv=>cE acc kv.1 kv.2) ps
theorem G5 {K:PySem.W.Frag}{M:Addr->Prop}{H:Hp}:∀ {more:List (aB × V)}{mp:List (aB × PV)}{kvs:List (aB × V)}{ps:List (aB × PV)},more.map (·.1)=mp.map (·.1)->Reps K M H (more.map (·.2)) (mp.map (·.2))->kvs.map (·.1)=ps.map (·.1)->Reps K M H (kvs.map (·.2)) (ps.map (·.2))->
  (kF kvs more).map (·.1)=(gZ ps mp).map (·.1)/\Reps K M H ((kF kvs more).map (·.2)) ((gZ ps mp).map (·.2))
 | [],[],_,_,_,_,e,r=>⟨e,r⟩
 | [],_ :: _,_,_,e,_,_,_=>by cases e
 | _ :: _,[],_,_,e,_,_,_=>by cases e
 | (k1,v) :: more,(k2,x) :: mp,kvs,ps,e,r,e',r'=>by
  injection e with e1 e2
  have e1:k1=k2:=e1
  subst e1
  cases r with
  | cons q t=>
   obtain ⟨h1,h2⟩:=uZ k1 q e' r'
   exact G5 (more:=more) (mp:=mp) e2 t h1 h2
def v5 (i:Nat) (te:aE):aK:=fun D ρ=>∃ ps,ρ[i]? = some (some (.own (.dK ps)))/\te ρ fun y g=>∃ mp,y = .dK mp/\(g = .fr ∨ (g = .nw/\False))/\ps.length+mp.length<=16000000/\D.nx (ρ.set i (some (.own (.dK (gZ ps mp)))))
theorem av5 {i:Nat} (h:LS X (v5 i te) D σ H):oV (E4 (fN i) (LE X te)) D σ H:=by
 obtain ⟨W,ρ,D',px,⟨ps,hi,q⟩,k⟩:=h
 obtain ⟨v,ev,a,rfl,wa,kvs,ea,e1,r⟩:=px.sl i _ hi
 refine⟨_,ev,a,rfl,.inl ⟨kvs,.inl ea⟩,W,ρ,_,px,q,?_⟩
 rintro w H1 y g s ry ⟨mp,rfl,hg,hl,q⟩
 rcases hg with rfl | ⟨_,z⟩
 ·cases ry with
  | @dK b more _ m hb e2 rb=>
   have hab:a ≠ b:=fun z=>by subst z; rw [show H a=none from m] at ea; cases ea
   have ea1:=s _ _ ea
   refine⟨b,kvs,more,rfl,hab,ea1,hb,lim (by rw [nZ e1,nZ e2]; exact hl),?_⟩
   refine k.nx W σ _ _ ((Ev.same s).trans (Ev.upd wa)) ((px.mono s).updD hi ev wa ?_) q
   obtain ⟨h1,h2⟩:=G5 e2 (rb.same (M':=Ms X.H₀ W true) (aD.refl _) fun _ z=>px.new z) e1 (r.same s fun _ z=>z)
   exact⟨h1,h2.keep (.upd ea1 rfl fun b m=>⟨kJ wa m,m⟩)⟩
 ·exact z.elim
end
def c9:Nat->PV->PV->Bool
 | _,.non,.non=>true
 | _,.bl a,.bl b=>a == b
 | _,.int a,.int b=>a == b
 | _,.str a,.str b=>a == b
 | n+1,.tup xs,.tup ys=>(xs.zip ys).all (fun p=>c9 n p.1 p.2) && xs.length == ys.length
 | n+1,.lst xs,.lst ys=>(xs.zip ys).all (fun p=>c9 n p.1 p.2) && xs.length == ys.length
 | n+1,.kt xs,.kt ys=>(xs.zip ys).all (fun p=>c9 n p.1 p.2) && xs.length == ys.length
 | _,_,_=>false
def dY:Nat->PV->PV->Bool
 | _,.non,.non=>true
 | _,.bl _,.bl _=>true
 | _,.int _,.int _=>true
 | _,.str _,.str _=>true
 | _,.non,.int _=>true
 | _,.int _,.non=>true
 | n+1,.tup xs,.tup ys=>(xs.zip ys).all (fun p=>dY n p.1 p.2)
 | n+1,.lst xs,.lst ys=>(xs.zip ys).all (fun p=>dY n p.1 p.2)
 | n+1,.kt xs,.kt ys=>(xs.zip ys).all (fun p=>dY n p.1 p.2)
 | _+1,.non,.tup _=>true
 | _+1,.tup _,.non=>true
 | _,_,_=>false
theorem av6 (n:Nat) (a b:Int):c9 n (.int a) (.int b)=(a == b):=by cases n <;> rfl
theorem v6 (n:Nat):∀ (a b:List Int),((((intz a).zip (intz b)).all fun p=>c9 n p.1 p.2) && (intz a).length == (intz b).length)=decide (a=b)
 | [],[]=>rfl
 | [],_ :: _=>by simp
 | _ :: _,[]=>by simp
 | x :: a,y :: b=>by
  have ih:=v6 n a b
  simp only [aY6,bg4,bg0,aY9,av6] at ih ⊢
  by_cases e:x=y
  ·subst e
   have:((intz a).length+1 == (intz b).length+1)=((intz a).length == (intz b).length):=by simp
   rw [this,bc8,Bool.true_and,ih]
   simp
  ·have:(x == y)=false:=beq_eq_false_iff_ne.mpr e
   rw [this,Bool.false_and,Bool.false_and]
   simp [e]
theorem v7 (n:Nat) (a b:List Int):c9 (n+1) (.tup (intz a)) (.tup (intz b))=decide (a=b):=v6 n a b
theorem G6 (n:Nat) (a b:List Int):c9 (n+1) (.lst (intz a)) (.lst (intz b))=decide (a=b):=v6 n a b
theorem v8 (n:Nat):∀ (a b:List Int),(((intz a).zip (intz b)).all fun p=>dY n p.1 p.2)=true
 | [],_=>by simp
 | _ :: _,[]=>by simp
 | x :: a,y :: b=>by
  simp only [aY6,bg4,bg0,v8 n a b,Bool.and_true]
  cases n <;> rfl
theorem v9 (n:Nat) (a b:List Int):dY (n+1) (.tup (intz a)) (.tup (intz b))=true:=v8 n a b
theorem G7 (n:Nat) (a b:List Int):dY (n+1) (.lst (intz a)) (.lst (intz b))=true:=v8 n a b
def kO (neg:Bool):PV->Tg->PV->Tg->PK->Prop:=fun x _ y _ Q=>∃ i ns,x = .int i/\iD y=some (intz ns)/\Q (.bl (if neg=true then !decide (i ∈ ns) else decide (i ∈ ns))) .fr
def G8:PV->Option String
 | .non=>some "NoneType"
 | .bl _=>some "bool"
 | .int _=>some "int"
 | .str _=>some "str"
 | .tup _=>some "tuple"
 | .kt _=>some "tuple"
 | .lst _=>some "list"
 | _=>none
def o0 (K:PySem.W.Frag) (n:String) (te:aE):aE:=fun ρ Q=>te ρ fun x _=>∃ T b,G8 x=some T/\PySem.W.kitOne K (.type T) (.type n)=some b/\Q (.bl b) .fr
def jP (n:Nat) (neg:Bool):PV->Tg->PV->Tg->PK->Prop:=fun x _ y _ Q=>((∃ xs ys,x = .tup xs/\y = .tup ys) ∨ (∃ xs ys,x = .lst xs/\y = .lst ys))/\dY (n+1) x y=true/\Q (.bl (if neg=true then !c9 (n+1) x y else c9 (n+1) x y)) .fr
abbrev lT:=bJ->(Option Int->Prop)->Prop
def fE (xs:List PV) (lo hi:Option Int):List PV:=(xs.drop (HT.aS xs.length 0 lo)).take (HT.aS xs.length xs.length hi - HT.aS xs.length 0 lo)
def qG:PV->List PV->PV
 | .tup _,ys=>.tup ys
 | .kt _,ys=>.tup ys
 | _,ys=>.lst ys
def qH:lT:=fun _ Q=>Q none
def qI (te:aE):lT:=fun ρ Q=>te ρ fun x _=>∃ i,x = .int i/\Q (some i)
def qJ (te:aE) (tl th:lT):aE:=fun ρ Q=>te ρ fun x _=>tl ρ fun lo=>th ρ fun hi=>∃ xs,seqT x=some xs/\flats xs=true/\Q (qG x (fE xs lo hi)) .fr
def eJ (N:List Str) (xs:List PV):bJ:=xs.map (fun x=>some (.sh (flat x) x)) ++ List.replicate (N.length - xs.length) none
abbrev fF (ta tb:aE):aE:=q2 (fB fun i j=>.int (i+j)) ta tb
abbrev vA (ta tb:aE):aE:=q2 (fB fun i j=>.int (i - j)) ta tb
abbrev vB (ta tb:aE):aE:=q2 (RI mW fun i j=>.int (i * j)) ta tb
abbrev fT (ta tb:aE):aE:=q2 (RI sX fun i j=>.int (i / j)) ta tb
abbrev cY (ta tb:aE):aE:=q2 (RI (fun _ j=>0 < j) fun i j=>.int (i % j)) ta tb
abbrev av7 (ta tb:aE):aE:=q2 (RI (fun _ j=>0<=j) fun i j=>.int (i / 2 ^ j.toNat)) ta tb
abbrev j5 (ta tb:aE):aE:=q2 (fB fun i j=>.bl (decide (i < j))) ta tb
abbrev vC (ta tb:aE):aE:=q2 (fB fun i j=>.bl (decide (j < i))) ta tb
abbrev o4 (ta tb:aE):aE:=q2 (fB fun i j=>.bl (decide (j<=i))) ta tb
abbrev gM (ta tb:aE):aE:=q2 (j3 false) ta tb
abbrev jQ (ta tb:aE):aE:=q2 (j3 true) ta tb
abbrev av8 (ta tb:aE):aE:=q2 (uX true) ta tb
abbrev fG (ta tb:aE):aE:=q2 uS ta tb
def eL:List PV->(PV->Prop)->Prop:=fun xs Q=>F7 xs Q/\∀ ns,xs ≠ [.scr ns]
def QE (X:Cx) (e:Expr) (t:aE):Prop:=PE X e (LE X t)
def QT (X:Cx) (e:Expr) (t:bT):Prop:=PT X e (LT X t)
def QW (X:Cx) (e:Expr) (t:bT):Prop:=PW X e (LT X t)
def QA (X:Cx) (es:List Expr) (t:cL):Prop:=PA X es (LA X t)
def QS (X:Cx) (st:Stmt) (t:aK):Prop:=PS X st (LS X t)
def eR (X:Cx) (st:List Stmt) (t:aK):Prop:=dD X st (LS X t)
def QI (X:Cx) (tg iter:Expr) (t:dW):Prop:=PI X tg iter (LI X t)
section
variable {X : Cx}
theorem bV {e:Expr}{t t':TE} (h:PE X e t) (m:∀ σ H Q,t' σ H Q->t σ H Q):PE X e t':=fun pins s σ H Q I q=>h pins s σ H Q I (m σ H Q q)
theorem o5 {e:Expr}{t t':TT} (h:PT X e t) (m:∀ σ H Q,t' σ H Q->t σ H Q):PT X e t':=fun pins s σ H Q I q=>h pins s σ H Q I (m σ H Q q)
theorem G9 {e:Expr}{t t':TT} (h:PW X e t) (m:∀ σ H Q,t' σ H Q->t σ H Q):PW X e t':=fun wh pins s σ H Q I q=>h wh pins s σ H Q I (m σ H Q q)
theorem J0 {e:List Expr}{t t':TA} (h:PA X e t) (m:∀ σ H Q,t' σ H Q->t σ H Q):PA X e t':=fun pos pins s σ H Q I q=>h pos pins s σ H Q I (m σ H Q q)
theorem cZ {e:Stmt}{t t':TS} (h:PS X e t) (m:∀ D σ H,t' D σ H->t D σ H):PS X e t':=fun pins s σ H D I q=>h pins s σ H D I (m D σ H q)
theorem J1 {e:List Stmt}{t t':TS} (h:dD X e t) (m:∀ D σ H,t' D σ H->t D σ H):dD X e t':=fun pins s σ H D I q=>h pins s σ H D I (m D σ H q)
theorem o6 {tg e:Expr}{t t':TI} (h:PI X tg e t) (m:∀ σ H R,t' σ H R->t σ H R):PI X tg e t':=fun pins s σ H R I q=>h pins s σ H R I (m σ H R q)
variable {a b c e o : Expr} {es cX : List Expr} {ta tb te to tk : aE} {tr : cL} {tA tB' tc : bT} {pos p2 px : Pos} {st : Stmt} {sts : List Stmt} {t u : aK}
theorem qv (i:Nat) {x:Str}{pos:Pos} (hN:X.N[i]? = some x:=by rfl) (hv:fM X.env.scope x:=by first | exact Or.inl rfl | exact Or.inr (Or.inl rfl) | exact Or.inr (Or.inr rfl)) (hd:(x == ("__debug__" : Str))=false:=by decide)
  (hcd:(x == ("__classdict__" : Str))=false:=by decide):QE X (.Name x pos) (a5 i):=bV (i4 hN hv hd hcd) fun _ _ _=>aq5
theorem aO {i j}:QE X (.Constant (.int i) j pos) (qC (.int i)):=bV mP fun _ _ _=>nO fun _=>.int i
theorem hG {i j}:QE X (.Constant (.bool i) j pos) (qC (.bl i)):=bV ab5 fun _ _ _=>nO fun _=>.bl i
theorem J2 {j}:QE X (.Constant .none j pos) (qC .non):=bV ab6 fun _ _ _=>nO fun _=>.non
theorem o7 {i j}:QE X (.Constant (.str i) j pos) (qC (.str i)):=bV ab7 fun _ _ _=>nO fun _=>.str i
theorem jR {op:Operator}{R:PV->Tg->PV->Tg->PK->Prop}{r:R2} (ho:cD X (binaryOp op) r) (cv:eG X R r) (ha:QE X a ta) (hb:QE X b tb):QE X (.BinOp a op b pos) (q2 R ta tb):=bV (ae5 ho ha hb) fun _ _ _=>pY cv
theorem fH (ha:QE X a ta) (hb:QE X b tb):QE X (.BinOp a .Add b pos) (q2 (fB fun i j=>.int (i+j)) ta tb):=jR ae7 E6 ha hb
theorem vD (ha:QE X a ta) (hb:QE X b tb):QE X (.BinOp a .Sub b pos) (q2 (fB fun i j=>.int (i - j)) ta tb):=jR ae8 E6 ha hb
theorem vE (ha:QE X a ta) (hb:QE X b tb):QE X (.BinOp a .Mult b pos) (q2 (RI mW fun i j=>.int (i * j)) ta tb):=jR ae9 pZ ha hb
theorem fU (ha:QE X a ta) (hb:QE X b tb):QE X (.BinOp a .FloorDiv b pos) (q2 (RI sX fun i j=>.int (i / j)) ta tb):=jR af0 pZ ha hb
theorem dA (ha:QE X a ta) (hb:QE X b tb):QE X (.BinOp a .Mod b pos) (q2 (RI (fun _ j=>0 < j) fun i j=>.int (i % j)) ta tb):=jR af1 pZ ha hb
theorem av9 (ha:QE X a ta) (hb:QE X b tb):QE X (.BinOp a .RShift b pos) (q2 (RI (fun _ j=>0<=j) fun i j=>.int (i / 2 ^ j.toNat)) ta tb):=jR af2 pZ ha hb
theorem lU {op:CmpOp}{R:PV->Tg->PV->Tg->PK->Prop}{r:R2} (ho:cD X (compareOp op) r) (cv:eG X R r) (ha:QE X a ta) (hb:QE X b tb) (hm:behindInMarks op b=false):QE X (.Compare a [op] [b] pos) (q2 R ta tb):=bV (sY ho ha hb hm) fun _ _ _=>pY cv
theorem j6 {op:CmpOp}{R:PV->Tg->PV->Tg->PK->Prop}{r:R2} (ho:cD X (compareOp op) r) (cv:eG X R r) (ha:QE X a ta) (hb:QE X b tb) (hm:behindInMarks op b=false):QT X (.Compare a [op] [b] pos) (aV (q2 R ta tb)):=o5 (af6 ho ha hb hm) fun _ _ _ h=>pY cv (uL h)
theorem J3 (ha:QE X a ta) (hb:QE X b tb):QE X (.Compare a [.Lt] [b] pos) (q2 (fB fun i j=>.bl (decide (i < j))) ta tb):=lU oZ nP ha hb (eC _)
theorem vF (ha:QE X a ta) (hb:QE X b tb):QE X (.Compare a [.GtE] [b] pos) (q2 (fB fun i j=>.bl (decide (j<=i))) ta tb):=lU yK nP ha hb (eC _)
theorem J4 (ha:QE X a ta) (hb:QE X b tb):QE X (.Compare a [.Eq] [b] pos) (q2 (j3 false) ta tb):=lU yI E9 ha hb (eC _)
theorem J5 (ha:QE X a ta) (hb:QE X b tb):QE X (.Compare a [.NotEq] [b] pos) (q2 (j3 true) ta tb):=lU yJ F0 ha hb (eC _)
theorem kQ (ha:QE X a ta) (hb:QE X b tb):QT X (.Compare a [.Lt] [b] pos) (aV (q2 (fB fun i j=>.bl (decide (i < j))) ta tb)):=j6 oZ nP ha hb (eC _)
theorem vG (ha:QE X a ta) (hb:QE X b tb):QT X (.Compare a [.Gt] [b] pos) (aV (q2 (fB fun i j=>.bl (decide (j < i))) ta tb)):=j6 af3 nP ha hb (eC _)
theorem J6 (ha:QE X a ta) (hb:QE X b tb):QT X (.Compare a [.GtE] [b] pos) (aV (q2 (fB fun i j=>.bl (decide (j<=i))) ta tb)):=j6 yK nP ha hb (eC _)
theorem iF (ha:QE X a ta) (hb:QE X b tb):QT X (.Compare a [.Eq] [b] pos) (aV (q2 (j3 false) ta tb)):=j6 yI E9 ha hb (eC _)
theorem o8 (ha:QE X a ta) (hb:QE X b tb):QT X (.Compare a [.NotEq] [b] pos) (aV (q2 (j3 true) ta tb)):=j6 yJ F0 ha hb (eC _)
theorem aw0 (ha:QE X a ta) (hb:QE X b tb):QT X (.Compare a [.IsNot] [b] pos) (aV (q2 (uX true) ta tb)):=j6 af4 au0 ha hb (eC _)
theorem J7 (hu:X.A.units+1 < cLine) (hk:QE X a tk) (hd:QE X b te) (hm:behindInMarks .In b=false:=by rfl):QT X (.Compare a [.In] [b] pos) (aV (kN false tk te)):=o5 (ac1 (al2 hu hk hd) hm) fun _ _ _ h=>au8 (uL h)
theorem aw1 (hu:X.A.units+1 < cLine) (hk:QE X a tk) (hd:QE X b te) (hm:behindInMarks .NotIn b=false:=by rfl):QE X (.Compare a [.NotIn] [b] pos) (kN true tk te):=bV (ac0 (al3 hu hk hd) hm) fun _ _ _ h=>au9 h
theorem hJ (h:QE X e te) (he:∀ whole,isTrue e X.env whole=(do let v <- whole; standAt e.pos; holding [v] (truthy v)):=by intro _; rfl):QT X e (aV te):=o5 (ac2 h he) fun _ _ _ h=>uL h
theorem vH (h:QE X e te) (he:∀ whole,isTrue e X.env whole=(do let v <- whole; standAt e.pos; holding [v] (truthy v)):=by intro _; rfl):QT X e (nX te):=o5 (af9 h he) fun _ _ _ h=>at8 h
theorem vI (ha:QT X a tA):QW X (.BoolOp .And [a] pos) tA:=ac3 ha
theorem qK (ha:QT X a tA):QW X (.BoolOp .Or [a] pos) tA:=ac4 ha
theorem vJ (ha:QT X a tA) (hb:QW X (.BoolOp .And (b :: cX) pos) tB'):QW X (.BoolOp .And (a :: b :: cX) pos) (nQ tA tB'):=G9 (ac5 ha hb) fun _ _ _=>aq6
theorem lV (ha:QT X a tA) (hb:QW X (.BoolOp .Or (b :: cX) pos) tB'):QW X (.BoolOp .Or (a :: b :: cX) pos) (jK tA tB'):=G9 (ac6 ha hb) fun _ _ _=>aq7
theorem kR (h:QW X e tA):QT X e tA:=PW.pt h
theorem jS (ha:QT X a tA):QT X (.UnaryOp .Not a pos) (iC tA):=o5 (ac7 ha) fun _ _ _=>aq8
theorem lW {op} (h:QE X a ta):QE X (.BoolOp op [a] pos) ta:=ac8 h
theorem lX (ha:QE X a ta) (hb:QE X (.BoolOp .And (b :: cX) pos) tb):QE X (.BoolOp .And (a :: b :: cX) pos) (jL ta tb):=bV (ac9 ha hb) fun _ _ _=>aq9
theorem aw2 (ha:QE X a ta):QE X (.UnaryOp .Not a pos) (uM ta):=bV (ad0 ha) fun _ _ _=>ar0
theorem aA:QA X [] a9:=J0 eD fun _ _ _=>ar1
theorem a8 (ha:QE X e te) (hr:QA X es tr) (hs:starEach (e :: es) X.env=(false,eval e X.env) :: starEach es X.env:=by rfl):QA X (e :: es) (a6 te tr):=J0 (dJ ha hr hs) fun _ _ _=>ar2
theorem dZ {x1} (h:QA X es tr):QE X (.Tuple es x1 pos) (dF tr):=bV (yN h) fun _ _ _=>ar4
theorem aw3 {x1} (h:QA X es tr):QE X (.Tuple es x1 pos) (uN tr):=bV (yN h) fun _ _ _=>ar3
theorem lY (h:QA X es tr):QE X (.List es pos) (jM tr):=bV (yO h) fun _ _ _=>ar5
theorem fI (ha:QE X a ta) (hb:QE X b tb) (hs:zD b:=by exact fun _ _=>rfl):QE X (.Subscript a b pos) (q2 uS ta tb):=bV (mY ai9 ha hb hs) fun _ _ _=>pY as8
theorem lZ (hu:X.A.units+1 < cLine) (ha:QE X a ta) (hb:QE X b tb) (hs:tR b:=by exact fun _ _=>rfl):QE X (.Subscript a b pos) (jO ta tb):=bV (al1 hu ha hb hs) fun _ _ _=>av0
theorem J8:QE X (.Dict [] [] pos) (qC (.dK [])):=bV al6 fun _ _ _=>av3
theorem vK:QE X (.Dict [] [] pos) (qC (.dT [])):=bV al7 fun _ _ _=>av4
theorem jT {x:Str}{id:String}{R:List PV->(PV->Prop)->Prop}{r:List V->Hp->VK->Prop} (hc:cK X (.builtin id) r) (cv:eQ X R r) (hg:Gl X x) (hm:X.mg x=none) (hv:bootBuiltins x=some (.builtin id)) (ha:QA X (e :: es) tr) (hn:x ≠ "__name__":=by decide) (hdb:(x == ("__debug__" : Str))=false:=by decide)
  (he:starEach (e :: es) X.env=(false,eval e X.env) :: starEach es X.env:=by rfl) (hpl:(backTo pos (starEach es X.env)).any (·.1)=false:=by rfl):QE X (.Call (.Name x p2) (e :: es) [] pos) (aC R tr):=bV (p9 hc hg hm hv ha hn hdb he hpl) fun _ _ _=>F1 cv
theorem qL {x:Str}{T:String}{R:List PV->(PV->Prop)->Prop}{r:List V->Hp->VK->Prop} (hc:cK X (.type T) r) (cv:eQ X R r) (hg:Gl X x) (hm:X.mg x=none) (hv:bootBuiltins x=some (.type T)) (ha:QA X (e :: es) tr) (hn:x ≠ "__name__":=by decide) (hdb:(x == ("__debug__" : Str))=false:=by decide)
  (he:starEach (e :: es) X.env=(false,eval e X.env) :: starEach es X.env:=by rfl) (hpl:(backTo pos (starEach es X.env)).any (·.1)=false:=by rfl):QE X (.Call (.Name x p2) (e :: es) [] pos) (aC R tr):=bV (yV hc hg hm hv ha hn hdb he hpl) fun _ _ _=>F1 cv
theorem cP:eR X [] cF:=J1 ad2 fun _ _ _=>ar6
theorem aL (h1:QS X st t) (h2:eR X sts u):eR X (st :: sts) (aI t u):=J1 (mQ h1 h2) fun _ _ _=>ar7
theorem aP (h1:QS X st t):eR X [st] t:=l7 h1
theorem aw4:QS X (.Break pos) uQ:=cZ ad3 fun _ _ _=>ar8
theorem bH {i:Nat}{x:Str} (hN:X.N.Nodup) (he:QE X e te) (hi:X.N[i]? = some x:=by rfl) (hx:gV X.env.scope x:=by first | exact Or.inl rfl | exact Or.inr rfl) (hs:swapsWith e (some (.Name x p2)) pos.line X.env=pure false:=by rfl) (hf:X.fn x=true ∨ X.env.scope.names.lookup x=some .local:=by first | exact .inl rfl | exact .inr rfl) :
  QS X (.Assign [.Name x p2] e pos) (b5 i te):=cZ (xS hN hi hx he hs hf) fun _ _ _=>nU
theorem gN {i:Nat}{x:Str} (hN:X.N.Nodup) (he:QE X e te) (hi:X.N[i]? = some x:=by rfl) (hx:gV X.env.scope x:=by first | exact Or.inl rfl | exact Or.inr rfl) (hs:swapsWith e (some (.Name x p2)) pos.line X.env=pure false:=by rfl) (hf:X.fn x=true ∨ X.env.scope.names.lookup x=some .local:=by first | exact .inl rfl | exact .inr rfl) :
  QS X (.Assign [.Name x p2] e pos) (eI i te):=cZ (xS hN hi hx he hs hf) fun _ _ _=>F6
theorem J9 (i:Nat) (h:QS X st t):QS X st (qB i t):=cZ h fun _ _ _=>as1
theorem bL (he:QE X e te):QS X (.Return (some e) pos) (bE te):=cZ (l9 he) fun _ _ _=>as2
theorem iG (i:Nat) {x:Str} (hN:X.N[i]? = some x:=by rfl) (hv:fM X.env.scope x:=by first | exact Or.inl rfl | exact Or.inr (Or.inl rfl) | exact Or.inr (Or.inr rfl)) (hd:(x == ("__debug__" : Str))=false:=by decide) (hcd:(x == ("__classdict__" : Str))=false:=by decide) :
  QS X (.Return (some (.Name x p2)) pos) (gK i):=cZ (l9 (i4 hN hv hd hcd)) fun _ _ _=>as3
theorem cH {sa sb:List Stmt} (hc:QT X c tc) (ha:eR X sa t) (hb:eR X sb u):QS X (.If c sa sb pos) (cC tc t u):=cZ (ad4 hc ha hb) fun _ _ _=>as4
theorem qM {body:List Stmt} (hp:PassesOwn (model X.prog X.w) X.A X.env X.xe) (hc:QT X c tc) (hb:eR X body t):QS X (.While c body [] pos) (lM tc t):=cZ (ad6 hp hc hb) fun _ _ _=>as5
theorem qN (i:Nat) {x:Str}{apos cpos xpos:Pos} (he:QE X e te) (hN:X.N[i]? = some x:=by rfl) (hv:fM X.env.scope x:=by first | exact Or.inl rfl | exact Or.inr (Or.inl rfl) | exact Or.inr (Or.inr rfl)) (hd:(x == ("__debug__" : Str))=false:=by decide) (hcd:(x == ("__classdict__" : Str))=false:=by decide)
  (hbase:attributeBase (.Name x xpos) "append" X.env (eval (.Name x xpos) X.env)=eval (.Name x xpos) X.env:=by rfl)
  (hfew:((backTo cpos (starEach [e] X.env)).all (fun x=>!x.1) && (backToKw cpos (keywordEach [] X.env)).all (fun x=>x.1.isSome) && decide (([e]:List Expr).length+([]:List Keyword).length+(if ([]:List Keyword).isEmpty then 0 else 1) < 30))=true:=by rfl)
  (hline:(apos.endLine == cpos.line)=true:=by rfl) (hs:starEach [e] X.env=(false,eval e X.env) :: starEach [] X.env:=by rfl) (hplain:(backTo cpos (starEach [] X.env)).any (·.1)=false:=by rfl)
  (hsw:swapsWith (.Call (.Attribute (.Name x xpos) "append" apos) [e] [] cpos) none pos.line X.env=pure false:=by rfl) :
  QS X (.Expr (.Call (.Attribute (.Name x xpos) "append" apos) [e] [] cpos) pos) (lN i te):=
 cZ (mR (tM PySem.F.plainAttrs_list PySem.F.slot_list_append PySem.F.type_list_append pB (i4 hN hv hd hcd) (dJ he eD hs) hbase hfew hline hs hplain) hsw) fun _ _ _=>as6
theorem qO {i:Nat}{x:Str}{xpos tpos:Pos} (hu:X.A.units+1 < cLine) (hk:QE X a tk) (he:QE X e te) (hN:X.N[i]? = some x:=by rfl) (hv:fM X.env.scope x:=by first | exact Or.inl rfl | exact Or.inr (Or.inl rfl) | exact Or.inr (Or.inr rfl)) (hd:(x == ("__debug__" : Str))=false:=by decide) (hcd:(x == ("__classdict__" : Str))=false:=by decide)
  (hs:swapsWith e (some (.Subscript (.Name x xpos) a tpos)) pos.line X.env=pure false:=by rfl):QS X (.Assign [.Subscript (.Name x xpos) a tpos] e pos) (lR i tk te):=cZ (zX hu (i4 hN hv hd hcd) hk he hs) fun _ _ _=>av1
theorem vL {i:Nat}{x:Str}{xpos tpos:Pos} (hu:X.A.units+1 < cLine) (hk:QE X a tk) (he:QE X e te) (hN:X.N[i]? = some x:=by rfl) (hv:fM X.env.scope x:=by first | exact Or.inl rfl | exact Or.inr (Or.inl rfl) | exact Or.inr (Or.inr rfl)) (hd:(x == ("__debug__" : Str))=false:=by decide) (hcd:(x == ("__classdict__" : Str))=false:=by decide)
  (hs:swapsWith e (some (.Subscript (.Name x xpos) a tpos)) pos.line X.env=pure false:=by rfl):QS X (.Assign [.Subscript (.Name x xpos) a tpos] e pos) (lS i tk te):=cZ (zX hu (i4 hN hv hd hcd) hk he hs) fun _ _ _=>av2
theorem aw5 {tg l:Expr}{tl:TE} (hl:PE X l tl):PI X tg l (F8 X.K tl):=by
 intro pins s σ H R I h
 refine aM (hl pins s σ H _ I h) fun v s1 ⟨x,H1,I1,r1,q1⟩=>?_
 obtain ⟨a,e,q⟩:=q1
 subst e
 cases r1
 rcases q with ⟨xs,hq,q⟩ | ⟨xs,hq,q⟩
 ·obtain ⟨its,rv,p,hz⟩:=I1.list hq
  refine wpAny_pyIter_list p.isList ?_
  refine⟨s1.heap.objs.size,[s1.heap.objs.size],_,_,H1,rfl,I1.kept (t':=s1.toks) fun b o e=>aU7 _ e,ad7 a _,⟨_,aV8 _ rfl,rfl,rfl⟩,fun b hb=>?_,q⟩
  have e:b=s1.heap.objs.size:=by simpa using hb
  subst e
  exact I1.fpOk (aV0 _) (I1.hok.fresh (aV0 _))
 ·obtain ⟨its,rv,p,hz⟩:=I1.tuple hq
  refine be7 (show s1.heap.IsTuple a its.toArray from p) ?_
  refine⟨s1.heap.objs.size,[s1.heap.objs.size],_,_,H1,rfl,I1.kept (t':=s1.toks) fun b o e=>aU7 _ e,xV a _,⟨_,aV8 _ rfl,rfl,rfl⟩,fun b hb=>?_,q⟩
  have e:b=s1.heap.objs.size:=by simpa using hb
  subst e
  exact I1.fpOk (aV0 _) (I1.hok.fresh (aV0 _))
theorem dM {tg l:Expr} (hl:QE X l te):QI X tg l (dG te):=o6 (aw5 hl) fun _ _ _=>au1
theorem hU {tg:Expr} (hg:Gl X "range") (hm:X.mg "range" = none) (ha:QE X a ta) (hs:starEach [a] X.env = [(false,eval a X.env)]:=by rfl):QI X tg (.Call (.Name "range" p2) [a] [] pos) (fD ta):=o6 (ae0 hg hm (dJ ha eD hs) hs) fun _ _ _=>au2
theorem aw6 {tg:Expr} (hg:Gl X "range") (hm:X.mg "range" = none) (ha:QE X a ta) (hb:QE X b tb) (hs:starEach [a,b] X.env = [(false,eval a X.env),(false,eval b X.env)]:=by rfl) (hs2:starEach [b] X.env = [(false,eval b X.env)]:=by rfl) :
  QI X tg (.Call (.Name "range" p2) [a,b] [] pos) (uY ta tb):=o6 (ae1 hg hm (dJ ha (dJ hb eD hs2) (by rw [hs,hs2])) hs hs2) fun _ _ _=>au3
theorem K0 {tg:Expr}{body:List Stmt}{ti:dW}{p:iE}{g:TG}{own:Nat->Prop} (hp:PassesOwn (model X.prog X.w) X.A X.env X.xe) (hc:X.calm=true) (hi:QI X tg e ti) (hg:PG X tg g) (ht:lQ X.K own p g) (hb:eR X body t)
  (hs:∀ x,foldedSetIterable e X.env x=pure x:=by intro _; rfl):QS X (.For tg e body [] pos) (dX ti p t):=cZ (y4 hp hc hi hg hb hs) fun _ _ _=>au4 ht
end
section
variable {X : Cx} {pins : List (Addr × Obj)} {σ : St} {H : Hp} {s : Shared} {K : PySem.W.Frag} {M M' : Addr → Prop}
theorem lJ.inj {a:Addr}{us ws:List V} (h:lJ K a us) (h':lJ K a ws):us=ws:=by
 obtain ⟨o,its,n,e1,_,e2,_,v⟩:=h
 obtain ⟨o',its',n',e1',_,e2',_,v'⟩:=h'
 rw [e1] at e1'; cases e1'
 rw [e2] at e2'; cases e2'
 exact v.inj v'
theorem Reps.self_of {n:Nat} (ih:∀ {v:V}{x y:PV},aF K M H v x->aF K M' H v y->dY n x y=true->c9 n x y=true):∀ {vs:List V}{xs ys:List PV},Reps K M H vs xs->Reps K M' H vs ys->((xs.zip ys).all fun p=>dY n p.1 p.2)=true->(((xs.zip ys).all fun p=>c9 n p.1 p.2) && xs.length == ys.length)=true
 | _,_,_,.nil,.nil,_=>rfl
 | _,_,_,.cons r t,.cons r' t',o=>by
  simp only [bg4,bg0,aW7] at o
  have h1:=ih r r' o.1
  have h2:=Reps.self_of ih t t' o.2
  simp only [bg4,bg0,h1,Bool.true_and,aY9] at h2 ⊢
  rw [<- h2]
  congr 1
  simp
theorem aF.self:∀ (n:Nat) {v:V}{x y:PV},aF K M H v x->aF K M' H v y->dY n x y=true->c9 n x y=true:=by
 intro n
 induction n with
 | zero=>
  intro v x y r r' o
  cases r with
  | non=>cases r'; rfl
  | bl b=>cases r'; exact bc8 b
  | int i=>cases r'; exact bc8 i
  | str z=>cases r'; exact bc8 z
  | _=>cases o
 | succ n ih=>
  intro v x y r r' o
  cases r with
  | non=>cases r'; rfl
  | bl b=>cases r'; exact bc8 b
  | int i=>cases r'; exact bc8 i
  | str z=>cases r'; exact bc8 z
  | tup h rr=>
   cases r' with
   | tup h' rr'=>rw [h] at h'; cases h'; exact Reps.self_of ih rr rr' o
   | _=>cases o
  | lst _ h rr=>
   cases r' with
   | lst _ h' rr'=>rw [h] at h'; cases h'; exact Reps.self_of ih rr rr' o
   | _=>cases o
  | kt h rr=>
   cases r' with
   | kt h' rr'=>cases lJ.inj h h'; exact Reps.self_of ih rr rr' o
   | _=>cases o
  | _=>cases o
theorem Reps.self (n:Nat) {vs:List V}{xs ys:List PV} (r:Reps K M H vs xs) (r':Reps K M' H vs ys) (o:((xs.zip ys).all fun p=>dY n p.1 p.2)=true):(((xs.zip ys).all fun p=>c9 n p.1 p.2) && xs.length == ys.length)=true:=Reps.self_of (aF.self n) r r' o
theorem j7 (n:Nat) (xs ys:List PV):(List.range (min xs.length ys.length)).all (fun j=>c9 n (xs.getD j .non) (ys.getD j .non))=(xs.zip ys).all fun p=>c9 n p.1 p.2:=by
 rw [bd4]
 simp only [bd8,bg2]
 constructor
 ·intro h p hp
  obtain ⟨j,hj,e⟩:=List.getElem_of_mem hp
  have hj':j < min xs.length ys.length:=by simpa using hj
  have:=h j hj'
  rw [List.getElem_zip] at e
  subst e
  have h1:j < xs.length:=by omega
  have h2:j < ys.length:=by omega
  simpa [aW1,h1,h2] using this
 ·intro h j hj
  have h1:j < xs.length:=by omega
  have h2:j < ys.length:=by omega
  have hz:j < (xs.zip ys).length:=by simp; omega
  have:=h _ (List.getElem_mem hz)
  rw [List.getElem_zip] at this
  simpa [aW1,h1,h2] using this
theorem aw7 (I:a7 X pins σ H s):∀ (n:Nat) {A:Around}{v w:V}{x y:PV}{a b:Value},A.units+n < cLine->aF X.K M H v x->aF X.K M' H w y->aR v a->aR w b->dY n x y=true->SeqAt.EqAt A s a b (c9 n x y):=by
 intro n
 induction n with
 | zero=>
  intro A v w x y a b hu rx ry ra rb o
  cases rx with
  | non=>
   cases ra
   cases ry with
   | non=>cases rb; exact SeqAt.EqAt.same _
   | int i=>obtain ⟨t',rfl⟩:=rb; exact SeqAt.EqAt.none_int _ _
   | _=>cases o
  | bl i=>
   cases ra
   cases ry with
   | bl j=>cases rb; exact SeqAt.EqAt.bool_bool _ _
   | _=>cases o
  | int i=>
   obtain ⟨t,rfl⟩:=ra
   cases ry with
   | int j=>obtain ⟨t',rfl⟩:=rb; exact SeqAt.EqAt.int_int _ _ _ _
   | non=>cases rb; exact SeqAt.EqAt.int_none _ _
   | _=>cases o
  | str i=>
   obtain ⟨t,rfl⟩:=ra
   cases ry with
   | str j=>obtain ⟨t',rfl⟩:=rb; exact SeqAt.EqAt.str_str _ _ _ _
   | _=>cases o
  | _=>cases o
 | succ n ih=>
  intro A v w x y a b hu rx ry ra rb o
  have items:∀ {us ws:List V}{xs ys:List PV}{its its2:List Value},Reps X.K M H us xs->Reps X.K M' H ws ys->aN us its->aN ws its2->((xs.zip ys).all fun p=>dY n p.1 p.2)=true->
    ∀ j (h1:j < its.toArray.size) (h2:j < its2.toArray.size),SeqAt.EqAt A.in1 s its.toArray[j] its2.toArray[j] (c9 n (xs.getD j .non) (ys.getD j .non)):=fun {us ws xs ys its its2} r1 r2 v1 v2 ok j h1 h2=>by
   have l1:=v1.length
   have l2:=v2.length
   have m1:=r1.length
   have m2:=r2.length
   have k1:j < its.length:=by simpa using h1
   have k2:j < its2.length:=by simpa using h2
   have j1:j < us.length:=by omega
   have j2:j < ws.length:=by omega
   have i1:j < xs.length:=by omega
   have i2:j < ys.length:=by omega
   obtain ⟨u,hu',ru⟩:=v1.get (aV2 j1)
   obtain ⟨u2,hu2',ru2⟩:=v2.get (aV2 j2)
   obtain ⟨x,hx,rx⟩:=r1.get (aV2 j1)
   obtain ⟨y,hy,ry⟩:=r2.get (aV2 j2)
   have e1:its.toArray[j]=u:=by
    rw [aV2 k1] at hu'
    simpa using hu'
   have e2:its2.toArray[j]=u2:=by
    rw [aV2 k2] at hu2'
    simpa using hu2'
   have ok':dY n x y=true:=by
    rw [bd8] at ok
    have hz:j < (xs.zip ys).length:=by simp; omega
    have:=ok _ (List.getElem_mem hz)
    rw [List.getElem_zip] at this
    rw [aV2 i1] at hx
    rw [aV2 i2] at hy
    cases hx; cases hy
    exact this
   rw [e1,e2]
   have g1:xs.getD j .non=x:=by rw [aW1,hx]; rfl
   have g2:ys.getD j .non=y:=by rw [aW1,hy]; rfl
   rw [g1,g2]
   exact ih (by show A.units+1+n < cLine; omega) rx ry ru ru2 ok'
  have huA:A.units < cLine:=by omega
  cases rx with
  | @kt p us xs h1 r1=>
   obtain ⟨its,v1,p1,_⟩:=I.tuple (.inr h1)
   cases (show a=Value.ref p from ra)
   cases ry with
   | @kt p2 ws ys h2 r2=>
    obtain ⟨its2,v2,p2',_⟩:=I.tuple (.inr h2)
    cases (show b=Value.ref p2 from rb)
    by_cases e:p=p2
    ·subst e
     have:=aF.self (K:=X.K) (M:=M) (M':=M') (n+1) (.kt h1 r1) (.kt h2 r2) o
     rw [this]
     exact SeqAt.EqAt.same _
    ·have:=SeqAt.RcAt.tuples p1 p2' huA (items r1 r2 v1 v2 o)
     refine .of_refs e ?_
     have l1:=v1.length
     have l2:=v2.length
     have m1:=r1.length
     have m2:=r2.length
     rw [aU8,aU8,<- l1,<- l2,m1,m2,j7] at this
     exact this
   | _=>cases o
  | @tup p us xs h1 r1=>
   obtain ⟨its,v1,p1,_⟩:=I.tuple (aG.of (K:=X.K) h1)
   cases (show a=Value.ref p from ra)
   cases ry with
   | @tup p2 ws ys h2 r2=>
    obtain ⟨its2,v2,p2',_⟩:=I.tuple (aG.of (K:=X.K) h2)
    cases (show b=Value.ref p2 from rb)
    by_cases e:p=p2
    ·subst e
     have:=aF.self (K:=X.K) (M:=M) (M':=M') (n+1) (.tup h1 r1) (.tup h2 r2) o
     rw [this]
     exact SeqAt.EqAt.same _
    ·have:=SeqAt.RcAt.tuples p1 p2' huA (items r1 r2 v1 v2 o)
     refine .of_refs e ?_
     have l1:=v1.length
     have l2:=v2.length
     have m1:=r1.length
     have m2:=r2.length
     rw [aU8,aU8,<- l1,<- l2,m1,m2,j7] at this
     exact this
   | non=>cases rb; exact SeqAt.EqAt.tuple_none p1 huA
   | _=>cases o
  | @lst p us xs _ h1 r1=>
   obtain ⟨its,v1,p1,_⟩:=I.list (aJ.of (K:=X.K) h1)
   cases (show a=Value.ref p from ra)
   cases ry with
   | @lst p2 ws ys _ h2 r2=>
    obtain ⟨its2,v2,p2',_⟩:=I.list (aJ.of (K:=X.K) h2)
    cases (show b=Value.ref p2 from rb)
    have l1:=v1.length
    have l2:=v2.length
    have m1:=r1.length
    have m2:=r2.length
    by_cases e:p=p2
    ·subst e
     rw [h1] at h2; cases h2
     have:=Reps.self n r1 r2 o
     show SeqAt.EqAt A s _ _ ((xs.zip ys).all (fun p=>c9 n p.1 p.2) && xs.length == ys.length)
     rw [this]
     exact SeqAt.EqAt.same _
    ·refine .of_refs e ?_
     by_cases hl:xs.length=ys.length
     ·have:=SeqAt.RcAt.lists p1.isList p2'.isList (by rw [aU8,aU8]; omega) huA (items r1 r2 v1 v2 o)
      have hm:min xs.length ys.length=its.length:=by omega
      rw [aU8,<- hm,j7] at this
      show SeqAt.RcAt A s _ _ ((xs.zip ys).all (fun p=>c9 n p.1 p.2) && xs.length == ys.length)
      rw [show (xs.length == ys.length)=true by simpa using hl,Bool.and_true]
      exact this
     ·have:=SeqAt.RcAt.lists_lengths (A:=A) p1.isList p2'.isList (by rw [aU8,aU8]; simp; omega) huA
      show SeqAt.RcAt A s _ _ ((xs.zip ys).all (fun p=>c9 n p.1 p.2) && xs.length == ys.length)
      rw [show (xs.length == ys.length)=false by simpa using hl,Bool.and_false]
      exact this
   | _=>cases o
  | non=>
   cases ra
   cases ry with
   | non=>cases rb; exact SeqAt.EqAt.same _
   | int i=>obtain ⟨t',rfl⟩:=rb; exact SeqAt.EqAt.none_int _ _
   | @tup p2 ws ys h2 r2=>
    obtain ⟨its2,v2,p2',_⟩:=I.tuple (aG.of (K:=X.K) h2)
    cases (show b=Value.ref p2 from rb)
    exact SeqAt.EqAt.none_tuple p2' huA
   | _=>cases o
  | bl i=>
   cases ra
   cases ry with
   | bl j=>cases rb; exact SeqAt.EqAt.bool_bool _ _
   | _=>cases o
  | int i=>
   obtain ⟨t,rfl⟩:=ra
   cases ry with
   | int j=>obtain ⟨t',rfl⟩:=rb; exact SeqAt.EqAt.int_int _ _ _ _
   | non=>cases rb; exact SeqAt.EqAt.int_none _ _
   | _=>cases o
  | str i=>
   obtain ⟨t,rfl⟩:=ra
   cases ry with
   | str j=>obtain ⟨t',rfl⟩:=rb; exact SeqAt.EqAt.str_str _ _ _ _
   | _=>cases o
  | _=>cases o
end
structure Bt (mg:Str->Option Value):Prop where
 len:mg "len" = none
 range:mg "range" = none
 tuple:mg "tuple" = none
 list:mg "list" = none
 sorted:mg "sorted" = none
 all:mg "all" = none
 any:mg "any" = none
 zip:mg "zip" = none
 min:mg "min" = none
 max:mg "max" = none
 sum:mg "sum" = none
 isinst:mg "isinstance" = none
 int:mg "int" = none
 bool:mg "bool" = none
 enum:mg "enumerate" = none
section
variable {X : Cx} {a b c e o : Expr} {es cX : List Expr} {ta tb te to tk : aE} {tr : cL} {tA tB' tc : bT} {pos p2 px : Pos} {st : Stmt} {sts : List Stmt} {t u : aK}
theorem fJ (B:Bt X.mg) (ha:QA X [e] tr) (hg:Gl X "len":=by rfl) (he:starEach [e] X.env=(false,eval e X.env) :: starEach [] X.env:=by rfl) (hpl:(backTo pos (starEach [] X.env)).any (·.1)=false:=by rfl):QE X (.Call (.Name "len" p2) [e] [] pos) (aC dU tr):=
 jT (aj7.or am3) as9 hg B.len PySem.boot_len ha (he:=he) (hpl:=hpl)
theorem fV (B:Bt X.mg) (ha:QA X [e] tr) (hg:Gl X "tuple":=by rfl) (he:starEach [e] X.env=(false,eval e X.env) :: starEach [] X.env:=by rfl) (hpl:(backTo pos (starEach [] X.env)).any (·.1)=false:=by rfl):QE X (.Call (.Name "tuple" p2) [e] [] pos) (aC eL tr):=
 qL aj9 at0 hg B.tuple PyProof.Rows.boot_tuple ha (he:=he) (hpl:=hpl)
theorem vM (B:Bt X.mg) (ha:QA X [e] tr) (hg:Gl X "list":=by rfl) (he:starEach [e] X.env=(false,eval e X.env) :: starEach [] X.env:=by rfl) (hpl:(backTo pos (starEach [] X.env)).any (·.1)=false:=by rfl):QE X (.Call (.Name "list" p2) [e] [] pos) (aC nV tr):=
 qL aj8 at2 hg B.list PyProof.Rows.boot_list ha (he:=he) (hpl:=hpl)
theorem aw8 (B:Bt X.mg) (hc:X.calm=true) (ha:QA X [e] tr) (hg:Gl X "all":=by rfl) (he:starEach [e] X.env=(false,eval e X.env) :: starEach [] X.env:=by rfl) (hpl:(backTo pos (starEach [] X.env)).any (·.1)=false:=by rfl):QE X (.Call (.Name "all" p2) [e] [] pos) (aC uU tr):=
 jT (uG hc) at3 hg B.all PyProof.Rows.boot_all ha (he:=he) (hpl:=hpl)
theorem vN (B:Bt X.mg) (hc:X.calm=true) (ha:QA X [a,b] tr) (hg:Gl X "min":=by rfl) (he:starEach [a,b] X.env=(false,eval a X.env) :: starEach [b] X.env:=by rfl) (hpl:(backTo pos (starEach [b] X.env)).any (·.1)=false:=by rfl):QE X (.Call (.Name "min" p2) [a,b] [] pos) (aC lO tr):=
 jT (ag1 hc) at4 hg B.min PyProof.Rows.boot_min ha (he:=he) (hpl:=hpl)
theorem qP (B:Bt X.mg) (hc:X.calm=true) (ha:QA X [a,b] tr) (hg:Gl X "max":=by rfl) (he:starEach [a,b] X.env=(false,eval a X.env) :: starEach [b] X.env:=by rfl) (hpl:(backTo pos (starEach [b] X.env)).any (·.1)=false:=by rfl):QE X (.Call (.Name "max" p2) [a,b] [] pos) (aC kK tr):=
 jT (ag0 hc) at5 hg B.max PyProof.Rows.boot_max ha (he:=he) (hpl:=hpl)
theorem K1 (x:Int):∀ (xs:List Int),mZ (.int x) (xs.map V.int)=decide (x ∈ xs)
 | []=>by simp [mZ]
 | y :: r=>by
  have ih:=K1 x r
  unfold mZ at ih ⊢
  rw [aY6,List.any_cons,ih]
  by_cases e:y=x
  ·subst e; simp [gW]
  ·have:gW (.int y) (.int x)=false:=by simpa [gW] using e
   rw [this,Bool.false_or,bd4]
   simp [Ne.symm e]
theorem K2:∀ (xs:List Int),(xs.map V.int).all iT=true
 | []=>rfl
 | _ :: r=>by rw [aY6,bg0,K2 r]; rfl
theorem aw9 (neg:Bool):eG X (kO neg) (zK X.K neg):=by
 rintro W Hs H u v x y g g' Q Q' s n r1 r2 ⟨i,ns,rfl,e,q⟩ k
 cases r1
 obtain ⟨a,us,rfl,hs,r⟩:=r2.seq e
 obtain rfl:=r.ofInts
 refine⟨a,_,rfl,hs,rfl,K2 ns,?_⟩
 have:=k _ _ _ .fr (aD.refl _) (.bl _) q
 rw [K1]
 cases neg <;> exact this
theorem qQ (ha:QE X a ta) (hb:QE X b tb) (hm:behindInMarks .In b=false:=by rfl):QT X (.Compare a [.In] [b] pos) (aV (q2 (kO false) ta tb)):=j6 aj6 (aw9 false) ha hb hm
theorem aF.kt_ {K:PySem.W.Frag}{M:Addr->Prop}{H:Hp}{v:V}{xs:List PV} (r:aF K M H v (.kt xs)):∃ a us,v = .ref a/\lJ K a us/\Reps K M H us xs:=by
 cases r with
 | kt h r=>exact⟨_,_,rfl,h,r⟩
def K3 (K:PySem.W.Frag) (H:Hp) (x:V) (t:Value):Prop:=eY K H x t ∨ ∃ a us,x = .ref a/\aG K H a us/\t = .type "tuple"
theorem ax0:cK X (.builtin "isinstance") (fun xs H Q=>∃ x t n b,xs = [x,.ty n]/\K3 X.K H x t/\PySem.W.kitOne X.K t (.type n)=some b/\Q (.bl b) H):=by
 intro pins s σ H xs us Q I r h
 obtain ⟨x,t,n,b,rfl,ty,e,q⟩:=h
 rcases ty with ty | ⟨a,ws,rfl,hs,rfl⟩
 ·exact ao6 pins s σ H _ us Q I r ⟨x,t,n,b,rfl,ty,e,q⟩
 obtain ⟨u,u',rfl,ru,ru'⟩:=p4 r
 cases ru'
 cases (show u=Value.ref a from ru)
 obtain ⟨its,_,⟨o,h1,h2,_⟩,_⟩:=I.tuple hs
 exact bc4 PySem.W.kitx_tuple I.kIn ⟨o,h1,h2⟩ e (fun z=>nomatch z) fun tk=>⟨.bl b,H,I.tok tk,rfl,q⟩
theorem ax1 {K:PySem.W.Frag}{M:Addr->Prop}{H:Hp}{v:V}{x:PV}{T:String} (r:aF K M H v x) (e:G8 x=some T):K3 K H v (.type T):=by
 cases r with
 | non=>cases e; exact .inl .non
 | bl b=>cases e; exact .inl (.bl b)
 | int i=>cases e; exact .inl (.int i)
 | str i=>cases e; exact .inl (.str i)
 | tup h _=>cases e; exact .inl (.tup h)
 | lst _ h _=>cases e; exact .inl (.lst h)
 | kt h _=>cases e; exact .inr ⟨_,_,rfl,.inr h,rfl⟩
 | _=>cases e
theorem K4 {x:Str}{n:String} (B:Bt X.mg) (hn:bootBuiltins x=some (.type n)) (hm:X.mg x=none) (ha:QE X a ta) (hg:Gl X "isinstance":=by rfl) (hgx:Gl X x:=by rfl) (hx:x ≠ "__name__":=by decide) (hdx:(x == ("__debug__" : Str))=false:=by decide)
  (he:starEach [a,.Name x px] X.env=(false,eval a X.env) :: starEach [.Name x px] X.env:=by rfl) (he2:starEach [.Name x px] X.env=(false,eval (.Name x px) X.env) :: starEach [] X.env:=by rfl) (hpl:(backTo pos (starEach [.Name x px] X.env)).any (·.1)=false:=by rfl):QE X (.Call (.Name "isinstance" p2) [a,.Name x px] [] pos) (o0 X.K n ta):=
 bV (p9 ax0 hg B.isinst PyProof.Rows.boot_isinstance (dJ ha (dJ (ab9 (v:=.ty n) hgx hm hn rfl hx hdx) eD he2) he) (he:=he) (hpl:=hpl)) fun σ H Q' h=>by
  obtain ⟨W,ρ,Q,px,q,k⟩:=h
  refine⟨W,ρ,_,px,q,?_⟩
  rintro v H1 x g s r ⟨T,b,e,kt,q⟩
  exact⟨v,_,n,b,rfl,ax1 r e,kt,k _ _ _ .fr s (.bl _) q⟩
theorem ax2 (B:Bt X.mg) (ha:QE X a ta) (hg:Gl X "isinstance":=by rfl) (hgx:Gl X "int":=by rfl)
  (he:starEach [a,.Name "int" px] X.env=(false,eval a X.env) :: starEach [.Name "int" px] X.env:=by rfl) (he2:starEach [.Name "int" px] X.env=(false,eval (.Name "int" px) X.env) :: starEach [] X.env:=by rfl) (hpl:(backTo pos (starEach [.Name "int" px] X.env)).any (·.1)=false:=by rfl):QE X (.Call (.Name "isinstance" p2) [a,.Name "int" px] [] pos) (o0 X.K "int" ta):=K4 B PyProof.Rows.boot_int B.int ha (hg:=hg) (hgx:=hgx) (he:=he) (he2:=he2) (hpl:=hpl)
theorem ax3 (B:Bt X.mg) (ha:QE X a ta) (hg:Gl X "isinstance":=by rfl) (hgx:Gl X "bool":=by rfl)
  (he:starEach [a,.Name "bool" px] X.env=(false,eval a X.env) :: starEach [.Name "bool" px] X.env:=by rfl) (he2:starEach [.Name "bool" px] X.env=(false,eval (.Name "bool" px) X.env) :: starEach [] X.env:=by rfl) (hpl:(backTo pos (starEach [.Name "bool" px] X.env)).any (·.1)=false:=by rfl):QE X (.Call (.Name "isinstance" p2) [a,.Name "bool" px] [] pos) (o0 X.K "bool" ta):=K4 B PyProof.Rows.boot_bool B.bool ha (hg:=hg) (hgx:=hgx) (he:=he) (he2:=he2) (hpl:=hpl)
def vO (K:PySem.W.Frag) (n:Nat) (neg:Bool):R2:=fun v w H Q=>∃ x y,aF K (fun _=>True) H v x/\aF K (fun _=>True) H w y/\((∃ xs ys,x = .tup xs/\y = .tup ys) ∨ (∃ xs ys,x = .lst xs/\y = .lst ys) ∨ (∃ xs ys,x = .kt xs/\y = .kt ys))/\dY (n+1) x y=true/\Q (.bl (if neg=true then !c9 (n+1) x y else c9 (n+1) x y)) H
theorem m3 {pins:List (Addr × Obj)}{σ:St}{H:Hp}{s:Shared}{M M':Addr->Prop} (I:a7 X pins σ H s) {n:Nat}{A:Around} (hu:A.units+(n+1) < cLine) {us ws:List V}{xs ys:List PV}{its its2:List Value} (r1:Reps X.K M H us xs) (r2:Reps X.K M' H ws ys) (v1:aN us its) (v2:aN ws its2)
  (ok:((xs.zip ys).all fun p=>dY n p.1 p.2)=true):∀ j (h1:j < its.toArray.size) (h2:j < its2.toArray.size),SeqAt.EqAt A.in1 s its.toArray[j] its2.toArray[j] (c9 n (xs.getD j .non) (ys.getD j .non)):=by
 intro j h1 h2
 have l1:=v1.length
 have l2:=v2.length
 have m1:=r1.length
 have m2:=r2.length
 have k1:j < its.length:=by simpa using h1
 have k2:j < its2.length:=by simpa using h2
 have j1:j < us.length:=by omega
 have j2:j < ws.length:=by omega
 have i1:j < xs.length:=by omega
 have i2:j < ys.length:=by omega
 obtain ⟨u,hu',ru⟩:=v1.get (aV2 j1)
 obtain ⟨u2,hu2',ru2⟩:=v2.get (aV2 j2)
 obtain ⟨x,hx,rx⟩:=r1.get (aV2 j1)
 obtain ⟨y,hy,ry⟩:=r2.get (aV2 j2)
 have e1:its.toArray[j]=u:=by
  rw [aV2 k1] at hu'
  simpa using hu'
 have e2:its2.toArray[j]=u2:=by
  rw [aV2 k2] at hu2'
  simpa using hu2'
 have ok':dY n x y=true:=by
  rw [bd8] at ok
  have hz:j < (xs.zip ys).length:=by simp; omega
  have:=ok _ (List.getElem_mem hz)
  rw [List.getElem_zip] at this
  rw [aV2 i1] at hx
  rw [aV2 i2] at hy
  cases hx; cases hy
  exact this
 rw [e1,e2]
 have g1:xs.getD j .non=x:=by rw [aW1,hx]; rfl
 have g2:ys.getD j .non=y:=by rw [aW1,hy]; rfl
 rw [g1,g2]
 exact aw7 I n (by show A.units+1+n < cLine; omega) rx ry ru ru2 ok'
theorem ax4 (n:Nat) (hu:X.A.units+(n+1) < cLine):cD X (compareOp .Eq) (vO X.K n false):=by
 intro pins s σ H v w a b Q I ra rb h
 obtain ⟨x,y,rx,ry,kd,o,q⟩:=h
 have hu0:X.A.units < cLine:=by omega
 rcases kd with ⟨xs,ys,rfl,rfl⟩ | ⟨xs,ys,rfl,rfl⟩ | ⟨xs,ys,rfl,rfl⟩
 ·obtain ⟨p,us,rfl,h1,r1⟩:=rx.sqT
  obtain ⟨p2,ws,rfl,h2,r2⟩:=ry.sqT
  cases ra; cases rb
  obtain ⟨its,v1,p1,_⟩:=I.tuple (aG.of (K:=X.K) h1)
  obtain ⟨its2,v2,p2',_⟩:=I.tuple (aG.of (K:=X.K) h2)
  have l1:=v1.length
  have l2:=v2.length
  have m1:=r1.length
  have m2:=r2.length
  have:=SeqAt.RcAt.tuples p1 p2' hu0 (m3 I hu r1 r2 v1 v2 o)
  rw [aU8,aU8,<- l1,<- l2,m1,m2,j7] at this
  exact this _ _ _ _ ⟨.bl _,H,I,rfl,q⟩
 ·obtain ⟨p,us,rfl,_,h1,r1⟩:=rx.sqL
  obtain ⟨p2,ws,rfl,_,h2,r2⟩:=ry.sqL
  cases ra; cases rb
  obtain ⟨its,v1,p1,_⟩:=I.list (aJ.of (K:=X.K) h1)
  obtain ⟨its2,v2,p2',_⟩:=I.list (aJ.of (K:=X.K) h2)
  have l1:=v1.length
  have l2:=v2.length
  have m1:=r1.length
  have m2:=r2.length
  have q:Q (.bl ((xs.zip ys).all (fun p=>c9 n p.1 p.2) && xs.length == ys.length)) H:=q
  by_cases hl:xs.length=ys.length
  ·have:=SeqAt.RcAt.lists p1.isList p2'.isList (by rw [aU8,aU8]; omega) hu0 (m3 I hu r1 r2 v1 v2 o)
   have hm:min xs.length ys.length=its.length:=by omega
   rw [aU8,<- hm,j7] at this
   rw [show (xs.length == ys.length)=true by simpa using hl,Bool.and_true] at q
   exact this _ _ _ _ ⟨.bl _,H,I,rfl,q⟩
  ·have:=SeqAt.RcAt.lists_lengths (A:=X.A) p1.isList p2'.isList (by rw [aU8,aU8]; simp; omega) hu0
   rw [show (xs.length == ys.length)=false by simpa using hl,Bool.and_false] at q
   exact this _ _ _ _ ⟨.bl _,H,I,rfl,q⟩
 ·obtain ⟨p,us,rfl,h1,r1⟩:=rx.kt_
  obtain ⟨p2,ws,rfl,h2,r2⟩:=ry.kt_
  cases ra; cases rb
  obtain ⟨its,v1,p1,_⟩:=I.tuple (.inr h1)
  obtain ⟨its2,v2,p2',_⟩:=I.tuple (.inr h2)
  have l1:=v1.length
  have l2:=v2.length
  have m1:=r1.length
  have m2:=r2.length
  have:=SeqAt.RcAt.tuples p1 p2' hu0 (m3 I hu r1 r2 v1 v2 o)
  rw [aU8,aU8,<- l1,<- l2,m1,m2,j7] at this
  exact this _ _ _ _ ⟨.bl _,H,I,rfl,q⟩
theorem ax5 (n:Nat) (hu:X.A.units+(n+1) < cLine):cD X (compareOp .NotEq) (vO X.K n true):=by
 intro pins s σ H v w a b Q I ra rb h
 obtain ⟨x,y,rx,ry,kd,o,q⟩:=h
 have hu0:X.A.units < cLine:=by omega
 rcases kd with ⟨xs,ys,rfl,rfl⟩ | ⟨xs,ys,rfl,rfl⟩ | ⟨xs,ys,rfl,rfl⟩
 ·obtain ⟨p,us,rfl,h1,r1⟩:=rx.sqT
  obtain ⟨p2,ws,rfl,h2,r2⟩:=ry.sqT
  cases ra; cases rb
  obtain ⟨its,v1,p1,_⟩:=I.tuple (aG.of (K:=X.K) h1)
  obtain ⟨its2,v2,p2',_⟩:=I.tuple (aG.of (K:=X.K) h2)
  have l1:=v1.length
  have l2:=v2.length
  have m1:=r1.length
  have m2:=r2.length
  have:=SeqAt.RcNeAt.tuples p1 p2' hu0 (m3 I hu r1 r2 v1 v2 o)
  rw [aU8,aU8,<- l1,<- l2,m1,m2,j7] at this
  exact this _ _ _ _ ⟨.bl _,H,I,rfl,q⟩
 ·obtain ⟨p,us,rfl,_,h1,r1⟩:=rx.sqL
  obtain ⟨p2,ws,rfl,_,h2,r2⟩:=ry.sqL
  cases ra; cases rb
  obtain ⟨its,v1,p1,_⟩:=I.list (aJ.of (K:=X.K) h1)
  obtain ⟨its2,v2,p2',_⟩:=I.list (aJ.of (K:=X.K) h2)
  have l1:=v1.length
  have l2:=v2.length
  have m1:=r1.length
  have m2:=r2.length
  have q:Q (.bl (!((xs.zip ys).all (fun p=>c9 n p.1 p.2) && xs.length == ys.length))) H:=q
  by_cases hl:xs.length=ys.length
  ·have:=SeqAt.RcNeAt.lists p1.isList p2'.isList (by rw [aU8,aU8]; omega) hu0 (m3 I hu r1 r2 v1 v2 o)
   have hm:min xs.length ys.length=its.length:=by omega
   rw [aU8,<- hm,j7] at this
   rw [show (xs.length == ys.length)=true by simpa using hl,Bool.and_true] at q
   exact this _ _ _ _ ⟨.bl _,H,I,rfl,q⟩
  ·have:=SeqAt.RcNeAt.lists_lengths (A:=X.A) p1.isList p2'.isList (by rw [aU8,aU8]; simp; omega) hu0
   rw [show (xs.length == ys.length)=false by simpa using hl,Bool.and_false] at q
   exact this _ _ _ _ ⟨.bl _,H,I,rfl,q⟩
 ·obtain ⟨p,us,rfl,h1,r1⟩:=rx.kt_
  obtain ⟨p2,ws,rfl,h2,r2⟩:=ry.kt_
  cases ra; cases rb
  obtain ⟨its,v1,p1,_⟩:=I.tuple (.inr h1)
  obtain ⟨its2,v2,p2',_⟩:=I.tuple (.inr h2)
  have l1:=v1.length
  have l2:=v2.length
  have m1:=r1.length
  have m2:=r2.length
  have:=SeqAt.RcNeAt.tuples p1 p2' hu0 (m3 I hu r1 r2 v1 v2 o)
  rw [aU8,aU8,<- l1,<- l2,m1,m2,j7] at this
  exact this _ _ _ _ ⟨.bl _,H,I,rfl,q⟩
theorem K5 {n:Nat}{neg:Bool}:eG X (jP n neg) (vO X.K n neg):=by
 rintro W Hs H u v x y g g' Q Q' s n r1 r2 ⟨kd,o,q⟩ k
 exact⟨x,y,r1.same (aD.refl _) fun _ _=>trivial,r2.same (aD.refl _) fun _ _=>trivial,kd.elim .inl fun z=>.inr (.inl z),o,k _ _ _ .fr (aD.refl _) (.bl _) q⟩
theorem K6 (hu:X.A.units+3 < cLine) (ha:QE X a ta) (hb:QE X b tb):QT X (.Compare a [.NotEq] [b] pos) (aV (q2 (jP 2 true) ta tb)):=j6 (ax5 2 hu) K5 ha hb (eC _)
theorem vP (hu:X.A.units+3 < cLine) (ha:QE X a ta) (hb:QE X b tb):QE X (.Compare a [.Eq] [b] pos) (q2 (jP 2 false) ta tb):=lU (ax4 2 hu) K5 ha hb (eC _)
end
end PP
namespace PP
open PySem L2 PyProof.Rows
def LO (X:Cx) (t:lT):TO:=fun σ H Q'=>∃ (W:Addr->Prop) (ρ:bJ) (Q:Option Int->Prop),PX X.K X.H₀ W σ ρ H/\t ρ Q/\∀ o H',aD H H'->Q o->Q' o H'
def QO (X:Cx) (e:Option Expr) (t:lT):Prop:=PO X e (LO X t)
theorem Reps.cut {K:PySem.W.Frag}{M:Addr->Prop}{H:Hp}{us:List V}{xs:List PV} (r:Reps K M H us xs) (lo hi:Option Int):Reps K M H (dR us lo hi) (fE xs lo hi):=by
 unfold dR fE
 rw [r.length]
 exact (r.drop _).take _
section
variable {X : Cx} {a b c e o : Expr} {es cX : List Expr} {ta tb te to tk : aE} {tr : cL} {tA tB' tc : bT} {pos p2 px : Pos} {st : Stmt} {sts : List Stmt} {t u : aK}
theorem vQ:QO X none qH:=fun pins s σ H Q I h=>t9 pins s σ H Q I (by
 obtain ⟨W,ρ,Q1,px,q,k⟩:=h
 exact k _ _ (aD.refl _) q)
theorem vR (h:QE X e te):QO X (some e) (qI te):=fun pins s σ H Q I hq=>tD h pins s σ H Q I (by
 obtain ⟨W,ρ,Q1,px,q,k⟩:=hq
 refine⟨W,ρ,_,px,q,?_⟩
 rintro v H1 x g s r ⟨i,rfl,q⟩
 cases r
 exact⟨i,rfl,k _ _ s q⟩)
theorem vS {lo hi:Option Expr}{tl th:lT}{sp:Pos} (he:QE X e te) (hl:QO X lo tl) (hh:QO X hi th):QE X (.Subscript e (.Slice lo hi none sp) pos) (qJ te tl th):=bV (tE (zI.or E3) he hl hh) fun σ H Q' h=>by
 obtain ⟨W,ρ,Q,px,q,k⟩:=h
 refine⟨W,ρ,_,px,q,fun v H1 x g s1 r1 q1=>⟨W,ρ,_,px.mono s1,q1,fun lo H2 s2 q2=>⟨W,ρ,_,px.mono (s1.trans s2),q2,?_⟩⟩⟩
 rintro hi H3 s3 ⟨xs,e,f,q3⟩
 have S:=(s1.trans s2).trans s3
 have r3:=r1.same (M':=Mg X.H₀ W H g) (s2.trans s3) fun _ z=>z
 cases r3 with
 | tup h r=>
  cases e
  refine .inr ⟨_,_,rfl,aG.of h,fun p hp=>k _ _ _ .fr (S.trans (bD hp _)) (.tup b8 (((r.flat f).cut lo hi).same (bD hp _) fun _ z=>z)) q3,fun ec=>k _ _ _ .fr S (.tup h ?_) q3⟩
  have:=(r.flat (M':=Mg X.H₀ W H .fr) f).cut lo hi
  rw [ec] at this
  exact this
 | lst m h r=>
  cases e
  exact .inl ⟨_,_,rfl,aJ.of h,fun p hp=>k _ _ _ .fr (S.trans (bD hp _)) (.lst (S.free hp) b8 (((r.flat f).cut lo hi).same (bD hp _) fun _ z=>z)) q3⟩
 | scr h=>
  cases e
  exact .inl ⟨_,_,rfl,h.sqL,fun p hp=>k _ _ _ .fr (S.trans (bD hp _)) (.lst (S.free hp) b8 (((Reps.intz _).cut lo hi).same (bD hp _) fun _ z=>z)) q3⟩
 | _=>cases e
structure Df (P:Program) (w:World) (K:PySem.W.Frag) (mg:Str->Option Value) (base:Heap) (k:Nat) (x:Str) (ps:List Str) (p:bF):Prop where
 ex:∃ f fd,cR P w K mg base dE k f fd ps (nW K p)/\i8 K fd ps []/\PySem.W.keepIn K (.ref f)=true/\mg x=some (.ref f)
theorem b7 {k j:Nat}{x:Str}{ps:List Str}{p:bF} (d:Df X.prog X.w X.K X.mg X.base k x ps p) (hr:c6 j X.A) (ha:QA X (e :: es) tr) (hkj:k<=j:=by decide) (hg:Gl X x:=by rfl) (hdb:(x == ("__debug__" : Str))=false:=by decide)
  (he:starEach (e :: es) X.env=(false,eval e X.env) :: starEach es X.env:=by rfl) (hpl:(backTo pos (starEach es X.env)).any (·.1)=false:=by rfl):QE X (.Call (.Name x p2) (e :: es) [] pos) (aC p tr):=by
 obtain ⟨f,fd,F,b,kp,m⟩:=d.ex
 exact bV (p6 F (hr.mono hkj) hg m kp b .nil A4 ha hdb he hpl) fun _ _ _=>at6
theorem qR {K:PySem.W.Frag}{H:Hp}{N:List Str}{vs:List V}{xs:List PV} (r:Reps K (fun _=>True) H vs xs):PX K H (fun _=>False) (L2.gF N vs) (eJ N xs) H:=by
 have lr:=r.length
 have own:∀ {i:Nat}{m:Slot},(eJ N xs)[i]? = some (some m)->∃ x,xs[i]? = some x/\m = .sh (flat x) x:=fun {i m} h=>by
  unfold eJ at h
  by_cases hi:i < xs.length
  ·rw [bc0 (by simpa using hi),aV7] at h
   rw [aV2 hi] at h ⊢
   cases h
   exact⟨_,rfl,rfl⟩
  ·rw [bc6 (by simpa using hi),List.getElem?_replicate] at h
   split at h <;> cases h
 refine⟨by unfold L2.gF eJ; simp [lr],aD.refl _,fun a z=>z.elim,fun i m h=>?_,fun i j x y a h1=>?_⟩
 ·obtain ⟨x,hx,rfl⟩:=own h
  obtain ⟨v,hv,rx⟩:=r.at hx
  refine⟨v,?_,qD (g:=false) (rx.same (aD.refl _) fun _ _ z=>z)⟩
  have hi:i < vs.length:=(aV3.mp hv).1
  unfold L2.gF
  rw [bc0 (by simpa using hi),aV7,hv]; rfl
 ·obtain ⟨x,_,e⟩:=own h1
  cases e
theorem Df.of {P:Program}{w:World}{K:PySem.W.Frag}{mg:Str->Option Value}{base:Heap}{k:Nat}{x:Str}{ps N:List Str}{p:bF}{st:Stmt}{f:Addr}{fd:FuncData} (F:eF K x x st f fd) (m:mg x=some (.ref f)) (S:FnScope N ps (aQ st))
  (hb:∀ (kV doc pm:Value) (an:Option Addr) (cdv ct:Value) (us:List Value),us.length=ps.length->bindArgs (PySem.W.fnOf x x (iA st) (dN st) (aQ st) .none kV doc pm an cdv ct) ⟨us,[]⟩=pure (ps.zip us))
  (len:∀ xs Q,p xs Q->xs.length=ps.length)
  (body:∀ (cdv:Value) (A:Around) (outer:List Env) (s:Shared) (H:Hp) (E:XK),c6 k (A.deeper (envOfC x (aQ st) s.heap.objs.size f cdv))->
   ∃ t,eR (cS dE P w K mg base N x (aQ st) f cdv A outer s H E).nox (dN st) t/\∀ xs Q,p xs Q->t { nx:=fun _=>Q .non,rt:=Q } (eJ N xs)):Df P w K mg base (k+1) x ps p:=by
 refine⟨f,fd,F.ok S (fun vs H Q E h=>?_) (fun cdv A outer s H vs Q E hr h=>?_),F.binds hb,F.kp,m⟩
 ·obtain ⟨xs,Qp,r,q,_⟩:=h
  rw [r.length]; exact len xs Qp q
 ·obtain ⟨xs,Qp,r,q,k⟩:=h
  obtain ⟨t,ht,hq⟩:=body cdv A outer s H E hr
  refine⟨_,ht,fun _=>False,eJ N xs,_,qR r,hq xs Qp q,?_,?_,?_,?_⟩
  ·exact fun W' σ' H' ρ' e px q=>k _ _ _ px.same .non q
  ·exact fun v H' x s r q=>k _ _ _ s r q
  ·exact fun W' σ' H' ρ' e px q=>q
  ·exact fun W' σ' H' ρ' e px q=>q
theorem iH (i:Nat) {x:Str}{tp:Pos}{body:List Stmt}{ti:dW} (hN:X.N.Nodup) (hi:QI X (.Name x tp) e ti) (hb:eR X body t) (hx:X.N[i]? = some x:=by rfl) (hl:gV X.env.scope x:=by first | exact Or.inl rfl | exact Or.inr rfl) (hf:X.fn x=true ∨ X.env.scope.names.lookup x=some .local:=by first | exact .inl rfl | exact .inr rfl)
  (hp:PassesOwn (model X.prog X.w) X.A X.env X.xe:=by exact PassesOwn.never) (hc:X.calm=true:=by rfl) (hs:∀ x,foldedSetIterable e X.env x=pure x:=by intro _; rfl):QS X (.For (.Name x tp) e body [] pos) (dX ti (bG i) t):=
 K0 hp hc hi (eB hN hx hl hf) (jN _ i) hb hs
theorem vT (i j:Nat) {x y:Str}{tp xp yp:Pos}{kt:Nat}{body:List Stmt}{ti:dW} (hN:X.N.Nodup) (hi:QI X (.Tuple [.Name x xp,.Name y yp] kt tp) e ti) (hb:eR X body t) (hx:X.N[i]? = some x:=by rfl) (hy:X.N[j]? = some y:=by rfl) (hlx:gV X.env.scope x:=by first | exact Or.inl rfl | exact Or.inr rfl) (hly:gV X.env.scope y:=by first | exact Or.inl rfl | exact Or.inr rfl)
  (hfx:X.fn x=true ∨ X.env.scope.names.lookup x=some .local:=by first | exact .inl rfl | exact .inr rfl) (hfy:X.fn y=true ∨ X.env.scope.names.lookup y=some .local:=by first | exact .inl rfl | exact .inr rfl)
  (hp:PassesOwn (model X.prog X.w) X.A X.env X.xe:=by exact PassesOwn.never) (hc:X.calm=true:=by rfl) (hs:∀ x,foldedSetIterable e X.env x=pure x:=by intro _; rfl):QS X (.For (.Tuple [.Name x xp,.Name y yp] kt tp) e body [] pos) (dX ti (gY i j) t):=
 K0 hp hc hi (lB hc (fZ (eB hN hx hlx hfx) (fZ (eB hN hy hly hfy) lA))) (qE _ i j) hb hs
abbrev bC:Value->Shared->Prop:=fun _ _=>False
section
variable {scope : Scope} {N : List Str} {fr : List (Option Nat)} {x y : Str} {tp xp yp : Pos} {kt : Nat} {iter elt : Expr} {ti : dW}
theorem m5 {ifs:List Expr}{tcs:bT} (he:∀ (s:Shared) (H:Hp) (C:Addr) (fp:List Addr),QE (b6 X scope N s H C fp bC) elt te) (hi:∀ (s:Shared) (H:Hp) (C:Addr) (fp:List Addr),iW (b6 X scope N s H C fp bC) ifs (LT (b6 X scope N s H C fp bC) tcs))
  (hN:N.Nodup) (h0:N[0]? = some x) (hl:∀ (s:Shared) (H:Hp) (C:Addr) (fp:List Addr),(b6 X scope N s H C fp bC).env.scope.names.lookup x=some .local) (s:Shared) (H:Hp) :
  kH X scope N (.Name x tp) ifs elt s H (bP 0) (LT (X.frm H) tcs) (LE (X.frm H) te):=
 ⟨fun C fp=>eB (X:=b6 X scope N s H C fp bC) hN h0 (.inl (hl s H C fp)) (.inr (hl s H C fp)),fun C fp=>hi s H C fp,fun C fp=>he s H C fp⟩
theorem o9 {Y:Cx}:iW Y [] (LT Y cT):=fun pins s σ H Q I h=>pJ pins s σ H Q I (au6 h)
theorem m6 (hi:QI X (.Name x tp) iter ti) (he:∀ (s:Shared) (H:Hp) (C:Addr) (fp:List Addr),QE (b6 X scope N s H C fp bC) elt te)
  (hc:X.calm=true:=by rfl) (S:bS X scope N fr:=by exact bS.of rfl rfl) (hN:N.Nodup:=by decide +kernel) (h0:N[0]? = some x:=by rfl) (hl:∀ (s:Shared) (H:Hp) (C:Addr) (fp:List Addr),(b6 X scope N s H C fp bC).env.scope.names.lookup x=some .local:=by intro _ _ _ _; rfl) (hf:fr[0]? = some none:=by rfl)
  (hs:∀ x,foldedSetIterable iter X.env x=pure x:=by intro _; rfl):QE X (.ListComp elt [⟨.Name x tp,iter,[],0⟩] scope pos) (bU ti fr (bG 0) cT te):=
 bV (nI (gh:=fun _=>bP 0) (tch:=fun H=>LT (X.frm H) cT) (teh:=fun H=>LE (X.frm H) te) hc S hi (m5 he (fun _ _ _ _=>o9) hN h0 hl) hs) fun _ _ _=>j4 (jN _ 0) (fun i e=>by subst e; exact hf)
theorem oC {c:Expr}{tcs:bT} (hi:QI X (.Name x tp) iter ti) (ht:∀ (s:Shared) (H:Hp) (C:Addr) (fp:List Addr),QT (b6 X scope N s H C fp bC) c tcs) (he:∀ (s:Shared) (H:Hp) (C:Addr) (fp:List Addr),QE (b6 X scope N s H C fp bC) elt te)
  (hc:X.calm=true:=by rfl) (S:bS X scope N fr:=by exact bS.of rfl rfl) (hN:N.Nodup:=by decide +kernel) (h0:N[0]? = some x:=by rfl) (hl:∀ (s:Shared) (H:Hp) (C:Addr) (fp:List Addr),(b6 X scope N s H C fp bC).env.scope.names.lookup x=some .local:=by intro _ _ _ _; rfl) (hf:fr[0]? = some none:=by rfl)
  (hs:∀ x,foldedSetIterable iter X.env x=pure x:=by intro _; rfl):QE X (.ListComp elt [⟨.Name x tp,iter,[c],0⟩] scope pos) (bU ti fr (bG 0) tcs te):=
 bV (nI (gh:=fun _=>bP 0) (tch:=fun H=>LT (X.frm H) tcs) (teh:=fun H=>LE (X.frm H) te) hc S hi (m5 he (fun s H C fp=>nG (ht s H C fp)) hN h0 hl) hs) fun _ _ _=>j4 (jN _ 0) (fun i e=>by subst e; exact hf)
theorem ax6 {i:Nat}{z:Str}{zp:Pos} (nd:X.N.Nodup) (hi:QI X (.Name x tp) iter ti) (he:∀ (s:Shared) (H:Hp) (C:Addr) (fp:List Addr),QE (b6 X scope N s H C fp bC) elt te)
  (hz:X.N[i]? = some z:=by rfl) (hzl:X.env.scope.names.lookup z=some .local:=by rfl) (hsw:swapsWith (.ListComp elt [⟨.Name x tp,iter,[],0⟩] scope p2) (some (.Name z zp)) pos.line X.env=pure true:=by rfl)
  (hc:X.calm=true:=by rfl) (S:bS X scope N fr:=by exact bS.of rfl rfl) (hN:N.Nodup:=by decide +kernel) (h0:N[0]? = some x:=by rfl) (hl:∀ (s:Shared) (H:Hp) (C:Addr) (fp:List Addr),(b6 X scope N s H C fp bC).env.scope.names.lookup x=some .local:=by intro _ _ _ _; rfl) (hf:fr[0]? = some none:=by rfl)
  (hs:∀ x,foldedSetIterable iter X.env x=pure x:=by intro _; rfl):QS X (.Assign [.Name z zp] (.ListComp elt [⟨.Name x tp,iter,[],0⟩] scope p2) pos) (b5 i (bU ti fr (bG 0) cT te)):=
 cZ (nJ (gh:=fun _=>bP 0) (tch:=fun H=>LT (X.frm H) cT) (teh:=fun H=>LE (X.frm H) te) hc S hi (m5 he (fun _ _ _ _=>o9) hN h0 hl) nd hz hzl hsw hs) fun D σ H h=>j4 (jN _ 0) (fun i e=>by subst e; exact hf) (nU h)
theorem qS {c:Expr}{tcs:bT}{i:Nat}{z:Str}{zp:Pos} (nd:X.N.Nodup) (hi:QI X (.Name x tp) iter ti) (ht:∀ (s:Shared) (H:Hp) (C:Addr) (fp:List Addr),QT (b6 X scope N s H C fp bC) c tcs) (he:∀ (s:Shared) (H:Hp) (C:Addr) (fp:List Addr),QE (b6 X scope N s H C fp bC) elt te)
  (hz:X.N[i]? = some z:=by rfl) (hzl:X.env.scope.names.lookup z=some .local:=by rfl) (hsw:swapsWith (.ListComp elt [⟨.Name x tp,iter,[c],0⟩] scope p2) (some (.Name z zp)) pos.line X.env=pure true:=by rfl)
  (hc:X.calm=true:=by rfl) (S:bS X scope N fr:=by exact bS.of rfl rfl) (hN:N.Nodup:=by decide +kernel) (h0:N[0]? = some x:=by rfl) (hl:∀ (s:Shared) (H:Hp) (C:Addr) (fp:List Addr),(b6 X scope N s H C fp bC).env.scope.names.lookup x=some .local:=by intro _ _ _ _; rfl) (hf:fr[0]? = some none:=by rfl)
  (hs:∀ x,foldedSetIterable iter X.env x=pure x:=by intro _; rfl):QS X (.Assign [.Name z zp] (.ListComp elt [⟨.Name x tp,iter,[c],0⟩] scope p2) pos) (b5 i (bU ti fr (bG 0) tcs te)):=
 cZ (nJ (gh:=fun _=>bP 0) (tch:=fun H=>LT (X.frm H) tcs) (teh:=fun H=>LE (X.frm H) te) hc S hi (m5 he (fun s H C fp=>nG (ht s H C fp)) hN h0 hl) nd hz hzl hsw hs) fun D σ H h=>j4 (jN _ 0) (fun i e=>by subst e; exact hf) (nU h)
theorem ax7 {i:Nat}{z:Str}{zp:Pos} (nd:X.N.Nodup) (hi:QI X (.Name x tp) iter ti) (he:∀ (s:Shared) (H:Hp) (C:Addr) (fp:List Addr),QE (b6 X scope N s H C fp bC) elt te)
  (hz:X.N[i]? = some z:=by rfl) (hzl:X.env.scope.names.lookup z=some .local:=by rfl) (hsw:swapsWith (.ListComp elt [⟨.Name x tp,iter,[],0⟩] scope p2) (some (.Name z zp)) pos.line X.env=pure true:=by rfl)
  (hc:X.calm=true:=by rfl) (S:bS X scope N fr:=by exact bS.of rfl rfl) (hN:N.Nodup:=by decide +kernel) (h0:N[0]? = some x:=by rfl) (hl:∀ (s:Shared) (H:Hp) (C:Addr) (fp:List Addr),(b6 X scope N s H C fp bC).env.scope.names.lookup x=some .local:=by intro _ _ _ _; rfl) (hf:fr[0]? = some none:=by rfl)
  (hs:∀ x,foldedSetIterable iter X.env x=pure x:=by intro _; rfl):QS X (.Assign [.Name z zp] (.ListComp elt [⟨.Name x tp,iter,[],0⟩] scope p2) pos) (eI i (bU ti fr (bG 0) cT te)):=
 cZ (nJ (gh:=fun _=>bP 0) (tch:=fun H=>LT (X.frm H) cT) (teh:=fun H=>LE (X.frm H) te) hc S hi (m5 he (fun _ _ _ _=>o9) hN h0 hl) nd hz hzl hsw hs) fun D σ H h=>j4 (jN _ 0) (fun i e=>by subst e; exact hf) (F6 h)
end
theorem ax8 (i:Nat) {x:Str}{apos cpos xpos:Pos} (he:QE X e te) (hm:M1 X (.Name x xpos) "update" apos e cpos:=by exact⟨rfl,rfl,rfl,rfl⟩) (hN:X.N[i]? = some x:=by rfl) (hv:fM X.env.scope x:=by first | exact Or.inl rfl | exact Or.inr (Or.inl rfl) | exact Or.inr (Or.inr rfl)) (hd:(x == ("__debug__" : Str))=false:=by decide) (hcd:(x == ("__classdict__" : Str))=false:=by decide)
  (hsw:swapsWith (.Call (.Attribute (.Name x xpos) "update" apos) [e] [] cpos) none pos.line X.env=pure false:=by rfl):QS X (.Expr (.Call (.Attribute (.Name x xpos) "update" apos) [e] [] cpos) pos) (v5 i te):=
 cZ (mR (aq4 (i4 hN hv hd hcd) he hm) hsw) fun _ _ _=>av5
theorem ax9 {i:Nat}{x:Str}{xpos tpos:Pos} (hk:QE X a tk) (he:QE X e te) (hN:X.N[i]? = some x:=by rfl) (hv:fM X.env.scope x:=by first | exact Or.inl rfl | exact Or.inr (Or.inl rfl) | exact Or.inr (Or.inr rfl)) (hd:(x == ("__debug__" : Str))=false:=by decide) (hcd:(x == ("__classdict__" : Str))=false:=by decide)
  (hp:∀ (tx:TE) (tg:TE),PE X (.Name x xpos) tx->PE X a tg->PG X (.Subscript (.Name x xpos) a tpos) (sU tx tg tJ):=by intro _ _ h1 h2; exact ad5 h1 h2 aj1)
  (hs:swapsWithSole [.Subscript (.Name x xpos) a tpos] e pos.line X.env=pure false:=by rfl) (hw:swappedStores [.Subscript (.Name x xpos) a tpos] e X.env=pure none:=by rfl) :
  QS X (.Assign [.Subscript (.Name x xpos) a tpos] e pos) (uR i tk te):=cZ (xR he (hp _ _ (i4 hN hv hd hcd) hk) hs hw) fun _ _ _=>as7
end
end PP
namespace SO
open PySem PyProof.Rows
variable {rk : Keyed → Int}
section
variable {κ : SortKind} {a0 : Array Keyed} {pd : Array (Nat × Nat × Nat)} {st : SortSt} {prog : Program} {w : World} {A : Around} {E : Value → Shared → Prop} {s : Shared} {Ok : Keyed → Prop}
abbrev DS:=Option (Option Nat) × Nat × Nat
end
abbrev LS:=Option (Array Keyed) × Array Keyed × Nat × Nat × Nat × Nat × Nat
abbrev LO:=Option (Array Keyed) × Array Keyed × Nat × Nat × Nat
variable {rk : Keyed → Int} {xs ys o : List Keyed} {i j : Nat}
variable {rk : Keyed → Int} {xs ys o : List Keyed} {i j : Nat}
variable {rk : Keyed → Int}
def Ch:Nat->List (Nat × Nat)->Nat->Prop
 | a,[],b=>a=b
 | a,(p,n) :: r,b=>p=a/\0 < n/\Ch (a+n) r b
variable {rk : Keyed → Int} {κ : SortKind} {a0 : Array Keyed} {pd : Array (Nat × Nat × Nat)} {st : SortSt} {prog : Program} {w : World} {A : Around} {E : Value → Shared → Prop} {s : Shared} {Ok : Keyed → Prop}
end SO
namespace L2
open PySem PySem.Spec PyProof.Rows
theorem bK.at {P:Program}{w:World}{H:Hp}{h:Heap}{a:Addr}{o:HO} (x:bK P w H h a o):∃ ob,h.get? a=some ob:=by
 cases o with
 | lst xs=>obtain ⟨_,_,_,_,e⟩:=x; exact⟨_,e⟩
 | tup xs=>obtain ⟨_,_,_,_,e,_⟩:=x; exact⟨_,e⟩
 | dK kvs=>obtain ⟨_,_,_,_,_,_,_,e,_⟩:=x; exact⟨_,e⟩
 | dT kvs=>obtain ⟨_,_,_,_,_,_,_,e,_⟩:=x; exact⟨_,e⟩
 | set S n=>obtain ⟨_,_,_,_,e,_⟩:=x; exact⟨_,e⟩
 | ins C dx fs=>obtain ⟨_,_,_,e,_⟩:=x; exact⟨_,e⟩
 | own y=>exact x
 | xd fs=>obtain ⟨_,⟨_,_,_,e,_⟩,_⟩:=x; exact⟨_,e⟩
 | rng lo hi=>obtain ⟨_,_,_,e⟩:=x; exact⟨_,e⟩
 | frz ob u=>obtain ⟨e,_⟩:=x; exact⟨_,e⟩
 | tbl ps=>exact⟨_,x⟩
 | met f y=>exact⟨_,x⟩
 | ext φ=>exact x.2.1
structure vU (P:Program) (w:World) (outer:List Env) (H:Hp) (s:Shared) (H':Hp) (B:Heap) (a C:Addr) (s':Shared):Prop where
 os:s'.os=s.os
 bare:AllBare s'.gens
 un:Un (bZ outer) [] H H' s.heap s'.heap
 hok:bR P w H' s'.heap
 fly:∃ a0,Heap.FlyingW B outer a (.ref C) a0 s'.heap
 b0:∀ b o,s.heap.get? b=some o->b ∉ bZ outer->∃ o',B.get? b=some o'
 b1:∀ b o,s.heap.get? b=some o->H b=none->b ∉ bZ outer->B.get? b=some o
 b2:∀ b u o,H' b=some u->s'.heap.get? b=some o->B.get? b=some o
def eM (P:Program) (w:World):gE:=fun outer H s E e s'=>∃ (H':Hp) (B:Heap) (a C:Addr),e = .ref a/\vU P w outer H s H' B a C s'/\E (.ref C) none H'
section
variable {P : Program} {w : World} {outer : List Env} {H H' : Hp} {s s' : Shared} {B h2 : Heap} {a C : Addr}
theorem vU.hok2 (f:vU P w outer H s H' B a C s') (k:B.StaysIn h2):bR P w H' h2:=fun b u e=>
 (f.hok b u e).stay (fun c v hc q=>by
  rcases hc with z | z
  ·subst z; exact k _ _ (f.b2 _ _ _ e q)
  ·exact k _ _ (f.b2 _ _ _ z q)) (fun _ q=>q) fun _ _ q=>q
end
section
variable {P : Program} {w : World} {K : PySem.W.Frag} {mg : Str → Option Value} {base : Heap} {N : List Str} {qual : Str} {scope : Scope} {f : Addr} {cd : Value} {A : Around} {outer : List Env} {s₀ : Shared} {H₀ : Hp} {E₀ E₁ : XK}
theorem qT {pins:List (Addr × Obj)}{σ:St}{H:Hp}{s:Shared} (I:a7 (cS (eM P w) P w K mg base N qual scope f cd A outer s₀ H₀ E₀) pins σ H s) {b:Addr}{o:Obj} (e:s₀.heap.get? b=some o) (n:b ∉ bZ outer) :
  b ∉ bZ (envOfC qual scope s₀.heap.objs.size f cd :: outer):=fun z=>by
 rcases aV5.mp (I.stkSub b z) with y | y
 ·have l:=aW0 e
  have y:b=s₀.heap.objs.size:=y
  exact absurd l (by rw [y]; exact aZ9 _)
 ·exact n y
theorem ay0 (hE:∀ c d H',E₁ c d H'->E₀ c d H'):mX (eM P w) (cS (eM P w) P w K mg base N qual scope f cd A outer s₀ H₀ E₀) E₁:=by
 intro pins σ H s e s' I hx
 obtain ⟨H',B,a,C,e1,fl,q⟩:=hx
 subst e1
 have I':=I.call' fl.os fl.un fl.hok fl.bare (ch:=[]) (fun b z=>absurd z (by simp))
 obtain ⟨a0,fly⟩:=fl.fly
 refine wpAny_leaves_onW I.ok.frames rfl fly fun h' fly' up=>?_
 have slot:∀ b o,s₀.heap.get? b=some o->b ∈ bZ outer->∃ sl,h'.get? b=some { o with slots:=sl }:=fun b o e hb=>by
  obtain ⟨sl,e1⟩:=I'.base.slot b o e (I.ok.frf b hb) hb (fun z=>nomatch z)
  obtain ⟨_,o2,e2,nf⟩:=I.ok.funs.mem hb
  rw [show (cS (eM P w) P w K mg base N qual scope f cd A outer s₀ H₀ E₀).s₀=s₀ from rfl,e] at e2
  cases e2
  obtain ⟨sl',e3⟩:=up b _ e1 nf
  exact⟨sl',e3⟩
 have old:∀ b o,s₀.heap.get? b=some o->H₀ b=none->b ∉ bZ outer->B.get? b=some o:=fun b o e n hb=>
  fl.b1 b o (I.base.keep b o e n hb (fun z=>nomatch z)) (I.base.free b o e n (fun z=>nomatch z)) (qT I e hb)
 have old0:∀ b o,s₀.heap.get? b=some o->b ∉ bZ outer->∃ o',B.get? b=some o':=fun b o e hb=>by
  obtain ⟨o1,e1⟩:=I.base.there b o e (fun z=>nomatch z)
  exact fl.b0 b o1 e1 (qT I e hb)
 refine⟨H',B,a,C,rfl,⟨I'.os,I'.bare,⟨fun b o e n hb _=>fly'.1 _ _ (old b o e n hb),fun b o e n hb _=>slot b o e hb,fun b o e n hx=>I'.base.free b o e n hx,fun b o e _=>?_,I'.base.tups,I'.base.frzs,I'.base.tbls⟩,fl.hok2 fly'.1,⟨a0,fly'⟩,old0,old,fun b u o e h=>?_⟩,hE _ _ _ q⟩
 ·by_cases hb:b ∈ bZ outer
  ·obtain ⟨sl,e1⟩:=slot b o e hb
   exact⟨_,e1⟩
  ·obtain ⟨o',e1⟩:=old0 b o e hb
   exact⟨o',fly'.1 _ _ e1⟩
 ·obtain ⟨ob,e1⟩:=(fl.hok b u e).at
  have e2:=fl.b2 b u ob e e1
  have e3:=fly'.1 _ _ e2
  have h:h'.get? b=some o:=h
  rw [h] at e3; cases e3; exact e2
theorem ay1 {pins:List (Addr × Obj)}{σ:St}{H:Hp}{s:Shared}{h':Heap}{e C:Addr}{args:List Value} (I:a7 (cS (eM P w) P w K mg base N qual scope f cd A outer s₀ H₀ E₀) pins σ H s) (mx:Heap.MadeExcOf s.heap h' e (.ref C) args) (q:E₀ (.ref C) none H) :
  (cS (eM P w) P w K mg base N qual scope f cd A outer s₀ H₀ E₀).xe (.ref e) { s with heap:=h' }:=by
 have tr:∀ b u,H b=some u->b ∉ bZ (envOfC qual scope s₀.heap.objs.size f cd :: outer):=fun b u z n=>by
  rw [I.stkFree b n] at z; cases z
 have inB:∀ b o,s.heap.get? b=some o->b ∉ bZ (envOfC qual scope s₀.heap.objs.size f cd :: outer)->(PySem.W.hideAll s.heap (bZ (envOfC qual scope s₀.heap.objs.size f cd :: outer))).get? b=some o:=fun b o z n=>PySem.W.hideAll_get _ z n
 refine wpAny_leaves_madeW (base:=PySem.W.hideAll s.heap (bZ (envOfC qual scope s₀.heap.objs.size f cd :: outer))) I.ok.frames rfl (fun b o z=>PySem.W.of_hideAll _ z) (PySem.W.funFrames_hide I.stack fun env he b hb=>List.mem_filterMap.mpr ⟨env,he,hb⟩) mx fun h'' t fly _ _ up=>?_
 have slot:∀ b o,s₀.heap.get? b=some o->b ∈ bZ outer->∃ sl,h''.get? b=some { o with slots:=sl }:=fun b o e hb=>by
  obtain ⟨sl,e1⟩:=I.base.slot b o e (I.ok.frf b hb) hb (fun z=>nomatch z)
  obtain ⟨_,o2,e2,nf⟩:=I.ok.funs.mem hb
  rw [show (cS (eM P w) P w K mg base N qual scope f cd A outer s₀ H₀ E₀).s₀=s₀ from rfl,e] at e2
  cases e2
  obtain ⟨sl',e3⟩:=up b _ (mx.keeps _ _ e1) nf
  exact⟨sl',e3⟩
 have old:∀ b o,s₀.heap.get? b=some o->H₀ b=none->b ∉ bZ outer->(PySem.W.hideAll s.heap (bZ (envOfC qual scope s₀.heap.objs.size f cd :: outer))).get? b=some o:=fun b o e n hb=>
  inB b o (I.base.keep b o e n hb (fun z=>nomatch z)) (qT I e hb)
 have old0:∀ b o,s₀.heap.get? b=some o->b ∉ bZ outer->∃ o',(PySem.W.hideAll s.heap (bZ (envOfC qual scope s₀.heap.objs.size f cd :: outer))).get? b=some o':=fun b o e hb=>by
  obtain ⟨o1,e1⟩:=I.base.there b o e (fun z=>nomatch z)
  exact⟨o1,inB b o1 e1 (qT I e hb)⟩
 refine⟨H,_,e,C,rfl,⟨I.os,I.bare,⟨fun b o e n hb _=>fly.1 _ _ (old b o e n hb),fun b o e n hb _=>slot b o e hb,fun b o e n hx=>I.base.free b o e n hx,fun b o e _=>?_,I.base.tups,I.base.frzs,I.base.tbls⟩,fun b u z=>?_,⟨_,fly⟩,old0,old,fun b u o z h=>?_⟩,q⟩
 ·by_cases hb:b ∈ bZ outer
  ·obtain ⟨sl,e1⟩:=slot b o e hb
   exact⟨_,e1⟩
  ·obtain ⟨o',e1⟩:=old0 b o e hb
   exact⟨o',fly.1 _ _ e1⟩
 ·refine (I.hok b u z).stay (fun c v hc y=>?_) (fun _ y=>y) fun _ _ y=>y
  rcases hc with z' | z'
  ·subst z'; exact fly.1 _ _ (inB _ _ y (tr _ _ z))
  ·exact fly.1 _ _ (inB _ _ y (tr _ _ z'))
 ·obtain ⟨ob,e1⟩:=(I.hok b u z).at
  have e2:=inB b ob e1 (tr b u z)
  have e3:=fly.1 _ _ e2
  have h:h''.get? b=some o:=h
  rw [h] at e3; cases e3; exact e2
end
structure m7 (X:Cx) (E:XK):Prop where
 pass:mX (eM X.prog X.w) X E
 made:∀ (pins:List (Addr × Obj)) (σ:St) (H:Hp) (s:Shared) (h':Heap) (e C:Addr) (args:List Value),a7 X pins σ H s->Heap.MadeExcOf s.heap h' e (.ref C) args->E (.ref C) none H->X.xe (.ref e) { s with heap:=h' }
 own:PassesOwn (model X.prog X.w) X.A X.env X.xe
theorem ay2 {P:Program}{w:World}{K:PySem.W.Frag}{mg:Str->Option Value}{base:Heap}{N:List Str}{qual:Str}{scope:Scope}{f:Addr}{cd:Value}{A:Around}{outer:List Env}{s₀:Shared}{H₀:Hp}{E₀ E₁:XK} (hE:∀ c d H',E₁ c d H'->E₀ c d H') :
  m7 (cS (eM P w) P w K mg base N qual scope f cd A outer s₀ H₀ E₀) E₁:=
 ⟨ay0 hE,fun _ _ _ _ _ _ _ _ I mx q=>ay1 I mx (hE _ _ _ q),PassesOwn.leaving⟩
def K7 (E:XK) (C:Addr) (t:TA):TS:=fun _ σ H=>t σ H fun vs H1=>vs.length<=sizeLine/\E (.ref C) none H1
theorem ay3 {X:Cx}{E:XK}{x:Str}{C:Addr}{bm:List Value}{B newId initId:String}{np cpos pos:Pos}{e:Expr}{es:List Expr}{t:TA} (hX:m7 X E) (hc:X.calm=true) (O:OwnCls x C bm newId X.mg X.base) (FB:ExcBaseFacts B newId initId bm) (ha:PA X (e :: es) t) (hg:Gl X x)
  (hd:(x == ("__debug__" : Str))=false:=by decide) (he:starEach (e :: es) X.env=(false,eval e X.env) :: starEach es X.env:=by rfl) (hpl:(backTo cpos (starEach es X.env)).any (·.1)=false:=by rfl) :
  PS X (.Raise (some (.Call (.Name x np) (e :: es) [] cpos)) none pos) (K7 E C t):=by
 intro pins s σ H D I h
 obtain ⟨tl,Na,nm,qn,bs,hx,sn,sub,ab,col,dd,k0,k1,k2,k3,k5,mN,hC,hN,hni,T⟩:=O.obj
 refine wpAny_Raise_call_subT (nm:=nm) (q:=qn) (N:=Na) (bs:=bs) (bm:=tl) (hdct:=hx) (sn:=sn) (sub:=sub) (ab:=ab) (col:=col) (dd:=dd) (k0:=k0) (k1:=k1) (k2:=k2) (k3:=k3) (k5:=k5) FB (C:=C) (mN:=mN) (T.hasType FB.hasBase) (I.ok.hd hc) (by rw [he]; show (false || (backTo cpos (starEach es X.env)).any (·.1))=false; rw [hpl]; rfl) hni (sR I hg O.bound ⟨rfl,?_⟩ hd)
 have h1:=ha cpos pins s σ H _ I h
 rw [he] at h1 ⊢
 refine Calls.evalArgs_plain (bc1 h1 (fun us s2 h2=>?_) fun _ _ y=>y)
 obtain ⟨vs,H2,I2,r,hl,q⟩:=h2
 have r:aN vs us:=r
 exact⟨rfl,by show us.length<=sizeLine; rw [<- r.length]; exact hl,I2.bk _ _ hC,hN.keeps I2.bk,T.keeps I2.bk,fun h' e' mx=>hX.made pins σ H2 s2 h' e' C _ I2 mx q⟩
theorem eF.okX {P:Program}{w:World}{K:PySem.W.Frag}{mg:Str->Option Value}{base:Heap}{x qual:Str}{st:Stmt}{f:Addr}{fd:FuncData}{N ps:List Str}{k:Nat}{sp:Sp} (F:eF K x qual st f fd) (S:FnScope N ps (aQ st)) (len:∀ vs H Q E,sp vs H Q E->vs.length=ps.length)
  (hbody:∀ (cdv:Value) (A:Around) (outer:List Env) (s:Shared) (H:Hp) (vs:List V) (Q:VK) (E:XK),c6 k (A.deeper (envOfC qual (aQ st) s.heap.objs.size f cdv))->sp vs H Q E->
   ∃ t,dD (cS (eM P w) P w K mg base N qual (aQ st) f cdv A outer s H E) (dN st) t/\t { nx:=fun _ H'=>Q .non H',rt:=Q } (gF N vs) H):cR P w K mg base (eM P w) (k+1) f fd ps sp:=by
 obtain ⟨oc,od,kV,doc,pm,an,cdv,ct,osl,rfl,lk,hcd⟩:=F.ex
 exact yU lk hcd S len fun A outer s H vs Q E hr hsp=>hbody cdv A outer s H vs Q E hr hsp
section
variable {X : Cx} {pins : List (Addr × Obj)} {σ : St} {H H1 H' : Hp} {s s1 s' : Shared} {B h2 : Heap} {a C : Addr}
abbrev Cx.suite (X:Cx) (a:Addr):Cx:={ X with A:=X.A.mark (some (.ref a)),calm:=false,xe:=fun _ _=>False }
end
abbrev TB:=cJ->XK->St->Hp->Prop
section
variable {X : Cx} {pins : List (Addr × Obj)} {σ : St} {H H' : Hp} {s : Shared} {a : Addr}
theorem a7.reH (I:a7 X pins σ H s) (d:∀ b,b ≠ a->H' b=H b) (ha:∃ x,H a=some x) (tup:∀ xs,H a ≠ some (.tup xs)) (frz:∀ o v,X.H₀ a ≠ some (.frz o v)) (tbl:∀ ps,H a ≠ some (.tbl ps)) (hok:bR X.prog X.w H' s.heap):a7 X pins σ H' s:=by
 have none:∀ b,H b=none->H' b=none:=fun b e=>by
  rw [d b fun z=>?_]; exact e
  obtain ⟨x,hx⟩:=ha
  rw [z,hx] at e; cases e
 refine⟨I.ok,I.os,I.bare,⟨I.base.keep,I.base.slot,fun b o e n hx=>none b (I.base.free b o e n hx),I.base.there,fun b xs q=>?_,fun b o u q=>?_,fun b ps q=>?_⟩,I.loc,I.cell,none _ I.free,fun x c e=>none c (I.freeC x c e),fun p hp=>?_,hok,I.len⟩
 ·have e:=I.base.tups b xs q
  rw [d b fun z=>tup xs (by rw [<- z]; exact e)]; exact e
 ·rw [d b fun z=>frz o u (by rw [<- z]; exact q)]; exact I.base.frzs b o u q
 ·obtain ⟨more,e⟩:=I.base.tbls b ps q
  exact⟨more,by rw [d b fun z=>tbl _ (by rw [<- z]; exact e)]; exact e⟩
 ·obtain ⟨e,n,r⟩:=I.pin p hp
  exact⟨e,none _ n,r⟩
theorem a7.froze {o:Obj}{kvs:List (List aB × V)} (I:a7 X pins σ H s) (h:H a=some (.dT kvs)) (e:s.heap.get? a=some o):a7 X pins σ (upd H a (.frz o (.dT kvs))) s:=by
 have own:∀ {c:Addr}{y:Addr},H c=some (.own y)->c ≠ a:=fun {c y} q z=>by rw [z,h] at q; cases q
 have tp:∀ {c:Addr}{xs:List V},H c=some (.tup xs)->c ≠ a:=fun {c xs} q z=>by rw [z,h] at q; cases q
 refine I.reH (a:=a) (fun b n=>aH n) ⟨_,h⟩ (fun xs q=>by rw [h] at q; cases q) (fun o' v q=>by have:=I.base.frzs a o' v q; rw [h] at this; cases this) (fun ps q=>by rw [h] at q; cases q) fun b u q=>?_
 by_cases hb:b=a
 ·subst hb
  rw [b8] at q; cases q
  exact⟨e,(I.hok b _ h).stay (fun _ _ _ q=>q) (fun c q=>by rw [aH (own q)]; exact q) fun c xs q=>by rw [aH (tp q)]; exact q⟩
 ·rw [aH hb] at q
  exact (I.hok b u q).stay (fun _ _ _ q=>q) (fun c q=>by rw [aH (own q)]; exact q) fun c xs q=>by rw [aH (tp q)]; exact q
theorem a7.thaw {o:Obj}{u:HO} (I:a7 X pins σ H s) (h:H a=some (.frz o u)) (n:∀ o v,X.H₀ a ≠ some (.frz o v)):a7 X pins σ (upd H a u) s:=by
 have own:∀ {c:Addr}{y:Addr},H c=some (.own y)->c ≠ a:=fun {c y} q z=>by rw [z,h] at q; cases q
 have tp:∀ {c:Addr}{xs:List V},H c=some (.tup xs)->c ≠ a:=fun {c xs} q z=>by rw [z,h] at q; cases q
 refine I.reH (a:=a) (fun b n=>aH n) ⟨_,h⟩ (fun xs q=>by rw [h] at q; cases q) n (fun ps q=>by rw [h] at q; cases q) fun b v q=>?_
 by_cases hb:b=a
 ·subst hb
  rw [b8] at q; cases q
  exact bK.stay (I.hok b _ h).2 (fun _ _ _ q=>q) (fun c q=>by rw [aH (own q)]; exact q) fun c xs q=>by rw [aH (tp q)]; exact q
 ·rw [aH hb] at q
  exact (I.hok b v q).stay (fun _ _ _ q=>q) (fun c q=>by rw [aH (own q)]; exact q) fun c xs q=>by rw [aH (tp q)]; exact q
end
def K8 (a:Addr) (o:Obj) (ys:List V):It:=
 ⟨fun i H=>(∃ u,H a=some (.frz o u))/\i < ys.length,fun i H v H'=>H'=H/\ys[i]? = some v,fun i H=>(∃ u,H a=some (.frz o u))/\i=ys.length⟩
theorem ay4 {P:Program}{w:World}{K:PySem.W.Frag}{tg:Expr}{o:Obj}{es:Array DictEntry}{ep:Nat}{ys:List V} (a it:Addr) (od:o.ExactDict/\o.data = .dict es ep) (vl:aN ys (es.toList.map (·.key))) :
  gD P w K tg (K8 a o ys) [it] it (fun i h=>h.IsKeyIter it a i es.size ep):=by
 have hs:es.size=ys.length:=by
  have:=vl.length
  rw [aV1,be4] at this
  exact this.symm
 refine⟨by simp,fun i h st b hb=>?_,fun i h h' st k=>st.at fun o e=>k it (by simp) o e,?_,?_,fun _ _ _ _ _ st q=>wpAny_pyIter_keyiter st q⟩
 ·obtain rfl:b=it:=by simpa using hb
  obtain ⟨o,e,c,d⟩:=st
  exact⟨o,e,fun v z=>by rw [d] at z; cases z⟩
 ·intro X hP hw hK hc i pins s σ H E I hf st hg
  subst hP hw hK
  obtain ⟨⟨u,hu⟩,hi⟩:=hg
  obtain ⟨f0,f1,f2,f3,f4,f5⟩:=hf it (by simp)
  refine Raw.turn (I.ok.hd hc) st ⟨o,(I.hok a _ hu).1,od.1,od.2⟩ (fun lt h' again sb=>?_) (fun ge=>absurd ge (by omega))
  have I1:a7 X pins σ H { s with heap:=h' }:=I.turned (t':=s.toks) (fun b o hb e=>(sb.2 b hb).trans e) f0 f1 f3 f4 f5
  have hv:=aV2 hi
  obtain ⟨key,hk,rv⟩:=vl.get hv
  obtain rfl:key=es[i].key:=by
   rw [aV7] at hk
   simp [lt] at hk
   exact hk.symm
  obtain ⟨o',e,c,d⟩:=id again
  exact⟨es[i].key,rfl,mS (s:={ s with heap:=h' }) e c d (by decide) ⟨_,H,I1,rv,⟨rfl,hv⟩,again,fun b hb=>(hf b hb).1⟩⟩
 ·intro X hP hw hK hc i pins s σ H E I hf st hg
  subst hP hw hK
  obtain ⟨⟨u,hu⟩,hi⟩:=hg
  obtain ⟨f0,f1,f2,f3,f4,f5⟩:=hf it (by simp)
  exact Raw.turn (I.ok.hd hc) st ⟨o,(I.hok a _ hu).1,od.1,od.2⟩ (fun lt=>absurd lt (by omega)) fun _ h' eb=>⟨rfl,I.turned (t':=s.toks) (fun b o hb e=>eb b o hb e) f0 f1 f3 f4 f5⟩
section
variable {X : Cx} {tg l : Expr} {tl : TE}
def K9 (tl:TE):TI:=fun σ H R=>tl σ H fun x H1=>∃ a kvs,x = .ref a/\H1 a=some (.dT kvs)/\∀ o ys,Paired (nL H1) ys (kvs.map (·.1))->R (K8 a o ys) (upd H1 a (.frz o (.dT kvs)))
theorem ay5 (hl:PE X l tl):PI X tg l (K9 tl):=by
 intro pins s σ H R I h
 refine aM (hl pins s σ H _ I h) fun v s1 h1=>?_
 obtain ⟨x,H1,I1,r1,a,kvs,e,ha,q⟩:=h1
 subst e
 cases r1
 obtain ⟨es,ep,ys,⟨o,e1,e2,e3⟩,far,pk,vl,z⟩:=C2 I1 ha
 refine Raw.made far ⟨o,e1,e2,e3⟩ ?_
 have hf:H1 s1.heap.objs.size=none:=I1.hok.fresh (aV0 _)
 refine⟨s1.heap.objs.size,[s1.heap.objs.size],_,_,upd H1 a (.frz o (.dT kvs)),rfl,(I1.froze ha e1).kept (t':=s1.toks) fun b o e=>aU7 _ e,ay4 a _ ⟨e2,e3⟩ vl,⟨_,aV8 _ rfl,rfl,rfl⟩,fun b hb=>?_,q o ys pk⟩
 obtain rfl:b=s1.heap.objs.size:=by simpa using hb
 exact I1.fpOk (aV0 _) (by rw [aH (fun z=>by rw [z,ha] at hf; cases hf)]; exact hf)
def L0 (X:Cx) (t:TE):TE:=fun σ H Q=>t σ H fun v H'=>∃ a o u,H' a=some (.frz o u)/\(∀ o' v',X.H₀ a ≠ some (.frz o' v'))/\Q v (upd H' a u)
theorem ay6 {e:Expr}{t:TE} (h:PE X e t):PE X e (L0 X t):=by
 intro pins s σ H Q I hq
 refine aM (h pins s σ H _ I hq) fun v s1 h1=>?_
 obtain ⟨x,H1,I1,r1,a,o,u,e,n,q⟩:=h1
 exact⟨x,_,I1.thaw e n,r1,q⟩
end
end L2
namespace Raw
open PySem PySem.W PySem.Calls PyProof.Rows
theorem kS {α β:Type} (f:α->β):∀ (j:Nat) (l:List α),(l.eraseIdx j).map f=(l.map f).eraseIdx j
 | _,[]=>rfl
 | 0,_ :: _=>rfl
 | j+1,x :: r=>by
  show f x :: (r.eraseIdx j).map f=f x :: (r.map f).eraseIdx j
  rw [kS f j r]
section
variable {prog : Program} {w : World} {K : Type} [DecidableEq K] {knd : HeapKind prog w K} {A : Around} {E : Value → Shared → Prop} {s : Shared} {d a : Addr} {k : K} {xs : List (K × Addr × Value)}
def L1 (knd:HeapKind prog w K) (h:Heap) (d:Addr) (xs:List (K × Addr × Value)) (j:Nat):Prop:=∃ o es ep,h.get? d=some o/\o.ExactDict/\o.data = .dict es ep/\es.toList=(xs.eraseIdx j).map (entryOfKey knd)
theorem ay7 {Q:Option DictEntry->Shared->Prop} (hu:knd.room A) (hkey:knd.is s.heap k a) (hm:s.heap.DictOfH knd d xs) (hz:xs.length<=sizeLine) (is:∃ (j:Nat) (p:Addr × Value),xs[j]? = some (k,p))
  (q:∀ (j:Nat) (p:Addr × Value) h',xs[j]? = some (k,p)->L1 knd h' d xs j->Heap.SameBut d s.heap h'->Q (some (entryOfKey knd (k,p))) { s with heap:=h',toks:=s.toks+knd.draws k }):wpAny (model prog w) A (Builtin.Dict.takeOut d (.ref a)) Q E s:=by
 obtain ⟨o,es,ep,e1,e2,e3,e4,e5,e6⟩:=hm
 obtain ⟨j0,p0,h0⟩:=is
 unfold Builtin.Dict.takeOut
 try with_reducible refine bd9 ?_
 apply aU6
 apply knd.pyHash hu hkey
 apply aU6
 refine wpAny_dictFind_heap (s:={ s with toks:=s.toks+knd.draws k }) hu hkey e1 e3 e4 e5 e6 (fun no=>absurd h0 (no j0 p0)) fun j p hj=>?_
 apply aU6
 apply wpAny_dictEntries (s:={ s with toks:=s.toks+knd.draws k }) e1 e3
 rw [entry_at e4 j,hj]
 have sz:=size_of_entries e4
 apply aU6
 refine wpAny_updateDictKeys (hz:=by omega) (s:={ s with toks:=s.toks+knd.draws k }) e1 e3 (aV4 (q j p _ hj ⟨_,_,ep+1,Heap.get?_update_self _ e1 (Obj.isFreed_of_dict (Obj.data_mapDictKeys e3 _)),e2.mapDictKeys _,Obj.data_mapDictKeys e3 _,?_⟩ (Heap.SameBut.update ..)))
 rw [kS,<- e4]
 obtain ⟨l⟩:=es
 simp
end
section
variable {prog : Program} {w : World} {K : Type} [DecidableEq K] (knd : HeapKind prog w K) (d a : Addr)
theorem ay8:MeetsIn prog w (Builtin.«dict.pop» ⟨[.ref d,.ref a],[]⟩) (fun A R s=>knd.room A.in1/\∃ k xs,knd.is s.heap k a/\s.heap.DictOfH knd d xs/\xs.length<=sizeLine/\(∃ (j:Nat) (p:Addr × Value),xs[j]? = some (k,p))/\
  ∀ (j:Nat) (p:Addr × Value) h',xs[j]? = some (k,p)->L1 knd h' d xs j->Heap.SameBut d s.heap h'->R (.ok (.ret p.2)) { s with heap:=h',toks:=s.toks+knd.draws k }):=
 .of_wp fun A R s h=>by
  obtain ⟨hu,k,xs,hk,hm,hz,is,q⟩:=h
  obtain ⟨o,es,ep,e1,e2,e3,e4,e5,e6⟩:=id hm
  have ne:es.isEmpty=false:=by
   obtain ⟨j,p,hj⟩:=is
   have sz:=size_of_entries e4
   have:=(aV3.mp hj).1
   rw [Array.isEmpty_eq_false_iff,ne_eq,<- Array.size_eq_zero_iff]
   omega
  unfold Builtin.«dict.pop»
  apply aU6
  unfold Builtin.Dict.keyAndDefault
  apply aU6
  apply wpAny_notOrdered_dict hm.typeIs
  change wpAny _ _ (pure (d,Value.ref a,none)) _ _ s
  apply aV4
  have kp:(keyPart (Value.ref a)).isSome=false:=rfl
  simp only [kp,aX0,bb2]
  refine aU6 (wpAny_dictEntries e1 e3 (aU6 (aV4 ?_)))
  simp only [ne,aX0,bb2]
  apply aU6
  refine ay7 hu hk hm hz is fun j p h' hj c sb=>?_
  simp only [Option.isNone_some,aX0,bb2]
  exact aU6 (wpAny_letGo (aV4 ⟨p.2,rfl,q j p h' hj c sb⟩))
end
end Raw
namespace L2
open PySem PySem.Spec PyProof.Rows
theorem Paired.erase {α β:Type}{F:α->β->Prop}:∀ (j:Nat) {l:List α}{m:List β},Paired F l m->Paired F (l.eraseIdx j) (m.eraseIdx j)
 | _,_,_,.nil=>.nil
 | 0,_,_,.cons _ t=>t
 | j+1,_,_,.cons r t=>.cons r (Paired.erase j t)
theorem L3 {α β:Type}{F:α->β->Prop}:∀ {l:List α}{m:List β}{i:Nat}{y:β},Paired F l m->m[i]? = some y->∃ x,l[i]? = some x/\F x y
 | _,_,_,_,.nil,e=>by simp at e
 | _,_,0,_,.cons r _,e=>by simp at e; subst e; exact⟨_,rfl,r⟩
 | _,_,i+1,y,.cons _ t,e=>by
  rw [aY2] at e
  obtain ⟨x,h1,h2⟩:=L3 t e
  exact⟨x,by rw [aY2]; exact h1,h2⟩
theorem L4 {α β:Type}{F:α->β->Prop}:∀ {l:List α}{m:List β}{i:Nat}{x:α},Paired F l m->l[i]? = some x->∃ y,m[i]? = some y/\F x y
 | _,_,_,_,.nil,e=>by simp at e
 | _,_,0,_,.cons r _,e=>by simp at e; subst e; exact⟨_,rfl,r⟩
 | _,_,i+1,x,.cons _ t,e=>by
  rw [aY2] at e
  obtain ⟨y,h1,h2⟩:=L4 t e
  exact⟨y,by rw [aY2]; exact h1,h2⟩
section
variable {X : Cx} {pins : List (Addr × Obj)} {σ : St} {H : Hp} {s : Shared} {a b : Addr} {kvs : List (List aB × V)} {k : List aB} {A : Around} {E : Value → Shared → Prop}
theorem ay9 {Q:Value->Shared->Prop} (hu:A.units+1 < cLine) (I:a7 X pins σ H s) (e:H a=some (.dT kvs)) (eb:H b=some (.tup (k.map kV))) (is:∃ j:Nat,(kvs.map (·.1))[j]? = some k)
  (h:∀ (j:Nat) v w' s',(kvs.map (·.1))[j]? = some k->a7 X pins σ (upd H a (.dT (kvs.eraseIdx j))) s'->aR v w'->Q w' s'):wpAny (model X.prog X.w) A (call (.builtin "dict.pop") [.ref a,.ref b]) Q E s:=by
 obtain ⟨z,hd,xs,rel,dd⟩:=zS I.hok e
 have hz:xs.length<=sizeLine:=by rw [<- Paired.length rel]; exact z
 refine call_meetsIn PySem.F.slot_dict_pop dd.typeIs PySem.F.entry_dict_pop (PySem.F.args_dict_pop_2 _ _) (Raw.ay8 (tupleKind (e9 X.prog X.w)) a b) ⟨tupleKind_room_in1 hu,k,xs,lE I.hok eb,dd,hz,?_,fun j p h' hj c sb=>?_⟩
 ·obtain ⟨j,hj⟩:=is
  rw [aV7] at hj
  cases ej:kvs[j]? with
  | none=>rw [ej] at hj; cases hj
  | some kv=>
   rw [ej] at hj
   cases hj
   obtain ⟨y,hy,r⟩:=L4 rel ej
   exact⟨j,y.2,by rw [hy]; exact congrArg some (Prod.ext r.1.symm rfl)⟩
 ·obtain ⟨kv,hkv,r⟩:=L3 rel hj
  obtain ⟨o,es,ep,h1,h2,h3,h4⟩:=c
  have nd:((xs.eraseIdx j).map (·.1)).Nodup:=by
   obtain ⟨_,_,_,_,_,_,_,_,nd⟩:=dd
   exact nd.sublist ((List.eraseIdx_sublist xs j).map _)
  refine h j kv.2 p.2 _ (by rw [aV7,hkv]; exact congrArg some r.1) ?_ r.2.2
  refine pC I (by rw [e]; exact bh4) sb ⟨o,h1⟩ ⟨aY8 (List.length_eraseIdx_le kvs j) z,hd,_,KT.keeps (Paired.erase j rel) fun c ys ec=>?_,o,es,ep,h1,h2,h3,h4,nd⟩
  rw [aH (xE ec e (fun z=>nomatch z))]
  exact ec
end
section
variable {X : Cx} {o e : Expr} {apos cpos : Pos} {td ty : TE}
def L5 (td ty:TE):TE:=fun σ H Q=>td σ H fun x H1=>∃ a,x = .ref a/\tT H1 a/\ty σ H1 fun y H2=>∃ kvs k b,H2 a=some (.dT kvs)/\y = .ref b/\H2 b=some (.tup (k.map kV))/\(∃ j:Nat,(kvs.map (·.1))[j]? = some k)/\∀ (j:Nat) v,(kvs.map (·.1))[j]? = some k->Q v (upd H2 a (.dT (kvs.eraseIdx j)))
theorem az0 (hu:X.A.units+1 < cLine) (ho:PE X o td) (he:PE X e ty) (m:M1 X o "pop" apos e cpos):PE X (.Call (.Attribute o "pop" apos) [e] [] cpos) (L5 td ty):=by
 intro pins s σ H Q I h
 refine wpAny_Call_method m.base m.few m.line PySem.F.plainAttrs_dict PySem.F.slot_dict_pop PySem.F.type_dict_pop (aM (ho pins s σ H _ I h) fun u s1 h1=>?_)
 obtain ⟨x,H1,I1,rx,a,ex,d,q1⟩:=h1
 subst ex
 obtain rfl:u=Value.ref a:=rx
 obtain ⟨t1,t2,_⟩:=A1 I1 d
 refine⟨t1,t2,?_⟩
 rw [m.trees]
 refine Calls.callWith_builtin rfl (Calls.evalArgs_plain (Calls.spliced_cons (aM (he pins s1 σ H1 _ I1 q1) fun iv s2 h2=>Calls.spliced_nil ?_)))
 obtain ⟨y,H2,I2,ry,kvs,k,b,ea,ey,eb,is,q2⟩:=h2
 subst ey
 obtain rfl:iv=Value.ref b:=ry
 exact ay9 hu I2 ea eb is fun j v w' s3 hj I3 rw'=>⟨v,_,I3,rw',q2 j v hj⟩
end
end L2
namespace Core
open PySem L2 PP
def hV (ns:List Int):Bool:=((ns.zip (ns.drop 1)).map fun p=>decide (p.1 < p.2)).all id
theorem qU {α β:Type}{l:List α}{f:α->β}{i:Nat}{x:α} (h:l[i]? = some x):(l.take (i+1)).map f=(l.take i).map f ++ [f x]:=by
 rw [aX7,h]; simp
theorem m8:∀ {ns:List Int},hV ns=true->ns.Pairwise (· < ·)
 | [],_=>.nil
 | [x],_=>aY1 _ _
 | x :: y :: r,h=>by
  have e:hV (x :: y :: r)=(decide (x < y) && hV (y :: r)):=rfl
  rw [e,aW7] at h
  have ih:=m8 h.2
  refine be9.mpr ⟨fun z hz=>?_,ih⟩
  rcases aV5.mp hz with rfl | hz
  ·exact bf8 h.1
  ·exact Int.lt_trans (bf8 h.1) (List.rel_of_pairwise_cons ih hz)
theorem L6:∀ {ns:List Int},ns.Pairwise (· < ·)->hV ns=true
 | [],_=>rfl
 | [x],_=>rfl
 | x :: y :: r,h=>by
  have e:hV (x :: y :: r)=(decide (x < y) && hV (y :: r)):=rfl
  have h':=be9.mp h
  rw [e,L6 h'.2,Bool.and_true]
  exact aW5 (h'.1 y aV9)
def kin (ws:List Int) (ls:List (Int × Int)) (S:List Int) (h:Int):Bool:=!decide (h ∈ S) && decide (ws.getD h.toNat 0<=(((cN ls h).filter fun x=>decide (x ∈ S)).length:Int))
def nextOf (ws:List Int) (ls:List (Int × Int)) (S:List Int):List Int:=((List.range ws.length).map fun (i:Nat)=>(i:Int)).filter (kin ws ls S)
def aZ (ws:List Int) (ls:List (Int × Int)) (S:List Int):Nat->List Int
 | 0=>S
 | k+1=>aZ ws ls S k ++ nextOf ws ls (aZ ws ls S k)
def eS (ws:List Int) (S:List Int):Nat:=(((List.range ws.length).map fun (i:Nat)=>(i:Int)).filter fun x=>!decide (x ∈ S)).length
theorem vV {α:Type} (p q:α->Bool) (h:∀ x,q x=true->p x=false):∀ L:List α,(L.filter fun x=>!p x && !q x).length+(L.filter q).length=(L.filter fun x=>!p x).length
 | []=>rfl
 | x :: r=>by
  have ih:=vV p q h r
  cases e1:p x with
  | true=>
   have e2:q x=false:=by
    cases e:q x with
    | false=>rfl
    | true=>have:=h x e; rw [e1] at this; cases this
   simp only [List.filter_cons,e1,e2,Bool.not_true,Bool.false_and,aX0,bb2]
   exact ih
  | false=>
   cases e2:q x with
   | true=>
    simp only [List.filter_cons,e1,e2,Bool.not_true,Bool.not_false,Bool.and_false,aX0,bb2,if_true,aY9]
    omega
   | false=>
    simp only [List.filter_cons,e1,e2,Bool.not_false,Bool.and_true,aX0,bb2,if_true,aY9]
    omega
theorem oD {ws:List Int}{ls:List (Int × Int)}{S:List Int}{x:Int} (h:kin ws ls S x=true):decide (x ∈ S)=false:=by
 unfold kin at h
 cases e:decide (x ∈ S) with
 | false=>rfl
 | true=>rw [e] at h; cases h
theorem vW (ws:List Int) (ls:List (Int × Int)) (S:List Int):eS ws (S ++ nextOf ws ls S)+(nextOf ws ls S).length=eS ws S:=by
 have e:=vV (fun x=>decide (x ∈ S)) (kin ws ls S) (fun x h=>oD h) ((List.range ws.length).map fun (i:Nat)=>(i:Int))
 unfold eS
 rw [<- e]
 congr 2
 refine List.filter_congr fun x hx=>?_
 have:decide (x ∈ S ++ nextOf ws ls S)=(decide (x ∈ S) || kin ws ls S x):=by
  rw [bd4]
  unfold nextOf
  simp only [bb3,aX3,aZ6,Bool.or_eq_true]
  exact⟨fun z=>z.elim .inl fun z=>.inr z.2,fun z=>z.elim .inl fun z=>.inr ⟨hx,z⟩⟩
 rw [this]
 cases decide (x ∈ S) <;> cases kin ws ls S x <;> rfl
theorem az1 (ws:List Int) (S:List Int):eS ws S<=ws.length:=by
 unfold eS
 refine aY8 (bd3 _ _) ?_
 rw [aV1,be3]; exact aV0 _
theorem az2 (ws:List Int) (ls:List (Int × Int)) (S:List Int):(nextOf ws ls S).length<=ws.length:=by
 unfold nextOf
 refine aY8 (bd3 _ _) ?_
 rw [aV1,be3]; exact aV0 _
def after (ws:List Int) (ls:List (Int × Int)) (S:List Int) (m:Nat):List (List Int):=(List.range m).map fun k=>nextOf ws ls (aZ ws ls S k)
theorem L7 (ws:List Int) (ls:List (Int × Int)) (S:List Int) (m:Nat):after ws ls S (m+1)=after ws ls S m ++ [nextOf ws ls (aZ ws ls S m)]:=by
 unfold after
 rw [List.range_succ,aX8]; rfl
theorem L8 (ws:List Int) (ls:List (Int × Int)) (ns:List Int):∀ k,(aZ ws ls ns k).length+eS ws (aZ ws ls ns k)=ns.length+eS ws ns
 | 0=>rfl
 | k+1=>by
  have ih:=L8 ws ls ns k
  have cs:=vW ws ls (aZ ws ls ns k)
  show (aZ ws ls ns k ++ nextOf ws ls (aZ ws ls ns k)).length+eS ws (aZ ws ls ns k ++ nextOf ws ls (aZ ws ls ns k))=_
  rw [aU9]; omega
theorem L9 {ws ns:List Int} (hu:ns.Pairwise (· < ·)) (hin:∀ x ∈ ns,0<=x/\x < (ws.length:Int)):ns.length+eS ws ns<=ws.length:=by
 have nd:ns.Nodup:=hu.imp fun h=>Int.ne_of_lt h
 have sub:ns ⊆ ((List.range ws.length).map fun (i:Nat)=>(i:Int)).filter fun x=>decide (x ∈ ns):=fun x hx=>by
  refine aZ6.mpr ⟨bb4.mpr ⟨x.toNat,bg2.mpr ?_,?_⟩,aW5 hx⟩
  ·have:=hin x hx; omega
  ·have:=hin x hx; omega
 have h1:=nd.length_le_of_subset sub
 have h2:=vV (fun _=>false) (fun x=>decide (x ∈ ns)) (fun _ _=>rfl) ((List.range ws.length).map fun (i:Nat)=>(i:Int))
 have h3:(((List.range ws.length).map fun (i:Nat)=>(i:Int)).filter fun x=>!false && !decide (x ∈ ns)).length=eS ws ns:=rfl
 have h4:(((List.range ws.length).map fun (i:Nat)=>(i:Int)).filter fun x=>!false).length<=ws.length:=by
  refine aY8 (bd3 _ _) ?_
  rw [aV1,be3]; exact aV0 _
 rw [h3] at h2
 omega
theorem vX (ws:List Int) (ls:List (Int × Int)) (ns:List Int):∀ m,(ns :: after ws ls ns m).flatten=aZ ws ls ns m
 | 0=>by simp [after,aZ]
 | m+1=>by
  rw [L7,<- List.cons_append,List.flatten_append,vX ws ls ns m]
  simp [aZ]
def cJ (ws:List Int) (ls:List (Int × Int)) (ns:List Int) (m:Nat):Prop:=(∀ k < m,nextOf ws ls (aZ ws ls ns k) ≠ [])/\nextOf ws ls (aZ ws ls ns m) = []
theorem M0 {ws:List Int}{ls:List (Int × Int)}{ns:List Int}:∀ (m:Nat),(∀ k < m,nextOf ws ls (aZ ws ls ns k) ≠ [])->m+eS ws (aZ ws ls ns m)<=ws.length
 | 0,_=>by have:=az1 ws ns; show 0+eS ws ns<=_; omega
 | m+1,h=>by
  have ih:=M0 m fun k hk=>h k (by omega)
  have cs:=vW ws ls (aZ ws ls ns m)
  have:1<=(nextOf ws ls (aZ ws ls ns m)).length:=by
   cases e:nextOf ws ls (aZ ws ls ns m) with
   | nil=>exact absurd e (h m (by omega))
   | cons _ _=>exact Nat.succ_le_succ (aZ2 _)
  show m+1+eS ws (aZ ws ls ns m ++ nextOf ws ls (aZ ws ls ns m))<=_
  omega
theorem eU {ns:List Int}{i:Nat}{x:PV} (h:(intz ns)[i]? = some x):∃ n,x = .int n/\ns[i]? = some n:=by
 rw [aV7] at h
 cases e:ns[i]? with
 | none=>rw [e] at h; cases h
 | some n=>rw [e] at h; exact⟨n,(aX6 h).symm,rfl⟩
theorem gO {lo:Int}{n i:Nat}{x:PV} (h:(fC lo n)[i]? = some x):x = .int (lo+i)/\i < n:=by
 have hi:i < n:=by
  have:=(aV3.mp h).1
  rwa [cO] at this
 rw [G1 hi] at h
 exact⟨(aX6 h).symm,hi⟩
def rng (n:Nat):List Int:=(List.range n).map fun (i:Nat)=>(i:Int)
theorem iI (n:Nat):(rng n).length=n:=by unfold rng; rw [aV1,be3]
theorem vY {n i:Nat} (h:i < n):(rng n)[i]? = some (i:Int):=by unfold rng; rw [aV7,List.getElem?_range h]; rfl
theorem iJ {n:Nat}{x:Int}:x ∈ rng n ↔ 0<=x/\x < (n:Int):=by
 unfold rng
 rw [bb4]
 constructor
 ·rintro ⟨i,hi,rfl⟩
  have:=bg2.mp hi
  omega
 ·intro h
  exact⟨x.toNat,bg2.mpr (by omega),by omega⟩
theorem kT {α:Type}{l:List α}{p:α->Bool}{i:Nat}{x:α} (h:l[i]? = some x):(l.take (i+1)).filter p=(l.take i).filter p ++ (if p x=true then [x] else []):=by
 rw [aX7,h,List.filter_append]
 congr 1
 cases e:p x <;> simp [e]
theorem cQ (a b:List Int):intz (a ++ b)=intz a ++ intz b:=aX8
theorem b4 (a:List Int):(intz a).length=a.length:=aV1 _
def bB (ws:List Int) (ls:List (Int × Int)):PV:=.tup [.tup (intz ws),.tup (ls.map fun l=>.tup [.int l.1,.int l.2])]
structure Wb (ws:List Int) (ls:List (Int × Int)):Prop where
 few:ws.length<=40
 most:ls.length<=1700
 links:∀ l ∈ ls,(0<=l.1/\l.1 < ws.length)/\0<=l.2/\l.2 < ws.length
def bW (x:PV) (ns:List Int):Prop:=x = .tup (intz ns) ∨ x = .lst (intz ns)
theorem bW.seq {x:PV}{ns:List Int} (h:bW x ns):iD x=some (intz ns):=by rcases h with rfl | rfl <;> rfl
theorem bW.seqT {x:PV}{ns:List Int} (h:bW x ns):seqT x=some (intz ns):=by rcases h with rfl | rfl <;> rfl
theorem m9:∀ (ls:List (Int × Int)),flats (ls.map fun l=>PV.tup [.int l.1,.int l.2])=true
 | []=>rfl
 | l :: r=>by
  show (flat (.tup [.int l.1,.int l.2]) && flats (r.map fun l=>PV.tup [.int l.1,.int l.2]))=true
  rw [m9 r]; rfl
theorem az3 (ws:List Int) (ls:List (Int × Int)):flat (bB ws ls)=true:=by
 show flats [.tup (intz ws),.tup (ls.map fun l=>PV.tup [.int l.1,.int l.2])]=true
 show (flat (.tup (intz ws)) && (flat (.tup (ls.map fun l=>PV.tup [.int l.1,.int l.2])) && true))=true
 show (flats (intz ws) && (flats (ls.map fun l=>PV.tup [.int l.1,.int l.2]) && true))=true
 rw [c8,m9]; rfl
theorem qV (ns:List Int):flat (.tup (intz ns))=true:=c8 ns
def iK:bF:=fun xs Q=>∃ ws ls,xs = [bB ws ls]/\Q (.int ws.length)
def M3:aK:=(bE (aC dU (a6 (fG (a5 0) (qC (.int 0))) a9)))
abbrev cU (t:aK) (N:List Str) (p:bF):Prop:=∀ xs Q,p xs Q->t { nx:=fun _=>Q .non,rt:=Q } (eJ N xs)
theorem az4:cU M3 ["web"] iK:=by
 rintro xs Q ⟨ws,ls,rfl,q⟩
 refine⟨_,rfl,_,_,_,rfl,rfl,rfl,_,_,rfl,rfl,trivial,?_⟩
 rw [b4]; exact q
def vZ:bF:=fun xs Q=>∃ x ns,xs = [x]/\bW x ns/\ns.length<=1000/\Q (.bl (hV ns))
def inB (n:Nat) (x:Int):Bool:=decide (0<=x) && decide (x < (n:Int))
def mB:bF:=fun xs Q=>∃ ws ls n,xs = [bB ws ls,.int n]/\Q (.bl (inB ws.length n))
def M4:aK:=(bE (jL (o4 (a5 1) (qC (.int 0))) (j5 (a5 1) (aC iK (a6 (a5 0) a9)))))
theorem az5:cU M4 ["web","number"] mB:=by
 rintro xs Q ⟨ws,ls,n,rfl,q⟩
 refine⟨_,rfl,_,_,rfl,rfl,_,rfl,?_⟩
 unfold inB at q
 by_cases h:(0:Int)<=n
 ·rw [aW5 h] at q ⊢
  refine aY ⟨_,rfl,_,rfl,ws,ls,rfl,_,_,rfl,rfl,trivial,?_⟩
  simpa using q
 ·rw [aW4 h] at q ⊢
  exact aU ⟨trivial,by simpa using q⟩
def aW (n:Nat) (ns:List Int):Bool:=hV ns && (ns.map (inB n)).all id
def qW:bF:=fun xs Q=>∃ ws ls x ns,xs = [bB ws ls,x]/\bW x ns/\ns.length<=1000/\Q (.bl (aW ws.length ns))
def M5:aK:=(bE (jL (aC vZ (a6 (a5 1) a9)) (aC uU (a6 (bU (dG (a5 1)) [none,some 0] (bG 0) cT (aC mB (a6 (a5 1) (a6 (a5 0) a9)))) a9))))
theorem kU {x:PV}{ns:List Int} (h:bW x ns):(Slot.sh (flat x) x).tag = .rd->flat x=true:=by
 cases flat x <;> intro z <;> cases z
theorem az6:cU M5 ["web","numbers"] qW:=by
 rintro xs Q ⟨ws,ls,x,ns,rfl,hx,hl,q⟩
 refine⟨_,rfl,x,ns,rfl,hx,hl,_,rfl,?_⟩
 unfold aW at q
 cases h:hV ns with
 | false=>rw [h] at q; exact aU ⟨trivial,q⟩
 | true=>
  rw [h] at q
  refine aY ⟨_,rfl,_,hx.seq,kU hx,by rw [b4]; omega,fun i acc=>acc=(((ns.take i).map (inB ws.length)).map PV.bl),rfl,?_,?_⟩
  ·rintro i y acc hy rfl
   obtain ⟨n,rfl,hn⟩:=eU hy
   have tk:((ns.take (i+1)).map (inB ws.length)).map PV.bl=((ns.take i).map (inB ws.length)).map PV.bl ++ [PV.bl (inB ws.length n)]:=by rw [qU hn,aX8]; rfl
   exact⟨_,rfl,_,rfl,ws,ls,n,rfl,trivial,tk.symm⟩
  ·rintro acc rfl
   rw [b4,aX9]
   exact⟨_,rfl,trivial,by simpa using q⟩
theorem bW.noscr {x:PV}{ns:List Int} (h:bW x ns):∀ ms,([x]:List PV) ≠ [.scr ms]:=by
 rcases h with rfl | rfl <;> intro ms z <;> cases z
structure DS (ps:List (aB × PV)) (S:List Int):Prop where
 has:∀ i:Int,(bQ ps (Sum.inl i:aB)).isSome=decide (i ∈ S)
 len:ps.length<=S.length
 fl:flats (ps.map (·.2))=true
theorem DS.nil:DS [] []:=⟨fun i=>rfl,aV0 _,rfl⟩
section
variable {κ : Type} [DecidableEq κ]
theorem az7 {k:κ}:bQ ([]:List (κ × PV)) k=none:=rfl
theorem iL {p:κ × PV}{r:List (κ × PV)}{k:κ} (e:p.1=k):bQ (p :: r) k=some p.2:=by simp [bQ,bd5,e]
theorem iM {p:κ × PV}{r:List (κ × PV)}{k:κ} (e : ¬ p.1=k):bQ (p :: r) k=bQ r k:=by simp [bQ,bd5,e]
theorem qX (k:κ):∀ kvs:List (κ × PV),(kvs.any fun kv=>decide (kv.1=k))=(bQ kvs k).isSome
 | []=>rfl
 | p :: r=>by
  rw [List.any_cons]
  by_cases e:p.1=k
  ·simp only [iL e,aW5 e,Bool.true_or,Option.isSome_some]
  ·rw [iM e,aW4 e,Bool.false_or]; exact qX k r
theorem M6 (k j:κ) (y:PV):∀ kvs:List (κ × PV),bQ (kvs.map fun kv=>if kv.1=k then (kv.1,y) else kv) j=(bQ kvs j).map fun x=>if j=k then y else x
 | []=>rfl
 | p :: r=>by
  have ih:=M6 k j y r
  rw [aY6]
  by_cases h:p.1=k
  ·rw [if_pos h]
   by_cases e:p.1=j
   ·rw [iL (p:=(p.1,y)) e,iL e,Option.map_some,if_pos (e.symm.trans h)]
   ·rw [iM (p:=(p.1,y)) e,iM e,ih]
  ·rw [if_neg h]
   by_cases e:p.1=j
   ·rw [iL (p:=p) e,iL e,Option.map_some,if_neg (fun z=>h (e.trans z))]
   ·rw [iM (p:=p) e,iM e,ih]
theorem M7 (k j:κ) (y:PV):∀ kvs:List (κ × PV),bQ kvs k=none->bQ (kvs ++ [(k,y)]) j=if j=k then some y else bQ kvs j
 | [],_=>by
  by_cases e:k=j
  ·rw [if_pos e.symm]; exact iL (p:=(k,y)) e
  ·rw [if_neg (fun z=>e z.symm)]; exact iM (p:=(k,y)) e
 | p :: r,hn=>by
  rw [List.cons_append]
  have hk : ¬ p.1=k:=fun z=>by rw [iL z] at hn; cases hn
  rw [iM hk] at hn
  have ih:=M7 k j y r hn
  by_cases e:p.1=j
  ·rw [iL e,iL e,if_neg (fun z=>hk (e.trans z))]
  ·rw [iM e,iM e,ih]
theorem w4 (kvs:List (κ × PV)) (k j:κ) (y:PV):bQ (cE kvs k y) j=if j=k then some y else bQ kvs j:=by
 unfold cE
 by_cases a:(kvs.any fun kv=>decide (kv.1=k))=true
 ·rw [if_pos a,M6]
  rw [qX] at a
  by_cases e:j=k
  ·obtain ⟨x,hx⟩:=Option.isSome_iff_exists.mp a
   rw [if_pos e,e,hx,Option.map_some,if_pos rfl]
  ·rw [if_neg e]
   cases bQ kvs j with
   | none=>rfl
   | some x=>rw [Option.map_some,if_neg e]
 ·rw [if_neg a]
  refine M7 k j y kvs ?_
  rw [qX] at a
  cases q:bQ kvs k with
  | none=>rfl
  | some x=>rw [q] at a; exact (a rfl).elim
theorem qY (kvs:List (κ × PV)) (k:κ) (v:PV):(cE kvs k v).length<=kvs.length+1:=by
 unfold cE
 split
 ·rw [aV1]; omega
 ·rw [aU9,aY9,List.length_nil]; omega
end
theorem M8:∀ (xs:List PV),flats xs=true ↔ ∀ x ∈ xs,flat x=true
 | []=>by simp [flats]
 | x :: r=>by
  unfold flats
  rw [aW7,M8 r]; simp
theorem az8 {κ:Type} [DecidableEq κ] {ps:List (κ × PV)}{k:κ}{v:PV}{p:κ × PV} (h:p ∈ cE ps k v):p.2=v ∨ p ∈ ps:=by
 unfold cE at h
 split at h
 ·obtain ⟨q,hq,e⟩:=bb4.mp h
  split at e
  ·subst e; exact .inl rfl
  ·subst e; exact .inr hq
 ·rcases aX3.mp h with h | h
  ·exact .inr h
  ·rw [aV6.mp h]; exact .inl rfl
theorem w5 {κ:Type} [DecidableEq κ] {ps:List (κ × PV)}{k:κ}{v:PV} (h:flats (ps.map (·.2))=true) (hv:flat v=true):flats ((cE ps k v).map (·.2))=true:=by
 rw [M8] at h ⊢
 intro x hx
 obtain ⟨p,hp,rfl⟩:=bb4.mp hx
 rcases az8 hp with e | e
 ·rw [e]; exact hv
 ·exact h _ (bb4.mpr ⟨p,e,rfl⟩)
theorem DS.put {ps:List (aB × PV)}{S:List Int} (h:DS ps S) (x:Int) (v:PV) (hv:flat v=true):DS (cE ps (Sum.inl x:aB) v) (S ++ [x]):=by
 refine⟨fun i=>?_,?_,w5 h.fl hv⟩
 ·rw [w4]
  by_cases e:i=x
  ·subst e; rw [if_pos rfl]; simp
  ·rw [if_neg (fun z=>e (Sum.inl.inj z)),h.has]
   simp [e]
 ·have:=qY ps (Sum.inl x:aB) v
  have:=h.len
  rw [aU9,aZ1]; omega
theorem DS.merge {S:List Int}:∀ {mp ps:List (aB × PV)}{T:List Int},DS ps S->DS mp T->DS (gZ ps mp) (S ++ T):=by
 have key:∀ (mp:List (aB × PV)) {ps:List (aB × PV)} (i:Int),(bQ (gZ ps mp) (Sum.inl i:aB)).isSome=((bQ ps (Sum.inl i:aB)).isSome || (bQ mp (Sum.inl i:aB)).isSome):=fun mp=>by
  induction mp with
  | nil=>intro ps i; show (bQ ps (Sum.inl i:aB)).isSome=_; rw [az7]; simp
  | cons p r ih=>
   intro ps i
   show (bQ (gZ (cE ps p.1 p.2) r) (Sum.inl i:aB)).isSome=_
   rw [ih,w4]
   by_cases e:(Sum.inl i:aB)=p.1
   ·rw [if_pos e,iL e.symm]; simp
   ·rw [if_neg e,iM (Ne.symm e)]
 have keyl:∀ (mp:List (aB × PV)) {ps:List (aB × PV)},(gZ ps mp).length<=ps.length+mp.length:=fun mp=>by
  induction mp with
  | nil=>intro ps; exact aV0 _
  | cons p r ih=>
   intro ps
   have h1:=ih (ps:=cE ps p.1 p.2)
   have h2:=qY ps p.1 p.2
   show (gZ (cE ps p.1 p.2) r).length<=_
   rw [aY9]; omega
 have keyf:∀ (mp:List (aB × PV)) {ps:List (aB × PV)},flats (ps.map (·.2))=true->flats (mp.map (·.2))=true->flats ((gZ ps mp).map (·.2))=true:=fun mp=>by
  induction mp with
  | nil=>intro ps h _; exact h
  | cons p r ih=>
   intro ps h g
   have g:(flat p.2 && flats (r.map (·.2)))=true:=g
   rw [aW7] at g
   exact ih (ps:=cE ps p.1 p.2) (w5 h g.1) g.2
 intro mp ps T h g
 refine⟨fun i=>?_,?_,keyf mp h.fl g.fl⟩
 ·rw [key,h.has,g.has,bd4]; simp
 ·have:=keyl mp (ps:=ps)
  have:=h.len
  have:=g.len
  rw [aU9]; omega
def hZ:bF:=fun xs Q=>∃ x ns,xs = [x]/\bW x ns/\ns.length<=1000/\∀ ps,DS ps ns->Q (.dK ps)
def M9:aK:=(aI (eI 1 (qC (.dK [])))
 (aI (dX (dG (a5 0)) (bG 2)
  (lR 1 (a5 2) (qC (.bl true))))
 (gK 1)))
theorem az9:cU M9 ["hearths","inside","hearth"] hZ:=by
 rintro xs Q ⟨x,ns,rfl,hx,hl,q⟩
 refine⟨rfl,rfl,_,rfl,_,hx.seq,kU hx,fun i ρ=>∃ y ps,ρ = [some (.sh (flat x) x),some (.own (.dK ps)),y]/\DS ps (ns.take i),⟨none,[],rfl,DS.nil⟩,?_,?_⟩
 ·rintro i y ρ hy ⟨y0,ps,rfl,d⟩
  obtain ⟨n,rfl,hn⟩:=eU hy
  have hlen:=d.len
  rw [ba8] at hlen
  refine⟨_,rfl,_,rfl,Sum.inl n,rfl,trivial,by omega,_,_,rfl,?_⟩
  rw [aX7,hn]
  exact d.put n _ rfl
 ·rintro ρ ⟨y,ps,rfl,d⟩
  rw [b4,aX9] at d
  exact⟨_,rfl,trivial,q ps d⟩
def qZ:bF:=fun xs Q=>∃ x ns ps S,xs = [x,.dK ps]/\bW x ns/\DS ps S/\ns.length<=10000/\Q (.int ((ns.filter fun x=>decide (x ∈ S)).length:Nat))
def N0:aK:=(bE (aC dU (a6 (bU (dG (a5 0)) [none,some 1] (bG 0) (aV (kN false (a5 0) (a5 1))) (a5 0)) a9)))
theorem aA0:cU N0 ["hearths","inside"] qZ:=by
 rintro xs Q ⟨x,ns,ps,S,rfl,hx,d,hl,q⟩
 refine⟨_,rfl,_,hx.seq,kU hx,by rw [b4]; omega,fun i acc=>acc=intz ((ns.take i).filter fun x=>decide (x ∈ S)),rfl,?_,?_⟩
 ·rintro i y acc hy rfl
  obtain ⟨n,rfl,hn⟩:=eU hy
  have tk:=kT (p:=fun x=>decide (x ∈ S)) hn
  refine⟨_,rfl,_,rfl,_,.inl ⟨ps,Sum.inl n,rfl,rfl,rfl⟩,_,rfl,?_⟩
  show if (bQ ps (Sum.inl n:aB)).isSome=true then _ else _
  rw [d.has n]
  by_cases h:n ∈ S
  ·rw [aW5 h] at tk ⊢
   refine aY ⟨_,rfl,trivial,?_⟩
   rw [if_pos rfl] at tk
   show _=intz (List.filter _ (List.take (i+1) ns))
   rw [tk,cQ]; rfl
  ·rw [aW4 h] at tk ⊢
   refine aU ?_
   rw [if_neg (by decide),aY4] at tk
   show _=intz (List.filter _ (List.take (i+1) ns))
   rw [tk]
 ·rintro acc rfl
  rw [b4,aX9]
  refine⟨_,_,rfl,rfl,trivial,?_⟩
  rw [b4]; exact q
def fW (n:Nat) (ls:List (Int × Int)):List PV:=(List.range n).map fun (k:Nat)=>PV.lst (intz (cN ls k))
def j8:bF:=fun xs Q=>∃ ws ls,xs = [bB ws ls]/\Wb ws ls/\Q (.lst (fW ws.length ls))
theorem aA1 {n:Nat}{ls:List (Int × Int)}{h:Int} (h0:0<=h) (h1:h < (n:Int)):atI (fW n ls) h=some (.lst (intz (cN ls h))):=by
 refine pT h0 ?_
 unfold fW
 rw [aV7,List.getElem?_range (by omega)]
 show some (PV.lst (intz (cN ls ((h.toNat:Nat):Int))))=_
 rw [show ((h.toNat:Nat):Int)=h by omega]
def iN:bF:=fun xs Q=>∃ ws ls ps S h,xs = [bB ws ls,.lst (fW ws.length ls),.dK ps,.int h]/\Wb ws ls/\DS ps S/\0<=h/\h < (ws.length:Int)/\Q (.bl (kin ws ls S h))
def N1:aK:=(bE (jL (kN true (a5 3) (a5 2)) (o4 (aC qZ (a6 (fG (a5 1) (a5 3)) (a6 (a5 2) a9))) (fG (fG (a5 0) (qC (.int 0))) (a5 3)))))
theorem w6 {ws:List Int}{h:Int} (h0:0<=h) (h1:h < (ws.length:Int)):atI (intz ws) h=some (.int (ws.getD h.toNat 0)):=by
 refine pT h0 ?_
 have:h.toNat < ws.length:=by omega
 rw [aV7,aW1,aV2 this]; rfl
theorem aA2:cU N1 ["web","around","burning","hearth"] iN:=by
 rintro xs Q ⟨ws,ls,ps,S,h,rfl,wb,d,h0,h1,q⟩
 refine⟨_,rfl,_,rfl,_,.inl ⟨ps,Sum.inl h,rfl,rfl,rfl⟩,_,rfl,?_⟩
 show if (!(bQ ps (Sum.inl h:aB)).isSome)=true then _ else _
 rw [d.has h]
 unfold kin at q
 by_cases hm:h ∈ S
 ·rw [aW5 hm] at q ⊢
  exact aU ⟨trivial,by simpa using q⟩
 ·rw [aW4 hm] at q ⊢
  have nl:=pS ls h
  have:=wb.most
  refine aY ⟨_,rfl,_,rfl,_,_,_,rfl,rfl,aA1 h0 h1,_,rfl,_,cN ls h,ps,S,rfl,.inr rfl,d,by omega,_,rfl,_,_,_,rfl,rfl,rfl,_,rfl,_,_,_,rfl,rfl,w6 h0 h1,_,_,rfl,rfl,trivial,?_⟩
  simpa using q
def oE:bF:=fun xs Q=>∃ ws ls ps S,xs = [bB ws ls,.lst (fW ws.length ls),.dK ps]/\Wb ws ls/\DS ps S/\Q (.tup (intz (nextOf ws ls S)))
def N3:aK:=(bE (aC eL (a6 (bU (fD (aC iK (a6 (a5 0) a9))) [none,some 0,some 1,some 2] (bG 0) (aV (aC iN (a6 (a5 1) (a6 (a5 2) (a6 (a5 3) (a6 (a5 0) a9)))))) (a5 0)) a9)))
theorem aA3:cU N3 ["web","around","burning"] oE:=by
 rintro xs Q ⟨ws,ls,ps,S,rfl,wb,d,q⟩
 have few:=wb.few
 refine⟨_,rfl,ws,ls,rfl,_,rfl,by omega,by omega,by rw [cO]; omega,fun i acc=>acc=intz (((rng ws.length).take i).filter (kin ws ls S)),rfl,?_,?_⟩
 ·rintro i y acc hy rfl
  obtain ⟨rfl,hi⟩:=gO hy
  have hi':i < ws.length:=by omega
  have tk:=kT (p:=kin ws ls S) (vY hi')
  have e0:(0:Int)+(i:Int)=(i:Int):=by omega
  refine⟨_,rfl,_,rfl,_,rfl,_,rfl,ws,ls,ps,S,_,rfl,wb,d,by omega,by omega,_,rfl,?_⟩
  show if kin ws ls S ((0:Int)+(i:Int))=true then _ else _
  rw [e0]
  cases h:kin ws ls S (i:Int) with
  | true=>
   refine aY ⟨_,rfl,trivial,?_⟩
   rw [h,if_pos rfl] at tk
   show _=intz (List.filter _ (List.take (i+1) _))
   rw [tk,cQ]
   show _ ++ [PV.int _]=_
   rfl
  | false=>
   refine aU ?_
   rw [h,if_neg (by decide),aY4] at tk
   show _=intz (List.filter _ (List.take (i+1) _))
   rw [tk]
 ·rintro acc rfl
  rw [cO,bc3 (by rw [iI]; omega)]
  exact⟨⟨_,_,rfl,rfl,c8 _,trivial,q⟩,fun ns z=>by cases z⟩
def tups (rs:List (List Int)):List PV:=rs.map fun r=>PV.tup (intz r)
theorem w9 {rs:List (List Int)}{i:Nat}{x:PV} (h:(tups rs)[i]? = some x):∃ r,x = .tup (intz r)/\rs[i]? = some r:=by
 unfold tups at h
 rw [aV7] at h
 cases e:rs[i]? with
 | none=>rw [e] at h; cases h
 | some n=>rw [e] at h; exact⟨n,(aX6 h).symm,rfl⟩
theorem jU (rs:List (List Int)):(tups rs).length=rs.length:=aV1 _
theorem wA:∀ (rs:List (List Int)),flats (tups rs)=true
 | []=>rfl
 | r :: t=>by
  show (flat (.tup (intz r)) && flats (tups t))=true
  rw [qV,wA t]; rfl
theorem jV {n:Nat}{ns:List Int} (h:aW n ns=true):hV ns=true/\∀ x ∈ ns,0<=x/\x < (n:Int):=by
 unfold aW at h
 rw [aW7,bd8] at h
 refine⟨h.1,fun x hx=>?_⟩
 have:=h.2 _ (bb4.mpr ⟨x,hx,rfl⟩)
 unfold inB at this
 simpa using this
theorem mC {n:Nat}{ns:List Int} (h:aW n ns=true):ns.length<=n:=by
 obtain ⟨h1,h2⟩:=jV h
 have:=L9 (ws:=List.replicate n (0:Int)) (m8 h1) (by rw [List.length_replicate]; exact h2)
 rw [List.length_replicate] at this
 omega
theorem wB {ws:List Int}{ls:List (Int × Int)}{ns:List Int} (h:aW ws.length ns=true) (k:Nat):(aZ ws ls ns k).length<=ws.length:=by
 have h1:=L8 ws ls ns k
 have h2:=L9 (m8 (jV h).1) (jV h).2
 omega
end Core
namespace PP
open PySem L2
def wC (te:aE):aE:=fun ρ Q=>te ρ fun x _=>∃ n:Int,x = .int n/\0<=n/\n<=1000000/\Q (.lst (fC 0 n.toNat)) .fr
def r6:List PV->(PV->Prop)->Prop:=fun xs Q=>∃ ys:List (List Int),xs = [.lst (ys.map fun r=>PV.tup (intz r))]/\ys.length < 64/\(∀ y ∈ ys,y ≠ [])/\∀ zs:List (List Int),zs.Perm ys->zs.Pairwise (fun u v=>HT.cB v u=false)->Q (.lst (zs.map fun r=>PV.tup (intz r)))
def r9:List PV->(PV->Prop)->Prop:=fun xs Q=>∃ ps:List (List aB × PV),xs = [.dT ps]/\Q (.lst (ps.map fun p=>PV.tup (p.1.map kP)))
end PP
namespace Core
open PySem L2 PP
theorem aA4 (g:Tg) (n:Int):Nw g (.int n):=by cases g <;> first | exact trivial | rfl
def gP (x:PV) (ns:List Int):Prop:=x = .scr ns ∨ x = .lst (intz ns)
theorem gP.seq {x:PV}{ns:List Int} (h:gP x ns):iD x=some (intz ns):=by rcases h with rfl | rfl <;> rfl
theorem gP.len {x:PV}{ns:List Int} (h:gP x ns):uT x=some ns.length:=by
 rcases h with rfl | rfl
 ·rfl
 ·show some (intz ns).length=_
  rw [b4]
def j9:bF:=fun xs Q=>∃ x ns k,xs = [x,.int k]/\gP x ns/\0<=k/\Q (.int (ns.getD k.toNat 0))
def N4:aK:=(aI (cC (aV (j5 (a5 1) (aC dU (a6 (a5 0) a9)))) (bE (fG (a5 0) (a5 1))) cF)
 (bE (qC (.int 0))))
theorem aA5:cU N4 ["script","k"] j9:=by
 rintro xs Q ⟨x,ns,k,rfl,hx,h0,q⟩
 refine⟨_,rfl,_,rfl,_,_,rfl,hx.len,_,_,rfl,rfl,_,rfl,?_⟩
 by_cases h:k < (ns.length:Int)
 ·rw [aW5 h]
  exact aY ⟨_,rfl,_,rfl,_,_,_,hx.seq,rfl,w6 h0 h,aA4 _ _,q⟩
 ·rw [aW4 h]
  rw [aW1,List.getElem?_eq_none (by omega)] at q
  exact aU ⟨trivial,q⟩
def cM (ls:List (Int × Int)):List PV:=ls.map fun l=>PV.tup [.int l.1,.int l.2]
theorem N5 (ls:List (Int × Int)):(cM ls).length=ls.length:=aV1 _
def wD (l m:Int × Int):Prop:=l.1 < m.1 ∨ (l.1=m.1/\l.2 < m.2)
structure kW (n:Int) (ws:List Int) (ls:List (Int × Int)):Prop where
 many:(ws.length:Int)=n
 inn:∀ l ∈ ls,0<=l.1/\l.1 < l.2/\l.2 < n
 most:ls.length<=63
 ord:ls.Pairwise wD
 pos:∀ w ∈ ws,0<=w
abbrev si (n:Int):Option Slot:=some (.sh true (.int n))
def rA:bF:=fun xs Q=>∃ i,xs = [.int i]/\Q (.bl true)
def N6 (K:PySem.W.Frag):aK:=(bE (jL (o0 K "int" (a5 0)) (uM (o0 K "bool" (a5 0)))))
theorem bW.len {x:PV}{ns:List Int} (h:bW x ns):uT x=some ns.length:=by
 rcases h with rfl | rfl <;> (show some (intz ns).length=_; rw [b4])
theorem aA6 {K:PySem.W.Frag} (k1:PySem.W.kitOne K (.type "int") (.type "int")=some true) (k2:PySem.W.kitOne K (.type "int") (.type "bool")=some false):cU (N6 K) ["found"] rA:=by
 rintro xs Q ⟨i,rfl,q⟩
 exact⟨_,rfl,_,_,rfl,k1,_,rfl,aY ⟨_,rfl,_,_,rfl,k2,_,rfl,trivial,q⟩⟩
theorem aA7 {ls:List (Int × Int)}{i:Nat}{x:PV} (h:(cM ls)[i]? = some x):∃ l,x = .tup [.int l.1,.int l.2]/\ls[i]? = some l:=by
 unfold cM at h
 rw [aV7] at h
 cases e:ls[i]? with
 | none=>rw [e] at h; cases h
 | some n=>rw [e] at h; exact⟨n,(aX6 h).symm,rfl⟩
end Core
namespace PP
open PySem L2 PyProof.Rows
section
variable {X : Cx} {a b e : Expr} {ta tb te : aE} {tr : cL} {pos p2 p3 pos2 : Pos}
theorem aA8 {tA:TA} (hg:Gl X "range") (hm:X.mg "range" = none) (ha:PA X [a] tA) (hs:starEach [a] X.env = [(false,eval a X.env)]:=by rfl) :
  PE X (.Call (.Name "range" p2) [a] [] pos) (fun σ H Q=>tA σ H fun vs H1=>∃ j:Int,vs = [.int j]/\∀ r,H1 r=none->Q (.ref r) (upd H1 r (.rng 0 j))):=by
 intro pins s σ H Q I h
 refine Call_ (i5 I hg hm boot_range (aZ8 (aM (ha pos pins s σ H _ I h) fun us s1 ⟨vs,H1,I1,r1,q1⟩=>?_) hs rfl))
 obtain ⟨j,e,q⟩:=q1
 subst e
 cases r1 with
 | cons r rr=>
  cases rr
  obtain ⟨t,rfl⟩:=r
  refine call_range_1 ?_
  exact⟨.ref s1.heap.objs.size,_,I1.laid (o:=.rng 0 j) (fun b ob q=>aU7 _ q) (aV0 _) ⟨_,_,_,aV8 _ rfl⟩,rfl,q _ (I1.hok.fresh (aV0 _))⟩
theorem N7:∀ {xs:List V}{us:List Value},xs.length=us.length->(∀ (i:Nat) x u,xs[i]? = some x->us[i]? = some u->aR x u)->aN xs us
 | [],[],_,_=>.nil
 | x :: xs,u :: us,hl,h=>.cons (h 0 x u rfl rfl) (N7 (by simpa using hl) fun i y w h1 h2=>h (i+1) y w (by rw [aY2]; exact h1) (by rw [aY2]; exact h2))
theorem aA9 {n:Nat}{acc:Array Value} (h:ItemsOf (fun i v=>∃ t,v = .int (0+(i:Int) * 1) t) acc n):aN (iX 0 n) acc.toList:=by
 obtain ⟨h1,h2⟩:=h
 refine N7 (by rw [u4]; simp [h1]) fun i x u hx hu=>?_
 have hi:i < n:=by
  have:=(aV3.mp hx).1
  rwa [u4] at this
 unfold iX at hx
 rw [aV7,List.getElem?_range hi] at hx
 cases hx
 obtain ⟨t,rfl⟩:=h2 i u (by rw [<- Array.getElem?_toList]; exact hu)
 exact⟨t,by congr 1; omega⟩
theorem aB0 (hc:X.calm=true):cK X (.type "list") (fun xs H Q=>∃ r j,xs = [.ref r]/\H r=some (.rng 0 j)/\0<=j/\j<=1000000/\∀ l,H l=none->Q (.ref l) (upd H l (.lst (iX 0 j.toNat)))):=by
 intro pins s σ H xs us Q I r h
 obtain ⟨p,j,rfl,hq,h0,h1,q⟩:=h
 obtain ⟨u,rfl,rx⟩:=eW r
 cases rx
 obtain ⟨t,u,v,ho⟩:=(show bK X.prog X.w H s.heap p (.rng 0 j) from I.hok p _ hq)
 refine PySem.call_list_range (a:=0) (b:=j) (c:=1) (n:=j.toNat) (I.ok.hd hc) ho (small_one (by decide) (by decide) (by omega) (by omega)) (by rw [rangeSize_one]; split <;> omega) (by omega) fun h' tk acc' c' kp e it=>?_
 have vv:=aA9 it
 have eq:acc'.toList.toArray=acc':=by simp
 exact⟨.ref s.heap.objs.size,_,I.laid (t':=tk) (o:=.lst (iX 0 j.toNat)) kp (aV0 _) ⟨by rw [u4]; exact lim (by omega),acc'.toList,c',vv,by rw [eq]; exact e⟩,rfl,q _ (I.hok.fresh (aV0 _))⟩
theorem aB1 {K:PySem.W.Frag}{M:Addr->Prop}{H:Hp} (lo:Int) (n:Nat):Reps K M H (iX lo n) (fC lo n):=by
 unfold iX fC
 generalize List.range n=l
 induction l with
 | nil=>exact .nil
 | cons a r ih=>exact .cons (.int _) ih
theorem N8 (B:Bt X.mg) (ha:QE X a ta) (hc:X.calm=true:=by rfl) (hg:Gl X "list":=by rfl) (hgr:Gl X "range":=by rfl) (hs:starEach [a] X.env = [(false,eval a X.env)]:=by rfl)
  (he:starEach [.Call (.Name "range" p3) [a] [] pos2] X.env=(false,eval (.Call (.Name "range" p3) [a] [] pos2) X.env) :: starEach [] X.env:=by rfl) (hpl:(backTo pos (starEach [] X.env)).any (·.1)=false:=by rfl) :
  QE X (.Call (.Name "list" p2) [.Call (.Name "range" p3) [a] [] pos2] [] pos) (wC ta):=
 bV (yV (aB0 hc) hg B.list PyProof.Rows.boot_list (dJ (aA8 hgr B.range (dJ ha eD hs) hs) eD he) (he:=he) (hpl:=hpl)) fun σ H Q' h=>by
  obtain ⟨W,ρ,Q,px,q,k⟩:=h
  refine⟨W,ρ,_,px,q,?_⟩
  rintro v H1 x g s r ⟨n,rfl,h0,h1,q⟩
  cases r
  refine⟨n,rfl,fun r hr=>⟨r,n,rfl,b8,h0,h1,fun l hl=>?_⟩⟩
  have S:aD H (upd (upd H1 r (.rng 0 n)) l (.lst (iX 0 n.toNat))):=(s.trans (bD hr _)).trans (bD hl _)
  exact k _ _ _ .fr S (.lst (((s.trans (bD hr _))).free hl) b8 (aB1 0 n.toNat)) q
theorem aB2:eQ X r9 (fun xs H Q=>∃ a kvs,xs = [.ref a]/\H a=some (.dT kvs)/\∀ l ys,H l=none->Paired (nL H) ys (kvs.map (·.1))->Q (.ref l) (upd H l (.lst ys))):=by
 rintro H vs xs Q Q' r ⟨ps,rfl,q⟩ k
 obtain ⟨v,rfl,r1⟩:=r.one
 cases r1 with
 | @dT a kvs _ m h e r2=>
  refine⟨a,kvs,rfl,h,fun l ys hl pr=>k _ _ _ (bD hl _) (.lst hl b8 ?_) q⟩
  have kv:∀ (k:List aB),Reps X.K (fun a=>H a=none) H (k.map kV) (k.map kP):=fun k=>by
   induction k with
   | nil=>exact .nil
   | cons a r ih=>exact .cons (by cases a <;> constructor) ih
  have go:∀ {ys:List V}{ks:List (List aB)},Paired (nL H) ys ks->Reps X.K (fun a=>H a=none) H ys (ks.map fun k=>PV.tup (k.map kP)):=fun {ys ks} pr=>by
   induction pr with
   | nil=>exact .nil
   | cons h t ih=>
    obtain ⟨q,rfl,hq⟩:=h
    exact .cons (.tup hq (kv _)) ih
  have e2:(ps.map fun p=>PV.tup (p.1.map kP))=(kvs.map (·.1)).map fun k=>PV.tup (k.map kP):=by rw [e,bc5]; rfl
  rw [e2]
  exact (go pr).same (bD hl _) fun _ z=>z
theorem aB3 (B:Bt X.mg) (hc:X.calm=true) (ha:QA X [e] tr) (hg:Gl X "list":=by rfl) (he:starEach [e] X.env=(false,eval e X.env) :: starEach [] X.env:=by rfl) (hpl:(backTo pos (starEach [] X.env)).any (·.1)=false:=by rfl):QE X (.Call (.Name "list" p2) [e] [] pos) (aC r9 tr):=
 qL (ao5 hc) aB2 hg B.list PyProof.Rows.boot_list ha (he:=he) (hpl:=hpl)
def wE:V->Int
 | .int i=>i
 | _=>0
def kX (H:Hp):V->List Int
 | .ref a=>match H a with
  | some (.tup us)=>us.map wE
  | _=>[]
 | _=>[]
theorem aB4 {H:Hp}{a:Addr}{ns:List Int} (h:H a=some (.tup (ns.map V.int))):kX H (.ref a)=ns:=by
 show (match H a with | some (.tup us)=>us.map wE | _=>[])=ns
 rw [h]
 show (ns.map V.int).map wE=ns
 rw [bc5]
 exact List.map_id _
theorem N9 {K:PySem.W.Frag}{M:Addr->Prop}{H:Hp}:∀ {us:List V}{ys:List (List Int)},Reps K M H us (ys.map fun r=>PV.tup (intz r))->us.map (kX H)=ys/\∀ u ∈ us,∃ b,u = .ref b/\H b=some (.tup ((kX H u).map V.int))
 | _,[],.nil=>⟨rfl,fun u h=>nomatch h⟩
 | _,y :: ys,.cons r t=>by
  obtain ⟨a,us,rfl,h,r1⟩:=r.sqT
  obtain rfl:=r1.ofInts
  obtain ⟨h1,h2⟩:=N9 t
  have hk:=aB4 h
  refine⟨by rw [aY6,h1,hk],fun u hu=>?_⟩
  rcases aV5.mp hu with rfl | hu
  ·exact⟨a,rfl,by rw [hk]; exact h⟩
  ·exact h2 u hu
theorem O0 {K:PySem.W.Frag}{M:Addr->Prop}{H:Hp}:∀ {us:List V},(∀ u ∈ us,∃ b,u = .ref b/\H b=some (.tup ((kX H u).map V.int)))->Reps K M H us ((us.map (kX H)).map fun r=>PV.tup (intz r))
 | [],_=>.nil
 | u :: us,h=>by
  obtain ⟨b,rfl,hb⟩:=h u aV9
  exact .cons (.tup hb (Reps.intz _)) (O0 fun v hv=>h v (aW6 _ hv))
theorem aB5:eQ X r6 (C0 X.K):=by
 rintro H vs xs Q Q' r ⟨ys,rfl,hl,hne,q⟩ k
 obtain ⟨v,rfl,r1⟩:=r.one
 obtain ⟨a,us,rfl,_,h,r2⟩:=r1.sqL
 obtain ⟨h1,h2⟩:=N9 r2
 have lr:=r2.length
 rw [aV1] at lr
 refine⟨a,us,kX H,rfl,aJ.of h,by omega,fun y hy=>?_,fun l zs hl' pm so=>?_⟩
 ·obtain ⟨b,rfl,hb⟩:=h2 y hy
  refine⟨b,rfl,aG.of hb,hne _ ?_⟩
  rw [<- h1]; exact bb4.mpr ⟨_,hy,rfl⟩
 ·have hz:∀ u ∈ zs,∃ b,u = .ref b/\H b=some (.tup ((kX H u).map V.int)):=fun u hu=>h2 u (pm.mem_iff.mp hu)
  refine k _ _ _ (bD hl' _) (.lst hl' b8 ((O0 hz).same (bD hl' _) fun _ z=>z)) (q _ ?_ ?_)
  ·rw [<- h1]; exact pm.map _
  ·rw [bb8]; exact so
theorem aB6 (B:Bt X.mg) (ha:QA X [e] tr) (hg:Gl X "sorted":=by rfl) (he:starEach [e] X.env=(false,eval e X.env) :: starEach [] X.env:=by rfl) (hpl:(backTo pos (starEach [] X.env)).any (·.1)=false:=by rfl):QE X (.Call (.Name "sorted" p2) [e] [] pos) (aC r6 tr):=
 jT ao2 aB5 hg B.sorted PyProof.Rows.boot_sorted ha (he:=he) (hpl:=hpl)
end
def O1 (K:PySem.W.Frag):Sp:=fun vs H Q _=>∃ (a:Addr) (ns:List Int),vs = [.ref a]/\(aG K H a (ns.map V.int) ∨ aJ K H a (ns.map V.int))/\ns.length<=1000/\∀ H',aD H H'->Q (.bl (Core.hV ns)) H'
def O2:Sp:=fun vs H Q _=>∃ v ws ls,vs = [v]/\C5 H v ws ls/\ws.length<=1000/\ls.length<=2000/\(∀ l ∈ ls,(0<=l.1/\l.1 < ws.length)/\0<=l.2/\l.2 < ws.length)/\
 ∀ (r:Addr) (bs:List Addr) (H':Hp),bs.length=ws.length->iY H H' r bs (fun k=>cN ls k)->Q (.ref r) H'
section
variable {P : Program} {w : World} {K : PySem.W.Frag} {mg : Str → Option Value} {base : Heap} {f : Addr} {fd : FuncData} {k : Nat}
theorem aB7 (F:cR P w K mg base dE k f fd ["things"] (O1 K)) (b:i8 K fd ["things"] []) (kp:PySem.W.keepIn K (.ref f)=true) (m:mg "rises" = some (.ref f)):Df P w K mg base k "rises" ["things"] Core.vZ:=by
 refine⟨f,fd,F.imp fun vs H Q E h=>?_,b,kp,m⟩
 obtain ⟨xs,Qp,r,⟨x,ns,rfl,hx,hl,q⟩,k⟩:=h
 obtain ⟨v,rfl,r1⟩:=r.one
 rcases hx with rfl | rfl
 ·obtain ⟨a,us,rfl,h,r2⟩:=r1.sqT
  obtain rfl:=r2.ofInts
  exact⟨a,ns,rfl,.inl (aG.of h),hl,fun H' s=>k _ H' _ s (.bl _) q⟩
 ·obtain ⟨a,us,rfl,_,h,r2⟩:=r1.sqL
  obtain rfl:=r2.ofInts
  exact⟨a,ns,rfl,.inr (aJ.of h),hl,fun H' s=>k _ H' _ s (.bl _) q⟩
theorem pV {M:Addr->Prop}{H:Hp}:∀ {us:List V}{ls:List (Int × Int)},Reps K M H us (ls.map fun l=>PV.tup [.int l.1,.int l.2])->lG H us ls
 | _,[],.nil=>.nil
 | _,l :: ls,.cons r t=>by
  obtain ⟨a,us,rfl,h,r1⟩:=r.sqT
  obtain ⟨u1,u2,rfl,q1,q2⟩:=r1.two
  cases q1; cases q2
  exact .cons ⟨a,rfl,h⟩ (pV t)
theorem aB8 {M:Addr->Prop}{H:Hp}{v:V}{ws:List Int}{ls:List (Int × Int)} (r:aF K M H v (Core.bB ws ls)):C5 H v ws ls:=by
 obtain ⟨a,us,rfl,h,r1⟩:=aF.sqT r
 obtain ⟨u1,u2,rfl,q1,q2⟩:=r1.two
 obtain ⟨p,up,rfl,hp,rp⟩:=q1.sqT
 obtain ⟨q,uq,rfl,hq,rq⟩:=q2.sqT
 obtain rfl:=rp.ofInts
 exact⟨a,p,q,uq,rfl,h,hp,hq,pV rq⟩
theorem O3 {M:Addr->Prop}{H:Hp}:∀ {bs:List Addr}{ls:List (Int × Int)} (off:Nat),(∀ b ∈ bs,M b)->(∀ (k:Nat) b,bs[k]? = some b->H b=some (.lst ((cN ls ((off+k:Nat):Int)).map V.int)))->Reps K M H (bs.map V.ref) ((List.range' off bs.length).map fun (k:Nat)=>PV.lst (intz (cN ls k)))
 | [],_,_,_,_=>.nil
 | b :: bs,ls,off,hm,h=>by
  refine .cons (.lst (hm b aV9) (h 0 b rfl) (Reps.intz _)) (O3 (off+1) (fun c hc=>hm c (aW6 _ hc)) fun k c hk=>?_)
  have:=h (k+1) c (by rw [aY2]; exact hk)
  rw [show off+1+k=off+(k+1) by omega]; exact this
theorem aB9 (F:cR P w K mg base dE k f fd ["web"] O2) (b:i8 K fd ["web"] []) (kp:PySem.W.keepIn K (.ref f)=true) (m:mg "near_lists" = some (.ref f)):Df P w K mg base k "near_lists" ["web"] Core.j8:=by
 refine⟨f,fd,F.imp fun vs H Q E h=>?_,b,kp,m⟩
 obtain ⟨xs,Qp,r,⟨ws,ls,rfl,wb,q⟩,k⟩:=h
 obtain ⟨v,rfl,r1⟩:=r.one
 have:=wb.few
 have:=wb.most
 refine⟨v,ws,ls,rfl,aB8 r1,by omega,by omega,wb.links,fun t bs H' hb R=>k _ H' _ R.same (.lst R.new R.row ?_) q⟩
 have:=O3 (K:=K) (M:=fun a=>H a=none) (H:=H') (bs:=bs) (ls:=ls) 0 (fun b hb=>(R.news b hb).1) fun k b hk=>by rw [Nat.zero_add]; exact R.rows k b hk
 rw [hb,<- List.range_eq_range'] at this
 exact this
end
end PP
namespace Core
open PySem L2 PP
theorem O4 (n:Nat):fC 0 n=intz (rng n):=by
 unfold fC rng
 show _=List.map PV.int (List.map (fun (i:Nat)=>(i:Int)) (List.range n))
 rw [bc5]
 refine List.map_congr_left fun i _=>?_
 show PV.int (0+(i:Int))=PV.int (i:Int)
 rw [Int.zero_add]
theorem O5 (n:Nat):(rng n).Nodup:=by
 unfold rng
 rw [List.nodup_iff_pairwise_ne,bb8]
 exact (List.nodup_range (n:=n)).imp fun h e=>h (by omega)
def two (l:Int × Int):List Int:=[l.1,l.2]
def oF (r:List Int):Int × Int:=(r.getD 0 0,r.getD 1 0)
theorem O6 (ls:List (Int × Int)):cM ls=(ls.map two).map fun r=>PV.tup (intz r):=by
 unfold cM
 rw [bc5]; rfl
theorem aC0 {zs:List (List Int)}{ls:List (Int × Int)} (h:zs.Perm (ls.map two)):∃ ls':List (Int × Int),zs=ls'.map two/\ls'.Perm ls:=by
 refine⟨zs.map oF,?_,?_⟩
 ·rw [bc5]
  have:∀ z ∈ zs,(two ∘ oF) z=z:=fun z hz=>by
   obtain ⟨l,_,rfl⟩:=bb4.mp (h.mem_iff.mp hz)
   rfl
  rw [List.map_congr_left this,List.map_id']
 ·have:=h.map oF
  rw [bc5] at this
  have e:ls.map (oF ∘ two)=ls:=by
   have:∀ l ∈ ls,(oF ∘ two) l=id l:=fun l _=>rfl
   rw [List.map_congr_left this,List.map_id]
  rw [e] at this
  exact this
theorem aC1 {ls:List (Int × Int)} (so:(ls.map two).Pairwise fun u v=>HT.cB v u=false) (nd:ls.Nodup):ls.Pairwise wD:=by
 rw [bb8] at so
 refine (List.pairwise_and_iff.mpr ⟨so,nd⟩).imp fun {a b} h=>?_
 obtain ⟨h1,h2⟩:=h
 unfold two at h1
 rw [HT.iR] at h1
 unfold wD
 by_cases e:b.1=a.1
 ·rw [if_pos e,HT.iR] at h1
  by_cases e2:b.2=a.2
  ·exact absurd (Prod.ext e.symm e2.symm) h2
  ·rw [if_neg e2] at h1
   have:=bd6 h1
   omega
 ·rw [if_neg e] at h1
  have:=bd6 h1
  omega
theorem kW.perm {n:Int}{ws:List Int}{ls ls':List (Int × Int)} (h1:(ws.length:Int)=n) (h2:∀ l ∈ ls,0<=l.1/\l.1 < l.2/\l.2 < n) (h3:ls.length<=63) (nd:ls.Nodup) (h4:∀ w ∈ ws,0<=w) (p:ls'.Perm ls) (so:(ls'.map two).Pairwise fun u v=>HT.cB v u=false):kW n ws ls':=
 ⟨h1,fun l hl=>h2 l (p.mem_iff.mp hl),by rw [p.length_eq]; exact h3,aC1 so (p.nodup_iff.mpr nd),h4⟩
theorem aC2 (ws:List Int) (ls:List (Int × Int)):flats [.tup (intz ws),.tup (cM ls)]=true:=az3 ws ls
def fK (l:Int × Int):List aB:=[Sum.inl l.1,Sum.inl l.2]
structure DL (n:Int) (ps:List (List aB × PV)) (i:Nat):Prop where
 key:∀ p ∈ ps,∃ l:Int × Int,p.1=fK l/\0<=l.1/\l.1 < l.2/\l.2 < n
 len:ps.length<=i
 fl:flats (ps.map (·.2))=true
 nd:(ps.map (·.1)).Nodup
theorem aC3 {κ:Type} [DecidableEq κ] {ps:List (κ × PV)} (k:κ) (v:PV) (h:(ps.map (·.1)).Nodup):((cE ps k v).map (·.1)).Nodup:=by
 unfold cE
 split
 ·rw [bc5]
  have:((fun x:κ × PV=>x.1) ∘ fun kv:κ × PV=>if kv.1=k then (kv.1,v) else kv)=fun x=>x.1:=by
   funext x
   show (if x.1=k then (x.1,v) else x).1=x.1
   split <;> rfl
  rw [this]; exact h
 ·rename_i hn
  rw [aX8]
  refine aY7.mpr ⟨h,aY1 _ _,fun x hx y hy e=>hn ?_⟩
  obtain ⟨p,hp,rfl⟩:=bb4.mp hx
  rw [aV6.mp hy] at e
  exact List.any_eq_true.mpr ⟨p,hp,aW5 e⟩
theorem aC4 {κ:Type} [DecidableEq κ] {ps:List (κ × PV)}{k:κ}{v:PV}{p:κ × PV} (h:p ∈ cE ps k v):p.1=k ∨ ∃ q ∈ ps,q.1=p.1:=by
 unfold cE at h
 split at h
 ·obtain ⟨q,hq,e⟩:=bb4.mp h
  split at e
  ·subst e; exact .inr ⟨q,hq,rfl⟩
  ·subst e; exact .inr ⟨q,hq,rfl⟩
 ·rcases aX3.mp h with h | h
  ·exact .inr ⟨p,h,rfl⟩
  ·rw [aV6.mp h]; exact .inl rfl
theorem DL.put {n:Int}{ps:List (List aB × PV)}{i:Nat} (h:DL n ps i) (l:Int × Int) (hl:0<=l.1/\l.1 < l.2/\l.2 < n):DL n (cE ps (fK l) (.bl true)) (i+1):=by
 refine⟨fun p hp=>?_,?_,w5 h.fl rfl,aC3 _ _ h.nd⟩
 ·rcases aC4 hp with e | ⟨q,hq,e⟩
  ·exact⟨l,e,hl⟩
  ·obtain ⟨l',e',h'⟩:=h.key q hq
   exact⟨l',e ▸ e',h'⟩
 ·have:=qY ps (fK l) (.bl true)
  have:=h.len
  omega
theorem DL.links {n:Int}:∀ {ps:List (List aB × PV)},(∀ p ∈ ps,∃ l:Int × Int,p.1=fK l/\0<=l.1/\l.1 < l.2/\l.2 < n)->∃ ls:List (Int × Int),(ps.map fun p=>PV.tup (p.1.map kP))=cM ls/\(∀ l ∈ ls,0<=l.1/\l.1 < l.2/\l.2 < n)/\ls.length=ps.length/\ps.map (·.1)=ls.map fK
 | [],_=>⟨[],rfl,(fun _ h=>nomatch h),rfl,rfl⟩
 | p :: ps,h=>by
  obtain ⟨l,e,hl⟩:=h p aV9
  obtain ⟨ls,h1,h2,h3,h4⟩:=DL.links (ps:=ps) fun q hq=>h q (aW6 _ hq)
  refine⟨l :: ls,?_,fun m hm=>?_,by rw [aY9,aY9,h3],by rw [aY6,aY6,h4,e]⟩
  ·rw [aY6,h1,e]; rfl
  ·rcases aV5.mp hm with rfl | hm
   ·exact hl
   ·exact h2 m hm
theorem aC5 {x:PV}{ns:List Int} (h:gP x ns):(Slot.sh (flat x) x).tag = .rd->flat x=true:=by
 cases flat x <;> intro z <;> cases z
theorem wF (ns:List Int) {k:Int} (h:0<=k):fE (intz ns) (some k) none=intz (ns.drop k.toNat):=by
 unfold fE
 have e1:HT.aS (intz ns).length 0 (some k)=min k.toNat (intz ns).length:=by
  have:=HT.yW (intz ns).length 0 k.toNat
  rw [show ((k.toNat:Nat):Int)=k by omega] at this
  exact this
 have e2:HT.aS (intz ns).length (intz ns).length none=(intz ns).length:=rfl
 rw [e1,e2,b4]
 rw [bc3 (by rw [be8,b4]; omega)]
 show _=List.map PV.int _
 rw [List.map_drop]
 by_cases hk:k.toNat<=ns.length
 ·rw [Nat.min_eq_left hk]
 ·rw [Nat.min_eq_right (by omega),List.drop_of_length_le (by rw [b4]; omega),List.drop_of_length_le (by rw [b4]; omega)]
theorem oG:∀ {a b:List Int},a.Perm b->a.Pairwise (· <= ·)->b.Pairwise (· <= ·)->a=b:=by
 intro a b h ha hb
 exact h.eq_of_pairwise (fun x y _ _ h1 h2=>Int.le_antisymm h1 h2) ha hb
def O7:bF:=fun xs Q=>∃ ns:List Int,xs = [.scr ns]/\ns.length<=63/\Q (.bl true)
structure aC6 (K:PySem.W.Frag):Prop where
 ii:PySem.W.kitOne K (.type "int") (.type "int")=some true
 ib:PySem.W.kitOne K (.type "int") (.type "bool")=some false
 tt:PySem.W.kitOne K (.type "tuple") (.type "tuple")=some true
 ll:PySem.W.kitOne K (.type "list") (.type "list")=some true
 bb:PySem.W.kitOne K (.type "bool") (.type "bool")=some true
theorem O8 (K:PySem.W.Frag):aC6 K:=by
 have same:∀ n:String,PySem.W.kitMeta n=true->True:=fun _ _=>trivial
 refine⟨?_,?_,?_,?_,?_⟩
 ·unfold PySem.W.kitOne; rw [if_pos (by decide)]
 ·have e:(if PySem.W.kitMeta "bool" = true then (fastBuiltinMro "int").map (·.contains (Value.type "bool")) else none)=some false:=by decide +kernel
  unfold PySem.W.kitOne
  rw [if_neg (by decide)]
  exact e
 ·unfold PySem.W.kitOne; rw [if_pos (by decide)]
 ·unfold PySem.W.kitOne; rw [if_pos (by decide)]
 ·unfold PySem.W.kitOne; rw [if_pos (by decide)]
theorem kW.wb {n:Int}{ws:List Int}{ls:List (Int × Int)} (h:kW n ws ls) (hn:n<=40):Wb ws ls:=
 ⟨by have:=h.many; omega,by have:=h.most; omega,fun l hl=>by have:=h.inn l hl; have:=h.many; omega⟩
end Core
namespace PP
open PySem L2 PyProof.Rows
theorem aC7 {P:Program}{w:World}{K:PySem.W.Frag}{mg:Str->Option Value}{base:Heap}{k:Nat}{x:Str}{ps N:List Str}{p:bF}{st:Stmt}{f:Addr}{fd:FuncData} (F:eF K x x st f fd) (S:FnScope N ps (aQ st))
  (len:∀ xs Q,p xs Q->xs.length=ps.length)
  (body:∀ (cdv:Value) (A:Around) (outer:List Env) (s:Shared) (H:Hp) (E:XK),c6 k (A.deeper (envOfC x (aQ st) s.heap.objs.size f cdv))->
   ∃ t,eR (cS dE P w K mg base N x (aQ st) f cdv A outer s H E).nox (dN st) t/\∀ xs Q,p xs Q->t { nx:=fun _=>Q .non,rt:=Q } (eJ N xs)):cR P w K mg base dE (k+1) f fd ps (nW K p):=by
 refine F.ok S (fun vs H Q E h=>?_) (fun cdv A outer s H vs Q E hr h=>?_)
 ·obtain ⟨xs,Qp,r,q,_⟩:=h
  rw [r.length]; exact len xs Qp q
 ·obtain ⟨xs,Qp,r,q,k⟩:=h
  obtain ⟨t,ht,hq⟩:=body cdv A outer s H E hr
  refine⟨_,ht,fun _=>False,eJ N xs,_,qR r,hq xs Qp q,?_,?_,?_,?_⟩
  ·exact fun W' σ' H' ρ' e px q=>k _ _ _ px.same .non q
  ·exact fun v H' x s r q=>k _ _ _ s r q
  ·exact fun W' σ' H' ρ' e px q=>q
  ·exact fun W' σ' H' ρ' e px q=>q
def rB (K:PySem.W.Frag):Sp:=fun vs H Q _=>∃ (a:Addr) (ns:List Int),vs = [.ref a]/\iZ K H a ns/\ns.length<=63/\∀ H',Q (.bl true) H'
theorem aC8 {P:Program}{w:World}{K:PySem.W.Frag}{mg:Str->Option Value}{base:Heap}{k:Nat}{f:Addr}{fd:FuncData} (F:cR P w K mg base dE k f fd ["script"] (nW K Core.O7)):cR P w K mg base dE k f fd ["script"] (rB K):=
 F.imp fun vs H Q E h=>by
  obtain ⟨a,ns,rfl,hs,hl,q⟩:=h
  refine⟨[.scr ns],fun z=>z = .bl true,.cons (.scr hs) .nil,⟨ns,rfl,hl,rfl⟩,?_⟩
  rintro v H' x _ r rfl
  cases r
  exact q H'
theorem aC9 {K:PySem.W.Frag}{H:Hp}{a:Addr}{ns:List Int} (hO:pD H) (h:aJ K H a (ns.map V.int)):iZ K H a ns:=by
 rcases h with (h | ⟨o,h⟩) | h
 ·rcases hO a with e | ⟨o,xs,e⟩ <;> (rw [h] at e; cases e)
 ·exact .inl ⟨o,h⟩
 ·exact .inr h
end PP
namespace PyProof.Rows
open PySem
section
variable {prog : Program} {w : World} {A : Around} {E : Value → Shared → Prop} {s : Shared}
theorem aD0 {l:Addr}{vs:List Value}{Q:List Value->Shared->Prop} (hl:s.heap.IsTuple l vs.toArray)
  (h:Q vs { s with heap:=(s.heap.push (seqObj "list" #[] 0)).update s.heap.objs.size (Obj.mapSeq (· ++ vs.toArray)) }) (hsz:vs.length<=sizeLine) :
  wpAny (model prog w) A (collect (.ref l)) Q E s:=by
 obtain ⟨o,ho,hc,n,hd⟩:=id hl
 unfold collect
 refine aU6 (wpAny_runValue (codeAny_builtin entry_proto_collect' ?_))
 show wpAny _ _ (do again (.builtin "list.__iadd__" ⟨[<- newList [],.ref l],[]⟩)) _ _ s
 refine aU6 (wpAny_newList (aV4 ⟨Code.quiet_builtin _ (by decide +kernel),codeAny_builtin entry_list_iadd' ?_⟩))
 show wpAny _ _ (Builtin.List.listExtendWith (.ref s.heap.objs.size) (.ref l) (.ref s.heap.objs.size)) _ _ { s with heap:=s.heap.push (seqObj "list" #[] 0) }
 unfold Builtin.List.listExtendWith
 have ho':(s.heap.push (seqObj "list" #[] 0)).get? l=some o:=aU7 _ ho
 refine aU6 (wpAny_typeOf (T:="tuple") ⟨o,ho',hc⟩ ?_)
 have ht:(Value.type "tuple" == Value.type "tuple")=true:=by rfl
 rw [if_pos (by rw [ht]; simp)]
 refine aU6 (listItems_at ho' hd ?_)
 refine aU6 (listItems_at (xs:=#[]) (n:=0) (aV8 _ rfl) rfl ?_)
 rw [if_neg (by simp)]
 refine aU6 (listUpdate_at (xs:=#[]) (n:=0) (aV8 _ rfl) rfl ?_ (aZ2 _) (by show (#[] ++ vs.toArray).size<=sizeLine+1; simp only [Array.size_append,aU8,List.length_nil]; omega))
 refine aV4 ?_
 show wpAny (model prog w) A (do
   let o <- load s.heap.objs.size
   match o.data with
   | .seq xs _=>pure xs.toList
   | _=>unsupported "internal:collect") Q E { s with heap:=(s.heap.push (seqObj "list" #[] 0)).update s.heap.objs.size (Obj.mapSeq (· ++ vs.toArray)) }
 refine aU6 (wpAny_load (get?_update_seq (aV8 _ rfl) _) ?_)
 show wpAny _ _ (pure ((#[]:Array Value) ++ vs.toArray).toList) Q E _
 rw [show ((#[]:Array Value) ++ vs.toArray).toList=vs by simp]
 exact aV4 h
theorem aD1 {l:Addr}{vs:List Value}{ns:List Int}{Q:Value->Shared->Prop} (hl:s.heap.IsTuple l vs.toArray) (hI:IntsAre vs ns) (h64:vs.length < 64)
  (h:∀ (out:Array Value) (ns':List Int),IntsAre out.toList ns'->ns'.Perm ns->ns'.Pairwise (· <= ·)->Q (.ref (s.heap.objs.size+1)) { s with heap:=sortedAll s.heap vs out }) :
  wpAny (model prog w) A (call (.builtin "sorted") [.ref l]) Q E s:=by
 have hsl:vs.length<=sizeLine:=aY8 (ba4 h64) (by decide)
 refine Calls.call_function_entry kind_sorted plain_sorted entry_sorted (args_sorted1 _) ?_
 unfold Builtin.«sorted»
 refine aU6 (m:=checkCount "sorted" 1 1 _) (aV4 ?_)
 refine aU6 (aD0 hl ?_ hsl)
 refine aU6 (wpAny_newList ?_)
 have hsz:((s.heap.push (seqObj "list" #[] 0)).update s.heap.objs.size (Obj.mapSeq (· ++ vs.toArray))).objs.size=s.heap.objs.size+1:=by
  rw [Heap.size_update,size_push']
 have hoL:(((s.heap.push (seqObj "list" #[] 0)).update s.heap.objs.size (Obj.mapSeq (· ++ vs.toArray))).push (seqObj "list" vs.toArray 0)).get? (s.heap.objs.size+1)=some (seqObj "list" vs.toArray 0):=by
  rw [<- hsz]; exact aV8 _ rfl
 show wpAny _ _ _ _ _ { s with heap:=((s.heap.push (seqObj "list" #[] 0)).update s.heap.objs.size (Obj.mapSeq (· ++ vs.toArray))).push (seqObj "list" vs.toArray 0) }
 rw [hsz]
 refine aU6 (bd9 (ba9 slot_list_sort ⟨_,hoL,rfl⟩ entry_list_sort (list_sort_tree hoL hI h64 fun out ns' a1 a2 a3=>⟨_,rfl,?_⟩) (args_list_sort _)))
 exact aV4 ⟨_,rfl,h out ns' a1 a2 a3⟩
end
end PyProof.Rows
namespace PP
open PySem L2 PyProof.Rows
section
variable {X : Cx} {a b e : Expr} {ta tb te : aE} {tr : cL} {pos p2 : Pos}
theorem aD2:cK X (.builtin "sorted") (fun xs H Q=>∃ a ns,xs = [.ref a]/\(aJ X.K H a (ns.map V.int) ∨ aG X.K H a (ns.map V.int))/\ns.length < 64/\∀ l (ms:List Int),H l=none->ms.Perm ns->ms.Pairwise (· <= ·)->Q (.ref l) (upd H l (.lst (ms.map V.int)))):=by
 intro pins s σ H xs us Q I r h
 obtain ⟨a,ns,rfl,hs,h64,q⟩:=h
 rcases hs with hs | hs
 ·exact ao0 pins s σ H _ us Q I r ⟨a,ns,rfl,hs,h64,q⟩
 obtain ⟨u,rfl,ru⟩:=eW r
 cases ru
 obtain ⟨its,rv,p,hz⟩:=I.tuple hs
 have hl:=rv.length
 rw [aV1] at hl
 refine aD1 p (kD rv) (by omega) fun out ns' a1 a2 a3=>?_
 obtain ⟨e,he⟩:=sortedAll_at s.heap its out
 have hn:s.heap.objs.size<=s.heap.objs.size+1:=Nat.le_succ _
 have hlen:ns'.length=ns.length:=a2.length_eq
 refine⟨.ref (s.heap.objs.size+1),upd H (s.heap.objs.size+1) (.lst (ns'.map V.int)),I.laid (t':=s.toks) (fun _ _=>sortedAll_old) hn ⟨?_,out.toList,e,nE a1,by simpa using he⟩,rfl,q _ ns' (I.hok.fresh hn) a2 a3⟩
 rw [aV1,hlen]
 exact ba4 (nF (by omega))
def oH:List PV->(PV->Prop)->Prop:=fun xs Q=>∃ x ns,xs = [x]/\iD x=some (intz ns)/\ns.length < 64/\∀ ms:List Int,ms.Perm ns->ms.Pairwise (· <= ·)->Q (.lst (intz ms))
theorem aD3:eQ X oH (fun xs H Q=>∃ a ns,xs = [.ref a]/\(aJ X.K H a (ns.map V.int) ∨ aG X.K H a (ns.map V.int))/\ns.length < 64/\∀ l (ms:List Int),H l=none->ms.Perm ns->ms.Pairwise (· <= ·)->Q (.ref l) (upd H l (.lst (ms.map V.int)))):=by
 rintro H vs xs Q Q' r ⟨x,ns,rfl,e,hl,q⟩ k
 obtain ⟨v,rfl,r1⟩:=r.one
 obtain ⟨a,us,rfl,hs,r2⟩:=r1.seq e
 obtain rfl:=r2.ofInts
 exact⟨a,ns,rfl,hs,hl,fun l ms hl' p o=>k _ _ _ (bD hl' _) (.lst hl' b8 (Reps.intz ms)) (q ms p o)⟩
theorem wG (B:Bt X.mg) (ha:QA X [e] tr) (hg:Gl X "sorted":=by rfl) (he:starEach [e] X.env=(false,eval e X.env) :: starEach [] X.env:=by rfl) (hpl:(backTo pos (starEach [] X.env)).any (·.1)=false:=by rfl):QE X (.Call (.Name "sorted" p2) [e] [] pos) (aC oH tr):=
 jT aD2 aD3 hg B.sorted PyProof.Rows.boot_sorted ha (he:=he) (hpl:=hpl)
def O9:PV->Tg->PV->Tg->PK->Prop:=fun x _ y _ Q=>∃ xs ys,x = .lst xs/\y = .lst ys/\flats xs=true/\flats ys=true/\xs.length+ys.length<=16000000/\Q (.lst (xs ++ ys)) .fr
abbrev wH (ta tb:aE):aE:=q2 O9 ta tb
theorem aD4:eG X O9 zO:=by
 rintro W Hs H u v x y g g' Q Q' s n r1 r2 ⟨xs,ys,rfl,rfl,f1,f2,hl,q⟩ k
 obtain ⟨a,us,rfl,_,h1,q1⟩:=r1.sqL
 obtain ⟨b,ws,rfl,_,h2,q2⟩:=r2.sqL
 have l1:=q1.length
 have l2:=q2.length
 refine⟨a,b,us,ws,rfl,rfl,h1,h2,lim (by omega),fun p hp=>k _ _ _ .fr (bD hp _) (.lst (s.free hp) b8 (((q1.flat f1).append (q2.flat f2)).same (bD hp _) fun _ z=>z)) q⟩
theorem P0 (ha:QE X a ta) (hb:QE X b tb):QE X (.BinOp a .Add b pos) (wH ta tb):=jR ak3 aD4 ha hb
end
end PP
namespace L2
open PySem PySem.Spec PyProof.Rows
def wI (K:PySem.W.Frag) (a:Addr):It:=
  ⟨fun i H=>∃ xs x,aJ K H a xs/\xs[i]? = some x,
   fun i H v H'=>∃ T x,H T=none/\v = .ref T/\H'=upd H T (.tup [.int i,x])/\∀ xs,aJ K H a xs->xs[i]? = some x,
   fun i H=>∃ xs,aJ K H a xs/\xs.length<=i⟩
structure aD5 (e it a:Addr) (i:Nat) (h:Heap):Prop where
 ee:∃ old,IsEnum h e it i old
 s1:h.IsListIter it a i
theorem aD6 {P:Program}{w:World}{K:PySem.W.Frag}{elts:List Expr}{k:Nat}{pos:Pos} (a e it:Addr) (d:e ≠ it) :
  gD P w K (.Tuple elts k pos) (wI K a) [e,it] e (aD5 e it a):=by
 refine⟨by simp,fun i h st c hc=>?_,fun i h h' st kp=>?_,?_,?_,fun A i s Q E st q=>?_⟩
 ·simp only [aV5,aW3,aZ5] at hc
  obtain ⟨old,ee⟩:=st.ee
  obtain ⟨o1,f1,g1,d1⟩:=st.s1
  rcases hc with rfl | rfl
  ·exact⟨_,ee,fun v q=>by cases q⟩
  ·exact⟨_,f1,fun v q=>by rw [d1] at q; cases q⟩
 ·obtain ⟨old,ee⟩:=st.ee
  exact⟨⟨old,kp e (by simp) _ ee⟩,st.s1.at fun o z=>kp it (by simp) o z⟩
 ·intro X hP hw hK hc i pins s σ H E I hf st hg
  subst hP hw hK
  obtain ⟨xs,x,ha,hx⟩:=hg
  obtain ⟨us,ru,pu,lu⟩:=I.list ha
  obtain ⟨ux,eux,rux⟩:=ru.get hx
  obtain ⟨old,ee⟩:=st.ee
  refine wpAny_pyNext_enum_item ee st.s1 pu.isList (by simpa using eux) d fun h' eo it' pr sz kp=>⟨_,rfl,?_⟩
  refine wpAny_letOwnedTupleGo_enum (s:={ s with heap:=h',toks:=s.toks+1 }) eo fun g zz sb=>?_
  have hzl:e < s.heap.objs.size:=aW0 ee
  have up:∀ c o,c ≠ e->c ≠ it->s.heap.get? c=some o->g.get? c=some o:=fun c o c1 c2 z=>sb.extBut c o c1 (kp c o c1 c2 z)
  have hT:H s.heap.objs.size=none:=I.hok.fresh (aV0 _)
  have prG:g.get? s.heap.objs.size=some { cls:=.type "tuple",data:=.seq #[.int i s.toks,ux] }:=sb.extBut _ _ (bc2 hzl) pr
  have fpn:∀ c u,H c=some u->c ∉ [e,it]:=fun c u z hm=>by rw [(hf c hm).1] at z; cases z
  have upH:∀ c o u,H c=some u->s.heap.get? c=some o->g.get? c=some o:=fun c o u q z=>by
   have:=fpn c u q
   simp only [aV5,aW3,aZ5,not_or] at this
   exact up c o this.1 this.2 z
  have ns:∀ m,s.heap.Ns X.env.locals m->g.Ns X.env.locals m:=fun m hm=>by
   obtain ⟨o,es,ep,e1,e2⟩:=hm
   exact⟨o,es,ep,up _ o (Ne.symm (hf e (by simp)).2.1) (Ne.symm (hf it (by simp)).2.1) e1,e2⟩
  have I2:a7 X pins σ (upd H s.heap.objs.size (.tup [.int i,x])) { s with heap:=g,toks:=s.toks+1 }:=by
   refine I.step (g':=s.gens) (d':=s.drawn) (ch:=[e,it]) (fun c hc'=>?_) (fun c o _ _ hc' z _=>?_) (fun c o _ _ hc' z _=>⟨o.slots,?_⟩) (fun c o _ z n=>?_) (fun c o hc' z=>⟨o,?_⟩)
    (fun c zs z=>by rw [aH (cA z hT)]; exact z) (fun c u zs z=>by rw [aH (cA z hT)]; exact z) (fun c ps z=>⟨#[],by rw [aH (cA z hT),z]; simp⟩) ns (fun c u z=>?_) I.bare
   ·exact⟨(hf c hc').2.2.2.1,(hf c hc').2.1,(hf c hc').2.2.2.2.1,(hf c hc').2.2.2.2.2⟩
   ·simp only [aV5,aW3,aZ5,not_or] at hc'
    exact up c o hc'.1 hc'.2 z
   ·simp only [aV5,aW3,aZ5,not_or] at hc'
    exact up c o hc'.1 hc'.2 z
   ·rw [aH (aY5 (aW0 z))]; exact n
   ·simp only [aV5,aW3,aZ5,not_or] at hc'
    exact up c o hc'.1 hc'.2 z
   ·by_cases hcT:c=s.heap.objs.size
    ·subst hcT
     rw [b8] at z; cases z
     exact⟨by show 2<=sizeLine; decide,[.int i s.toks,ux],.cons ⟨_,rfl⟩ (.cons rux .nil),⟨_,prG,rfl,_,rfl⟩⟩
    ·rw [aH hcT] at z
     refine (I.hok c u z).stay (fun c' o' hc2 q'=>?_) (fun c' q'=>by rw [aH (cA q' hT)]; exact q') fun c' zs q'=>by rw [aH (cA q' hT)]; exact q'
     rcases hc2 with rfl | hc2
     ·exact upH _ _ _ z q'
     ·exact upH _ _ _ hc2 q'
  refine⟨.ref s.heap.objs.size,_,I2,rfl,⟨_,x,hT,rfl,rfl,fun xs' ha'=>?_⟩,⟨⟨ux,by push_cast; exact zz⟩,it'.at fun o z=>sb.extBut _ o (Ne.symm d) z⟩,fun c hc'=>?_⟩
  ·rw [I.list_inj ha' ha]; exact hx
  ·obtain ⟨o,z⟩:∃ o,s.heap.get? c=some o:=by
    simp only [aV5,aW3,aZ5] at hc'
    obtain ⟨o1,f1,_⟩:=st.s1
    rcases hc' with rfl | rfl
    ·exact⟨_,ee⟩
    ·exact⟨_,f1⟩
   rw [aH (aY5 (aW0 z))]; exact (hf c hc').1
 ·intro X hP hw hK hc i pins s σ H E I hf st hg
  subst hP hw hK
  obtain ⟨xs,ha,hi⟩:=hg
  obtain ⟨us,ru,pu,lu⟩:=I.list ha
  obtain ⟨old,ee⟩:=st.ee
  have hh:X.A.handled=none:=I.ok.hd hc
  have e1:=ru.length
  refine wpAny_pyNext_enum_end hh ee st.s1 pu.isList (by rw [Array.getElem?_eq_none]; simp only [aU8]; omega) fun g kp=>⟨rfl,?_⟩
  have fpn:∀ c u,H c=some u->c ∉ [e,it]:=fun c u z hm=>by rw [(hf c hm).1] at z; cases z
  have upH:∀ c o u,H c=some u->s.heap.get? c=some o->g.get? c=some o:=fun c o u q z=>by
   have:=fpn c u q
   simp only [aV5,aW3,aZ5,not_or] at this
   exact kp c o this.2 z
  have ns:∀ m,s.heap.Ns X.env.locals m->g.Ns X.env.locals m:=fun m hm=>by
   obtain ⟨o,es,ep,e1,e2⟩:=hm
   exact⟨o,es,ep,kp _ o (Ne.symm (hf it (by simp)).2.1) e1,e2⟩
  refine I.step (g':=s.gens) (d':=s.drawn) (ch:=[it]) (fun c hc'=>?_) (fun c o _ _ hc' z _=>?_) (fun c o _ _ hc' z _=>⟨o.slots,?_⟩) (fun c o _ z n=>n) (fun c o hc' z=>⟨o,?_⟩)
   (fun c zs z=>z) (fun c u zs z=>z) (fun c ps z=>⟨#[],by rw [z]; simp⟩) ns (fun c u z=>?_) I.bare
  ·have hm:c ∈ [e,it]:=aW6 _ hc'
   exact⟨(hf c hm).2.2.2.1,(hf c hm).2.1,(hf c hm).2.2.2.2.1,(hf c hm).2.2.2.2.2⟩
  ·exact kp c o (fun y=>hc' (by rw [y]; simp)) z
  ·exact kp c o (fun y=>hc' (by rw [y]; simp)) z
  ·exact kp c o (fun y=>hc' (by rw [y]; simp)) z
  ·refine (I.hok c u z).stay (fun c' o' hc2 q'=>?_) (fun _ q'=>q') fun _ _ q'=>q'
   rcases hc2 with rfl | hc2
   ·exact upH _ _ _ z q'
   ·exact upH _ _ _ hc2 q'
 ·obtain ⟨old,ee⟩:=st.ee
  exact wpAny_pyIter_enum ee q
end L2
namespace Zp
open PySem PyProof.Rows
section
variable {prog : Program} {w : World} {A : Around} {E : Value → Shared → Prop} {s : Shared}
theorem aD7 {e it t:Addr}{i:Nat}{items:Array Value}{x old:Value}{Q:Option Value->Shared->Prop} (he:IsEnum s.heap e it i old) (hi:s.heap.IsTupleIter it t i) (ht:s.heap.IsTuple t items) (hx:items[i]? = some x) (ne:e ≠ it)
  (q:∀ h',IsEnumOut h' e it ((i:Int)+1) x s.heap.objs.size->h'.IsTupleIter it t (i+1)->h'.get? s.heap.objs.size=some { cls:=.type "tuple",data:=.seq #[.int i s.toks,x] }->h'.objs.size=s.heap.objs.size+1->
   (∀ b o,b ≠ e->b ≠ it->s.heap.get? b=some o->h'.get? b=some o)->Q (some (.ref s.heap.objs.size)) { s with heap:=h',toks:=s.toks+1 }):wpAny (model prog w) A (pyNext (.ref e)) Q E s:=by
 have T:s.TypeIs (.ref e) "enumerate":=⟨_,he,rfl⟩
 have slot:=PySem.F.slot_enumerate_next
 unfold pyNext
 apply aU6
 apply wpAny_attempt
 apply ba6 (name:=Str.ofString "__next__") T slot
 apply ba9 slot T PySem.F.entry_enumerate_next _ (PySem.F.args_enumerate_next_1 _)
 change wpAny _ _ (field (.ref e) 2 >>= _) _ _ _
 apply aU6
 refine ba5 he rfl (x:=.ref it) rfl ?_
 apply aU6
 refine C7 hi ht hx fun g1 it1 sb1=>?_
 have e1:IsEnum g1 e it i old:=sb1.extBut _ _ ne he
 change wpAny _ _ (field (.ref e) 3 >>= _) _ _ _
 apply aU6
 refine ba5 e1 rfl (x:=rawInt i) rfl ?_
 change wpAny _ _ (field (.ref e) 4 >>= _) _ _ _
 apply aU6
 refine ba5 e1 rfl (x:=.none) rfl ?_
 change wpAny _ _ (mkInt i >>= _) _ _ _
 apply aU6
 refine wpAny_mkInt ?_
 change wpAny _ _ (setField (.ref e) 3 (rawInt ((i:Int)+1)) >>= _) _ _ _
 apply aU6
 refine bb5 e1 (by simp) fun g2 e2 sb2=>?_
 apply aU6
 refine bb5 e2 (by simp) fun g3 e3 sb3=>?_
 have e3:IsEnum g3 e it ((i:Int)+1) old:=e3
 apply aU6
 refine wpAny_newTuple ?_ (by show 2<=sizeLine; decide)
 have e4:IsEnum (g3.push { cls:=.type "tuple",data:=.seq #[.int i s.toks,x] }) e it ((i:Int)+1) old:=aU7 _ e3
 have size:g3.objs.size=s.heap.objs.size:=by rw [sb3.1,sb2.1,sb1.1]
 change wpAny _ _ (Builtin.SmallTypes.ownedTupleIsFree (.ref e) >>= _) _ _ _
 apply aU6
 unfold Builtin.SmallTypes.ownedTupleIsFree
 apply aU6
 refine ba5 e4 rfl (x:=.none) rfl (aV4 ?_)
 simp only [if_true]
 apply aU6
 apply wpAny_rule
 apply aU6
 refine ba5 e4 rfl (x:=old) rfl ?_
 apply aU6
 refine bb5 e4 (by simp) fun g5 e5 sb5=>?_
 apply aU6
 unfold Builtin.SmallTypes.ownedTupleHandOut
 apply aU6
 refine bb5 e5 (by simp) fun g6 e6 sb6=>?_
 refine bb5 e6 (by simp) fun g7 e7 sb7=>?_
 have e7:IsEnumOut g7 e it ((i:Int)+1) x g3.objs.size:=e7
 have elt:e < g3.objs.size:=aW0 e3
 have up:∀ c o,c ≠ e->(g3.push { cls:=.type "tuple",data:=.seq #[.int i s.toks,x] }).get? c=some o->g7.get? c=some o:=fun c o c1 z=>sb7.extBut c o c1 (sb6.extBut c o c1 (sb5.extBut c o c1 z))
 have up3:∀ c o,c ≠ e->g1.get? c=some o->g7.get? c=some o:=fun c o c1 z=>up c o c1 (aU7 _ (sb3.extBut c o c1 (sb2.extBut c o c1 z)))
 have p7:g7.get? g3.objs.size=some { cls:=.type "tuple",data:=.seq #[.int i s.toks,x] }:=up _ _ (bc2 elt) (aV8 _ rfl)
 have s7:g7.objs.size=g3.objs.size+1:=by rw [sb7.1,sb6.1,sb5.1,be2]
 apply aU6
 apply wpAny_letGo
 apply aV4
 rw [size] at e7 p7 s7
 refine⟨_,rfl,aV4 ?_⟩
 change Q (some (.ref g3.objs.size)) _
 rw [size]
 exact q g7 e7 (it1.at fun o z=>up3 it o (Ne.symm ne) z) p7 s7 fun b o b1 b2 z=>up3 b o b1 (sb1.extBut b o b2 z)
theorem aD8 {e it t:Addr}{i:Nat}{items:Array Value}{old:Value}{Q:Option Value->Shared->Prop} (hh:A.handled=none) (he:IsEnum s.heap e it i old) (hi:s.heap.IsTupleIter it t i) (ht:s.heap.IsTuple t items) (hx:items[i]? = none)
  (q:∀ h',Heap.ExtBut it s.heap h'->Q none { s with heap:=h' }):wpAny (model prog w) A (pyNext (.ref e)) Q E s:=by
 have T:s.TypeIs (.ref e) "enumerate":=⟨_,he,rfl⟩
 have slot:=PySem.F.slot_enumerate_next
 unfold pyNext
 apply aU6
 apply wpAny_attempt
 apply ba6 (name:=Str.ofString "__next__") T slot
 apply ba9 slot T PySem.F.entry_enumerate_next _ (PySem.F.args_enumerate_next_1 _)
 change wpAny _ _ (field (.ref e) 2 >>= _) _ _ _
 apply aU6
 refine ba5 he rfl (x:=.ref it) rfl ?_
 apply aU6
 refine C8 hh hi ht hx fun g2 ex eb exo=>?_
 obtain ⟨oe,eo,co⟩:=exo
 apply aU6
 refine wpAny_isInstance (T:="StopIteration") (b:=true) ⟨oe,eo,co⟩ isSubtype_stop ?_
 exact aV4 (q g2 eb)
theorem aD9 {M:Model}{A:Around}{E:Value->Shared->Prop}{s:Shared}{α:Type}{c:Prop} [Decidable c] {m n:Sem α}{Q:α->Shared->Prop} (h1:wpAny M A m Q E s) (h2:wpAny M A n Q E s):wpAny M A (if c then m else n) Q E s:=by
 split
 ·exact h1
 ·exact h2
theorem aE0 (t:Addr) (xs:Array Value):Meets (Builtin.«enumerate.__new__» ⟨[.type "enumerate",.ref t],[]⟩) (fun _ R s=>s.heap.IsTuple t xs/\R (.ok (.ret (.ref (s.heap.objs.size+1)))) { s with heap:=(s.heap.push { cls:=.type "tuple_iterator",data:=.fields #[.ref t,.int 0 0] }).push { cls:=.type "enumerate",data:=.fields #[.none,.bool false,.ref s.heap.objs.size,rawInt 0,.none,.none] } }):=
 .of_wp fun prog w A R s h=>by
  obtain ⟨hp,g,d,tk,os⟩:=s
  obtain ⟨ht,h⟩:=h
  have sub:=sub_enumerate
  have a1:Heap.IsTuple (Shared.heap ⟨hp,g,d,tk,os⟩) t xs:=ht
  wp_walk using be7 a1
  refine wpAny_stack_any fun st=>aV4 ?_
  refine aD9 ?_ ?_
  all_goals
   apply aU6
   refine wpAny_of_eq (a:=(Value.ref t,none)) rfl ?_
   wp_walk using be7 a1
   have e:∀ (o:Obj) (k:Heap),(k.push o).objs.size=k.objs.size+1:=fun o k=>be2 ..
   refine⟨_,rfl,?_⟩
   simp only [e] at h ⊢
   exact h
theorem aE1 {t:Addr}{xs:Array Value}{Q:Value->Shared->Prop} (ht:s.heap.IsTuple t xs)
  (q:∀ h',IsEnum h' (s.heap.objs.size+1) s.heap.objs.size 0 .none->h'.IsTupleIter s.heap.objs.size t 0->h'.objs.size=s.heap.objs.size+2->(∀ c o,s.heap.get? c=some o->h'.get? c=some o)->Q (.ref (s.heap.objs.size+1)) { s with heap:=h' }) :
  wpAny (model prog w) A (call (.type "enumerate") [.ref t]) Q E s:=by
 refine callType_new PySem.F.called_enumerate (by decide) (PySem.F.typeCall_enumerate_1 _) (PySem.F.newCall_enumerate_1 _) (fun obj=>PySem.F.args_object_init_2 obj _) PySem.F.entry_enumerate_new (aE0 t xs) ⟨ht,?_⟩
 have e:∀ (o:Obj) (k:Heap),(k.push o).objs.size=k.objs.size+1:=fun o k=>be2 ..
 have g0:((s.heap.push { cls:=.type "tuple_iterator",data:=.fields #[.ref t,.int 0 0] }).push { cls:=.type "enumerate",data:=.fields #[.none,.bool false,.ref s.heap.objs.size,rawInt 0,.none,.none] }).get? s.heap.objs.size=some { cls:=.type "tuple_iterator",data:=.fields #[.ref t,.int 0 0] }:=aU7 _ (aV8 _ rfl)
 have g1:((s.heap.push { cls:=.type "tuple_iterator",data:=.fields #[.ref t,.int 0 0] }).push { cls:=.type "enumerate",data:=.fields #[.none,.bool false,.ref s.heap.objs.size,rawInt 0,.none,.none] }).get? (s.heap.objs.size+1)=some { cls:=.type "enumerate",data:=.fields #[.none,.bool false,.ref s.heap.objs.size,rawInt 0,.none,.none] }:=by
  have:=aV8 (h:=s.heap.push { cls:=.type "tuple_iterator",data:=.fields #[.ref t,.int 0 0] }) (o:={ cls:=.type "enumerate",data:=.fields #[.none,.bool false,.ref s.heap.objs.size,rawInt 0,.none,.none] }) rfl
  rw [e] at this; exact this
 exact⟨⟨_,g1,rfl⟩,q _ g1 ⟨_,g0,rfl,rfl⟩ (by rw [e,e]) fun c o z=>aU7 _ (aU7 _ z)⟩
end
end Zp
namespace L2
open PySem PySem.Spec PyProof.Rows
def wJ (K:PySem.W.Frag) (a:Addr):It:=
  ⟨fun i H=>∃ xs x,aG K H a xs/\xs[i]? = some x,
   fun i H v H'=>∃ T x,H T=none/\v = .ref T/\H'=upd H T (.tup [.int i,x])/\∀ xs,aG K H a xs->xs[i]? = some x,
   fun i H=>∃ xs,aG K H a xs/\xs.length<=i⟩
structure aE2 (e it a:Addr) (i:Nat) (h:Heap):Prop where
 ee:∃ old,IsEnum h e it i old
 s1:h.IsTupleIter it a i
theorem aE3 {P:Program}{w:World}{K:PySem.W.Frag}{elts:List Expr}{k:Nat}{pos:Pos} (a e it:Addr) (d:e ≠ it) :
  gD P w K (.Tuple elts k pos) (wJ K a) [e,it] e (aE2 e it a):=by
 refine⟨by simp,fun i h st c hc=>?_,fun i h h' st kp=>?_,?_,?_,fun A i s Q E st q=>?_⟩
 ·simp only [aV5,aW3,aZ5] at hc
  obtain ⟨old,ee⟩:=st.ee
  obtain ⟨o1,f1,g1,d1⟩:=st.s1
  rcases hc with rfl | rfl
  ·exact⟨_,ee,fun v q=>by cases q⟩
  ·exact⟨_,f1,fun v q=>by rw [d1] at q; cases q⟩
 ·obtain ⟨old,ee⟩:=st.ee
  exact⟨⟨old,kp e (by simp) _ ee⟩,st.s1.at fun o z=>kp it (by simp) o z⟩
 ·intro X hP hw hK hc i pins s σ H E I hf st hg
  subst hP hw hK
  obtain ⟨xs,x,ha,hx⟩:=hg
  obtain ⟨us,ru,pu,lu⟩:=I.tuple ha
  obtain ⟨ux,eux,rux⟩:=ru.get hx
  obtain ⟨old,ee⟩:=st.ee
  refine Zp.aD7 ee st.s1 pu (by simpa using eux) d fun h' eo it' pr sz kp=>⟨_,rfl,?_⟩
  refine wpAny_letOwnedTupleGo_enum (s:={ s with heap:=h',toks:=s.toks+1 }) eo fun g zz sb=>?_
  have hzl:e < s.heap.objs.size:=aW0 ee
  have up:∀ c o,c ≠ e->c ≠ it->s.heap.get? c=some o->g.get? c=some o:=fun c o c1 c2 z=>sb.extBut c o c1 (kp c o c1 c2 z)
  have hT:H s.heap.objs.size=none:=I.hok.fresh (aV0 _)
  have prG:g.get? s.heap.objs.size=some { cls:=.type "tuple",data:=.seq #[.int i s.toks,ux] }:=sb.extBut _ _ (bc2 hzl) pr
  have fpn:∀ c u,H c=some u->c ∉ [e,it]:=fun c u z hm=>by rw [(hf c hm).1] at z; cases z
  have upH:∀ c o u,H c=some u->s.heap.get? c=some o->g.get? c=some o:=fun c o u q z=>by
   have:=fpn c u q
   simp only [aV5,aW3,aZ5,not_or] at this
   exact up c o this.1 this.2 z
  have ns:∀ m,s.heap.Ns X.env.locals m->g.Ns X.env.locals m:=fun m hm=>by
   obtain ⟨o,es,ep,e1,e2⟩:=hm
   exact⟨o,es,ep,up _ o (Ne.symm (hf e (by simp)).2.1) (Ne.symm (hf it (by simp)).2.1) e1,e2⟩
  have I2:a7 X pins σ (upd H s.heap.objs.size (.tup [.int i,x])) { s with heap:=g,toks:=s.toks+1 }:=by
   refine I.step (g':=s.gens) (d':=s.drawn) (ch:=[e,it]) (fun c hc'=>?_) (fun c o _ _ hc' z _=>?_) (fun c o _ _ hc' z _=>⟨o.slots,?_⟩) (fun c o _ z n=>?_) (fun c o hc' z=>⟨o,?_⟩)
    (fun c zs z=>by rw [aH (cA z hT)]; exact z) (fun c u zs z=>by rw [aH (cA z hT)]; exact z) (fun c ps z=>⟨#[],by rw [aH (cA z hT),z]; simp⟩) ns (fun c u z=>?_) I.bare
   ·exact⟨(hf c hc').2.2.2.1,(hf c hc').2.1,(hf c hc').2.2.2.2.1,(hf c hc').2.2.2.2.2⟩
   ·simp only [aV5,aW3,aZ5,not_or] at hc'
    exact up c o hc'.1 hc'.2 z
   ·simp only [aV5,aW3,aZ5,not_or] at hc'
    exact up c o hc'.1 hc'.2 z
   ·rw [aH (aY5 (aW0 z))]; exact n
   ·simp only [aV5,aW3,aZ5,not_or] at hc'
    exact up c o hc'.1 hc'.2 z
   ·by_cases hcT:c=s.heap.objs.size
    ·subst hcT
     rw [b8] at z; cases z
     exact⟨by show 2<=sizeLine; decide,[.int i s.toks,ux],.cons ⟨_,rfl⟩ (.cons rux .nil),⟨_,prG,rfl,_,rfl⟩⟩
    ·rw [aH hcT] at z
     refine (I.hok c u z).stay (fun c' o' hc2 q'=>?_) (fun c' q'=>by rw [aH (cA q' hT)]; exact q') fun c' zs q'=>by rw [aH (cA q' hT)]; exact q'
     rcases hc2 with rfl | hc2
     ·exact upH _ _ _ z q'
     ·exact upH _ _ _ hc2 q'
  refine⟨.ref s.heap.objs.size,_,I2,rfl,⟨_,x,hT,rfl,rfl,fun xs' ha'=>?_⟩,⟨⟨ux,by push_cast; exact zz⟩,it'.at fun o z=>sb.extBut _ o (Ne.symm d) z⟩,fun c hc'=>?_⟩
  ·rw [I.tuple_inj ha' ha]; exact hx
  ·obtain ⟨o,z⟩:∃ o,s.heap.get? c=some o:=by
    simp only [aV5,aW3,aZ5] at hc'
    obtain ⟨o1,f1,_⟩:=st.s1
    rcases hc' with rfl | rfl
    ·exact⟨_,ee⟩
    ·exact⟨_,f1⟩
   rw [aH (aY5 (aW0 z))]; exact (hf c hc').1
 ·intro X hP hw hK hc i pins s σ H E I hf st hg
  subst hP hw hK
  obtain ⟨xs,ha,hi⟩:=hg
  obtain ⟨us,ru,pu,lu⟩:=I.tuple ha
  obtain ⟨old,ee⟩:=st.ee
  have hh:X.A.handled=none:=I.ok.hd hc
  have e1:=ru.length
  refine Zp.aD8 hh ee st.s1 pu (by rw [Array.getElem?_eq_none]; simp only [aU8]; omega) fun g kp=>⟨rfl,?_⟩
  have fpn:∀ c u,H c=some u->c ∉ [e,it]:=fun c u z hm=>by rw [(hf c hm).1] at z; cases z
  have upH:∀ c o u,H c=some u->s.heap.get? c=some o->g.get? c=some o:=fun c o u q z=>by
   have:=fpn c u q
   simp only [aV5,aW3,aZ5,not_or] at this
   exact kp c o this.2 z
  have ns:∀ m,s.heap.Ns X.env.locals m->g.Ns X.env.locals m:=fun m hm=>by
   obtain ⟨o,es,ep,e1,e2⟩:=hm
   exact⟨o,es,ep,kp _ o (Ne.symm (hf it (by simp)).2.1) e1,e2⟩
  refine I.step (g':=s.gens) (d':=s.drawn) (ch:=[it]) (fun c hc'=>?_) (fun c o _ _ hc' z _=>?_) (fun c o _ _ hc' z _=>⟨o.slots,?_⟩) (fun c o _ z n=>n) (fun c o hc' z=>⟨o,?_⟩)
   (fun c zs z=>z) (fun c u zs z=>z) (fun c ps z=>⟨#[],by rw [z]; simp⟩) ns (fun c u z=>?_) I.bare
  ·have hm:c ∈ [e,it]:=aW6 _ hc'
   exact⟨(hf c hm).2.2.2.1,(hf c hm).2.1,(hf c hm).2.2.2.2.1,(hf c hm).2.2.2.2.2⟩
  ·exact kp c o (fun y=>hc' (by rw [y]; simp)) z
  ·exact kp c o (fun y=>hc' (by rw [y]; simp)) z
  ·exact kp c o (fun y=>hc' (by rw [y]; simp)) z
  ·refine (I.hok c u z).stay (fun c' o' hc2 q'=>?_) (fun _ q'=>q') fun _ _ q'=>q'
   rcases hc2 with rfl | hc2
   ·exact upH _ _ _ z q'
   ·exact upH _ _ _ hc2 q'
 ·obtain ⟨old,ee⟩:=st.ee
  exact wpAny_pyIter_enum ee q
section
variable {X : Cx}
def P3 (K:PySem.W.Frag) (ta:TA):TI:=fun σ H R=>ta σ H fun vs H1=>∃ a,vs = [.ref a]/\((∃ xs,aJ K H1 a xs/\R (wI K a) H1) ∨ (∃ xs,aG K H1 a xs/\R (wJ K a) H1))
theorem aE4 {elts:List Expr}{kt:Nat}{pt:Pos}{a:Expr}{ta:TA}{p pos:Pos} (hg:Gl X "enumerate") (hm:X.mg "enumerate" = none) (ha:PA X [a] ta) (hs:starEach [a] X.env = [(false,eval a X.env)]:=by rfl) :
  PI X (.Tuple elts kt pt) (.Call (.Name "enumerate" p) [a] [] pos) (P3 X.K ta):=by
 intro pins s σ H R I h
 refine Call_ (i5 I hg hm PyProof.Rows.boot_enumerate (aZ8 (aM (ha pos pins s σ H _ I h) fun us s1 ⟨vs,H1,I1,r1,q1⟩=>?_) (by rw [hs]; rfl) (by rfl)))
 obtain ⟨a',e,q⟩:=q1
 subst e
 have fresh:∀ k,H1 (s1.heap.objs.size+k)=none:=fun k=>I1.hok.fresh (bb1 _ _)
 cases r1 with
 | cons r rr=>
  cases rr
  cases r
  rcases q with ⟨xs,h1,q⟩ | ⟨xs,h1,q⟩
  ·obtain ⟨us,_,p1,_⟩:=I1.list h1
   refine call_enumerate_list p1.isList fun h' z s1' sz kp=>wpAny_pyIter_enum z ?_
   refine⟨s1.heap.objs.size+1,[s1.heap.objs.size+1,s1.heap.objs.size],_,_,H1,rfl,I1.kept (t':=s1.toks) kp,
    aD6 a' _ _ (Nat.succ_ne_self _),⟨⟨_,z⟩,s1'⟩,fun c hc=>?_,q⟩
   simp only [aV5,aW3,aZ5] at hc
   rcases hc with rfl | rfl
   ·exact I1.fpOk (bb1 _ _) (fresh 1)
   ·exact I1.fpOk (aV0 _) (fresh 0)
  ·obtain ⟨us,_,p1,_⟩:=I1.tuple h1
   refine Zp.aE1 p1 fun h' z s1' sz kp=>wpAny_pyIter_enum z ?_
   refine⟨s1.heap.objs.size+1,[s1.heap.objs.size+1,s1.heap.objs.size],_,_,H1,rfl,I1.kept (t':=s1.toks) kp,
    aE3 a' _ _ (Nat.succ_ne_self _),⟨⟨_,z⟩,s1'⟩,fun c hc=>?_,q⟩
   simp only [aV5,aW3,aZ5] at hc
   rcases hc with rfl | rfl
   ·exact I1.fpOk (bb1 _ _) (fresh 1)
   ·exact I1.fpOk (aV0 _) (fresh 0)
end
end L2
namespace Zp
open PySem PyProof.Rows
theorem aE5 (t b:Addr) (xs ys:Array Value) (n n2:Nat) (dd dd2:Option Addr) (sl sl2:Array (Option Value)) (hx:xs.isEmpty=true):Meets (Builtin.«tuple.__add__» ⟨[.ref t,.ref b],[]⟩)
  (fun _ R s=>s.heap.get? t=some { cls:=.type "tuple",dict:=dd,data:=.seq xs n,slots:=sl }/\s.heap.get? b=some { cls:=.type "tuple",dict:=dd2,data:=.seq ys n2,slots:=sl2 }/\R (.ok (.ret (.ref b))) s):=
 .of_wp fun prog w A R s h=>by
  obtain ⟨h1,h2,h⟩:=h
  have sub:isSubtype (Value.type "tuple") (Value.type "tuple")=pure true:=rfl
  wp_walk
  exact⟨_,rfl,h⟩
end Zp
namespace L2
open PySem PySem.Spec PyProof.Rows
section
variable {X : Cx}
def P4 (K:PySem.W.Frag):R2:=fun x y H Q=>∃ a b xs ys,x = .ref a/\y = .ref b/\aG K H a xs/\aG K H b ys/\xs.length+ys.length<=sizeLine/\
 (xs = []->Q (.ref b) H)/\(xs ≠ []->ys = []->Q (.ref a) H)/\(xs ≠ []->ys ≠ []->∀ p,H p=none->Q (.ref p) (upd H p (.tup (xs ++ ys))))
theorem aE6:cD X (binaryOp .Add) (P4 X.K):=by
 intro pins s σ H x y v u Q I rx ry h
 obtain ⟨a,b,xs,ys,ex,ey,ha,hb,hz,q0,q1,q2⟩:=h
 by_cases hx:xs = []
 ·subst ex ey
  cases rx
  cases ry
  obtain ⟨its,r1,p1,_⟩:=I.tuple ha
  obtain ⟨its2,r2,p2,_⟩:=I.tuple hb
  have hi:its = []:=r1.nil_iff.mpr hx
  obtain ⟨⟨cls,dd,data,sl⟩,ho,hc,n,hd⟩:=id p1
  obtain ⟨⟨cls2,dd2,data2,sl2⟩,ho2,hc2,n2,hd2⟩:=id p2
  simp only at hc hd hc2 hd2
  subst hc hd hc2 hd2
  exact concat_meets ⟨_,ho,rfl⟩ ⟨_,ho2,rfl⟩ noFill_tuple_add seq_tuple_add PySem.F.slot_tuple_add PySem.F.entry_tuple_add (PySem.F.args_tuple_add_2 _ _)
   (Zp.aE5 a b its.toArray its2.toArray n n2 dd dd2 sl sl2 (by simp [hi])) ⟨ho,ho2,⟨.ref b,H,I,rfl,q0 hx⟩⟩
 ·exact ai7 pins s σ H x y v u Q I rx ry ⟨a,b,xs,ys,ex,ey,ha,hb,hx,hz,q1 hx,q2 hx⟩
end
end L2
namespace PP
open PySem L2 PyProof.Rows
def jA (xs:List PV):List PV:=xs.mapIdx fun i x=>PV.tup [.int (i:Int),x]
theorem rC (xs:List PV):(jA xs).length=xs.length:=by unfold jA; rw [List.length_mapIdx]
theorem P5 {xs:List PV}{i:Nat}{x:PV} (h:xs[i]? = some x):(jA xs)[i]? = some (.tup [.int (i:Int),x]):=by
 unfold jA; rw [List.getElem?_mapIdx,h]; rfl
theorem P6 {xs:List PV}{i:Nat}{z:PV} (h:(jA xs)[i]? = some z):∃ x,xs[i]? = some x/\z = .tup [.int (i:Int),x]:=by
 unfold jA at h
 rw [List.getElem?_mapIdx] at h
 cases e:xs[i]? with
 | none=>rw [e] at h; cases h
 | some x=>rw [e] at h; exact⟨x,rfl,(aX6 h).symm⟩
def rD (te:aE):dW:=fun ρ Q=>te ρ fun x g=>∃ xs,(x = .lst xs ∨ x = .tup xs)/\(g = .rd->flat x=true)/\Q (jA xs) (kL g xs)
theorem aE7 {K:PySem.W.Frag}{H0:Hp}{W:Addr->Prop}{g:Bool}{H1:Hp}{a:Addr}{us:List V}{xs:List PV} (tw:∀ a,W a->∃ o,H1 a=some o/\fR o=true) (ha:∀ W' H',Ev W H1 W' H'->aJ K H' a us) (r:Reps K (Ms H0 W g) H1 us xs):lP K H0 W g H1 (wI K a) (jA xs):=by
 have lr:=r.length
 have ll:=rC xs
 refine⟨fun W' H' i e hi=>⟨us,us[i]'(by omega),ha W' H' e,by simp⟩,fun W' H' i v H2 e y hi=>?_,fun W' H' e=>⟨us,ha W' H' e,by omega⟩⟩
 obtain ⟨T,x,hT,rfl,rfl,y⟩:=y
 obtain ⟨z,hz,rz⟩:=r.get (y us (ha W' _ e))
 have sm:=bD hT (HO.tup [.int (i:Int),x])
 exact⟨sm,_,P5 hz,.tup b8 (.cons (.int _) (.cons ((rz.keep (e.keep tw)).same sm fun _ q=>q) .nil))⟩
theorem aE8 {K:PySem.W.Frag}{H0:Hp}{W:Addr->Prop}{g:Bool}{H1:Hp}{a:Addr}{us:List V}{xs:List PV} (tw:∀ a,W a->∃ o,H1 a=some o/\fR o=true) (ha:∀ W' H',Ev W H1 W' H'->aG K H' a us) (r:Reps K (Ms H0 W g) H1 us xs):lP K H0 W g H1 (wJ K a) (jA xs):=by
 have lr:=r.length
 have ll:=rC xs
 refine⟨fun W' H' i e hi=>⟨us,us[i]'(by omega),ha W' H' e,by simp⟩,fun W' H' i v H2 e y hi=>?_,fun W' H' e=>⟨us,ha W' H' e,by omega⟩⟩
 obtain ⟨T,x,hT,rfl,rfl,y⟩:=y
 obtain ⟨z,hz,rz⟩:=r.get (y us (ha W' _ e))
 have sm:=bD hT (HO.tup [.int (i:Int),x])
 exact⟨sm,_,P5 hz,.tup b8 (.cons (.int _) (.cons ((rz.keep (e.keep tw)).same sm fun _ q=>q) .nil))⟩
section
variable {X : Cx} {σ : L2.St} {H : Hp} {te : aE} {R : It → Hp → Prop}
theorem aE9 (h:LI X (rD te) σ H R):P3 X.K (jG (LE X te) kC) σ H R:=by
 obtain ⟨W,ρ,Q,px,q,k⟩:=h
 refine⟨W,ρ,_,px,q,?_⟩
 rintro v H1 x g s r ⟨xs,hx,hg,q⟩
 have px1:=px.mono s
 have tw:∀ a,W a->∃ o,H1 a=some o/\fR o=true:=fun a z=>(px1.wm a z).2
 rcases hx with rfl | rfl
 ·obtain ⟨a,us,rfl,m,h,r⟩:=r.sqL
  have wa : ¬ W a:=by
   cases g with
   | fr=>exact (px.new m).1
   | nw=>exact m.1
   | sh=>exact m
   | rd=>have:=hg rfl; unfold flat at this; cases this
  exact⟨a,rfl,.inl ⟨us,aJ.of h,k _ _ _ _ s (aE7 tw (fun W' H' e=>aJ.of (e _ _ h wa).1) (kM px (fun z=>by have:=hg z; unfold flat at this; cases this) r)) q⟩⟩
 ·obtain ⟨a,us,rfl,h,r⟩:=r.sqT
  refine⟨a,rfl,.inr ⟨us,aG.of h,k _ _ _ _ s (aE8 tw (fun W' H' e=>aG.of (e _ _ h fun z=>?_).1) (kM px (fun z=>by have:=hg z; unfold flat at this; exact this) r)) q⟩⟩
  obtain ⟨o,h',mu⟩:=tw _ z; rw [h] at h'; cases h'; cases mu
theorem P7 {elts:List Expr}{kt:Nat}{pt p2 pos:Pos}{a:Expr}{ta:aE} (hg:Gl X "enumerate") (hm:X.mg "enumerate" = none) (ha:QE X a ta) (hs:starEach [a] X.env = [(false,eval a X.env)]:=by rfl):QI X (.Tuple elts kt pt) (.Call (.Name "enumerate" p2) [a] [] pos) (rD ta):=
 o6 (aE4 hg hm (dJ ha eD hs) hs) fun _ _ _=>aE9
end
section
variable {X : Cx} {e : Expr} {te : aE} {pos p2 : Pos} {scope : Scope} {N : List Str} {fr : List (Option Nat)} {x y : Str} {tp xp yp : Pos} {kt : Nat} {iter elt : Expr} {ti : dW}
abbrev jW (x y:Str) (xp yp:Pos) (kt:Nat) (tp:Pos):Expr:=.Tuple [.Name x xp,.Name y yp] kt tp
theorem wK {ifs:List Expr}{tcs:bT} (hc:X.calm=true) (he:∀ (s:Shared) (H:Hp) (C:Addr) (fp:List Addr),QE (b6 X scope N s H C fp bC) elt te) (hi:∀ (s:Shared) (H:Hp) (C:Addr) (fp:List Addr),iW (b6 X scope N s H C fp bC) ifs (LT (b6 X scope N s H C fp bC) tcs))
  (hN:N.Nodup) (h0:N[0]? = some x) (h1:N[1]? = some y) (hl:∀ (s:Shared) (H:Hp) (C:Addr) (fp:List Addr),(b6 X scope N s H C fp bC).env.scope.names.lookup x=some .local) (hl2:∀ (s:Shared) (H:Hp) (C:Addr) (fp:List Addr),(b6 X scope N s H C fp bC).env.scope.names.lookup y=some .local) (s:Shared) (H:Hp) :
  kH X scope N (jW x y xp yp kt tp) ifs elt s H (i7 X.K 2 (dI (bP 0) (dI (bP 1) i6))) (LT (X.frm H) tcs) (LE (X.frm H) te):=
 ⟨fun C fp=>lB (X:=b6 X scope N s H C fp bC) hc (fZ (eB hN h0 (.inl (hl s H C fp)) (.inr (hl s H C fp))) (fZ (eB hN h1 (.inl (hl2 s H C fp)) (.inr (hl2 s H C fp))) lA)),fun C fp=>hi s H C fp,fun C fp=>he s H C fp⟩
theorem aF0 (hi:QI X (jW x y xp yp kt tp) iter ti) (he:∀ (s:Shared) (H:Hp) (C:Addr) (fp:List Addr),QE (b6 X scope N s H C fp bC) elt te)
  (hc:X.calm=true:=by rfl) (S:bS X scope N fr:=by exact bS.of rfl rfl) (hN:N.Nodup:=by decide +kernel) (h0:N[0]? = some x:=by rfl) (h1:N[1]? = some y:=by rfl) (hl:∀ (s:Shared) (H:Hp) (C:Addr) (fp:List Addr),(b6 X scope N s H C fp bC).env.scope.names.lookup x=some .local:=by intro _ _ _ _; rfl) (hl2:∀ (s:Shared) (H:Hp) (C:Addr) (fp:List Addr),(b6 X scope N s H C fp bC).env.scope.names.lookup y=some .local:=by intro _ _ _ _; rfl) (hf:fr[0]? = some none:=by rfl) (hf2:fr[1]? = some none:=by rfl)
  (hs:∀ x,foldedSetIterable iter X.env x=pure x:=by intro _; rfl):QE X (.ListComp elt [⟨jW x y xp yp kt tp,iter,[],0⟩] scope pos) (bU ti fr (gY 0 1) cT te):=
 bV (nI (gh:=fun _=>i7 X.K 2 (dI (bP 0) (dI (bP 1) i6))) (tch:=fun H=>LT (X.frm H) cT) (teh:=fun H=>LE (X.frm H) te) hc S hi (wK hc he (fun _ _ _ _=>o9) hN h0 h1 hl hl2) hs) fun _ _ _=>j4 (qE _ 0 1) (fun i e=>by rcases e with e | e <;> (subst e; assumption))
theorem aF1 {c:Expr}{tcs:bT} (hi:QI X (jW x y xp yp kt tp) iter ti) (ht:∀ (s:Shared) (H:Hp) (C:Addr) (fp:List Addr),QT (b6 X scope N s H C fp bC) c tcs) (he:∀ (s:Shared) (H:Hp) (C:Addr) (fp:List Addr),QE (b6 X scope N s H C fp bC) elt te)
  (hc:X.calm=true:=by rfl) (S:bS X scope N fr:=by exact bS.of rfl rfl) (hN:N.Nodup:=by decide +kernel) (h0:N[0]? = some x:=by rfl) (h1:N[1]? = some y:=by rfl) (hl:∀ (s:Shared) (H:Hp) (C:Addr) (fp:List Addr),(b6 X scope N s H C fp bC).env.scope.names.lookup x=some .local:=by intro _ _ _ _; rfl) (hl2:∀ (s:Shared) (H:Hp) (C:Addr) (fp:List Addr),(b6 X scope N s H C fp bC).env.scope.names.lookup y=some .local:=by intro _ _ _ _; rfl) (hf:fr[0]? = some none:=by rfl) (hf2:fr[1]? = some none:=by rfl)
  (hs:∀ x,foldedSetIterable iter X.env x=pure x:=by intro _; rfl):QE X (.ListComp elt [⟨jW x y xp yp kt tp,iter,[c],0⟩] scope pos) (bU ti fr (gY 0 1) tcs te):=
 bV (nI (gh:=fun _=>i7 X.K 2 (dI (bP 0) (dI (bP 1) i6))) (tch:=fun H=>LT (X.frm H) tcs) (teh:=fun H=>LE (X.frm H) te) hc S hi (wK hc he (fun s H C fp=>nG (ht s H C fp)) hN h0 h1 hl hl2) hs) fun _ _ _=>j4 (qE _ 0 1) (fun i e=>by rcases e with e | e <;> (subst e; assumption))
theorem aF2 {c:Expr}{tcs:bT}{i:Nat}{z:Str}{zp:Pos} (nd:X.N.Nodup) (hi:QI X (jW x y xp yp kt tp) iter ti) (ht:∀ (s:Shared) (H:Hp) (C:Addr) (fp:List Addr),QT (b6 X scope N s H C fp bC) c tcs) (he:∀ (s:Shared) (H:Hp) (C:Addr) (fp:List Addr),QE (b6 X scope N s H C fp bC) elt te)
  (hz:X.N[i]? = some z:=by rfl) (hzl:X.env.scope.names.lookup z=some .local:=by rfl) (hsw:swapsWith (.ListComp elt [⟨jW x y xp yp kt tp,iter,[c],0⟩] scope p2) (some (.Name z zp)) pos.line X.env=pure true:=by rfl)
  (hc:X.calm=true:=by rfl) (S:bS X scope N fr:=by exact bS.of rfl rfl) (hN:N.Nodup:=by decide +kernel) (h0:N[0]? = some x:=by rfl) (h1:N[1]? = some y:=by rfl) (hl:∀ (s:Shared) (H:Hp) (C:Addr) (fp:List Addr),(b6 X scope N s H C fp bC).env.scope.names.lookup x=some .local:=by intro _ _ _ _; rfl) (hl2:∀ (s:Shared) (H:Hp) (C:Addr) (fp:List Addr),(b6 X scope N s H C fp bC).env.scope.names.lookup y=some .local:=by intro _ _ _ _; rfl) (hf:fr[0]? = some none:=by rfl) (hf2:fr[1]? = some none:=by rfl)
  (hs:∀ x,foldedSetIterable iter X.env x=pure x:=by intro _; rfl):QS X (.Assign [.Name z zp] (.ListComp elt [⟨jW x y xp yp kt tp,iter,[c],0⟩] scope p2) pos) (b5 i (bU ti fr (gY 0 1) tcs te)):=
 cZ (nJ (gh:=fun _=>i7 X.K 2 (dI (bP 0) (dI (bP 1) i6))) (tch:=fun H=>LT (X.frm H) tcs) (teh:=fun H=>LE (X.frm H) te) hc S hi (wK hc he (fun s H C fp=>nG (ht s H C fp)) hN h0 h1 hl hl2) nd hz hzl hsw hs) fun D σ H h=>j4 (qE _ 0 1) (fun i e=>by rcases e with e | e <;> (subst e; assumption)) (nU h)
end
section
variable {X : Cx} {a b e o f : Expr} {ta tb te td tk tx : aE} {pos p2 apos cpos : Pos} {σ : L2.St} {H : Hp} {Q' : VK}
theorem aF3 {x:Str}{n:Int}{t:Nat} (hg:Gl X x) (hm:X.mg x=some (.int n t)) (hd:(x == ("__debug__" : Str))=false:=by decide):QE X (.Name x pos) (qC (.int n)):=
 bV (ab8 (v:=.int n) hg hm ⟨t,rfl⟩ hd) fun _ _ _=>nO fun _=>.int n
end
section
variable {X : Cx} {a b : Expr} {ta tb : aE} {pos : Pos}
def P8:PV->Tg->PV->Tg->PK->Prop:=fun x _ y _ Q=>∃ xs ys,x = .tup xs/\y = .tup ys/\flats xs=true/\flats ys=true/\xs.length+ys.length<=16000000/\Q (.tup (xs ++ ys)) .fr
abbrev oI (ta tb:aE):aE:=q2 P8 ta tb
theorem aF4:eG X P8 (P4 X.K):=by
 rintro W Hs H u v x y g g' Q Q' s n r1 r2 ⟨xs,ys,rfl,rfl,f1,f2,hl,q⟩ k
 obtain ⟨a,us,rfl,h1,q1⟩:=r1.sqT
 obtain ⟨b,ws,rfl,h2,q2⟩:=r2.sqT
 have l1:=q1.length
 have l2:=q2.length
 refine⟨a,b,us,ws,rfl,rfl,aG.of h1,aG.of h2,lim (by omega),fun z=>?_,fun _ z=>?_,fun _ _ p hp=>k _ _ _ .fr (bD hp _) (.tup b8 (((q1.flat f1).append (q2.flat f2)).same (bD hp _) fun _ z=>z)) q⟩
 ·obtain rfl:xs = []:=by cases xs with
   | nil=>rfl
   | cons _ _=>rw [z] at l1; cases l1
  exact k _ _ _ .fr (aD.refl _) (.tup h2 (q2.flat f2)) q
 ·obtain rfl:ys = []:=by cases ys with
   | nil=>rfl
   | cons _ _=>rw [z] at l2; cases l2
  rw [aY4] at q
  exact k _ _ _ .fr (aD.refl _) (.tup h1 (q1.flat f1)) q
theorem rE (ha:QE X a ta) (hb:QE X b tb):QE X (.BinOp a .Add b pos) (oI ta tb):=jR aE6 aF4 ha hb
end
end PP
namespace Core
open PySem L2 PP
section
variable (ws : List Int) (ls : List (Int × Int)) (os ns : List Int)
def bX:Nat->List Int
 | 0=>[]
 | k+1=>bX k ++ (os.find? (kin ws ls (ns ++ bX k))).toList
def fX (k:Nat):Option Int:=os.find? (kin ws ls (ns ++ bX ws ls os ns k))
def mD (k:Nat):Prop:=(∀ j < k,fX ws ls os ns j ≠ none)/\fX ws ls os ns k=none
end
section
variable {ws : List Int} {ls : List (Int × Int)} {os ns : List Int}
theorem aF5 {m n:Nat} (h:mD ws ls os ns m) (g:mD ws ls os ns n):m=n:=by
 rcases Nat.lt_trichotomy m n with z | z | z
 ·exact absurd h.2 (g.1 m z)
 ·exact z
 ·exact absurd g.2 (h.1 n z)
theorem wL {k:Nat}{h:Int} (e:fX ws ls os ns k=some h):bX ws ls os ns (k+1)=bX ws ls os ns k ++ [h]:=by
 show bX ws ls os ns k ++ (fX ws ls os ns k).toList=_
 rw [e]; rfl
theorem rF {S T:List Int}{h:Int} (hk:kin ws ls S h=true) (st:∀ x ∈ S,x ∈ T) (hn:h ∉ T):kin ws ls T h=true:=by
 unfold kin at hk ⊢
 rw [aW7] at hk ⊢
 refine⟨by rw [aW4 hn]; rfl,aW5 ?_⟩
 have h1:=bf8 hk.2
 have h2:((cN ls h).filter fun x=>decide (x ∈ S)).length<=((cN ls h).filter fun x=>decide (x ∈ T)).length:=by
  rw [<- List.countP_eq_length_filter,<- List.countP_eq_length_filter]
  exact List.countP_mono_left fun x _ hx=>aW5 (st x (bf8 hx))
 omega
def e8 (ws:List Int) (ls:List (Int × Int)) (T:List Int):Prop:=∀ h ∈ rng ws.length,kin ws ls T h=false
theorem P9 {T:List Int} (sh:e8 ws ls T) (st:∀ x ∈ ns,x ∈ T):∀ k,∀ x ∈ aZ ws ls ns k,x ∈ T
 | 0,x,hx=>st x hx
 | k+1,x,hx=>by
  have ih:=P9 sh st k
  rcases aX3.mp (show x ∈ aZ ws ls ns k ++ nextOf ws ls (aZ ws ls ns k) from hx) with hx | hx
  ·exact ih x hx
  ·have hx:=aZ6.mp hx
   by_cases e:x ∈ T
   ·exact e
   ·have:=rF hx.2 ih e
    rw [sh x hx.1] at this; cases this
theorem aF6 {k:Nat}{h:Int} (e:fX ws ls os ns k=some h):h ∈ os/\h ∉ ns ++ bX ws ls os ns k:=
 ⟨List.mem_of_find?_eq_some e,bd6 (oD (List.find?_some e))⟩
theorem wM (po:os.Perm (rng ws.length)) (hs:aW ws.length ns=true):∀ k,(ns ++ bX ws ls os ns k).Nodup/\∀ x ∈ ns ++ bX ws ls os ns k,x ∈ rng ws.length
 | 0=>by
  rw [show bX ws ls os ns 0 = [] from rfl,aY4]
  exact⟨(m8 (jV hs).1).imp fun h=>Int.ne_of_lt h,fun x hx=>iJ.mpr ((jV hs).2 x hx)⟩
 | k+1=>by
  obtain ⟨i1,i2⟩:=wM po hs k
  cases e:fX ws ls os ns k with
  | none=>
   have:bX ws ls os ns (k+1)=bX ws ls os ns k:=by
    show bX ws ls os ns k ++ (fX ws ls os ns k).toList=_
    rw [e]; exact aY4 _
   rw [this]; exact⟨i1,i2⟩
  | some h=>
   obtain ⟨n1,n2⟩:=aF6 e
   rw [wL e,<- bb9]
   refine⟨aY7.mpr ⟨i1,aY1 _ _,fun x hx y hy=>?_⟩,fun x hx=>?_⟩
   ·rw [aV6.mp hy]; intro z; subst z; exact n2 hx
   ·rcases aX3.mp hx with hx | hx
    ·exact i2 x hx
    ·rw [aV6.mp hx]; exact po.mem_iff.mp n1
theorem wN (po:os.Perm (rng ws.length)) (hs:aW ws.length ns=true) (k:Nat):ns.length+(bX ws ls os ns k).length<=ws.length:=by
 obtain ⟨i1,i2⟩:=wM (ls:=ls) po hs k
 have:=i1.length_le_of_subset i2
 rw [iI,aU9] at this
 exact this
theorem wP (hs:aW ws.length ns=true):∀ k,(aZ ws ls ns k).Nodup
 | 0=>(m8 (jV hs).1).imp fun h=>Int.ne_of_lt h
 | k+1=>by
  show (aZ ws ls ns k ++ nextOf ws ls (aZ ws ls ns k)).Nodup
  refine aY7.mpr ⟨wP hs k,(O5 ws.length).filter _,fun x hx y hy=>?_⟩
  intro z; subst z
  exact bd6 (oD (aZ6.mp hy).2) hx
end
def rG:bF:=fun xs Q=>∃ ws ls x os,xs = [bB ws ls,x]/\ws.length<=40/\bW x os/\os.Perm (rng ws.length)/\Q (.bl true)
def Q0:aK:=(bE (q2 (jP 2 false) (aC oH (a6 (a5 1) a9)) (wC (aC iK (a6 (a5 0) a9)))))
theorem Q2 (n:Nat):(rng n).Pairwise (· <= ·):=by
 unfold rng
 rw [bb8]
 exact List.pairwise_lt_range.imp fun h=>by omega
theorem aF7:cU Q0 ["web","numbers"] rG:=by
 rintro xs Q ⟨ws,ls,x,os,rfl,few,hx,po,q⟩
 have lo:=po.length_eq
 rw [iI] at lo
 refine⟨_,rfl,_,os,rfl,hx.seq,by omega,fun ms pm sm=>?_⟩
 obtain rfl:ms=rng ws.length:=oG (pm.trans po) sm (Q2 _)
 refine⟨_,rfl,ws,ls,rfl,_,rfl,by omega,by omega,?_⟩
 rw [O4]
 refine⟨.inr ⟨_,_,rfl,rfl⟩,G7 2 _ _,trivial,?_⟩
 show Q (.bl (c9 3 (.lst (intz (rng ws.length))) (.lst (intz (rng ((ws.length:Int).toNat))))))
 rw [show ((ws.length:Int).toNat)=ws.length from rfl,G6,aW5 rfl]
 exact q
def Q3:Option Int->PV
 | none=>.non
 | some h=>.int h
def oJ:bF:=fun xs Q=>∃ ws ls ps S x os,xs = [bB ws ls,.lst (fW ws.length ls),.dK ps,x]/\Wb ws ls/\DS ps S/\bW x os/\(∀ h ∈ os,h ∈ rng ws.length)/\Q (Q3 (os.find? (kin ws ls S)))
def Q4:aK:=(aI (dX (dG (a5 3)) (bG 4)
  (cC (aV (aC iN (a6 (a5 0) (a6 (a5 1) (a6 (a5 2) (a6 (a5 4) a9)))))) (gK 4) cF))
 (bE (qC .non)))
theorem aF8 {os:List Int}{p:Int->Bool}{i:Nat}{h:Int} (e:(os.take i).find? p=none) (hh:os[i]? = some h):(p h=true->os.find? p=some h)/\(p h=false->(os.take (i+1)).find? p=none):=by
 constructor
 ·intro hp
  have h1:os=os.take (i+1) ++ os.drop (i+1):=(List.take_append_drop _ _).symm
  rw [h1,List.find?_append,aX7,hh,List.find?_append,e]
  simp [hp]
 ·intro hp
  rw [aX7,hh,List.find?_append,e]
  simp [hp]
theorem aF9:cU Q4 ["web","around","burning","order","hearth"] oJ:=by
 rintro xs Q ⟨ws,ls,ps,S,x,os,rfl,wb,d,hx,inn,q⟩
 refine⟨_,rfl,_,hx.seq,kU hx,fun i ρ=>∃ y,ρ = [some (.sh (flat (bB ws ls)) (bB ws ls)),some (.sh (flat (.lst (fW ws.length ls))) (.lst (fW ws.length ls))),some (.sh (flat (.dK ps)) (.dK ps)),some (.sh (flat x) x),y]/\(os.take i).find? (kin ws ls S)=none,⟨none,rfl,rfl⟩,?_,?_⟩
 ·rintro i y ρ hy ⟨y0,rfl,fn⟩
  obtain ⟨h,rfl,hh⟩:=eU hy
  have hm:=iJ.mp (inn h (aW8 hh))
  have ft:=aF8 fn hh
  refine⟨_,rfl,_,rfl,_,rfl,_,rfl,ws,ls,ps,S,h,rfl,wb,d,hm.1,hm.2,_,rfl,?_⟩
  cases hk:kin ws ls S h with
  | true=>
   refine aY ⟨_,rfl,?_,?_⟩
   ·show Slot.nw (.sh (_ || true) _)
    rw [Bool.or_true]; trivial
   ·rw [ft.1 hk] at q; exact q
  | false=>exact aU ⟨some (.sh (_ || true) (.int h)),rfl,ft.2 hk⟩
 ·rintro ρ ⟨y,rfl,fn⟩
  rw [b4,aX9] at fn
  rw [fn] at q
  exact⟨trivial,q⟩
theorem kY {i:Nat}{h:Int}{g:Bool}{ρ:bJ}{Q:bJ->Prop} (q:Q (ρ.set i (some (.sh true (.int h))))):bG i (.int h) g ρ Q:=by
 show Q (ρ.set i (some (.sh (g || true) (.int h))))
 rw [Bool.or_true]; exact q
def aG0 (ns S:List Int):Int:=(ns.length:Int) - (((ns.filter fun x=>decide (x ∈ S)).length:Nat):Int)
def aG1 (ws:List Int) (ls:List (Int × Int)) (S:List Int) (h:Int):Bool:=decide (aG0 (cN ls h) S < ws.getD h.toNat 0)
def stay (ws:List Int) (ls:List (Int × Int)) (S:List Int):List Int:=S.filter (aG1 ws ls S)
end Core
namespace Raw
open PySem PySem.W PyProof.Rows
section
variable {prog : Program} {w : World} {A : Around} {E : Value → Shared → Prop} {s : Shared} {T : String} {r d : Addr} {n : Nat} {P : Nat → Value → Prop} {OK : Heap → Prop}
theorem aG2 {R:Result->Shared->Prop} (K:KdlSrc prog w T r d n P OK) (hh:A.handled=none) (hok:OK s.heap) (hn:n<=sizeLine)
  (hR:∀ h' tk acc c,(∀ b o,b ≠ s.heap.objs.size->(s.heap.push { cls:=.type "list",data:=.seq ([]:List Value).toArray }).get? b=some o->h'.get? b=some o)->h'.get? s.heap.objs.size=some { cls:=.type "list",dict:=none,data:=.seq acc c,slots:=#[] }->ItemsOf P acc n->R (.ok (.ret (.ref s.heap.objs.size))) { s with heap:=h',toks:=tk }) :
  codeAny (model prog w) A (.builtin "proto.collect" ⟨[.ref r],[]⟩) R s:=by
 have lt:=K.there _ hok
 refine codeAny_builtin PySem.F.entry_proto_collect ?_
 rw [Around.under_plainId PySem.F.plain_proto_collect _]
 show wpAny _ A.in1 (newList [] >>= fun l=>again (.builtin "list.__iadd__" ⟨[l,.ref r],[]⟩)) _ _ s
 refine aU6 (bb7 ?_)
 refine aV4 ⟨plainId_quiet PySem.F.plain_list_iadd _,codeAny_builtin PySem.F.entry_list_iadd ?_⟩
 rw [Around.under_plainId PySem.F.plain_list_iadd _]
 show wpAny _ A.in1 (Builtin.List.listExtendWith (.ref s.heap.objs.size) (.ref r) (.ref s.heap.objs.size)) _ _ _
 exact kdl_extend (s:={ s with heap:=s.heap.push { cls:=.type "list",data:=.seq ([]:List Value).toArray } }) (R:=R) K hh (K.keep _ _ hok fun b _ o e=>aU7 _ e) s.heap.objs.size (bc2 lt.1) (bc2 lt.2) _ 0 (aV8 _ rfl) hR hn
theorem aG3 {Q:List Value->Shared->Prop} (K:KdlSrc prog w T r d n P OK) (hh:A.handled=none) (hok:OK s.heap) (hn:n<=sizeLine)
  (hQ:∀ h' tk acc,(∀ b o,s.heap.get? b=some o->h'.get? b=some o)->s.heap.objs.size<=h'.objs.size->ItemsOf P acc n->Q acc.toList { s with heap:=h',toks:=tk }) :
  wpAny (model prog w) A (collect (.ref r)) Q E s:=by
 unfold collect
 refine aU6 (wpAny_runValue (aG2 (s:=s) K hh hok hn fun h' tk acc c kp at1 it=>?_))
 show wpAny _ A (load s.heap.objs.size >>= _) _ _ _
 refine aU6 (wpAny_load at1 ?_)
 exact aV4 (hQ h' tk acc (fun b o e=>kp b o (aY5 (aW0 e)) (aU7 _ e)) (ba4 (aW0 at1)) it)
theorem aG4 {Q:Value->Shared->Prop}{G:List Int->Prop} (K:KdlSrc prog w T r d n P OK) (hh:A.handled=none) (hok:OK s.heap) (hn:n < 64)
  (hI:∀ acc,ItemsOf P acc n->∃ ns,IntsAre acc.toList ns/\G ns)
  (h:∀ h' tk a (out:Array Value) (ns ns':List Int) e,(∀ b o,s.heap.get? b=some o->h'.get? b=some o)->s.heap.objs.size<=a->h'.get? a=some (seqObj "list" out e)->IntsAre out.toList ns'->G ns->ns'.Perm ns->ns'.Pairwise (· <= ·)->Q (.ref a) { s with heap:=h',toks:=tk }) :
  wpAny (model prog w) A (call (.builtin "sorted") [.ref r]) Q E s:=by
 have hsl:n<=sizeLine:=aY8 (ba4 hn) (by decide)
 refine Calls.call_function_entry kind_sorted plain_sorted entry_sorted (args_sorted1 _) ?_
 unfold Builtin.«sorted»
 refine aU6 (m:=checkCount "sorted" 1 1 _) (aV4 ?_)
 refine aU6 (aG3 (s:=s) K hh hok hsl fun h' tk acc kp hs it=>?_)
 obtain ⟨ns,hi,g⟩:=hI acc it
 have hz:acc.toList.length < 64:=by rw [be4,it.1]; exact hn
 refine aU6 (wpAny_newList ?_ (aY8 (ba4 hz) (by decide)))
 have hoL:(h'.push (seqObj "list" acc.toList.toArray 0)).get? h'.objs.size=some (seqObj "list" acc.toList.toArray 0):=aV8 _ rfl
 show wpAny _ _ _ _ _ { s with heap:=h'.push (seqObj "list" acc.toList.toArray 0),toks:=tk }
 refine aU6 (bd9 (ba9 slot_list_sort ⟨_,hoL,rfl⟩ entry_list_sort (list_sort_tree hoL hi hz fun out ns' a1 a2 a3=>⟨_,rfl,?_⟩) (args_list_sort _)))
 obtain ⟨e,he⟩:=sortedHeap_at (vs:=acc.toList) (out:=out) hoL
 refine aV4 ⟨_,rfl,h _ tk h'.objs.size out ns ns' e (fun b o hb=>?_) hs he a1 g a2 a3⟩
 have lt:=aW0 (kp b o hb)
 rw [sortedHeap_old (aY5 lt) (by rw [size_push']; exact Nat.lt_succ_of_lt lt)]
 exact aU7 _ (kp b o hb)
end
end Raw
namespace L2
open PySem PySem.Spec PyProof.Rows
section
variable {X : Cx}
theorem aG5 (hc:X.calm=true):cK X (.builtin "sorted") (fun xs H Q=>∃ a kvs ns,xs = [.ref a]/\H a=some (.dK kvs)/\kvs.map (·.1)=ns.map Sum.inl/\ns.length < 64/\∀ l (ms:List Int),H l=none->ms.Perm ns->ms.Pairwise (· <= ·)->Q (.ref l) (upd H l (.lst (ms.map V.int)))):=by
 intro pins s σ H xs us Q I r h
 obtain ⟨a,kvs,ns,rfl,ha,hk,h64,q⟩:=h
 obtain ⟨u,rfl,ru⟩:=eW r
 cases ru
 obtain ⟨es,ep,rd,far,vk,z⟩:=ao4 I ha
 have hl:=vk.length
 have hl2:=congrArg List.length hk
 rw [aV1,aV1] at hl hl2
 have hsz:es.toList.length=es.size:=be4
 have e1:(kvs.map fun p=>kV p.1)=ns.map V.int:=by
  have:(kvs.map fun p=>kV p.1)=(kvs.map (·.1)).map kV:=by rw [bc5]; rfl
  rw [this,hk,bc5]; rfl
 rw [e1] at vk
 refine Raw.aG4 (G:=fun ms=>ms=ns) (Raw.C1 far) (I.ok.hd hc) rd (by omega) (fun acc it=>⟨ns,by rw [C3 it]; exact kD vk,rfl⟩) fun h' tk l out ns1 ns' e kp hn he a1 g a2 a3=>?_
 subst g
 have hlen:ns'.length=ns1.length:=a2.length_eq
 refine⟨.ref l,upd H l (.lst (ns'.map V.int)),I.laid (t':=tk) kp hn ⟨?_,out.toList,e,nE a1,by simpa using he⟩,rfl,q _ ns' (I.hok.fresh hn) a2 a3⟩
 rw [aV1,hlen]
 exact ba4 (nF (by omega))
end
end L2
namespace PP
open PySem L2 PyProof.Rows
section
variable {X : Cx} {a b e : Expr} {ta tb te : aE} {tr : cL} {pos p2 : Pos}
def wQ:List PV->(PV->Prop)->Prop:=fun xs Q=>∃ (ps:List (aB × PV)) (ns:List Int),xs = [.dK ps]/\ps.map (·.1)=ns.map Sum.inl/\ns.length < 64/\∀ ms:List Int,ms.Perm ns->ms.Pairwise (· <= ·)->Q (.lst (intz ms))
theorem aG6:eQ X wQ (fun xs H Q=>∃ a kvs ns,xs = [.ref a]/\H a=some (.dK kvs)/\kvs.map (·.1)=ns.map Sum.inl/\ns.length < 64/\∀ l (ms:List Int),H l=none->ms.Perm ns->ms.Pairwise (· <= ·)->Q (.ref l) (upd H l (.lst (ms.map V.int)))):=by
 rintro H vs xs Q Q' r ⟨ps,ns,rfl,e,hl,q⟩ k
 obtain ⟨v,rfl,r1⟩:=r.one
 cases r1 with
 | @dK a kvs _ m h e2 r2=>
  exact⟨a,kvs,ns,rfl,h,e2.trans e,hl,fun l ms hl' p o=>k _ _ _ (bD hl' _) (.lst hl' b8 (Reps.intz ms)) (q ms p o)⟩
theorem aG7 (B:Bt X.mg) (hc:X.calm=true) (ha:QA X [e] tr) (hg:Gl X "sorted":=by rfl) (he:starEach [e] X.env=(false,eval e X.env) :: starEach [] X.env:=by rfl) (hpl:(backTo pos (starEach [] X.env)).any (·.1)=false:=by rfl):QE X (.Call (.Name "sorted" p2) [e] [] pos) (aC wQ tr):=
 jT (aG5 hc) aG6 hg B.sorted PyProof.Rows.boot_sorted ha (he:=he) (hpl:=hpl)
end
end PP
namespace Core
open PySem L2 PP
def gQ (k:Nat) (r:List Int):List (aB × PV):=r.map fun h=>((Sum.inl h:aB),PV.int (k:Int))
def jB (rs:List (List Int)):List (aB × PV):=(rs.mapIdx gQ).flatten
theorem aG8 (rs:List (List Int)) (r:List Int):jB (rs ++ [r])=jB rs ++ gQ rs.length r:=by
 unfold jB
 rw [List.mapIdx_append,List.flatten_append]
 simp
theorem Q5 (k:Nat) (r:List Int):(gQ k r).map (·.1)=r.map Sum.inl:=by
 unfold gQ; rw [bc5]; rfl
theorem Q6:∀ (rs:List (List Int)) (g:Nat->Nat),((rs.mapIdx fun i r=>gQ (g i) r).flatten).map (·.1)=rs.flatten.map (Sum.inl:Int->aB)
 | [],_=>rfl
 | r :: t,g=>by
  rw [List.mapIdx_cons,List.flatten_cons,List.flatten_cons,aX8,aX8,Q5,Q6 t fun i=>g (i+1)]
theorem Q7 (rs:List (List Int)):(jB rs).map (·.1)=rs.flatten.map (Sum.inl:Int->aB):=Q6 rs fun i=>i
theorem aG9 {ps:List (aB × PV)}{h:Int}{v:PV}{S:List Int} (e:ps.map (·.1)=S.map Sum.inl) (hn:h ∉ S):cE ps (Sum.inl h:aB) v=ps ++ [(Sum.inl h,v)]:=by
 unfold cE
 rw [if_neg]
 intro z
 rw [List.any_eq_true] at z
 obtain ⟨p,hp,hq⟩:=z
 have:p.1 ∈ ps.map (·.1):=bb4.mpr ⟨p,hp,rfl⟩
 rw [e,bf8 hq] at this
 obtain ⟨y,hy,e2⟩:=bb4.mp this
 exact hn (Sum.inl.inj e2 ▸ hy)
theorem aH0 {k:Nat}{r:List Int}{i:Nat}{n:Int} (h:r[i]? = some n):gQ k (r.take (i+1))=gQ k (r.take i) ++ [(Sum.inl n,PV.int (k:Int))]:=by
 unfold gQ
 rw [aX7,h,aX8]; rfl
theorem aH1 {xs:List PV}{w:Int} (h:0<=w):fE xs none (some w)=xs.take w.toNat:=by
 unfold fE
 rw [HT.ah6,List.drop_zero,Nat.sub_zero]
 have:HT.aS xs.length xs.length (some w)=min w.toNat xs.length:=by
  show (if w < 0 then (w+(xs.length:Int)).toNat else min w.toNat xs.length)=_
  rw [if_neg (by omega)]
 rw [this,<- List.take_take,aX9]
end Core
namespace L2
open PySem PySem.Spec PyProof.Rows
theorem Q8:∀ (n:Nat) (ns:List Int),n<=ns.length->preSum (fun i=>ns.getD i 0) n=(ns.take n).sum
 | 0,_,_=>by simp [preSum]
 | n+1,ns,h=>by
  show preSum (fun i=>ns.getD i 0) n+ns.getD n 0=_
  have h1:ns[n]? = some (ns[n]'(by omega)):=aV2 (by omega)
  have h2:ns.take (n+1)=ns.take n ++ [ns[n]'(by omega)]:=by rw [aX7,h1]; rfl
  have h3:ns.getD n 0=ns[n]'(by omega):=by rw [aW1,h1]; rfl
  rw [Q8 n ns (by omega),h2,h3,List.sum_append,List.sum_cons,List.sum_nil]
  omega
section
variable {X : Cx}
theorem aH2 (hc:X.calm=true):cK X (.builtin "sum") (fun xs H Q=>∃ (a:Addr) (ns:List Int),xs = [.ref a]/\(aJ X.K H a (ns.map V.int) ∨ aG X.K H a (ns.map V.int))/\Q (.int ns.sum) H):=by
 intro pins s σ H xs us Q I r h
 obtain ⟨a,ns,rfl,hq,q⟩:=h
 obtain ⟨u,rfl,ru⟩:=eW r
 cases ru
 have hh:X.A.in1.handled=none:=I.ok.hd hc
 have fin:∀ (its:List Value) (o:Obj) (wr:List Addr) (hw:∀ b ∈ wr,s.heap.objs.size<=b),aN (ns.map V.int) its->∀ s' t',Moved wr (fun a b=>b=a) { s with heap:=s.heap.push o } s'->
   ∃ x H',a7 X pins σ H' s'/\aR x (.int (preSum (fun i=>ns.getD i 0) its.toArray.size) t')/\Q x H':=fun its o wr hw rv s' t' hm=>by
  have hl:=rv.length
  rw [aV1] at hl
  have e:=Moved.eq_with hm
  have e2:preSum (fun i=>ns.getD i 0) its.toArray.size=ns.sum:=by rw [aU8,<- hl,Q8 _ _ (aV0 _),aX9]
  rw [e2,e]
  refine⟨.int ns.sum,H,I.kept (t':=s'.toks) (h':=s'.heap) fun b o' eb=>hm.heap b o' (fun z=>?_) (aU7 _ eb),⟨t',rfl⟩,q⟩
  exact absurd (aW0 eb) (Nat.not_lt.mpr (hw b z))
 have val:∀ (its:List Value),aN (ns.map V.int) its->∀ (i:Nat) (v:Value),its.toArray[i]? = some v->∃ t,v = .int (ns.getD i 0) t:=fun its rv i v hv=>by
  have hi:its[i]? = some v:=by simpa using hv
  have hl:=rv.length
  rw [aV1] at hl
  have hil:i < ns.length:=by rw [hl]; exact (aV3.mp hi).1
  obtain ⟨u,e1,e2⟩:=rv.get (i:=i) (x:=.int ns[i]) (by simp [hil])
  rw [hi] at e1; cases e1
  obtain ⟨t,rfl⟩:=e2
  exact⟨t,by rw [aW1,aV2 hil]; rfl⟩
 rcases hq with hq | hq
 ·obtain ⟨its,rv,p,hz⟩:=I.list hq
  have hlt:a < s.heap.objs.size:=by obtain ⟨o,e,_⟩:=p.isList; exact aW0 e
  refine call_sum_walkAnyS (wpAny_pyIter_list p.isList ?_)
  refine⟨s.heap.objs.size,_,_,_,_,_,_,fun i=>ns.getD i 0,rfl,(Walks.list hh s.heap.objs.size a (aY5 hlt) its.toArray).toS,⟨⟨_,aV8 _ rfl,rfl,rfl⟩,p.isList.push _⟩,?_,val its rv,fun s' t' hm=>fin its _ _ ?_ rv s' t' hm⟩
  ·intro b hb
   have hs:(s.heap.push { cls:=.type "list_iterator",data:=.fields #[.ref a,.int 0 0] }).objs.size=s.heap.objs.size+1:=size_push' _ _
   show b < (s.heap.push _).objs.size
   rw [size_push']
   rcases aV5.mp hb with rfl | hb
   ·exact Nat.lt_succ_self _
   ·rw [aV6.mp hb]; exact Nat.lt_succ_of_lt hlt
  ·intro b hb
   rw [aV6.mp hb]; exact aV0 _
 ·obtain ⟨its,rv,p,hz⟩:=I.tuple hq
  have hlt:a < s.heap.objs.size:=by obtain ⟨o,e,_⟩:=p; exact aW0 e
  refine call_sum_walkAnyS (be7 p ?_)
  refine⟨s.heap.objs.size,_,_,_,_,_,_,fun i=>ns.getD i 0,rfl,(Walks.tuple hh s.heap.objs.size a (aY5 hlt) its.toArray).toS,⟨⟨_,aV8 _ rfl,rfl,rfl⟩,?_⟩,?_,val its rv,fun s' t' hm=>fin its _ _ ?_ rv s' t' hm⟩
  ·obtain ⟨o,e,h⟩:=p
   exact⟨o,aU7 _ e,h⟩
  ·intro b hb
   show b < (s.heap.push _).objs.size
   rw [size_push']
   rcases aV5.mp hb with rfl | hb
   ·exact Nat.lt_succ_self _
   ·rw [aV6.mp hb]; exact Nat.lt_succ_of_lt hlt
  ·intro b hb
   rw [aV6.mp hb]; exact aV0 _
end
end L2
namespace PP
open PySem L2 PyProof.Rows
section
variable {X : Cx} {a b e : Expr} {ta tb te : aE} {tr : cL} {pos p2 : Pos}
def rH:List PV->(PV->Prop)->Prop:=fun xs Q=>∃ x ns,xs = [x]/\iD x=some (intz ns)/\Q (.int ns.sum)
theorem aH3:eQ X rH (fun xs H Q=>∃ (a:Addr) (ns:List Int),xs = [.ref a]/\(aJ X.K H a (ns.map V.int) ∨ aG X.K H a (ns.map V.int))/\Q (.int ns.sum) H):=by
 rintro H vs xs Q Q' r ⟨x,ns,rfl,e,q⟩ k
 obtain ⟨v,rfl,r1⟩:=r.one
 obtain ⟨a,us,rfl,hs,r2⟩:=r1.seq e
 obtain rfl:=r2.ofInts
 exact⟨a,ns,rfl,hs,k _ _ _ (aD.refl _) (.int _) q⟩
theorem Q9 (B:Bt X.mg) (hc:X.calm=true) (ha:QA X [e] tr) (hg:Gl X "sum":=by rfl) (he:starEach [e] X.env=(false,eval e X.env) :: starEach [] X.env:=by rfl) (hpl:(backTo pos (starEach [] X.env)).any (·.1)=false:=by rfl):QE X (.Call (.Name "sum" p2) [e] [] pos) (aC rH tr):=
 jT (aH2 hc) aH3 hg B.sum PyProof.Rows.boot_sum ha (he:=he) (hpl:=hpl)
end
end PP
namespace Core
open PySem L2 PP
theorem uB {ls:List (Int × Int)}{wts:List Int} (e:wts.length=ls.length):(ls.zip wts).map (·.2)=wts:=by
 rw [List.map_snd_zip]; omega
theorem aH4 (n:Nat):(rng n).Pairwise (· < ·):=by
 unfold rng
 rw [bb8]
 exact (List.pairwise_lt_range (n:=n)).imp fun h=>by omega
section
variable {ws : List Int} {ls : List (Int × Int)} {ns wts : List Int} {m : Nat}
def loose (ls:List (Int × Int)) (wts ns:List Int):List ((Int × Int) × Int):=(ls.zip wts).filter fun z=>!(decide (z.1.1 ∈ ns) && decide (z.1.2 ∈ ns))
end
end Core
set_option maxHeartbeats 1000000
set_option maxHeartbeats 1000000
set_option maxHeartbeats 1000000
set_option maxHeartbeats 1000000
namespace PP
open PySem L2 PyProof.Rows
abbrev dB:=(Str->Prop)->bF
def EX (K:PySem.W.Frag) (H0:Hp) (Ep:Str->Prop):XK:=fun c d H'=>d=none/\aD H0 H'/\∃ n C,c = .ref C/\PySem.W.nsIn K mainGlobals n=some (some (.ref C))/\Ep n
def R3 (K:PySem.W.Frag) (p:dB):Sp:=fun vs H Q E=>∃ xs Qp Ep,Reps K (fun _=>True) H vs xs/\p Ep xs Qp/\(∀ v H' x,aD H H'->aF K (fun a=>H a=none) H' v x->Qp x->Q v H')/\
 ∀ n C H',aD H H'->PySem.W.nsIn K mainGlobals n=some (some (.ref C))->Ep n->E (.ref C) none H'
structure b9 (P:Program) (w:World) (K:PySem.W.Frag) (mg:Str->Option Value) (base:Heap) (k:Nat) (x:Str) (ps:List Str) (p:dB):Prop where
 ex:∃ f fd,cR P w K mg base (eM P w) k f fd ps (R3 K p)/\i8 K fd ps []/\PySem.W.keepIn K (.ref f)=true/\mg x=some (.ref f)
section
variable {X : Cx} {σ : L2.St} {H : Hp} {D : cJ} {tr : cL} {Q' : VK} {a b c e : Expr} {es : List Expr} {pos p2 cp np hp : Pos} {t : aK} {te : aE} {tc : bT}
def eV (Ep:Str->Prop) (p:dB) (t:cL):aE:=aC (p Ep) t
theorem R4 {p:dB}{Ep:Str->Prop} (h:LE X (eV Ep p tr) σ H Q'):t7 (R3 X.K p) [] (EX X.K X.H₀ Ep) (LA X tr) σ H Q':=by
 obtain ⟨W,ρ,Q,px,q,k⟩:=h
 refine⟨W,ρ,_,px,q,fun vs H1 xs s1 r1 q1=>⟨_,_,Ep,by rw [aY4]; exact r1.any,q1,fun v H' x s2 r2 q2=>k v H' x .fr (s1.trans s2) (r2.same (aD.refl _) fun _ z=>s1.free z) q2,fun n C H' s2 z1 z2=>⟨rfl,(px.same.trans s1).trans s2,n,C,rfl,z1,z2⟩⟩⟩
theorem fY {Ep:Str->Prop}{k j:Nat}{x:Str}{ps:List Str}{p:dB} (hX:m7 X (EX X.K X.H₀ Ep)) (d:b9 X.prog X.w X.K X.mg X.base k x ps p) (hr:c6 j X.A) (ha:QA X (e :: es) tr) (hkj:k<=j:=by decide) (hg:Gl X x:=by rfl) (hdb:(x == ("__debug__" : Str))=false:=by decide)
  (he:starEach (e :: es) X.env=(false,eval e X.env) :: starEach es X.env:=by rfl) (hpl:(backTo pos (starEach es X.env)).any (·.1)=false:=by rfl):QE X (.Call (.Name x p2) (e :: es) [] pos) (eV Ep p tr):=by
 obtain ⟨f,fd,F,b,kp,m⟩:=d.ex
 exact bV (p6 F (hr.mono hkj) hg m kp b .nil hX.pass ha hdb he hpl) fun _ _ _=>R4
theorem jX {k j:Nat}{x:Str}{ps:List Str}{p:dB} (d:b9 X.prog X.w X.K X.mg X.base k x ps p) (hr:c6 j X.A) (ha:QA X (e :: es) tr) (hkj:k<=j:=by decide) (hg:Gl X x:=by rfl) (hdb:(x == ("__debug__" : Str))=false:=by decide)
  (he:starEach (e :: es) X.env=(false,eval e X.env) :: starEach es X.env:=by rfl) (hpl:(backTo pos (starEach es X.env)).any (·.1)=false:=by rfl):QE X (.Call (.Name x p2) (e :: es) [] pos) (aC (p fun _=>False) tr):=by
 obtain ⟨f,fd,F,b,kp,m⟩:=d.ex
 refine bV (p6 F (E:=EX X.K X.H₀ fun _=>False) (hr.mono hkj) hg m kp b .nil (fun _ _ _ _ _ _ _ h=>?_) ha hdb he hpl) fun _ _ _ h=>R4 (Ep:=fun _=>False) h
 obtain ⟨_,_,_,_,_,_,_,_,_,_,_,_,z⟩:=h
 exact z.elim
def kZ (Ep:Str->Prop) (n:Str) (t:cL):aK:=fun _ ρ=>t ρ fun xs=>xs.length<=1000/\Ep n
theorem aH5 {Ep:Str->Prop}{n:Str}{C:Addr} (hn:PySem.W.nsIn X.K mainGlobals n=some (some (.ref C))) (h:LS X (kZ Ep n tr) D σ H):K7 (EX X.K X.H₀ Ep) C (LA X tr) D σ H:=by
 obtain ⟨W,ρ,D',px,q,k⟩:=h
 exact⟨W,ρ,_,px,q,fun vs H1 xs s1 r z=>⟨by rw [r.length]; exact qA z.1,rfl,px.same.trans s1,n,C,rfl,hn,z.2⟩⟩
structure Xc (K:PySem.W.Frag) (mg:Str->Option Value) (base:Heap) (n:Str):Prop where
 ex:∃ C B newId initId bm,OwnCls n C bm newId mg base/\ExcBaseFacts B newId initId bm/\PySem.W.nsIn K mainGlobals n=some (some (.ref C))
theorem oK {Ep:Str->Prop}{n:Str} (hX:m7 X (EX X.K X.H₀ Ep)) (x:Xc X.K X.mg X.base n) (ha:QA X (e :: es) tr) (hc:X.calm=true:=by rfl) (hg:Gl X n:=by rfl) (hd:(n == ("__debug__" : Str))=false:=by decide)
  (he:starEach (e :: es) X.env=(false,eval e X.env) :: starEach es X.env:=by rfl) (hpl:(backTo cp (starEach es X.env)).any (·.1)=false:=by rfl):QS X (.Raise (some (.Call (.Name n np) (e :: es) [] cp)) none pos) (kZ Ep n tr):=by
 obtain ⟨C,B,newId,initId,bm,O,FB,hn⟩:=x.ex
 exact cZ (ay3 hX hc O FB ha hg hd he hpl) fun _ _ _=>aH5 hn
def pA:V->Value
 | .ref a=>.ref a
 | .ty n=>.type n
 | _=>.none
end
structure oM (K:PySem.W.Frag) (C:Addr):Prop where
 cls:PySem.W.isClsIn K C=true
 ty:PySem.W.typeIn K (.ref C)=some (.type "type")
 ga:PySem.W.findIn K (.ref C) "__getattribute__" = some (some (.builtin "BaseException.__getattribute__"))
 gt:PySem.W.findIn K (.ref C) "__getattr__" = some none
 fc:PySem.W.findIn K (.ref C) "__class__" = some (some (.builtin "object.__class__"))
 fg:PySem.W.specialIn K (.builtin "object.__class__") "__get__" = some (some (.builtin "getset_descriptor.__get__"))
 ft:PySem.W.takesIn K (.builtin "object.__class__")=some true
 ob:PySem.W.mroIn K C (.type "object")=some true
 be:PySem.W.mroIn K C (.type "BaseException")=some true
theorem rJ {K:PySem.W.Frag}{h₀:Heap}{mg:Str->Option Value}{x:Str}{C:Addr}{bmB:List Value}{newId:String} (X:K.In h₀) (m:mg x=some (.ref C)) (q:PySem.W.excIn K C bmB newId=true):OwnCls x C bmB newId mg h₀:=by
 refine⟨m,?_⟩
 unfold PySem.W.excIn at q
 split at q
 case h_2=>cases q
 rename_i dd cd sl ho
 split at q
 case h_2=>cases q
 rename_i C' bm k0 k1 k2 k3 n k5 hm hs
 simp only [aW7,beq_iff_eq,Bool.not_eq_true'] at q
 obtain ⟨⟨⟨⟨⟨rfl,rfl⟩,dl⟩,ht⟩,hok⟩,hni⟩:=q
 obtain ⟨nm,bs,mro,ns,qn,hd,sn,sub,ab,col,del⟩:=cd
 dsimp only at hm dl hok hni
 subst hm dl
 obtain rfl:sl = #[k0,k1,k2,k3,some (.builtin n),k5]:=by
  obtain ⟨l⟩:=sl
  exact congrArg Array.mk hs
 exact⟨bm,ns,nm,qn,bs,hd,sn,sub,ab,col,dd,k0,k1,k2,k3,k5,_,X _ _ ho,.of_isNs (PySem.W.isNs_of_in X hok),PySem.W.nsMap_none_of_in X hok hni,PySem.W.tail_of_in X ht⟩
theorem b9.of {P:Program}{w:World}{K:PySem.W.Frag}{mg:Str->Option Value}{base:Heap}{k:Nat}{x:Str}{ps N:List Str}{p:dB}{st:Stmt}{f:Addr}{fd:FuncData} (F:eF K x x st f fd) (m:mg x=some (.ref f)) (S:FnScope N ps (aQ st))
  (hb:∀ (kV doc pm:Value) (an:Option Addr) (cdv ct:Value) (us:List Value),us.length=ps.length->bindArgs (PySem.W.fnOf x x (iA st) (dN st) (aQ st) .none kV doc pm an cdv ct) ⟨us,[]⟩=pure (ps.zip us))
  (t:(Str->Prop)->aK) (len:∀ Ep xs Q,p Ep xs Q->xs.length=ps.length) (rd:∀ Ep xs Q,p Ep xs Q->t Ep { nx:=fun _=>Q .non,rt:=Q } (eJ N xs))
  (body:∀ (cdv:Value) (A:Around) (outer:List Env) (s:Shared) (H:Hp) (E:XK) (Ep:Str->Prop),c6 k (A.deeper (envOfC x (aQ st) s.heap.objs.size f cdv))->m7 (cS (eM P w) P w K mg base N x (aQ st) f cdv A outer s H E) (EX K H Ep)->
   eR (cS (eM P w) P w K mg base N x (aQ st) f cdv A outer s H E) (dN st) (t Ep)):b9 P w K mg base (k+1) x ps p:=by
 refine⟨f,fd,F.okX S (fun vs H Q E h=>?_) (fun cdv A outer s H vs Q E hr h=>?_),F.binds hb,F.kp,m⟩
 ·obtain ⟨xs,Qp,Ep,r,q,_⟩:=h
  rw [r.length]; exact len Ep xs Qp q
 ·obtain ⟨xs,Qp,Ep,r,q,k,ke⟩:=h
  have ht:=body cdv A outer s H E Ep hr (ay2 fun c d H' z=>?_)
  ·refine⟨_,ht,fun _=>False,eJ N xs,_,qR r,rd Ep xs Qp q,?_,?_,?_,?_⟩
   ·exact fun W' σ' H' ρ' e px q=>k _ _ _ px.same .non q
   ·exact fun v H' x s r q=>k _ _ _ s r q
   ·exact fun W' σ' H' ρ' e px q=>q
   ·exact fun W' σ' H' ρ' e px q=>q
  ·obtain ⟨rfl,s1,n,C,rfl,z1,z2⟩:=z
   exact ke n C H' s1 z1 z2
end PP
namespace Core
open PySem L2 PP
abbrev gS (t:(Str->Prop)->aK) (N:List Str) (p:dB):Prop:=∀ Ep xs Q,p Ep xs Q->t Ep { nx:=fun _=>Q .non,rt:=Q } (eJ N xs)
def jY:dB:=fun Ep xs Q=>∃ ws ls x ns,xs = [bB ws ls,x]/\bW x ns/\ns.length<=1000/\(aW ws.length ns=true->Q (.tup (intz ns)))/\(aW ws.length ns=false->Ep "BadSet")
def R5 (Ep:Str->Prop):aK:=(aI (cC (iC (aV (aC qW (a6 (a5 0) (a6 (a5 1) a9))))) (kZ Ep "BadSet" (a6 (qC (.str "a set is of rising hearths of the web")) a9)) cF)
 (bE (aC eL (a6 (a5 1) a9))))
theorem aH6:gS R5 ["web","hearths"] jY:=by
 rintro Ep xs Q ⟨ws,ls,x,ns,rfl,hx,hl,q1,q2⟩
 refine⟨_,rfl,_,rfl,ws,ls,x,ns,rfl,hx,hl,_,rfl,?_⟩
 cases h:aW ws.length ns with
 | true=>exact aU ⟨_,rfl,⟨_,_,rfl,hx.seqT,c8 _,trivial,q1 h⟩,hx.noscr⟩
 | false=>exact aY ⟨by decide,q2 h⟩
theorem aH7 (ns:List Int) {k:Int} (h:0<=k):fE (intz ns) none (some k)=intz (ns.take k.toNat):=by
 rw [aH1 h]
 exact (List.map_take).symm
end Core
namespace PP
open PySem L2
mutual
theorem aF.thaw {K:PySem.W.Frag}{M M':Addr->Prop}{H:Hp}{a:Addr}{o:Obj}{kvs:List (List aB × V)}{u:HO} (h:H a=some (.frz o (.dT kvs))):∀ {v:V}{x:PV},flat x=true->aF K M H v x->aF K M' (upd H a u) v x
 | _,_,_,.non=>.non
 | _,_,_,.bl b=>.bl b
 | _,_,_,.int i=>.int i
 | _,_,_,.str x=>.str x
 | _,_,f,.tup e r=>.tup (by rw [aH (fun z=>by rw [z,h] at e; cases e)]; exact e) (Reps.thaw h (by unfold PP.flat at f; exact f) r)
 | _,_,f,.lst m e r=>by unfold PP.flat at f; cases f
 | _,_,f,.dK m e q r=>by unfold PP.flat at f; cases f
 | _,_,f,.dT m e q r=>by unfold PP.flat at f; cases f
 | _,_,_,.scr e=>.scr (e.elim (fun ⟨o',e'⟩=>.inl ⟨o',by rw [aH (fun z=>by rw [z,h] at e'; cases e')]; exact e'⟩) .inr)
 | _,_,f,.kt e r=>.kt e (Reps.thaw h (by unfold PP.flat at f; exact f) r)
 | _,_,_,.exc e n c=>.exc (by rw [aH (fun z=>by rw [z,h] at e; cases e)]; exact e) n c
theorem Reps.thaw {K:PySem.W.Frag}{M M':Addr->Prop}{H:Hp}{a:Addr}{o:Obj}{kvs:List (List aB × V)}{u:HO} (h:H a=some (.frz o (.dT kvs))):∀ {vs:List V}{xs:List PV},flats xs=true->Reps K M H vs xs->Reps K M' (upd H a u) vs xs
 | _,_,_,.nil=>.nil
 | _,_,f,.cons r t=>by
  unfold PP.flats at f
  rw [aW7] at f
  exact .cons (aF.thaw h f.1 r) (Reps.thaw h f.2 t)
end
theorem Reps.keys {K:PySem.W.Frag}{M:Addr->Prop}{H:Hp}:∀ (k:List aB),Reps K M H (k.map kV) (k.map kP)
 | []=>.nil
 | .inl i :: r=>.cons (.int i) (Reps.keys r)
 | .inr x :: r=>.cons (.str x) (Reps.keys r)
theorem R6 {α β:Type}{F:α->β->Prop}:∀ {l:List α}{m:List β}{i:Nat}{x:α},Paired F l m->l[i]? = some x->∃ y,m[i]? = some y/\F x y
 | _,_,_,_,.nil,e=>by simp at e
 | _,_,0,_,.cons r _,e=>by simp at e; subst e; exact⟨_,rfl,r⟩
 | _,_,i+1,x,.cons _ t,e=>by
  rw [aY2] at e
  obtain ⟨y,h1,h2⟩:=R6 t e
  exact⟨y,by rw [aY2]; exact h1,h2⟩
theorem R7:∀ {xs:List PV}{y:PV},flats xs=true->flat y=true->flats (xs ++ [y])=true
 | [],y,_,f=>by show (flat y && flats [])=true; rw [f]; rfl
 | x :: r,y,h,f=>by
  unfold flats at h
  rw [aW7] at h
  show (flat x && flats (r ++ [y]))=true
  rw [h.1,R7 h.2 f]; rfl
theorem aH8 {K:PySem.W.Frag}{H0:Hp}{W:Addr->Prop}{σ:St}{ρ:bJ}{H1 H':Hp}{D a:Addr}{o:Obj}{kvs:List (List aB × V)}{acc:List V}{fr:List (Option Nat)} (px:PX K H0 W σ ρ H1) (ha:H1 a=some (.dT kvs)) (hD:upd H1 a (.frz o (.dT kvs)) D=none) (s:aD (upd H1 a (.frz o (.dT kvs))) H') (hl:H' D=some (.lst acc))
  (fl:∀ m,some m ∈ fS fr ρ->flat m.val=true):PX K (upd H1 a (.frz o (.dT kvs))) (gL D) (dO fr σ) (fS fr ρ) H':=by
 refine⟨by unfold dO fS; rw [aV1,aV1],s,fun b z=>by cases z; exact⟨hD,_,hl,rfl⟩,fun i m h=>?_,fun i j x y b h1=>?_⟩
 ·have fm:=fl m (aW8 h)
  unfold fS at h
  rw [aV7] at h
  cases ef:fr[i]? with
  | none=>rw [ef] at h; cases h
  | some o2=>
   rw [ef] at h
   cases o2 with
   | none=>cases h
   | some j=>
    have h:some ((ρ[j]?).join.map fun m=>Slot.sh false m.val)=some (some m):=h
    cases er:ρ[j]? with
    | none=>rw [er] at h; cases h
    | some o3=>
     rw [er] at h
     cases o3 with
     | none=>cases h
     | some m0=>
      cases h
      obtain ⟨v,ev,r⟩:=px.sl j m0 er
      refine⟨v,?_,?_⟩
      ·unfold dO
       rw [aV7,ef]
       show some ((σ[j]?).join)=_
       rw [ev]; rfl
      ·have r':aF K (fun _=>False) H1 v m0.val:=(pX (Hs:=H1) r).flat fm
       refine r'.keep ⟨fun _ _ z=>z.elim,fun _ _ z=>z.elim,fun _ _ z=>z.elim,fun b _ e=>s _ _ ?_,fun b _ _ e=>s _ _ ?_⟩
       ·rw [aH (fun z=>by rw [z,ha] at e; cases e)]; exact e
       ·rw [aH (fun z=>by rw [z,ha] at e; cases e)]; exact e
 ·unfold fS at h1
  rw [aV7] at h1
  cases ef:fr[i]? with
  | none=>rw [ef] at h1; cases h1
  | some o2=>
   rw [ef] at h1
   cases o2 with
   | none=>cases h1
   | some j=>
    have h1:some ((ρ[j]?).join.map fun m=>Slot.sh false m.val)=some (some (Slot.own x)):=h1
    cases er:ρ[j]? with
    | none=>rw [er] at h1; cases h1
    | some o3=>
     rw [er] at h1
     cases o3 with
     | none=>cases h1
     | some m0=>cases h1
section
variable {X : Cx} {σ : St} {H : Hp} {Q' : VK}
def rK (tl:aE) (fr:List (Option Nat)) (p:iE) (tc:bT) (te:aE):aE:=fun ρ Q=>tl ρ fun x _=>∃ ps:List (List aB × PV),x = .dT ps/\ps.length<=16000000/\(∀ m,some m ∈ fS fr ρ->flat m.val=true)/\∃ I:Nat->List PV->Prop,I 0 []/\
 (∀ i k acc,(ps.map (·.1))[i]? = some k->I i acc->p (.tup (k.map kP)) false (fS fr ρ) fun ρ2=>tc ρ2 fun b=>if b=true then te ρ2 fun y gy=>(Nw gy y/\flat y=true)/\I (i+1) (acc ++ [y]) else I (i+1) acc)/\∀ acc,I ps.length acc->Q (.lst acc) .fr
theorem aH9 {tl:aE}{fr:List (Option Nat)}{p:iE}{g:TG}{tc:bT}{te:aE}{own:Nat->Prop} (hg:lQ X.K own p g) (ho:∀ i,own i->fr[i]? = some none) (h:LE X (rK tl fr p tc te) σ H Q') :
  L0 X (pN (K9 (LE X tl)) fr (fun _=>g) (fun H1=>LT (X.frm H1) tc) (fun H1=>LE (X.frm H1) te)) σ H Q':=by
 obtain ⟨W,ρ,Q,px,q,k⟩:=h
 refine⟨W,ρ,_,px,q,?_⟩
 rintro v H1 x g0 s r ⟨ps,rfl,hl,fl,I,i0,turn,fin⟩
 cases r with
 | @dT a kvs _ m ha ek rv=>
 refine⟨a,kvs,rfl,ha,fun o ys pk D hD=>?_⟩
 have px1:=px.mono s
 have lk:ys.length=ps.length:=by
  have:=pk.length
  rw [aV1] at this
  rw [this]; exact nZ ek
 have hDa:D ≠ a:=fun z=>by rw [z,b8] at hD; cases hD
 have hD1:H1 D=none:=by rw [aH hDa] at hD; exact hD
 have nofr:∀ o' v',X.H₀ a ≠ some (.frz o' v'):=fun o' v' e=>by have:=px1.same _ _ e; rw [ha] at this; cases this
 refine⟨fun i m acc H'=>m=ps.length - i/\i<=ps.length/\aD (upd H1 a (.frz o (.dT kvs))) H'/\H' D=some (.lst acc)/\∃ zs,Reps X.K (fun _=>False) H' acc zs/\flats zs=true/\zs.length<=i/\I i zs,⟨ps.length,by omega,aZ2 _,bD hD _,b8,[],.nil,rfl,aV0 _,i0⟩,?_⟩
 rintro i m acc H' ⟨rfl,hi,sm,hl',zs,rz,fz,hz,iz⟩
 refine⟨hl',?_⟩
 have fro:H' a=some (.frz o (.dT kvs)):=sm _ _ b8
 by_cases hlt:i < ps.length
 ·refine .inr ⟨⟨⟨_,fro⟩,by omega⟩,fun v2 H2 y=>?_⟩
  obtain ⟨rfl,hy⟩:=y
  obtain ⟨key,hk,q2,rfl,hq2⟩:=R6 pk hy
  rw [ek] at hk
  have rx:aF X.K (Ms (upd H1 a (.frz o (.dT kvs))) (gL D) false) H2 (.ref q2) (.tup (key.map kP)):=.tup (sm _ _ (by rw [aH (fun z=>by rw [z,ha] at hq2; cases hq2)]; exact hq2)) (Reps.keys key)
  have pxb:=aH8 (fr:=fr) px1 ha hD sm hl' fl
  refine hg (upd H1 a (.frz o (.dT kvs))) (gL D) _ _ H2 _ _ false _ _ pxb rx (turn i key zs hk iz) fun σ2 ρ2 px2 hown hlen q2=>⟨⟨hlen.symm,fun j w e=>?_⟩,?_⟩
  ·by_cases oj:own j
   ·have:=ho j oj
    unfold dO at e
    rw [aV7,this] at e
    cases e
   ·rw [hown j oj]; exact e
  ·refine⟨gL D,ρ2,_,px2,q2,fun b H4 s4 q4=>?_⟩
   have hl4:=s4 _ _ hl'
   have sm4:=sm.trans s4
   cases b with
   | false=>exact aU ⟨ps.length - (i+1),by omega,rfl,hlt,sm4,hl4,zs,rz.same s4 fun _ z=>z,fz,by omega,by simpa using q4⟩
   | true=>
    refine aY ⟨gL D,ρ2,_,px2.mono s4,by simpa using q4,?_⟩
    rintro w H5 y gy s5 ryy ⟨⟨nw,fy⟩,q5⟩
    have hl5:=s5 _ _ hl4
    have lr:=rz.length
    refine⟨hl5,iB (by omega),ps.length - (i+1),by omega,rfl,hlt,fun b o' e=>?_,b8,zs ++ [y],?_,R7 fz fy,by rw [aU9,aZ1]; omega,q5⟩
    ·rw [aH (fun z=>by rw [z,hD] at e; cases e)]
     exact s5 _ _ (sm4 _ _ e)
    ·exact ((rz.same (s4.trans s5) fun _ z=>z).append (.cons (ryy.flat fy) .nil)).keep (.upd hl5 rfl fun b z=>z.elim)
 ·obtain rfl:i=ps.length:=by omega
  refine .inl ⟨⟨⟨_,fro⟩,lk.symm⟩,a,o,.dT kvs,fro,nofr,k _ _ _ .fr (fun b x e=>?_) (.lst (s.free hD1) (by rw [aH hDa]; exact hl') (Reps.thaw fro fz rz)) (fin zs iz)⟩
  have e1:=s _ _ e
  by_cases hb:b=a
  ·subst hb
   rw [ha] at e1; cases e1
   exact b8
  ·rw [aH hb]
   exact sm _ _ (by rw [aH hb]; exact e1)
end
section
variable {X : Cx} {scope : Scope} {N : List Str} {fr : List (Option Nat)} {x : Str} {tp pos : Pos} {iter elt c : Expr} {tl te : aE} {tcs : bT}
theorem aI0 (hi:QE X iter tl) (ht:∀ (s:Shared) (H:Hp) (C:Addr) (fp:List Addr),QT (b6 X scope N s H C fp bC) c tcs) (he:∀ (s:Shared) (H:Hp) (C:Addr) (fp:List Addr),QE (b6 X scope N s H C fp bC) elt te)
  (hc:X.calm=true:=by rfl) (S:bS X scope N fr:=by exact bS.of rfl rfl) (hN:N.Nodup:=by decide +kernel) (h0:N[0]? = some x:=by rfl) (hl:∀ (s:Shared) (H:Hp) (C:Addr) (fp:List Addr),(b6 X scope N s H C fp bC).env.scope.names.lookup x=some .local:=by intro _ _ _ _; rfl) (hf:fr[0]? = some none:=by rfl)
  (hs:∀ x,foldedSetIterable iter X.env x=pure x:=by intro _; rfl):QE X (.ListComp elt [⟨.Name x tp,iter,[c],0⟩] scope pos) (rK tl fr (bG 0) tcs te):=
 bV (ay6 (nI (gh:=fun _=>bP 0) (tch:=fun H=>LT (X.frm H) tcs) (teh:=fun H=>LE (X.frm H) te) hc S (ay5 hi) (m5 he (fun s H C fp=>nG (ht s H C fp)) hN h0 hl) hs)) fun _ _ _=>aH9 (jN _ 0) (fun i e=>by subst e; exact hf)
end
theorem oN {us:List Value} (h:us.length=1):∃ a,us = [a]:=List.length_eq_one_iff.mp h
theorem wR {us:List Value} (h:us.length=2):∃ a b,us = [a,b]:=by
 cases us with
 | nil=>cases h
 | cons a r=>
  obtain ⟨b,rfl⟩:=oN (us:=r) (by simpa using h)
  exact⟨a,b,rfl⟩
theorem rL {us:List Value} (h:us.length=3):∃ a b c,us = [a,b,c]:=by
 cases us with
 | nil=>cases h
 | cons a r=>
  obtain ⟨b,c,rfl⟩:=wR (us:=r) (by simpa using h)
  exact⟨a,b,c,rfl⟩
theorem R8 {us:List Value} (h:us.length=4):∃ a b c d,us = [a,b,c,d]:=by
 cases us with
 | nil=>cases h
 | cons a r=>
  obtain ⟨b,c,d,rfl⟩:=rL (us:=r) (by simpa using h)
  exact⟨a,b,c,d,rfl⟩
section
variable {K : PySem.W.Frag} {H0 : Hp} {W W' : Addr → Prop} {σ : St} {ρ : bJ} {H Hs : Hp}
theorem PX.grow {nw:Addr->Prop} (p:PX K H0 W σ ρ Hs) (s:aD Hs H) (h:∀ b,nw b->Hs b=none/\∃ o,H b=some o/\fR o=true):PX K H0 (fun b=>W b ∨ nw b) σ ρ H:=by
 have off:∀ b o,Hs b=some o->¬ nw b:=fun b o e z=>by rw [(h b z).1] at e; cases e
 have kp:∀ g,gX (Ms H0 W g) (Ms H0 (fun b=>W b ∨ nw b) g) Hs H:=fun g=>by
  have m:∀ b o,Ms H0 W g b->Hs b=some o->Ms H0 (fun b=>W b ∨ nw b) g b:=fun b o z e=>by
   cases g with
   | true=>exact⟨fun y=>y.elim z.1 (off b o e),z.2⟩
   | false=>exact fun y=>y.elim z (off b o e)
  exact⟨fun b _ z e=>⟨m b _ z e,s _ _ e⟩,fun b _ z e=>⟨m b _ z e,s _ _ e⟩,fun b _ z e=>⟨m b _ z e,s _ _ e⟩,fun _ _ e=>s _ _ e,fun _ _ _ e=>s _ _ e⟩
 refine⟨p.len,p.same.trans s,fun b z=>?_,fun j m e=>?_,p.dis⟩
 ·rcases z with z | z
  ·obtain ⟨h1,o,h2,h3⟩:=p.wm b z
   exact⟨h1,o,s _ _ h2,h3⟩
  ·exact⟨p.same.free (h b z).1,(h b z).2⟩
 ·obtain ⟨u,e1,q⟩:=p.sl j m e
  refine⟨u,e1,?_⟩
  cases m with
  | sh g y=>exact aF.keep (kp g) q
  | own y=>
   obtain ⟨b,e2,e3,q⟩:=q
   exact⟨b,e2,.inl e3,q.keep (kp true) fun o z=>s _ _ z⟩
theorem PX.name {i:Nat}{a:Addr}{x:PV} (p:PX K H0 W σ ρ H) (wa:W a) (r:gI K (Ms H0 W true) H a x) (free:∀ j y,ρ[j]? = some (some (.own y))->j ≠ i->σ[j]? ≠ some (some (.ref a))):PX K H0 W (σ.set i (some (.ref a))) (ρ.set i (some (.own x))) H:=by
 refine⟨by rw [ba1,ba1]; exact p.len,p.same,p.wm,fun j m h=>?_,fun j k y z b h1 h2 h3 h4=>?_⟩
 ·rcases dP h with ⟨rfl,hl,e⟩ | ⟨hne,h⟩
  ·cases e
   rw [p.len] at hl
   exact⟨_,aZ3 hl,a,rfl,wa,r⟩
  ·obtain ⟨u,e,q⟩:=p.sl j m h
   exact⟨u,by rw [aX4 (Ne.symm hne)]; exact e,q⟩
 ·rcases dP h1 with ⟨e1,l1,_⟩ | ⟨n1,h1⟩
  ·rcases dP h2 with ⟨e2,_,_⟩ | ⟨n2,h2⟩
   ·rw [e1,e2]
   ·rw [e1,aZ3 (by rw [<- p.len]; exact l1)] at h3
    rw [aX4 (Ne.symm n2)] at h4
    cases h3
    exact absurd h4 (free k z h2 n2)
  ·rw [aX4 (Ne.symm n1)] at h3
   rcases dP h2 with ⟨e2,l2,_⟩ | ⟨n2,h2⟩
   ·rw [e2,aZ3 (by rw [<- p.len]; exact l2)] at h4
    cases h4
    exact absurd h3 (free j y h1 n1)
   ·rw [aX4 (Ne.symm n2)] at h4
    exact p.dis j k y z b h1 h2 h3 h4
end
section
variable {X : Cx} {e : Expr} {te : aE} {D : cJ} {σ : St} {H : Hp} {pos : Pos}
def wS (i j:Nat) (te:aE):aK:=fun D ρ=>te ρ fun x g=>∃ xs ps,i ≠ j/\g = .fr/\x = .tup [.lst xs,.dT ps]/\flats xs=true/\flats (ps.map (·.2))=true/\D.nx ((ρ.set i (some (.own (.lst xs)))).set j (some (.own (.dT ps))))
theorem aI1 {i j:Nat} (h:LS X (wS i j te) D σ H):jE (LE X te) (i7 X.K 2 (dI (bP i) (dI (bP j) i6))) D σ H:=by
 obtain ⟨W,ρ,D',px,q,k⟩:=h
 refine⟨W,ρ,_,px,q,?_⟩
 rintro v H1 x g s r ⟨xs,ps,hij,rfl,rfl,f1,f2,q⟩
 obtain ⟨t,us,rfl,ht,r2⟩:=r.sqT
 obtain ⟨u1,u2,rfl,ra,rb⟩:=r2.two
 cases ra with
 | @lst a ws _ ma ea rxs=>
 cases rb with
 | @dT b kvs _ mb eb ek rvs=>
 have hab:a ≠ b:=fun z=>by rw [z,eb] at ea; cases ea
 have p1:=px.grow (nw:=fun c=>c=a ∨ c=b) s (fun c z=>by
  rcases z with rfl | rfl
  ·exact⟨ma,_,ea,rfl⟩
  ·exact⟨mb,_,eb,rfl⟩)
 have off:∀ (l:Nat) (y:PV) (c:Addr),H c=none->ρ[l]? = some (some (.own y))->σ[l]? ≠ some (some (.ref c)):=fun l y c hc h1 h2=>by
  obtain ⟨u,e1,c',e2,e3,_⟩:=px.sl l _ h1
  rw [h2] at e1
  cases e1
  cases e2
  exact (px.new hc).1 e3
 have p2:=p1.name (i:=i) (a:=a) (x:=.lst xs) (.inr (.inl rfl)) ⟨ws,ea,rxs.flat f1⟩ fun l y h1 _=>off l y a ma h1
 have p3:=p2.name (i:=j) (a:=b) (x:=.dT ps) (.inr (.inr rfl)) ⟨kvs,eb,ek,rvs.flat f2⟩ fun l y h1 hlj h2=>by
  rcases dP h1 with ⟨e1,l1,_⟩ | ⟨n1,h1⟩
  ·rw [e1,aZ3 (by rw [<- px.len]; exact l1)] at h2
   cases h2
   exact hab rfl
  ·rw [aX4 (Ne.symm n1)] at h2
   exact off l y b mb h1 h2
 refine⟨t,_,rfl,aG.of ht,rfl,_,_,rfl,_,_,rfl,rfl,?_⟩
 exact k.nx _ _ H1 _ (fun c o hc nc=>⟨s _ _ hc,fun z=>z.elim nc fun z=>by
  rcases z with rfl | rfl
  ·rw [show H c=none from ma] at hc; cases hc
  ·rw [show H c=none from mb] at hc; cases hc⟩) p3 q
theorem aI2 (i j:Nat) {x y:Str}{tp xp yp:Pos}{kt:Nat} (hN:X.N.Nodup) (he:QE X e te) (hx:X.N[i]? = some x:=by rfl) (hy:X.N[j]? = some y:=by rfl) (hlx:gV X.env.scope x:=by first | exact Or.inl rfl | exact Or.inr rfl) (hly:gV X.env.scope y:=by first | exact Or.inl rfl | exact Or.inr rfl)
  (hfx:X.fn x=true ∨ X.env.scope.names.lookup x=some .local:=by first | exact .inl rfl | exact .inr rfl) (hfy:X.fn y=true ∨ X.env.scope.names.lookup y=some .local:=by first | exact .inl rfl | exact .inr rfl) (hc:X.calm=true:=by rfl)
  (hs:swapsWithSole [.Tuple [.Name x xp,.Name y yp] kt tp] e pos.line X.env=pure false:=by rfl) (hw:swappedStores [.Tuple [.Name x xp,.Name y yp] kt tp] e X.env=pure none:=by rfl):QS X (.Assign [.Tuple [.Name x xp,.Name y yp] kt tp] e pos) (wS i j te):=by
 have g:PG X (.Tuple [.Name x xp,.Name y yp] kt tp) (i7 X.K 2 (dI (bP i) (dI (bP j) i6))):=lB hc (fZ (eB hN hx hlx hfx) (fZ (eB hN hy hly hfy) lA))
 exact cZ (xR he g hs hw) fun _ _ _=>aI1
end
section
variable {X : Cx} {e : Expr} {tk : aE} {D : cJ} {σ : St} {H : Hp} {pos : Pos}
def wT (i:Nat) (tk:aE):aK:=fun D ρ=>∃ ps,ρ[i]? = some (some (.own (.dT ps)))/\tk ρ fun y _=>∃ k,y = .tup (k.map kP)/\(∃ j:Nat,(ps.map (·.1))[j]? = some k)/\∀ j:Nat,(ps.map (·.1))[j]? = some k->D.nx (ρ.set i (some (.own (.dT (ps.eraseIdx j)))))
theorem aI3 {i:Nat} (h:LS X (wT i tk) D σ H):oV (L5 (fN i) (LE X tk)) D σ H:=by
 obtain ⟨W,ρ,D',px,⟨ps,hi,q⟩,k⟩:=h
 obtain ⟨v,ev,a,rfl,wa,kvs,ea,e1,r⟩:=px.sl i _ hi
 refine⟨_,ev,a,rfl,.inr ⟨kvs,.inl ea⟩,W,ρ,_,px,q,?_⟩
 rintro kv H2 y g s ry ⟨kk,rfl,is,q⟩
 obtain ⟨b,us,rfl,hb,rb⟩:=ry.sqT
 obtain rfl:=qF rb
 have ea2:=s _ _ ea
 refine⟨kvs,kk,b,ea2,rfl,hb,by rw [e1]; exact is,fun j v hj=>?_⟩
 rw [e1] at hj
 refine k.nx W σ _ _ ((Ev.same s).trans (Ev.upd wa)) ((px.mono s).updT hi ev wa ⟨?_,?_⟩) (q j hj)
 ·rw [Raw.kS,Raw.kS,e1]
 ·rw [Raw.kS,Raw.kS]
  exact ((r.same s fun _ z=>z).eraseIdx j).keep (.upd ea2 rfl fun b m=>⟨kJ wa m,m⟩)
theorem aI4 (i:Nat) {x:Str}{apos cpos xpos:Pos} (hu:X.A.units+1 < cLine) (he:QE X e tk) (hm:M1 X (.Name x xpos) "pop" apos e cpos:=by exact⟨rfl,rfl,rfl,rfl⟩) (hN:X.N[i]? = some x:=by rfl) (hv:fM X.env.scope x:=by first | exact Or.inl rfl | exact Or.inr (Or.inl rfl) | exact Or.inr (Or.inr rfl)) (hd:(x == ("__debug__" : Str))=false:=by decide) (hcd:(x == ("__classdict__" : Str))=false:=by decide)
  (hsw:swapsWith (.Call (.Attribute (.Name x xpos) "pop" apos) [e] [] cpos) none pos.line X.env=pure false:=by rfl):QS X (.Expr (.Call (.Attribute (.Name x xpos) "pop" apos) [e] [] cpos) pos) (wT i tk):=
 cZ (mR (az0 hu (i4 hN hv hd hcd) he hm) hsw) fun _ _ _=>aI3
end
def spS (K:PySem.W.Frag) (p:bF):Sp:=fun vs H Q _=>∃ xs Qp,Reps K (fun _=>True) H vs xs/\p xs Qp/\∀ v H' x,aD H H'->aF K (fun _=>True) H' v x->Qp x->Q v H'
structure mE (P:Program) (w:World) (K:PySem.W.Frag) (mg:Str->Option Value) (base:Heap) (k:Nat) (x:Str) (ps:List Str) (p:bF):Prop where
 ex:∃ f fd,cR P w K mg base dE k f fd ps (spS K p)/\i8 K fd ps []/\PySem.W.keepIn K (.ref f)=true/\mg x=some (.ref f)
def mF (X:Cx) (last:TS):List aK->TS
 | []=>last
 | t :: r=>sS (LS X t) (mF X last r)
def oO (i:Nat) (rs:PV->Prop):List aK->aK
 | []=>fun _ ρ=>∃ m,ρ[i]? = some (some m)/\rs m.val
 | t :: r=>fun D ρ=>t { D with nx:=oO i rs r D } ρ
section
variable {X : Cx} {i : Nat}
theorem R9 {rs:PV->Prop}{D':nR}{D:cJ} (hrs:∀ v H' x,aD X.H₀ H'->aF X.K (fun _=>True) H' v x->rs x->D.rt v H'):∀ (ts:List aK) {W:Addr->Prop}{ρ:bJ}{H:Hp}{σ:St},PX X.K X.H₀ W σ ρ H->oO i rs ts D' ρ->nS X W H D' D->mF X (l8 (fN i)) ts D σ H
 | [],W,ρ,H,σ,px,q,k=>by
  obtain ⟨m,e,q⟩:=q
  obtain ⟨v,ev,r⟩:=px.sl i m e
  exact⟨v,ev,hrs v H m.val px.same ((pX (Hs:=H) r).same (aD.refl _) fun _ _=>trivial) q⟩
 | t :: r,W,ρ,H,σ,px,q,k=>⟨W,ρ,{ D' with nx:=oO i rs r D' },px,q,⟨fun W' σ' H' ρ' e px' q'=>R9 hrs r px' q' (k.step e),k.rt,k.bk,k.ct⟩⟩
theorem aI5 (i:Nat) {x:Str}{p2 pos:Pos} (hN:X.N[i]? = some x:=by rfl) (hv:fM X.env.scope x:=by first | exact Or.inl rfl | exact Or.inr (Or.inl rfl) | exact Or.inr (Or.inr rfl)) (hd:(x == ("__debug__" : Str))=false:=by decide) (hcd:(x == ("__classdict__" : Str))=false:=by decide) :
  dD X [.Return (some (.Name x p2)) pos] (mF X (l8 (fN i)) []):=l7 (l9 (i4 hN hv hd hcd))
theorem rM {st:Stmt}{sts:List Stmt}{t:aK}{ts:List aK}{last:TS} (h1:QS X st t) (h2:dD X sts (mF X last ts)):dD X (st :: sts) (mF X last (t :: ts)):=mQ h1 h2
variable {tr : cL} {e : Expr} {es : List Expr} {pos p2 : Pos}
def wU (p:bF) (t:cL):aE:=fun ρ Q=>t ρ fun xs=>p (xs.map (·.1)) fun z=>Q z .rd
theorem aI6 {k j:Nat}{x:Str}{ps:List Str}{p:bF} (d:mE X.prog X.w X.K X.mg X.base k x ps p) (hr:c6 j X.A) (ha:QA X (e :: es) tr) (hkj:k<=j:=by decide) (hg:Gl X x:=by rfl) (hdb:(x == ("__debug__" : Str))=false:=by decide)
  (he:starEach (e :: es) X.env=(false,eval e X.env) :: starEach es X.env:=by rfl) (hpl:(backTo pos (starEach es X.env)).any (·.1)=false:=by rfl):QE X (.Call (.Name x p2) (e :: es) [] pos) (wU p tr):=by
 obtain ⟨f,fd,F,b,kp,m⟩:=d.ex
 refine bV (p6 F (hr.mono hkj) hg m kp b .nil A4 ha hdb he hpl) fun σ H Q' h=>?_
 obtain ⟨W,ρ,Q,px,q,k⟩:=h
 exact⟨W,ρ,_,px,q,fun vs H1 xs s1 r1 q1=>⟨_,_,by rw [aY4]; exact r1.any,q1,fun v H' x s2 r2 q2=>k v H' x .rd (s1.trans s2) (r2.same (aD.refl _) fun _ _=>trivial) q2⟩⟩
end
theorem mE.of {P:Program}{w:World}{K:PySem.W.Frag}{mg:Str->Option Value}{base:Heap}{k:Nat}{x:Str}{ps N:List Str}{p:bF}{st:Stmt}{f:Addr}{fd:FuncData} (F:eF K x x st f fd) (m:mg x=some (.ref f)) (S:FnScope N ps (aQ st))
  (hb:∀ (kV doc pm:Value) (an:Option Addr) (cdv ct:Value) (us:List Value),us.length=ps.length->bindArgs (PySem.W.fnOf x x (iA st) (dN st) (aQ st) .none kV doc pm an cdv ct) ⟨us,[]⟩=pure (ps.zip us))
  (len:∀ xs Q,p xs Q->xs.length=ps.length) (i:Nat) (ts:List aK) (rd:∀ xs Q,p xs Q->oO i Q ts { nx:=fun _=>Q .non,rt:=Q } (eJ N xs))
  (body:∀ (cdv:Value) (A:Around) (outer:List Env) (s:Shared) (H:Hp) (E:XK),c6 k (A.deeper (PyProof.Rows.envOfC x (aQ st) s.heap.objs.size f cdv))->
   dD (cS dE P w K mg base N x (aQ st) f cdv A outer s H E).nox (dN st) (mF (cS dE P w K mg base N x (aQ st) f cdv A outer s H E).nox (l8 (fN i)) ts)):mE P w K mg base (k+1) x ps p:=by
 refine⟨f,fd,F.ok S (fun vs H Q E h=>?_) (fun cdv A outer s H vs Q E hr h=>?_),F.binds hb,F.kp,m⟩
 ·obtain ⟨xs,Qp,r,q,_⟩:=h
  rw [r.length]; exact len xs Qp q
 ·obtain ⟨xs,Qp,r,q,k⟩:=h
  refine⟨_,body cdv A outer s H E hr,R9 (rs:=Qp) (fun v H' x s' r' q'=>k v H' x s' r' q') ts (qR r) (rd xs Qp q) ⟨?_,?_,?_,?_⟩⟩
  ·exact fun W' σ' H' ρ' e px q=>k _ _ _ px.same .non q
  ·exact fun v H' x s' r' q'=>k _ _ _ s' (r'.same (aD.refl _) fun _ _=>trivial) q'
  ·exact fun W' σ' H' ρ' e px q=>q
  ·exact fun W' σ' H' ρ' e px q=>q
end PP
namespace Core
open PySem L2 PP
def jZ:bF:=fun xs Q=>∃ c k:Int,xs = [.int c,.int k]/\0<=k/\k<=1000/\∀ z:Int,0<=z->Q (.int z)
def S0:aK:=(aI (b5 2 (cY (vB (fF (fF (cY (a5 0) (qC (.int 1000000007))) (vB (a5 1) (a5 1))) (qC (.int 1))) (qC (.int 48271))) (qC (.int 2147483647))))
 (bE (fT (cY (vB (a5 2) (a5 2)) (qC (.int 2147483647))) (qC (.int 8)))))
theorem aI7:cU S0 ["cell","k","turn"] jZ:=by
 rintro xs Q ⟨c,k,rfl,k0,k1,q⟩
 refine⟨_,rfl,_,_,rfl,rfl,(by show (0:Int) < 1000000007; decide),_,rfl,_,rfl,_,_,rfl,rfl,.inl ⟨by show -(2 ^ 64) < k; omega,by show k < 2 ^ 64; omega⟩,_,_,rfl,rfl,_,_,rfl,rfl,_,_,rfl,rfl,.inr ⟨by decide,by decide⟩,_,_,rfl,rfl,(by show (0:Int) < 2147483647; decide),trivial,?_⟩
 dsimp only
 have t0:0<=(c % 1000000007+k * k+1) * 48271 % 2147483647:=bc7 _ (by decide)
 have t1:(c % 1000000007+k * k+1) * 48271 % 2147483647 < 2147483647:=bf0 _ (by decide)
 generalize (c % 1000000007+k * k+1) * 48271 % 2147483647=t at t0 t1
 refine⟨_,rfl,_,rfl,_,_,rfl,rfl,.inl ⟨by show -(2 ^ 64) < t; omega,by show t < 2 ^ 64; omega⟩,_,_,rfl,rfl,(by show (0:Int) < 2147483647; decide),_,_,rfl,rfl,⟨by decide,by decide⟩,trivial,q _ ?_⟩
 have:=bc7 (t * t) (show (2147483647:Int) ≠ 0 by decide)
 omega
def NN (zs:List Int):Prop:=∀ z ∈ zs,(0:Int)<=z
def mG:bF:=fun xs Q=>∃ (w:Int) (ws ds:List Int),xs = [.int w,.lst (intz ws),.lst (intz ds)]/\ws.length<=1000/\ds.length=ws.length/\NN ws/\NN ds/\∀ zs,zs.length=ws.length->NN zs->Q (.lst (intz zs))
def S2:List aK:=[(cC (aV (gM (a5 0) (qC (.int 1)))) (bE (bU (dG (a5 1)) [none] (bG 0) cT (qC (.int 2)))) cF),
 (cC (aV (gM (a5 0) (qC (.int 2)))) (bE (aC nV (a6 (a5 2) a9))) cF),
 (cC (aV (gM (a5 0) (qC (.int 3)))) (bE (bU (dG (a5 2)) [none] (bG 0) cT (aC kK (a6 (qC (.int 0)) (a6 (vA (a5 0) (qC (.int 1))) a9))))) cF),
 (cC (aV (gM (a5 0) (qC (.int 4)))) (bE (bU (dG (a5 2)) [none] (bG 0) cT (fT (fF (a5 0) (qC (.int 1))) (qC (.int 2))))) cF)]
theorem NN.app {zs:List Int}{z:Int} (h:NN zs) (hz:0<=z):NN (zs ++ [z]):=fun y hy=>by
 rcases aX3.mp hy with hy | hy
 ·exact h y hy
 ·rw [aV6.mp hy]; exact hz
theorem aI8:∀ xs Q,mG xs Q->oO 1 Q S2 { nx:=fun _=>Q .non,rt:=Q } (eJ ["way","wants","degrees"] xs):=by
 rintro xs Q ⟨w,ws,ds,rfl,hl,hd,nw,nd,q⟩
 have inv:∀ {i:Nat}{acc:List PV}{z:Int},(∃ zs,acc=intz zs/\zs.length=i/\NN zs)->0<=z->∃ zs,acc ++ [PV.int z]=intz zs/\zs.length=i+1/\NN zs:=fun {i acc z} h hz=>by
  obtain ⟨zs,rfl,h1,h2⟩:=h
  exact⟨zs ++ [z],by rw [cQ]; rfl,by rw [aU9,h1]; rfl,h2.app hz⟩
 refine⟨_,rfl,.inl ⟨_,_,rfl,rfl,_,rfl,?_⟩⟩
 cases h1:(if false=true then !decide (w=1) else decide (w=1)) with
 | true=>
  refine aY ⟨_,rfl,_,rfl,(fun z=>by cases z),by rw [b4]; omega,fun i acc=>∃ zs,acc=intz zs/\zs.length=i/\NN zs,⟨[],rfl,rfl,fun _ h=>nomatch h⟩,?_,?_⟩
  ·rintro i y acc hy h
   obtain ⟨n,rfl,hn⟩:=eU hy
   exact⟨trivial,inv h (by decide)⟩
  ·rintro acc ⟨zs,rfl,h2,h3⟩
   exact⟨trivial,q zs (by rw [h2,b4]) h3⟩
 | false=>
 refine aU ⟨_,rfl,.inl ⟨_,_,rfl,rfl,_,rfl,?_⟩⟩
 cases h2:(if false=true then !decide (w=2) else decide (w=2)) with
 | true=>exact aY ⟨_,rfl,_,_,rfl,rfl,c8 _,trivial,q ds hd nd⟩
 | false=>
 refine aU ⟨_,rfl,.inl ⟨_,_,rfl,rfl,_,rfl,?_⟩⟩
 cases h3:(if false=true then !decide (w=3) else decide (w=3)) with
 | true=>
  refine aY ⟨_,rfl,_,rfl,(fun z=>by cases z),by rw [b4]; omega,fun i acc=>∃ zs,acc=intz zs/\zs.length=i/\NN zs,⟨[],rfl,rfl,fun _ h=>nomatch h⟩,?_,?_⟩
  ·rintro i y acc hy h
   obtain ⟨n,rfl,hn⟩:=eU hy
   exact⟨_,rfl,_,_,rfl,rfl,_,_,rfl,trivial,inv h (by split <;> omega)⟩
  ·rintro acc ⟨zs,rfl,h2,h3⟩
   exact⟨trivial,q zs (by rw [h2,b4,hd]) h3⟩
 | false=>
 refine aU ⟨_,rfl,.inl ⟨_,_,rfl,rfl,_,rfl,?_⟩⟩
 cases h4:(if false=true then !decide (w=4) else decide (w=4)) with
 | true=>
  refine aY ⟨_,rfl,_,rfl,(fun z=>by cases z),by rw [b4]; omega,fun i acc=>∃ zs,acc=intz zs/\zs.length=i/\NN zs,⟨[],rfl,rfl,fun _ h=>nomatch h⟩,?_,?_⟩
  ·rintro i y acc hy h
   obtain ⟨n,rfl,hn⟩:=eU hy
   have n0:0<=n:=nd n (aW8 hn)
   exact⟨_,rfl,_,_,rfl,rfl,_,_,rfl,rfl,⟨by decide,by decide⟩,trivial,inv h (by omega)⟩
  ·rintro acc ⟨zs,rfl,h2,h3⟩
   exact⟨trivial,q zs (by rw [h2,b4,hd]) h3⟩
 | false=>exact aU ⟨_,rfl,q ws rfl nw⟩
abbrev DK (n:Int) (ps:List (List aB × PV)):Prop:=DL n ps ps.length
theorem DL.dk {n:Int}{ps:List (List aB × PV)}{i:Nat} (h:DL n ps i):DK n ps:=⟨h.key,aV0 _,h.fl,h.nd⟩
theorem DK.nil (n:Int):DK n []:=⟨(fun _ h=>nomatch h),aV0 _,rfl,.nil⟩
theorem wV:∀ (m:Nat) (l:List Nat),l.Nodup->(∀ x ∈ l,x < m)->l.length<=m
 | 0,[],_,_=>aV0 _
 | 0,x :: _,_,h=>absurd (h x aV9) (Nat.not_lt_zero _)
 | m+1,l,nd,h=>by
  by_cases hm:m ∈ l
  ·have h1:=wV m (l.erase m) (nd.erase m) fun x hx=>by
    obtain ⟨h2,h3⟩:=(nd.mem_erase_iff).mp hx
    have:=h x h3
    omega
   rw [List.length_erase_of_mem hm] at h1
   omega
  ·have h1:=wV m l nd fun x hx=>by
    have:=h x hx
    have:x ≠ m:=fun z=>hm (z ▸ hx)
    omega
   omega
theorem DK.few {n:Int}{ps:List (List aB × PV)} (h:DK n ps) (hn:n<=8):ps.length < 64:=by
 obtain ⟨ls,_,e2,e3,e4⟩:=DL.links h.key
 have nd:ls.Nodup:=by
  have:=h.nd
  rw [e4] at this
  exact (bb8.mp this).imp fun h e=>h (congrArg fK e)
 have:=wV 56 (ls.map fun l=>(l.1 * 8+l.2).toNat) (by
  refine bb8.mpr (nd.imp_of_mem fun {a b} ha hb hab e=>hab ?_)
  have:=e2 a ha
  have:=e2 b hb
  exact Prod.ext (by omega) (by omega)) fun x hx=>by
   obtain ⟨l,hl,rfl⟩:=bb4.mp hx
   have:=e2 l hl
   omega
 rw [aV1,e3] at this
 omega
def rN:bF:=fun xs Q=>∃ c n:Int,xs = [.int c,.int n]/\0<=n/\n<=40/\∀ ws ps,(ws.length:Int)=n->NN ws->DK n ps->Q (.tup [.lst (intz ws),.dT ps])
def S3:aK:=(aI (eI 2 (jM a9))
 (aI (eI 3 (qC (.dT [])))
 (aI (dX (fD (a5 1)) (bG 4)
  (aI (lN 2 (cY (a5 0) (qC (.int 7))))
  (b5 0 (fT (a5 0) (qC (.int 7))))))
 (aI (dX (fD (a5 1)) (bG 5)
  (dX (uY (fF (a5 5) (qC (.int 1))) (a5 1)) (bG 6)
   (aI (cC (aV (gM (cY (a5 0) (qC (.int 2))) (qC (.int 1)))) (lS 3 (dF (a6 (a5 5) (a6 (a5 6) a9))) (qC (.bl true))) cF)
   (b5 0 (fT (a5 0) (qC (.int 2)))))))
 (qB 2 (qB 3 (bE (uN (a6 (a5 2) (a6 (a5 3) a9))))))))))
theorem aI9:cU S3 ["cell","many","wants","links","hearth","one","other"] rN:=by
 rintro xs Q ⟨c,n,rfl,n0,n1,q⟩
 refine⟨by decide,rfl,rfl,rfl,rfl,rfl,?_⟩
 refine⟨_,rfl,n,rfl,by omega,by omega,fun i ρ=>∃ (c:Int) (y:Option Slot) (ws:List Int),ρ = [si c,si n,some (.own (.lst (intz ws))),some (.own (.dT [])),y,none,none]/\ws.length=i/\NN ws,⟨c,none,[],rfl,rfl,fun _ h=>nomatch h⟩,?_,?_⟩
 ·rintro i y ρ hy ⟨c,y0,ws,rfl,hl,hp⟩
  obtain ⟨rfl,hi⟩:=gO hy
  refine kY ?_
  refine⟨_,rfl,_,rfl,_,_,rfl,rfl,(by show (0:Int) < 7; decide),trivial,by rw [b4]; omega,?_⟩
  refine⟨_,rfl,_,_,rfl,rfl,⟨by decide,by decide⟩,trivial,c / 7,si (0+(i:Int)),ws ++ [c % 7],?_,by rw [aU9,hl]; rfl,hp.app (bc7 _ (by decide))⟩
  rw [cQ]; rfl
 rintro ρ ⟨c,y0,ws,rfl,hl,hp⟩
 rw [cO] at hl
 have wl:(ws.length:Int)=n:=by omega
 refine⟨_,rfl,n,rfl,by omega,by omega,fun i ρ=>∃ (c:Int) (y z:Option Slot) (ps:List (List aB × PV)),ρ = [si c,si n,some (.own (.lst (intz ws))),some (.own (.dT ps)),y0,y,z]/\DL n ps (i * 40),⟨c,none,none,[],rfl,⟨(fun _ h=>nomatch h),aZ2 _,rfl,.nil⟩⟩,?_,?_⟩
 ·rintro i y ρ hy ⟨c,y1,z1,ps,rfl,dl⟩
  obtain ⟨rfl,hi⟩:=gO hy
  refine kY ?_
  refine⟨_,rfl,_,_,rfl,rfl,_,rfl,_,n,rfl,rfl,⟨by omega,by omega,by omega,by omega⟩,fun j ρ=>∃ (c:Int) (z:Option Slot) (ps:List (List aB × PV)),ρ = [si c,si n,some (.own (.lst (intz ws))),some (.own (.dT ps)),y0,si (0+(i:Int)),z]/\DL n ps (i * 40+j),⟨c,z1,ps,rfl,dl⟩,?_,?_⟩
  ·rintro j y ρ hy ⟨c,z2,ps,rfl,dl⟩
   obtain ⟨rfl,hj⟩:=gO hy
   refine kY ?_
   have dl1:DL n ps (i * 40+(j+1)):=⟨dl.key,by have:=dl.len; omega,dl.fl,dl.nd⟩
   refine⟨_,rfl,_,_,rfl,rfl,(by show (0:Int) < 2; decide),.inl ⟨_,_,rfl,rfl,_,rfl,?_⟩⟩
   cases h:(if false=true then !decide (c % 2=1) else decide (c % 2=1)) with
   | true=>
    refine aY ⟨_,rfl,_,rfl,_,rfl,by show 2<=1000; decide,rfl,fK (0+(i:Int),0+(i:Int)+1+(j:Int)),rfl,trivial,by have:=dl.len; omega,?_⟩
    refine⟨_,rfl,_,_,rfl,rfl,⟨by decide,by decide⟩,trivial,c / 2,si (0+(i:Int)+1+(j:Int)),_,rfl,?_⟩
    exact dl.put _ ⟨by show (0:Int)<=0+(i:Int); omega,by show (0:Int)+(i:Int) < 0+(i:Int)+1+(j:Int); omega,by show (0:Int)+(i:Int)+1+(j:Int) < n; omega⟩
   | false=>exact aU ⟨_,rfl,_,_,rfl,rfl,⟨by decide,by decide⟩,trivial,c / 2,si (0+(i:Int)+1+(j:Int)),ps,rfl,dl1⟩
  ·rintro ρ ⟨c,z2,ps,rfl,dl⟩
   rw [cO] at dl
   exact⟨c,si (0+(i:Int)),z2,ps,rfl,⟨dl.key,by have:=dl.len; omega,dl.fl,dl.nd⟩⟩
 ·rintro ρ ⟨c,y1,z1,ps,rfl,dl⟩
  refine⟨_,rfl,_,rfl,_,rfl,_,rfl,by show 2<=1000; decide,?_,trivial,q ws ps wl hp dl.dk⟩
  intro p hp
  simp only [aV5,aW3,aZ5] at hp
  rcases hp with rfl | rfl <;> trivial
theorem gP.seqTF {x:PV}{ns:List Int} (h:gP x ns):seqT x=some (intz ns):=by rcases h with rfl | rfl <;> rfl
theorem DK.put {n:Int}{ps:List (List aB × PV)} (h:DK n ps) (l:Int × Int) (hl:0<=l.1/\l.1 < l.2/\l.2 < n):DK n (cE ps (fK l) (.bl true)):=(DL.put h l hl).dk
theorem DK.cut {n:Int}{ps:List (List aB × PV)} (h:DK n ps) (j:Nat):DK n (ps.eraseIdx j):=
 ⟨fun p hp=>h.key p (List.mem_of_mem_eraseIdx hp),aV0 _,by
  rw [Raw.kS]
  have:∀ (j:Nat) {xs:List PV},flats xs=true->flats (xs.eraseIdx j)=true:=by
   intro j
   induction j with
   | zero=>
    intro xs h
    cases xs with
    | nil=>rfl
    | cons x r=>unfold flats at h; rw [aW7] at h; exact h.2
   | succ j ih=>
    intro xs h
    cases xs with
    | nil=>rfl
    | cons x r=>
     unfold flats at h
     rw [aW7] at h
     show (flat x && flats (r.eraseIdx j))=true
     rw [h.1,ih h.2]; rfl
  exact this j h.fl,(h.nd).sublist ((List.eraseIdx_sublist ps j).map _)⟩
def rO:bF:=fun xs Q=>∃ x ns,∃ n wy:Int,xs = [x,.int n,.int wy]/\gP x ns/\ns.length<=63/\0<=n/\n<=8/\∀ ws ls,kW n ws ls->Q (bB ws ls)
def wW:aK:=(aI (dX (dG (a5 0)) (bG 5)
  (cC (aV (vC (a5 1) (qC (.int 0)))) (aI (b5 6 (aC jZ (a6 (a5 5) (a6 (qC (.int 0)) a9))))
   (aI (b5 7 (cY (a5 6) (a5 1)))
   (aI (b5 8 (cY (fT (a5 6) (qC (.int 64))) (a5 1)))
   (cC (aV (gM (cY (fT (a5 6) (qC (.int 4096))) (qC (.int 4))) (qC (.int 0)))) (uR 3 (a5 7) (cY (fT (a5 6) (qC (.int 16384))) (qC (.int 5)))) (cC (nQ (aV (jQ (a5 7) (a5 8))) (aV (kN false (dF (a6 (aC lO (a6 (a5 7) (a6 (a5 8) a9))) (a6 (aC kK (a6 (a5 7) (a6 (a5 8) a9))) a9))) (a5 4)))) (wT 4 (dF (a6 (aC lO (a6 (a5 7) (a6 (a5 8) a9))) (a6 (aC kK (a6 (a5 7) (a6 (a5 8) a9))) a9)))) (cC (aV (jQ (a5 7) (a5 8))) (lS 4 (dF (a6 (aC lO (a6 (a5 7) (a6 (a5 8) a9))) (a6 (aC kK (a6 (a5 7) (a6 (a5 8) a9))) a9))) (qC (.bl true))) cF)))))) cF))
 (aI (b5 9 (bU (fD (a5 1)) [none,some 4] (bG 0) cT (aC dU (a6 (rK (a5 1) [none,some 0] (bG 0) (aV (q2 (kO false) (a5 1) (a5 0))) (a5 0)) a9))))
 (bE (dF (a6 (aC eL (a6 (wU mG (a6 (a5 2) (a6 (a5 3) (a6 (a5 9) a9)))) a9)) (a6 (aC eL (a6 (aC r6 (a6 (aC r9 (a6 (a5 4) a9)) a9)) a9)) a9))))))
def S4:aK:=(aI (eI 3 (bU (fD (a5 1)) [none] (bG 0) cT (fF (qC (.int 1)) (cY (a5 0) (qC (.int 2))))))
 (aI (eI 4 (qC (.dT [])))
 (aI (cC (nQ (aV (vC (aC dU (a6 (a5 0) a9)) (qC (.int 0)))) (aV (gM (cY (fG (a5 0) (qC (.int 0))) (qC (.int 2))) (qC (.int 1))))) (aI (wS 3 4 (aC rN (a6 (fT (fG (a5 0) (qC (.int 0))) (qC (.int 2))) (a6 (a5 1) a9))))
  (b5 0 (qJ (a5 0) (qI (qC (.int 1))) qH))) cF)
 wW)))
theorem NN.set {zs:List Int}{z:Int} (h:NN zs) (hz:0<=z) (j:Nat):NN (zs.set j z):=fun y hy=>by
 rcases List.mem_or_eq_of_mem_set hy with hy | rfl
 ·exact h y hy
 ·exact hz
theorem S5 {x:PV}{ns:List Int}{n wy:Int}{g:Bool}{ws:List Int}{ps:List (List aB × PV)}{Q:PV->Prop} (hx:gP x ns) (hg:(Slot.sh g x).tag = .rd->flat x=true) (n0:0<=n) (n1:n<=8) (wl:(ws.length:Int)=n) (nw:NN ws) (dk:DK n ps) (q:∀ ws ls,kW n ws ls->Q (bB ws ls)) :
  wW { nx:=fun _=>Q .non,rt:=Q } [some (.sh g x),si n,si wy,some (.own (.lst (intz ws))),some (.own (.dT ps)),none,none,none,none,none]:=by
 refine⟨_,rfl,_,hx.seq,hg,fun i ρ=>∃ (a b c d:Option Slot) (ws:List Int) (ps:List (List aB × PV)),ρ = [some (.sh g x),si n,si wy,some (.own (.lst (intz ws))),some (.own (.dT ps)),a,b,c,d,none]/\(ws.length:Int)=n/\NN ws/\DK n ps,⟨none,none,none,none,ws,ps,rfl,wl,nw,dk⟩,?_,?_⟩
 ·rintro i y ρ hy ⟨a,b,c,d,ws,ps,rfl,wl,nw,dk⟩
  obtain ⟨cell,rfl,hc⟩:=eU hy
  generalize kL _ _=gg
  have few:=dk.few n1
  refine⟨_,rfl,_,_,rfl,rfl,_,rfl,?_⟩
  by_cases h1:(0:Int) < n
  ·dsimp only
   rw [aW5 h1]
   refine aY ⟨_,rfl,cell,0,rfl,by decide,by decide,fun t t0=>⟨trivial,?_⟩⟩
   refine⟨_,rfl,_,rfl,_,_,rfl,rfl,h1,trivial,?_⟩
   refine⟨_,rfl,_,_,rfl,rfl,⟨by decide,by decide⟩,_,rfl,_,_,rfl,rfl,h1,trivial,?_⟩
   dsimp only
   generalize hone:t % n=one
   generalize hoth:t / 64 % n=oth
   have o1:0<=one/\one < n:=by rw [<- hone]; exact⟨bc7 _ (by omega),bf0 _ h1⟩
   have o2:0<=oth/\oth < n:=by rw [<- hoth]; exact⟨bc7 _ (by omega),bf0 _ h1⟩
   have lk:one ≠ oth->0<=(if oth < one then oth else one)/\(if oth < one then oth else one) < (if oth > one then oth else one)/\(if oth > one then oth else one) < n:=fun ne=>by
    split <;> split <;> omega
   refine⟨_,rfl,_,_,rfl,rfl,⟨by decide,by decide⟩,_,_,rfl,rfl,(by show (0:Int) < 4; decide),.inl ⟨_,_,rfl,rfl,_,rfl,?_⟩⟩
   cases h2:(if false=true then !decide (t / 4096 % 4=0) else decide (t / 4096 % 4=0)) with
   | true=>
    refine aY ⟨_,rfl,_,_,rfl,rfl,⟨by decide,by decide⟩,_,_,rfl,rfl,(by show (0:Int) < 5; decide),_,rfl,_,rfl,one,one.toNat,rfl,?_,trivial,?_⟩
    ·rw [b4]; unfold i9; rw [if_pos o1.1,if_pos (by omega)]
    ·refine⟨some (.sh (gg || true) (.int cell)),si t,si one,si oth,ws.set one.toNat (t / 16384 % 5),ps,?_,by rw [ba1]; exact wl,nw.set (bc7 _ (by decide)) _,dk⟩
     rw [show intz (ws.set one.toNat (t / 16384 % 5))=(intz ws).set one.toNat (.int (t / 16384 % 5)) from List.map_set ..]
     rfl
   | false=>
    refine aU ⟨_,rfl,_,rfl,.inl ⟨_,_,rfl,rfl,_,rfl,?_⟩⟩
    show if (!decide (one=oth))=true then _ else _
    have third:(cC (aV (jQ (a5 7) (a5 8))) (lS 4 (dF (a6 (aC lO (a6 (a5 7) (a6 (a5 8) a9))) (a6 (aC kK (a6 (a5 7) (a6 (a5 8) a9))) a9))) (qC (.bl true))) cF) { nx:=fun ρ=>∃ (a b c d:Option Slot) (ws:List Int) (ps:List (List aB × PV)),ρ = [some (.sh g x),si n,si wy,some (.own (.lst (intz ws))),some (.own (.dT ps)),a,b,c,d,none]/\(ws.length:Int)=n/\NN ws/\DK n ps,rt:=Q,ct:=fun ρ=>∃ (a b c d:Option Slot) (ws:List Int) (ps:List (List aB × PV)),ρ = [some (.sh g x),si n,si wy,some (.own (.lst (intz ws))),some (.own (.dT ps)),a,b,c,d,none]/\(ws.length:Int)=n/\NN ws/\DK n ps,bk:=(aI (b5 9 (bU (fD (a5 1)) [none,some 4] (bG 0) cT (aC dU (a6 (rK (a5 1) [none,some 0] (bG 0) (aV (q2 (kO false) (a5 1) (a5 0))) (a5 0)) a9)))) (bE (dF (a6 (aC eL (a6 (wU mG (a6 (a5 2) (a6 (a5 3) (a6 (a5 9) a9)))) a9)) (a6 (aC eL (a6 (aC r6 (a6 (aC r9 (a6 (a5 4) a9)) a9)) a9)) a9))))) { nx:=fun _=>Q .non,rt:=Q } }
      [some (.sh g x),si n,si wy,some (.own (.lst (intz ws))),some (.own (.dT ps)),some (.sh (gg || true) (.int cell)),si t,si one,si oth,none]:=by
     refine⟨_,rfl,_,rfl,.inl ⟨_,_,rfl,rfl,_,rfl,?_⟩⟩
     show if (!decide (one=oth))=true then _ else _
     by_cases h3:one=oth
     ·rw [aW5 h3]
      exact aU ⟨some (.sh (gg || true) (.int cell)),si t,si one,si oth,ws,ps,rfl,wl,nw,dk⟩
     ·rw [aW4 h3]
      refine aY ⟨_,rfl,_,rfl,_,rfl,_,_,rfl,_,rfl,_,rfl,_,_,rfl,by show 2<=1000; decide,rfl,fK (if oth < one then oth else one,if oth > one then oth else one),rfl,trivial,by omega,?_⟩
      exact⟨some (.sh (gg || true) (.int cell)),si t,si one,si oth,ws,_,rfl,wl,nw,dk.put _ (lk h3)⟩
    by_cases h3:one=oth
    ·rw [aW5 h3]
     exact aU (aU third)
    ·rw [aW4 h3]
     refine aY ⟨_,rfl,_,rfl,_,_,rfl,_,rfl,_,rfl,_,_,rfl,by show 2<=1000; decide,rfl,_,rfl,_,.inr ⟨ps,fK (if oth < one then oth else one,if oth > one then oth else one),rfl,rfl,rfl⟩,_,rfl,?_⟩
     cases hv:(bQ ps (fK (if oth < one then oth else one,if oth > one then oth else one))).isSome with
     | false=>exact aU third
     | true=>
      have is:∃ j:Nat,(ps.map (·.1))[j]? = some (fK (if oth < one then oth else one,if oth > one then oth else one)):=by
       rw [<- qX] at hv
       obtain ⟨p,hp,e⟩:=List.any_eq_true.mp hv
       have e:=bf8 e
       obtain ⟨j,hj,ej⟩:=List.getElem_of_mem hp
       exact⟨j,by rw [aV7,aV2 hj,ej]; exact congrArg some e⟩
      refine aY ⟨_,rfl,_,rfl,_,rfl,_,_,rfl,_,rfl,_,rfl,_,_,rfl,by show 2<=1000; decide,rfl,fK (if oth < one then oth else one,if oth > one then oth else one),rfl,is,fun j hj=>?_⟩
      exact⟨some (.sh (gg || true) (.int cell)),si t,si one,si oth,ws,_,rfl,wl,nw,dk.cut j⟩
  ·dsimp only
   rw [aW4 h1]
   exact aU ⟨some (.sh (gg || true) (.int cell)),b,c,d,ws,ps,rfl,wl,nw,dk⟩
 rintro ρ ⟨a,b,c,d,ws,ps,rfl,wl,nw,dk⟩
 have few:=dk.few n1
 refine⟨_,rfl,n,rfl,by omega,by omega,by rw [cO]; omega,fun i acc=>∃ ds,acc=intz ds/\ds.length=i/\NN ds,⟨[],rfl,rfl,fun _ h=>nomatch h⟩,?_,?_⟩
 ·rintro i y acc hy ⟨ds,rfl,dl,dn⟩
  obtain ⟨rfl,hi⟩:=gO hy
  refine⟨_,rfl,ps,rfl,by omega,?_,fun j acc=>True,trivial,?_,?_⟩
  ·intro m hm
   have hm:some m ∈ [none,some (Slot.sh false (.int (0+(i:Int))))]:=hm
   simp only [aV5,aW3,aZ5,Option.some.injEq,reduceCtorEq,false_or] at hm
   rw [hm]; rfl
  ·rintro j k acc hk _
   have hk':k ∈ ps.map (·.1):=aW8 hk
   obtain ⟨p,hp,rfl⟩:=bb4.mp hk'
   obtain ⟨l,e,_⟩:=dk.key p hp
   rw [e]
   refine⟨_,rfl,_,rfl,_,[l.1,l.2],rfl,rfl,_,rfl,?_⟩
   show if decide (0+(i:Int) ∈ [l.1,l.2])=true then _ else _
   cases decide (0+(i:Int) ∈ [l.1,l.2]) with
   | true=>exact aY ⟨_,rfl,⟨trivial,rfl⟩,trivial⟩
   | false=>exact aU trivial
  ·rintro acc _
   refine⟨_,_,rfl,rfl,trivial,ds ++ [(acc.length:Int)],by rw [cQ]; rfl,by rw [aU9,dl]; rfl,dn.app (by omega)⟩
 rintro acc ⟨ds,rfl,dl,dn⟩
 rw [cO] at dl
 obtain ⟨ls,e1,e2,e3,e4⟩:=DL.links dk.key
 have lnd:ls.Nodup:=by
  have:=dk.nd
  rw [e4] at this
  exact (bb8.mp this).imp fun h e=>h (congrArg fK e)
 refine⟨trivial,_,rfl,_,rfl,_,rfl,wy,ws,ds,rfl,by omega,by omega,nw,dn,fun zs zl zn=>⟨⟨_,_,rfl,rfl,c8 _,_,rfl,ps,rfl,ls.map two,?_,by rw [aV1]; omega,?_,fun us pz so=>?_⟩,fun ns z=>by cases z⟩⟩
 ·show [PV.lst (ps.map fun p=>PV.tup (p.1.map kP))]=_
  rw [e1,O6]
 ·intro y hy z
  obtain ⟨l,_,rfl⟩:=bb4.mp hy
  cases z
 obtain ⟨ls',rfl,pl⟩:=aC0 pz
 rw [<- O6]
 exact⟨⟨_,_,rfl,rfl,m9 _,by show 2<=1000; decide,aC2 _ _,trivial,q zs ls' (kW.perm (by omega) e2 (by omega) lnd zn pl so)⟩,fun ns z=>by cases z⟩
theorem aJ0:cU S4 ["flow","many","way","wants","links","cell","turn","one","other","degrees"] rO:=by
 rintro xs Q ⟨x,ns,n,wy,rfl,hx,hns,n0,n1,q⟩
 refine⟨_,rfl,n,rfl,by omega,by omega,by rw [cO]; omega,fun i acc=>∃ ws,acc=intz ws/\ws.length=i/\NN ws,⟨[],rfl,rfl,fun _ h=>nomatch h⟩,?_,?_⟩
 ·rintro i y acc hy ⟨ws,rfl,wl,nw⟩
  obtain ⟨rfl,hi⟩:=gO hy
  have e0:=bc7 (0+(i:Int)) (show (2:Int) ≠ 0 by decide)
  refine⟨_,rfl,_,_,rfl,rfl,(by show (0:Int) < 2; decide),_,_,rfl,rfl,trivial,ws ++ [1+(0+(i:Int)) % 2],by rw [cQ]; rfl,by rw [aU9,wl]; rfl,nw.app (by omega)⟩
 rintro acc ⟨ws,rfl,wl,nw⟩
 rw [cO] at wl
 refine⟨rfl,c8 _,rfl,rfl,?_⟩
 have last:wW { nx:=fun _=>Q .non,rt:=Q } [some (.sh (flat x) x),si n,si wy,some (.own (.lst (intz ws))),some (.own (.dT [])),none,none,none,none,none]:=
  S5 hx (aC5 hx) n0 n1 (by omega) nw (DK.nil n) q
 refine⟨_,rfl,_,_,rfl,hx.len,_,_,rfl,rfl,_,rfl,?_⟩
 by_cases h1:(0:Int) < (ns.length:Int)
 ·dsimp only
  rw [aW5 h1]
  have g0:ns[0]? = some (ns[0]'(by omega)):=aV2 (by omega)
  have i0:L2.atI (intz ns) (0:Int)=some (.int (ns[0]'(by omega))):=tG (xs:=intz ns) (j:=0) (by rw [aV7,g0]; rfl)
  refine aY ⟨_,rfl,_,_,_,hx.seq,rfl,i0,_,_,rfl,rfl,(by show (0:Int) < 2; decide),.inl ⟨_,_,rfl,rfl,_,rfl,?_⟩⟩
  cases h2:(if false=true then !decide (ns[0]'(by omega) % 2=1) else decide (ns[0]'(by omega) % 2=1)) with
  | true=>
   refine aY ⟨_,rfl,_,_,_,hx.seq,rfl,i0,_,_,rfl,rfl,⟨by decide,by decide⟩,_,rfl,_,n,rfl,n0,by omega,fun ws2 ps wl2 nw2 dk=>⟨_,_,by decide,rfl,rfl,c8 _,dk.fl,?_⟩⟩
   refine⟨_,rfl,_,rfl,_,hx.seqTF,c8 _,trivial,?_⟩
   have hc:gP (qG x (fE (intz ns) (some 1) none)) (ns.drop 1):=by
    rcases hx with rfl | rfl
    ·exact .inr (by show PV.lst (fE (intz ns) (some 1) none)=_; rw [wF ns (by decide)]; rfl)
    ·exact .inr (by show PV.lst (fE (intz ns) (some 1) none)=_; rw [wF ns (by decide)]; rfl)
   exact S5 (g:=true) hc (fun z=>by cases z) n0 n1 wl2 nw2 dk q
  | false=>exact aU last
 ·dsimp only
  rw [aW4 h1]
  exact aU (aU last)
def rP:bF:=fun xs Q=>∃ c n:Int,xs = [.int c,.int n]/\0<=n/\n<=40/\∀ S,aW n.toNat S=true->Q (.tup (intz S))
def S6:aK:=(aI (cC (aV (gM (cY (a5 0) (qC (.int 2))) (qC (.int 1)))) (bE (aC eL (a6 (bU (fD (a5 1)) [none,some 0] (bG 0) (aV (gM (cY (av7 (a5 1) (fF (a5 0) (qC (.int 1)))) (qC (.int 2))) (qC (.int 1)))) (a5 0)) a9))) cF)
 (bE (aC eL (a6 (bU (fD (a5 1)) [none,some 0] (bG 0) (aV (j5 (cY (aC jZ (a6 (a5 1) (a6 (a5 0) a9))) (qC (.int 8))) (fF (qC (.int 1)) (cY (fT (a5 1) (qC (.int 2))) (qC (.int 7)))))) (a5 0)) a9))))
def iO (i:Nat) (S:List Int):Prop:=S.Pairwise (· < ·)/\∀ x ∈ S,0<=x/\x < (i:Int)
theorem iO.more {i:Nat}{S:List Int} (h:iO i S):iO (i+1) S:=⟨h.1,fun x hx=>by have:=h.2 x hx; omega⟩
theorem iO.app {i:Nat}{S:List Int} (h:iO i S):iO (i+1) (S ++ [(0:Int)+(i:Int)]):=by
 refine⟨bf4.mpr ⟨h.1,aY1 _ _,fun a ha b hb=>?_⟩,fun x hx=>?_⟩
 ·rw [aV6.mp hb]
  have:=h.2 a ha
  omega
 ·rcases aX3.mp hx with hx | hx
  ·have:=h.2 x hx; omega
  ·rw [aV6.mp hx]; omega
theorem iO.set {i:Nat}{S:List Int} (h:iO i S):aW i S=true:=by
 unfold aW
 rw [L6 h.1,Bool.true_and,bd8]
 intro b hb
 obtain ⟨x,hx,rfl⟩:=bb4.mp hb
 have:=h.2 x hx
 unfold inB
 simp only [id,aW7,bb3]
 exact this
theorem aJ1:cU S6 ["cell","many"] rP:=by
 rintro xs Q ⟨c,n,rfl,n0,n1,q⟩
 refine⟨_,rfl,_,_,rfl,rfl,(by show (0:Int) < 2; decide),.inl ⟨_,_,rfl,rfl,_,rfl,?_⟩⟩
 cases h1:(if false=true then !decide (c % 2=1) else decide (c % 2=1)) with
 | true=>
  refine aY ⟨_,rfl,n,rfl,by omega,by omega,by rw [cO]; omega,fun i acc=>∃ S,acc=intz S/\iO i S,⟨[],rfl,.nil,fun _ h=>nomatch h⟩,?_,?_⟩
  ·rintro i y acc hy ⟨S,rfl,hS⟩
   obtain ⟨rfl,hi⟩:=gO hy
   refine⟨_,rfl,_,rfl,_,_,rfl,rfl,_,_,rfl,rfl,(by show (0:Int)<=0+(i:Int)+1; omega),_,_,rfl,rfl,(by show (0:Int) < 2; decide),.inl ⟨_,_,rfl,rfl,_,rfl,?_⟩⟩
   dsimp only
   generalize (if false=true then _ else _)=b
   cases b with
   | true=>exact aY ⟨_,rfl,trivial,S ++ [(0:Int)+(i:Int)],by rw [cQ]; rfl,hS.app⟩
   | false=>exact aU ⟨S,rfl,hS.more⟩
  ·rintro acc ⟨S,rfl,hS⟩
   rw [cO] at hS
   exact⟨⟨_,_,rfl,rfl,c8 _,trivial,q S hS.set⟩,fun ns z=>by cases z⟩
 | false=>
  refine aU ⟨_,rfl,n,rfl,by omega,by omega,by rw [cO]; omega,fun i acc=>∃ S,acc=intz S/\iO i S,⟨[],rfl,.nil,fun _ h=>nomatch h⟩,?_,?_⟩
  ·rintro i y acc hy ⟨S,rfl,hS⟩
   obtain ⟨rfl,hi⟩:=gO hy
   refine⟨_,rfl,_,rfl,c,_,rfl,by omega,by omega,fun z z0=>⟨_,_,rfl,rfl,(by show (0:Int) < 8; decide),_,rfl,_,_,rfl,rfl,⟨by decide,by decide⟩,_,_,rfl,rfl,(by show (0:Int) < 7; decide),_,_,rfl,rfl,_,_,rfl,rfl,_,rfl,?_⟩⟩
   dsimp only
   generalize decide ((_:Int) < _)=b
   cases b with
   | true=>exact aY ⟨_,rfl,trivial,S ++ [(0:Int)+(i:Int)],by rw [cQ]; rfl,hS.app⟩
   | false=>exact aU ⟨S,rfl,hS.more⟩
  ·rintro acc ⟨S,rfl,hS⟩
   rw [cO] at hS
   exact⟨⟨_,_,rfl,rfl,c8 _,trivial,q S hS.set⟩,fun ns z=>by cases z⟩
def rQ:bF:=fun xs Q=>∃ ws ls h,xs = [bB ws ls,.int h]/\(∀ l ∈ ls,l.1 ≠ l.2)/\ls.length<=1700/\Q (.lst (intz (cN ls h)))
def S7:aK:=(bE (bU (dG (fG (a5 0) (qC (.int 1)))) [none,none,some 1] (gY 0 1) (aV (q2 (kO false) (a5 2) (dF (a6 (a5 0) (a6 (a5 1) a9))))) (vA (fF (a5 0) (a5 1)) (a5 2))))
theorem aJ2:cU S7 ["web","hearth"] rQ:=by
 rintro xs Q ⟨ws,ls,h,rfl,hne,hl,q⟩
 refine⟨_,rfl,_,_,_,rfl,rfl,rfl,cM ls,rfl,(fun z=>m9 ls),by rw [N5]; omega,fun i acc=>acc=intz (cN (ls.take i) h),rfl,?_,?_⟩
 ·rintro i y acc hy rfl
  obtain ⟨l,rfl,hi⟩:=aA7 hy
  have tk:=C6 hi h
  have ne:=hne l (aW8 hi)
  refine⟨_,_,rfl,_,rfl,_,rfl,_,rfl,by show 2<=1000; decide,rfl,h,[l.1,l.2],rfl,rfl,_,rfl,?_⟩
  show if decide (h ∈ [l.1,l.2])=true then _ else _
  by_cases h1:l.1=h
  ·rw [if_pos h1,if_neg (by rw [<- h1]; exact Ne.symm ne)] at tk
   rw [aW5 (by rw [<- h1]; exact aV9)]
   refine aY ⟨_,rfl,_,rfl,_,_,rfl,rfl,_,rfl,_,_,rfl,rfl,trivial,?_⟩
   dsimp only
   rw [tk,cQ,show l.1+l.2 - h=l.2 by omega]
   simp
  ·by_cases h2:l.2=h
   ·rw [if_neg h1,if_pos h2] at tk
    rw [aW5 (by rw [<- h2]; simp)]
    refine aY ⟨_,rfl,_,rfl,_,_,rfl,rfl,_,rfl,_,_,rfl,rfl,trivial,?_⟩
    dsimp only
    rw [tk,cQ,show l.1+l.2 - h=l.1 by omega]
    simp
   ·rw [if_neg h1,if_neg h2] at tk
    rw [aW4 (by simp; exact⟨Ne.symm h1,Ne.symm h2⟩)]
    refine aU ?_
    dsimp only
    rw [tk]; simp
 ·rintro acc rfl
  rw [N5,aX9]
  exact⟨trivial,q⟩
end Core
namespace PP
open PySem L2
section
variable {X : Cx} {te : aE} {pos p2 : Pos} {scope : Scope} {N : List Str} {fr : List (Option Nat)} {x : Str} {tp : Pos} {iter elt : Expr} {ti : dW}
theorem aJ3 {ifs:List Expr}{tcs:bT} (he:∀ (s:Shared) (H:Hp) (C:Addr) (fp:List Addr),QE (b6 X scope N s H C fp bC) elt te) (hi:∀ (s:Shared) (H:Hp) (C:Addr) (fp:List Addr),iW (b6 X scope N s H C fp bC) ifs (LT (b6 X scope N s H C fp bC) tcs))
  (hN:N.Nodup) (h0:N[0]? = some x) (hl:∀ (s:Shared) (H:Hp) (C:Addr) (fp:List Addr),(b6 X scope N s H C fp bC).env.scope.names.lookup x=some .cell) (ho:scope.names.lookup x=some .cell) (s:Shared) (H:Hp) :
  kH X scope N (.Name x tp) ifs elt s H (bP 0) (LT (X.frm H) tcs) (LE (X.frm H) te):=
 ⟨fun C fp=>eB (X:=b6 X scope N s H C fp bC) hN h0 (.inr (hl s H C fp)) (.inl (show (scope.names.lookup x == some NameKind.cell)=true by rw [ho]; rfl)),fun C fp=>hi s H C fp,fun C fp=>he s H C fp⟩
theorem aJ4 {i:Nat}{z:Str}{zp:Pos} (nd:X.N.Nodup) (hi:QI X (.Name x tp) iter ti) (he:∀ (s:Shared) (H:Hp) (C:Addr) (fp:List Addr),QE (b6 X scope N s H C fp bC) elt te)
  (hz:X.N[i]? = some z:=by rfl) (hzl:X.env.scope.names.lookup z=some .local:=by rfl) (hsw:swapsWith (.ListComp elt [⟨.Name x tp,iter,[],0⟩] scope p2) (some (.Name z zp)) pos.line X.env=pure true:=by rfl)
  (hc:X.calm=true:=by rfl) (S:bS X scope N fr:=by exact bS.of rfl rfl) (hN:N.Nodup:=by decide +kernel) (h0:N[0]? = some x:=by rfl) (hl:∀ (s:Shared) (H:Hp) (C:Addr) (fp:List Addr),(b6 X scope N s H C fp bC).env.scope.names.lookup x=some .cell:=by intro _ _ _ _; rfl) (ho:scope.names.lookup x=some .cell:=by rfl) (hf:fr[0]? = some none:=by rfl)
  (hs:∀ x,foldedSetIterable iter X.env x=pure x:=by intro _; rfl):QS X (.Assign [.Name z zp] (.ListComp elt [⟨.Name x tp,iter,[],0⟩] scope p2) pos) (b5 i (bU ti fr (bG 0) cT te)):=
 cZ (nJ (gh:=fun _=>bP 0) (tch:=fun H=>LT (X.frm H) cT) (teh:=fun H=>LE (X.frm H) te) hc S hi (aJ3 he (fun _ _ _ _=>o9) hN h0 hl ho) nd hz hzl hsw hs) fun D σ H h=>j4 (jN _ 0) (fun i e=>by subst e; exact hf) (nU h)
end
end PP
namespace Core
open PySem L2 PP
def rR (f:List Int->List (Int × Int)->List Int->(PV->Prop)->Prop):dB:=fun Ep xs Q=>∃ ws ls x ns,xs = [bB ws ls,x]/\Wb ws ls/\bW x ns/\ns.length<=1000/\(aW ws.length ns=true->f ws ls ns Q)/\(aW ws.length ns=false->Ep "BadSet")
def rS:dB:=rR fun ws ls ns Q=>∀ m,cJ ws ls ns m->Q (.lst (tups (ns :: after ws ls ns m)))
def rT:dB:=rR fun ws ls ns Q=>∀ m,cJ ws ls ns m->Q (.dK (jB (ns :: after ws ls ns m)))
def rU:dB:=rR fun ws ls ns Q=>∀ ms m,cJ ws ls ns m->ms.Perm (aZ ws ls ns m)->ms.Pairwise (· <= ·)->Q (.tup (intz ms))
def S8 (Ep:Str->Prop):aK:=(aI (eI 2 (jM (a6 (eV Ep jY (a6 (a5 0) (a6 (a5 1) a9))) a9)))
 (aI (eI 3 (aC hZ (a6 (fG (a5 2) (qC (.int 0))) a9)))
 (aI (b5 4 (aC j8 (a6 (a5 0) a9)))
 (aI (b5 5 (aC oE (a6 (a5 0) (a6 (a5 4) (a6 (a5 3) a9)))))
 (aI (lM (nX (a5 5))
  (aI (lN 2 (a5 5))
  (aI (v5 3 (aC hZ (a6 (a5 5) a9)))
  (b5 5 (aC oE (a6 (a5 0) (a6 (a5 4) (a6 (a5 3) a9))))))))
 (gK 2))))))
theorem aJ5:gS S8 ["web","seeds","told","burning","around","lit"] rS:=by
 rintro Ep xs Q ⟨ws,ls,x,ns,rfl,wb,hx,hl,q,qe⟩
 have few:=wb.few
 refine⟨_,rfl,_,rfl,ws,ls,x,ns,rfl,hx,hl,fun hs=>?_,qe⟩
 have q:=q hs
 have ln:=mC hs
 refine⟨by show 1<=1000; decide,?_,rfl,?_,?_⟩
 ·show (flat (.tup (intz ns)) && true)=true
  rw [qV]; rfl
 ·show (flat (.tup (intz ns)) && true)=true
  rw [qV]; rfl
 refine⟨_,rfl,_,_,_,rfl,rfl,rfl,_,ns,rfl,.inl rfl,by omega,fun ps d=>⟨rfl,d.fl,?_⟩⟩
 refine⟨_,rfl,ws,ls,rfl,wb,trivial,?_⟩
 refine⟨_,rfl,_,rfl,_,rfl,ws,ls,ps,ns,rfl,wb,d,trivial,?_⟩
 refine⟨fun n ρ=>∃ k ps,ρ = [some (.sh (flat (bB ws ls)) (bB ws ls)),some (.sh (flat x) x),some (.own (.lst (tups (ns :: after ws ls ns k)))),some (.own (.dK ps)),some (.sh true (.lst (fW ws.length ls))),some (.sh true (.tup (intz (nextOf ws ls (aZ ws ls ns k)))))]/\
   n=eS ws (aZ ws ls ns k)/\DS ps (aZ ws ls ns k)/\∀ j < k,nextOf ws ls (aZ ws ls ns j) ≠ [],⟨_,0,ps,rfl,rfl,d,fun _ z=>absurd z (Nat.not_lt_zero _)⟩,?_⟩
 rintro n ρ ⟨k,ps,rfl,rfl,d,ne⟩
 refine⟨_,rfl,_,rfl,?_⟩
 cases hn:nextOf ws ls (aZ ws ls ns k) with
 | nil=>exact aU ⟨_,rfl,trivial,q k ⟨ne,hn⟩⟩
 | cons y yr=>
  refine aY ?_
  rw [<- hn]
  have cs:=vW ws ls (aZ ws ls ns k)
  have nl:1<=(nextOf ws ls (aZ ws ls ns k)).length:=by rw [hn]; exact Nat.succ_le_succ (aZ2 _)
  have nle:=az2 ws ls (aZ ws ls ns k)
  have sl:=wB (ls:=ls) hs k
  have dl:=d.len
  have ke:=M0 k ne
  refine⟨_,rfl,_,rfl,trivial,?_,?_⟩
  ·rw [jU,aY9]
   unfold after
   rw [aV1,be3]; omega
  refine⟨_,rfl,_,rfl,_,_,rfl,.inl rfl,by omega,fun mp dm=>⟨mp,rfl,.inl rfl,?_,?_⟩⟩
  ·have:=dm.len; omega
  have D7:DS (gZ ps mp) (aZ ws ls ns (k+1)):=d.merge dm
  refine⟨_,rfl,_,rfl,_,rfl,ws,ls,_,_,rfl,wb,D7,trivial,?_⟩
  refine⟨_,?_,k+1,gZ ps mp,?_,rfl,D7,fun j hj=>?_⟩
  ·show eS ws (aZ ws ls ns k ++ nextOf ws ls (aZ ws ls ns k)) < _
   omega
  ·rw [L7,<- List.cons_append]
   unfold tups
   rw [aX8]; rfl
  ·by_cases e:j=k
   ·rw [e,hn]; exact fun z=>nomatch z
   ·exact ne j (by omega)
def S9 (Ep:Str->Prop):aK:=(aI (eI 2 (qC (.dK [])))
 (aI (dX (rD (eV Ep rS (a6 (a5 0) (a6 (a5 1) a9)))) (gY 3 4)
  (dX (dG (a5 4)) (bG 5)
   (lR 2 (a5 5) (a5 3))))
 (gK 2)))
theorem aJ6:gS S9 ["web","seeds","ranks","rank","lit","hearth"] rT:=by
 rintro Ep xs Q ⟨ws,ls,x,ns,rfl,wb,hx,hl,q,qe⟩
 have few:=wb.few
 refine⟨rfl,rfl,_,rfl,_,rfl,ws,ls,x,ns,rfl,wb,hx,hl,fun hs m en=>⟨_,.inl rfl,fun z=>(by cases z),?_⟩,qe⟩
 have q:=q hs
 have fl:=vX ws ls ns m
 have sl:=wB (ls:=ls) hs m
 have nd:=wP (ls:=ls) hs m
 generalize hrs:ns :: after ws ls ns m=rs at fl
 rw [<- fl] at sl nd
 refine⟨fun i ρ=>∃ y z u,ρ = [some (.sh (flat (bB ws ls)) (bB ws ls)),some (.sh (flat x) x),some (.own (.dK (jB (rs.take i)))),y,z,u],⟨none,none,none,rfl⟩,?_,?_⟩
 ·rintro i y ρ hy ⟨y0,z0,u0,rfl⟩
  obtain ⟨y,hy2,rfl⟩:=P6 hy
  obtain ⟨r,rfl,hr⟩:=w9 hy2
  have tk:rs.take (i+1)=rs.take i ++ [r]:=by rw [aX7,hr]; rfl
  have il:(rs.take i).length=i:=by
   have:=(aV3.mp hr).1
   rw [ba8]; omega
  have nd2:((rs.take i).flatten ++ r).Nodup/\((rs.take i).flatten ++ r).length<=rs.flatten.length:=by
   have e:rs.flatten=((rs.take i).flatten ++ r) ++ (rs.drop (i+1)).flatten:=by
    rw [<- List.flatten_singleton (l:=r),<- List.flatten_append,<- tk,<- List.flatten_append,List.take_append_drop]
   rw [e] at nd ⊢
   exact⟨(aY7.mp nd).1,by rw [aU9 (as:=(rs.take i).flatten ++ r)]; omega⟩
  refine⟨_,_,rfl,_,rfl,_,rfl,fun z=>(by cases z),fun j ρ=>∃ u,ρ = [some (.sh (flat (bB ws ls)) (bB ws ls)),some (.sh (flat x) x),some (.own (.dK (jB (rs.take i) ++ gQ i (r.take j)))),some (.sh true (.int (i:Int))),some (.sh true (.tup (intz r))),u],⟨u0,?_⟩,?_,?_⟩
  ·rw [show gQ i (r.take 0) = [] from rfl,aY4]
   rfl
  ·rintro j y ρ hy ⟨u1,rfl⟩
   obtain ⟨n,rfl,hn⟩:=eU hy
   have ke:(jB (rs.take i) ++ gQ i (r.take j)).map (·.1)=((rs.take i).flatten ++ r.take j).map (Sum.inl:Int->aB):=by
    rw [aX8,aX8,Q7,Q5]
   have nn:n ∉ (rs.take i).flatten ++ r.take j:=by
    have:=nd2.1
    rw [<- List.take_append_drop j r,List.drop_eq_getElem_cons (aV3.mp hn).1,(aV3.mp hn).2,<- bb9] at this
    exact fun z=>(aY7.mp this).2.2 n z n aV9 rfl
   have le:(jB (rs.take i) ++ gQ i (r.take j)).length<=40:=by
    have e1:=congrArg List.length ke
    have e2:=nd2.2
    rw [aV1,aV1,aU9,aU9,ba8] at e1
    rw [aU9] at e2
    rw [aU9]
    omega
   refine⟨_,rfl,_,rfl,_,rfl,Sum.inl n,rfl,trivial,by omega,si n,?_⟩
   rw [aG9 ke nn,aH0 hn,bb9]
   rfl
  ·rintro ρ ⟨u,rfl⟩
   refine⟨some (.sh true (.int i)),some (.sh true (.tup (intz r))),u,?_⟩
   rw [b4,aX9,tk,aG8,il]
 ·rintro ρ ⟨y,z,u,rfl⟩
  rw [rC,jU,aX9,<- hrs]
  exact⟨_,rfl,trivial,q m en⟩
def T0 (Ep:Str->Prop):aK:=(bE (aC eL (a6 (aC wQ (a6 (eV Ep rT (a6 (a5 0) (a6 (a5 1) a9))) a9)) a9)))
theorem aJ7:gS T0 ["web","seeds"] rU:=by
 rintro Ep xs Q ⟨ws,ls,x,ns,rfl,wb,hx,hl,q,qe⟩
 have few:=wb.few
 refine⟨_,rfl,_,rfl,ws,ls,x,ns,rfl,wb,hx,hl,fun hs m en=>?_,qe⟩
 have sl:=wB (ls:=ls) hs m
 refine⟨_,aZ ws ls ns m,rfl,?_,by omega,fun ms hp ho=>⟨⟨_,_,rfl,rfl,c8 _,trivial,q hs ms m en hp ho⟩,fun ns z=>by cases z⟩⟩
 rw [Q7,vX]
def bN (hs:List Int):List (List Int):=hs.foldl (fun acc h=>acc ++ acc.map fun p=>p ++ [h]) [[]]
theorem l3 (hs:List Int) (h:Int):bN (hs ++ [h])=bN hs ++ (bN hs).map fun p=>p ++ [h]:=by
 unfold bN; rw [List.foldl_append]; rfl
theorem aJ8:∀ hs:List Int,∀ k,(bN (hs.take k)).length=2 ^ min k hs.length:=by
 intro hs k
 induction k with
 | zero=>simp [bN]
 | succ k ih=>
  by_cases h:k < hs.length
  ·have tk:hs.take (k+1)=hs.take k ++ [hs[k]]:=by rw [aX7,aV2 h]; rfl
   rw [tk,l3,aU9,aV1,ih,show min (k+1) hs.length=min k hs.length+1 by omega,Nat.pow_succ]
   omega
  ·rw [bc3 (by omega),show min (k+1) hs.length=min k hs.length by omega,<- ih,bc3 (by omega)]
def rV:bF:=fun xs Q=>∃ x hs,xs = [x]/\bW x hs/\hs.length<=12/\Q (.lst (tups (bN hs)))
def T1:aK:=(aI (b5 1 (jM (a6 (dF a9) a9)))
 (aI (dX (dG (a5 0)) (bG 2)
  (b5 1 (wH (a5 1) (bU (dG (a5 1)) [none,some 2] (bG 0) cT (oI (a5 0) (dF (a6 (a5 1) a9)))))))
 (gK 1)))
theorem aJ9:cU T1 ["hearths","chosen","hearth"] rV:=by
 rintro xs Q ⟨x,S,rfl,hx,hl,q⟩
 refine⟨by decide,rfl,by show 1<=1000; decide,rfl,trivial,?_⟩
 refine⟨_,rfl,_,hx.seq,kU hx,fun i ρ=>∃ (y:Option Slot),ρ = [some (.sh (flat x) x),some (.sh true (.lst (tups (bN (S.take i))))),y],⟨none,rfl⟩,?_,?_⟩
 ·rintro i y ρ hy ⟨y0,rfl⟩
  obtain ⟨h,rfl,hi⟩:=eU hy
  have il:i < S.length:=(aV3.mp hi).1
  have sl:=aJ8 S i
  have p8:(bN (S.take i)).length<=4096:=by
   rw [sl]
   exact aY8 (Nat.pow_le_pow_right (by decide) (show min i S.length<=12 by omega)) (by decide)
  have shr:∀ p ∈ bN (S.take i),p.length<=12:=by
   have gen:∀ hs:List Int,∀ p ∈ bN hs,p.length<=hs.length:=by
    intro hs
    have:∀ (n:Nat) (hs:List Int),hs.length=n->∀ p ∈ bN hs,p.length<=hs.length:=by
     intro n
     induction n with
     | zero=>intro hs e p hp; rw [List.eq_nil_of_length_eq_zero e] at hp ⊢; rw [aV6.mp (show p ∈ [[]] from hp)]; exact aV0 _
     | succ n ih=>
      intro hs e p hp
      rcases List.eq_nil_or_concat hs with z | ⟨l,a,z⟩
      ·rw [z] at e; cases e
      ·have z:hs=l ++ [a]:=by rw [z]; simp
       subst z
       have le:l.length=n:=by simpa using e
       rw [l3] at hp
       rw [aU9,aZ1]
       rcases aX3.mp hp with z | z
       ·have:=ih l le p z; omega
       ·obtain ⟨r,hr,rfl⟩:=bb4.mp z
        have:=ih l le r hr
        rw [aU9,aZ1]; omega
    exact this hs.length hs rfl
   intro p hp
   have:=gen _ p hp
   rw [ba8] at this
   omega
  have tk:S.take (i+1)=S.take i ++ [h]:=by rw [aX7,hi]; rfl
  refine kY ?_
  refine⟨_,rfl,_,rfl,_,rfl,(fun z=>by cases z),by rw [jU]; omega,fun j acc=>acc=tups (((bN (S.take i)).take j).map fun p=>p ++ [h]),rfl,?_,?_⟩
  ·rintro j z acc hz rfl
   obtain ⟨p,rfl,hj⟩:=w9 hz
   refine⟨_,rfl,_,rfl,by show 1<=1000; decide,rfl,_,_,rfl,rfl,c8 _,rfl,?_,trivial,?_⟩
   ·have:=shr p (aW8 hj)
    rw [b4]
    show p.length+1<=16000000
    omega
   ·show tups _ ++ [PV.tup (intz p ++ intz [h])]=tups (((bN (S.take i)).take (j+1)).map fun p=>p ++ [h])
    rw [aX7,hj,<- cQ]
    unfold tups
    rw [aX8,aX8]
    rfl
  ·rintro acc rfl
   rw [jU,aX9]
   refine⟨_,_,rfl,rfl,wA _,wA _,?_,trivial,some (.sh true (.int h)),?_⟩
   ·rw [jU,jU,aV1]; omega
   ·rw [tk,l3]
    unfold tups
    rw [aX8]; rfl
 ·rintro ρ ⟨y,rfl⟩
  rw [b4,aX9]
  exact⟨_,rfl,trivial,q⟩
section
variable {ws : List Int} {ls : List (Int × Int)}
def cne (ws:List Int) (ls:List (Int × Int)) (S:List Int):Bool:=!decide (S = []) && decide (stay ws ls S=S)
end
theorem wX {b:Bool}{A B:Prop} (a:A) (c:B):if b=true then A else B:=by
 cases b with
 | true=>exact aY a
 | false=>exact aU c
def far (ns S:List Int):Bool:=decide (((S.filter fun x=>decide (x ∈ ns)).length:Int)=0)
def rW:dB:=fun Ep xs Q=>∃ ws ls x ns y os,xs = [bB ws ls,x,y]/\Wb ws ls/\bW x ns/\ns.length<=1000/\bW y os/\os.Perm (rng ws.length)/\(aW ws.length ns=true->∀ k,mD ws ls os ns k->Q (.lst (intz (bX ws ls os ns k))))/\(aW ws.length ns=false->Ep "BadSet")
def T2 (Ep:Str->Prop):aK:=(aI (eI 3 (aC hZ (a6 (eV Ep jY (a6 (a5 0) (a6 (a5 1) a9))) a9)))
 (aI (cC (iC (aV (aC rG (a6 (a5 0) (a6 (a5 2) a9))))) (kZ Ep "BadOrder" (a6 (qC (.str "each hearth stands in an order once")) a9)) cF)
 (aI (b5 4 (aC j8 (a6 (a5 0) a9)))
 (aI (eI 5 (jM a9))
 (aI (b5 6 (aC oJ (a6 (a5 0) (a6 (a5 4) (a6 (a5 3) (a6 (a5 2) a9))))))
 (aI (lM (aV (av8 (a5 6) (qC .non)))
  (aI (lN 5 (a5 6))
  (aI (lR 3 (a5 6) (qC (.bl true)))
  (b5 6 (aC oJ (a6 (a5 0) (a6 (a5 4) (a6 (a5 3) (a6 (a5 2) a9)))))))))
 (gK 5)))))))
theorem aK0:gS T2 ["web","seeds","order","burning","around","kindled","hearth"] rW:=by
 rintro Ep xs Q ⟨ws,ls,x,ns,y,os,rfl,wb,hx,hl,hy,po,q,qe⟩
 refine⟨_,rfl,_,rfl,ws,ls,x,ns,rfl,hx,hl,fun hs=>?_,qe⟩
 have q:=q hs
 have few:=wb.few
 have ln:=mC hs
 have lo:=po.length_eq
 rw [iI] at lo
 have inn:∀ h ∈ os,h ∈ rng ws.length:=fun h hh=>po.mem_iff.mp hh
 refine⟨_,ns,rfl,.inl rfl,by omega,fun ps d=>⟨rfl,d.fl,?_⟩⟩
 refine⟨_,rfl,_,rfl,ws,ls,y,os,rfl,few,hy,po,_,rfl,aU ?_⟩
 refine⟨_,rfl,ws,ls,rfl,wb,trivial,?_⟩
 refine⟨by decide,rfl,rfl,rfl,?_⟩
 refine⟨_,rfl,_,rfl,_,rfl,_,rfl,ws,ls,ps,ns,y,os,rfl,wb,d,hy,inn,trivial,?_⟩
 have f0:os.find? (kin ws ls ns)=fX ws ls os ns 0:=by
  show _=os.find? (kin ws ls (ns ++ []))
  rw [aY4]
 rw [f0]
 refine⟨fun n ρ=>∃ k ps,ρ = [some (.sh (flat (bB ws ls)) (bB ws ls)),some (.sh (flat x) x),some (.sh (flat y) y),some (.own (.dK ps)),some (.sh true (.lst (fW ws.length ls))),some (.own (.lst (intz (bX ws ls os ns k)))),some (.sh true (Q3 (fX ws ls os ns k)))]/\
   n+(bX ws ls os ns k).length=ws.length/\DS ps (ns ++ bX ws ls os ns k)/\∀ j < k,fX ws ls os ns j ≠ none,⟨ws.length,0,ps,rfl,rfl,by rw [show bX ws ls os ns 0 = [] from rfl,aY4]; exact d,fun _ z=>absurd z (Nat.not_lt_zero _)⟩,?_⟩
 rintro n ρ ⟨k,ps,rfl,hn,d,ne⟩
 refine⟨_,rfl,rfl,_,rfl,?_⟩
 cases hf:fX ws ls os ns k with
 | none=>exact aU ⟨_,rfl,trivial,q k ⟨ne,hf⟩⟩
 | some h=>
  have e1:=wL hf
  have l1:=wN (ls:=ls) po hs (k+1)
  have l0:=wN (ls:=ls) po hs k
  have dl:=d.len
  rw [aU9] at dl
  rw [e1,aU9,aZ1] at l1
  refine aY ⟨_,rfl,_,rfl,trivial,by rw [b4]; omega,?_⟩
  refine⟨ps,rfl,_,rfl,Sum.inl h,rfl,trivial,by omega,?_⟩
  have D7:DS (cE ps (Sum.inl h:aB) (.bl true)) (ns ++ bX ws ls os ns (k+1)):=by
   rw [e1,<- bb9]; exact d.put h _ rfl
  refine⟨_,rfl,_,rfl,_,rfl,_,rfl,ws,ls,_,_,y,os,rfl,wb,D7,hy,inn,trivial,?_⟩
  refine⟨n - 1,by omega,k+1,_,?_,by rw [e1,aU9,aZ1]; omega,D7,fun j hj=>?_⟩
  ·rw [show intz (bX ws ls os ns (k+1))=intz (bX ws ls os ns k) ++ [PV.int h] by rw [e1,cQ]; rfl]; rfl
  ·by_cases e:j=k
   ·rw [e,hf]; exact fun z=>nomatch z
   ·exact ne j (by omega)
def mH:dB:=rR fun ws ls ns Q=>∀ k,mD ws ls (rng ws.length) ns k->Q (.tup (intz (bX ws ls (rng ws.length) ns k)))
def T3 (Ep:Str->Prop):aK:=(bE (aC eL (a6 (eV Ep rW (a6 (a5 0) (a6 (a5 1) (a6 (wC (aC iK (a6 (a5 0) a9))) a9)))) a9)))
theorem aK1:gS T3 ["web","seeds"] mH:=by
 rintro Ep xs Q ⟨ws,ls,x,ns,rfl,wb,hx,hl,q,qe⟩
 have few:=wb.few
 refine⟨_,rfl,_,rfl,_,rfl,ws,ls,rfl,_,rfl,by omega,by omega,?_⟩
 rw [O4]
 exact⟨ws,ls,x,ns,_,rng ws.length,rfl,wb,hx,hl,.inr rfl,bh5 _,fun hs k en=>⟨⟨_,_,rfl,rfl,c8 _,trivial,q hs k en⟩,(fun ns e=>by cases e)⟩,qe⟩
def oP:bF:=fun xs Q=>∃ ws ls B h,xs = [bB ws ls,.lst (intz B),.int h]/\(∀ l ∈ ls,l.1 ≠ l.2)/\ls.length<=1700/\0<=h/\h < (ws.length:Int)/\Q (.bl (kin ws ls B h))
def T4:aK:=(aI (cC (aV (q2 (kO false) (a5 2) (a5 1))) (bE (qC (.bl false))) cF)
 (bE (o4 (aC dU (a6 (bU (dG (aC rQ (a6 (a5 0) (a6 (a5 2) a9)))) [none,some 1] (bG 0) (aV (q2 (kO false) (a5 0) (a5 1))) (a5 0)) a9)) (fG (fG (a5 0) (qC (.int 0))) (a5 2)))))
theorem aK2:cU T4 ["web","burning","hearth"] oP:=by
 rintro xs Q ⟨ws,ls,B,h,rfl,hne,hl,h0,h1,q⟩
 have gw:ws[h.toNat]? = some (ws.getD h.toNat 0):=by
  rw [aW1,aV2 (by omega)]; rfl
 have ix:L2.atI (intz ws) h=some (.int (ws.getD h.toNat 0)):=by
  have:=tG (xs:=intz ws) (j:=h.toNat) (by rw [aV7,gw]; rfl)
  rwa [show ((h.toNat:Nat):Int)=h by omega] at this
 unfold kin at q
 refine⟨_,rfl,_,rfl,h,B,rfl,rfl,_,rfl,?_⟩
 show if decide (h ∈ B)=true then _ else _
 cases hb:decide (h ∈ B) with
 | true=>rw [hb] at q; exact aY ⟨trivial,q⟩
 | false=>
  rw [hb] at q
  refine aU ⟨_,rfl,_,rfl,ws,ls,h,rfl,hne,hl,_,rfl,(fun z=>by cases z),?_,fun j acc=>acc=intz (((cN ls h).take j).filter fun x=>decide (x ∈ B)),rfl,?_,?_⟩
  ·rw [b4]; have:=pS ls h; omega
  ·rintro j z acc hz rfl
   obtain ⟨n,rfl,hn⟩:=eU hz
   have tk:=kT (p:=fun z=>decide (z ∈ B)) hn
   refine⟨_,rfl,_,rfl,n,B,rfl,rfl,_,rfl,?_⟩
   show if decide (n ∈ B)=true then _ else _
   cases hm:decide (n ∈ B) with
   | true=>
    rw [hm] at tk
    refine aY ⟨_,rfl,trivial,?_⟩
    dsimp only
    rw [tk,cQ]; rfl
   | false=>
    rw [hm] at tk
    refine aU ?_
    dsimp only
    rw [tk]; exact congrArg intz (aY4 _).symm
  ·rintro acc rfl
   rw [b4,aX9]
   refine⟨_,_,rfl,rfl,_,rfl,_,_,_,rfl,rfl,rfl,_,rfl,_,_,_,rfl,rfl,ix,_,_,rfl,rfl,trivial,?_⟩
   rw [b4]
   exact q
def bA (ws:List Int) (ls:List (Int × Int)):List Int->List Int->Bool
 | _,[]=>true
 | B,h :: R=>inB ws.length h && (kin ws ls B h && bA ws ls (B ++ [h]) R)
section
variable {ws : List Int} {ls : List (Int × Int)} {B R ns : List Int} {i : Nat} {h : Int}
theorem aK3 (hh:R[i]? = some h):bA ws ls (B ++ R.take i) (R.drop i)=(inB ws.length h && (kin ws ls (B ++ R.take i) h && bA ws ls (B ++ R.take (i+1)) (R.drop (i+1)))):=by
 obtain ⟨hi,e⟩:=aV3.mp hh
 rw [List.drop_eq_getElem_cons hi,e]
 show (inB ws.length h && (kin ws ls (B ++ R.take i) h && bA ws ls (B ++ R.take i ++ [h]) (R.drop (i+1))))=_
 rw [bb9,aX7,hh]; rfl
theorem mI:∀ {R B:List Int},bA ws ls B (R ++ [h])=(bA ws ls B R && (inB ws.length h && kin ws ls (B ++ R) h))
 | [],B=>by
  show (inB ws.length h && (kin ws ls B h && true))=(true && (inB ws.length h && kin ws ls (B ++ []) h))
  rw [Bool.and_true,Bool.true_and,aY4]
 | a :: R,B=>by
  show (inB ws.length a && (kin ws ls B a && bA ws ls (B ++ [a]) (R ++ [h])))=(inB ws.length a && (kin ws ls B a && bA ws ls (B ++ [a]) R) && (inB ws.length h && kin ws ls (B ++ a :: R) h))
  rw [mI,bb9,Bool.and_assoc,Bool.and_assoc]; rfl
theorem mJ {T:List Int} (sh:e8 ws ls T):∀ {R B:List Int},bA ws ls B R=true->(∀ x ∈ B,x ∈ T)->∀ x ∈ B ++ R,x ∈ T
 | [],B,_,st,x,hx=>st x (by rw [aY4] at hx; exact hx)
 | a :: R,B,g,st,x,hx=>by
  have g:(inB ws.length a && (kin ws ls B a && bA ws ls (B ++ [a]) R))=true:=g
  rw [aW7,aW7] at g
  have aT:a ∈ T:=Classical.byContradiction fun e=>by
   have:=rF g.2.1 st e
   have ib:=g.1
   unfold inB at ib
   rw [aW7,bb3,bb3] at ib
   rw [sh a (iJ.mpr ib)] at this; cases this
  refine mJ sh g.2.2 (fun y hy=>(aX3.mp hy).elim (st y) fun z=>by rw [aV6.mp z]; exact aT) x ?_
  rw [bb9]; exact hx
theorem T5:∀ {R B:List Int},bA ws ls B R=true->B.Nodup->(∀ x ∈ B,x ∈ rng ws.length)->(B ++ R).Nodup/\∀ x ∈ B ++ R,x ∈ rng ws.length
 | [],B,_,nd,st=>by rw [aY4]; exact⟨nd,st⟩
 | a :: R,B,g,nd,st=>by
  have g:(inB ws.length a && (kin ws ls B a && bA ws ls (B ++ [a]) R))=true:=g
  rw [aW7,aW7] at g
  have ib:=g.1
  unfold inB at ib
  rw [aW7,bb3,bb3] at ib
  have an:a ∉ B:=bd6 (oD g.2.1)
  have:=T5 g.2.2 (aY7.mpr ⟨nd,aY1 _ _,fun x hx y hy z=>an (by rw [aV6.mp hy] at z; rw [<- z]; exact hx)⟩) fun x hx=>(aX3.mp hx).elim (st x) fun z=>by rw [aV6.mp z]; exact iJ.mpr ib
  rw [bb9] at this; exact this
theorem l4 (hs:aW ws.length ns=true) (g:bA ws ls ns R=true):(ns ++ R).Nodup/\∀ x ∈ ns ++ R,x ∈ rng ws.length:=
 T5 g ((m8 (jV hs).1).imp fun h=>Int.ne_of_lt h) fun x hx=>iJ.mpr ((jV hs).2 x hx)
theorem aK4 (hs:aW ws.length ns=true) (g:bA ws ls ns R=true) (sh:e8 ws ls (ns ++ R)) {m:Nat} (h2:cJ ws ls ns m):(ns ++ R).Perm (aZ ws ls ns m):=by
 have s2:e8 ws ls (aZ ws ls ns m):=fun h hh=>by
  have:=bc9.mp (show (rng ws.length).filter (kin ws ls (aZ ws ls ns m)) = [] from h2.2) h hh
  simpa using this
 refine (List.perm_ext_iff_of_nodup (l4 hs g).1 (wP hs m)).mpr fun x=>⟨fun hx=>?_,fun hx=>?_⟩
 ·refine mJ s2 g (fun y hy=>?_) x hx
  have:∀ m,y ∈ aZ ws ls ns m:=fun m=>by
   induction m with
   | zero=>exact hy
   | succ m ih=>exact aZ0 _ ih
  exact this m
 ·exact P9 sh (fun y hy=>aZ0 _ hy) m x hx
end
def rX:dB:=fun Ep xs Q=>∃ ws ls x ns y R,xs = [bB ws ls,x,y]/\Wb ws ls/\bW x ns/\ns.length<=1000/\bW y R/\R.length<=1000/\(aW ws.length ns=true->Q (.bl (bA ws ls ns R)))/\(aW ws.length ns=false->Ep "BadSet")
def T6 (Ep:Str->Prop):aK:=(aI (eI 3 (aC hZ (a6 (eV Ep jY (a6 (a5 0) (a6 (a5 1) a9))) a9)))
 (aI (b5 4 (aC j8 (a6 (a5 0) a9)))
 (aI (dX (dG (a5 2)) (bG 5)
  (aI (cC (jK (iC (aV (aC mB (a6 (a5 0) (a6 (a5 5) a9))))) (iC (aV (aC iN (a6 (a5 0) (a6 (a5 4) (a6 (a5 3) (a6 (a5 5) a9)))))))) (bE (qC (.bl false))) cF)
  (lR 3 (a5 5) (qC (.bl true)))))
 (bE (qC (.bl true))))))
theorem aK5:gS T6 ["web","seeds","row","burning","around","hearth"] rX:=by
 rintro Ep xs Q ⟨ws,ls,x,ns,y,R,rfl,wb,hx,hl,hy,rl,q,qe⟩
 refine⟨_,rfl,_,rfl,ws,ls,x,ns,rfl,hx,hl,fun hs=>?_,qe⟩
 have q:=q hs
 have few:=wb.few
 have ln:=mC hs
 refine⟨_,ns,rfl,.inl rfl,by omega,fun ps d=>⟨rfl,d.fl,?_⟩⟩
 refine⟨_,rfl,ws,ls,rfl,wb,trivial,?_⟩
 refine⟨_,rfl,_,hy.seq,kU hy,fun i ρ=>∃ ps y5,ρ = [some (.sh (flat (bB ws ls)) (bB ws ls)),some (.sh (flat x) x),some (.sh (flat y) y),some (.own (.dK ps)),some (.sh true (.lst (fW ws.length ls))),y5]/\DS ps (ns ++ R.take i)/\bA ws ls ns R=bA ws ls (ns ++ R.take i) (R.drop i),⟨ps,none,rfl,by rw [bh6,aY4]; exact d,by rw [bh6,aY4]; rfl⟩,?_,?_⟩
 ·rintro i z ρ hz ⟨ps,y5,rfl,d,e⟩
  obtain ⟨h,rfl,hh⟩:=eU hz
  rw [aK3 hh] at e
  refine kY ?_
  refine⟨_,rfl,_,rfl,ws,ls,h,rfl,_,rfl,?_⟩
  have bd:ps.length<=2000:=by
   have:=d.len
   rw [aU9,ba8] at this
   omega
  cases hb:inB ws.length h with
  | false=>rw [hb] at e; exact aY (aY ⟨trivial,by rw [e] at q; exact q⟩)
  | true=>
   rw [hb] at e
   have ib:=hb
   unfold inB at ib
   rw [aW7,bb3,bb3] at ib
   refine aU ⟨_,rfl,_,rfl,_,rfl,_,rfl,ws,ls,ps,_,h,rfl,wb,d,ib.1,ib.2,_,rfl,?_⟩
   cases hk:kin ws ls (ns ++ R.take i) h with
   | false=>rw [hk] at e; exact aY ⟨trivial,by rw [e] at q; exact q⟩
   | true=>
    rw [hk] at e
    refine aU ⟨ps,rfl,_,rfl,Sum.inl h,rfl,trivial,by omega,_,si h,rfl,?_,e⟩
    have:=d.put h (.bl true) rfl
    rw [bb9] at this
    rw [aX7,hh]
    exact this
 ·rintro ρ ⟨ps,y5,rfl,d,e⟩
  rw [b4,List.drop_of_length_le (aV0 _)] at e
  rw [e] at q
  exact⟨trivial,q⟩
def rY:dB:=fun Ep xs Q=>∃ ws ls x ns y R,xs = [bB ws ls,x,y]/\Wb ws ls/\bW x ns/\ns.length<=1000/\bW y R/\R.length<=1000/\(aW ws.length ns=true->(bA ws ls ns R=false->Q (.bl false))/\(bA ws ls ns R=true->∀ m,cJ ws ls ns m->Q (.bl (decide (ns.length+R.length=(aZ ws ls ns m).length)))))/\(aW ws.length ns=false->Ep "BadSet")
def T7 (Ep:Str->Prop):aK:=(bE (jL (eV Ep rX (a6 (a5 0) (a6 (a5 1) (a6 (a5 2) a9)))) (gM (fF (aC dU (a6 (a5 1) a9)) (aC dU (a6 (a5 2) a9))) (aC dU (a6 (eV Ep rU (a6 (a5 0) (a6 (a5 1) a9))) a9)))))
theorem aK6:gS T7 ["web","seeds","row"] rY:=by
 rintro Ep xs Q ⟨ws,ls,x,ns,y,R,rfl,wb,hx,hl,hy,rl,q,qe⟩
 refine⟨_,rfl,_,rfl,_,rfl,ws,ls,x,ns,y,R,rfl,wb,hx,hl,hy,rl,fun hs=>⟨_,rfl,?_⟩,qe⟩
 obtain ⟨q0,q1⟩:=q hs
 cases hg:bA ws ls ns R with
 | false=>exact aU ⟨trivial,q0 hg⟩
 | true=>
  refine aY ⟨_,rfl,_,_,rfl,hx.len,_,rfl,_,_,rfl,hy.len,_,_,rfl,rfl,_,rfl,_,rfl,ws,ls,x,ns,rfl,wb,hx,hl,fun _ ms m en pm so=>?_,fun h=>by rw [hs] at h; cases h⟩
  refine⟨_,_,rfl,rfl,.inl ⟨_,_,rfl,rfl,trivial,?_⟩⟩
  show Q (.bl (decide ((ns.length:Int)+(R.length:Int)=((intz ms).length:Nat))))
  rw [b4,pm.length_eq,show decide ((ns.length:Int)+(R.length:Int)=((aZ ws ls ns m).length:Int))=decide (ns.length+R.length=(aZ ws ls ns m).length) from decide_eq_decide.mpr (by omega)]
  exact q1 hg m en
def rZ:bF:=fun xs Q=>∃ ws ls ns,∃ c:Int,xs = [bB ws ls,.tup (intz ns),.int c]/\Wb ws ls/\(∀ l ∈ ls,l.1 ≠ l.2)/\aW ws.length ns=true/\∀ R,bA ws ls ns R=true->e8 ws ls (ns ++ R)->R.length<=40->Q (.lst (intz R))
def T8:aK:=(aI (eI 3 (jM a9))
 (aI (b5 4 (bU (fD (aC dU (a6 (fG (a5 0) (qC (.int 0))) a9))) [none,some 0,some 1] (bG 0) (aV (aC oP (a6 (a5 1) (a6 (aC nV (a6 (a5 2) a9)) (a6 (a5 0) a9))))) (a5 0)))
 (aI (lM (aV (q2 (jP 2 true) (a5 4) (jM a9)))
  (aI (lN 3 (fG (a5 4) (cY (aC jZ (a6 (a5 2) (a6 (aC dU (a6 (a5 3) a9)) a9))) (aC dU (a6 (a5 4) a9)))))
  (b5 4 (bU (fD (aC dU (a6 (fG (a5 0) (qC (.int 0))) a9))) [none,some 0,some 3,some 1] (bG 0) (aV (aC oP (a6 (a5 1) (a6 (wH (aC nV (a6 (a5 3) a9)) (a5 2)) (a6 (a5 0) a9))))) (a5 0)))))
 (gK 3))))
theorem aK7:cU T8 ["web","seeds","cell","row","able"] rZ:=by
 rintro xs Q ⟨ws,ls,ns,c,rfl,wb,ne,hs,q⟩
 have few:=wb.few
 have sl:=mC hs
 refine⟨by decide,rfl,rfl,rfl,?_⟩
 refine⟨_,rfl,_,_,_,rfl,rfl,rfl,_,_,rfl,rfl,_,rfl,by rw [b4]; omega,by rw [b4]; omega,by rw [cO,b4]; omega,fun i acc=>acc=intz (((rng ws.length).take i).filter (kin ws ls ns)),rfl,?_,?_⟩
 ·rintro i y acc hy rfl
  obtain ⟨rfl,hi⟩:=gO hy
  have hi':i < ws.length:=by rw [b4,bd2] at hi; exact hi
  have tk:=kT (p:=kin ws ls ns) (vY hi')
  have e0:(0:Int)+(i:Int)=(i:Int):=by omega
  refine⟨_,rfl,_,rfl,_,_,rfl,rfl,c8 _,_,rfl,ws,ls,ns,_,rfl,ne,wb.most,by omega,by omega,_,rfl,?_⟩
  show if kin ws ls ns ((0:Int)+(i:Int))=true then _ else _
  rw [e0]
  cases h:kin ws ls ns (i:Int) with
  | true=>
   refine aY ⟨_,rfl,trivial,?_⟩
   rw [h,if_pos rfl] at tk
   show _=intz (List.filter _ (List.take (i+1) _))
   rw [tk,cQ]; rfl
  | false=>
   refine aU ?_
   rw [h,if_neg (by decide),aY4] at tk
   show _=intz (List.filter _ (List.take (i+1) _))
   rw [tk]
 rintro acc rfl
 rw [cO,b4,bd2,bc3 (by rw [iI]; exact aV0 _)]
 refine⟨trivial,?_⟩
 refine⟨fun n ρ=>∃ R:List Int,ρ = [some (.sh (flat (bB ws ls)) (bB ws ls)),some (.sh (flat (.tup (intz ns))) (.tup (intz ns))),si c,some (.own (.lst (intz R))),some (.sh true (.lst (intz ((rng ws.length).filter (kin ws ls (ns ++ R))))))]/\n=ws.length - R.length/\bA ws ls ns R=true,⟨_,[],by rw [aY4]; rfl,rfl,rfl⟩,?_⟩
 rintro n ρ ⟨R,rfl,rfl,g⟩
 have go:=l4 hs g
 have gl:ns.length+R.length<=ws.length:=by
  have:=go.1.length_le_of_subset go.2
  rw [iI,aU9] at this; exact this
 have Am:∀ h ∈ (rng ws.length).filter (kin ws ls (ns ++ R)),h ∈ rng ws.length/\kin ws ls (ns ++ R) h=true:=fun h hh=>aZ6.mp hh
 have Al:((rng ws.length).filter (kin ws ls (ns ++ R))).length<=ws.length:=by have:=bd3 (kin ws ls (ns ++ R)) (rng ws.length); rw [iI] at this; exact this
 have sh0:(rng ws.length).filter (kin ws ls (ns ++ R)) = []->e8 ws ls (ns ++ R):=fun e h hh=>by
  have:=bc9.mp e h hh
  simpa using this
 generalize (rng ws.length).filter (kin ws ls (ns ++ R))=A at Am Al sh0
 refine⟨_,rfl,by decide,rfl,.inr ⟨_,_,rfl,rfl⟩,G7 2 A [],_,rfl,?_⟩
 show if (!c9 3 (.lst (intz A)) (.lst (intz [])))=true then _ else _
 rw [G6]
 by_cases hA:A = []
 ·rw [aW5 hA]
  exact aU ⟨_,rfl,trivial,q R g (sh0 hA) (by omega)⟩
 rw [aW4 hA]
 refine aY ?_
 have la:0 < A.length:=by cases A; exact absurd rfl hA; exact Nat.zero_lt_succ _
 refine⟨_,rfl,_,rfl,_,rfl,_,rfl,_,_,rfl,rfl,_,_,rfl,by omega,by rw [b4]; omega,fun z z0=>?_⟩
 refine⟨_,rfl,_,_,rfl,rfl,_,_,rfl,rfl,by rw [b4]; omega,?_⟩
 dsimp only
 rw [b4]
 have j0:0<=z % (A.length:Int):=bc7 _ (by omega)
 have j1:z % (A.length:Int) < (A.length:Int):=bf0 _ (by omega)
 generalize z % (A.length:Int)=j at j0 j1
 have hi:L2.atI (intz A) j=some (.int (A.getD j.toNat 0)):=w6 j0 j1
 have hm:A.getD j.toNat 0 ∈ A:=by
  rw [aW1,aV2 (by omega)]
  exact List.getElem_mem _
 generalize A.getD j.toNat 0=h at hi hm
 obtain ⟨h1,h2⟩:=Am h hm
 have g2:bA ws ls ns (R ++ [h])=true:=by
  rw [mI,g,h2]
  unfold inB
  rw [aW5 (iJ.mp h1).1,aW5 (iJ.mp h1).2]; rfl
 have gl2:ns.length+(R ++ [h]).length<=ws.length:=by
  have go:=l4 hs g2
  have:=go.1.length_le_of_subset go.2
  rw [iI,aU9] at this; exact this
 rw [aU9,aZ1] at gl2
 refine⟨_,_,_,rfl,rfl,hi,trivial,by rw [b4]; omega,?_⟩
 rw [show intz R ++ [PV.int h]=intz (R ++ [h]) from (cQ R [h]).symm]
 refine⟨_,rfl,_,_,_,rfl,rfl,rfl,_,_,rfl,rfl,_,rfl,by rw [b4]; omega,by rw [b4]; omega,by rw [cO,b4]; omega,fun i acc=>acc=intz (((rng ws.length).take i).filter (kin ws ls (ns ++ (R ++ [h])))),rfl,?_,?_⟩
 ·rintro i y acc hy rfl
  obtain ⟨rfl,hi⟩:=gO hy
  have hi':i < ws.length:=by rw [b4,bd2] at hi; exact hi
  have tk:=kT (p:=kin ws ls (ns ++ (R ++ [h]))) (vY hi')
  have e0:(0:Int)+(i:Int)=(i:Int):=by omega
  refine⟨_,rfl,_,rfl,_,_,rfl,rfl,c8 _,_,rfl,_,_,rfl,rfl,c8 _,c8 _,by rw [b4,b4,aU9]; show _+(_+1)<=_; omega,_,rfl,ws,ls,ns ++ (R ++ [h]),0+(i:Int),?_,ne,wb.most,by omega,by omega,_,rfl,?_⟩
  ·rw [<- cQ]; rfl
  show if kin ws ls (ns ++ (R ++ [h])) ((0:Int)+(i:Int))=true then _ else _
  rw [e0]
  cases hk:kin ws ls (ns ++ (R ++ [h])) (i:Int) with
  | true=>
   refine aY ⟨_,rfl,trivial,?_⟩
   rw [hk,if_pos rfl] at tk
   show _=intz (List.filter _ (List.take (i+1) _))
   rw [tk,cQ]; rfl
  | false=>
   refine aU ?_
   rw [hk,if_neg (by decide),aY4] at tk
   show _=intz (List.filter _ (List.take (i+1) _))
   rw [tk]
 rintro acc rfl
 rw [cO,b4,bd2,bc3 (by rw [iI]; exact aV0 _)]
 exact⟨trivial,ws.length - (R.length+1),by omega,R ++ [h],rfl,by rw [aU9,aZ1],g2⟩
end Core
namespace PP
open PySem L2
section
variable {X : Cx} {a b e o : Expr} {ta tb te to : aE} {tr : cL} {pos p2 apos cpos : Pos} {σ : St} {H : Hp} {Q' : VK}
def sA:List PV->(PV->Prop)->Prop:=fun xs Q=>(∃ i,xs = [.int i]/\Q (.int i)) ∨ ∃ k,xs = [.bl k]/\Q (.int (if k then 1 else 0))
theorem aK8:eQ X sA (fun xs H Q=>(∃ i,xs = [.int i]/\Q (.int i) H) ∨ ∃ k,xs = [.bl k]/\Q (.int (if k then 1 else 0)) H):=by
 rintro H vs xs Q Q' r (⟨i,rfl,q⟩ | ⟨i,rfl,q⟩) k
 ·obtain ⟨v,rfl,r1⟩:=r.one
  cases r1
  exact .inl ⟨i,rfl,k _ _ _ (aD.refl _) (.int _) q⟩
 ·obtain ⟨v,rfl,r1⟩:=r.one
  cases r1
  exact .inr ⟨i,rfl,k _ _ _ (aD.refl _) (.int _) q⟩
theorem aK9 (B:Bt X.mg) (ha:QA X [e] tr) (hg:Gl X "int":=by rfl) (he:starEach [e] X.env=(false,eval e X.env) :: starEach [] X.env:=by rfl) (hpl:(backTo pos (starEach [] X.env)).any (·.1)=false:=by rfl):QE X (.Call (.Name "int" p2) [e] [] pos) (aC sA tr):=
 qL ag2 aK8 hg B.int PyProof.Rows.boot_int ha (he:=he) (hpl:=hpl)
end
end PP
namespace L2
open PySem PySem.Spec PyProof.Rows
def T9 (K:PySem.W.Frag) (a:Addr) (n:Nat):It:=
 ⟨fun i H=>(∃ xs,aJ K H a xs/\xs.length=n)/\i < n,fun i H x H'=>H'=H/\∀ xs,aJ K H a xs->xs[n - 1 - i]? = some x,fun i H=>i=n⟩
theorem aL0 {P:Program}{w:World}{K:PySem.W.Frag}{tg:Expr} (a it:Addr) (n:Nat):gD P w K tg (T9 K a n) [it] it (fun i h=>h.IsRevIter it a ((n:Int) - 1 - (i:Int))):=by
 refine⟨by simp,fun i h st b hb=>?_,fun i h h' st k=>st.at fun o e=>k it (by simp) o e,?_,?_,fun _ _ _ _ _ st q=>wpAny_pyIter_revIter st q⟩
 ·obtain rfl:b=it:=by simpa using hb
  obtain ⟨o,e,c,d⟩:=st
  exact⟨o,e,fun v z=>by rw [d] at z; cases z⟩
 ·intro X hP hw hK hc i pins s σ H E I hf st hg
  subst hP hw hK
  obtain ⟨⟨xs,hq,hl⟩,hi⟩:=hg
  obtain ⟨its,rv,p,hz⟩:=I.list hq
  have lv:=rv.length
  have hx:xs[n - 1 - i]? = some (xs[n - 1 - i]'(by omega)):=aV2 (by omega)
  obtain ⟨u,hu,ru⟩:=rv.get hx
  obtain ⟨f0,f1,f2,f3,f4,f5⟩:=hf it (by simp)
  have e0:(n:Int) - 1 - (i:Int)=((n - 1 - i:Nat):Int):=by omega
  rw [e0] at st
  refine wpAny_pyNext_rev_item st p.isList (x:=u) (by simpa using hu) fun h' st' sb=>?_
  have I1:a7 X pins σ H { s with heap:=h' }:=I.turned (t':=s.toks) (fun b o hb e=>(sb.2 b hb).trans e) f0 f1 f3 f4 f5
  have e1:((n - 1 - i:Nat):Int) - 1=(n:Int) - 1 - ((i+1:Nat):Int):=by omega
  rw [e1] at st'
  obtain ⟨o,e,c,d⟩:=id st'
  exact⟨u,rfl,mS (s:={ s with heap:=h' }) e c d (by decide) ⟨_,H,I1,ru,⟨rfl,fun ys hy=>by rw [I.list_inj hy hq]; exact hx⟩,st',fun b hb=>(hf b hb).1⟩⟩
 ·intro X hP hw hK hc i pins s σ H E I hf st hg
  subst hP hw hK
  have hg:i=n:=hg
  subst hg
  obtain ⟨f0,f1,f2,f3,f4,f5⟩:=hf it (by simp)
  rw [show (i:Int) - 1 - (i:Int) = -1 by omega] at st
  exact wpAny_pyNext_rev_end (I.ok.hd hc) st fun h' eb=>⟨rfl,I.turned (t':=s.toks) (fun b o hb e=>eb b o hb e) f0 f1 f3 f4 f5⟩
section
variable {X : Cx}
def U0 (K:PySem.W.Frag) (ta:TA):TI:=fun σ H R=>ta σ H fun vs H1=>∃ a xs,vs = [.ref a]/\aJ K H1 a xs/\R (T9 K a xs.length) H1
theorem aL1 {tg:Expr}{a:Expr}{ta:TA}{p pos:Pos} (hg:Gl X "reversed") (hm:X.mg "reversed" = none) (ha:PA X [a] ta) (hs:starEach [a] X.env = [(false,eval a X.env)]:=by rfl) :
  PI X tg (.Call (.Name "reversed" p) [a] [] pos) (U0 X.K ta):=by
 intro pins s σ H R I h
 refine Call_ (i5 I hg hm PyProof.Rows.boot_reversed (aZ8 (aM (ha pos pins s σ H _ I h) fun us s1 ⟨vs,H1,I1,r1,q1⟩=>?_) (by rw [hs]; rfl) (by rfl)))
 obtain ⟨a',xs,e,h1,q⟩:=q1
 subst e
 cases r1 with
 | cons r rr=>
  cases rr
  cases r
  obtain ⟨us,rv,p1,_⟩:=I1.list h1
  have lv:=rv.length
  refine call_reversed_list p1.isList ?_
  have st:∀ t:Nat,(s1.heap.push (revObj a' ((us.toArray.size:Int) - 1))).IsRevIter s1.heap.objs.size a' ((xs.length:Int) - 1 - (0:Nat)):=fun _=>by
   rw [aU8,<- lv]
   exact⟨_,aV8 _ rfl,rfl,by rw [show (xs.length:Int) - 1 - (0:Nat)=(xs.length:Int) - 1 by omega]; rfl⟩
  refine wpAny_pyIter_revIter (st 0) ?_
  refine⟨s1.heap.objs.size,[s1.heap.objs.size],_,_,H1,rfl,I1.kept (t':=s1.toks) fun b o e=>aU7 _ e,aL0 a' _ xs.length,st 0,fun c hc=>?_,q⟩
  obtain rfl:c=s1.heap.objs.size:=by simpa using hc
  exact I1.fpOk (aV0 _) (I1.hok.fresh (aV0 _))
end
end L2
namespace PP
open PySem L2
section
variable {X : Cx} {σ : St} {H : Hp} {te : aE} {R : It → Hp → Prop} {a : Expr} {p2 pos : Pos}
def wY (te:aE):dW:=fun ρ Q=>te ρ fun x g=>∃ xs,x = .lst xs/\g ≠ .rd/\Q xs.reverse (kL g xs)
theorem aL2 (h:LI X (wY te) σ H R):U0 X.K (jG (LE X te) kC) σ H R:=by
 obtain ⟨W,ρ,Q,px,q,k⟩:=h
 refine⟨W,ρ,_,px,q,?_⟩
 rintro v H1 x g s r ⟨xs,rfl,hg,q⟩
 have px1:=px.mono s
 have tw:∀ a,W a->∃ o,H1 a=some o/\fR o=true:=fun a z=>(px1.wm a z).2
 obtain ⟨a,us,rfl,m,ea,r⟩:=r.sqL
 have wa : ¬ W a:=by
  cases g with
  | fr=>exact (px.new m).1
  | nw=>exact m.1
  | sh=>exact m
  | rd=>exact absurd rfl hg
 have lr:=r.length
 have ha:∀ W' H',Ev W H1 W' H'->aJ X.K H' a us:=fun W' H' e=>aJ.of (e _ _ ea wa).1
 have rr:=kM px (fun z=>absurd z hg) r
 refine⟨a,us,rfl,aJ.of ea,k _ _ _ _ s ⟨fun W' H' i e hi=>⟨⟨us,ha W' H' e,rfl⟩,?_⟩,fun W' H' i v H2 e y hi=>?_,fun W' H' e=>?_⟩ q⟩
 ·rw [List.length_reverse] at hi; omega
 ·rw [List.length_reverse] at hi
  obtain ⟨rfl,y⟩:=y
  obtain ⟨x,hx,rx⟩:=rr.get (y us (ha W' _ e))
  refine⟨aD.refl _,x,?_,rx.keep (e.keep tw)⟩
  rw [List.getElem?_reverse hi,<- lr]
  exact hx
 ·show xs.reverse.length=us.length
  rw [List.length_reverse]; omega
theorem aL3 {tg:Expr} (hm:X.mg "reversed" = none) (ha:QE X a te) (hg:Gl X "reversed":=by rfl) (hs:starEach [a] X.env = [(false,eval a X.env)]:=by rfl):QI X tg (.Call (.Name "reversed" p2) [a] [] pos) (wY te):=o6 (aL1 hg hm (dJ ha eD hs) hs) fun _ _ _=>aL2
end
end PP
namespace Core
open PySem L2 PP
def cG (h:Int):List Int->List Int
 | []=>[h]
 | a :: r=>if h<=a then h :: a :: r else a :: cG h r
theorem k6 (h:Int):∀ A:List Int,(cG h A).Perm (A ++ [h])
 | []=>bh5 _
 | a :: r=>by
  show (if h<=a then h :: a :: r else a :: cG h r).Perm _
  split
  ·exact List.perm_append_comm (l₁:=[h]) (l₂:=a :: r)
  ·exact (k6 h r).cons a
theorem sB (h:Int):∀ {A:List Int},A.Pairwise (· <= ·)->(cG h A).Pairwise (· <= ·)
 | [],_=>aY1 _ _
 | a :: r,p=>by
  have p':=be9.mp p
  show (if h<=a then h :: a :: r else a :: cG h r).Pairwise _
  split
  ·rename_i z
   exact be9.mpr ⟨fun x hx=>by
    rcases aV5.mp hx with rfl | hx
    ·exact z
    ·exact Int.le_trans z (p'.1 x hx),p⟩
  ·rename_i z
   exact be9.mpr ⟨fun x hx=>by
    rcases aX3.mp ((k6 h r).mem_iff.mp hx) with hx | hx
    ·exact p'.1 x hx
    ·rw [aV6] at hx; omega,sB h p'.2⟩
theorem U1 (h:Int) (A:List Int):(cG h A).length=A.length+1:=by rw [(k6 h A).length_eq,aU9]; rfl
theorem wZ {h:Int}{A B:List Int} (pa:A.Pairwise (· <= ·)) (p:B.Perm (A ++ [h])) (s:B.Pairwise (· <= ·)):B=cG h A:=oG (p.trans (k6 h A).symm) s (sB h pa)
theorem l5 {motive:List Int->Prop} (z:motive []) (sn:∀ L x,motive L->motive (L ++ [x])):∀ L,motive L:=fun L=>by
 have:∀ R:List Int,motive R.reverse:=by
  intro R
  induction R with
  | nil=>exact z
  | cons x r ih=>rw [List.reverse_cons]; exact sn _ _ ih
 have:=this L.reverse
 rwa [List.reverse_reverse] at this
theorem aL4:∀ (L:List Int) {A:List Int},A ∈ bN L->A.Sublist L:=by
 refine l5 ?_ ?_
 ·intro A h; rw [show bN [] = [[]] from rfl,aV6] at h; rw [h]; exact List.Sublist.refl _
 intro L x ih
 intro A h
 rw [l3] at h
 rcases aX3.mp h with h | h
 ·exact (ih h).trans (List.sublist_append_left _ _)
 ·obtain ⟨B,hB,rfl⟩:=bb4.mp h
  exact (ih hB).append (List.Sublist.refl _)
theorem oQ {L A:List Int} (h:A ∈ bN L):A.Sublist L:=aL4 L h
theorem U2:∀ (L:List Int),(bN L).length=2 ^ L.length:=by
 refine l5 ?_ ?_
 ·rfl
 intro L x ih
 rw [l3,aU9,aV1,ih,aU9]; show _=2 ^ (L.length+1); rw [Nat.pow_succ]; omega
theorem aL5:∀ (L:List Int),(bN L)[0]? = some []:=by
 refine l5 ?_ ?_
 ·rfl
 intro L x ih
 have:0 < (bN L).length:=by rw [U2]; exact Nat.two_pow_pos _
 rw [l3,bc0 this]; exact ih
theorem aL6:∀ (L:List Int),L.Pairwise (· < ·)->∀ (p:Nat) (A:List Int),(bN L)[p]? = some A->∀ h ∈ L,h ∉ A->∃ q:Nat,p < q/\(bN L)[q]? = some (cG h A):=by
 refine l5 ?_ ?_
 ·intro _ p A _ h hh; cases hh
 intro L x ih
 intro up p A hA h hh hn
 obtain ⟨u1,u2,u3⟩:=bf4.mp up
 rw [l3] at hA ⊢
 have last:∀ {B:List Int},B.Sublist L->B.Pairwise (· <= ·)/\∀ y ∈ B,y < x:=fun {B} sb=>⟨(u1.sublist sb).imp fun h=>by omega,fun y hy=>u3 y (sb.subset hy) x aV9⟩
 by_cases hp:p < (bN L).length
 ·rw [bc0 hp] at hA
  have sb:=oQ (aW8 hA)
  rcases aX3.mp hh with hh | hh
  ·obtain ⟨q,h1,h2⟩:=ih u1 p A hA h hh hn
   exact⟨q,h1,by rw [bc0 (aV3.mp h2).1]; exact h2⟩
  ·rw [aV6] at hh
   subst hh
   obtain ⟨l1,l2⟩:=last sb
   refine⟨(bN L).length+p,by omega,?_⟩
   rw [bc6 (by omega),Nat.add_sub_cancel_left,aV7,hA]
   show some (A ++ [h])=some (cG h A)
   rw [wZ l1 (bh5 _) (bf4.mpr ⟨l1,aY1 _ _,fun a ha b hb=>by rw [aV6] at hb; have:=l2 a ha; omega⟩)]
 ·rw [bc6 (by omega),aV7] at hA
  cases hB:(bN L)[p - (bN L).length]? with
  | none=>rw [hB] at hA; cases hA
  | some B=>
   rw [hB] at hA
   have hA:B ++ [x]=A:=aX6 hA
   subst hA
   have sb:=oQ (aW8 hB)
   rcases aX3.mp hh with hh | hh
   ·obtain ⟨q,h1,h2⟩:=ih u1 _ B hB h hh (fun z=>hn (aZ0 _ z))
    refine⟨(bN L).length+q,by omega,?_⟩
    rw [bc6 (by omega),Nat.add_sub_cancel_left,aV7,h2]
    show some (cG h B ++ [x])=some (cG h (B ++ [x]))
    obtain ⟨l1,l2⟩:=last sb
    have hx:=u3 h hh x aV9
    refine congrArg some (wZ (h:=h) (A:=B ++ [x]) ?_ ?_ ?_)
    ·exact bf4.mpr ⟨l1,aY1 _ _,fun a ha b hb=>by rw [aV6] at hb; have:=l2 a ha; omega⟩
    ·refine ((k6 h B).append_right [x]).trans ?_
     rw [bb9,bb9]
     exact List.Perm.append_left B List.perm_append_comm
    ·exact bf4.mpr ⟨sB h l1,aY1 _ _,fun a ha b hb=>by
      rw [aV6] at hb
      rcases aX3.mp ((k6 h B).mem_iff.mp ha) with ha | ha
      ·have:=l2 a ha; omega
      ·rw [aV6] at ha; omega⟩
   ·rw [aV6] at hh
    subst hh
    exact absurd (aX1 _ aV9) hn
theorem U3 {L:List Int} (up:L.Pairwise (· < ·)) (p:Nat) (A:List Int) (hA:(bN L)[p]? = some A) (h:Int) (hh:h ∈ L) (hn:h ∉ A):∃ q:Nat,p < q/\(bN L)[q]? = some (cG h A):=aL6 L up p A hA h hh hn
def Wt (ab:List Int->List Int):Nat->List Int->Int
 | 0,_=>1
 | k+1,A=>if ab A = [] then 1 else ((ab A).map fun h=>Wt ab k (cG h A)).sum
def fL (ab:List Int->List Int) (k:Nat) (A:List Int):List (Int × Int):=(ab A).map fun h=>(h,Wt ab (k - 1) (cG h A))
def k7 (ps:List (Int × Int)):Int:=if ps = [] then 1 else (ps.map (·.2)).sum
theorem sC {ab:List Int->List Int}{k:Nat}{A:List Int} (h:k=0->ab A = []):k7 (fL ab k A)=Wt ab k A:=by
 unfold k7 fL
 cases k with
 | zero=>rw [h rfl]; rfl
 | succ k=>
  show _=if ab A = [] then 1 else _
  by_cases e:ab A = []
  ·rw [e]; rfl
  ·rw [if_neg (fun z=>e (List.map_eq_nil_iff.mp z)),if_neg e,bc5]; rfl
def jC:bF:=fun xs Q=>∃ x ns,xs = [x]/\bW x ns/\ns.length < 64/\∀ ms:List Int,ms.Perm ns->ms.Pairwise (· <= ·)->Q (.tup (intz ms))
def U4:aK:=(bE (aC eL (a6 (aC oH (a6 (a5 0) a9)) a9)))
theorem aL7:cU U4 ["row"] jC:=by
 rintro xs Q ⟨x,ns,rfl,hx,hl,q⟩
 exact⟨_,rfl,_,ns,rfl,hx.seq,hl,fun ms pm sm=>⟨⟨_,_,rfl,rfl,c8 _,trivial,q ms pm sm⟩,fun _ z=>by cases z⟩⟩
def k8:bF:=fun xs Q=>∃ ps:List (Int × Int),xs = [.lst (cM ps)]/\ps.length<=1000/\Q (.int (k7 ps))
def U5:aK:=(aI (cC (iC (nX (a5 0))) (bE (qC (.int 1))) cF)
 (bE (aC rH (a6 (bU (dG (a5 0)) [none,none] (gY 0 1) cT (a5 1)) a9))))
theorem x0 {ps:List (Int × Int)}{i:Nat}{y:PV} (h:(cM ps)[i]? = some y):∃ p:Int × Int,y = .tup [.int p.1,.int p.2]/\ps[i]? = some p:=by
 unfold cM at h
 rw [aV7] at h
 cases e:ps[i]? with
 | none=>rw [e] at h; cases h
 | some p=>rw [e] at h; cases h; exact⟨p,rfl,rfl⟩
theorem oR (ps:List (Int × Int)):(cM ps).length=ps.length:=aV1 ..
theorem aL8:cU U5 ["choices"] k8:=by
 rintro xs Q ⟨ps,rfl,hl,q⟩
 refine⟨_,rfl,_,rfl,?_⟩
 show if (!!(cM ps).isEmpty)=true then _ else _
 cases ps with
 | nil=>exact aY ⟨trivial,q⟩
 | cons p r=>
  refine aU ?_
  have e:k7 (p :: r)=((p :: r).map (·.2)).sum:=by unfold k7; rw [if_neg (by simp)]
  rw [e] at q
  generalize p :: r=ps at q hl
  refine⟨_,rfl,_,rfl,(fun z=>by cases z),by rw [oR]; omega,fun i acc=>acc=intz ((ps.take i).map (·.2)),rfl,?_,?_⟩
  ·rintro i y acc hy rfl
   obtain ⟨p,rfl,hp⟩:=x0 hy
   refine⟨_,_,rfl,_,rfl,trivial,?_⟩
   dsimp only
   rw [aX7,hp,aX8,cQ]; rfl
  rintro acc rfl
  rw [oR,aX9]
  exact⟨_,_,rfl,rfl,trivial,q⟩
theorem U6 {ws:List Int}{ls:List (Int × Int)}{S T:List Int} (e:∀ x,x ∈ S ↔ x ∈ T) (h:Int):kin ws ls S h=kin ws ls T h:=by
 unfold kin
 have:(fun x=>decide (x ∈ S))=fun x=>decide (x ∈ T):=funext fun x=>decide_eq_decide.mpr (e x)
 rw [this,decide_eq_decide.mpr (e h)]
def bM (ws:List Int) (ls:List (Int × Int)) (ns L:List Int):Prop:=∃ k,mD ws ls (rng ws.length) ns k/\L.Perm (bX ws ls (rng ws.length) ns k)/\L.Pairwise (· <= ·)
noncomputable def bO (ws:List Int) (ls:List (Int × Int)) (ns L A:List Int):List Int:=L.filter (kin ws ls (ns ++ A))
section
variable {ws : List Int} {ls : List (Int × Int)} {ns L : List Int}
theorem bM.nd (h:bM ws ls ns L) (hs:aW ws.length ns=true):(ns ++ L).Nodup/\∀ x ∈ ns ++ L,x ∈ rng ws.length:=by
 obtain ⟨k,en,p,so⟩:=h
 have ok:=wM (ws:=ws) (ls:=ls) (ns:=ns) (bh5 (rng ws.length)) hs k
 have pp:=List.Perm.append_left ns p
 exact⟨pp.nodup_iff.mpr ok.1,fun x hx=>ok.2 x (pp.mem_iff.mp hx)⟩
theorem bM.up (h:bM ws ls ns L) (hs:aW ws.length ns=true):L.Pairwise (· < ·):=by
 have nd:=(aY7.mp (h.nd hs).1).2.1
 obtain ⟨k,en,p,so⟩:=h
 exact (so.and nd).imp fun {a b} h=>by have:=h.1; have:=h.2; omega
theorem bM.shut (h:bM ws ls ns L):e8 ws ls (ns ++ L):=by
 obtain ⟨k,en,p,so⟩:=h
 intro x hx
 have:=List.find?_eq_none.mp en.2 x hx
 have e:kin ws ls (ns ++ L) x=kin ws ls (ns ++ bX ws ls (rng ws.length) ns k) x:=U6 (fun y=>(List.Perm.append_left ns p).mem_iff) x
 rw [e]
 simpa using this
theorem bM.uniq {L':List Int} (h:bM ws ls ns L) (h':bM ws ls ns L'):L=L':=by
 obtain ⟨k,en,p,so⟩:=h
 obtain ⟨k',en',p',so'⟩:=h'
 obtain rfl:=aF5 en en'
 exact oG (p.trans p'.symm) so so'
end
abbrev dQ (A:List Int):List aB:=A.map Sum.inl
theorem oS (A:List Int):(dQ A).map kP=intz A:=by
 rw [bc5]; rfl
theorem aL9 {A B:List Int} (h:dQ A=dQ B):A=B:=(List.map_inj_right fun _ _ e=>by cases e; rfl).mp h
def BR (ws:List Int) (ls:List (Int × Int)) (ns L:List Int) (ps:List (List aB × PV)):Prop:=∀ A ∈ bN L,bQ ps (dQ A)=some (.lst (cM (fL (bO ws ls ns L) (L.length - A.length) A)))
def k9:dB:=fun Ep xs Q=>∃ ws ls x ns,xs = [bB ws ls,x]/\Wb ws ls/\bW x ns/\ns.length<=1000/\(aW ws.length ns=true->∀ L,bM ws ls ns L->(L.length<=12->∀ ps,BR ws ls ns L ps->Q (.dT ps))/\(12 < L.length->Ep "TooMany"))/\(aW ws.length ns=false->Ep "BadSet")
def U7:aK:=(lS 4 (a5 5) (bU (dG (a5 7)) [none,some 4,some 5] (bG 0) cT (dF (a6 (a5 0) (a6 (aC k8 (a6 (jO (a5 1) (aC jC (a6 (oI (a5 2) (dF (a6 (a5 0) a9))) a9))) a9)) a9)))))
def aM0:aK:=(aI (b5 6 (aC hZ (a6 (oI (aC eL (a6 (a5 1) a9)) (a5 5)) a9)))
  (aI (b5 7 (bU (dG (a5 2)) [none,some 0,some 3,some 6] (bG 0) (aV (aC iN (a6 (a5 1) (a6 (a5 2) (a6 (a5 3) (a6 (a5 0) a9)))))) (a5 0)))
  U7))
def U8 (Ep:Str->Prop):aK:=(aI (b5 2 (aC oH (a6 (eV Ep mH (a6 (a5 0) (a6 (a5 1) a9))) a9)))
 (aI (cC (aV (vC (aC dU (a6 (a5 2) a9)) (qC (.int 12)))) (kZ Ep "TooMany" (a6 (qC (.str "orders of more than 12 hearths are not counted")) a9)) cF)
 (aI (b5 3 (aC j8 (a6 (a5 0) a9)))
 (aI (eI 4 (qC (.dT [])))
 (aI (dX (wY (aC rV (a6 (a5 2) a9))) (bG 5)
  aM0)
 (gK 4))))))
theorem sD {ws:List Int}{ls:List (Int × Int)}{ns L A:List Int} (sb:A.Sublist L) (nd:L.Nodup) (e:L.length - A.length=0):bO ws ls ns L A = []:=by
 have el:A=L:=sb.eq_of_length_le (by omega)
 unfold bO
 rw [bc9]
 intro x hx
 rw [el]
 unfold kin
 rw [aW5 (aX1 _ hx)]
 simp
theorem aM1:gS U8 ["web","seeds","later","around","branches","lit","burning","able"] k9:=by
 rintro Ep xs Q ⟨ws,ls,x,ns,rfl,wb,hx,hl,q,qe⟩
 have few:=wb.few
 refine⟨_,rfl,_,rfl,ws,ls,x,ns,rfl,wb,hx,hl,fun hs k en=>?_,qe⟩
 have ln:=wN (ls:=ls) (bh5 (rng ws.length)) hs k
 refine⟨_,_,rfl,rfl,by omega,fun L pL sL=>⟨trivial,?_⟩⟩
 have hL:bM ws ls ns L:=⟨k,en,pL,sL⟩
 obtain ⟨q0,q1⟩:=q hs L hL
 have lL:=pL.length_eq
 obtain ⟨nd,inn⟩:=hL.nd hs
 have up:=hL.up hs
 have ndL:L.Nodup:=(aY7.mp nd).2.1
 refine⟨_,rfl,_,_,rfl,rfl,_,_,rfl,rfl,_,rfl,?_⟩
 show if decide (((intz L).length:Int) > 12)=true then _ else _
 rw [b4]
 by_cases h12:(L.length:Int) > 12
 ·rw [aW5 h12]
  exact aY ⟨by show 1<=1000; decide,q1 (by omega)⟩
 rw [aW4 h12]
 have l12:L.length<=12:=by omega
 have q0:=q0 l12
 refine aU ?_
 refine⟨_,rfl,ws,ls,rfl,wb,trivial,?_⟩
 refine⟨rfl,rfl,?_⟩
 have sl:=U2 L
 have p12:2 ^ L.length<=4096:=aY8 (Nat.pow_le_pow_right (by decide) l12) (by decide)
 refine⟨_,rfl,_,L,rfl,.inr rfl,l12,tups (bN L),rfl,(by intro z; cases z),fun i ρ=>∃ (ps:List (List aB × PV)) (y5 y6 y7:Option Slot),ρ = [some (.sh (flat (bB ws ls)) (bB ws ls)),some (.sh (flat x) x),some (.sh true (.lst (intz L))),some (.sh true (.lst (fW ws.length ls))),some (.own (.dT ps)),y5,y6,y7]/\ps.length<=i/\∀ (j:Nat) (A:List Int),(bN L)[j]? = some A->2 ^ L.length - i<=j->bQ ps (dQ A)=some (.lst (cM (fL (bO ws ls ns L) (L.length - A.length) A))),
  ⟨[],none,none,none,rfl,aV0 _,fun j A hA hj=>by have:=(aV3.mp hA).1; omega⟩,?_,?_⟩
 ·rintro i y ρ hy ⟨ps,y5,y6,y7,rfl,pl,inv⟩
  have il:i < (tups (bN L)).length:=by have:=(aV3.mp hy).1; rwa [List.length_reverse] at this
  rw [List.getElem?_reverse il] at hy
  rw [jU,sl] at il hy
  obtain ⟨A,rfl,hA⟩:=w9 hy
  have sb:=oQ (aW8 hA)
  have al:=sb.length_le
  have aUp:A.Pairwise (· <= ·):=(up.sublist sb).imp fun h=>by omega
  have subset:∀ x ∈ A,x ∈ L:=fun x hx=>sb.subset hx
  have nsl:ns.length+L.length<=ws.length:=by rw [lL]; exact ln
  refine⟨_,rfl,⟨_,_,rfl,hx.seqT,c8 _,_,rfl,_,_,rfl,rfl,c8 _,c8 _,by rw [b4,b4]; omega,_,ns ++ A,rfl,.inl (by rw [cQ]),by rw [aU9]; omega,fun bs ds=>⟨trivial,?_⟩⟩,hx.noscr⟩
  refine⟨_,rfl,_,rfl,(fun z=>by cases z),by rw [b4]; omega,fun j acc=>acc=intz ((L.take j).filter (kin ws ls (ns ++ A))),rfl,?_,?_⟩
  ·rintro j z acc hz rfl
   obtain ⟨h,rfl,hh⟩:=eU hz
   have tk:=kT (p:=kin ws ls (ns ++ A)) hh
   have hr:=iJ.mp (inn h (aX1 _ (aW8 hh)))
   refine⟨_,rfl,_,rfl,_,rfl,_,rfl,ws,ls,bs,ns ++ A,h,rfl,wb,ds,hr.1,hr.2,_,rfl,?_⟩
   cases hm:kin ws ls (ns ++ A) h with
   | true=>
    rw [hm] at tk
    refine aY ⟨_,rfl,trivial,?_⟩
    dsimp only
    rw [tk,cQ]; rfl
   | false=>
    rw [hm] at tk
    refine aU ?_
    dsimp only
    rw [tk]; exact congrArg intz (aY4 _).symm
  rintro acc rfl
  rw [b4,aX9]
  refine⟨trivial,?_⟩
  have abl:(bO ws ls ns L A).length<=L.length:=bd3 _ _
  have abm:∀ h ∈ bO ws ls ns L A,h ∈ L/\h ∉ A:=fun h hh=>by
   have:=aZ6.mp hh
   refine⟨this.1,fun z=>?_⟩
   have k1:=this.2
   unfold kin at k1
   rw [aW5 (aX1 _ z)] at k1
   simp at k1
  have eb:fL (bO ws ls ns L) (L.length - A.length) A=(bO ws ls ns L A).map fun h=>(h,Wt (bO ws ls ns L) (L.length - A.length - 1) (cG h A)):=rfl
  show U7 _ [some (.sh (flat (bB ws ls)) (bB ws ls)),some (.sh (flat x) x),some (.sh true (.lst (intz L))),some (.sh true (.lst (fW ws.length ls))),some (.own (.dT ps)),some (.sh true (.tup (intz A))),some (.sh true (.dK bs)),some (.sh true (.lst (intz (bO ws ls ns L A))))]
  refine⟨_,rfl,_,rfl,(fun z=>by cases z),by rw [b4]; omega,fun j acc=>acc=cM (((bO ws ls ns L A).take j).map fun h=>(h,Wt (bO ws ls ns L) (L.length - A.length - 1) (cG h A))),rfl,?_,?_⟩
  ·rintro j z acc hz rfl
   obtain ⟨h,rfl,hh⟩:=eU hz
   obtain ⟨hhL,hhA⟩:=abm h (aW8 hh)
   obtain ⟨p,hp1,hp2⟩:=U3 up _ A hA h hhL hhA
   refine⟨_,rfl,_,rfl,_,rfl,_,rfl,by show 1<=1000; decide,rfl,_,_,rfl,rfl,c8 _,rfl,by rw [b4]; show A.length+1<=_; omega,_,A ++ [h],rfl,.inl (by rw [cQ]; rfl),by rw [aU9]; show A.length+1 < _; omega,fun ms pm sm=>?_⟩
   obtain rfl:=wZ aUp pm sm
   have sb2:=oQ (aW8 hp2)
   have len2:=U1 h A
   refine⟨_,.inr ⟨ps,dQ (cG h A),rfl,by rw [oS],(inv p _ hp2 (by omega)).symm⟩,_,rfl,?_,?_⟩
   ·unfold fL
    rw [aV1]
    have:(bO ws ls ns L (cG h A)).length<=L.length:=bd3 _ _
    omega
   rw [sC (fun e=>sD sb2 ndL e),len2,show L.length - (A.length+1)=L.length - A.length - 1 by omega]
   refine⟨by show 2<=1000; decide,rfl,trivial,?_⟩
   dsimp only
   rw [aX7,hh,aX8]
   unfold cM
   rw [aX8]; rfl
  rintro acc rfl
  rw [b4,aX9]
  refine⟨ps,rfl,_,rfl,dQ A,(by rw [oS]; rfl),trivial,by omega,cE ps (dQ A) _,some (.sh true (.tup (intz A))),some (.sh true (.dK bs)),some (.sh true (.lst (intz (bO ws ls ns L A)))),rfl,?_,fun j B hB hj=>?_⟩
  ·have:=qY ps (dQ A) (PV.lst (cM ((bO ws ls ns L A).map fun h=>(h,Wt (bO ws ls ns L) (L.length - A.length - 1) (cG h A)))))
   omega
  ·rw [w4]
   by_cases e:dQ B=dQ A
   ·rw [if_pos e,aL9 e]; rfl
   ·rw [if_neg e]
    refine inv j B hB ?_
    have:j ≠ 2 ^ L.length - 1 - i:=fun z=>by
     rw [z,hA] at hB
     cases hB
     exact e rfl
    omega
 ·rintro ρ ⟨ps,y5,y6,y7,rfl,pl,inv⟩
  rw [List.length_reverse,jU,sl] at inv
  refine⟨_,rfl,trivial,q0 ps fun A hA=>?_⟩
  obtain ⟨j,hj⟩:=bh3 hA
  exact inv j A hj (by omega)
theorem U9 (L:List Int) : [] ∈ bN L:=aW8 (aL5 L)
noncomputable def cI (ws:List Int) (ls:List (Int × Int)) (ns L:List Int):Int:=Wt (bO ws ls ns L) L.length []
def sE:dB:=fun Ep xs Q=>∃ ws ls x ns,xs = [bB ws ls,x]/\Wb ws ls/\bW x ns/\ns.length<=1000/\(aW ws.length ns=true->∀ L,bM ws ls ns L->(L.length<=12->Q (.int (cI ws ls ns L)))/\(12 < L.length->Ep "TooMany"))/\(aW ws.length ns=false->Ep "BadSet")
def V0 (Ep:Str->Prop):aK:=(bE (aC k8 (a6 (jO (eV Ep k9 (a6 (a5 0) (a6 (a5 1) a9))) (dF a9)) a9)))
theorem BR.nil {ws:List Int}{ls:List (Int × Int)}{ns L:List Int}{ps:List (List aB × PV)} (br:BR ws ls ns L ps):bQ ps (dQ [])=some (.lst (cM (fL (bO ws ls ns L) L.length []))):=br [] (U9 L)
theorem sF {ws:List Int}{ls:List (Int × Int)}{ns L A:List Int}{k:Nat}:(fL (bO ws ls ns L) k A).length<=L.length:=by
 unfold fL
 rw [aV1]
 exact bd3 _ _
theorem aM2:gS V0 ["web","seeds"] sE:=by
 rintro Ep xs Q ⟨ws,ls,x,ns,rfl,wb,hx,hl,q,qe⟩
 refine⟨_,rfl,_,rfl,ws,ls,x,ns,rfl,wb,hx,hl,fun hs L hL=>⟨fun l12 ps br=>?_,(q hs L hL).2⟩,qe⟩
 refine⟨by decide,rfl,_,.inr ⟨ps,dQ [],rfl,rfl,br.nil.symm⟩,_,rfl,by have:=sF (ws:=ws) (ls:=ls) (ns:=ns) (L:=L) (A:=[]) (k:=L.length); omega,trivial,?_⟩
 rw [sC (fun e=>sD (List.nil_sublist L) (aY7.mp (hL.nd hs).1).2.1 (by rw [e]; rfl))]
 exact (q hs L hL).1 l12
noncomputable def gT (ws:List Int) (ls:List (Int × Int)) (B:List Int):List Int:=(rng ws.length).filter (kin ws ls B)
theorem x3 {ws:List Int}{ls:List (Int × Int)}{B:List Int}{h:Int} (k:kin ws ls B h=true):h ∉ B:=bd6 (oD k)
theorem aM3 {ws:List Int}{ls:List (Int × Int)}{ns L A B:List Int} (hL:bM ws ls ns L) (hs:aW ws.length ns=true) (sub:∀ x ∈ A,x ∈ L) (p:B.Perm (ns ++ A)):gT ws ls B=bO ws ls ns L A:=by
 obtain ⟨nd,inn⟩:=hL.nd hs
 have up:=hL.up hs
 unfold gT bO
 have e:kin ws ls B=kin ws ls (ns ++ A):=funext fun h=>U6 (fun x=>p.mem_iff) h
 rw [e]
 refine oG ?_ ((Q2 _).filter _) ((up.imp fun h=>Int.le_of_lt h).filter _)
 refine (List.perm_ext_iff_of_nodup ((O5 _).filter _) ((aY7.mp nd).2.1.filter _)).mpr fun h=>?_
 rw [aZ6,aZ6]
 constructor
 ·rintro ⟨h1,h2⟩
  refine⟨?_,h2⟩
  by_cases hz:h ∈ ns ++ L
  ·rcases aX3.mp hz with hz | hz
   ·exact absurd (aZ0 _ hz) (x3 h2)
   ·exact hz
  ·have:=rF h2 (fun x hx=>by
    rcases aX3.mp hx with hx | hx
    ·exact aZ0 _ hx
    ·exact aX1 _ (sub x hx)) hz
   rw [hL.shut h h1] at this; cases this
 ·rintro ⟨h1,h2⟩
  exact⟨inn h (aX1 _ h1),h2⟩
def jD:Nat->Int
 | 0=>1
 | k+1=>((k:Int)+1) * jD k
def dH (O:List Int):List Int:=O.foldl (fun A h=>cG h A) []
theorem x4 (O:List Int) (h:Int):dH (O ++ [h])=cG h (dH O):=by unfold dH; rw [List.foldl_append]; rfl
theorem mK:∀ O:List Int,(dH O).Perm O/\(dH O).Pairwise (· <= ·):=by
 refine l5 ⟨bh5 _,.nil⟩ ?_
 rintro O h ⟨i1,i2⟩
 rw [x4]
 exact⟨(k6 h _).trans (i1.append_right [h]),sB h i2⟩
theorem x5 {O ms:List Int} (p:ms.Perm O) (s:ms.Pairwise (· <= ·)):ms=dH O:=oG (p.trans (mK O).1.symm) s (mK O).2
theorem V1 (O:List Int):(dH O).length=O.length:=(mK O).1.length_eq
theorem aM4 {L:List Int} (up:L.Pairwise (· < ·)):∀ O:List Int,O.Nodup->(∀ x ∈ O,x ∈ L)->dH O ∈ bN L:=by
 refine l5 (fun _ _=>U9 L) ?_
 intro O h ih nd sub
 obtain ⟨n1,_,n3⟩:=aY7.mp nd
 obtain ⟨p,hp⟩:=bh3 (ih n1 fun x hx=>sub x (aZ0 _ hx))
 have hn:h ∉ dH O:=fun z=>n3 h ((mK O).1.mem_iff.mp z) h aV9 rfl
 obtain ⟨q,_,hq⟩:=U3 up p _ hp h (sub h (aX1 _ aV9)) hn
 rw [x4]
 exact aW8 hq
section
variable {ws : List Int} {ls : List (Int × Int)} {ns L : List Int}
theorem bM.sub (hL:bM ws ls ns L) (hs:aW ws.length ns=true) {R:List Int} (g:bA ws ls ns R=true):R.Nodup/\∀ x ∈ R,x ∈ L:=by
 obtain ⟨nd,inn⟩:=l4 hs g
 obtain ⟨n1,n2,n3⟩:=aY7.mp nd
 refine⟨n2,fun x hx=>?_⟩
 rcases aX3.mp (mJ hL.shut g (fun x hx=>aZ0 _ hx) x (aX1 _ hx)) with h | h
 ·exact absurd rfl (n3 x h x hx)
 ·exact h
theorem bM.key (hL:bM ws ls ns L) (hs:aW ws.length ns=true) {R:List Int} (g:bA ws ls ns R=true):dH R ∈ bN L:=aM4 (hL.up hs) R (hL.sub hs g).1 (hL.sub hs g).2
theorem sG (hL:bM ws ls ns L) (hs:aW ws.length ns=true) {R:List Int} (g:bA ws ls ns R=true):bO ws ls ns L (dH R)=gT ws ls (ns ++ R):=
 (aM3 hL hs (fun x hx=>(hL.sub hs g).2 x ((mK R).1.mem_iff.mp hx)) (List.Perm.append_left ns (mK R).1.symm)).symm
theorem V2 {R:List Int}{h:Int} (g:bA ws ls ns R=true) (hh:h ∈ gT ws ls (ns ++ R)):bA ws ls ns (R ++ [h])=true:=by
 have hm:=aZ6.mp hh
 have hr:=iJ.mp hm.1
 rw [mI,g,hm.2]
 have:inB ws.length h=true:=by unfold inB; simp; omega
 rw [this]; rfl
theorem aM5 {R:List Int}:gT ws ls (ns ++ R) = [] ↔ e8 ws ls (ns ++ R):=by
 unfold gT e8
 rw [bc9]
 exact⟨fun z h hh=>by simpa using z h hh,fun z h hh=>by rw [z h hh]; decide⟩
theorem V3 (hL:bM ws ls ns L) (hs:aW ws.length ns=true) (A:List Int):(bO ws ls ns L A).Pairwise (· < ·):=(hL.up hs).filter _
noncomputable def bI (ws:List Int) (ls:List (Int × Int)) (ns L O:List Int):List (Int × Int):=fL (bO ws ls ns L) (L.length - O.length) (dH O)
theorem BR.at (br:BR ws ls ns L ps) (hL:bM ws ls ns L) (hs:aW ws.length ns=true) {R:List Int} (g:bA ws ls ns R=true):bQ ps (dQ (dH R))=some (.lst (cM (bI ws ls ns L R))):=by
 have:=br _ (hL.key hs g)
 rwa [V1] at this
theorem mL {ab:List Int->List Int}:∀ (k:Nat) (A:List Int),1<=Wt ab k A
 | 0,_=>Int.le_refl _
 | k+1,A=>by
  show 1<=if ab A = [] then (1:Int) else ((ab A).map fun h=>Wt ab k (cG h A)).sum
  split
  ·exact Int.le_refl _
  ·rename_i z
   have pos:∀ l:List Int,0<=(l.map fun h=>Wt ab k (cG h A)).sum:=by
    intro l
    induction l with
    | nil=>exact Int.le_refl _
    | cons a r ih=>rw [aY6,List.sum_cons]; have:=mL (ab:=ab) k (cG a A); omega
   cases hab:ab A with
   | nil=>exact absurd hab z
   | cons a r=>rw [aY6,List.sum_cons]; have:=mL (ab:=ab) k (cG a A); have:=pos r; omega
noncomputable def wO (ws:List Int) (ls:List (Int × Int)) (ns L O:List Int):Int:=Wt (bO ws ls ns L) (L.length - O.length) (dH O)
theorem V4 (hL:bM ws ls ns L) (hs:aW ws.length ns=true) {O:List Int} (g:bA ws ls ns O=true):k7 (bI ws ls ns L O)=wO ws ls ns L O:=by
 unfold bI wO
 refine sC fun e=>sD (oQ (hL.key hs g)) ((hL.up hs).imp fun h=>Int.ne_of_lt h) (by rw [V1]; exact e)
theorem sH {O:List Int}{i:Nat}{p:Int × Int} (hp:(bI ws ls ns L O)[i]? = some p):(bO ws ls ns L (dH O))[i]? = some p.1/\p.2=wO ws ls ns L (O ++ [p.1]):=by
 unfold bI fL at hp
 rw [aV7] at hp
 cases h:(bO ws ls ns L (dH O))[i]? with
 | none=>rw [h] at hp; cases hp
 | some a=>
  rw [h] at hp
  cases hp
  refine⟨rfl,?_⟩
  unfold wO
  rw [x4,aU9]
  show Wt _ (L.length - O.length - 1) _=Wt _ (L.length - (O.length+1)) _
  rw [show L.length - (O.length+1)=L.length - O.length - 1 by omega]
noncomputable def dC (ws:List Int) (ls:List (Int × Int)) (ns L O:List Int) (h:Int):Int:=(((bI ws ls ns L O).filter fun p=>decide (p.1 < h)).map (·.2)).sum
noncomputable def cV (ws:List Int) (ls:List (Int × Int)) (ns L O:List Int):Nat->Int
 | 0=>0
 | i+1=>cV ws ls ns L O i+dC ws ls ns L (O.take i) (O.getD i 0)
noncomputable def cW (ws:List Int) (ls:List (Int × Int)) (ns L O:List Int):Int:=cV ws ls ns L O O.length
theorem sI (O R:List Int):∀ i,i<=O.length->cV ws ls ns L (O ++ R) i=cV ws ls ns L O i
 | 0,_=>rfl
 | i+1,h=>by
  show cV ws ls ns L (O ++ R) i+dC ws ls ns L ((O ++ R).take i) ((O ++ R).getD i 0)=cV ws ls ns L O i+dC ws ls ns L (O.take i) (O.getD i 0)
  rw [sI O R i (by omega),List.take_append_of_le_length (by omega)]
  congr 2
  rw [aW1,aW1,bc0 (by omega)]
theorem V5 (O:List Int) (h:Int):cW ws ls ns L (O ++ [h])=cW ws ls ns L O+dC ws ls ns L O h:=by
 unfold cW
 rw [aU9]
 show cV ws ls ns L (O ++ [h]) O.length+dC ws ls ns L ((O ++ [h]).take O.length) ((O ++ [h]).getD O.length 0)=_
 rw [sI O [h] _ (aV0 _),List.take_append_of_le_length (aV0 _),aX9]
 congr 2
 rw [aW1,bc6 (aV0 _),Nat.sub_self]; rfl
theorem x6 (hL:bM ws ls ns L) (hs:aW ws.length ns=true) {O:List Int}{i:Nat}{p:Int × Int} (hp:(bI ws ls ns L O)[i]? = some p):dC ws ls ns L O p.1=(((bI ws ls ns L O).take i).map (·.2)).sum:=by
 unfold dC
 congr 2
 have up:(bI ws ls ns L O).Pairwise fun a b=>a.1 < b.1:=by
  unfold bI fL
  rw [bb8]
  exact V3 hL hs _
 generalize bI ws ls ns L O=C at hp up
 induction C generalizing i with
 | nil=>cases hp
 | cons c r ih=>
  obtain ⟨u1,u2⟩:=be9.mp up
  cases i with
  | zero=>
   cases hp
   rw [bh6,bc9]
   intro x hx
   rcases aV5.mp hx with rfl | hx
   ·simp
   ·have:=u1 x hx; simp; omega
  | succ i=>
   rw [aY2] at hp
   have h1:=u1 p (aW8 hp)
   rw [List.filter_cons,if_pos (aW5 h1),List.take_succ_cons,ih hp u2]
end
def kA:dB:=fun Ep xs Q=>∃ ws ls x ns,∃ num:Int,xs = [bB ws ls,x,.int num]/\Wb ws ls/\bW x ns/\ns.length<=1000/\(aW ws.length ns=true->∀ L,bM ws ls ns L->(L.length<=12->((0<=num/\num < cI ws ls ns L)->∀ O,bA ws ls ns O=true->e8 ws ls (ns ++ O)->cW ws ls ns L O=num->Q (.tup (intz O)))/\((num < 0 ∨ cI ws ls ns L<=num)->Ep "NoSuch"))/\(12 < L.length->Ep "TooMany"))/\(aW ws.length ns=false->Ep "BadSet")
def aM6:aK:=(dX (dG (jO (a5 3) (aC jC (a6 (a5 4) a9)))) (gY 6 7)
   (aI (cC (aV (j5 (a5 5) (a5 7))) (aI (b5 4 (oI (a5 4) (dF (a6 (a5 6) a9))))
    uQ) cF)
   (b5 5 (vA (a5 5) (a5 7)))))
def V6:aK:=(aI (lM (nX (jO (a5 3) (aC jC (a6 (a5 4) a9))))
  aM6)
 (gK 4))
def V7 (Ep:Str->Prop):aK:=(aI (b5 3 (eV Ep k9 (a6 (a5 0) (a6 (a5 1) a9))))
 (aI (cC (jK (aV (j5 (a5 2) (qC (.int 0)))) (aV (o4 (a5 2) (aC k8 (a6 (jO (a5 3) (dF a9)) a9))))) (kZ Ep "NoSuch" (a6 (qC (.str "no order has this number")) a9)) cF)
 (aI (b5 4 (dF a9))
 (aI (b5 5 (a5 2))
 V6))))
theorem V8 {ab:List Int->List Int}{k:Nat}{A:List Int}:∀ (l:List (Int × Int)),(∀ p ∈ l,0<=p.2)->∀ i,((l.take i).map (·.2)).sum<=(l.map (·.2)).sum
 | [],_,i=>by simp
 | a :: r,h,0=>by
  rw [bh6]
  show (0:Int)<=((a :: r).map (·.2)).sum
  have:∀ l:List (Int × Int),(∀ p ∈ l,0<=p.2)->0<=(l.map (·.2)).sum:=by
   intro l
   induction l with
   | nil=>intro _; exact Int.le_refl _
   | cons a r ih=>intro h; rw [aY6,List.sum_cons]; have:=h a aV9; have:=ih fun p hp=>h p (aW6 _ hp); omega
  exact this _ h
 | a :: r,h,i+1=>by
  rw [List.take_succ_cons,aY6,List.sum_cons,aY6,List.sum_cons]
  have:=V8 (ab:=ab) (k:=k) (A:=A) r (fun p hp=>h p (aW6 _ hp)) i
  omega
theorem aM7 {ws:List Int}{ls:List (Int × Int)}{ns L:List Int}{ps:List (List aB × PV)}{num:Int}{Q:PV->Prop}{Qn:Prop}{y0 y1 y2:Option Slot} (hL:bM ws ls ns L) (hs:aW ws.length ns=true) (l12:L.length<=12) (br:BR ws ls ns L ps) (n0:0<=num) (n1:num < cI ws ls ns L)
  (q:∀ O,bA ws ls ns O=true->e8 ws ls (ns ++ O)->cW ws ls ns L O=num->Q (.tup (intz O))) :
  V6 { nx:=fun _=>Qn,rt:=Q } [y0,y1,y2,some (.sh true (.dT ps)),some (.sh true (.tup (intz []))),some (.sh true (.int num)),none,none]:=by
 refine⟨fun m ρ=>∃ (O:List Int) (l:Int) (y6 y7:Option Slot),ρ = [y0,y1,y2,some (.sh true (.dT ps)),some (.sh true (.tup (intz O))),some (.sh true (.int l)),y6,y7]/\m=L.length - O.length/\bA ws ls ns O=true/\0<=l/\l < wO ws ls ns L O/\cW ws ls ns L O+l=num,⟨L.length,[],num,none,none,rfl,rfl,rfl,n0,n1,Int.zero_add _⟩,?_⟩
 rintro m ρ ⟨O,l,y6,y7,rfl,rfl,g,l0,l1,hnum⟩
 obtain ⟨ndO,subO⟩:=hL.sub hs g
 have ol:O.length<=L.length:=ndO.length_le_of_subset subO
 have clen:(bI ws ls ns L O).length<=L.length:=sF
 refine⟨_,rfl,_,rfl,_,O,rfl,.inl rfl,by omega,fun ms pm sm=>?_⟩
 obtain rfl:=x5 pm sm
 refine⟨_,.inr ⟨ps,dQ (dH O),rfl,by rw [oS],(br.at hL hs g).symm⟩,_,rfl,?_⟩
 have cs:=V4 hL hs g
 cases hC:(cM (bI ws ls ns L O)).isEmpty with
 | true=>
  refine aU ?_
  have cn:bI ws ls ns L O = []:=by
   cases h:bI ws ls ns L O with
   | nil=>rfl
   | cons a r=>rw [h] at hC; cases hC
  have an:bO ws ls ns L (dH O) = []:=List.map_eq_nil_iff.mp cn
  rw [cn] at cs
  have w1:wO ws ls ns L O=1:=cs.symm
  refine⟨_,rfl,trivial,q O g ?_ (by omega)⟩
  rw [sG hL hs g] at an
  exact aM5.mp an
 | false=>
  refine aY ?_
  have cne:bI ws ls ns L O ≠ []:=fun z=>by rw [z] at hC; cases hC
  have tot:((bI ws ls ns L O).map (·.2)).sum=wO ws ls ns L O:=by rw [<- cs]; unfold k7; rw [if_neg cne]
  refine⟨_,rfl,_,rfl,_,O,rfl,.inl rfl,by omega,fun ms pm sm=>?_⟩
  obtain rfl:=x5 pm sm
  refine⟨_,.inr ⟨ps,dQ (dH O),rfl,by rw [oS],(br.at hL hs g).symm⟩,_,rfl,(fun z=>by cases z),fun i ρ=>∃ y6 y7:Option Slot,ρ = [y0,y1,y2,some (.sh true (.dT ps)),some (.sh true (.tup (intz O))),some (.sh true (.int (l - (((bI ws ls ns L O).take i).map (·.2)).sum))),y6,y7]/\0<=l - (((bI ws ls ns L O).take i).map (·.2)).sum,⟨y6,y7,by rw [bh6,List.map_nil,List.sum_nil,Int.sub_zero],by rw [bh6,List.map_nil,List.sum_nil,Int.sub_zero]; exact l0⟩,?_,?_⟩
  ·rintro i y ρ hy ⟨z6,z7,rfl,inv⟩
   obtain ⟨p,rfl,hp⟩:=x0 hy
   obtain ⟨hpa,hpw⟩:=sH hp
   have nx:(((bI ws ls ns L O).take (i+1)).map (·.2)).sum=(((bI ws ls ns L O).take i).map (·.2)).sum+p.2:=by
    rw [aX7,hp,aX8,List.sum_append]
    show _+(p.2+0)=_
    omega
   have ls':=x6 hL hs hp
   refine⟨_,_,rfl,?_⟩
   refine⟨_,rfl,_,rfl,_,_,rfl,rfl,_,rfl,?_⟩
   generalize (((bI ws ls ns L O).take i).map (·.2)).sum=s at inv nx ls'
   show if decide (l - s < p.2)=true then _ else _
   by_cases hlt:l - s < p.2
   ·rw [aW5 hlt]
    have pin:p.1 ∈ gT ws ls (ns ++ O):=by rw [<- sG hL hs g]; exact aW8 hpa
    have g2:=V2 g pin
    obtain ⟨nd2,sub2⟩:=hL.sub hs g2
    have o2:=nd2.length_le_of_subset sub2
    rw [aU9] at o2
    have o2:O.length+1<=L.length:=o2
    refine aY ⟨_,rfl,_,rfl,by show 1<=1000; decide,rfl,_,_,rfl,rfl,c8 _,rfl,by rw [b4]; show O.length+1<=_; omega,trivial,L.length - (O ++ [p.1]).length,by rw [aU9]; show L.length - (O.length+1) < _; omega,O ++ [p.1],l - s,some (.sh true (.int p.1)),some (.sh true (.int p.2)),?_,rfl,g2,inv,by rw [<- hpw]; exact hlt,?_⟩
    ·rw [cQ]; rfl
    ·rw [V5,ls']; omega
   ·rw [aW4 hlt]
    refine aU ⟨_,rfl,_,rfl,_,_,rfl,rfl,trivial,some (.sh true (.int p.1)),some (.sh true (.int p.2)),?_,?_⟩
    ·dsimp only
     rw [nx,show l - (s+p.2)=l - s - p.2 by omega]; rfl
    ·rw [nx]; omega
  ·rintro ρ ⟨z6,z7,rfl,inv⟩
   rw [oR,aX9,tot] at inv
   exfalso; omega
theorem aM8:gS V7 ["web","seeds","number","branches","order","left","hearth","many"] kA:=by
 rintro Ep xs Q ⟨ws,ls,x,ns,num,rfl,wb,hx,hl,q,qe⟩
 refine⟨_,rfl,_,rfl,ws,ls,x,ns,rfl,wb,hx,hl,fun hs L hL=>⟨fun l12 ps br=>⟨trivial,?_⟩,(q hs L hL).2⟩,qe⟩
 obtain ⟨q0,q1⟩:=(q hs L hL).1 l12
 refine⟨_,rfl,_,_,rfl,rfl,_,rfl,?_⟩
 show if decide (num < 0)=true then _ else _
 by_cases h0:num < 0
 ·rw [aW5 h0]
  exact aY (aY ⟨by show 1<=1000; decide,q1 (.inl h0)⟩)
 rw [aW4 h0]
 refine aU ⟨_,rfl,_,rfl,by decide,rfl,_,.inr ⟨ps,dQ [],rfl,rfl,br.nil.symm⟩,_,rfl,by have:=sF (ws:=ws) (ls:=ls) (ns:=ns) (L:=L) (A:=[]) (k:=L.length); omega,_,_,rfl,rfl,_,rfl,?_⟩
 rw [sC (fun e=>sD (List.nil_sublist L) (aY7.mp (hL.nd hs).1).2.1 (by rw [e]; rfl))]
 show if decide (num >= cI ws ls ns L)=true then _ else _
 by_cases h1:cI ws ls ns L<=num
 ·rw [aW5 h1]
  exact aY ⟨by show 1<=1000; decide,q1 (.inr h1)⟩
 ·rw [aW4 h1]
  refine aU ⟨by decide,rfl,trivial,_,rfl,trivial,?_⟩
  exact aM7 hL hs l12 br (by omega) (by omega) fun O=>q0 ⟨by omega,by omega⟩ O
theorem V9 {ws:List Int}{ls:List (Int × Int)}{ns R:List Int} (hs:aW ws.length ns=true) (g:bA ws ls ns R=true) {m:Nat} (en:cJ ws ls ns m):ns.length+R.length=(aZ ws ls ns m).length ↔ e8 ws ls (ns ++ R):=by
 constructor
 ·intro e
  have s2:e8 ws ls (aZ ws ls ns m):=fun h hh=>by
   have:=bc9.mp (show (rng ws.length).filter (kin ws ls (aZ ws ls ns m)) = [] from en.2) h hh
   simpa using this
  have base:∀ y ∈ ns,∀ m,y ∈ aZ ws ls ns m:=fun y hy m=>by
   induction m with
   | zero=>exact hy
   | succ m ih=>exact aZ0 _ ih
  obtain ⟨nd,inn⟩:=l4 hs g
  have sub:∀ x ∈ ns ++ R,x ∈ aZ ws ls ns m:=mJ s2 g fun y hy=>base y hy m
  intro h hh
  cases hk:kin ws ls (ns ++ R) h with
  | false=>rfl
  | true=>
   exfalso
   have hn:=x3 hk
   by_cases hm:h ∈ aZ ws ls ns m
   ·have n2:(ns ++ R ++ [h]).Nodup:=aY7.mpr ⟨nd,aY1 _ _,fun x hx y hy w=>by rw [aV6] at hy; rw [w,hy] at hx; exact hn hx⟩
    have:=n2.length_le_of_subset (l₂:=aZ ws ls ns m) fun x hx=>by
     rcases aX3.mp hx with hx | hx
     ·exact sub x hx
     ·rw [aV6] at hx; rw [hx]; exact hm
    rw [aU9,aU9] at this
    have:ns.length+R.length+1<=_:=this
    omega
   ·have:=rF hk sub hm
    rw [s2 h hh] at this; cases this
 ·intro sh
  rw [<- aU9]
  exact (aK4 hs g sh en).length_eq
def sJ:dB:=fun Ep xs Q=>∃ ws ls x ns y R,xs = [bB ws ls,x,y]/\Wb ws ls/\bW x ns/\ns.length<=1000/\bW y R/\R.length<=1000/\(aW ws.length ns=true->∀ L,bM ws ls ns L->(L.length<=12->((bA ws ls ns R=true/\e8 ws ls (ns ++ R))->Q (.int (cW ws ls ns L R)))/\(¬ (bA ws ls ns R=true/\e8 ws ls (ns ++ R))->Ep "BadOrder"))/\(12 < L.length->Ep "TooMany"))/\(aW ws.length ns=false->Ep "BadSet")
def W0:aK:=(aI (dX (rD (a5 2)) (gY 5 6)
  (aI (b5 7 (bU (dG (jO (a5 3) (aC jC (a6 (qJ (a5 2) qH (qI (a5 5))) a9)))) [none,none,some 6] (gY 0 1) (aV (j5 (a5 0) (a5 2))) (a5 1)))
  (b5 4 (fF (a5 4) (aC rH (a6 (a5 7) a9))))))
 (gK 4))
def W5 (Ep:Str->Prop):aK:=(aI (b5 3 (eV Ep k9 (a6 (a5 0) (a6 (a5 1) a9))))
 (aI (cC (iC (aV (eV Ep rY (a6 (a5 0) (a6 (a5 1) (a6 (a5 2) a9)))))) (kZ Ep "BadOrder" (a6 (qC (.str "this is no order for the seeds")) a9)) cF)
 (aI (b5 4 (qC (.int 0)))
 W0)))
theorem sK {ws:List Int}{ls:List (Int × Int)}{ns:List Int}:∀ {R:List Int},bA ws ls ns R=true->∀ i,bA ws ls ns (R.take i)=true:=by
 intro R
 refine l5 (motive:=fun R=>bA ws ls ns R=true->∀ i,bA ws ls ns (R.take i)=true) (fun _ i=>by simp [bA]) ?_ R
 intro R h ih g i
 rw [mI,aW7] at g
 by_cases hi:i<=R.length
 ·rw [List.take_append_of_le_length hi]; exact ih g.1 i
 ·rw [bc3 (by rw [aU9]; show R.length+1<=i; omega),mI,aW7]; exact g
theorem aM9 {ws:List Int}{ls:List (Int × Int)}{ns L R:List Int}{ps:List (List aB × PV)}{y:PV}{Q:PV->Prop}{Qn:Prop}{y0 y1:Option Slot} (hL:bM ws ls ns L) (hs:aW ws.length ns=true) (l12:L.length<=12) (br:BR ws ls ns L ps) (hy:bW y R) (g:bA ws ls ns R=true) (q:Q (.int (cW ws ls ns L R))) :
  W0 { nx:=fun _=>Qn,rt:=Q } [y0,y1,some (.sh (flat y) y),some (.sh true (.dT ps)),some (.sh true (.int 0)),none,none,none]:=by
 obtain ⟨ndR,subR⟩:=hL.sub hs g
 have rl:R.length<=L.length:=ndR.length_le_of_subset subR
 refine⟨_,rfl,intz R,hy.symm,(kU hy),fun i ρ=>∃ y5 y6 y7:Option Slot,ρ = [y0,y1,some (.sh (flat y) y),some (.sh true (.dT ps)),some (.sh true (.int (cV ws ls ns L R i))),y5,y6,y7],⟨none,none,none,rfl⟩,?_,?_⟩
 ·rintro i z ρ hz ⟨y5,y6,y7,rfl⟩
  obtain ⟨z,hz2,rfl⟩:=P6 hz
  obtain ⟨h,rfl,hh⟩:=eU hz2
  have il:=(aV3.mp hh).1
  have gt:=sK g i
  have tl:(R.take i).length<=12:=by rw [ba8]; omega
  refine⟨_,_,rfl,?_⟩
  have cut:bW (qG y (fE (intz R) none (some (i:Int)))) (R.take i):=by
   rw [aH7 _ (by omega),bd2]
   rcases hy with rfl | rfl
   ·exact .inl rfl
   ·exact .inr rfl
  have clen:(bI ws ls ns L (R.take i)).length<=L.length:=sF
  refine⟨_,rfl,_,rfl,_,rfl,_,rfl,_,hy.seqT,c8 _,_,R.take i,rfl,cut,by omega,fun ms pm sm=>?_⟩
  obtain rfl:=x5 pm sm
  refine⟨_,.inr ⟨ps,dQ (dH (R.take i)),rfl,by rw [oS],(br.at hL hs gt).symm⟩,_,rfl,(fun z=>by cases z),by rw [oR]; omega,fun j acc=>acc=intz ((((bI ws ls ns L (R.take i)).take j).filter fun p=>decide (p.1 < h)).map (·.2)),rfl,?_,?_⟩
  ·rintro j z acc hz rfl
   obtain ⟨p,rfl,hp⟩:=x0 hz
   have tk:=kT (p:=fun p:Int × Int=>decide (p.1 < h)) hp
   refine⟨_,_,rfl,_,rfl,_,rfl,_,_,rfl,rfl,_,rfl,?_⟩
   show if decide (p.1 < h)=true then _ else _
   cases hm:decide (p.1 < h) with
   | true=>
    rw [hm] at tk
    refine aY ⟨_,rfl,trivial,?_⟩
    dsimp only
    rw [tk,aX8,cQ]; rfl
   | false=>
    rw [hm] at tk
    refine aU ?_
    dsimp only
    rw [tk]; simp
  rintro acc rfl
  rw [oR,aX9]
  refine⟨trivial,_,rfl,_,rfl,_,_,rfl,rfl,_,_,rfl,rfl,trivial,some (.sh (kL (Slot.sh (flat y) y).tag (intz R) || flat (.int (i:Int))) (.int (i:Int))),some (.sh (kL (Slot.sh (flat y) y).tag (intz R) || flat (.int h)) (.int h)),some (.sh true (.lst (intz (((bI ws ls ns L (R.take i)).filter fun p=>decide (p.1 < h)).map (·.2))))),?_⟩
  have e:cV ws ls ns L R (i+1)=cV ws ls ns L R i+(((bI ws ls ns L (R.take i)).filter fun p=>decide (p.1 < h)).map (·.2)).sum:=by
   show cV ws ls ns L R i+dC ws ls ns L (R.take i) (R.getD i 0)=_
   rw [show R.getD i 0=h by rw [aW1,hh]; rfl]; rfl
  rw [e]; rfl
 ·rintro ρ ⟨y5,y6,y7,rfl⟩
  rw [rC,b4]
  exact⟨_,rfl,trivial,q⟩
theorem aN0:gS W5 ["web","seeds","row","branches","number","turn","hearth","lesser"] sJ:=by
 rintro Ep xs Q ⟨ws,ls,x,ns,y,R,rfl,wb,hx,hl,hy,rl,q,qe⟩
 refine⟨_,rfl,_,rfl,ws,ls,x,ns,rfl,wb,hx,hl,fun hs L hL=>⟨fun l12 ps br=>⟨trivial,?_⟩,(q hs L hL).2⟩,qe⟩
 obtain ⟨q0,q1⟩:=(q hs L hL).1 l12
 refine⟨_,rfl,_,rfl,_,rfl,ws,ls,x,ns,y,R,rfl,wb,hx,hl,hy,rl,fun _=>⟨fun g=>?_,fun g m en=>?_⟩,qe⟩
 ·exact⟨_,rfl,aY ⟨by show 1<=1000; decide,q1 fun z=>by rw [g] at z; cases z.1⟩⟩
 ·by_cases sh:e8 ws ls (ns ++ R)
  ·rw [aW5 ((V9 hs g en).mpr sh)]
   exact⟨_,rfl,aU ⟨trivial,aM9 hL hs l12 br hy g (q0 ⟨g,sh⟩)⟩⟩
  ·rw [aW4 fun z=>sh ((V9 hs g en).mp z)]
   exact⟨_,rfl,aY ⟨by show 1<=1000; decide,q1 fun z=>sh z.2⟩⟩
def sM:bF:=fun xs Q=>∃ c:Int,xs = [.int c]/\∀ ws ls,ws.length=12->Wb ws ls->(∀ l ∈ ls,l.1 ≠ l.2)->Q (bB ws ls)
def W6:aK:=(aI (b5 1 (cY (a5 0) (qC (.int 7))))
 (aI (b5 2 (bU (fD (qC (.int 11))) [none,some 1] (bG 0) (aV (jQ (fF (a5 0) (qC (.int 1))) (a5 1))) (dF (a6 (a5 0) (a6 (fF (a5 0) (qC (.int 1))) a9)))))
 (aI (b5 3 (bU (fD (qC (.int 12))) [none,some 1] (bG 0) cT (aC sA (a6 (jL (jQ (a5 0) (qC (.int 0))) (jQ (a5 0) (a5 1))) a9))))
 (bE (dF (a6 (aC eL (a6 (a5 3) a9)) (a6 (aC eL (a6 (a5 2) a9)) a9)))))))
theorem aN1:cU W6 ["cell","first","links","wants"] sM:=by
 rintro xs Q ⟨c,rfl,q⟩
 refine⟨_,rfl,_,_,rfl,rfl,(by show (0:Int) < 7; decide),trivial,?_⟩
 dsimp only
 generalize c % 7=f
 refine⟨11,rfl,by decide,by decide,by rw [cO]; decide,fun i acc=>∃ ls:List (Int × Int),acc=cM ls/\ls.length<=i/\∀ l ∈ ls,0<=l.1/\l.2=l.1+1/\l.1 < 11,⟨[],rfl,aV0 _,fun l hl=>by cases hl⟩,?_,?_⟩
 ·rintro i y acc hy ⟨ls,rfl,hl,hin⟩
  obtain ⟨rfl,hi⟩:=gO hy
  have hi:i < 11:=hi
  refine kY ?_
  refine⟨_,rfl,_,_,rfl,rfl,_,rfl,.inl ⟨_,_,rfl,rfl,_,rfl,wX ?_ ⟨ls,rfl,by omega,hin⟩⟩⟩
  refine⟨_,rfl,_,rfl,_,_,rfl,rfl,by show 2<=1000; decide,rfl,trivial,ls ++ [((0:Int)+(i:Int),(0:Int)+(i:Int)+1)],?_,by rw [aU9]; show ls.length+1<=_; omega,fun l hl=>?_⟩
  ·unfold cM; rw [aX8]; rfl
  ·rcases aX3.mp hl with hl | hl
   ·exact hin l hl
   ·rw [aV6] at hl; subst hl; dsimp only; omega
 rintro acc ⟨ls,rfl,hl,hin⟩
 rw [cO] at hl
 have hl:ls.length<=11:=hl
 refine⟨trivial,?_⟩
 refine⟨12,rfl,by decide,by decide,by rw [cO]; decide,fun i acc=>∃ ws:List Int,acc=intz ws/\ws.length=i,⟨[],rfl,rfl⟩,?_,?_⟩
 ·rintro i y acc hy ⟨ws,rfl,hw⟩
  obtain ⟨rfl,hi⟩:=gO hy
  refine kY ?_
  have fin:∀ b:Bool,sA [PV.bl b] fun z=>Nw .fr z/\∃ ws':List Int,intz ws ++ [z]=intz ws'/\ws'.length=i+1:=fun b=>.inr ⟨b,rfl,trivial,ws ++ [if b=true then 1 else 0],by rw [cQ]; rfl,by rw [aU9,hw]; rfl⟩
  refine⟨_,rfl,.inl ⟨_,_,rfl,rfl,_,rfl,wX ⟨_,rfl,_,rfl,.inl ⟨_,_,rfl,rfl,fin _⟩⟩ (fin _)⟩⟩
 rintro acc ⟨ws,rfl,hw⟩
 rw [cO] at hw
 have hw:ws.length=12:=hw
 refine⟨trivial,_,rfl,⟨_,_,rfl,rfl,c8 _,_,rfl,⟨_,_,rfl,rfl,m9 ls,by show 2<=1000; decide,?_,trivial,?_⟩,fun _ z=>by cases z⟩,fun _ z=>by cases z⟩
 ·show (flat (.tup (intz ws)) && (flat (.tup (cM ls)) && true))=true
  have:flat (.tup (cM ls))=true:=m9 ls
  rw [qV,this]; rfl
 ·exact q ws ls hw ⟨by omega,by omega,fun l hl=>by have:=hin l hl; omega⟩ fun l hl=>by have:=hin l hl; omega
def eO (ws:List Int) (ls:List (Int × Int)) (ns R:List Int):Prop:=bA ws ls ns R=true/\e8 ws ls (ns ++ R)
section
variable {ws : List Int} {ls : List (Int × Int)} {ns R Y : List Int}
theorem aN2 (hs:aW ws.length ns=true) (h:eO ws ls ns R) (h':eO ws ls ns Y):R.length=Y.length:=by
 have p:(ns ++ R).Perm (ns ++ Y):=(List.perm_ext_iff_of_nodup (l4 hs h.1).1 (l4 hs h'.1).1).mpr fun x=>⟨fun hx=>mJ h'.2 h.1 (fun y hy=>aZ0 _ hy) x hx,fun hx=>mJ h.2 h'.1 (fun y hy=>aZ0 _ hy) x hx⟩
 have:=p.length_eq
 rw [aU9,aU9] at this
 omega
end
end Core
namespace PP
open PySem L2
section
variable {X : Cx} {a b : Expr} {ta tb : aE} {pos : Pos}
def oT:PV->Tg->PV->Tg->PK->Prop:=fun x _ y _ Q=>∃ ns ms:List Int,x = .tup (intz ns)/\y = .tup (intz ms)/\Q (.bl (HT.cB ns ms)) .fr
theorem W7:eG X oT (zA X.K):=by
 rintro W Hs H u v x y g g' Q Q' s n r1 r2 ⟨ns,ms,rfl,rfl,q⟩ k
 obtain ⟨p1,us,rfl,h1,r1⟩:=r1.sqT
 obtain ⟨p2,vs,rfl,h2,r2⟩:=r2.sqT
 obtain rfl:=r1.ofInts
 obtain rfl:=r2.ofInts
 exact⟨p1,p2,ns,ms,rfl,rfl,aG.of h1,aG.of h2,k _ _ _ _ (aD.refl _) (.bl _) q⟩
theorem aN3 (hu:X.A.units+3 < cLine) (ha:QE X a ta) (hb:QE X b tb):QE X (.Compare a [.Lt] [b] pos) (q2 oT ta tb):=lU (zB (by omega)) W7 ha hb (eC _)
theorem aN4 (hu:X.A.units+3 < cLine) (ha:QE X a ta) (hb:QE X b tb):QT X (.Compare a [.Lt] [b] pos) (aV (q2 oT ta tb)):=j6 (zB (by omega)) W7 ha hb (eC _)
end
end PP
namespace Core
open PySem L2 PP
section
variable {ws : List Int} {ls : List (Int × Int)} {ns L O R : List Int}
theorem x8 (g:bA ws ls ns O=true) {i:Nat}{h:Int} (hh:O[i]? = some h):h ∈ gT ws ls (ns ++ O.take i):=by
 have gt:=sK g (i+1)
 rw [aX7,hh] at gt
 have gt:bA ws ls ns (O.take i ++ [h])=true:=gt
 rw [mI,aW7,aW7] at gt
 obtain ⟨_,hb,hk⟩:=gt
 have hb:0<=h/\h < (ws.length:Int):=by unfold inB at hb; simp at hb; omega
 exact aZ6.mpr ⟨iJ.mpr hb,hk⟩
theorem x9:∀ (l:List (Int × Int)),(∀ p ∈ l,0<=p.2)->∀ i j,i<=j->((l.take i).map (·.2)).sum<=((l.take j).map (·.2)).sum:=fun l h i j ij=>by
 have:=V8 (ab:=fun x=>x) (k:=0) (A:=[]) (l.take j) (fun p hp=>h p (List.mem_of_mem_take hp)) i
 rwa [List.take_take,Nat.min_eq_left ij] at this
theorem xA:∀ p ∈ bI ws ls ns L O,0<=p.2:=fun p hp=>by
 obtain ⟨i,hi⟩:=bh3 hp
 rw [(sH hi).2]
 have:=mL (ab:=bO ws ls ns L) (L.length - (O ++ [p.1]).length) (dH (O ++ [p.1]))
 unfold wO; omega
theorem W8 (hL:bM ws ls ns L) (hs:aW ws.length ns=true) (g:bA ws ls ns O=true) {h:Int} (hh:h ∈ gT ws ls (ns ++ O)):∃ i:Nat,(bI ws ls ns L O)[i]? = some (h,wO ws ls ns L (O ++ [h])):=by
 rw [<- sG hL hs g] at hh
 obtain ⟨i,hi⟩:=bh3 hh
 have:∃ p,(bI ws ls ns L O)[i]? = some p/\p.1=h:=by
  unfold bI fL
  rw [aV7,hi]
  exact⟨_,rfl,rfl⟩
 obtain ⟨p,hp,e⟩:=this
 obtain ⟨_,e2⟩:=sH hp
 refine⟨i,?_⟩
 rw [hp]
 cases p
 dsimp only at e e2
 rw [e] at e2
 rw [e,e2]
theorem W9 (hL:bM ws ls ns L) (hs:aW ws.length ns=true) (g:bA ws ls ns O=true) {h:Int} (hh:h ∈ gT ws ls (ns ++ O)):0<=dC ws ls ns L O h/\dC ws ls ns L O h+wO ws ls ns L (O ++ [h])<=wO ws ls ns L O/\∀ h',h' ∈ gT ws ls (ns ++ O)->h < h'->dC ws ls ns L O h+wO ws ls ns L (O ++ [h])<=dC ws ls ns L O h':=by
 obtain ⟨i,hi⟩:=W8 hL hs g hh
 have e1:=x6 hL hs hi
 have nx:(((bI ws ls ns L O).take (i+1)).map (·.2)).sum=(((bI ws ls ns L O).take i).map (·.2)).sum+wO ws ls ns L (O ++ [h]):=by
  rw [aX7,hi,aX8,List.sum_append]
  show _+(wO ws ls ns L (O ++ [h])+0)=_
  omega
 have e1:dC ws ls ns L O h=(((bI ws ls ns L O).take i).map (·.2)).sum:=e1
 have tot:((bI ws ls ns L O).map (·.2)).sum=wO ws ls ns L O:=by
  rw [<- V4 hL hs g]
  unfold k7
  rw [if_neg (fun z=>by rw [z] at hi; cases hi)]
 refine⟨?_,?_,fun h' hh' lt=>?_⟩
 ·rw [e1]
  have:=x9 _ (xA (ws:=ws) (ls:=ls) (ns:=ns) (L:=L) (O:=O)) 0 i (aZ2 _)
  rwa [bh6] at this
 ·rw [e1,<- nx,<- tot]
  have:=x9 _ (xA (ws:=ws) (ls:=ls) (ns:=ns) (L:=L) (O:=O)) (i+1) (max (i+1) (bI ws ls ns L O).length) (by omega)
  rwa [bc3 (l:=bI ws ls ns L O) (i:=max (i+1) (bI ws ls ns L O).length) (by omega)] at this
 ·obtain ⟨j,hj⟩:=W8 hL hs g hh'
  have e2:dC ws ls ns L O h'=(((bI ws ls ns L O).take j).map (·.2)).sum:=x6 hL hs hj
  have ij:i < j:=by
   have up:(bI ws ls ns L O).Pairwise fun a b=>a.1 < b.1:=by
    unfold bI fL
    rw [bb8]
    exact V3 hL hs _
   rcases Nat.lt_or_ge i j with z | z
   ·exact z
   ·exfalso
    obtain ⟨il,ei⟩:=aV3.mp hi
    obtain ⟨jl,ej⟩:=aV3.mp hj
    rcases Nat.lt_or_ge j i with z2 | z2
    ·have:=(List.pairwise_iff_getElem.mp up) j i jl il z2
     rw [ei,ej] at this
     have:h' < h:=this
     omega
    ·have:i=j:=by omega
     subst this
     rw [hi] at hj
     cases hj
     omega
  rw [e1,e2,<- nx]
  exact x9 _ xA _ _ ij
theorem aN5:1<=wO ws ls ns L O:=mL _ _
theorem sN (hL:bM ws ls ns L) (hs:aW ws.length ns=true) (ho:eO ws ls ns O):∀ (d i:Nat),i+d=O.length->0<=cW ws ls ns L O - cV ws ls ns L O i/\cW ws ls ns L O - cV ws ls ns L O i < wO ws ls ns L (O.take i)
 | 0,i,h=>by
  have:i=O.length:=by omega
  subst this
  have:=aN5 (ws:=ws) (ls:=ls) (ns:=ns) (L:=L) (O:=O.take O.length)
  unfold cW; omega
 | d+1,i,h=>by
  obtain ⟨r0,r1⟩:=sN hL hs ho d (i+1) (by omega)
  have il:i < O.length:=by omega
  have hh:O[i]? = some O[i]:=aV2 il
  have hk:=x8 ho.1 hh
  obtain ⟨s0,s1,_⟩:=W9 hL hs (sK ho.1 i) hk
  have e:cV ws ls ns L O (i+1)=cV ws ls ns L O i+dC ws ls ns L (O.take i) O[i]:=by
   show _+dC ws ls ns L (O.take i) (O.getD i 0)=_
   rw [aW1,hh]; rfl
  have e2:O.take (i+1)=O.take i ++ [O[i]]:=by rw [aX7,hh]; rfl
  rw [e2] at r1
  omega
theorem aN6 (hL:bM ws ls ns L) (hs:aW ws.length ns=true) (ho:eO ws ls ns O):0<=cW ws ls ns L O/\cW ws ls ns L O < cI ws ls ns L:=by
 have:=sN hL hs ho O.length 0 (by omega)
 rw [show cV ws ls ns L O 0=0 from rfl,Int.sub_zero] at this
 exact this
theorem X0:∀ {A B:List Int},A.length=B.length->A ≠ B->∃ (i:Nat) (x y:Int),A[i]? = some x/\B[i]? = some y/\x ≠ y/\A.take i=B.take i/\HT.cB A B=decide (x < y)
 | [],[],_,n=>absurd rfl n
 | [],_ :: _,e,_=>by cases e
 | _ :: _,[],e,_=>by cases e
 | a :: A,b :: B,e,n=>by
  by_cases h:a=b
  ·subst h
   obtain ⟨i,x,y,h1,h2,h3,h4,h5⟩:=X0 (A:=A) (B:=B) (Nat.succ.inj e) (fun z=>n (by rw [z]))
   refine⟨i+1,x,y,h1,h2,h3,by rw [List.take_succ_cons,List.take_succ_cons,h4],?_⟩
   rw [HT.iR,if_pos rfl]; exact h5
  ·exact⟨0,a,b,rfl,rfl,h,rfl,by rw [HT.iR,if_neg h]⟩
theorem aN7 {A B:List Int}:∀ {i:Nat},A.take i=B.take i->i<=A.length->i<=B.length->cV ws ls ns L A i=cV ws ls ns L B i:=fun {i} e h1 h2=>by
 have a:=sI (ws:=ws) (ls:=ls) (ns:=ns) (L:=L) (A.take i) (A.drop i) i (by rw [ba8]; omega)
 have b:=sI (ws:=ws) (ls:=ls) (ns:=ns) (L:=L) (B.take i) (B.drop i) i (by rw [ba8]; omega)
 rw [List.take_append_drop] at a b
 rw [a,b,e]
theorem X1 (hL:bM ws ls ns L) (hs:aW ws.length ns=true) (ho:eO ws ls ns O) (hr:eO ws ls ns R) {i:Nat}{x y:Int} (hx:O[i]? = some x) (hy:R[i]? = some y) (e:O.take i=R.take i) (lt:x < y):cW ws ls ns L O < cW ws ls ns L R:=by
 have il:=(aV3.mp hx).1
 have jl:=(aV3.mp hy).1
 have kx:=x8 ho.1 hx
 have ky:=x8 hr.1 hy
 rw [<- e] at ky
 obtain ⟨_,_,s2⟩:=W9 hL hs (sK ho.1 i) kx
 have s2:=s2 y ky lt
 obtain ⟨_,a1⟩:=sN hL hs ho (O.length - (i+1)) (i+1) (by omega)
 obtain ⟨b0,_⟩:=sN hL hs hr (R.length - (i+1)) (i+1) (by omega)
 have ea:cV ws ls ns L O (i+1)=cV ws ls ns L O i+dC ws ls ns L (O.take i) x:=by
  show _+dC ws ls ns L (O.take i) (O.getD i 0)=_
  rw [aW1,hx]; rfl
 have eb:cV ws ls ns L R (i+1)=cV ws ls ns L O i+dC ws ls ns L (O.take i) y:=by
  show cV ws ls ns L R i+dC ws ls ns L (R.take i) (R.getD i 0)=_
  rw [aW1,hy,<- e,aN7 e (by omega) (by omega)]; rfl
 have e2:O.take (i+1)=O.take i ++ [x]:=by rw [aX7,hx]; rfl
 rw [e2] at a1
 omega
theorem sO (hL:bM ws ls ns L) (hs:aW ws.length ns=true) (ho:eO ws ls ns O) (hr:eO ws ls ns R):HT.cB O R=decide (cW ws ls ns L O < cW ws ls ns L R)/\(O=R ↔ cW ws ls ns L O=cW ws ls ns L R):=by
 by_cases h:O=R
 ·subst h
  refine⟨?_,fun _=>rfl,fun _=>rfl⟩
  rw [aW4 (Int.lt_irrefl _)]
  induction O with
  | nil=>rfl
  | cons a r ih=>
   have:∀ l:List Int,HT.cB l l=false:=by
    intro l
    induction l with
    | nil=>rfl
    | cons a r ih=>rw [HT.iR,if_pos rfl]; exact ih
   exact this _
 ·obtain ⟨i,x,y,hx,hy,ne,e,l⟩:=X0 (aN2 hs ho hr) h
  rw [l]
  rcases (show x < y ∨ y < x by omega) with lt | lt
  ·have:=X1 hL hs ho hr hx hy e lt
   exact⟨by rw [aW5 lt,aW5 this],fun z=>absurd z h,fun z=>by omega⟩
  ·have:=X1 hL hs hr ho hy hx e.symm lt
   exact⟨by rw [aW4 (by omega),aW4 (by omega)],fun z=>absurd z h,fun z=>by omega⟩
theorem X2 (hL:bM ws ls ns L) (hs:aW ws.length ns=true):∀ k,(∀ j < k,fX ws ls (rng ws.length) ns j ≠ none)->bA ws ls ns (bX ws ls (rng ws.length) ns k)=true/\cW ws ls ns L (bX ws ls (rng ws.length) ns k)=0
 | 0,_=>⟨rfl,rfl⟩
 | k+1,h=>by
  obtain ⟨g,z⟩:=X2 hL hs k fun j hj=>h j (by omega)
  cases e:fX ws ls (rng ws.length) ns k with
  | none=>exact absurd e (h k (Nat.lt_succ_self _))
  | some x=>
   rw [wL e]
   have hx:x ∈ gT ws ls (ns ++ bX ws ls (rng ws.length) ns k):=aZ6.mpr ⟨List.mem_of_find?_eq_some e,List.find?_some e⟩
   refine⟨V2 g hx,?_⟩
   rw [V5,z]
   have:dC ws ls ns L (bX ws ls (rng ws.length) ns k) x=0:=by
    unfold dC
    rw [bc9.mpr]
    ·rfl
    ·intro p hp hlt
     have hlt:p.1 < x:=by simpa using hlt
     obtain ⟨i,hi⟩:=bh3 hp
     have pk:=aW8 (sH hi).1
     rw [sG hL hs g] at pk
     have pm:=aZ6.mp pk
     obtain ⟨_,as,bs,e1,e2⟩:=List.find?_eq_some_iff_append.mp e
     have pr:(rng ws.length).Pairwise (· < ·):=aH4 _
     rw [e1] at pr
     have pmem:=pm.1
     rw [e1] at pmem
     rcases aX3.mp pmem with w | w
     ·have:=e2 p.1 w
      have:=pm.2
      simp_all
     ·rcases aV5.mp w with w | w
      ·omega
      ·have:=(be9.mp (bf4.mp pr).2.1).1 p.1 w
       omega
   rw [this]; rfl
theorem aN8 (hL:bM ws ls ns L) (hs:aW ws.length ns=true) {k:Nat} (en:mD ws ls (rng ws.length) ns k):eO ws ls ns (bX ws ls (rng ws.length) ns k)/\cW ws ls ns L (bX ws ls (rng ws.length) ns k)=0:=by
 obtain ⟨g,z⟩:=X2 hL hs k en.1
 refine⟨⟨g,fun h hh=>?_⟩,z⟩
 have:=List.find?_eq_none.mp en.2 h hh
 simpa using this
theorem X3:∀ k,1<=jD k
 | 0=>Int.le_refl _
 | k+1=>by
  show 1<=((k:Int)+1) * jD k
  have h:=X3 k
  have:1 * 1<=((k:Int)+1) * jD k:=Int.mul_le_mul (by omega) h (by decide) (by omega)
  omega
theorem X4 {f:Int->Int}{c:Int}:∀ (l:List Int),(∀ x ∈ l,f x<=c)->(l.map f).sum<=(l.length:Int) * c
 | [],_=>by simp
 | a :: r,h=>by
  have:=X4 r fun x hx=>h x (aW6 _ hx)
  have:=h a aV9
  rw [aY6,List.sum_cons,aY9,Int.natCast_add,Int.add_mul]
  show _<=_+1 * c
  omega
theorem X5 (ndL:L.Nodup):∀ (k:Nat) (A:List Int),A.Nodup->(∀ x ∈ A,x ∈ L)->L.length - A.length=k->Wt (bO ws ls ns L) k A<=jD k
 | 0,A,_,_,_=>Int.le_refl _
 | k+1,A,na,sub,hk=>by
  show (if bO ws ls ns L A = [] then (1:Int) else ((bO ws ls ns L A).map fun h=>Wt (bO ws ls ns L) k (cG h A)).sum)<=((k:Int)+1) * jD k
  have fp:=X3 k
  have abm:∀ h ∈ bO ws ls ns L A,h ∈ L/\h ∉ A:=fun h hh=>⟨(aZ6.mp hh).1,fun y=>x3 (aZ6.mp hh).2 (aX1 _ y)⟩
  have ln:(bO ws ls ns L A).length<=k+1:=by
   have nd:(A ++ bO ws ls ns L A).Nodup:=aY7.mpr ⟨na,ndL.filter _,fun x hx y hy w=>(abm y hy).2 (by rw [<- w]; exact hx)⟩
   have:=nd.length_le_of_subset (l₂:=L) fun x hx=>by
    rcases aX3.mp hx with hx | hx
    ·exact sub x hx
    ·exact (abm x hx).1
   rw [aU9] at this
   omega
  split
  ·have:1 * 1<=((k:Int)+1) * jD k:=Int.mul_le_mul (by omega) fp (by decide) (by omega)
   omega
  ·refine Int.le_trans (X4 (c:=jD k) _ fun h hh=>?_) (Int.mul_le_mul_of_nonneg_right (by omega) (by omega))
   obtain ⟨h1,h2⟩:=abm h hh
   have pm:=k6 h A
   refine X5 ndL k (cG h A) (pm.nodup_iff.mpr (aY7.mpr ⟨na,aY1 _ _,fun x hx y hy w=>by rw [aV6] at hy; rw [w,hy] at hx; exact h2 hx⟩)) (fun x hx=>?_) (by rw [U1]; omega)
   rcases aX3.mp (pm.mem_iff.mp hx) with hx | hx
   ·exact sub x hx
   ·rw [aV6] at hx; rw [hx]; exact h1
theorem aN9:∀ n < 13,jD n<=479001600:=by decide
theorem aO0 (hL:bM ws ls ns L) (hs:aW ws.length ns=true) (l12:L.length<=12):cI ws ls ns L < 1073741824:=by
 have:=X5 (ws:=ws) (ls:=ls) (ns:=ns) (aY7.mp (hL.nd hs).1).2.1 L.length [] .nil (fun _ h=>by cases h) rfl
 have:=aN9 L.length (by omega)
 unfold cI
 omega
end
def xB:bF:=O7
def X6:aK:=(aI (b5 10 (aC eL (a6 (aC rZ (a6 (a5 3) (a6 (a5 4) (a6 (a5 2) a9)))) a9)))
 (aI (b5 11 (aC (sJ fun _=>False) (a6 (a5 3) (a6 (a5 4) (a6 (a5 10) a9)))))
 (aI (cC (jK (iC (aV (aC rA (a6 (a5 11) a9)))) (jK (aV (j5 (a5 11) (qC (.int 0)))) (jK (aV (o4 (a5 11) (a5 5))) (aV (q2 (jP 2 true) (aC (kA fun _=>False) (a6 (a5 3) (a6 (a5 4) (a6 (a5 11) a9)))) (a5 10)))))) (bE (qC (.bl false))) cF)
 (bE (q2 (jP 2 false) (aC (kA fun _=>False) (a6 (a5 3) (a6 (a5 4) (a6 (qC (.int 0)) a9)))) (aC (mH fun _=>False) (a6 (a5 3) (a6 (a5 4) a9))))))))
def X7:aK:=(aI (b5 5 (aC (sE fun _=>False) (a6 (a5 3) (a6 (a5 4) a9))))
 (aI (b5 6 (cY (a5 2) (a5 5)))
 (aI (b5 7 (cY (fT (a5 2) (a5 5)) (a5 5)))
 (aI (b5 8 (aC (kA fun _=>False) (a6 (a5 3) (a6 (a5 4) (a6 (a5 6) a9)))))
 (aI (b5 9 (aC (kA fun _=>False) (a6 (a5 3) (a6 (a5 4) (a6 (a5 7) a9)))))
 (aI (cC (jK (aV (jQ (q2 oT (a5 8) (a5 9)) (j5 (a5 6) (a5 7)))) (aV (jQ (q2 (jP 2 false) (a5 8) (a5 9)) (gM (a5 6) (a5 7))))) (bE (qC (.bl false))) cF)
 (aI (cC (nQ (aV (j5 (fF (a5 6) (qC (.int 1))) (a5 5))) (iC (aV (q2 oT (a5 8) (aC (kA fun _=>False) (a6 (a5 3) (a6 (a5 4) (a6 (fF (a5 6) (qC (.int 1))) a9)))))))) (bE (qC (.bl false))) cF)
 X6)))))))
def X8:aK:=(aI (b5 1 (cY (aC j9 (a6 (a5 0) (a6 (qC (.int 0)) a9))) (qC (.int 7))))
 (aI (b5 2 (aC j9 (a6 (a5 0) (a6 (qC (.int 2)) a9))))
 (aI (b5 3 (aC rO (a6 (qJ (a5 0) (qI (qC (.int 3))) qH) (a6 (a5 1) (a6 (cY (aC j9 (a6 (a5 0) (a6 (qC (.int 1)) a9))) (qC (.int 8))) a9)))))
 (aI (b5 4 (aC rP (a6 (fT (aC j9 (a6 (a5 0) (a6 (qC (.int 1)) a9))) (qC (.int 8))) (a6 (a5 1) a9))))
 (aI (cC (aV (gM (cY (fT (aC j9 (a6 (a5 0) (a6 (qC (.int 0)) a9))) (qC (.int 7))) (qC (.int 8))) (qC (.int 3)))) (aI (b5 3 (aC sM (a6 (fT (aC j9 (a6 (a5 0) (a6 (qC (.int 0)) a9))) (qC (.int 56))) a9)))
  (b5 4 (dF a9))) cF)
 X7)))))
theorem X9 {a b:Bool}{A B:Prop} (e:a=b) (h:B):j3 true (.bl a) .fr (.bl b) .fr fun x _=>∃ b,x = .bl b/\if b=true then A else B:=by
 subst e
 refine .inr ⟨a,a,rfl,rfl,_,rfl,?_⟩
 show if (!decide (a=a))=true then A else B
 rw [aW5 rfl]
 exact aU h
theorem Y0 {ws:List Int}{ls:List (Int × Int)}{S L:List Int}{c:Int}{y0 y1 y6 y7 y8 y9:Option Slot}{Q:PV->Prop} (wb:Wb ws ls) (ne:∀ l ∈ ls,l.1 ≠ l.2) (hs:aW ws.length S=true) (hL:bM ws ls S L) (l12:L.length<=12) (q:Q (.bl true)) :
  X6 { nx:=fun _=>Q .non,rt:=Q } [y0,y1,si c,some (.sh true (bB ws ls)),some (.sh true (.tup (intz S))),si (cI ws ls S L),y6,y7,y8,y9,none,none]:=by
 have sl:=mC hs
 have few:=wb.few
 have no:∀ {P:Prop},aW ws.length S=false->P:=fun {P} z=>by rw [hs] at z; cases z
 refine⟨_,rfl,_,rfl,_,rfl,ws,ls,S,c,rfl,wb,ne,hs,fun R gR shR rl=>⟨⟨_,_,rfl,rfl,c8 _,trivial,?_⟩,fun _ z=>by cases z⟩⟩
 have ho:eO ws ls S R:=⟨gR,shR⟩
 obtain ⟨r0,r1⟩:=aN6 hL hs ho
 refine⟨_,rfl,_,rfl,_,rfl,ws,ls,_,S,_,R,rfl,wb,.inl rfl,by omega,.inl rfl,by omega,fun _ L' hL'=>?_,no⟩
 obtain rfl:=hL.uniq hL'
 refine⟨fun _=>⟨fun _=>⟨trivial,?_⟩,fun z=>absurd ho z⟩,fun z=>by omega⟩
 refine⟨_,rfl,_,rfl,_,rfl,aU ⟨_,rfl,_,_,rfl,rfl,_,rfl,?_⟩⟩
 show if decide (cW ws ls S L R < 0)=true then _ else _
 rw [aW4 (by omega)]
 refine aU ⟨_,rfl,_,rfl,_,_,rfl,rfl,_,rfl,?_⟩
 show if decide (cW ws ls S L R >= cI ws ls S L)=true then _ else _
 rw [aW4 (by omega)]
 refine aU ⟨_,rfl,_,rfl,_,rfl,ws,ls,_,S,_,rfl,wb,.inl rfl,by omega,fun _ L' hL'=>?_,no⟩
 obtain rfl:=hL.uniq hL'
 refine⟨fun _=>⟨fun _ O g sh hn=>?_,fun z=>by rcases z with z | z <;> omega⟩,fun z=>by omega⟩
 obtain rfl:O=R:=(sO hL hs ⟨g,sh⟩ ho).2.mpr hn
 refine⟨_,rfl,.inl ⟨_,_,rfl,rfl⟩,v9 2 O O,_,rfl,?_⟩
 show if (!c9 3 (.tup (intz O)) (.tup (intz O)))=true then _ else _
 rw [v7,aW5 rfl]
 refine aU ⟨_,rfl,_,rfl,ws,ls,_,S,0,rfl,wb,.inl rfl,by omega,fun _ L' hL'=>?_,no⟩
 obtain rfl:=hL.uniq hL'
 have pos:1<=cI ws ls S L:=mL _ _
 refine⟨fun _=>⟨fun _ O' g' sh' hn'=>?_,fun z=>by rcases z with z | z <;> omega⟩,fun z=>by omega⟩
 refine⟨_,rfl,_,rfl,ws,ls,_,S,rfl,wb,.inl rfl,by omega,fun _ k en=>?_,no⟩
 obtain ⟨fo,fz⟩:=aN8 hL hs en
 have e:O'=bX ws ls (rng ws.length) S k:=(sO hL hs ⟨g',sh'⟩ fo).2.mpr (by rw [hn',fz])
 rw [<- e]
 refine⟨.inl ⟨_,_,rfl,rfl⟩,v9 2 O' O',trivial,?_⟩
 show Q (.bl (c9 3 (.tup (intz O')) (.tup (intz O'))))
 rw [v7,aW5 rfl]
 exact q
theorem Y1 {ws:List Int}{ls:List (Int × Int)}{S:List Int}{c:Int}{y0 y1:Option Slot}{Q:PV->Prop} (wb:Wb ws ls) (ne:∀ l ∈ ls,l.1 ≠ l.2) (w12:ws.length<=12) (hs:aW ws.length S=true) (q:Q (.bl true)) :
  X7 { nx:=fun _=>Q .non,rt:=Q } [y0,y1,si c,some (.sh true (bB ws ls)),some (.sh true (.tup (intz S))),none,none,none,none,none,none,none]:=by
 have sl:=mC hs
 have no:∀ {P:Prop},aW ws.length S=false->P:=fun {P} z=>by rw [hs] at z; cases z
 have len:∀ L,bM ws ls S L->L.length<=12:=fun L hL=>by
  have nd:=hL.nd hs
  have:=nd.1.length_le_of_subset nd.2
  rw [iI,aU9] at this
  omega
 refine⟨_,rfl,_,rfl,ws,ls,_,S,rfl,wb,.inl rfl,by omega,fun _ L hL=>⟨fun _=>⟨trivial,?_⟩,fun z=>by have:=len L hL; omega⟩,no⟩
 have l12:=len L hL
 have pos:1<=cI ws ls S L:=mL _ _
 have small:=aO0 hL hs l12
 refine⟨_,rfl,_,rfl,_,_,rfl,rfl,by omega,trivial,?_⟩
 dsimp only
 have a0:0<=c % cI ws ls S L:=bc7 _ (by omega)
 have a1:c % cI ws ls S L < cI ws ls S L:=bf0 _ (by omega)
 generalize c % cI ws ls S L=a at a0 a1
 refine⟨_,rfl,_,rfl,_,_,rfl,rfl,⟨by omega,small⟩,_,rfl,_,_,rfl,rfl,by omega,trivial,?_⟩
 dsimp only
 have b0:0<=c / cI ws ls S L % cI ws ls S L:=bc7 _ (by omega)
 have b1:c / cI ws ls S L % cI ws ls S L < cI ws ls S L:=bf0 _ (by omega)
 generalize c / cI ws ls S L % cI ws ls S L=b at b0 b1
 refine⟨_,rfl,_,rfl,_,rfl,ws,ls,_,S,a,rfl,wb,.inl rfl,by omega,fun _ L' hL'=>?_,no⟩
 obtain rfl:=hL.uniq hL'
 refine⟨fun _=>⟨fun _ A gA shA nA=>⟨trivial,?_⟩,fun z=>by rcases z with z | z <;> omega⟩,fun z=>by omega⟩
 have oA:eO ws ls S A:=⟨gA,shA⟩
 refine⟨_,rfl,_,rfl,_,rfl,ws,ls,_,S,b,rfl,wb,.inl rfl,by omega,fun _ L' hL'=>?_,no⟩
 obtain rfl:=hL.uniq hL'
 refine⟨fun _=>⟨fun _ B gB shB nB=>⟨trivial,?_⟩,fun z=>by rcases z with z | z <;> omega⟩,fun z=>by omega⟩
 have oB:eO ws ls S B:=⟨gB,shB⟩
 obtain ⟨cl,ce⟩:=sO hL hs oA oB
 rw [nA,nB] at cl ce
 refine⟨_,rfl,_,rfl,A,B,rfl,rfl,_,rfl,_,rfl,_,_,rfl,rfl,X9 cl ?_⟩
 refine⟨_,rfl,_,rfl,.inl ⟨_,_,rfl,rfl⟩,v9 2 A B,_,rfl,_,rfl,.inl ⟨_,_,rfl,rfl,?_⟩⟩
 refine X9 (a:=c9 3 (.tup (intz A)) (.tup (intz B))) (b:=decide (a=b)) (by rw [v7]; exact decide_eq_decide.mpr ce) ?_
 refine⟨_,rfl,_,_,rfl,rfl,_,rfl,_,_,rfl,rfl,_,rfl,?_⟩
 show if decide (a+1 < cI ws ls S L)=true then _ else _
 by_cases hn:a+1 < cI ws ls S L
 ·rw [aW5 hn]
  refine aY ⟨_,rfl,_,rfl,_,rfl,_,rfl,_,_,rfl,rfl,ws,ls,_,S,a+1,rfl,wb,.inl rfl,by omega,fun _ L' hL'=>?_,no⟩
  obtain rfl:=hL.uniq hL'
  refine⟨fun _=>⟨fun _ C gC shC nC=>?_,fun z=>by rcases z with z | z <;> omega⟩,fun z=>by omega⟩
  obtain ⟨cl2,_⟩:=sO hL hs oA ⟨gC,shC⟩
  rw [nA,nC] at cl2
  refine⟨A,C,rfl,rfl,_,rfl,?_⟩
  rw [cl2,aW5 (by omega)]
  exact aU (Y0 wb ne hs hL l12 q)
 ·rw [aW4 hn]
  exact aU (aU (Y0 wb ne hs hL l12 q))
theorem aO1:cU X8 ["script","many","cell","web","seeds","count","first","last","one","other","row","number"] xB:=by
 rintro xs Q ⟨ns,rfl,hl,q⟩
 refine⟨_,rfl,_,ns,0,rfl,.inl rfl,by decide,_,_,rfl,rfl,(by show (0:Int) < 7; decide),trivial,?_⟩
 dsimp only
 have m0:0<=ns.getD (0:Int).toNat 0 % 7:=bc7 _ (by decide)
 have m1:ns.getD (0:Int).toNat 0 % 7 < 7:=bf0 _ (by decide)
 generalize ns.getD (0:Int).toNat 0 % 7=M at m0 m1
 refine⟨_,rfl,_,ns,2,rfl,.inl rfl,by decide,trivial,?_⟩
 have hc:gP (qG (.scr ns) (fE (intz ns) (some 3) none)) (ns.drop 3):=.inr (by show PV.lst (fE (intz ns) (some 3) none)=_; rw [wF ns (by decide)]; rfl)
 refine⟨_,rfl,_,rfl,_,rfl,c8 _,_,rfl,_,rfl,_,ns,1,rfl,.inl rfl,by decide,_,_,rfl,rfl,(by show (0:Int) < 8; decide),_,_,M,_,rfl,hc,by rw [be8]; omega,by omega,by omega,fun ws ls w=>⟨trivial,?_⟩⟩
 have wl:=w.many
 have wb:Wb ws ls:=w.wb (by omega)
 have ne:∀ l ∈ ls,l.1 ≠ l.2:=fun l hl=>by have:=w.inn l hl; omega
 refine⟨_,rfl,_,ns,1,rfl,.inl rfl,by decide,_,_,rfl,rfl,⟨by decide,by decide⟩,_,rfl,_,M,rfl,m0,by omega,fun S hS=>⟨trivial,?_⟩⟩
 have hs:aW ws.length S=true:=by rw [show ws.length=M.toNat by omega]; exact hS
 refine⟨_,rfl,_,ns,0,rfl,.inl rfl,by decide,_,_,rfl,rfl,⟨by decide,by decide⟩,_,_,rfl,rfl,(by show (0:Int) < 8; decide),.inl ⟨_,_,rfl,rfl,_,rfl,wX ?_ ?_⟩⟩
 ·refine⟨_,rfl,_,ns,0,rfl,.inl rfl,by decide,_,_,rfl,rfl,⟨by decide,by decide⟩,_,rfl,fun ws ls w2 wb2 lI=>⟨trivial,by decide,rfl,trivial,?_⟩⟩
  exact Y1 (S:=[]) wb2 lI (by omega) (by rw [w2]; decide) q
 ·exact Y1 wb ne (by omega) hs q
end Core
namespace K_k44
open PySem PySem.W L2 PP Core
theorem _root_.L2.FnScope.au {N P:List Str}{s:Scope} (a:s.kind=.function:=by rfl) (b:s.isCoroutine=false:=by rfl) (c:s.isGenerator=false:=by rfl) (d:N.Nodup:=by decide +kernel) (e:N.take P.length=P:=by rfl) (f:∀ x∈P,s.names.lookup x=some .local∨s.names.lookup x=some .cell:=by decide +kernel) (g:∀ y∈s.names,y.2≠.free:=by decide +kernel):FnScope N P s:=⟨a,b,c,d,e,f,g⟩
def aX (i:Nat):Stmt:=PySem.Challenge.pw_kindleweb_k44_whole_orders_in_order.main.body.getD i (.Pass ⟨0,0,0,0⟩)
structure FK (K:Frag) (n:Str) (i:Nat) (f:Addr) (d:FuncData):Prop where
 a:nsIn K mainGlobals n=some (some (.ref f))
 F:eF K n n (aX i) f d
structure FM (K:Frag) (mg:Str->Option Value) (n:Str) (i:Nat) (f:Addr) (d:FuncData):Prop where
 F:eF K n n (aX i) f d
 m:mg n=some (.ref f)
theorem FK.M {K:Frag}{mg:Str->Option Value}{n:Str}{i:Nat}{f:Addr}{d:FuncData}{h:Heap} (z:FK K n i f d) (X:K.In h) (G:h.Ns mainGlobals mg):FM K mg n i f d:=⟨z.F,mg_of X G z.a⟩
abbrev Hb (x:Str) (ps:List Str) (i:Nat):Prop:=∀ (kV doc pm:Value) (an:Option Addr) (cdv ct:Value) (us:List Value),us.length=ps.length->bindArgs (fnOf x x (iA (aX i)) (dN (aX i)) (aQ (aX i)) .none kV doc pm an cdv ct) ⟨us,[]⟩=pure (ps.zip us)
theorem xC {A:Around}{k:Nat} (hr:c6 k A):A.units+3 < cLine:=by have:=hr.units; omega
section
variable {P : Program} {w : World} {K : Frag} {mg : Str → Option Value} {base : Heap} {f : Addr} {fd : FuncData} {k i : Nat} {x : Str} {ps N : List Str}
theorem Df.au {p:bF} (F:FM K mg x i f fd) (S:FnScope N ps (aQ (aX i))) (body:∀ (cdv:Value) (A:Around) (outer:List Env) (s:Shared) (H:Hp) (E:XK),c6 k (A.deeper (PyProof.Rows.envOfC x (aQ (aX i)) s.heap.objs.size f cdv))->∃ t,eR (cS dE P w K mg base N x (aQ (aX i)) f cdv A outer s H E).nox (dN (aX i)) t/\∀ xs Q,p xs Q->t { nx:=fun _=>Q .non,rt:=Q } (eJ N xs)) (hb:Hb x ps i:=by intro _ _ _ _ _ _ us hl; first | (obtain ⟨_,rfl⟩:=oN hl; rfl) | (obtain ⟨_,_,rfl⟩:=wR hl; rfl) | (obtain ⟨_,_,_,rfl⟩:=rL hl; rfl) | (obtain ⟨_,_,_,_,rfl⟩:=R8 hl; rfl) | (obtain ⟨_,_,_,_,_,rfl⟩:=us5 hl; rfl)) (len:∀ xs Q,p xs Q->xs.length=ps.length:=by intro xs Q h; repeat (first | (obtain ⟨rfl,_⟩:=h; rfl) | (obtain ⟨_,h⟩:=h))):Df P w K mg base (k+1) x ps p:=
 Df.of F.F F.m S hb len body
theorem b9.au {p:dB} (F:FM K mg x i f fd) (S:FnScope N ps (aQ (aX i))) (t:(Str->Prop)->aK) (rd:∀ Ep xs Q,p Ep xs Q->t Ep { nx:=fun _=>Q .non,rt:=Q } (eJ N xs)) (body:∀ (cdv:Value) (A:Around) (outer:List Env) (s:Shared) (H:Hp) (E:XK) (Ep:Str->Prop),c6 k (A.deeper (PyProof.Rows.envOfC x (aQ (aX i)) s.heap.objs.size f cdv))->m7 (cS (eM P w) P w K mg base N x (aQ (aX i)) f cdv A outer s H E) (EX K H Ep)->eR (cS (eM P w) P w K mg base N x (aQ (aX i)) f cdv A outer s H E) (dN (aX i)) (t Ep)) (hb:Hb x ps i:=by intro _ _ _ _ _ _ us hl; first | (obtain ⟨_,rfl⟩:=oN hl; rfl) | (obtain ⟨_,_,rfl⟩:=wR hl; rfl) | (obtain ⟨_,_,_,rfl⟩:=rL hl; rfl) | (obtain ⟨_,_,_,_,rfl⟩:=R8 hl; rfl) | (obtain ⟨_,_,_,_,_,rfl⟩:=us5 hl; rfl)) (len:∀ Ep xs Q,p Ep xs Q->xs.length=ps.length:=by intro Ep xs Q h; repeat (first | (obtain ⟨rfl,_⟩:=h; rfl) | (obtain ⟨_,h⟩:=h))):b9 P w K mg base (k+1) x ps p:=
 b9.of F.F F.m S hb t len rd body
end
section
variable {P : Program} {w : World} {K : Frag} {mg : Str → Option Value} {base : Heap} {f : Addr} {fd : FuncData}
theorem nd2:(["ahead","behind"]:List Str).Nodup:=by decide +kernel
abbrev Y2:Stmt:=aX 7
theorem scR:FnScope ["things"] ["things"] (aQ Y2):=.au
theorem xD {ns:List Int}{i:Nat}{x y:V} (h1:(ns.map V.int)[i]? = some x) (h2:((ns.map V.int).drop 1)[i]? = some y):∃ p q:Int,x = .int p/\y = .int q/\(ns.zip (ns.drop 1))[i]? = some (p,q):=by
 rw [aV7] at h1
 rw [<- List.map_drop,aV7] at h2
 cases e1:ns[i]? with
 | none=>rw [e1] at h1; cases h1
 | some p=>
  cases e2:(ns.drop 1)[i]? with
  | none=>rw [e2] at h2; cases h2
  | some q=>
   rw [e1] at h1; rw [e2] at h2
   exact⟨p,q,(aX6 h1).symm,(aX6 h2).symm,List.getElem?_zip_eq_some.mpr ⟨e1,e2⟩⟩
theorem aO2 (B:Bt mg) (F:eF K "rises" "rises" Y2 f fd):cR P w K mg base dE 1 f fd ["things"] (O1 K):=by
 refine F.ok scR (fun vs H Q E h=>?_) (fun cdv A outer s H vs Q E hr h=>?_)
 ·obtain ⟨a,ns,rfl,_⟩:=h
  rfl
 obtain ⟨a,ns,rfl,hS,hn,q⟩:=h
 have lz:((ns.map V.int).drop 1).length<=sizeLine:=ba4 (iB (by rw [be8,aV1]; omega))
 have lz2:((ns.map V.int).drop 1).length<=(ns.map V.int).length:=by rw [be8]; omega
 have lz3:(ns.zip (ns.drop 1)).length=((ns.map V.int).drop 1).length:=by rw [List.length_zip,be8,be8,aV1]; omega
 rcases hS with hS | hS
 ·refine⟨_,l7 (l9 (p9 (uG rfl) rfl B.all PyProof.Rows.boot_all (dJ (A7 (N:=["ahead","behind"]) (fr:=[none,none]) rfl (bS.of rfl rfl) (ap5 rfl B.zip (dJ (pv 0) (dJ (tE E3 (pv 0) (tD mP) t9) eD)))
   ⟨fun _ _ _ _=>show PG _ _ (i7 K 2 (dI (bP 0) (dI (bP 1) i6))) from lB rfl (fZ (eB (i:=0) nd2 rfl (Or.inl rfl) (.inr rfl)) (fZ (eB (i:=1) nd2 rfl (Or.inl rfl) (.inr rfl)) lA)),fun _ _ _ _=>pJ,fun _ _ _ _=>sY oZ (pv 0) (pv 1) (eC _)⟩) eD))),?_⟩
  refine⟨_,rfl,_,rfl,1,rfl,a,_,rfl,hS,fun p hp=>?_,fun e=>?_⟩
  ·have s1:=bD hp (.tup (dR (ns.map V.int) (some 1) none))
   have hb:aG K (upd H p (.tup (dR (ns.map V.int) (some 1) none))) p ((ns.map V.int).drop 1):=aG.of (by rw [b8,uJ])
   refine⟨a,p,_,_,rfl,s1.tup hS,hb,uI (E2 (s1.tup hS) hb lz2) (fun i acc _=>acc=((ns.zip (ns.drop 1)).take i).map fun (p:Int × Int)=>V.bl (decide (p.1 < p.2))) lz (fun _ _=>rfl) (fun _ _ _ _ _ h=>h) (fun i x acc D H' hi hR c hP=>?_) (fun D acc H' hD sm hDa hlen hP=>?_)⟩
   ·obtain ⟨T,x1,y1,rfl,hT,h1,h2⟩:=hR
    obtain ⟨m,k,rfl,rfl,hz⟩:=xD h1 h2
    refine⟨T,_,rfl,aG.of hT,rfl,_,_,rfl,_,_,rfl,rfl,((Wk.refl _).set (i:=0) rfl).set (i:=1) rfl,pU ⟨_,rfl,_,rfl,_,_,rfl,rfl,c.yes (aD.refl _) ?_⟩⟩
    rw [qU hz,hP]
   ·refine⟨D,(ns.zip (ns.drop 1)).map fun (p:Int × Int)=>decide (p.1 < p.2),rfl,aJ.of ?_,q _ (s1.trans sm)⟩
    rw [hDa,hP,<- lz3,aX9,bc5]; rfl
  ·have hb:aG K H a ((ns.map V.int).drop 1):=by
    have:(ns.map V.int).drop 1=ns.map V.int:=by rw [<- uJ]; exact e
    rw [this]; exact hS
   refine⟨a,a,_,_,rfl,hS,hb,uI (E2 hS hb lz2) (fun i acc _=>acc=((ns.zip (ns.drop 1)).take i).map fun (p:Int × Int)=>V.bl (decide (p.1 < p.2))) lz (fun _ _=>rfl) (fun _ _ _ _ _ h=>h) (fun i x acc D H' hi hR c hP=>?_) (fun D acc H' hD sm hDa hlen hP=>?_)⟩
   ·obtain ⟨T,x1,y1,rfl,hT,h1,h2⟩:=hR
    obtain ⟨m,k,rfl,rfl,hz⟩:=xD h1 h2
    refine⟨T,_,rfl,aG.of hT,rfl,_,_,rfl,_,_,rfl,rfl,((Wk.refl _).set (i:=0) rfl).set (i:=1) rfl,pU ⟨_,rfl,_,rfl,_,_,rfl,rfl,c.yes (aD.refl _) ?_⟩⟩
    rw [qU hz,hP]
   ·refine⟨D,(ns.zip (ns.drop 1)).map fun (p:Int × Int)=>decide (p.1 < p.2),rfl,aJ.of ?_,q _ sm⟩
    rw [hDa,hP,<- lz3,aX9,bc5]; rfl
 ·refine⟨_,l7 (l9 (p9 (uG rfl) rfl B.all PyProof.Rows.boot_all (dJ (A7 (N:=["ahead","behind"]) (fr:=[none,none]) rfl (bS.of rfl rfl) (aq1 rfl B.zip (dJ (pv 0) (dJ (tE zI (pv 0) (tD mP) t9) eD)))
   ⟨fun _ _ _ _=>show PG _ _ (i7 K 2 (dI (bP 0) (dI (bP 1) i6))) from lB rfl (fZ (eB (i:=0) nd2 rfl (Or.inl rfl) (.inr rfl)) (fZ (eB (i:=1) nd2 rfl (Or.inl rfl) (.inr rfl)) lA)),fun _ _ _ _=>pJ,fun _ _ _ _=>sY oZ (pv 0) (pv 1) (eC _)⟩) eD))),?_⟩
  refine⟨_,rfl,_,rfl,1,rfl,a,_,rfl,hS,fun p hp=>?_⟩
  have s1:=bD hp (.lst (dR (ns.map V.int) (some 1) none))
  have hb:aJ K (upd H p (.lst (dR (ns.map V.int) (some 1) none))) p ((ns.map V.int).drop 1):=aJ.of (by rw [b8,uJ])
  refine⟨a,p,_,_,rfl,s1.seq hS,hb,uI (aq2 (s1.seq hS) hb lz2) (fun i acc _=>acc=((ns.zip (ns.drop 1)).take i).map fun (p:Int × Int)=>V.bl (decide (p.1 < p.2))) lz (fun _ _=>rfl) (fun _ _ _ _ _ h=>h) (fun i x acc D H' hi hR c hP=>?_) (fun D acc H' hD sm hDa hlen hP=>?_)⟩
  ·obtain ⟨T,x1,y1,rfl,hT,h1,h2⟩:=hR
   obtain ⟨m,k,rfl,rfl,hz⟩:=xD h1 h2
   refine⟨T,_,rfl,aG.of hT,rfl,_,_,rfl,_,_,rfl,rfl,((Wk.refl _).set (i:=0) rfl).set (i:=1) rfl,pU ⟨_,rfl,_,rfl,_,_,rfl,rfl,c.yes (aD.refl _) ?_⟩⟩
   rw [qU hz,hP]
  ·refine⟨D,(ns.zip (ns.drop 1)).map fun (p:Int × Int)=>decide (p.1 < p.2),rfl,aJ.of ?_,q _ (s1.trans sm)⟩
   rw [hDa,hP,<- lz3,aX9,bc5]; rfl
abbrev Y3:Stmt:=aX 9
theorem sP:FnScope ["web","around","one","other"] ["web"] (aQ Y3):=.au
theorem aO3 (F:eF K "near_lists" "near_lists" Y3 f fd):cR P w K mg base dE 1 f fd ["web"] O2:=by
 refine F.ok sP (fun vs H Q E h=>?_) (fun cdv A outer s H vs Q E hr h=>?_)
 ·obtain ⟨v,ws,ls,rfl,_⟩:=h
  rfl
 obtain ⟨v,ws,ls,rfl,W,hn,hm,hin,q⟩:=h
 refine⟨_,mQ (am9 (i:=1) (N:=["want"]) (fr:=[none]) rfl (bS.of rfl rfl) (xW (mY tI (pv 0) mP (fun _ _=>rfl)))
   ⟨fun _ _ _ _=>eB (i:=0) (aY1 _ _) rfl (Or.inl rfl) (.inr rfl),fun _ _ _ _=>pJ,fun _ _ _ _=>yO eD⟩ sP.nd rfl rfl rfl)
  (mQ (y4 PassesOwn.never rfl (xW (mY tI (pv 0) mP (fun _ _=>rfl))) (lB (n:=2) rfl (fZ (eB (i:=2) sP.nd rfl (Or.inl rfl) (.inr rfl)) (fZ (eB (i:=3) sP.nd rfl (Or.inl rfl) (.inr rfl)) lA)) )
   (mQ (mR (tM PySem.F.plainAttrs_list PySem.F.slot_list_append PySem.F.type_list_append pB (mY tH (pv 1) (pv 2) (fun _ _=>rfl)) (dJ (pv 3) eD)))
   (l7 (mR (tM PySem.F.plainAttrs_list PySem.F.slot_list_append PySem.F.type_list_append pB (mY tH (pv 1) (pv 3) (fun _ _=>rfl)) (dJ (pv 2) eD))))))
  (l7 (l9 (pv 1)))),?_⟩
 obtain ⟨a,p,q',ys,rfl,ha,hp,hq,hL⟩:=W.at_
 have lw:(ws.map V.int).length=ws.length:=aV1 _
 refine⟨_,rfl,a,_,_,_,rfl,rfl,aG.of ha,rfl,p,rfl,⟨_,aG.of hp⟩,an1 (an0 (aG.of hp)) (fun i acc H'=>∃ bs:List Addr,acc=bs.map V.ref/\bs.length=i/\bs.Nodup/\∀ b ∈ bs,H b=none/\H' b=some (.lst [])) (by rw [lw]; exact ba4 (nF hn))
  (fun D hD=>⟨[],rfl,rfl,List.nodup_nil,fun _ z=>nomatch z⟩) (fun i x acc D H' hx c hPv=>?_) (fun D acc H' hD sm hDa hlen hPv=>?_)⟩
 ·obtain ⟨bs,rfl,hbl,nd,hb⟩:=hPv
  refine⟨wk0 (n:=none),pU ⟨aZ2 _,fun r hr'=>?_⟩⟩
  have hrD:r ≠ D:=fun z=>by rw [z,c.acc] at hr'; cases hr'
  have hrH:H r=none:=c.same.free hr'
  refine c.yes (bD hr' _) ⟨bs ++ [r],by simp,by simp [hbl],?_,fun b hm=>?_⟩
  ·refine aY7.mpr ⟨nd,aY1 _ _,fun b hb1 b' hb2 e=>?_⟩
   rw [aV6.mp hb2] at e
   rw [e] at hb1
   rw [(hb r hb1).2] at hr'; cases hr'
  ·rcases aX3.mp hm with hm | hm
   ·have hbD:b ≠ D:=fun z=>by
     rw [z] at hm
     have:=(hb D hm).2
     rw [c.acc] at this
     have:bs.map V.ref = []:=by injection this with e1; injection e1
     have:bs = []:=List.map_eq_nil_iff.mp this
     rw [this] at hm; simp at hm
    refine⟨(hb b hm).1,?_⟩
    rw [aH hbD,aH (cA (hb b hm).2 hr')]
    exact (hb b hm).2
   ·rw [aV6.mp hm]
    exact⟨hrH,by rw [aH hrD,b8]⟩
 ·obtain ⟨bs,rfl,hbl,nd,hb⟩:=hPv
  rw [lw] at hbl
  have R0:iY H H' D bs (fun k=>cN (ls.take 0) k):=by
   refine⟨hD,fun b hm=>⟨(hb b hm).1,fun z=>?_⟩,nd,hDa,fun k b hk=>(hb b (aW8 hk)).2,sm⟩
   rw [z] at hm
   have:=(hb D hm).2
   rw [hDa] at this
   have:bs.map V.ref = []:=by injection this with e1; injection e1
   have:bs = []:=List.map_eq_nil_iff.mp this
   rw [this] at hm; simp at hm
  have lL:=hL.length
  refine⟨_,rfl,a,_,_,_,rfl,rfl,aG.of (sm _ _ ha),rfl,q',rfl,⟨_,aG.of (sm _ _ hq)⟩,ae3 (K:=K) (a:=q') (xs:=ys) (fun i σ H2=>∃ x y:Option V,σ = [some (.ref a),some (.ref D),x,y]/\iY H H2 D bs (fun k=>cN (ls.take i) k))
   ⟨none,none,rfl,R0⟩ (fun i σ H2 _ ⟨_,_,_,R⟩=>aG.of (R.same _ _ hq)) ?_ ?_⟩
  ·rintro i y σ H2 hi ⟨x1,x2,rfl,R⟩
   obtain ⟨l,b,hl,rfl,hbt⟩:=hL.get hi
   have hlm:l ∈ ls:=aW8 hl
   obtain ⟨⟨h1,h2⟩,h3,h4⟩:=hin l hlm
   have k1:l.1.toNat < bs.length:=by omega
   have k2:l.2.toNat < bs.length:=by omega
   have e1:bs[l.1.toNat]? = some (bs[l.1.toNat]):=aV2 k1
   have e2:bs[l.2.toNat]? = some (bs[l.2.toNat]):=aV2 k2
   refine⟨b,_,rfl,aG.of (R.same _ _ hbt),rfl,_,_,rfl,_,_,rfl,rfl,?_⟩
   refine⟨_,rfl,_,rfl,D,_,_,.ref bs[l.1.toNat],rfl,rfl,aJ.of R.row,pT h1 (by rw [aV7,e1]; rfl),uC (aJ.of (R.rows _ _ e1)),_,rfl,_,_,_,rfl,rfl,R.rows _ _ e1,?_,?_⟩
   ·rw [aV1]
    have:=pS (ls.take i) (l.1.toNat:Nat)
    rw [ba8] at this
    exact iB (by omega)
   ·have R1:=R.app e1 l.2
    refine⟨_,rfl,_,rfl,D,_,_,.ref bs[l.2.toNat],rfl,rfl,aJ.of R1.row,pT h3 (by rw [aV7,e2]; rfl),uC (aJ.of (R1.rows _ _ e2)),_,rfl,_,_,_,rfl,rfl,R1.rows _ _ e2,?_,?_⟩
    ·rw [aV1]
     have:=pS (ls.take i) (l.2.toNat:Nat)
     rw [ba8] at this
     split
     ·rw [aU9,aZ1]; exact iB (by omega)
     ·exact iB (by omega)
    ·have R2:=R1.app e2 l.1
     refine⟨_,_,rfl,R2.congr fun k hk=>?_⟩
     rw [C6 hl]
     have c1:(k=l.1.toNat) ↔ l.1=(k:Int):=by omega
     have c2:(k=l.2.toNat) ↔ l.2=(k:Int):=by omega
     by_cases d1:k=l.1.toNat
     ·by_cases d2:k=l.2.toNat
      ·rw [if_pos d2,if_pos d1,if_pos (c1.mp d1),if_pos (c2.mp d2)]; simp
      ·rw [if_neg d2,if_pos d1,if_pos (c1.mp d1),if_neg (fun z=>d2 (c2.mpr z))]; simp
     ·by_cases d2:k=l.2.toNat
      ·rw [if_pos d2,if_neg d1,if_neg (fun z=>d1 (c1.mpr z)),if_pos (c2.mp d2)]; simp
      ·rw [if_neg d2,if_neg d1,if_neg (fun z=>d1 (c1.mpr z)),if_neg (fun z=>d2 (c2.mpr z))]; simp
  ·
   rintro σ H2 ⟨x1,x2,rfl,R⟩
   refine⟨_,rfl,q D bs H2 hbl ?_⟩
   rw [lL,aX9] at R
   exact R
theorem aO4:FnScope ["web"] ["web"] (aQ (aX 8)):=.au
theorem aO5 (B:Bt mg) (F:FM K mg "hearths_in" 8 f fd)  : Df P w K mg base 1 "hearths_in" ["web"] iK:=
 Df.au F aO4 (fun cdv A outer s H E hr=>by
  exact⟨(M3),(aP (bL (fJ B (a8 (fI (qv 0) aO) aA)))),az4⟩)
theorem Y4:FnScope ["hearths","chosen","hearth"] ["hearths"] (aQ (aX 13)):=.au
theorem aO6 (B:Bt mg) (F:FM K mg "sets_among" 13 f fd)  : Df P w K mg base 1 "sets_among" ["hearths"] rV:=
 Df.au F Y4 (fun cdv A outer s H E hr=>by
  have nd:=Y4.nd
  exact⟨(T1),(aL (bH (i:=1) nd (lY (a8 (dZ aA) aA)))
   (aL (iH 2 nd (dM (qv 0))
    (aP (bH (i:=1) nd (P0 (qv 1) (m6 (N:=["some","hearth"]) (fr:=[none,some 2]) (dM (qv 1)) (fun _ _ _ _=>(rE (qv 0) (dZ (a8 (qv 1) aA)))))))))
   (aP (iG 1)))),aJ9⟩)
theorem Y5:FnScope ["hearths","inside","hearth"] ["hearths"] (aQ (aX 15)):=.au
theorem aO7 (B:Bt mg) (F:FM K mg "marked" 15 f fd)  : Df P w K mg base 1 "marked" ["hearths"] hZ:=
 Df.au F Y5 (fun cdv A outer s H E hr=>by
  have nd:=Y5.nd
  have hu:=gG hr
  exact⟨(M9),(aL (gN (i:=1) nd J8)
   (aL (iH 2 nd (dM (qv 0))
    (aP (qO hu (i:=1) (qv 2) hG)))
   (aP (iG 1)))),az9⟩)
theorem aO8:FnScope ["hearths","inside"] ["hearths","inside"] (aQ (aX 16)):=.au
theorem aO9 (B:Bt mg) (F:FM K mg "count_inside" 16 f fd)  : Df P w K mg base 1 "count_inside" ["hearths","inside"] qZ:=
 Df.au F aO8 (fun cdv A outer s H E hr=>by
  have hu:=gG hr
  exact⟨(N0),(aP (bL (fJ B (a8 (oC (N:=["hearth","inside"]) (fr:=[none,some 1]) (dM (qv 0)) (fun _ _ _ _=>(J7 hu (qv 0) (qv 1))) (fun _ _ _ _=>(qv 0))) aA)))),aA0⟩)
theorem aP0:FnScope ["choices"] ["choices"] (aQ (aX 32)):=.au
theorem aP1 (B:Bt mg) (F:FM K mg "ways_on" 32 f fd)  : Df P w K mg base 1 "ways_on" ["choices"] k8:=
 Df.au F aP0 (fun cdv A outer s H E hr=>by
  exact⟨(U5),(aL (cH (jS (vH (qv 0))) (aP (bL aO)) cP)
   (aP (bL (Q9 B rfl (a8 (aF0 (N:=["hearth","many"]) (fr:=[none,none]) (dM (qv 0)) (fun _ _ _ _=>(qv 1))) aA))))),aL8⟩)
theorem aP2:FnScope ["row"] ["row"] (aQ (aX 33)):=.au
theorem aP3 (B:Bt mg) (F:FM K mg "set_of" 33 f fd)  : Df P w K mg base 1 "set_of" ["row"] jC:=
 Df.au F aP2 (fun cdv A outer s H E hr=>by
  exact⟨(U4),(aP (bL (fV B (a8 (wG B (a8 (qv 0) aA)) aA)))),aL7⟩)
theorem aP4:FnScope ["script","k"] ["script","k"] (aQ (aX 37)):=.au
theorem aP5 (B:Bt mg) (F:FM K mg "_law_cell_at" 37 f fd)  : Df P w K mg base 1 "_law_cell_at" ["script","k"] j9:=
 Df.au F aP4 (fun cdv A outer s H E hr=>by
  exact⟨(N4),(aL (cH (kQ (qv 1) (fJ B (a8 (qv 0) aA))) (aP (bL (fI (qv 0) (qv 1)))) cP)
   (aP (bL aO))),aA5⟩)
theorem aP6:FnScope ["found"] ["found"] (aQ (aX 38)):=.au
theorem aP7 (B:Bt mg) (F:FM K mg "_law_whole" 38 f fd)  : Df P w K mg base 1 "_law_whole" ["found"] rA:=
 Df.au F aP6 (fun cdv A outer s H E hr=>by
  exact⟨(N6 K),(aP (bL (lX (ax2 B (qv 0)) (lW (aw2 (ax3 B (qv 0))))))),aA6 (O8 K).ii (O8 K).ib⟩)
theorem Y6:FnScope ["cell","k","turn"] ["cell","k"] (aQ (aX 39)):=.au
theorem aP8 (B:Bt mg) (F:FM K mg "_law_stir" 39 f fd)  : Df P w K mg base 1 "_law_stir" ["cell","k"] jZ:=
 Df.au F Y6 (fun cdv A outer s H E hr=>by
  have nd:=Y6.nd
  exact⟨(S0),(aL (bH (i:=2) nd (dA (vE (fH (fH (dA (qv 0) aO) (vE (qv 1) (qv 1))) aO) aO) aO))
   (aP (bL (fU (dA (vE (qv 2) (qv 2)) aO) aO)))),aI7⟩)
theorem aP9:FnScope ["way","wants","degrees"] ["way","wants","degrees"] (aQ (aX 40)):=.au
theorem aQ0 (B:Bt mg) (F:FM K mg "_law_wants" 40 f fd)  : mE P w K mg base 1 "_law_wants" ["way","wants","degrees"] mG:=
 mE.of F.F F.m aP9 (fun _ _ _ _ _ _ us hl=>by obtain ⟨_,_,_,rfl⟩:=rL hl; rfl) (fun xs Q h=>by unfold mG at h; repeat (first | (obtain ⟨rfl,_⟩:=h; rfl) | (obtain ⟨_,h⟩:=h))) 1 S2 aI8 (fun cdv A outer s H E hr=>by
  exact (rM (cH (iF (qv 0) aO) (aP (bL (m6 (N:=["want"]) (fr:=[none]) (dM (qv 1)) (fun _ _ _ _=>aO)))) cP)
   (rM (cH (iF (qv 0) aO) (aP (bL (vM B (a8 (qv 2) aA)))) cP)
   (rM (cH (iF (qv 0) aO) (aP (bL (m6 (N:=["degree"]) (fr:=[none]) (dM (qv 2)) (fun _ _ _ _=>(qP B rfl (a8 aO (a8 (vD (qv 0) aO) aA))))))) cP)
   (rM (cH (iF (qv 0) aO) (aP (bL (m6 (N:=["degree"]) (fr:=[none]) (dM (qv 2)) (fun _ _ _ _=>(fU (fH (qv 0) aO) aO))))) cP)
   (aI5 1))))))
theorem Y7:FnScope ["cell","many","wants","links","hearth","one","other"] ["cell","many"] (aQ (aX 41)):=.au
theorem aQ1 (B:Bt mg) (F:FM K mg "_law_by_digits" 41 f fd)  : Df P w K mg base 1 "_law_by_digits" ["cell","many"] rN:=
 Df.au F Y7 (fun cdv A outer s H E hr=>by
  have nd:=Y7.nd
  have hu:=gG hr
  exact⟨(S3),(aL (gN (i:=2) nd (lY aA))
   (aL (gN (i:=3) nd vK)
   (aL (iH 4 nd (hU rfl B.range (qv 1))
    (aL (qN 2 (dA (qv 0) aO))
    (aP (bH (i:=0) nd (fU (qv 0) aO)))))
   (aL (iH 5 nd (hU rfl B.range (qv 1))
    (aP (iH 6 nd (aw6 rfl B.range (fH (qv 5) aO) (qv 1))
     (aL (cH (iF (dA (qv 0) aO) aO) (aP (vL hu (i:=3) (dZ (a8 (qv 5) (a8 (qv 6) aA))) hG)) cP)
     (aP (bH (i:=0) nd (fU (qv 0) aO)))))))
   (aP (J9 2 (J9 3 (bL (aw3 (a8 (qv 2) (a8 (qv 3) aA))))))))))),aI9⟩)
theorem aQ2:FnScope ["web","hearth"] ["web","hearth"] (aQ (aX 44)):=.au
theorem aQ3 (B:Bt mg) (F:FM K mg "_law_near" 44 f fd)  : Df P w K mg base 1 "_law_near" ["web","hearth"] rQ:=
 Df.au F aQ2 (fun cdv A outer s H E hr=>by
  exact⟨(S7),(aP (bL (aF1 (N:=["one","other","hearth"]) (fr:=[none,none,some 1]) (dM (fI (qv 0) aO)) (fun _ _ _ _=>(qQ (qv 2) (dZ (a8 (qv 0) (a8 (qv 1) aA))))) (fun _ _ _ _=>(vD (fH (qv 0) (qv 1)) (qv 2)))))),aJ2⟩)
theorem Y8:FnScope ["cell","first","links","wants"] ["cell"] (aQ (aX 47)):=.au
theorem aQ4 (B:Bt mg) (F:FM K mg "_law_two_rows" 47 f fd)  : Df P w K mg base 1 "_law_two_rows" ["cell"] sM:=
 Df.au F Y8 (fun cdv A outer s H E hr=>by
  have nd:=Y8.nd
  exact⟨(W6),(aL (bH (i:=1) nd (dA (qv 0) aO))
   (aL (qS (i:=2) nd (N:=["k","first"]) (fr:=[none,some 1]) (hU rfl B.range aO) (fun _ _ _ _=>(o8 (fH (qv 0) aO) (qv 1))) (fun _ _ _ _=>(dZ (a8 (qv 0) (a8 (fH (qv 0) aO) aA)))))
   (aL (ax6 (i:=3) nd (N:=["k","first"]) (fr:=[none,some 1]) (hU rfl B.range aO) (fun _ _ _ _=>(aK9 B (a8 (lX (J5 (qv 0) aO) (lW (J5 (qv 0) (qv 1)))) aA))))
   (aP (bL (dZ (a8 (fV B (a8 (qv 3) aA)) (a8 (fV B (a8 (qv 2) aA)) aA)))))))),aN1⟩)
theorem aQ5:FnScope ["web","number"] ["web","number"] (aQ (aX 10)):=.au
theorem aQ6 (B:Bt mg) (F:FM K mg "is_hearth" 10 f fd) (d_hearths_in:Df P w K mg base 1 "hearths_in" ["web"] iK):Df P w K mg base 2 "is_hearth" ["web","number"] mB:=
 Df.au F aQ5 (fun cdv A outer s H E hr=>by
  exact⟨(M4),(aP (bL (lX (vF (qv 1) aO) (lW (J3 (qv 1) (b7 d_hearths_in hr (a8 (qv 0) aA))))))),az5⟩)
theorem aQ7:FnScope ["web","numbers"] ["web","numbers"] (aQ (aX 14)):=.au
theorem aQ8 (B:Bt mg) (F:FM K mg "has_each_once" 14 f fd) (d_hearths_in:Df P w K mg base 1 "hearths_in" ["web"] iK):Df P w K mg base 2 "has_each_once" ["web","numbers"] rG:=
 Df.au F aQ7 (fun cdv A outer s H E hr=>by
  have hu3:=xC hr
  exact⟨(Q0),(aP (bL (vP hu3 (wG B (a8 (qv 1) aA)) (N8 B (b7 d_hearths_in hr (a8 (qv 0) aA)))))),aF7⟩)
theorem aQ9:FnScope ["web","around","burning","hearth"] ["web","around","burning","hearth"] (aQ (aX 20)):=.au
theorem aR0 (B:Bt mg) (F:FM K mg "can_kindle" 20 f fd) (d_count_inside:Df P w K mg base 1 "count_inside" ["hearths","inside"] qZ):Df P w K mg base 2 "can_kindle" ["web","around","burning","hearth"] iN:=
 Df.au F aQ9 (fun cdv A outer s H E hr=>by
  have hu:=gG hr
  exact⟨(N1),(aP (bL (lX (aw1 hu (qv 3) (qv 2)) (lW (vF (b7 d_count_inside hr (a8 (fI (qv 1) (qv 3)) (a8 (qv 2) aA))) (fI (fI (qv 0) aO) (qv 3))))))),aA2⟩)
theorem Y9:FnScope ["flow","many","way","wants","links","cell","turn","one","other","degrees"] ["flow","many","way"] (aQ (aX 42)):=.au
theorem aR1 (B:Bt mg) (F:FM K mg "_law_web" 42 f fd) (d__law_by_digits:Df P w K mg base 1 "_law_by_digits" ["cell","many"] rN) (d__law_stir:Df P w K mg base 1 "_law_stir" ["cell","k"] jZ) (d__law_wants:mE P w K mg base 1 "_law_wants" ["way","wants","degrees"] mG):Df P w K mg base 2 "_law_web" ["flow","many","way"] rO:=
 Df.au F Y9 (fun cdv A outer s H E hr=>by
  have nd:=Y9.nd
  have hu:=gG hr
  exact⟨(S4),(aL (ax7 (i:=3) nd (N:=["k"]) (fr:=[none]) (hU rfl B.range (qv 1)) (fun _ _ _ _=>(fH aO (dA (qv 0) aO))))
   (aL (gN (i:=4) nd vK)
   (aL (cH (kR (vJ (vG (fJ B (a8 (qv 0) aA)) aO) (vI (iF (dA (fI (qv 0) aO) aO) aO)))) (aL (aI2 3 4 nd (b7 d__law_by_digits hr (a8 (fU (fI (qv 0) aO) aO) (a8 (qv 1) aA))))
    (aP (bH (i:=0) nd (vS (qv 0) (vR aO) vQ)))) cP)
   (aL (iH 5 nd (dM (qv 0))
    (aP (cH (vG (qv 1) aO) (aL (bH (i:=6) nd (b7 d__law_stir hr (a8 (qv 5) (a8 aO aA))))
     (aL (bH (i:=7) nd (dA (qv 6) (qv 1)))
     (aL (bH (i:=8) nd (dA (fU (qv 6) aO) (qv 1)))
     (aP (cH (iF (dA (fU (qv 6) aO) aO) aO) (aP (ax9 (i:=3) (qv 7) (dA (fU (qv 6) aO) aO))) (aP (cH (kR (vJ (o8 (qv 7) (qv 8)) (vI (J7 hu (dZ (a8 (vN B rfl (a8 (qv 7) (a8 (qv 8) aA))) (a8 (qP B rfl (a8 (qv 7) (a8 (qv 8) aA))) aA))) (qv 4))))) (aP (aI4 4 hu (dZ (a8 (vN B rfl (a8 (qv 7) (a8 (qv 8) aA))) (a8 (qP B rfl (a8 (qv 7) (a8 (qv 8) aA))) aA))))) (aP (cH (o8 (qv 7) (qv 8)) (aP (vL hu (i:=4) (dZ (a8 (vN B rfl (a8 (qv 7) (a8 (qv 8) aA))) (a8 (qP B rfl (a8 (qv 7) (a8 (qv 8) aA))) aA))) hG)) cP))))))))) cP)))
   (aL (aJ4 (i:=9) nd (N:=["hearth","links"]) (fr:=[none,some 4]) (hU rfl B.range (qv 1)) (fun _ _ _ _=>(fJ B (a8 (aI0 (N:=["pair","hearth"]) (fr:=[none,some 0]) (qv 1) (fun _ _ _ _=>(qQ (qv 1) (qv 0))) (fun _ _ _ _=>(qv 0))) aA))))
   (aP (bL (dZ (a8 (fV B (a8 (aI6 d__law_wants hr (a8 (qv 2) (a8 (qv 3) (a8 (qv 9) aA)))) aA)) (a8 (fV B (a8 (aB6 B (a8 (aB3 B rfl (a8 (qv 4) aA)) aA)) aA)) aA)))))))))),aJ0⟩)
theorem aR2:FnScope ["cell","many"] ["cell","many"] (aQ (aX 43)):=.au
theorem aR3 (B:Bt mg) (F:FM K mg "_law_some" 43 f fd) (d__law_stir:Df P w K mg base 1 "_law_stir" ["cell","k"] jZ):Df P w K mg base 2 "_law_some" ["cell","many"] rP:=
 Df.au F aR2 (fun cdv A outer s H E hr=>by
  exact⟨(S6),(aL (cH (iF (dA (qv 0) aO) aO) (aP (bL (fV B (a8 (oC (N:=["k","cell"]) (fr:=[none,some 0]) (hU rfl B.range (qv 1)) (fun _ _ _ _=>(iF (dA (av9 (qv 1) (fH (qv 0) aO)) aO) aO)) (fun _ _ _ _=>(qv 0))) aA)))) cP)
   (aP (bL (fV B (a8 (oC (N:=["k","cell"]) (fr:=[none,some 0]) (hU rfl B.range (qv 1)) (fun _ _ _ _=>(kQ (dA (b7 d__law_stir hr (a8 (qv 1) (a8 (qv 0) aA))) aO) (fH aO (dA (fU (qv 1) aO) aO)))) (fun _ _ _ _=>(qv 0))) aA))))),aJ1⟩)
theorem aR4:FnScope ["web","burning","hearth"] ["web","burning","hearth"] (aQ (aX 45)):=.au
theorem aR5 (B:Bt mg) (F:FM K mg "_law_kindles" 45 f fd) (d__law_near:Df P w K mg base 1 "_law_near" ["web","hearth"] rQ):Df P w K mg base 2 "_law_kindles" ["web","burning","hearth"] oP:=
 Df.au F aR4 (fun cdv A outer s H E hr=>by
  exact⟨(T4),(aL (cH (qQ (qv 2) (qv 1)) (aP (bL hG)) cP)
   (aP (bL (vF (fJ B (a8 (oC (N:=["other","burning"]) (fr:=[none,some 1]) (dM (b7 d__law_near hr (a8 (qv 0) (a8 (qv 2) aA)))) (fun _ _ _ _=>(qQ (qv 0) (qv 1))) (fun _ _ _ _=>(qv 0))) aA)) (fI (fI (qv 0) aO) (qv 2)))))),aK2⟩)
theorem aR6:FnScope ["web","numbers"] ["web","numbers"] (aQ (aX 11)):=.au
theorem aR7 (B:Bt mg) (F:FM K mg "is_set" 11 f fd) (d_rises:Df P w K mg base 1 "rises" ["things"] vZ) (d_is_hearth:Df P w K mg base 2 "is_hearth" ["web","number"] mB):Df P w K mg base 3 "is_set" ["web","numbers"] qW:=
 Df.au F aR6 (fun cdv A outer s H E hr=>by
  exact⟨(M5),(aP (bL (lX (b7 d_rises hr (a8 (qv 1) aA)) (lW (aw8 B rfl (a8 (m6 (N:=["number","web"]) (fr:=[none,some 0]) (dM (qv 1)) (fun _ _ _ _=>(b7 d_is_hearth hr (a8 (qv 1) (a8 (qv 0) aA))))) aA)))))),az6⟩)
theorem aR8:FnScope ["web","around","burning"] ["web","around","burning"] (aQ (aX 19)):=.au
theorem aR9 (B:Bt mg) (F:FM K mg "kindling" 19 f fd) (d_can_kindle:Df P w K mg base 2 "can_kindle" ["web","around","burning","hearth"] iN) (d_hearths_in:Df P w K mg base 1 "hearths_in" ["web"] iK):Df P w K mg base 3 "kindling" ["web","around","burning"] oE:=
 Df.au F aR8 (fun cdv A outer s H E hr=>by
  exact⟨(N3),(aP (bL (fV B (a8 (oC (N:=["hearth","web","around","burning"]) (fr:=[none,some 0,some 1,some 2]) (hU rfl B.range (b7 d_hearths_in hr (a8 (qv 0) aA))) (fun _ _ _ _=>(hJ (b7 d_can_kindle hr (a8 (qv 1) (a8 (qv 2) (a8 (qv 3) (a8 (qv 0) aA))))))) (fun _ _ _ _=>(qv 0))) aA)))),aA3⟩)
theorem Z0:FnScope ["web","around","burning","order","hearth"] ["web","around","burning","order"] (aQ (aX 24)):=.au
theorem aS0 (B:Bt mg) (F:FM K mg "first_to_kindle" 24 f fd) (d_can_kindle:Df P w K mg base 2 "can_kindle" ["web","around","burning","hearth"] iN):Df P w K mg base 3 "first_to_kindle" ["web","around","burning","order"] oJ:=
 Df.au F Z0 (fun cdv A outer s H E hr=>by
  have nd:=Z0.nd
  exact⟨(Q4),(aL (iH 4 nd (dM (qv 3))
    (aP (cH (hJ (b7 d_can_kindle hr (a8 (qv 0) (a8 (qv 1) (a8 (qv 2) (a8 (qv 4) aA)))))) (aP (iG 4)) cP)))
   (aP (bL J2))),aF9⟩)
theorem Z1:FnScope ["web","seeds","cell","row","able"] ["web","seeds","cell"] (aQ (aX 46)):=.au
theorem aS1 (B:Bt mg) (F:FM K mg "_law_picked" 46 f fd) (d__law_kindles:Df P w K mg base 2 "_law_kindles" ["web","burning","hearth"] oP) (d__law_stir:Df P w K mg base 1 "_law_stir" ["cell","k"] jZ):Df P w K mg base 3 "_law_picked" ["web","seeds","cell"] rZ:=
 Df.au F Z1 (fun cdv A outer s H E hr=>by
  have nd:=Z1.nd
  have hu3:=xC hr
  exact⟨(T8),(aL (gN (i:=3) nd (lY aA))
   (aL (qS (i:=4) nd (N:=["hearth","web","seeds"]) (fr:=[none,some 0,some 1]) (hU rfl B.range (fJ B (a8 (fI (qv 0) aO) aA))) (fun _ _ _ _=>(hJ (b7 d__law_kindles hr (a8 (qv 1) (a8 (vM B (a8 (qv 2) aA)) (a8 (qv 0) aA)))))) (fun _ _ _ _=>(qv 0)))
   (aL (qM PassesOwn.never (K6 hu3 (qv 4) (lY aA))
    (aL (qN 3 (fI (qv 4) (dA (b7 d__law_stir hr (a8 (qv 2) (a8 (fJ B (a8 (qv 3) aA)) aA))) (fJ B (a8 (qv 4) aA)))))
    (aP (qS (i:=4) nd (N:=["hearth","web","row","seeds"]) (fr:=[none,some 0,some 3,some 1]) (hU rfl B.range (fJ B (a8 (fI (qv 0) aO) aA))) (fun _ _ _ _=>(hJ (b7 d__law_kindles hr (a8 (qv 1) (a8 (P0 (vM B (a8 (qv 3) aA)) (qv 2)) (a8 (qv 0) aA)))))) (fun _ _ _ _=>(qv 0))))))
   (aP (iG 3))))),aK7⟩)
theorem aS2:FnScope ["web","hearths"] ["web","hearths"] (aQ (aX 12)):=.au
theorem aS3 (B:Bt mg) (F:FM K mg "made_set" 12 f fd) (d_is_set:Df P w K mg base 3 "is_set" ["web","numbers"] qW) (x_BadSet:Xc K mg base "BadSet"):b9 P w K mg base 4 "made_set" ["web","hearths"] jY:=
 b9.au F aS2 R5 aH6 (fun cdv A outer s H E Ep hr hX=>by
  exact (aL (cH (jS (hJ (b7 d_is_set hr (a8 (qv 0) (a8 (qv 1) aA))))) (aP (oK hX x_BadSet (a8 o7 aA))) cP)
   (aP (bL (fV B (a8 (qv 1) aA))))))
theorem Z2:FnScope ["web","seeds","told","burning","around","lit"] ["web","seeds"] (aQ (aX 18)):=.au
theorem aS4 (B:Bt mg) (F:FM K mg "rounds" 18 f fd) (d_marked:Df P w K mg base 1 "marked" ["hearths"] hZ) (d_near_lists:Df P w K mg base 1 "near_lists" ["web"] j8) (d_kindling:Df P w K mg base 3 "kindling" ["web","around","burning"] oE) (d_made_set:b9 P w K mg base 4 "made_set" ["web","hearths"] jY):b9 P w K mg base 5 "rounds" ["web","seeds"] rS:=
 b9.au F Z2 S8 aJ5 (fun cdv A outer s H E Ep hr hX=>by
  have nd:=Z2.nd
  exact (aL (gN (i:=2) nd (lY (a8 (fY hX d_made_set hr (a8 (qv 0) (a8 (qv 1) aA))) aA)))
   (aL (gN (i:=3) nd (b7 d_marked hr (a8 (fI (qv 2) aO) aA)))
   (aL (bH (i:=4) nd (b7 d_near_lists hr (a8 (qv 0) aA)))
   (aL (bH (i:=5) nd (b7 d_kindling hr (a8 (qv 0) (a8 (qv 4) (a8 (qv 3) aA)))))
   (aL (qM hX.own (vH (qv 5))
    (aL (qN 2 (qv 5))
    (aL (ax8 3 (b7 d_marked hr (a8 (qv 5) aA)))
    (aP (bH (i:=5) nd (b7 d_kindling hr (a8 (qv 0) (a8 (qv 4) (a8 (qv 3) aA)))))))))
   (aP (iG 2))))))))
theorem Z3:FnScope ["web","seeds","order","burning","around","kindled","hearth"] ["web","seeds","order"] (aQ (aX 23)):=.au
theorem aS5 (B:Bt mg) (F:FM K mg "kindled_by" 23 f fd) (d_marked:Df P w K mg base 1 "marked" ["hearths"] hZ) (d_near_lists:Df P w K mg base 1 "near_lists" ["web"] j8) (d_first_to_kindle:Df P w K mg base 3 "first_to_kindle" ["web","around","burning","order"] oJ) (d_made_set:b9 P w K mg base 4 "made_set" ["web","hearths"] jY) (d_has_each_once:Df P w K mg base 2 "has_each_once" ["web","numbers"] rG) (x_BadOrder:Xc K mg base "BadOrder"):b9 P w K mg base 5 "kindled_by" ["web","seeds","order"] rW:=
 b9.au F Z3 T2 aK0 (fun cdv A outer s H E Ep hr hX=>by
  have nd:=Z3.nd
  have hu:=gG hr
  exact (aL (gN (i:=3) nd (b7 d_marked hr (a8 (fY hX d_made_set hr (a8 (qv 0) (a8 (qv 1) aA))) aA)))
   (aL (cH (jS (hJ (b7 d_has_each_once hr (a8 (qv 0) (a8 (qv 2) aA))))) (aP (oK hX x_BadOrder (a8 o7 aA))) cP)
   (aL (bH (i:=4) nd (b7 d_near_lists hr (a8 (qv 0) aA)))
   (aL (gN (i:=5) nd (lY aA))
   (aL (bH (i:=6) nd (b7 d_first_to_kindle hr (a8 (qv 0) (a8 (qv 4) (a8 (qv 3) (a8 (qv 2) aA))))))
   (aL (qM hX.own (aw0 (qv 6) J2)
    (aL (qN 5 (qv 6))
    (aL (qO hu (i:=3) (qv 6) hG)
    (aP (bH (i:=6) nd (b7 d_first_to_kindle hr (a8 (qv 0) (a8 (qv 4) (a8 (qv 3) (a8 (qv 2) aA))))))))))
   (aP (iG 5)))))))))
theorem Z4:FnScope ["web","seeds","row","burning","around","hearth"] ["web","seeds","row"] (aQ (aX 27)):=.au
theorem aS6 (B:Bt mg) (F:FM K mg "is_row" 27 f fd) (d_marked:Df P w K mg base 1 "marked" ["hearths"] hZ) (d_near_lists:Df P w K mg base 1 "near_lists" ["web"] j8) (d_made_set:b9 P w K mg base 4 "made_set" ["web","hearths"] jY) (d_is_hearth:Df P w K mg base 2 "is_hearth" ["web","number"] mB) (d_can_kindle:Df P w K mg base 2 "can_kindle" ["web","around","burning","hearth"] iN):b9 P w K mg base 5 "is_row" ["web","seeds","row"] rX:=
 b9.au F Z4 T6 aK5 (fun cdv A outer s H E Ep hr hX=>by
  have nd:=Z4.nd
  have hu:=gG hr
  exact (aL (gN (i:=3) nd (b7 d_marked hr (a8 (fY hX d_made_set hr (a8 (qv 0) (a8 (qv 1) aA))) aA)))
   (aL (bH (i:=4) nd (b7 d_near_lists hr (a8 (qv 0) aA)))
   (aL (iH 5 (hp:=hX.own) nd (dM (qv 2))
    (aL (cH (kR (lV (jS (hJ (b7 d_is_hearth hr (a8 (qv 0) (a8 (qv 5) aA))))) (qK (jS (hJ (b7 d_can_kindle hr (a8 (qv 0) (a8 (qv 4) (a8 (qv 3) (a8 (qv 5) aA)))))))))) (aP (bL hG)) cP)
    (aP (qO hu (i:=3) (qv 5) hG))))
   (aP (bL hG))))))
theorem Z5:FnScope ["web","seeds","ranks","rank","lit","hearth"] ["web","seeds"] (aQ (aX 21)):=.au
theorem aS7 (B:Bt mg) (F:FM K mg "ranks_of" 21 f fd) (d_rounds:b9 P w K mg base 5 "rounds" ["web","seeds"] rS):b9 P w K mg base 6 "ranks_of" ["web","seeds"] rT:=
 b9.au F Z5 S9 aJ6 (fun cdv A outer s H E Ep hr hX=>by
  have nd:=Z5.nd
  have hu:=gG hr
  exact (aL (gN (i:=2) nd J8)
   (aL (vT 3 4 (hp:=hX.own) nd (P7 rfl B.enum (fY hX d_rounds hr (a8 (qv 0) (a8 (qv 1) aA))))
    (aP (iH 5 (hp:=hX.own) nd (dM (qv 4))
     (aP (qO hu (i:=2) (qv 5) (qv 3))))))
   (aP (iG 2)))))
theorem aS8:FnScope ["web","seeds"] ["web","seeds"] (aQ (aX 29)):=.au
theorem aS9 (B:Bt mg) (F:FM K mg "first_order" 29 f fd) (d_kindled_by:b9 P w K mg base 5 "kindled_by" ["web","seeds","order"] rW) (d_hearths_in:Df P w K mg base 1 "hearths_in" ["web"] iK):b9 P w K mg base 6 "first_order" ["web","seeds"] mH:=
 b9.au F aS8 T3 aK1 (fun cdv A outer s H E Ep hr hX=>by
  exact (aP (bL (fV B (a8 (fY hX d_kindled_by hr (a8 (qv 0) (a8 (qv 1) (a8 (N8 B (b7 d_hearths_in hr (a8 (qv 0) aA))) aA)))) aA)))))
theorem aT0:FnScope ["web","seeds"] ["web","seeds"] (aQ (aX 22)):=.au
theorem aT1 (B:Bt mg) (F:FM K mg "burnt" 22 f fd) (d_ranks_of:b9 P w K mg base 6 "ranks_of" ["web","seeds"] rT):b9 P w K mg base 7 "burnt" ["web","seeds"] rU:=
 b9.au F aT0 T0 aJ7 (fun cdv A outer s H E Ep hr hX=>by
  exact (aP (bL (fV B (a8 (aG7 B rfl (a8 (fY hX d_ranks_of hr (a8 (qv 0) (a8 (qv 1) aA))) aA)) aA)))))
theorem Z6:FnScope ["web","seeds","later","around","branches","lit","burning","able"] ["web","seeds"] (aQ (aX 31)):=.au
theorem aT2 (B:Bt mg) (F:FM K mg "branches_of" 31 f fd) (d_near_lists:Df P w K mg base 1 "near_lists" ["web"] j8) (d_first_order:b9 P w K mg base 6 "first_order" ["web","seeds"] mH) (d_sets_among:Df P w K mg base 1 "sets_among" ["hearths"] rV) (d_marked:Df P w K mg base 1 "marked" ["hearths"] hZ) (d_can_kindle:Df P w K mg base 2 "can_kindle" ["web","around","burning","hearth"] iN) (d_ways_on:Df P w K mg base 1 "ways_on" ["choices"] k8) (d_set_of:Df P w K mg base 1 "set_of" ["row"] jC) (rv:mg "reversed" = none) (x_TooMany:Xc K mg base "TooMany") {u_MOST_ORDERED:Nat} (m_MOST_ORDERED:mg "MOST_ORDERED" = some (.int 12 u_MOST_ORDERED)):b9 P w K mg base 7 "branches_of" ["web","seeds"] k9:=
 b9.au F Z6 U8 aM1 (fun cdv A outer s H E Ep hr hX=>by
  have nd:=Z6.nd
  have hu:=gG hr
  exact (aL (bH (i:=2) nd (wG B (a8 (fY hX d_first_order hr (a8 (qv 0) (a8 (qv 1) aA))) aA)))
   (aL (cH (vG (fJ B (a8 (qv 2) aA)) (aF3 rfl m_MOST_ORDERED)) (aP (oK hX x_TooMany (a8 o7 aA))) cP)
   (aL (bH (i:=3) nd (b7 d_near_lists hr (a8 (qv 0) aA)))
   (aL (gN (i:=4) nd vK)
   (aL (iH 5 (hp:=hX.own) nd (aL3 rv (b7 d_sets_among hr (a8 (qv 2) aA)))
    (aL (bH (i:=6) nd (b7 d_marked hr (a8 (rE (fV B (a8 (qv 1) aA)) (qv 5)) aA)))
    (aL (qS (i:=7) nd (N:=["hearth","web","around","burning"]) (fr:=[none,some 0,some 3,some 6]) (dM (qv 2)) (fun _ _ _ _=>(hJ (b7 d_can_kindle hr (a8 (qv 1) (a8 (qv 2) (a8 (qv 3) (a8 (qv 0) aA))))))) (fun _ _ _ _=>(qv 0)))
    (aP (vL hu (i:=4) (qv 5) (m6 (N:=["hearth","branches","lit"]) (fr:=[none,some 4,some 5]) (dM (qv 7)) (fun _ _ _ _=>(dZ (a8 (qv 0) (a8 (b7 d_ways_on hr (a8 (lZ hu (qv 1) (b7 d_set_of hr (a8 (rE (qv 2) (dZ (a8 (qv 0) aA))) aA))) aA)) aA))))))))))
   (aP (iG 4))))))))
theorem aT3:FnScope ["web","seeds","row"] ["web","seeds","row"] (aQ (aX 28)):=.au
theorem aT4 (B:Bt mg) (F:FM K mg "is_order" 28 f fd) (d_is_row:b9 P w K mg base 5 "is_row" ["web","seeds","row"] rX) (d_burnt:b9 P w K mg base 7 "burnt" ["web","seeds"] rU):b9 P w K mg base 8 "is_order" ["web","seeds","row"] rY:=
 b9.au F aT3 T7 aK6 (fun cdv A outer s H E Ep hr hX=>by
  exact (aP (bL (lX (fY hX d_is_row hr (a8 (qv 0) (a8 (qv 1) (a8 (qv 2) aA)))) (lW (J4 (fH (fJ B (a8 (qv 1) aA)) (fJ B (a8 (qv 2) aA))) (fJ B (a8 (fY hX d_burnt hr (a8 (qv 0) (a8 (qv 1) aA))) aA))))))))
theorem aT5:FnScope ["web","seeds"] ["web","seeds"] (aQ (aX 30)):=.au
theorem aT6 (B:Bt mg) (F:FM K mg "order_many" 30 f fd) (d_ways_on:Df P w K mg base 1 "ways_on" ["choices"] k8) (d_branches_of:b9 P w K mg base 7 "branches_of" ["web","seeds"] k9):b9 P w K mg base 8 "order_many" ["web","seeds"] sE:=
 b9.au F aT5 V0 aM2 (fun cdv A outer s H E Ep hr hX=>by
  have hu:=gG hr
  exact (aP (bL (b7 d_ways_on hr (a8 (lZ hu (fY hX d_branches_of hr (a8 (qv 0) (a8 (qv 1) aA))) (dZ aA)) aA)))))
theorem Z7:FnScope ["web","seeds","number","branches","order","left","hearth","many"] ["web","seeds","number"] (aQ (aX 34)):=.au
theorem aT7 (B:Bt mg) (F:FM K mg "order_numbered" 34 f fd) (d_branches_of:b9 P w K mg base 7 "branches_of" ["web","seeds"] k9) (d_set_of:Df P w K mg base 1 "set_of" ["row"] jC) (d_ways_on:Df P w K mg base 1 "ways_on" ["choices"] k8) (x_NoSuch:Xc K mg base "NoSuch"):b9 P w K mg base 8 "order_numbered" ["web","seeds","number"] kA:=
 b9.au F Z7 V7 aM8 (fun cdv A outer s H E Ep hr hX=>by
  have nd:=Z7.nd
  have hu:=gG hr
  exact (aL (bH (i:=3) nd (fY hX d_branches_of hr (a8 (qv 0) (a8 (qv 1) aA))))
   (aL (cH (kR (lV (kQ (qv 2) aO) (qK (J6 (qv 2) (b7 d_ways_on hr (a8 (lZ hu (qv 3) (dZ aA)) aA)))))) (aP (oK hX x_NoSuch (a8 o7 aA))) cP)
   (aL (bH (i:=4) nd (dZ aA))
   (aL (bH (i:=5) nd (qv 2))
   (aL (qM hX.own (vH (lZ hu (qv 3) (b7 d_set_of hr (a8 (qv 4) aA))))
    (aP (vT 6 7 (hp:=hX.own) nd (dM (lZ hu (qv 3) (b7 d_set_of hr (a8 (qv 4) aA))))
     (aL (cH (kQ (qv 5) (qv 7)) (aL (bH (i:=4) nd (rE (qv 4) (dZ (a8 (qv 6) aA))))
      (aP aw4)) cP)
     (aP (bH (i:=5) nd (vD (qv 5) (qv 7))))))))
   (aP (iG 4))))))))
theorem Z8:FnScope ["web","seeds","row","branches","number","turn","hearth","lesser"] ["web","seeds","row"] (aQ (aX 35)):=.au
theorem aT8 (B:Bt mg) (F:FM K mg "number_of_order" 35 f fd) (d_branches_of:b9 P w K mg base 7 "branches_of" ["web","seeds"] k9) (d_is_order:b9 P w K mg base 8 "is_order" ["web","seeds","row"] rY) (d_set_of:Df P w K mg base 1 "set_of" ["row"] jC) (x_BadOrder:Xc K mg base "BadOrder"):b9 P w K mg base 9 "number_of_order" ["web","seeds","row"] sJ:=
 b9.au F Z8 W5 aN0 (fun cdv A outer s H E Ep hr hX=>by
  have nd:=Z8.nd
  have hu:=gG hr
  exact (aL (bH (i:=3) nd (fY hX d_branches_of hr (a8 (qv 0) (a8 (qv 1) aA))))
   (aL (cH (jS (hJ (fY hX d_is_order hr (a8 (qv 0) (a8 (qv 1) (a8 (qv 2) aA)))))) (aP (oK hX x_BadOrder (a8 o7 aA))) cP)
   (aL (bH (i:=4) nd aO)
   (aL (vT 5 6 (hp:=hX.own) nd (P7 rfl B.enum (qv 2))
    (aL (aF2 (i:=7) nd (N:=["other","many","hearth"]) (fr:=[none,none,some 6]) (dM (lZ hu (qv 3) (b7 d_set_of hr (a8 (vS (qv 2) vQ (vR (qv 5))) aA)))) (fun _ _ _ _=>(kQ (qv 0) (qv 2))) (fun _ _ _ _=>(qv 1)))
    (aP (bH (i:=4) nd (fH (qv 4) (Q9 B rfl (a8 (qv 7) aA)))))))
   (aP (iG 4)))))))
theorem Z9:FnScope ["script","many","cell","web","seeds","count","first","last","one","other","row","number"] ["script"] (aQ (aX 48)):=.au
theorem aT9 (B:Bt mg) (F:eF K "law" "law" (aX 48) f fd) (d__law_cell_at:Df P w K mg base 1 "_law_cell_at" ["script","k"] j9) (d__law_web:Df P w K mg base 2 "_law_web" ["flow","many","way"] rO) (d__law_some:Df P w K mg base 2 "_law_some" ["cell","many"] rP) (d_order_many:b9 P w K mg base 8 "order_many" ["web","seeds"] sE) (d_order_numbered:b9 P w K mg base 8 "order_numbered" ["web","seeds","number"] kA) (d_number_of_order:b9 P w K mg base 9 "number_of_order" ["web","seeds","row"] sJ) (d__law_two_rows:Df P w K mg base 1 "_law_two_rows" ["cell"] sM) (d__law_picked:Df P w K mg base 3 "_law_picked" ["web","seeds","cell"] rZ) (d_first_order:b9 P w K mg base 6 "first_order" ["web","seeds"] mH) (d__law_whole:Df P w K mg base 1 "_law_whole" ["found"] rA):cR P w K mg base dE 10 f fd ["script"] (nW K xB):=
 aC7 F Z9 (fun xs Q h=>by unfold xB at h; repeat (first | (obtain ⟨rfl,_⟩:=h; rfl) | (obtain ⟨_,h⟩:=h))) (fun cdv A outer s H E hr=>by
  have nd:=Z9.nd
  have hu3:=xC hr
  exact⟨(X8),(aL (bH (i:=1) nd (dA (b7 d__law_cell_at hr (a8 (qv 0) (a8 aO aA))) aO))
   (aL (bH (i:=2) nd (b7 d__law_cell_at hr (a8 (qv 0) (a8 aO aA))))
   (aL (bH (i:=3) nd (b7 d__law_web hr (a8 (vS (qv 0) (vR aO) vQ) (a8 (qv 1) (a8 (dA (b7 d__law_cell_at hr (a8 (qv 0) (a8 aO aA))) aO) aA)))))
   (aL (bH (i:=4) nd (b7 d__law_some hr (a8 (fU (b7 d__law_cell_at hr (a8 (qv 0) (a8 aO aA))) aO) (a8 (qv 1) aA))))
   (aL (cH (iF (dA (fU (b7 d__law_cell_at hr (a8 (qv 0) (a8 aO aA))) aO) aO) aO) (aL (bH (i:=3) nd (b7 d__law_two_rows hr (a8 (fU (b7 d__law_cell_at hr (a8 (qv 0) (a8 aO aA))) aO) aA)))
    (aP (bH (i:=4) nd (dZ aA)))) cP)
   (aL (bH (i:=5) nd (jX d_order_many hr (a8 (qv 3) (a8 (qv 4) aA))))
   (aL (bH (i:=6) nd (dA (qv 2) (qv 5)))
   (aL (bH (i:=7) nd (dA (fU (qv 2) (qv 5)) (qv 5)))
   (aL (bH (i:=8) nd (jX d_order_numbered hr (a8 (qv 3) (a8 (qv 4) (a8 (qv 6) aA)))))
   (aL (bH (i:=9) nd (jX d_order_numbered hr (a8 (qv 3) (a8 (qv 4) (a8 (qv 7) aA)))))
   (aL (cH (kR (lV (o8 (aN3 hu3 (qv 8) (qv 9)) (J3 (qv 6) (qv 7))) (qK (o8 (vP hu3 (qv 8) (qv 9)) (J4 (qv 6) (qv 7)))))) (aP (bL hG)) cP)
   (aL (cH (kR (vJ (kQ (fH (qv 6) aO) (qv 5)) (vI (jS (aN4 hu3 (qv 8) (jX d_order_numbered hr (a8 (qv 3) (a8 (qv 4) (a8 (fH (qv 6) aO) aA))))))))) (aP (bL hG)) cP)
   (aL (bH (i:=10) nd (fV B (a8 (b7 d__law_picked hr (a8 (qv 3) (a8 (qv 4) (a8 (qv 2) aA)))) aA)))
   (aL (bH (i:=11) nd (jX d_number_of_order hr (a8 (qv 3) (a8 (qv 4) (a8 (qv 10) aA)))))
   (aL (cH (kR (lV (jS (hJ (b7 d__law_whole hr (a8 (qv 11) aA)))) (lV (kQ (qv 11) aO) (lV (J6 (qv 11) (qv 5)) (qK (K6 hu3 (jX d_order_numbered hr (a8 (qv 3) (a8 (qv 4) (a8 (qv 11) aA)))) (qv 10))))))) (aP (bL hG)) cP)
   (aP (bL (vP hu3 (jX d_order_numbered hr (a8 (qv 3) (a8 (qv 4) (a8 aO aA)))) (jX d_first_order hr (a8 (qv 3) (a8 (qv 4) aA))))))))))))))))))))),aO1⟩)
end
set_option autoImplicit true in
theorem aU0 {l:OpenLaw}{w:World}{K:Frag}{h:Heap}{mg:Str->Option Value} (X:K.In h) (G:h.Ns mainGlobals mg) (hfa:mg "law" = some (.ref fa))
  (h0:FK K "rises" 7 f0 d0)
  (h1:FK K "hearths_in" 8 f1 d1)
  (h2:FK K "near_lists" 9 f2 d2)
  (h3:FK K "sets_among" 13 f3 d3)
  (h4:FK K "marked" 15 f4 d4)
  (h5:FK K "count_inside" 16 f5 d5)
  (h6:FK K "ways_on" 32 f6 d6)
  (h7:FK K "set_of" 33 f7 d7)
  (h8:FK K "_law_cell_at" 37 f8 d8)
  (h9:FK K "_law_whole" 38 f9 d9)
  (h10:FK K "_law_stir" 39 f10 d10)
  (h11:FK K "_law_wants" 40 f11 d11)
  (h12:FK K "_law_by_digits" 41 f12 d12)
  (h13:FK K "_law_near" 44 f13 d13)
  (h14:FK K "_law_two_rows" 47 f14 d14)
  (h15:FK K "is_hearth" 10 f15 d15)
  (h16:FK K "has_each_once" 14 f16 d16)
  (h17:FK K "can_kindle" 20 f17 d17)
  (h18:FK K "_law_web" 42 f18 d18)
  (h19:FK K "_law_some" 43 f19 d19)
  (h20:FK K "_law_kindles" 45 f20 d20)
  (h21:FK K "is_set" 11 f21 d21)
  (h22:FK K "kindling" 19 f22 d22)
  (h23:FK K "first_to_kindle" 24 f23 d23)
  (h24:FK K "_law_picked" 46 f24 d24)
  (h25:FK K "made_set" 12 f25 d25)
  (h26:FK K "rounds" 18 f26 d26)
  (h27:FK K "kindled_by" 23 f27 d27)
  (h28:FK K "is_row" 27 f28 d28)
  (h29:FK K "ranks_of" 21 f29 d29)
  (h30:FK K "first_order" 29 f30 d30)
  (h31:FK K "burnt" 22 f31 d31)
  (h32:FK K "branches_of" 31 f32 d32)
  (h33:FK K "is_order" 28 f33 d33)
  (h34:FK K "order_many" 30 f34 d34)
  (h35:FK K "order_numbered" 34 f35 d35)
  (h36:FK K "number_of_order" 35 f36 d36)
  (a37:nsIn K mainGlobals "law" = some (some (.ref f37))) (l37:K.lookup f37=some ⟨oc37,od37,.func (fnOf "law" "law" (iA (aX 48)) (dN (aX 48)) (aQ (aX 48)) .none kV37 dc37 pm37 an37 cd37 ct37),sl37⟩) (c37:codeIn K cd37 "law" = true) (k37:keepIn K (.ref f37)=true)
  (z_len:nsIn K mainGlobals "len" = some none)
  (z_range:nsIn K mainGlobals "range" = some none)
  (z_tuple:nsIn K mainGlobals "tuple" = some none)
  (z_list:nsIn K mainGlobals "list" = some none)
  (z_sorted:nsIn K mainGlobals "sorted" = some none)
  (z_all:nsIn K mainGlobals "all" = some none)
  (z_any:nsIn K mainGlobals "any" = some none)
  (z_zip:nsIn K mainGlobals "zip" = some none)
  (z_min:nsIn K mainGlobals "min" = some none)
  (z_max:nsIn K mainGlobals "max" = some none)
  (z_sum:nsIn K mainGlobals "sum" = some none)
  (z_isinstance:nsIn K mainGlobals "isinstance" = some none)
  (z_int:nsIn K mainGlobals "int" = some none)
  (z_bool:nsIn K mainGlobals "bool" = some none)
  (z_enumerate:nsIn K mainGlobals "enumerate" = some none)
  (z_reversed:nsIn K mainGlobals "reversed" = some none)
  {u_MOST_ORDERED:Nat} (z_MOST_ORDEREDx:nsIn K mainGlobals "MOST_ORDERED" = some (some (.int 12 u_MOST_ORDERED)))
  {C_HearthError C_BadSet C_BadOrder C_NoSuch C_TooMany:Addr}
  (aX_HE:nsIn K mainGlobals "HearthError" = some (some (.ref C_HearthError)))
  (aX_BS:nsIn K mainGlobals "BadSet" = some (some (.ref C_BadSet)))
  (aX_BO:nsIn K mainGlobals "BadOrder" = some (some (.ref C_BadOrder)))
  (aX_NS:nsIn K mainGlobals "NoSuch" = some (some (.ref C_NoSuch)))
  (aX_TM:nsIn K mainGlobals "TooMany" = some (some (.ref C_TooMany)))
  (zX_BW:nsIn K mainGlobals "BadWeb" = some none)
  (zX_BP:nsIn K mainGlobals "BadPrices" = some none)
  (zX_BB:nsIn K mainGlobals "BadBoard" = some none)
  (zX_BD:nsIn K mainGlobals "BadDeed" = some none)
  (zX_NW:nsIn K mainGlobals "NotWood" = some none)
  (zX_NP:nsIn K mainGlobals "NoPaper" = some none)
  (zX_NT:nsIn K mainGlobals "NoText" = some none)
  (zX_OR:nsIn K mainGlobals "OddRound" = some none)
  (y_fg:specialIn K (.builtin "object.__class__") "__get__" = some (some (.builtin "getset_descriptor.__get__")))
  (y_ft:takesIn K (.builtin "object.__class__")=some true)
  (z_VE:nsIn K mainGlobals "ValueError" = some none)
  (y1_HE:isClsIn K C_HearthError=true)
  (y2_HE:typeIn K (.ref C_HearthError)=some (.type "type"))
  (y3_HE:findIn K (.ref C_HearthError) "__getattribute__" = some (some (.builtin "BaseException.__getattribute__")))
  (y4_HE:findIn K (.ref C_HearthError) "__getattr__" = some none)
  (y5_HE:findIn K (.ref C_HearthError) "__class__" = some (some (.builtin "object.__class__")))
  (y6_HE:mroIn K C_HearthError (.type "object")=some true)
  (y7_HE:mroIn K C_HearthError (.type "BaseException")=some true)
  (y1_BS:isClsIn K C_BadSet=true)
  (y2_BS:typeIn K (.ref C_BadSet)=some (.type "type"))
  (y3_BS:findIn K (.ref C_BadSet) "__getattribute__" = some (some (.builtin "BaseException.__getattribute__")))
  (y4_BS:findIn K (.ref C_BadSet) "__getattr__" = some none)
  (y5_BS:findIn K (.ref C_BadSet) "__class__" = some (some (.builtin "object.__class__")))
  (y6_BS:mroIn K C_BadSet (.type "object")=some true)
  (y7_BS:mroIn K C_BadSet (.type "BaseException")=some true)
  (y1_BO:isClsIn K C_BadOrder=true)
  (y2_BO:typeIn K (.ref C_BadOrder)=some (.type "type"))
  (y3_BO:findIn K (.ref C_BadOrder) "__getattribute__" = some (some (.builtin "BaseException.__getattribute__")))
  (y4_BO:findIn K (.ref C_BadOrder) "__getattr__" = some none)
  (y5_BO:findIn K (.ref C_BadOrder) "__class__" = some (some (.builtin "object.__class__")))
  (y6_BO:mroIn K C_BadOrder (.type "object")=some true)
  (y7_BO:mroIn K C_BadOrder (.type "BaseException")=some true)
  (y1_NS:isClsIn K C_NoSuch=true)
  (y2_NS:typeIn K (.ref C_NoSuch)=some (.type "type"))
  (y3_NS:findIn K (.ref C_NoSuch) "__getattribute__" = some (some (.builtin "BaseException.__getattribute__")))
  (y4_NS:findIn K (.ref C_NoSuch) "__getattr__" = some none)
  (y5_NS:findIn K (.ref C_NoSuch) "__class__" = some (some (.builtin "object.__class__")))
  (y6_NS:mroIn K C_NoSuch (.type "object")=some true)
  (y7_NS:mroIn K C_NoSuch (.type "BaseException")=some true)
  (y1_TM:isClsIn K C_TooMany=true)
  (y2_TM:typeIn K (.ref C_TooMany)=some (.type "type"))
  (y3_TM:findIn K (.ref C_TooMany) "__getattribute__" = some (some (.builtin "BaseException.__getattribute__")))
  (y4_TM:findIn K (.ref C_TooMany) "__getattr__" = some none)
  (y5_TM:findIn K (.ref C_TooMany) "__class__" = some (some (.builtin "object.__class__")))
  (y6_TM:mroIn K C_TooMany (.type "object")=some true)
  (y7_TM:mroIn K C_TooMany (.type "BaseException")=some true)
  (q_BO:excIn K C_BadOrder [.type "ValueError",.type "Exception",.type "BaseException",.type "object"] "ValueError.__new__" = true)
  (q_BS:excIn K C_BadSet [.type "ValueError",.type "Exception",.type "BaseException",.type "object"] "ValueError.__new__" = true)
  (q_NS:excIn K C_NoSuch [.type "ValueError",.type "Exception",.type "BaseException",.type "object"] "ValueError.__new__" = true)
  (q_TM:excIn K C_TooMany [.type "ValueError",.type "Exception",.type "BaseException",.type "object"] "ValueError.__new__" = true)
  : ∃ fd:FuncData,(∀ (s:Shared) (v:Value),BindsTo s fd ⟨[v],[]⟩ [("script",v)])/\∀ base:Heap,K.In base->base.Ns mainGlobals mg->cR l.prog w K mg base dE 10 fa fd ["script"] (rB K):=by
 have e:=hfa.symm.trans (mg_of X G a37)
 cases e
 have F37:=am2 (st:=aX 48) l37 c37 k37
 have m37:=mg_of X G a37
 have B:Bt mg:=⟨mg_none_of X G z_len,mg_none_of X G z_range,mg_none_of X G z_tuple,mg_none_of X G z_list,mg_none_of X G z_sorted,mg_none_of X G z_all,mg_none_of X G z_any,mg_none_of X G z_zip,mg_none_of X G z_min,mg_none_of X G z_max,mg_none_of X G z_sum,mg_none_of X G z_isinstance,mg_none_of X G z_int,mg_none_of X G z_bool,mg_none_of X G z_enumerate⟩
 have rv:=mg_none_of X G z_reversed
 have m_MOST_ORDERED:=mg_of X G z_MOST_ORDEREDx
 refine⟨fnOf "law" "law" (iA (aX 48)) (dN (aX 48)) (aQ (aX 48)) .none kV37 dc37 pm37 an37 cd37 ct37,fun s v=>.of_eq rfl,fun base KB _=>?_⟩
 have XK_HearthError:oM K C_HearthError:=⟨y1_HE,y2_HE,y3_HE,y4_HE,y5_HE,y_fg,y_ft,y6_HE,y7_HE⟩
 have XK_BadSet:oM K C_BadSet:=⟨y1_BS,y2_BS,y3_BS,y4_BS,y5_BS,y_fg,y_ft,y6_BS,y7_BS⟩
 have XK_BadOrder:oM K C_BadOrder:=⟨y1_BO,y2_BO,y3_BO,y4_BO,y5_BO,y_fg,y_ft,y6_BO,y7_BO⟩
 have XK_NoSuch:oM K C_NoSuch:=⟨y1_NS,y2_NS,y3_NS,y4_NS,y5_NS,y_fg,y_ft,y6_NS,y7_NS⟩
 have XK_TooMany:oM K C_TooMany:=⟨y1_TM,y2_TM,y3_TM,y4_TM,y5_TM,y_fg,y_ft,y6_TM,y7_TM⟩
 have x_BadOrder:Xc K mg base "BadOrder":=⟨C_BadOrder,_,_,_,_,rJ KB (mg_of X G aX_BO) q_BO,bg8,aX_BO⟩
 have x_BadSet:Xc K mg base "BadSet":=⟨C_BadSet,_,_,_,_,rJ KB (mg_of X G aX_BS) q_BS,bg8,aX_BS⟩
 have x_NoSuch:Xc K mg base "NoSuch":=⟨C_NoSuch,_,_,_,_,rJ KB (mg_of X G aX_NS) q_NS,bg8,aX_NS⟩
 have x_TooMany:Xc K mg base "TooMany":=⟨C_TooMany,_,_,_,_,rJ KB (mg_of X G aX_TM) q_TM,bg8,aX_TM⟩
 have D0:=aB7 (aO2 (P:=l.prog) (w:=w) (base:=base) B h0.F) (h0.F.binds (ps:=["things"]) fun _ _ _ _ _ _ us hl=>by obtain ⟨_,rfl⟩:=oN hl; rfl) h0.F.kp (mg_of X G h0.a)
 have D1:=aO5 (P:=l.prog) (w:=w) (base:=base) B (h1.M X G)
 have D2:=aB9 (aO3 (P:=l.prog) (w:=w) (mg:=mg) (base:=base) h2.F) (h2.F.binds (ps:=["web"]) fun _ _ _ _ _ _ us hl=>by obtain ⟨_,rfl⟩:=oN hl; rfl) h2.F.kp (mg_of X G h2.a)
 have D3:=aO6 (P:=l.prog) (w:=w) (base:=base) B (h3.M X G)
 have D4:=aO7 (P:=l.prog) (w:=w) (base:=base) B (h4.M X G)
 have D5:=aO9 (P:=l.prog) (w:=w) (base:=base) B (h5.M X G)
 have D6:=aP1 (P:=l.prog) (w:=w) (base:=base) B (h6.M X G)
 have D7:=aP3 (P:=l.prog) (w:=w) (base:=base) B (h7.M X G)
 have D8:=aP5 (P:=l.prog) (w:=w) (base:=base) B (h8.M X G)
 have D9:=aP7 (P:=l.prog) (w:=w) (base:=base) B (h9.M X G)
 have D10:=aP8 (P:=l.prog) (w:=w) (base:=base) B (h10.M X G)
 have D11:=aQ0 (P:=l.prog) (w:=w) (base:=base) B (h11.M X G)
 have D12:=aQ1 (P:=l.prog) (w:=w) (base:=base) B (h12.M X G)
 have D13:=aQ3 (P:=l.prog) (w:=w) (base:=base) B (h13.M X G)
 have D14:=aQ4 (P:=l.prog) (w:=w) (base:=base) B (h14.M X G)
 have D15:=aQ6 (P:=l.prog) (w:=w) (base:=base) B (h15.M X G) D1
 have D16:=aQ8 (P:=l.prog) (w:=w) (base:=base) B (h16.M X G) D1
 have D17:=aR0 (P:=l.prog) (w:=w) (base:=base) B (h17.M X G) D5
 have D18:=aR1 (P:=l.prog) (w:=w) (base:=base) B (h18.M X G) D12 D10 D11
 have D19:=aR3 (P:=l.prog) (w:=w) (base:=base) B (h19.M X G) D10
 have D20:=aR5 (P:=l.prog) (w:=w) (base:=base) B (h20.M X G) D13
 have D21:=aR7 (P:=l.prog) (w:=w) (base:=base) B (h21.M X G) D0 D15
 have D22:=aR9 (P:=l.prog) (w:=w) (base:=base) B (h22.M X G) D17 D1
 have D23:=aS0 (P:=l.prog) (w:=w) (base:=base) B (h23.M X G) D17
 have D24:=aS1 (P:=l.prog) (w:=w) (base:=base) B (h24.M X G) D20 D10
 have D25:=aS3 (P:=l.prog) (w:=w) (base:=base) B (h25.M X G) D21 x_BadSet
 have D26:=aS4 (P:=l.prog) (w:=w) (base:=base) B (h26.M X G) D4 D2 D22 D25
 have D27:=aS5 (P:=l.prog) (w:=w) (base:=base) B (h27.M X G) D4 D2 D23 D25 D16 x_BadOrder
 have D28:=aS6 (P:=l.prog) (w:=w) (base:=base) B (h28.M X G) D4 D2 D25 D15 D17
 have D29:=aS7 (P:=l.prog) (w:=w) (base:=base) B (h29.M X G) D26
 have D30:=aS9 (P:=l.prog) (w:=w) (base:=base) B (h30.M X G) D27 D1
 have D31:=aT1 (P:=l.prog) (w:=w) (base:=base) B (h31.M X G) D29
 have D32:=aT2 (P:=l.prog) (w:=w) (base:=base) B (h32.M X G) D2 D30 D3 D4 D17 D6 D7 rv x_TooMany m_MOST_ORDERED
 have D33:=aT4 (P:=l.prog) (w:=w) (base:=base) B (h33.M X G) D28 D31
 have D34:=aT6 (P:=l.prog) (w:=w) (base:=base) B (h34.M X G) D6 D32
 have D35:=aT7 (P:=l.prog) (w:=w) (base:=base) B (h35.M X G) D32 D7 D6 x_NoSuch
 have D36:=aT8 (P:=l.prog) (w:=w) (base:=base) B (h36.M X G) D32 D33 D7 x_BadOrder
 exact aC8 (aT9 B F37 D8 D18 D19 D34 D35 D36 D14 D24 D30 D9)
theorem aU1 {l:OpenLaw}{q:Program}{loose:List Str}{XP:(Str->Option Value)->Heap->Prop}{YP:World->Heap->Prop}{d:DefRec}{K:Params->Frag} (hn:l.most=some 63) (hdf:d.params.defaults = [])
  (hY:∀ (w:World) (h:Heap),YP w h->(K w.params).In h)
  (F:∀ (w:World) (mg:Str->Option Value) (fa:Addr) (h:Heap),(K w.params).In h->h.Ns mainGlobals mg->mg d.name=some (.ref fa)->
   ∃ fd:FuncData,(∀ (s:Shared) (u:Value),BindsTo s fd ⟨[u],[]⟩ [("script",u)])/\∀ base:Heap,(K w.params).In base->base.Ns mainGlobals mg->cR l.prog w (K w.params) mg base dE 10 fa fd ["script"] (rB (K w.params))) :
  WalkO q loose XP YP l.row.toRowW d [] (fun f vs=>PySem.call f vs):=
 L2.am1 (n:=63) (k:=10) (x:="script") (CX:=fun _=>dE) (sp:=fun w=>rB (K w.params)) hn (by decide) hdf ⟨rfl,by decide,by decide⟩ hY F (fun _ _ a ns hl hO hS=>⟨a,ns,rfl,aC9 hO hS,hl,fun _=>rfl⟩) fun _ _ _ _ _ z=>z
end K_k44
open PySem PySem.W PyProof.Rows
theorem PySem.W.Fast.te13052408679150730464 : True := trivial
theorem PySem.W.Fast.te16555476440528808052 : True := trivial
theorem PySem.W.Fast.te5369427470323729400 : True := trivial
set_option maxRecDepth 100000 in
set_option maxHeartbeats 0 in
theorem PySem.Challenge.cw_kindleweb_k44_whole_orders_in_order_holds : PySem.Challenge.rw_kindleweb_k44_whole_orders_in_order.Holds := by
 w_on; o_law; k_head; (case hw => w_witness2)
 k_fill
 refine K_k44.aU1 (l := PySem.Challenge.rw_kindleweb_k44_whole_orders_in_order) rfl rfl (fun w h Y => PySem.W.kIn_of Y) ?F
 case F =>
  intro w mg fa h KX G hmg
  refine' K_k44.aU0 KX G hmg ?h0 ?h1 ?h2 ?h3 ?h4 ?h5 ?h6 ?h7 ?h8 ?h9 ?h10 ?h11 ?h12 ?h13 ?h14 ?h15 ?h16 ?h17 ?h18 ?h19 ?h20 ?h21 ?h22 ?h23 ?h24 ?h25 ?h26 ?h27 ?h28 ?h29 ?h30 ?h31 ?h32 ?h33 ?h34 ?h35 ?h36 ?a37 ?l37 ?c37 ?k37 ?z_len ?z_range ?z_tuple ?z_list ?z_sorted ?z_all ?z_any ?z_zip ?z_min ?z_max ?z_sum ?z_isinstance ?z_int ?z_bool ?z_enumerate ?z_reversed ?z_MOST_ORDEREDx ?aX_HE ?aX_BS ?aX_BO ?aX_NS ?aX_TM ?zX_BW ?zX_BP ?zX_BB ?zX_BD ?zX_NW ?zX_NP ?zX_NT ?zX_OR ?y_fg ?y_ft ?z_VE ?y1_HE ?y2_HE ?y3_HE ?y4_HE ?y5_HE ?y6_HE ?y7_HE ?y1_BS ?y2_BS ?y3_BS ?y4_BS ?y5_BS ?y6_BS ?y7_BS ?y1_BO ?y2_BO ?y3_BO ?y4_BO ?y5_BO ?y6_BO ?y7_BO ?y1_NS ?y2_NS ?y3_NS ?y4_NS ?y5_NS ?y6_NS ?y7_NS ?y1_TM ?y2_TM ?y3_TM ?y4_TM ?y5_TM ?y6_TM ?y7_TM ?q_BO ?q_BS ?q_NS ?q_TM
  (case h0 | h1 | h2 | h3 | h4 | h5 | h6 | h7 | h8 | h9 | h10 | h11 | h12 | h13 | h14 | h15 | h16 | h17 | h18 | h19 | h20 | h21 | h22 | h23 | h24 | h25 | h26 | h27 | h28 | h29 | h30 | h31 | h32 | h33 | h34 | h35 | h36 => exact ⟨by k_is, ⟨⟨_, _, _, _, _, _, _, _, _, rfl, by k_is, by k_is⟩, by k_is⟩⟩)
  (case a37|l37|c37|k37|z_len|z_range|z_tuple|z_list|z_sorted|z_all|z_any|z_zip|z_min|z_max|z_sum|z_isinstance|z_int|z_bool|z_enumerate|z_reversed|z_MOST_ORDEREDx|aX_HE|aX_BS|aX_BO|aX_NS|aX_TM|zX_BW|zX_BP|zX_BB|zX_BD|zX_NW|zX_NP|zX_NT|zX_OR|y_fg|y_ft|z_VE|y1_HE|y2_HE|y3_HE|y4_HE|y5_HE|y6_HE|y7_HE|y1_BS|y2_BS|y3_BS|y4_BS|y5_BS|y6_BS|y7_BS|y1_BO|y2_BO|y3_BO|y4_BO|y5_BO|y6_BO|y7_BO|y1_NS|y2_NS|y3_NS|y4_NS|y5_NS|y6_NS|y7_NS|y1_TM|y2_TM|y3_TM|y4_TM|y5_TM|y6_TM|y7_TM => k_is)
  (case q_BO|q_BS|q_NS|q_TM => k_exc)


