import PyProof.Rows.All
import Wide.All
import OpenK.AllK
import Wide.FinOn
import Lean
import PyProof.EqAt
import PyProof.EqKinds
import PyProof.TupleCall
import PyProof.NeKinds
import PyProof.Draws
import PyProof.ZipIter
import PyProof.DictUpdate
import PyProof.AutoSeq1
import PyProof.ListRange
import PyProof.ListMulRoad
import PyProof.FactsAll.tuple_2
import PyProof.Rows.SortShell
import PyProof.EnumFor
import PyProof.EnumMake
import PyProof.EnumStmt
import PyProof.Rows.SortWalk
import KE.KDictList
import PyProof.SumAny
import PyProof.ConsumeWalk
import PyProof.WalksMore
import PyProof.Rows.TupAssign
import PyProof.ExcArgsOwn
import PySem.Challenge.RW_kindleweb_k76_whole_links_left
set_option Elab.async false
set_option linter.all false
set_option maxRecDepth 100000
set_option maxHeartbeats 4000000
section
open PySem PySem.Spec PyProof.Rows
def bg5:=@wpAny_bind
def bg7:=@Heap.get?_push_of_some
def bg8:=@wpAny_pure
def bg9:=@List.getElem?_eq_getElem
def bh0:=@List.size_toArray
def bh1:=@Nat.le_refl
def bh2:=@List.length_map
def bh3:=@decide_eq_false
def bh4:=@List.getD_eq_getElem?_getD
def bh5:=@List.mem_cons
def bh6:=@List.mem_singleton
def bh7:=@List.getElem?_eq_some_iff
def bh8:=@Heap.get?_push_size
def bh9:=@Heap.lt_size
def bi0:=@List.mem_cons_self
def bi1:=@wpS_bind
def bi2:=@decide_eq_true
def bi3:=@List.mem_cons_of_mem
def bi4:=@List.getElem?_map
def bi5:=@Nat.lt_of_lt_of_le
def bi6:=@List.length_append
def bi7:=@Bool.false_ne_true
def bi8:=@List.not_mem_nil
def bj0:=@wpS_pure
def bj1:=@Bool.false_eq_true
def bj2:=@List.append_assoc
def bj3:=@Array.length_toList
def bj4:=@List.map_append
def bj5:=@Nat.ne_of_lt
def bj6:=@decide_eq_true_eq
def bj7:=@Option.some.inj
def bj8:=@List.mem_filter
def bj9:=@List.mem_append
def bk2:=@List.length_cons
def bk3:=@List.take_of_length_le
def bk5:=@Bool.and_eq_true
def bk6:=@List.append_nil
def bk7:=@wpAny_newObj_type
def bk8:=@List.take_append_drop
def bk9:=@Nat.le_trans
def bl0:=@wpAny_call_entry
def bl1:=@Array.getElem?_eq_getElem
def bl3:=@wpAny_callSpecial?_slot
def bl4:=@List.mem_map
def bl5:=@List.mem_append_right
def bl6:=@Nat.zero_le
def bl7:=@List.pairwise_map
def bl8:=@List.getElem?_set_ne
def bl9:=@List.pairwise_singleton
def bm1:=@Nat.lt_irrefl
def bm3:=@List.mem_of_getElem?
def bm4:=@List.getElem?_cons_succ
def bm5:=@List.pairwise_iff_getElem
def bm6:=@Nat.lt_or_ge
def bm7:=@Array.getElem?_toList
def bm8:=@List.take_add_one
def bm9:=@Heap.SameBut.update
def bn1:=@List.pairwise_append
def bn2:=@if_false
def bn3:=@Array.getElem_mem
def bn4:=@List.map_cons
def bn5:=@List.getElem?_append_left
def bn6:=@PySem.mem_of_lookup
def bn7:=@or_false
def bn9:=@Nat.le_of_lt
def bo0:=@Nat.ne_of_gt
def bo2:=@List.take_length
def bo3:=@List.length_range
def bo4:=@Heap.get?_update_self
def bo5:=@wpAny_field
def bo8:=@List.lookup_cons
def bp0:=@wpAny_setField_rec
def bp1:=@List.length_singleton
def bp2:=@List.getElem_of_mem
def bp3:=@Array.toList_append
def bp5:=@List.getElem?_append_right
def bp6:=@List.getElem_mem
def bp7:=@List.all_eq_true
def bq0:=@wpS_forRange
def bq1:=@PySem.W.kia_one
def bq2:=@List.find?_cons
def bq3:=@Heap.size_push
def bq4:=@wpAny_holding
def bq5:=@beq_self_eq_true
def bq6:=@List.replicate_succ
def bq7:=@wpAny_mono
def bq8:=@PyProof.Rows.callWith_type1
def bq9:=@of_decide_eq_true
def br0:=@Bool.eq_iff_iff
def br1:=@List.getElem?_set_self
def br2:=@List.length_take
def br3:=@List.length_drop
def br5:=@List.drop_eq_getElem_cons
def br6:=@List.filter_eq_self
def br7:=@wpAny_truthy_bool
def br8:=@Int.toNat_natCast
def br9:=@List.flatten_cons
def bs0:=@Bool.eq_false_iff
def bs1:=@List.nodup_append
def bs2:=@List.length_replicate
def bs3:=@List.length_filter_le
def bs4:=@List.length_set
def bs5:=@List.zip_cons_cons
def bs6:=@of_decide_eq_false
def bs8:=@List.mem_append_left
def bs9:=@decide_eq_false_iff_not
def bt0:=@Around.under_plainId
def bt1:=@Array.getD_eq_getD_getElem?
def bt2:=@List.all_cons
def bt3:=@List.mem_range
def bt5:=@wpAny_setField
def bt6:=@Array.getElem?_eq_none
def bt7:=@List.getElem?_range
def bt8:=@PyProof.Rows.slot_tuple_getitem
def bt9:=@Classical.byContradiction
def bu0:=@wpAny_pyIter_tuple
def bu1:=@wpAny_rule
def bu2:=@Nat.le_add_right
def bu3:=@Int.emod_lt_of_pos
def bu6:=@wpAny_attempt
def bu8:=@List.Perm.refl
def bu9:=@List.eq_nil_of_length_eq_zero
def bv0:=@Nat.lt_succ_of_lt
def bv2:=@codeAny_builtin
def bv3:=@Int.emod_nonneg
def bv5:=@Heap.get?_update_other
def bv6:=@List.map_map
def bv7:=@List.pairwise_lt_range
def bv9:=@List.any_cons
def bw0:=@Int.le_refl
def bw1:=@Nat.le_of_not_lt
def bw2:=@wpAny_isInstance
def bw3:=@List.filter_cons
def bw4:=@Nat.lt_of_le_of_lt
def bw5:=@wpAny_seqItems
def bw6:=@Nat.eq_or_lt_of_le
def bw9:=@wpAny_passesOwn
def bx0:=@Nat.not_lt_zero
def bx1:=@List.Pairwise.nil
def bx2:=@wpS_mono
def bx3:=@wpAny_setState_of
def bx5:=@True.intro
def bx8:=@Bool.false_and
def by0:=@Bool.and_false
def by2:=@List.drop_take
def by5:=@Nat.le_succ
end
namespace L2
open PySem PySem.Spec PyProof.Rows
abbrev a9:=Sum Int Str
def kX:a9->Value->Bool
 | .inl k,v=>Value.isInt k v
 | .inr x,v=>Value.isStrOf x v
def af5 (w:World):a9->Int
 | .inl k=>hashInt k
 | .inr x=>hashStr w x
theorem gM:∀ {k:a9}{v:Value},kX k v=true->(∃ i t,k=Sum.inl i/\v=Value.int i t) ∨ (∃ x t,k=Sum.inr x/\v=Value.str x t)
 | .inl i,v,h=>by
  obtain ⟨t,e⟩:=Value.isInt_shape (k:=i) (v:=v) h
  exact .inl ⟨i,t,rfl,e⟩
 | .inr x,v,h=>by
  obtain ⟨t,e⟩:=Value.isStrOf_shape (x:=x) (v:=v) h
  exact .inr ⟨x,t,rfl,e⟩
theorem af6 (i:Int) (t:Tok):kX (.inl i) (.int i t)=true:=by simp [kX,Value.isInt]
theorem af7 (x:Str) (t:Tok):kX (.inr x) (.str x t)=true:=by simp [kX,Value.isStrOf]
theorem af8 (a b:Int):decide ((Sum.inl a:a9)=Sum.inl b)=(a == b):=by
 by_cases e:a=b
 ·subst e; simp
 ·have h : ¬ (Sum.inl a:a9)=Sum.inl b:=fun q=>e (Sum.inl.inj q)
  rw [bh3 h]
  exact (beq_eq_false_iff_ne.mpr e).symm
theorem af9 (a b:Str):decide ((Sum.inr a:a9)=Sum.inr b)=decide (a=b):=by
 by_cases e:a=b
 ·subst e; simp
 ·have h : ¬ (Sum.inr a:a9)=Sum.inr b:=fun q=>e (Sum.inr.inj q)
  rw [bh3 h,bh3 e]
theorem ag0 (a:Int) (b:Str):decide ((Sum.inl a:a9)=Sum.inr b)=false:=bh3 (fun q=>nomatch q)
theorem ag1 (a:Str) (b:Int):decide ((Sum.inr a:a9)=Sum.inl b)=false:=bh3 (fun q=>nomatch q)
def dL (prog:Program) (w:World):PySem.KeyKind prog w a9 where
 is:=kX
 hash:=af5 w
 inj:=fun v a b ha hb=>by
  rcases gM ha with ⟨i,t,rfl,rfl⟩ | ⟨x,t,rfl,rfl⟩
  ·rcases gM hb with ⟨j,u,rfl,e⟩ | ⟨y,u,rfl,e⟩
   ·injection e with e1 _; rw [e1]
   ·exact nomatch e
  ·rcases gM hb with ⟨j,u,rfl,e⟩ | ⟨y,u,rfl,e⟩
   ·exact nomatch e
   ·injection e with e1 _; rw [e1]
 byValue:=fun k v h=>by
  rcases gM h with ⟨i,t,rfl,rfl⟩ | ⟨x,t,rfl,rfl⟩ <;> rfl
 pyHash:=fun hv h=>by
  rcases gM hv with ⟨i,t,rfl,rfl⟩ | ⟨x,t,rfl,rfl⟩
  ·exact wpAny_pyHash_int h
  ·exact wpAny_pyHash_str h
 eqBool:=fun hu hv h=>by
  rcases gM hu with ⟨i,t,rfl,rfl⟩ | ⟨x,t,rfl,rfl⟩
  ·rcases gM hv with ⟨j,u,rfl,rfl⟩ | ⟨y,u,rfl,rfl⟩
   ·rw [af8] at h; exact wpAny_eqBool_int h
   ·rw [ag0] at h; exact SeqAt.EqAt.int_str i t y u _ _ _ _ h
  ·rcases gM hv with ⟨j,u,rfl,rfl⟩ | ⟨y,u,rfl,rfl⟩
   ·rw [ag1] at h; exact SeqAt.EqAt.str_int x t j u _ _ _ _ h
   ·rw [af9] at h; exact wpAny_eqBool_str h
 «strs»:=fun k x t v h=>by
  rcases gM h with ⟨i,u,rfl,e⟩ | ⟨y,u,rfl,e⟩
  ·exact nomatch e
  ·injection e with e1 _
   subst e1
   cases v <;> rfl
theorem ag2 (prog:Program) (w:World) (i:Int) (t:Tok):(dL prog w).is (.inl i) (.int i t)=true:=af6 i t
theorem ag3 (prog:Program) (w:World) (x:Str) (t:Tok):(dL prog w).is (.inr x) (.str x t)=true:=af7 x t
inductive V where
 | non | bl (b:Bool) | int (i:Int) | str (x:Str) | byt (b:Array UInt8) | flt (b:UInt64) | ref (a:Addr) | ty (n:String)
 deriving DecidableEq
def aQ:V->Value->Prop
 | .non,u=>u=Value.none
 | .bl b,u=>u=Value.bool b
 | .int i,u=>∃ t,u=Value.int i t
 | .str x,u=>∃ t,u=Value.str x t
 | .byt b,u=>∃ t,u=Value.bytes b t
 | .flt b,u=>∃ t,u=Value.float b t
 | .ref a,u=>u=Value.ref a
 | .ty n,u=>u=Value.type n
abbrev aH:List V->List Value->Prop:=Paired aQ
theorem aH.length {xs:List V}{us:List Value} (r:aH xs us):xs.length=us.length:=Paired.length r
theorem aH.get:∀ {xs:List V}{us:List Value}{i:Nat}{x:V},aH xs us->xs[i]? = some x->∃ u,us[i]? = some u/\aQ x u
 | _,_,_,_,.nil,e=>by simp at e
 | _,_,0,_,.cons r _,e=>by simp at e; subst e; exact⟨_,rfl,r⟩
 | _,_,i+1,x,.cons _ t,e=>by
  obtain ⟨u,h1,h2⟩:=aH.get (i:=i) (x:=x) t (by simpa using e)
  exact⟨u,by simpa using h1,h2⟩
theorem aH.append:∀ {xs ys:List V}{us ws:List Value},aH xs us->aH ys ws->aH (xs ++ ys) (us ++ ws)
 | _,_,_,_,.nil,s=>s
 | _,_,_,_,.cons r t,s=>.cons r (aH.append t s)
theorem aH.take:∀ {xs:List V}{us:List Value} (n:Nat),aH xs us->aH (xs.take n) (us.take n)
 | _,_,0,_=>.nil
 | _,_,_+1,.nil=>.nil
 | _,_,n+1,.cons r t=>.cons r (aH.take n t)
theorem aH.drop:∀ {xs:List V}{us:List Value} (n:Nat),aH xs us->aH (xs.drop n) (us.drop n)
 | _,_,0,r=>r
 | _,_,_+1,.nil=>.nil
 | _,_,n+1,.cons _ t=>aH.drop n t
def jU:Option V->Option Value->Prop
 | some v,some u=>aQ v u
 | none,none=>True
 | _,_=>False
def KV {κ:Type}:List (κ × V)->List (κ × Value)->Prop:=Paired fun (p:κ × V) (q:κ × Value)=>p.1=q.1/\aQ p.2 q.2
def kV:a9->V
 | .inl i=>.int i
 | .inr x=>.str x
inductive HO where
 | lst (xs:List V)
 | tup (xs:List V)
 | dK (kvs:List (a9 × V)) | dT (kvs:List (List a9 × V))
 | set (S:Int->Bool) (n:Nat)
 | ins (C dx:Addr) (fs:List (Str × V))
 | own (x:Addr)
 | xd (fs:List (Str × V))
 | met (f x:Addr)
 | rng (lo hi:Int)
 | frz (o:Obj) (u:HO)
 | tbl (ps:Array Value)
 | ext (φ:Heap->Prop)
abbrev Hp:=Addr->Option HO
def upd (H:Hp) (a:Addr) (o:HO):Hp:=fun b=>if b=a then some o else H b
theorem b8 {H:Hp}{a:Addr}{o:HO}:upd H a o a=some o:=by unfold upd; rw [if_pos rfl]
theorem aM {H:Hp}{a b:Addr}{o:HO} (h:b ≠ a):upd H a o b=H b:=by unfold upd; rw [if_neg h]
theorem xW {H:Hp}{a b:Addr}{o u:HO} (h:H a=some o) (h':H b=some u) (d:o ≠ u):a ≠ b:=by
 intro e; subst e; rw [h] at h'; exact d (bj7 h')
theorem bX {H:Hp}{a b:Addr}{o:HO} (h:H a=some o) (h':H b=none):a ≠ b:=by
 intro e; subst e; rw [h] at h'; cases h'
section
variable (P : Program) (w : World)
def bA (H:Hp) (h:Heap) (a:Addr):HO->Prop
 | .lst xs=>xs.length<=sizeLine/\∃ (its:List Value) (n:Nat),aH xs its/\h.get? a=some { cls:=.type "list",data:=.seq its.toArray n }
 | .tup xs=>xs.length<=sizeLine/\∃ its:List Value,aH xs its/\IsTup h a its.toArray
 | .dK kvs=>kvs.length<=sizeLine/\(a == sysModules)=false/\∃ vs,KV kvs vs/\h.DictOf (dL P w) a vs
 | .dT kvs=>kvs.length<=sizeLine/\(a == sysModules)=false/\∃ xs:List (List a9 × Addr × Value),
   Paired (fun (p:List a9 × V) (q:List a9 × Addr × Value)=>p.1=q.1/\H q.2.1=some (.tup (p.1.map kV))/\aQ p.2 q.2.2) kvs xs/\
   ∃ o es ep,h.get? a=some o/\o.ExactDict/\o.data = .dict es ep/\es.toList=xs.map (entryOfKey (tupleKind (dL P w)))/\(xs.map (·.1)).Nodup
 | .set S n=>h.SetOf (intKind P w) a S n
 | .ins C dx fs=>H dx=some (.own a)/\fs.length<=1000/\dx ≠ a/\h.get? a=some (PySem.W.instObj C dx)/\
   ∃ mA,h.Ns1 dx mA/\(∀ f,jU (fs.lookup f) (mA f))/\PySem.Within mA (fs.map (·.1))
 | .own _=>∃ o,h.get? a=some o
 | .xd fs=>∃ mA,h.Ns1 a mA/\∀ f,jU (fs.lookup f) (mA f)
 | .rng lo hi=>∃ t u v,h.get? a=some { cls:=.type "range",data:=.fields #[.int lo t,.int hi u,.int 1 v] }
 | .frz o u=>h.get? a=some o/\bA H h a u
 | .tbl ps=>h.get? a=some { cls:=.none,data:=.fields ps }
 | .met f x=>h.get? a=some (PySem.W.methodObj (.ref f) (.ref x))
 | .ext φ=>φ h/\(∃ o,h.get? a=some o)/\∀ h1 h2:Heap,φ h1->(∀ o,h1.get? a=some o->h2.get? a=some o)->φ h2
def bO (H:Hp) (h:Heap):Prop:=∀ a o,H a=some o->bA P w H h a o
end
section
variable {P : Program} {w : World} {H H' : Hp} {h h' : Heap} {a : Addr} {o : HO}
theorem bA.lt (x:bA P w H h a o):a < h.objs.size:=by
 cases o with
 | lst xs=>obtain ⟨_,_,_,_,e⟩:=x; exact bh9 e
 | tup xs=>obtain ⟨_,_,_,p⟩:=x; exact p.lt
 | dK kvs=>obtain ⟨_,_,_,_,o,_,_,e,_⟩:=x; exact bh9 e
 | dT kvs=>obtain ⟨_,_,_,_,o,_,_,e,_⟩:=x; exact bh9 e
 | set S n=>obtain ⟨o,_,_,_,e,_⟩:=x; exact bh9 e
 | ins C dx fs=>obtain ⟨_,_,_,e,_⟩:=x; exact bh9 e
 | own y=>obtain ⟨_,e⟩:=x; exact bh9 e
 | xd fs=>obtain ⟨_,⟨_,_,_,e,_⟩,_⟩:=x; exact bh9 e
 | rng lo hi=>obtain ⟨_,_,_,e⟩:=x; exact bh9 e
 | frz ob u=>obtain ⟨e,_⟩:=x; exact bh9 e
 | tbl ps=>exact bh9 (show h.get? a=some _ from x)
 | met f y=>exact bh9 (show h.get? a=some _ from x)
 | ext φ=>obtain ⟨_,⟨_,e⟩,_⟩:=x; exact bh9 e
theorem Paired.mapP {α β:Type}{F G:α->β->Prop}:∀ {l₁:List α}{l₂:List β},Paired F l₁ l₂->(∀ a b,F a b->G a b)->Paired G l₁ l₂
 | _,_,.nil,_=>.nil
 | _,_,.cons r t,f=>.cons (f _ _ r) (Paired.mapP t f)
theorem bA.stay (x:bA P w H h a o) (k:∀ b u,(b=a ∨ H b=some (.own a))->h.get? b=some u->h'.get? b=some u)
  (ho:∀ b,H b=some (.own a)->H' b=some (.own a)) (ht:∀ b xs,H b=some (.tup xs)->H' b=some (.tup xs)):bA P w H' h' a o:=by
 induction o with
 | lst xs=>obtain ⟨z,its,n,r,e⟩:=x; exact⟨z,its,n,r,k _ _ (.inl rfl) e⟩
 | tup xs=>obtain ⟨z,its,r,ob,e,c⟩:=x; exact⟨z,its,r,ob,k _ _ (.inl rfl) e,c⟩
 | dK kvs=>obtain ⟨z,y,vs,r,ob,es,ep,e,c⟩:=x; exact⟨z,y,vs,r,ob,es,ep,k _ _ (.inl rfl) e,c⟩
 | dT kvs=>
  obtain ⟨z,y,xs,r,ob,es,ep,e,c⟩:=x
  exact⟨z,y,xs,Paired.mapP r fun p q z=>⟨z.1,ht _ _ z.2.1,z.2.2⟩,ob,es,ep,k _ _ (.inl rfl) e,c⟩
 | set S n=>obtain ⟨ob,es,ep,t,e,c⟩:=x; exact⟨ob,es,ep,t,k _ _ (.inl rfl) e,c⟩
 | ins C dx fs=>
  obtain ⟨d,z,ne,e,mA,⟨od,es,ep,e2,c⟩,r⟩:=x
  exact⟨ho _ d,z,ne,k _ _ (.inl rfl) e,mA,⟨od,es,ep,k _ _ (.inr d) e2,c⟩,r⟩
 | own y=>obtain ⟨ob,e⟩:=x; exact⟨ob,k _ _ (.inl rfl) e⟩
 | xd fs=>obtain ⟨mA,⟨od,es,ep,e,c⟩,r⟩:=x; exact⟨mA,⟨od,es,ep,k _ _ (.inl rfl) e,c⟩,r⟩
 | rng lo hi=>obtain ⟨t,u,v,e⟩:=x; exact⟨t,u,v,k _ _ (.inl rfl) e⟩
 | frz ob u ih=>obtain ⟨e,q⟩:=x; exact⟨k _ _ (.inl rfl) e,ih q⟩
 | tbl ps=>
  have e:h.get? a=some { cls:=.none,data:=.fields ps }:=x
  show h'.get? a=some { cls:=.none,data:=.fields ps }
  exact k a _ (.inl rfl) e
 | met f y=>
  have e:h.get? a=some (PySem.W.methodObj (.ref f) (.ref y)):=x
  show h'.get? a=some (PySem.W.methodObj (.ref f) (.ref y))
  exact k a _ (.inl rfl) e
 | ext φ=>obtain ⟨p,⟨o,e⟩,st⟩:=x; exact⟨st _ _ p fun o q=>k _ _ (.inl rfl) q,⟨o,k _ _ (.inl rfl) e⟩,st⟩
theorem bO.lt (x:bO P w H h) (e:H a=some o):a < h.objs.size:=(x a o e).lt
theorem bO.fresh (x:bO P w H h) (e:h.objs.size<=a):H a=none:=by
 cases q:H a with
 | none=>rfl
 | some u=>exact absurd (bi5 (x.lt q) e) (bm1 _)
theorem bO.kept (x:bO P w H h) (k:∀ b u,h.get? b=some u->h'.get? b=some u):bO P w H h':=fun a o e=>
 (x a o e).stay (fun b u _ q=>k b u q) (fun _ q=>q) fun _ _ q=>q
theorem bO.laid (x:bO P w H h) (k:∀ b u,h.get? b=some u->h'.get? b=some u) (hp:h.objs.size<=a) (new:bA P w (upd H a o) h' a o):bO P w (upd H a o) h':=fun b u e=>by
 have hn:=x.fresh hp
 by_cases hb:b=a
 ·subst hb; rw [b8] at e; cases e; exact new
 ·rw [aM hb] at e
  exact (x b u e).stay (fun c v _ q=>k c v q) (fun c q=>by rw [aM (bX q hn)]; exact q) fun c xs q=>by rw [aM (bX q hn)]; exact q
end
def Rd (H:Hp) (a:Addr) (u:HO):Prop:=H a=some u ∨ ∃ o,H a=some (.frz o u)
theorem Rd.ok {P:Program}{w:World}{H:Hp}{h:Heap}{a:Addr}{u:HO} (r:Rd H a u) (x:bO P w H h):bA P w H h a u:=by
 rcases r with r | ⟨o,r⟩
 ·exact x a u r
 ·obtain ⟨_,q⟩:=x a _ r
  exact q
def mI:Option HO->Prop
 | some (.lst _)=>True
 | some (.dK _)=>True
 | some (.dT _)=>True
 | some (.set _ _)=>True
 | some (.ins _ _ _)=>True
 | some (.ext _)=>True
 | _=>False
section
variable {P : Program} {w : World} {H : Hp} {h h' : Heap} {x e : Addr} {o' : HO}
theorem bO.write (ok:bO P w H h) (mu:mI (H x)) (he:e=x ∨ H e=some (.own x)) (k:∀ b u,b ≠ e->h.get? b=some u->h'.get? b=some u) (heo:∃ u,h'.get? e=some u)
  (new:bA P w (upd H x o') h' x o'):bO P w (upd H x o') h':=fun b u q=>by
 have nown:∀ c y,H c=some (.own y)->c ≠ x:=fun c y r z=>by subst z; rw [r] at mu; exact mu
 have ntup:∀ c xs,H c=some (.tup xs)->c ≠ x:=fun c xs r z=>by subst z; rw [r] at mu; exact mu
 by_cases hb:b=x
 ·subst hb; rw [b8] at q; cases q; exact new
 ·rw [aM hb] at q
  by_cases hbe:b=e
  ·have q':H b=some (.own x):=by
    rcases he with z | z
    ·exact absurd (hbe.trans z) hb
    ·rw [hbe]; exact z
   rw [q] at q'; cases q'
   obtain ⟨v,hv⟩:=heo
   exact⟨v,by rw [hbe]; exact hv⟩
  ·refine (ok b u q).stay (fun c v hc r=>k c v ?_ r) (fun c r=>by rw [aM (nown c b r)]; exact r) fun c xs r=>by rw [aM (ntup c xs r)]; exact r
   rcases hc with rfl | hc
   ·exact hbe
   ·rintro rfl
    rcases he with z | z
    ·exact nown c b hc z
    ·rw [hc] at z; cases z; exact hb rfl
end
structure Un (fs ex:List Addr) (H H':Hp) (h h':Heap):Prop where
 keep:∀ b o,h.get? b=some o->H b=none->b ∉ fs->b ∉ ex->h'.get? b=some o
 slot:∀ b o,h.get? b=some o->H b=none->b ∈ fs->b ∉ ex->∃ sl,h'.get? b=some { o with slots:=sl }
 free:∀ b o,h.get? b=some o->H b=none->b ∉ ex->H' b=none
 there:∀ b o,h.get? b=some o->b ∉ ex->∃ o',h'.get? b=some o'
 tups:∀ b xs,H b=some (.tup xs)->H' b=some (.tup xs)
 frzs:∀ b o u,H b=some (.frz o u)->H' b=some (.frz o u)
 tbls:∀ b ps,H b=some (.tbl ps)->∃ more,H' b=some (.tbl (ps ++ more))
section
variable {fs fs' ex ex' : List Addr} {H H1 H2 : Hp} {h h1 h2 h' : Heap} {a x e : Addr} {o : HO}
theorem Un.any (u:Un fs ex H H1 h h1) {b:Addr}{ob:Obj} (q:h.get? b=some ob) (n:H b=none) (hx:b ∉ ex):∃ sl,h1.get? b=some { ob with slots:=sl }:=by
 by_cases hb:b ∈ fs
 ·exact u.slot b ob q n hb hx
 ·exact⟨ob.slots,u.keep b ob q n hb hx⟩
theorem Un.kept (k:∀ b u,h.get? b=some u->h'.get? b=some u):Un fs ex H H h h':=
 ⟨fun b ob q _ _ _=>k b ob q,fun b ob q _ _ _=>⟨ob.slots,k b ob q⟩,fun _ _ _ n _=>n,fun b ob q _=>⟨ob,k b ob q⟩,fun _ _ q=>q,fun _ _ _ q=>q,fun _ ps q=>⟨#[],by rw [q]; simp⟩⟩
theorem Un.refl:Un fs ex H H h h:=Un.kept fun _ _ q=>q
theorem Un.laid (k:∀ b u,h.get? b=some u->h'.get? b=some u) (hp:h.objs.size<=a) (hn:H a=none):Un fs ex H (upd H a o) h h' where
 keep:=fun b u q _ _ _=>k b u q
 slot:=fun b u q _ _ _=>⟨u.slots,k b u q⟩
 free:=fun b u q n _=>by rw [aM (bj5 (bi5 (bh9 q) hp))]; exact n
 there:=fun b u q _=>⟨u,k b u q⟩
 tups:=fun b xs q=>by rw [aM (bX q hn)]; exact q
 frzs:=fun b u xs q=>by rw [aM (bX q hn)]; exact q
 tbls:=fun b ps q=>⟨#[],by rw [aM (bX q hn),q]; simp⟩
theorem Un.write (mu:mI (H x)) (he:e=x ∨ H e=some (.own x)) (k:∀ b u,b ≠ e->h.get? b=some u->h'.get? b=some u) (heo:∃ u,h'.get? e=some u):Un fs ex H (upd H x o) h h':=by
 have hx:∀ b,H b=none->b ≠ x:=fun b n z=>by subst z; rw [n] at mu; exact mu
 have hb:∀ b,H b=none->b ≠ e:=fun b n z=>by
  subst z
  rcases he with r | r
  ·exact hx b n r
  ·rw [n] at r; cases r
 have hm:∀ b u,H b=some u->¬ mI (some u)->b ≠ x:=fun b u q nm z=>by subst z; rw [q] at mu; exact nm mu
 refine⟨fun b u q n _ _=>k b u (hb b n) q,fun b u q n _ _=>⟨u.slots,k b u (hb b n) q⟩,fun b u q n _=>by rw [aM (hx b n)]; exact n,fun b u q _=>?_,
  fun b xs q=>by rw [aM (hm b _ q fun z=>z)]; exact q,fun b u xs q=>by rw [aM (hm b _ q fun z=>z)]; exact q,fun b ps q=>⟨#[],by rw [aM (hm b _ q fun z=>z),q]; simp⟩⟩
 by_cases hbe:b=e
 ·subst hbe; exact heo
 ·exact⟨u,k b u hbe q⟩
end
def oO (h:Heap) (H:Hp):List Addr:=(List.range h.objs.size).filter fun a=>(H a).isSome
def hJ (h:Heap) (H:Hp):Heap:=PySem.W.hideAll h (oO h H)
theorem ag4 (h:Heap) (H:Hp):(hJ h H).objs.size=h.objs.size:=PySem.W.hideAll_size _ _
theorem ag5 {h:Heap}{H:Hp}{b:Addr}{o:Obj} (e:h.get? b=some o) (n:H b=none):(hJ h H).get? b=some o:=
 PySem.W.hideAll_get _ e fun hm=>by
  have q:(H b).isSome=true:=(bj8.mp hm).2
  rw [n] at q; simp at q
theorem ag6 {h:Heap}{H:Hp}{b:Addr}{o:Obj} (e:(hJ h H).get? b=some o):h.get? b=some o/\H b=none:=by
 have e':h.get? b=some o:=PySem.W.of_hideAll (oO h H) e
 refine⟨e',?_⟩
 cases q:H b with
 | none=>rfl
 | some x=>
  have hm:b ∈ oO h H:=bj8.mpr ⟨bt3.mpr (bh9 e'),by simp [q]⟩
  have z:(hJ h H).get? b=none:=PySem.W.hideAll_none (oO h H) hm
  rw [z] at e; cases e
def mJ (g h:Heap) (L:Addr):List (Addr × Obj):=(List.range h.objs.size).filterMap fun a=>if a=L ∨ (g.get? a).isSome=true then none else (h.get? a).map fun o=>(a,o)
theorem xX {g h:Heap}{L a:Addr}{o:Obj} (h1:a ≠ L) (h2:g.get? a=none) (h3:h.get? a=some o):(a,o) ∈ mJ g h L:=
 List.mem_filterMap.mpr ⟨a,bt3.mpr (bh9 h3),by simp [h1,h2,h3]⟩
theorem ag7 {g h:Heap}{L:Addr}{p:Addr × Obj} (hp:p ∈ mJ g h L):p.1 ≠ L/\g.get? p.1=none/\h.get? p.1=some p.2:=by
 obtain ⟨b,_,e⟩:=List.mem_filterMap.mp hp
 split at e
 ·cases e
 ·rename_i hn
  cases q:h.get? b with
  | none=>rw [q] at e; simp at e
  | some u=>
   rw [q] at e
   simp only [Option.map_some,Option.some.injEq] at e
   subst e
   refine⟨fun z=>hn (.inl z),?_,q⟩
   show g.get? b=none
   cases r:g.get? b with
   | none=>rfl
   | some v=>exact (hn (.inr (by simp [r]))).elim
def cC (g h:Heap) (L d:Addr):List (Addr × Obj):=(mJ g h L).filter fun p=>decide (p.1 ≠ d)
theorem ag8 {g h:Heap}{L:Addr}:News g L h (mJ g h L):=fun p hp=>let ⟨a,b,c⟩:=ag7 hp; ⟨c,a,b⟩
structure Mod (K:PySem.W.Frag) (mg:Str->Option Value) (base:Heap):Prop where
 kin:K.In base
 glob:base.Ns mainGlobals mg
 blt:∃ mb,base.Ns builtinsNs mb/\∀ x:Str,x ≠ "__name__"->mb x=bootBuiltins x
 nolimit:base.NoLimit
structure Cx where
 prog:Program
 w:World
 K:PySem.W.Frag
 mg:Str->Option Value
 base:Heap
 A:Around
 N:List Str
 s₀:Shared
 H₀:Hp
 env:Env
 outer:List Env
 stack:List Env
 ex:List Addr
 fn:Str->Bool
 calm:Bool
 pn:List (Addr × Obj)
 xe:Value->Shared->Prop
def bS (l:List Env):List Addr:=l.filterMap (·.frame)
abbrev Cx.fs (X:Cx):List Addr:=bS X.outer
def fZ (sc:Scope) (x:Str):Prop:=sc.names.lookup x=some .local ∨ sc.names.lookup x=some .cell ∨ sc.names.lookup x=some .free
def hV (sc:Scope) (x:Str):Prop:=sc.names.lookup x=some .local ∨ sc.names.lookup x=some .cell
def ag9 (env:Env) (h:Heap) (m:Str->Option Value) (x:Str) (u:Value):Prop:=
 (env.kindOf x=some .local/\m x=some u) ∨ ((env.kindOf x=some .cell ∨ env.kindOf x=some .free)/\∃ c,env.cells.lookup x=some c/\h.IsCell c (some u))
structure Cx.Ok (X:Cx):Prop where
 mod:Mod X.K X.mg X.base
 kind:X.env.scope.kind = .function
 glob:X.env.globals=mainGlobals
 blt:X.env.builtins=builtinsNs
 above:X.s₀.heap.objs.size<=X.env.locals
 inj:∀ x y c,X.env.cells.lookup x=some c->X.env.cells.lookup y=some c->x=y
 has:∀ x,(X.env.kindOf x=some .cell ∨ X.env.kindOf x=some .free)->∃ c,X.env.cells.lookup x=some c
 cab:∀ x c,X.fn x=true->X.env.cells.lookup x=some c->X.s₀.heap.objs.size<=c
 hd:X.calm=true->X.A.handled=none
 frames:X.A.frames=some X.stack
 stk:X.stack=X.outer ∨ (X.stack=X.env :: X.outer/\X.env.frame=some X.env.locals)
 exf:∀ b ∈ X.ex,b ≠ X.env.locals/\∀ x c,X.env.cells.lookup x=some c->c ≠ b
 bs:∀ b o,X.base.get? b=some o->X.s₀.heap.get? b=some o/\X.H₀ b=none
 bsz:X.base.objs.size<=X.s₀.heap.objs.size
 noex:∀ b o,X.base.get? b=some o->b ∉ X.ex
 exfs:∀ b ∈ X.ex,b ∉ X.fs
 funs:X.s₀.heap.FunFrames X.base X.outer
 frf:∀ b ∈ X.fs,X.H₀ b=none
structure a6 (X:Cx) (pins:List (Addr × Obj)) (σ:List (Option V)) (H:Hp) (s:Shared):Prop where
 ok:X.Ok
 os:s.os=X.s₀.os
 bare:AllBare s.gens
 base:Un X.fs X.ex X.H₀ H X.s₀.heap s.heap
 loc:∃ m,s.heap.Ns X.env.locals m/\∀ (i:Nat) (x:Str) (v:V),X.N[i]? = some x->σ[i]? = some (some v)->fZ X.env.scope x->∃ u,aQ v u/\ag9 X.env s.heap m x u
 cell:∀ x c,X.env.cells.lookup x=some c->∃ v,s.heap.IsCell c v
 free:H X.env.locals=none
 freeC:∀ x c,X.env.cells.lookup x=some c->H c=none
 pin:∀ p ∈ X.pn ++ pins,s.heap.get? p.1=some p.2/\H p.1=none/\p.1 ≠ X.env.locals/\p.1 ∉ X.fs/\∀ v,p.2.data ≠ .cell v
 hok:bO X.prog X.w H s.heap
 len:σ.length=X.N.length
section
variable {X : Cx} {pins : List (Addr × Obj)} {σ : List (Option V)} {H H' : Hp} {s : Shared} {h' : Heap}
theorem Cx.Ok.nofr (ok:X.Ok) {b:Addr}{o:Obj} (e:X.base.get? b=some o):b ∉ X.fs:=fun hb=>by
 have:=(ok.funs.mem hb).1
 rw [e] at this; cases this
theorem a6.bs (I:a6 X pins σ H s):∀ b o,X.base.get? b=some o->s.heap.get? b=some o/\H b=none:=fun b o e=>
 ⟨I.base.keep b o (I.ok.bs b o e).1 (I.ok.bs b o e).2 (I.ok.nofr e) (I.ok.noex b o e),I.base.free b o (I.ok.bs b o e).1 (I.ok.bs b o e).2 (I.ok.noex b o e)⟩
theorem a6.bk (I:a6 X pins σ H s):∀ b o,X.base.get? b=some o->s.heap.get? b=some o:=fun b o e=>(I.bs b o e).1
theorem a6.mod (I:a6 X pins σ H s):Mod X.K X.mg X.base:=I.ok.mod
theorem a6.kIn (I:a6 X pins σ H s):X.K.In s.heap:=I.ok.mod.kin.keeps I.bk
theorem a6.fr (I:a6 X pins σ H s):∃ m,Fr X.base X.env.locals s.heap m:=
 let ⟨m,hn,_⟩:=I.loc
 ⟨m,hn,I.bk,bk9 I.ok.bsz I.ok.above⟩
theorem a6.lt (I:a6 X pins σ H s):X.env.locals < s.heap.objs.size:=let ⟨_,hn,_⟩:=I.loc; hn.lt
theorem a6.sz (I:a6 X pins σ H s):X.s₀.heap.objs.size<=s.heap.objs.size:=bk9 I.ok.above (bn9 I.lt)
theorem a6.nofs (I:a6 X pins σ H s) {a:Addr} (h:s.heap.objs.size<=a):a ∉ X.fs:=fun hb=>by
 obtain ⟨_,o,ho,_⟩:=I.ok.funs.mem hb
 exact absurd (bi5 (bh9 ho) (bk9 I.sz h)) (bm1 _)
theorem a6.cne (I:a6 X pins σ H s):∀ x c,X.env.cells.lookup x=some c->c ≠ X.env.locals:=fun x c e z=>by
 obtain ⟨v,o,ho,hd⟩:=I.cell x c e
 obtain ⟨m,⟨o',es,ep,ho',hd',_⟩,_⟩:=I.loc
 rw [z,ho'] at ho; cases ho; rw [hd'] at hd; cases hd
theorem a6.funs (I:a6 X pins σ H s):s.heap.FunFrames X.base X.outer:=by
 have all:∀ (l:List Env),(∀ b ∈ bS l,b ∈ X.fs)->X.s₀.heap.FunFrames X.base l->s.heap.FunFrames X.base l:=by
  intro l
  induction l with
  | nil=>intro _ _; trivial
  | cons env r ih=>
   intro hs hl
   obtain ⟨hk,⟨L,o,hf,hn,ho,hd⟩,hr⟩:=hl
   have hL:L ∈ X.fs:=hs L (by unfold bS; rw [List.filterMap_cons,hf]; exact bi0)
   obtain ⟨sl,e⟩:=I.base.slot L o ho (I.ok.frf L hL) hL fun z=>I.ok.exfs L z hL
   exact⟨hk,⟨L,_,hf,hn,e,hd⟩,ih (fun b hb=>hs b (by unfold bS; rw [List.filterMap_cons,hf]; exact bi3 _ hb)) hr⟩
 exact all X.outer (fun _ hb=>hb) I.ok.funs
theorem a6.stack (I:a6 X pins σ H s):s.heap.FunFrames X.base X.stack:=by
 rcases I.ok.stk with e | ⟨e,hf⟩
 ·rw [e]; exact I.funs
 ·rw [e]
  obtain ⟨m,hn,_⟩:=I.loc
  refine .cons (by rw [I.ok.kind]; decide) hf hn ?_ I.funs
  exact Heap.get?_none_of_le (bk9 I.ok.bsz I.ok.above)
theorem a6.stkSub (I:a6 X pins σ H s):∀ b ∈ bS X.stack,b ∈ X.env.locals :: X.fs:=fun b hb=>by
 rcases I.ok.stk with e | ⟨e,hf⟩
 ·rw [e] at hb; exact bi3 _ hb
 ·rw [e] at hb
  unfold bS at hb
  rw [List.filterMap_cons,hf] at hb
  exact hb
theorem a6.stkFree (I:a6 X pins σ H s):∀ b ∈ bS X.stack,H b=none:=fun b hb=>by
 rcases bh5.mp (I.stkSub b hb) with e | hb
 ·rw [e]; exact I.free
 ·obtain ⟨_,o,ho,_⟩:=I.ok.funs.mem hb
  exact I.base.free b o ho (I.ok.frf b hb) fun z=>I.ok.exfs b z hb
theorem a6.step {g':Array GenState}{t':Nat}{d':Drawn}{ch:List Addr} (I:a6 X pins σ H s)
  (hch:∀ b ∈ ch,(b ∈ X.ex ∨ X.s₀.heap.objs.size<=b)/\b ≠ X.env.locals/\(∀ x c,X.env.cells.lookup x=some c->c ≠ b)/\∀ p ∈ X.pn ++ pins,p.1 ≠ b)
  (keep:∀ b o,b ≠ X.env.locals->b ∉ X.fs->b ∉ ch->s.heap.get? b=some o->H b=none->h'.get? b=some o)
  (slot:∀ b o,b ≠ X.env.locals->b ∈ X.fs->b ∉ ch->s.heap.get? b=some o->H b=none->∃ sl,h'.get? b=some { o with slots:=sl }) (free:∀ b o,b ∉ ch->s.heap.get? b=some o->H b=none->H' b=none)
  (there:∀ b o,b ∉ ch->s.heap.get? b=some o->∃ o',h'.get? b=some o')
  (tups:∀ b xs,H b=some (.tup xs)->H' b=some (.tup xs)) (frzs:∀ b o u,H b=some (.frz o u)->H' b=some (.frz o u)) (tbls:∀ b ps,H b=some (.tbl ps)->∃ more,H' b=some (.tbl (ps ++ more)))
  (ns:∀ m,s.heap.Ns X.env.locals m->h'.Ns X.env.locals m) (hok:bO X.prog X.w H' h') (hg:AllBare g') :
  a6 X pins σ H' { s with heap:=h',gens:=g',drawn:=d',toks:=t' }:=by
 have neL:∀ b o,X.s₀.heap.get? b=some o->b ≠ X.env.locals:=fun b o e=>bj5 (bi5 (bh9 e) I.ok.above)
 have neC:∀ b o,X.s₀.heap.get? b=some o->b ∉ X.ex->b ∉ ch:=fun b o e hx hb=>by
  rcases (hch b hb).1 with z | z
  ·exact hx z
  ·exact absurd (bi5 (bh9 e) z) (bm1 _)
 have cellK:∀ x c,X.env.cells.lookup x=some c->∀ v,s.heap.IsCell c v->h'.IsCell c v:=fun x c e v ⟨o,ho,hd⟩=>by
  have nch:c ∉ ch:=fun z=>(hch c z).2.2.1 x c e rfl
  by_cases hc:c ∈ X.fs
  ·obtain ⟨sl,q⟩:=slot c o (I.cne x c e) hc nch ho (I.freeC x c e)
   exact⟨_,q,hd⟩
  ·exact⟨o,keep c o (I.cne x c e) hc nch ho (I.freeC x c e),hd⟩
 refine⟨I.ok,I.os,hg,⟨fun b o e n hb hx=>?_,fun b o e n hb hx=>?_,fun b o e n hx=>?_,fun b o e hx=>?_,fun b xs e=>tups b xs (I.base.tups b xs e),fun b o xs e=>frzs b o xs (I.base.frzs b o xs e),fun b ps e=>?_⟩,?_,fun x c e=>?_,?_,fun x c e=>?_,fun p hp=>?_,hok,I.len⟩
 ·exact keep b o (neL b o e) hb (neC b o e hx) (I.base.keep b o e n hb hx) (I.base.free b o e n hx)
 ·obtain ⟨sl,e1⟩:=I.base.slot b o e n hb hx
  obtain ⟨sl',e2⟩:=slot b _ (neL b o e) hb (neC b o e hx) e1 (I.base.free b o e n hx)
  exact⟨sl',e2⟩
 ·obtain ⟨o',e1⟩:=I.base.there b o e hx
  exact free b o' (neC b o e hx) e1 (I.base.free b o e n hx)
 ·obtain ⟨o',e1⟩:=I.base.there b o e hx
  exact there b o' (neC b o e hx) e1
 ·obtain ⟨m1,e1⟩:=I.base.tbls b ps e
  obtain ⟨m2,e2⟩:=tbls b _ e1
  exact⟨m1 ++ m2,by rw [e2,Array.append_assoc]⟩
 ·obtain ⟨m,hn,hl⟩:=I.loc
  refine⟨m,ns m hn,fun i x v e1 e2 e3=>?_⟩
  obtain ⟨u,r,l⟩:=hl i x v e1 e2 e3
  refine⟨u,r,?_⟩
  rcases l with l | ⟨k,c,e,z⟩
  ·exact .inl l
  ·exact .inr ⟨k,c,e,cellK x c e _ z⟩
 ·obtain ⟨v,z⟩:=I.cell x c e
  exact⟨v,cellK x c e v z⟩
 ·obtain ⟨m,⟨o,_,_,ho,_⟩,_⟩:=I.loc
  exact free _ o (fun z=>(hch _ z).2.1 rfl) ho I.free
 ·obtain ⟨v,o,ho,hd⟩:=I.cell x c e
  exact free c o (fun z=>(hch c z).2.2.1 x c e rfl) ho (I.freeC x c e)
 ·obtain ⟨e,n,ne,nf,d⟩:=I.pin p hp
  have nch:p.1 ∉ ch:=fun z=>(hch p.1 z).2.2.2 p hp rfl
  exact⟨keep p.1 p.2 ne nf nch e n,free p.1 p.2 nch e n,ne,nf,d⟩
theorem a6.un {t':Nat} (I:a6 X pins σ H s) (u:Un X.fs [] H H' s.heap h') (hok:bO X.prog X.w H' h'):a6 X pins σ H' { s with heap:=h',toks:=t' }:=by
 obtain ⟨m,⟨o,es,ep,ho,r⟩,_⟩:=id I.loc
 obtain ⟨sl,hL⟩:=u.any ho I.free (by simp)
 exact I.step (g':=s.gens) (d':=s.drawn) (ch:=[]) (fun _ z=>nomatch z) (fun b o _ hb _ e n=>u.keep b o e n hb (by simp)) (fun b o _ hb _ e n=>u.slot b o e n hb (by simp)) (fun b o _ e n=>u.free b o e n (by simp)) (fun b o _ e=>u.there b o e (by simp)) u.tups u.frzs u.tbls (fun m' hm=>by
  obtain ⟨o',es',ep',ho',r'⟩:=hm
  rw [ho] at ho'; cases ho'
  exact⟨_,es',ep',hL,r'⟩) hok I.bare
theorem a6.call {g':Array GenState}{t':Nat}{d':Drawn}{ch:List Addr} (I:a6 X pins σ H s) (u:Un (bS X.stack) ch H H' s.heap h') (hok:bO X.prog X.w H' h') (hg:AllBare g')
  (hch:∀ b ∈ ch,(b ∈ X.ex ∨ X.s₀.heap.objs.size<=b)/\b ≠ X.env.locals/\(∀ x c,X.env.cells.lookup x=some c->c ≠ b)/\∀ p ∈ X.pn ++ pins,p.1 ≠ b) :
  a6 X pins σ H' { s with heap:=h',gens:=g',drawn:=d',toks:=t' }:=by
 obtain ⟨m,⟨o,es,ep,ho,r⟩,_⟩:=id I.loc
 obtain ⟨sl,hL⟩:=u.any ho I.free fun z=>(hch _ z).2.1 rfl
 exact I.step (ch:=ch) hch (fun b o hL hb hc e n=>u.keep b o e n (fun z=>(bh5.mp (I.stkSub b z)).elim hL hb) hc) (fun b o _ _ hc e n=>u.any e n hc) (fun b o hc e n=>u.free b o e n hc) (fun b o hc e=>u.there b o e hc) u.tups u.frzs u.tbls (fun m' hm=>by
  obtain ⟨o',es',ep',ho',r'⟩:=hm
  rw [ho] at ho'; cases ho'
  exact⟨_,es',ep',hL,r'⟩) hok hg
theorem a6.turned {t':Nat}{it:Addr} (I:a6 X pins σ H s) (k:∀ b o,b ≠ it->s.heap.get? b=some o->h'.get? b=some o) (hn:H it=none) (hL:it ≠ X.env.locals)
  (h1:it ∈ X.ex ∨ X.s₀.heap.objs.size<=it) (h2:∀ x c,X.env.cells.lookup x=some c->c ≠ it) (h3:∀ p ∈ X.pn ++ pins,p.1 ≠ it):a6 X pins σ H { s with heap:=h',toks:=t' }:=by
 have nit:∀ b u,H b=some u->b ≠ it:=fun b u e z=>by rw [z,hn] at e; cases e
 refine I.step (g':=s.gens) (d':=s.drawn) (ch:=[it]) (fun b hb=>?_) (fun b o _ _ hc e _=>k b o (fun z=>hc (by simp [z])) e) (fun b o _ _ hc e _=>⟨o.slots,k b o (fun z=>hc (by simp [z])) e⟩) (fun _ _ _ _ n=>n)
  (fun b o hc e=>⟨o,k b o (fun z=>hc (by simp [z])) e⟩) (fun _ _ e=>e) (fun _ _ _ e=>e) (fun b ps e=>⟨#[],by rw [e]; simp⟩) (fun m hm=>?_) (fun b u e=>?_) I.bare
 ·have e:b=it:=by simpa using hb
  subst e
  exact⟨h1,hL,h2,h3⟩
 ·obtain ⟨o,es,ep,ho,r⟩:=hm
  exact⟨o,es,ep,k _ o (Ne.symm hL) ho,r⟩
 ·refine (I.hok b u e).stay (fun c v hc q=>k c v ?_ q) (fun _ q=>q) fun _ _ q=>q
  rcases hc with z | z
  ·rw [z]; exact nit b u e
  ·exact nit c _ z
theorem a6.tok (I:a6 X pins σ H s) (t:Nat):a6 X pins σ H { s with toks:=t }:=I.un (h':=s.heap) (t':=t) Un.refl I.hok
theorem a6.kept {t':Nat} (I:a6 X pins σ H s) (k:∀ b u,s.heap.get? b=some u->h'.get? b=some u):a6 X pins σ H { s with heap:=h',toks:=t' }:=I.un (Un.kept k) (I.hok.kept k)
theorem a6.laid {a:Addr}{o:HO}{t':Nat} (I:a6 X pins σ H s) (k:∀ b u,s.heap.get? b=some u->h'.get? b=some u) (hp:s.heap.objs.size<=a) (new:bA X.prog X.w (upd H a o) h' a o) :
  a6 X pins σ (upd H a o) { s with heap:=h',toks:=t' }:=I.un (Un.laid k hp (I.hok.fresh hp)) (I.hok.laid k hp new)
theorem a6.write {x e:Addr}{o:HO}{t':Nat} (I:a6 X pins σ H s) (mu:mI (H x)) (he:e=x ∨ H e=some (.own x)) (k:∀ b u,b ≠ e->s.heap.get? b=some u->h'.get? b=some u) (heo:∃ u,h'.get? e=some u)
  (new:bA X.prog X.w (upd H x o) h' x o):a6 X pins σ (upd H x o) { s with heap:=h',toks:=t' }:=I.un (Un.write mu he k heo) (I.hok.write mu he k heo new)
theorem a6.weak {σ':List (Option V)} (I:a6 X pins σ H s) (hl:σ'.length=σ.length) (w:∀ (i:Nat) v,σ'[i]? = some (some v)->σ[i]? = some (some v)):a6 X pins σ' H s:=
 ⟨I.ok,I.os,I.bare,I.base,let ⟨m,hn,hl'⟩:=I.loc; ⟨m,hn,fun i x v e1 e2 e3=>hl' i x v e1 (w i v e2) e3⟩,I.cell,I.free,I.freeC,I.pin,I.hok,hl.trans I.len⟩
theorem a6.pins_of {pins':List (Addr × Obj)} (I:a6 X pins σ H s) (h:∀ p ∈ pins',s.heap.get? p.1=some p.2/\H p.1=none/\p.1 ≠ X.env.locals/\p.1 ∉ X.fs/\∀ v,p.2.data ≠ .cell v):a6 X pins' σ H s:=
 ⟨I.ok,I.os,I.bare,I.base,I.loc,I.cell,I.free,I.freeC,fun p hp=>(bj9.mp hp).elim (fun z=>I.pin p (bs8 _ z)) (h p),I.hok,I.len⟩
theorem xY {N:List Str} (hN:N.Nodup) {i j:Nat}{x:Str} (a:N[i]? = some x) (b:N[j]? = some x):i=j:=by
 obtain ⟨h1,e1⟩:=bh7.mp a
 obtain ⟨h2,e2⟩:=bh7.mp b
 exact (List.getElem_inj hN).mp (e1.trans e2.symm)
theorem sZ {M:Model}{A:Around}{E:Value->Shared->Prop}{i:Nat}{x:Str}{v:V}{u:Value}{Q:Unit->Shared->Prop} (I:a6 X pins σ H s) (hN:X.N.Nodup) (hi:X.N[i]? = some x) (hx:hV X.env.scope x) (r:aQ v u)
  (h:∀ s',a6 X pins (σ.set i (some v)) H s'->(∃ a,Heap.SameBut a s.heap s'.heap/\(a=X.env.locals ∨ X.env.cells.lookup x=some a))->Q () s') (hf:X.fn x=true ∨ X.env.scope.names.lookup x=some .local:=by first | exact .inl rfl | exact .inr rfl | assumption):wpAny M A (storeName X.env x u) Q E s:=by
 obtain ⟨m,hn,hl⟩:=id I.loc
 have hcls:(X.env.scope.kind == .class || (X.env.scope.kind == .module && X.env.locals != X.env.globals))=false:=by rw [I.ok.kind]; rfl
 have hiσ:i < σ.length:=by rw [I.len]; exact (bh7.mp hi).1
 have cne:=I.cne
 have tracked:∀ {a:Addr}{h':Heap},(∃ o,s.heap.get? a=some o/\H a=none)->Heap.SameBut a s.heap h'->bO X.prog X.w H h':=fun {a h'} ha hs b ob e=>by
  obtain ⟨_,_,hfree⟩:=ha
  refine (I.hok b ob e).stay (fun c w' hc q=>(hs.2 c ?_).trans q) (fun _ q=>q) fun _ _ q=>q
  rintro rfl
  rcases hc with rfl | hc
  ·rw [hfree] at e; cases e
  ·rw [hfree] at hc; cases hc
 rcases hx with hk | hk
 ·refine wpAny_storeName_local hk hn (fun h' hn' hs=>?_) hcls
  obtain ⟨oL,_,_,hoL,_⟩:=id hn
  refine h _ ⟨I.ok,I.os,I.bare,⟨fun b o e n hb hx=>?_,fun b o e n hb hx=>?_,I.base.free,fun b o e hx=>?_,I.base.tups,I.base.frzs,I.base.tbls⟩,⟨_,hn',fun j y v' e1 e2 e3=>?_⟩,fun y c e=>?_,I.free,I.freeC,fun p hp=>?_,tracked ⟨oL,hoL,I.free⟩ hs,by simpa using I.len⟩ ⟨_,hs,.inl rfl⟩
  ·exact (hs.2 b (bj5 (bi5 (bh9 e) I.ok.above))).trans (I.base.keep b o e n hb hx)
  ·obtain ⟨sl,e1⟩:=I.base.slot b o e n hb hx
   exact⟨sl,(hs.2 b (bj5 (bi5 (bh9 e) I.ok.above))).trans e1⟩
  ·obtain ⟨o',e1⟩:=I.base.there b o e hx
   exact⟨o',(hs.2 b (bj5 (bi5 (bh9 e) I.ok.above))).trans e1⟩
  ·by_cases hj:j=i
   ·subst hj
    rw [hi] at e1; cases e1
    rw [br1 hiσ] at e2
    cases e2
    exact⟨u,r,.inl ⟨hk,by simp⟩⟩
   ·rw [bl8 (Ne.symm hj)] at e2
    obtain ⟨u',r',q⟩:=hl j y v' e1 e2 e3
    refine⟨u',r',?_⟩
    rcases q with ⟨k,e⟩ | ⟨k,c,e,z⟩
    ·refine .inl ⟨k,?_⟩
     have:y ≠ x:=fun e=>hj (xY hN e1 (e ▸ hi))
     simp [this,e]
    ·exact .inr ⟨k,c,e,z.sameBut hs (cne y c e)⟩
  ·obtain ⟨w',z⟩:=I.cell y c e
   exact⟨w',z.sameBut hs (cne y c e)⟩
  ·obtain ⟨e,n,ne,nf,d⟩:=I.pin p hp
   exact⟨(hs.2 p.1 ne).trans e,n,ne,nf,d⟩
 ·have hfn:X.fn x=true:=by
   rcases hf with z | z
   ·exact z
   ·rw [z] at hk; cases hk
  obtain ⟨c,hc⟩:=I.ok.has x (.inl hk)
  obtain ⟨w',z⟩:=I.cell x c hc
  refine wpAny_storeName_cell I.ok.kind hk hc z (fun h' hc' hs=>?_)
  obtain ⟨oc,hoc,hocd⟩:=id z
  refine h { s with heap:=h' } ⟨I.ok,I.os,I.bare,⟨fun b o e n hb hx=>?_,fun b o e n hb hx=>?_,I.base.free,fun b o e hx=>?_,I.base.tups,I.base.frzs,I.base.tbls⟩,⟨m,hn.sameBut hs (Ne.symm (cne x c hc)),fun j y v' e1 e2 e3=>?_⟩,fun y c' e=>?_,I.free,I.freeC,fun p hp=>?_,tracked ⟨oc,hoc,I.freeC x c hc⟩ hs,by simpa using I.len⟩ ⟨c,hs,.inr hc⟩
  ·exact (hs.2 b (bj5 (bi5 (bh9 e) (I.ok.cab x c hfn hc)))).trans (I.base.keep b o e n hb hx)
  ·obtain ⟨sl,e1⟩:=I.base.slot b o e n hb hx
   exact⟨sl,(hs.2 b (bj5 (bi5 (bh9 e) (I.ok.cab x c hfn hc)))).trans e1⟩
  ·obtain ⟨o',e1⟩:=I.base.there b o e hx
   exact⟨o',(hs.2 b (bj5 (bi5 (bh9 e) (I.ok.cab x c hfn hc)))).trans e1⟩
  ·by_cases hj:j=i
   ·subst hj
    rw [hi] at e1; cases e1
    rw [br1 hiσ] at e2
    cases e2
    exact⟨u,r,.inr ⟨.inl hk,c,hc,hc'⟩⟩
   ·rw [bl8 (Ne.symm hj)] at e2
    obtain ⟨u',r',q⟩:=hl j y v' e1 e2 e3
    refine⟨u',r',?_⟩
    rcases q with q | ⟨k,c',e,z'⟩
    ·exact .inl q
    ·refine .inr ⟨k,c',e,z'.sameBut hs ?_⟩
     rintro rfl
     exact hj (xY hN e1 (I.ok.inj _ _ _ e hc ▸ hi))
  ·by_cases hcc:c'=c
   ·subst hcc; exact⟨_,hc'⟩
   ·obtain ⟨w2,z2⟩:=I.cell y c' e
    exact⟨w2,z2.sameBut hs hcc⟩
  ·obtain ⟨e,n,ne,nf,d⟩:=I.pin p hp
   refine⟨(hs.2 p.1 ?_).trans e,n,ne,nf,d⟩
   intro q
   rw [q,hoc] at e
   have q':oc=p.2:=bj7 e
   exact d w' (by rw [<- q']; exact hocd)
theorem xZ {M:Model}{A:Around}{E:Value->Shared->Prop}{i:Nat}{x:Str}{v:V}{u:Value}{Q:Unit->Shared->Prop} (I:a6 X pins σ H s) (hN:X.N.Nodup) (hi:X.N[i]? = some x) (hx:hV X.env.scope x) (r:aQ v u)
  (h:∀ s',a6 X pins (σ.set i (some v)) H s'->Q () s') (hf:X.fn x=true ∨ X.env.scope.names.lookup x=some .local:=by first | exact .inl rfl | exact .inr rfl | assumption):wpAny M A (storeName X.env x u) Q E s:=
 sZ I hN hi hx r (fun s' I' _=>h s' I') hf
theorem a6.call' {s':Shared}{ch:List Addr} (I:a6 X pins σ H s) (ho:s'.os=s.os) (u:Un (bS X.stack) ch H H' s.heap s'.heap) (hok:bO X.prog X.w H' s'.heap) (hg:AllBare s'.gens)
  (hch:∀ b ∈ ch,(b ∈ X.ex ∨ X.s₀.heap.objs.size<=b)/\b ≠ X.env.locals/\(∀ x c,X.env.cells.lookup x=some c->c ≠ b)/\∀ p ∈ X.pn ++ pins,p.1 ≠ b):a6 X pins σ H' s':=by
 obtain ⟨h',g',d',t',o'⟩:=s'
 have e:o'=s.os:=ho
 subst e
 exact I.call (g':=g') (t':=t') (d':=d') u hok hg hch
end
abbrev XK:=Value->Option Addr->Hp->Prop
abbrev St:=List (Option V)
abbrev VK:=V->Hp->Prop
abbrev TE:=St->Hp->VK->Prop
abbrev TT:=St->Hp->(Bool->Hp->Prop)->Prop
abbrev TA:=St->Hp->(List V->Hp->Prop)->Prop
structure cN where
 nx:St->Hp->Prop
 rt:VK
 bk:St->Hp->Prop:=fun _ _=>False
 ct:St->Hp->Prop:=fun _ _=>False
abbrev TS:=cN->St->Hp->Prop
def EP (X:Cx) (pins:List (Addr × Obj)) (σ:St) (Q:VK) (u:Value) (s':Shared):Prop:=∃ v H',a6 X pins σ H' s'/\aQ v u/\Q v H'
def TP (X:Cx) (pins:List (Addr × Obj)) (σ:St) (Q:Bool->Hp->Prop) (b:Bool) (s':Shared):Prop:=∃ H',a6 X pins σ H' s'/\Q b H'
def AP (X:Cx) (pins:List (Addr × Obj)) (σ:St) (Q:List V->Hp->Prop) (us:List Value) (s':Shared):Prop:=∃ vs H',a6 X pins σ H' s'/\aH vs us/\Q vs H'
def SP (X:Cx) (pins:List (Addr × Obj)) (D:cN) (f:Flow) (s':Shared):Prop:=
 match f with
 | .next=>∃ σ' H',a6 X pins σ' H' s'/\D.nx σ' H'
 | .brk=>∃ σ' H',a6 X pins σ' H' s'/\D.bk σ' H'
 | .cont=>∃ σ' H',a6 X pins σ' H' s'/\D.ct σ' H'
 | .ret u=>∃ v σ' H',a6 X pins σ' H' s'/\aQ v u/\D.rt v H'
def PE (X:Cx) (e:Expr) (t:TE):Prop:=
 ∀ (pins:List (Addr × Obj)) (s:Shared) (σ:St) (H:Hp) (Q:VK),a6 X pins σ H s->t σ H Q->wpAny (model X.prog X.w) X.A (eval e X.env) (EP X pins σ Q) X.xe s
def PT (X:Cx) (e:Expr) (t:TT):Prop:=
 ∀ (pins:List (Addr × Obj)) (s:Shared) (σ:St) (H:Hp) (Q:Bool->Hp->Prop),a6 X pins σ H s->t σ H Q->wpAny (model X.prog X.w) X.A (isTrue e X.env (eval e X.env)) (TP X pins σ Q) X.xe s
def PW (X:Cx) (e:Expr) (t:TT):Prop:=
 ∀ (whole:Sem Value) (pins:List (Addr × Obj)) (s:Shared) (σ:St) (H:Hp) (Q:Bool->Hp->Prop),a6 X pins σ H s->t σ H Q->wpAny (model X.prog X.w) X.A (isTrue e X.env whole) (TP X pins σ Q) X.xe s
theorem PW.pt {X:Cx}{e:Expr}{t:TT} (h:PW X e t):PT X e t:=h _
def PA (X:Cx) (es:List Expr) (t:TA):Prop:=
 ∀ (pos:Pos) (pins:List (Addr × Obj)) (s:Shared) (σ:St) (H:Hp) (Q:List V->Hp->Prop),a6 X pins σ H s->t σ H Q->wpAny (model X.prog X.w) X.A (spliced (backTo pos (starEach es X.env))) (AP X pins σ Q) X.xe s
def PS (X:Cx) (st:Stmt) (t:TS):Prop:=
 ∀ (pins:List (Addr × Obj)) (s:Shared) (σ:St) (H:Hp) (D:cN),a6 X pins σ H s->t D σ H->wpAny (model X.prog X.w) X.A (exec st X.env) (SP X pins D) X.xe s
def dG (X:Cx) (st:List Stmt) (t:TS):Prop:=
 ∀ (pins:List (Addr × Obj)) (s:Shared) (σ:St) (H:Hp) (D:cN),a6 X pins σ H s->t D σ H->wpAny (model X.prog X.w) X.A (execs st X.env) (SP X pins D) X.xe s
theorem aJ {α:Type}{t:Sem α}{Q Q':α->Shared->Prop}{M:Model}{A:Around}{E:Value->Shared->Prop}{s:Shared} (h:wpAny M A t Q E s) (hQ:∀ a s,Q a s->Q' a s):wpAny M A t Q' E s:=bq7 h hQ fun _ _ x=>x
section
variable {X : Cx}
theorem bin {a b:Expr}{ta tb:TE} (ha:PE X a ta) (hb:PE X b tb) {pins:List (Addr × Obj)}{s:Shared}{σ:St}{H:Hp}{R:V->V->Hp->Prop} (I:a6 X pins σ H s) (h:ta σ H fun x H1=>tb σ H1 fun y H2=>R x y H2)
  {α:Type}{Q:α->Shared->Prop}{f:Value->Value->Sem α}
  (hf:∀ v u s2 x y H2,a6 X pins σ H2 s2->aQ x v->aQ y u->R x y H2->wpAny (model X.prog X.w) X.A (f v u) Q X.xe s2) :
  wpAny (model X.prog X.w) X.A (eval a X.env) (fun v s₁=>wpAny (model X.prog X.w) X.A (eval b X.env) (fun u s₂=>wpAny (model X.prog X.w) X.A (f v u) Q X.xe s₂) X.xe s₁) X.xe s:=by
 refine aJ (ha pins s σ H _ I h) fun v s1 ⟨x,H1,I1,r1,q1⟩=>?_
 refine aJ (hb pins s1 σ H1 _ I1 q1) fun u s2 ⟨y,H2,I2,r2,q2⟩=>?_
 exact hf v u s2 x y H2 I2 r1 r2 q2
def hZ (i:Nat):TE:=fun σ H Q=>∃ v,σ[i]? = some (some v)/\Q v H
def tC (v:V):TE:=fun _ H Q=>Q v H
theorem iY {i:Nat}{x:Str}{pos:Pos} (hN:X.N[i]? = some x) (hv:fZ X.env.scope x) (hd:(x == ("__debug__" : Str))=false:=by decide) (hcd:(x == ("__classdict__" : Str))=false:=by decide):PE X (.Name x pos) (hZ i):=by
 intro pins s σ H Q I h
 obtain ⟨v,e,h⟩:=h
 obtain ⟨m,hn,hl⟩:=I.loc
 obtain ⟨u,r,l⟩:=hl i x v hN e hv
 have fin:EP X pins σ Q u s:=⟨v,H,I,r,h⟩
 rcases l with ⟨hk,hm⟩ | ⟨hk,c,hc,hcell⟩
 ·exact wpAny_Name (wpAny_loadName_local I.ok.kind hk hn hm fin) hd
 ·rcases hk with hk | hk
  ·exact wpAny_Name (wpAny_loadName_cell I.ok.kind hk hc hcell fin) hd
  ·exact wpAny_Name (wpAny_loadName_free I.ok.kind hk hc hcell fin hcd) hd
theorem t5 {i j pos}:PE X (.Constant (.int i) j pos) (tC (.int i)):=fun _ _ _ H _ I h=>wpAny_Constant_int ⟨.int i,H,I.tok _,⟨_,rfl⟩,h⟩
theorem ah0 {b j pos}:PE X (.Constant (.bool b) j pos) (tC (.bl b)):=fun _ _ _ H _ I h=>Constant_bool ⟨.bl b,H,I,rfl,h⟩
theorem ah1 {j pos}:PE X (.Constant .none j pos) (tC .non):=fun _ _ _ H _ I h=>Constant_none ⟨.non,H,I,rfl,h⟩
theorem ah2 {x j pos}:PE X (.Constant (.str x) j pos) (tC (.str x)):=fun _ _ _ H _ I h=>Calls.Constant_str ⟨.str x,H,I.tok _,⟨_,rfl⟩,h⟩
def Gl (X:Cx) (x:Str):Prop:=X.env.kindOf x=some .globalImplicit
theorem t6 {E:Value->Shared->Prop}{pins:List (Addr × Obj)}{s:Shared}{σ:St}{H:Hp}{x:Str}{u:Value}{pos:Pos}{Q:Value->Shared->Prop} (I:a6 X pins σ H s) (hg:Gl X x) (hm:X.mg x=some u) (h:Q u s)
  (hd:(x == ("__debug__" : Str))=false:=by decide):wpAny (model X.prog X.w) X.A (eval (.Name x pos) X.env) Q E s:=
 Calls.Name_function_global I.ok.kind hg (Calls.loadGlobal_global (by rw [I.ok.glob]; exact I.mod.glob.keeps I.bk) hm h) hd
theorem iZ {E:Value->Shared->Prop}{pins:List (Addr × Obj)}{s:Shared}{σ:St}{H:Hp}{x:Str}{u:Value}{pos:Pos}{Q:Value->Shared->Prop} (I:a6 X pins σ H s) (hg:Gl X x) (hm:X.mg x=none) (hv:bootBuiltins x=some u) (h:Q u s)
  (hn:x ≠ "__name__":=by decide) (hd:(x == ("__debug__" : Str))=false:=by decide):wpAny (model X.prog X.w) X.A (eval (.Name x pos) X.env) Q E s:=by
 obtain ⟨mb,h1,h2⟩:=I.mod.blt
 exact Calls.Name_function_global I.ok.kind hg (Calls.loadGlobal_builtin (by rw [I.ok.glob]; exact I.mod.glob.keeps I.bk) hm (by rw [I.ok.blt]; exact h1.keeps I.bk) ((h2 x hn).trans hv) h) hd
theorem ah3 {x:Str}{v:V}{u:Value}{pos:Pos} (hg:Gl X x) (hm:X.mg x=some u) (r:aQ v u) (hd:(x == ("__debug__" : Str))=false:=by decide):PE X (.Name x pos) (tC v):=
 fun _ _ _ H _ I h=>t6 I hg hm ⟨v,H,I,r,h⟩ hd
theorem ah4 {x:Str}{v:V}{u:Value}{pos:Pos} (hg:Gl X x) (hm:X.mg x=none) (hv:bootBuiltins x=some u) (r:aQ v u) (hn:x ≠ "__name__":=by decide) (hd:(x == ("__debug__" : Str))=false:=by decide):PE X (.Name x pos) (tC v):=
 fun _ _ _ H _ I h=>iZ I hg hm hv ⟨v,H,I,r,h⟩ hn hd
variable {a b : Expr} {ta tb : TE} {pos : Pos}
def PC (X:Cx) (op:CmpOp) (a b:Expr) (t:TE):Prop:=
 ∀ (pins:List (Addr × Obj)) (s:Shared) (σ:St) (H:Hp) (Q:VK),a6 X pins σ H s->t σ H Q->
  wpAny (model X.prog X.w) X.A (eval a X.env) (fun v s₁=>wpAny (model X.prog X.w) X.A (eval b X.env) (fun u s₂=>wpAny (model X.prog X.w) X.A (compareOp op v u) (EP X pins σ Q) X.xe s₂) X.xe s₁) X.xe s
def tB (t:TE):TT:=fun σ H Q=>t σ H fun x H1=>∃ c,x = .bl c/\Q c H1
theorem ah5 {op:CmpOp}{t:TE} (h:PC X op a b t) (h1:behindInMarks op b=false:=by first | exact nobehind _ (by decide) (by decide) | rfl):PE X (.Compare a [op] [b] pos) t:=fun pins s σ H Q I hw=>wpAny_Compare1 (h pins s σ H Q I hw) h1
theorem ah6 {op:CmpOp}{t:TE} (h:PC X op a b t) (h1:behindInMarks op b=false:=by first | exact nobehind _ (by decide) (by decide) | rfl):PT X (.Compare a [op] [b] pos) (tB t):=by
 intro pins s σ H Q I hw
 refine wpAny_isTrue_Compare1 (aJ (h pins s σ H _ I hw) fun v s1 h1=>aJ h1 fun u s2 h2=>aJ h2 fun c s3 ⟨x,H1,I1,r1,q1⟩=>?_) h1
 obtain ⟨d,rfl,q⟩:=q1
 cases r1
 exact br7 ⟨H1,I1,q⟩
theorem ah7 {e:Expr}{t:TE} (h:PE X e t) (he:∀ whole,isTrue e X.env whole=(do let v <- whole; standAt e.pos; holding [v] (truthy v)):=by intro _; rfl):PT X e (tB t):=by
 intro pins s σ H Q I hw
 refine isTrue_plain (aJ (h pins s σ H _ I hw) fun v s1 ⟨x,H1,I1,r1,q1⟩=>?_) (he _)
 obtain ⟨d,rfl,q⟩:=q1
 cases r1
 exact br7 ⟨H1,I1,q⟩
variable {tA tB' : TT} {cC : List Expr}
def y6 (t u:TT):TT:=fun σ H Q=>t σ H fun c H1=>if c=true then u σ H1 Q else Q false H1
def y7 (t u:TT):TT:=fun σ H Q=>t σ H fun c H1=>if c=true then Q true H1 else u σ H1 Q
def y9 (t:TT):TT:=fun σ H Q=>t σ H fun c H1=>Q (!c) H1
theorem ah8 (ha:PT X a tA):PW X (.BoolOp .And [a] pos) tA:=by
 intro wh pins s σ H Q I h
 refine isTrue_and (aJ (ha pins s σ H Q I h) fun c s1 e=>?_)
 cases c with
 | true=>exact isTrue_and_nil e
 | false=>exact e
theorem ah9 (ha:PT X a tA):PW X (.BoolOp .Or [a] pos) tA:=by
 intro wh pins s σ H Q I h
 refine isTrue_or (aJ (ha pins s σ H Q I h) fun c s1 e=>?_)
 cases c with
 | false=>exact isTrue_or_nil e
 | true=>exact e
theorem ai0 (ha:PT X a tA) (hb:PW X (.BoolOp .And (b :: cC) pos) tB'):PW X (.BoolOp .And (a :: b :: cC) pos) (y6 tA tB'):=by
 intro wh pins s σ H Q I h
 refine isTrue_and (aJ (ha pins s σ H _ I h) fun c s1 ⟨H1,I1,q1⟩=>?_)
 cases c with
 | true=>exact hb wh pins s1 σ H1 Q I1 q1
 | false=>exact⟨H1,I1,q1⟩
theorem ai1 (ha:PT X a tA) (hb:PW X (.BoolOp .Or (b :: cC) pos) tB'):PW X (.BoolOp .Or (a :: b :: cC) pos) (y7 tA tB'):=by
 intro wh pins s σ H Q I h
 refine isTrue_or (aJ (ha pins s σ H _ I h) fun c s1 ⟨H1,I1,q1⟩=>?_)
 cases c with
 | true=>exact⟨H1,I1,q1⟩
 | false=>exact hb wh pins s1 σ H1 Q I1 q1
theorem ai2 (ha:PT X a tA):PT X (.UnaryOp .Not a pos) (y9 tA):=by
 intro pins s σ H Q I h
 exact isTrue_not (ha pins s σ H (fun c H1=>Q (!c) H1) I h)
def yA (ta tb:TE):TE:=fun σ H Q=>ta σ H fun x H1=>∃ c,x = .bl c/\if c=true then tb σ H1 Q else Q (.bl false) H1
def yB (ta tb:TE):TE:=fun σ H Q=>ta σ H fun x H1=>∃ c,x = .bl c/\if c=true then Q (.bl true) H1 else tb σ H1 Q
def yC (ta:TE):TE:=fun σ H Q=>ta σ H fun x H1=>∃ c,x = .bl c/\Q (.bl (!c)) H1
theorem ai3 {op}{t:TE} (h:PE X a t):PE X (.BoolOp op [a] pos) t:=fun pins s σ H Q I hw=>BoolOp_one (h pins s σ H Q I hw)
theorem ai4 (ha:PE X a ta) (hb:PE X (.BoolOp .And (b :: cC) pos) tb):PE X (.BoolOp .And (a :: b :: cC) pos) (yA ta tb):=by
 intro pins s σ H Q I h
 refine BoolOp_and (aJ (ha pins s σ H _ I h) fun v s1 ⟨x,H1,I1,r1,q1⟩=>?_)
 obtain ⟨c,rfl,q1⟩:=q1
 cases r1
 refine br7 ?_
 cases c with
 | true=>exact hb pins s1 σ H1 Q I1 q1
 | false=>exact⟨.bl false,H1,I1,rfl,q1⟩
theorem ai5 (ha:PE X a ta) (hb:PE X (.BoolOp .Or (b :: cC) pos) tb):PE X (.BoolOp .Or (a :: b :: cC) pos) (yB ta tb):=by
 intro pins s σ H Q I h
 refine BoolOp_or (aJ (ha pins s σ H _ I h) fun v s1 ⟨x,H1,I1,r1,q1⟩=>?_)
 obtain ⟨c,rfl,q1⟩:=q1
 cases r1
 refine br7 ?_
 cases c with
 | false=>exact hb pins s1 σ H1 Q I1 q1
 | true=>exact⟨.bl true,H1,I1,rfl,q1⟩
theorem ai6 (ha:PE X a ta):PE X (.UnaryOp .Not a pos) (yC ta):=by
 intro pins s σ H Q I h
 refine UnaryOp_ (aJ (ha pins s σ H _ I h) fun v s1 ⟨x,H1,I1,r1,q1⟩=>?_)
 obtain ⟨c,rfl,q1⟩:=q1
 cases r1
 exact not_of (br7 ⟨.bl (!c),H1,I1,rfl,q1⟩)
end
def aI (K:PySem.W.Frag) (H:Hp) (a:Addr) (xs:List V):Prop:=
 Rd H a (.lst xs) ∨
  ∃ (o:Obj) (its:Array Value) (n:Nat),K.lookup a=some o/\o.cls = .type "list"/\o.dict=none/\o.data = .seq its n/\its.size<=sizeLine/\aH xs its.toList
def aF (K:PySem.W.Frag) (H:Hp) (a:Addr) (xs:List V):Prop:=
 Rd H a (.tup xs) ∨
  ∃ (o:Obj) (its:Array Value) (n:Nat),K.lookup a=some o/\o.cls = .type "tuple"/\o.data = .seq its n/\its.size<=sizeLine/\aH xs its.toList
def ai7:Value->Option V
 | .none=>some .non
 | .bool b=>some (.bl b)
 | .int i _=>some (.int i)
 | .str x _=>some (.str x)
 | .bytes b _=>some (.byt b)
 | .float b _=>some (.flt b)
 | .ref a=>some (.ref a)
 | .type n=>some (.ty n)
 | _=>none
theorem aQ.abs {x:V}{u:Value} (r:aQ x u):ai7 u=some x:=by
 cases x with
 | non=>cases r; rfl
 | bl _=>cases r; rfl
 | int _=>obtain ⟨t,rfl⟩:=r; rfl
 | str _=>obtain ⟨t,rfl⟩:=r; rfl
 | byt _=>obtain ⟨t,rfl⟩:=r; rfl
 | flt _=>obtain ⟨t,rfl⟩:=r; rfl
 | ref _=>cases r; rfl
 | ty _=>cases r; rfl
theorem aQ.inj {x y:V}{u:Value} (r:aQ x u) (q:aQ y u):x=y:=bj7 (r.abs.symm.trans q.abs)
theorem aH.inj:∀ {xs ys:List V}{us:List Value},aH xs us->aH ys us->xs=ys
 | _,_,_,.nil,.nil=>rfl
 | _,_,_,.cons r t,.cons r' t'=>by rw [r.inj r',aH.inj t t']
section
variable {X : Cx} {pins : List (Addr × Obj)} {σ : St} {H : Hp} {s : Shared} {a : Addr} {xs ys : List V}
theorem aI.of {K:PySem.W.Frag} (h:H a=some (.lst xs)):aI K H a xs:=.inl (.inl h)
theorem aF.of {K:PySem.W.Frag} (h:H a=some (.tup xs)):aF K H a xs:=.inl (.inl h)
theorem a6.list (I:a6 X pins σ H s) (h:aI X.K H a xs):∃ its:List Value,aH xs its/\PlainL s.heap a its.toArray/\xs.length<=sizeLine:=by
 rcases h with h | ⟨o,its,n,hk,hc,hd,hs,hz,r⟩
 ·obtain ⟨z,its,n,r,e⟩:=h.ok I.hok
  exact⟨its,r,⟨_,n,e,rfl,rfl,rfl⟩,z⟩
 ·refine⟨its.toList,r,⟨o,n,I.kIn a o hk,hc,hd,by simpa using hs⟩,?_⟩
  have e:=r.length
  simp only [bj3] at e
  omega
theorem a6.tuple (I:a6 X pins σ H s) (h:aF X.K H a xs):∃ its:List Value,aH xs its/\IsTup s.heap a its.toArray/\xs.length<=sizeLine:=by
 rcases h with h | ⟨o,its,n,hk,hc,hs,hz,r⟩
 ·obtain ⟨z,its,r,p⟩:=h.ok I.hok
  exact⟨its,r,p,z⟩
 ·refine⟨its.toList,r,⟨o,I.kIn a o hk,hc,n,by simpa using hs⟩,?_⟩
  have e:=r.length
  simp only [bj3] at e
  omega
theorem a6.list_inj (I:a6 X pins σ H s) (h:aI X.K H a xs) (h':aI X.K H a ys):xs=ys:=by
 obtain ⟨its,r,⟨o,n,e,_,_,d⟩,_⟩:=I.list h
 obtain ⟨its',r',⟨o',n',e',_,_,d'⟩,_⟩:=I.list h'
 rw [e] at e'; cases e'
 rw [d] at d'
 injection d' with d1 _
 have:its=its':=by simpa using congrArg Array.toList d1
 subst this
 exact r.inj r'
theorem a6.tuple_inj (I:a6 X pins σ H s) (h:aF X.K H a xs) (h':aF X.K H a ys):xs=ys:=by
 obtain ⟨its,r,⟨o,e,_,n,d⟩,_⟩:=I.tuple h
 obtain ⟨its',r',⟨o',e',_,n',d'⟩,_⟩:=I.tuple h'
 rw [e] at e'; cases e'
 rw [d] at d'
 injection d' with d1 _
 have:its=its':=by simpa using congrArg Array.toList d1
 subst this
 exact r.inj r'
end
abbrev Cx.wish (X:Cx) (E:Value->Shared->Prop):Cx:={ X with xe:=E }
abbrev Cx.nox (X:Cx):Cx:=X.wish fun _ _=>False
theorem Cx.Ok.wish {X:Cx} (ok:X.Ok) (E:Value->Shared->Prop):(X.wish E).Ok:=
 ⟨ok.mod,ok.kind,ok.glob,ok.blt,ok.above,ok.inj,ok.has,ok.cab,ok.hd,ok.frames,ok.stk,ok.exf,ok.bs,ok.bsz,ok.noex,ok.exfs,ok.funs,ok.frf⟩
theorem Cx.Ok.unwish {X:Cx}{E:Value->Shared->Prop} (ok:(X.wish E).Ok):X.Ok:=
 ⟨ok.mod,ok.kind,ok.glob,ok.blt,ok.above,ok.inj,ok.has,ok.cab,ok.hd,ok.frames,ok.stk,ok.exf,ok.bs,ok.bsz,ok.noex,ok.exfs,ok.funs,ok.frf⟩
section
variable {X : Cx} {pins : List (Addr × Obj)} {σ : St} {H : Hp} {s : Shared} {E : Value → Shared → Prop}
theorem a6.wish (I:a6 X pins σ H s) (E:Value->Shared->Prop):a6 (X.wish E) pins σ H s:=⟨I.ok.wish E,I.os,I.bare,I.base,I.loc,I.cell,I.free,I.freeC,I.pin,I.hok,I.len⟩
theorem a6.unwish (I:a6 (X.wish E) pins σ H s):a6 X pins σ H s:=⟨I.ok.unwish,I.os,I.bare,I.base,I.loc,I.cell,I.free,I.freeC,I.pin,I.hok,I.len⟩
theorem SP.unwish {D:cN}{f:Flow}{s':Shared} (h:SP (X.wish E) pins D f s'):SP X pins D f s':=by
 cases f with
 | next=>obtain ⟨σ',H',I,q⟩:=h; exact⟨σ',H',I.unwish,q⟩
 | brk=>obtain ⟨σ',H',I,q⟩:=h; exact⟨σ',H',I.unwish,q⟩
 | cont=>obtain ⟨σ',H',I,q⟩:=h; exact⟨σ',H',I.unwish,q⟩
 | ret u=>obtain ⟨v,σ',H',I,r,q⟩:=h; exact⟨v,σ',H',I.unwish,r,q⟩
theorem dG.nox {st:List Stmt}{t:TS} (h:dG X.nox st t):dG X st t:=fun pins s σ H D I hw=>
 bq7 (h pins s σ H D (I.wish _) hw) (fun _ _ q=>q.unwish) fun _ _ z=>False.elim z
end
section
variable {X : Cx} {st : Stmt} {cC : List Stmt} {t u : TS} {e : Expr} {te : TE} {pos : Pos}
def yD:TS:=fun D σ H=>D.nx σ H
def yE (t u:TS):TS:=fun D σ H=>t { D with nx:=u D } σ H
theorem ai8:dG X [] yD:=fun _ _ σ H _ I h=>wpAny_execs_nil ⟨σ,H,I,h⟩
theorem oP (h1:PS X st t) (h2:dG X cC u):dG X (st :: cC) (yE t u):=by
 intro pins s σ H D I h
 refine wpAny_execs_cons (aJ (h1 pins s σ H { D with nx:=u D } I h) fun f s1 q=>?_)
 cases f with
 | next=>
  obtain ⟨σ',H',I',q⟩:=q
  exact h2 pins s1 σ' H' D I' q
 | ret v=>exact q
 | brk=>exact q
 | cont=>exact q
theorem t7 (h1:PS X st t):dG X [st] t:=by
 intro pins s σ H D I h
 refine wpAny_execs_cons (aJ (h1 pins s σ H D I h) fun f s1 q=>?_)
 cases f with
 | next=>exact wpAny_execs_nil q
 | ret v=>exact q
 | brk=>exact q
 | cont=>exact q
theorem a6.quiet {pins:List (Addr × Obj)}{σ:St}{H:Hp}{s:Shared} (I:a6 X pins σ H s):interactive X.env=false:=by simp [interactive,I.ok.kind]
def oQ (te:TE):TS:=fun D σ H=>te σ H fun _ H1=>D.nx σ H1
theorem mK (he:PE X e te) (hs:swapsWith e none pos.line X.env=pure false:=by rfl):PS X (.Expr e pos) (oQ te):=by
 intro pins s σ H D I h
 exact wpAny_Expr_any (aJ (he pins s σ H _ I h) fun v s1 ⟨x,H1,I1,r1,q1⟩=>⟨σ,H1,I1,q1⟩) I.quiet hs
def t8 (te:TE):TS:=fun D σ H=>te σ H D.rt
theorem t9 (he:PE X e te):PS X (.Return (some e) pos) (t8 te):=by
 intro pins s σ H D I h
 exact wpAny_Return_some (aJ (he pins s σ H _ I h) fun v s1 ⟨x,H1,I1,r1,q1⟩=>⟨x,σ,H1,I1,r1,q1⟩)
def yF (c:TT) (t u:TS):TS:=fun D σ H=>c σ H fun b H1=>if b=true then t D σ H1 else u D σ H1
theorem ai9 {c:Expr}{a b:List Stmt}{tc:TT} (hc:PT X c tc) (ha:dG X a t) (hb:dG X b u):PS X (.If c a b pos) (yF tc t u):=by
 intro pins s σ H D I h
 refine wpAny_If (aJ (hc pins s σ H _ I h) fun d s1 ⟨H1,I1,q1⟩=>?_)
 cases d with
 | true=>exact ha pins s1 σ H1 D I1 q1
 | false=>exact hb pins s1 σ H1 D I1 q1
def aj0:TS:=fun _ _ _=>False
theorem aj1:PS X st aj0:=fun _ _ _ _ _ _ h=>h.elim
end
abbrev TG:=V->St->Hp->(St->Hp->Prop)->Prop
abbrev jV:=List V->St->Hp->(St->Hp->Prop)->Prop
def PG (X:Cx) (target:Expr) (t:TG):Prop:=
 ∀ (pins:List (Addr × Obj)) (s:Shared) (σ:St) (H:Hp) (v:V) (u:Value) (Q:St->Hp->Prop),a6 X pins σ H s->aQ v u->t v σ H Q->
  wpAny (model X.prog X.w) X.A (assign target X.env u) (fun _ s'=>∃ σ' H',a6 X pins σ' H' s'/\Q σ' H') X.xe s
def oR (X:Cx) (ts:List Expr) (t:jV):Prop:=
 ∀ (pins:List (Addr × Obj)) (s:Shared) (σ:St) (H:Hp) (vs:List V) (us:List Value) (Q:St->Hp->Prop),a6 X pins σ H s->aH vs us->t vs σ H Q->
  wpAny (model X.prog X.w) X.A (assignInOrder ((assignEach ts X.env).map (·.2)) us) (fun _ s'=>∃ σ' H',a6 X pins σ' H' s'/\Q σ' H') X.xe s
section
variable {X : Cx} {pos : Pos}
def dA (i:Nat):TG:=fun v σ H Q=>Q (σ.set i (some v)) H
theorem i4 {i:Nat}{x:Str} (hN:X.N.Nodup) (hi:X.N[i]? = some x) (hx:hV X.env.scope x) (hf:X.fn x=true ∨ X.env.scope.names.lookup x=some .local:=by first | exact .inl rfl | exact .inr rfl | assumption):PG X (.Name x pos) (dA i):=by
 intro pins s σ H v u Q I r h
 exact wpAny_assign_Name (xZ I hN hi hx r (fun s' I'=>⟨_,H,I',h⟩) hf)
def mL:jV:=fun vs σ H Q=>vs = []/\Q σ H
def i5 (t:TG) (u:jV):jV:=fun vs σ H Q=>∃ v r,vs=v :: r/\t v σ H fun σ' H'=>u r σ' H' Q
theorem tD:oR X [] mL:=by
 intro pins s σ H vs us Q I r h
 obtain ⟨e,h⟩:=h
 subst e
 cases r
 exact assignInOrder_nil ⟨σ,H,I,h⟩
theorem kY {e:Expr}{es:List Expr}{t:TG}{u:jV} (h1:PG X e t) (h2:oR X es u)
  (hs:(assignEach (e :: es) X.env).map (·.2)=assign e X.env :: (assignEach es X.env).map (·.2):=by rfl):oR X (e :: es) (i5 t u):=by
 intro pins s σ H vs us Q I r h
 obtain ⟨v,vr,e1,h⟩:=h
 subst e1
 cases r with
 | cons r rr=>
  rw [hs]
  refine assignInOrder_cons (aJ (h1 pins s σ H _ _ _ I r h) fun _ s1 ⟨σ1,H1,I1,q1⟩=>?_)
  exact h2 pins s1 σ1 H1 _ _ Q I1 rr q1
def mM (K:PySem.W.Frag) (n:Nat) (t:jV):TG:=fun v σ H Q=>∃ a xs,v = .ref a/\aF K H a xs/\xs.length=n/\t xs σ H Q
theorem tE {es:List Expr}{k:Nat}{t:jV}{n:Nat} (hc:X.calm=true) (h:oR X es t)
  (hn:(assignEach es X.env).length=n:=by rfl) (hst:(assignEach es X.env).findIdx? (·.1)=none:=by rfl):PG X (.Tuple es k pos) (mM X.K n t):=by
 intro pins s σ H v u Q I r hw
 obtain ⟨a,xs,e1,hq,hl,hw⟩:=hw
 subst e1
 cases r
 obtain ⟨its,rv,ht,hz⟩:=I.tuple hq
 refine assign_Tuple_tuple (I.ok.hd hc) ht (by simp [hn,<- hl,rv.length]) hst fun h' hx=>?_
 have I1:a6 X pins σ H { s with heap:=h' }:=I.kept (t':=s.toks) fun b o e=>hx b o (bj5 (bh9 e)) e
 exact h pins _ σ H xs _ Q I1 (by simpa using rv) hw
def mO (te:TE) (g:TG):TS:=fun D σ H=>te σ H fun x H1=>g x σ H1 D.nx
theorem yG {i:Nat}{x:Str}{e:Expr}{te:TE}{pos':Pos} (hN:X.N.Nodup) (hi:X.N[i]? = some x) (hx:hV X.env.scope x) (he:PE X e te) (hs:swapsWith e (some (.Name x pos')) pos.line X.env=pure false:=by rfl) (hf:X.fn x=true ∨ X.env.scope.names.lookup x=some .local:=by first | exact .inl rfl | exact .inr rfl | assumption) :
  PS X (.Assign [.Name x pos'] e pos) (mO te (dA i)):=by
 intro pins s σ H D I h
 refine wpAny_Assign_Name (aJ (he pins s σ H _ I h) fun v s1 ⟨y,H1,I1,r1,q1⟩=>?_) hs
 exact xZ I1 hN hi hx r1 (fun s2 I2=>⟨_,H1,I2,q1⟩) hf
end
section
variable {X : Cx} {pos : Pos}
def yH (c:TT) (tb:TS):TS:=fun D σ H=>∃ W:Nat->St->Hp->Prop,(∃ m,W m σ H)/\∀ m σ H,W m σ H->
 c σ H fun b H1=>if b=true then ∃ N:St->Hp->Prop,(∀ σ' H',N σ' H'->∃ m',m' < m/\W m' σ' H')/\tb { D with nx:=N,ct:=N,bk:=D.nx } σ H1 else D.nx σ H1
theorem aj2 {c:Expr}{body:List Stmt}{tc:TT}{tb:TS} (hp:PassesOwn (model X.prog X.w) X.A X.env X.xe) (hc:PT X c tc) (hb:dG X body tb):PS X (.While c body [] pos) (yH tc tb):=by
 intro pins s σ H D I h
 obtain ⟨W,⟨m0,w0⟩,turn⟩:=h
 refine wpAny_While (codeAny_whileLoop (fun n s'=>∃ σ' H',a6 X pins σ' H' s'/\W n σ' H') ?_ m0 ⟨σ,H,I,w0⟩)
 rintro n s1 ⟨σ1,H1,I1,w1⟩
 refine bw9 hp (aJ (hc pins s1 σ1 H1 _ I1 (turn n σ1 H1 w1)) fun b s2 ⟨H2,I2,q2⟩=>?_)
 cases b with
 | true=>
  obtain ⟨N,hN,q2⟩:=q2
  rw [if_pos rfl]
  refine bw9 hp (aJ (hb pins s2 σ1 H2 _ I2 q2) fun f s3 q3=>?_)
  cases f with
  | next=>
   obtain ⟨σ3,H3,I3,n3⟩:=q3
   obtain ⟨m',hm,w3⟩:=hN σ3 H3 n3
   exact⟨m',hm,σ3,H3,I3,w3⟩
  | cont=>
   obtain ⟨σ3,H3,I3,n3⟩:=q3
   obtain ⟨m',hm,w3⟩:=hN σ3 H3 n3
   exact⟨m',hm,σ3,H3,I3,w3⟩
  | brk=>exact q3
  | ret v=>exact q3
 | false=>
  rw [if_neg bi7]
  exact wpAny_execs_nil ⟨σ1,H2,I2,q2⟩
end
structure It where
 go:Nat->Hp->Prop
 yld:Nat->Hp->V->Hp->Prop
 stop:Nat->Hp->Prop
def fD (X:Cx) (pins:List (Addr × Obj)) (H:Hp) (b:Addr):Prop:=
 H b=none/\b ≠ X.env.locals/\b ∉ X.fs/\(b ∈ X.ex ∨ X.s₀.heap.objs.size<=b)/\(∀ x c,X.env.cells.lookup x=some c->c ≠ b)/\∀ p ∈ X.pn ++ pins,p.1 ≠ b
theorem a6.fpOk {X:Cx}{pins:List (Addr × Obj)}{σ:St}{H H':Hp}{s:Shared}{b:Addr} (I:a6 X pins σ H s) (hb:s.heap.objs.size<=b) (hn:H' b=none):fD X pins H' b:=by
 refine⟨hn,bo0 (bi5 I.lt hb),I.nofs hb,.inr (bk9 I.sz hb),fun x c e z=>?_,fun p hp z=>?_⟩
 ·obtain ⟨v,q⟩:=I.cell x c e
  exact absurd (bi5 q.lt (by rw [z]; exact hb)) (bm1 _)
 ·exact absurd (bi5 (bh9 (I.pin p hp).1) (by rw [z]; exact hb)) (bm1 _)
structure gN (P:Program) (w:World) (K:PySem.W.Frag) (tg:Expr) (J:It) (fp:List Addr) (it:Addr) (tn:Nat->Heap->Prop):Prop where
 mem:it ∈ fp
 obj:∀ i h,tn i h->∀ b ∈ fp,∃ o,h.get? b=some o/\∀ v,o.data ≠ .cell v
 keep:∀ i h h',tn i h->(∀ b ∈ fp,∀ o,h.get? b=some o->h'.get? b=some o)->tn i h'
 item:∀ (X:Cx),X.prog=P->X.w=w->X.K=K->X.calm=true->∀ (i:Nat) (pins:List (Addr × Obj)) (s:Shared) (σ:St) (H:Hp) (E:Value->Shared->Prop),a6 X pins σ H s->(∀ b ∈ fp,fD X pins H b)->tn i s.heap->J.go i H->
  wpAny (model P w) X.A (pyNext (.ref it)) (fun r s1=>∃ u,r=some u/\
   wpAny (model P w) X.A (letOwnedTupleGo tg (.ref it) u) (fun _ s2=>∃ x H',a6 X pins σ H' s2/\aQ x u/\J.yld i H x H'/\tn (i+1) s2.heap/\∀ b ∈ fp,H' b=none) E s1) E s
 done:∀ (X:Cx),X.prog=P->X.w=w->X.K=K->X.calm=true->∀ (i:Nat) (pins:List (Addr × Obj)) (s:Shared) (σ:St) (H:Hp) (E:Value->Shared->Prop),a6 X pins σ H s->(∀ b ∈ fp,fD X pins H b)->tn i s.heap->J.stop i H->
  wpAny (model P w) X.A (pyNext (.ref it)) (fun r s1=>r=none/\a6 X pins σ H s1) E s
 self:∀ (A:Around) (i:Nat) (s:Shared) (Q:Value->Shared->Prop) (E:Value->Shared->Prop),tn i s.heap->Q (.ref it) s->wpAny (model P w) A (pyIter (.ref it)) Q E s
abbrev TI:=St->Hp->(It->Hp->Prop)->Prop
def yI (X:Cx) (pins:List (Addr × Obj)) (σ:St) (tg:Expr) (R:It->Hp->Prop) (itv:Value) (s2:Shared):Prop:=
 ∃ (it:Addr) (fp:List Addr) (tn:Nat->Heap->Prop) (J:It) (H':Hp),itv = .ref it/\a6 X pins σ H' s2/\gN X.prog X.w X.K tg J fp it tn/\tn 0 s2.heap/\(∀ b ∈ fp,fD X pins H' b)/\R J H'
def PI (X:Cx) (tg iter:Expr) (wi:TI):Prop:=
 ∀ (pins:List (Addr × Obj)) (s:Shared) (σ:St) (H:Hp) (R:It->Hp->Prop),a6 X pins σ H s->wi σ H R->
  wpAny (model X.prog X.w) X.A (eval iter X.env) (fun v s1=>wpAny (model X.prog X.w) X.A (pyIter v) (yI X pins σ tg R) X.xe s1) X.xe s
theorem tF {M:Model}{A:Around}{E:Value->Shared->Prop}{s:Shared}{tg:Expr}{it:Addr}{u:Value}{o:Obj}{n:String}{vs:Array Value}{Q:Unit->Shared->Prop} (ho:s.heap.get? it=some o) (hc:o.cls = .type n) (hd:o.data = .fields vs)
    (hn : ["enumerate","zip","dict_itemiterator","dict_reverseitemiterator","odict_iterator","itertools.zip_longest","itertools.pairwise"].contains n=false) (hQ:Q () s):wpAny M A (letOwnedTupleGo tg (.ref it) u) Q E s:=by
  unfold letOwnedTupleGo
  cases tg <;> first
    | exact bg8 hQ
    | (cases u <;> first
        | exact bg8 hQ
        | (refine bg5 (wpAny_load ho ?_)
           rw [hc,hd]
           show wpAny M A (if (["enumerate","zip","dict_itemiterator","dict_reverseitemiterator","odict_iterator","itertools.zip_longest","itertools.pairwise"].contains n && vs[0]? == some (rawInt _))=true then _ else _) Q E s
           rw [if_neg (by intro h; rw [hn,bx8] at h; cases h)]
           exact bg8 hQ))
def kZ (K:PySem.W.Frag) (a:Addr):It:=
 ⟨fun i H=>∃ xs x,aI K H a xs/\xs[i]? = some x,fun i H x H'=>H'=H/\∀ xs,aI K H a xs->xs[i]? = some x,fun i H=>∃ xs,aI K H a xs/\xs.length<=i⟩
def j4 (K:PySem.W.Frag) (a:Addr):It:=
 ⟨fun i H=>∃ xs x,aF K H a xs/\xs[i]? = some x,fun i H x H'=>H'=H/\∀ xs,aF K H a xs->xs[i]? = some x,fun i H=>∃ xs,aF K H a xs/\xs.length<=i⟩
def mP (lo:Int) (n:Nat):It:=⟨fun i _=>i < n,fun i H x H'=>H'=H/\x = .int (lo+i),fun i _=>n<=i⟩
theorem aj3 {P:Program}{w:World}{K:PySem.W.Frag}{tg:Expr} (a it:Addr):gN P w K tg (kZ K a) [it] it (fun i h=>h.IsListIter it a i) where
 mem:=by simp
 obj:=fun i h st b hb=>by
  have e:b=it:=by simpa using hb
  subst e
  obtain ⟨o,e,c,d⟩:=st
  exact⟨o,e,fun v z=>by rw [d] at z; cases z⟩
 keep:=fun i h h' st k=>st.at fun o e=>k it (by simp) o e
 item:=by
  intro X hP hw hK hc i pins s σ H E I hf st hg
  subst hP hw hK
  obtain ⟨xs,x,hq,hx⟩:=hg
  obtain ⟨its,rv,p,hz⟩:=I.list hq
  obtain ⟨u,hu,ru⟩:=rv.get hx
  obtain ⟨f0,f1,f2,f3,f4,f5⟩:=hf it (by simp)
  refine wpAny_pyNext_list_item st p.isList (x:=u) (by simpa using hu) fun h' st' sb=>?_
  have I1:a6 X pins σ H { s with heap:=h' }:=I.turned (t':=s.toks) (fun b o hb e=>(sb.2 b hb).trans e) f0 f1 f3 f4 f5
  obtain ⟨o,e,c,d⟩:=id st'
  exact⟨u,rfl,tF (s:={ s with heap:=h' }) e c d (by decide) ⟨x,H,I1,ru,⟨rfl,fun ys hy=>by rw [I.list_inj hy hq]; exact hx⟩,st',fun b hb=>(hf b hb).1⟩⟩
 done:=by
  intro X hP hw hK hc i pins s σ H E I hf st hg
  subst hP hw hK
  obtain ⟨xs,hq,hx⟩:=hg
  obtain ⟨its,rv,p,hz⟩:=I.list hq
  obtain ⟨f0,f1,f2,f3,f4,f5⟩:=hf it (by simp)
  have hl:=rv.length
  exact wpAny_pyNext_list_end (I.ok.hd hc) st p.isList (by simp; omega) fun h' eb=>⟨rfl,I.turned (t':=s.toks) (fun b o hb e=>eb b o hb e) f0 f1 f3 f4 f5⟩
 self:=fun _ _ _ _ _ st h=>wpAny_pyIter_listiter st h
theorem yJ {P:Program}{w:World}{K:PySem.W.Frag}{tg:Expr} (a it:Addr):gN P w K tg (j4 K a) [it] it (fun i h=>h.IsTupleIter it a i) where
 mem:=by simp
 obj:=fun i h st b hb=>by
  have e:b=it:=by simpa using hb
  subst e
  obtain ⟨o,e,c,d⟩:=st
  exact⟨o,e,fun v z=>by rw [d] at z; cases z⟩
 keep:=fun i h h' st k=>st.at fun o e=>k it (by simp) o e
 item:=by
  intro X hP hw hK hc i pins s σ H E I hf st hg
  subst hP hw hK
  obtain ⟨xs,x,hq,hx⟩:=hg
  obtain ⟨its,rv,p,hz⟩:=I.tuple hq
  obtain ⟨u,hu,ru⟩:=rv.get hx
  obtain ⟨f0,f1,f2,f3,f4,f5⟩:=hf it (by simp)
  refine wpAny_pyNext_tuple_item st (show s.heap.IsTuple a its.toArray from p) (x:=u) (by simpa using hu) fun h' st' sb=>?_
  have I1:a6 X pins σ H { s with heap:=h' }:=I.turned (t':=s.toks) (fun b o hb e=>(sb.2 b hb).trans e) f0 f1 f3 f4 f5
  obtain ⟨o,e,c,d⟩:=id st'
  exact⟨u,rfl,tF (s:={ s with heap:=h' }) e c d (by decide) ⟨x,H,I1,ru,⟨rfl,fun ys hy=>by rw [I.tuple_inj hy hq]; exact hx⟩,st',fun b hb=>(hf b hb).1⟩⟩
 done:=by
  intro X hP hw hK hc i pins s σ H E I hf st hg
  subst hP hw hK
  obtain ⟨xs,hq,hx⟩:=hg
  obtain ⟨its,rv,p,hz⟩:=I.tuple hq
  obtain ⟨f0,f1,f2,f3,f4,f5⟩:=hf it (by simp)
  have hl:=rv.length
  exact wpAny_pyNext_tuple_end (I.ok.hd hc) st (show s.heap.IsTuple a its.toArray from p) (by simp; omega) fun h' eb=>⟨rfl,I.turned (t':=s.toks) (fun b o hb e=>eb b o hb e) f0 f1 f3 f4 f5⟩
 self:=fun _ _ _ _ _ st h=>wpAny_pyIter_tupleiter st h
theorem aj4 {P:Program}{w:World}{K:PySem.W.Frag}{tg:Expr} (it:Addr) (lo:Int) (n:Nat):gN P w K tg (mP lo n) [it] it (fun i h=>IsRangeIter h it (lo+(i:Nat) * 1) ((n:Int) - (i:Nat)) 1) where
 mem:=by simp
 obj:=fun i h st b hb=>by
  have e:b=it:=by simpa using hb
  subst e
  exact⟨_,st,fun v z=>by
   have z':Data.fields _=Data.cell v:=z
   cases z'⟩
 keep:=fun i h h' st k=>k it (by simp) _ st
 item:=by
  intro X hP hw hK hc i pins s σ H E I hf st hg
  subst hP hw hK
  obtain ⟨f0,f1,f2,f3,f4,f5⟩:=hf it (by simp)
  have W:=Walks.range (prog:=X.prog) (w:=X.w) (I.ok.hd hc) it lo 1 n
  refine W.item i s _ _ hg st fun v h' tk hv st' kk=>?_
  obtain ⟨t,rfl⟩:=hv
  have I1:a6 X pins σ H { s with heap:=h',toks:=tk }:=I.turned (fun b o hb e=>kk b o (by simpa using hb) e) f0 f1 f3 f4 f5
  refine⟨_,rfl,tF (s:={ s with heap:=h',toks:=tk }) (n:="range_iterator") st' rfl rfl (by decide) ⟨.int (lo+i),H,I1,⟨t,?_⟩,⟨rfl,rfl⟩,st',fun b hb=>(hf b hb).1⟩⟩
  rw [Int.mul_one]
 done:=by
  intro X hP hw hK hc i pins s σ H E I hf st hg
  subst hP hw hK
  obtain ⟨f0,f1,f2,f3,f4,f5⟩:=hf it (by simp)
  exact wpAny_pyNext_range_end (I.ok.hd hc) st (by have:n<=i:=hg; omega) fun h' eb=>⟨rfl,I.turned (t':=s.toks) (fun b o hb e=>eb b o hb e) f0 f1 f3 f4 f5⟩
 self:=fun _ _ _ _ _ st h=>wpAny_pyIter_rangeiter st h
section
variable {X : Cx} {tg : Expr}
def aj5 (K:PySem.W.Frag) (tl:TE):TI:=fun σ H R=>tl σ H fun x H1=>∃ a,x = .ref a/\(∃ xs,aF K H1 a xs)/\R (j4 K a) H1
theorem yK {l:Expr}{tl:TE} (hl:PE X l tl):PI X tg l (aj5 X.K tl):=by
 intro pins s σ H R I h
 refine aJ (hl pins s σ H _ I h) fun v s1 ⟨x,H1,I1,r1,q1⟩=>?_
 obtain ⟨a,e,⟨xs,hq⟩,q⟩:=q1
 subst e
 cases r1
 obtain ⟨its,rv,p,hz⟩:=I1.tuple hq
 refine bu0 (show s1.heap.IsTuple a its.toArray from p) ?_
 refine⟨s1.heap.objs.size,[s1.heap.objs.size],_,_,H1,rfl,I1.kept (t':=s1.toks) fun b o e=>bg7 _ e,yJ a _,⟨_,bh8 _ rfl,rfl,rfl⟩,fun b hb=>?_,q⟩
 have e:b=s1.heap.objs.size:=by simpa using hb
 subst e
 exact I1.fpOk (bh1 _) (I1.hok.fresh (bh1 _))
theorem yL {pins:List (Addr × Obj)}{σ:St}{H:Hp}{s:Shared}{R:It->Hp->Prop}{E:Value->Shared->Prop}{lo hi:Int}{t u v:Tok}{tk:Nat} (I:a6 X pins σ H s) (h1 : -(2 ^ 62)<=lo) (h2:lo < 2 ^ 62) (h3 : -(2 ^ 62)<=hi) (h4:hi < 2 ^ 62)
  (q:R (mP lo (hi - lo).toNat) H):wpAny (model X.prog X.w) X.A (pyIter (.ref s.heap.objs.size)) (yI X pins σ tg R) E { s with heap:=s.heap.push { cls:=.type "range",data:=.fields #[.int lo t,.int hi u,.int 1 v] },toks:=tk }:=by
 refine wpAny_pyIter_range (IsRange.new ..) (small_one h1 h2 h3 h4) ?_
 have I1:a6 X pins σ H { s with heap:=s.heap.push { cls:=.type "range",data:=.fields #[.int lo t,.int hi u,.int 1 v] },toks:=tk }:=I.kept fun b o e=>bg7 _ e
 refine⟨(s.heap.push { cls:=.type "range",data:=.fields #[.int lo t,.int hi u,.int 1 v] }).objs.size,[(s.heap.push { cls:=.type "range",data:=.fields #[.int lo t,.int hi u,.int 1 v] }).objs.size],_,_,H,rfl,
  I1.kept (t':=tk) fun b o e=>bg7 _ e,aj4 _ lo (hi - lo).toNat,?_,fun b hb=>?_,q⟩
 ·have e1:lo+((0:Nat):Int) * 1=lo:=by simp
  have e2:(((hi - lo).toNat:Nat):Int) - ((0:Nat):Int)=Builtin.Range.rangeSize lo hi 1:=by rw [rangeSize_one]; split <;> omega
  show IsRangeIter _ _ (lo+((0:Nat):Int) * 1) ((((hi - lo).toNat:Nat):Int) - ((0:Nat):Int)) 1
  rw [e1,e2]
  exact bh8 _ rfl
 ·have e:b=(s.heap.push { cls:=.type "range",data:=.fields #[.int lo t,.int hi u,.int 1 v] }).objs.size:=by simpa using hb
  subst e
  exact I1.fpOk (bh1 _) (I1.hok.fresh (bh1 _))
def yM (ta:TA):TI:=fun σ H R=>ta σ H fun vs H1=>∃ j:Int,vs = [.int j]/\-(2 ^ 62)<=j/\j < 2 ^ 62/\R (mP 0 j.toNat) H1
def yN (ta:TA):TI:=fun σ H R=>ta σ H fun vs H1=>∃ i j:Int,vs = [.int i,.int j]/\(-(2 ^ 62)<=i/\i < 2 ^ 62/\-(2 ^ 62)<=j/\j < 2 ^ 62)/\R (mP i (j - i).toNat) H1
theorem aj6 {a:Expr}{ta:TA}{p pos:Pos} (hg:Gl X "range") (hm:X.mg "range" = none) (ha:PA X [a] ta) (hs:starEach [a] X.env = [(false,eval a X.env)]:=by rfl):PI X tg (.Call (.Name "range" p) [a] [] pos) (yM ta):=by
 intro pins s σ H R I h
 refine Call_ (iZ I hg hm boot_range (bq8 (aJ (ha pos pins s σ H _ I h) fun us s1 ⟨vs,H1,I1,r1,q1⟩=>?_) hs rfl))
 obtain ⟨j,e,q1,q2,q⟩:=q1
 subst e
 cases r1 with
 | cons r rr=>
  cases rr
  obtain ⟨t,rfl⟩:=r
  exact call_range_1 (yL I1 (by omega) (by omega) q1 q2 (by simpa using q))
theorem aj7 {a b:Expr}{ta:TA}{p pos:Pos} (hg:Gl X "range") (hm:X.mg "range" = none) (ha:PA X [a,b] ta) (hs:starEach [a,b] X.env = [(false,eval a X.env),(false,eval b X.env)]:=by rfl) (hs2:starEach [b] X.env = [(false,eval b X.env)]:=by rfl) :
  PI X tg (.Call (.Name "range" p) [a,b] [] pos) (yN ta):=by
 intro pins s σ H R I h
 refine Call_ (iZ I hg hm boot_range (bq8 (aJ (ha pos pins s σ H _ I h) fun us s1 ⟨vs,H1,I1,r1,q1⟩=>?_) (by rw [hs,hs2]) (by rw [hs2]; rfl)))
 obtain ⟨i,j,e,⟨q1,q2,q3,q4⟩,q⟩:=q1
 subst e
 cases r1 with
 | cons r rr=>
  cases rr with
  | cons r' rr=>
   cases rr
   obtain ⟨t,rfl⟩:=r
   obtain ⟨t',rfl⟩:=r'
   exact call_range_2 (yL I1 q1 q2 q3 q4 q)
def yO (wi:TI) (g:TG) (tb:TS):TS:=fun D σ H=>wi σ H fun J H1=>∃ W:Nat->Nat->St->Hp->Prop,(∃ m,W 0 m σ H1)/\∀ i m σ H,W i m σ H->
 (J.stop i H/\D.nx σ H) ∨ (J.go i H/\∃ N:St->Hp->Prop,(∀ σ' H',N σ' H'->∃ m',m' < m/\W (i+1) m' σ' H')/\∀ x H',J.yld i H x H'->g x σ H' fun σ2 H2=>tb { D with nx:=N,ct:=N,bk:=D.nx } σ2 H2)
def mQ (fp:List Addr) (h:Heap):List (Addr × Obj):=fp.filterMap fun b=>(h.get? b).map fun o=>(b,o)
theorem oS {fp:List Addr}{h:Heap}{b:Addr}{o:Obj} (hb:b ∈ fp) (e:h.get? b=some o):(b,o) ∈ mQ fp h:=List.mem_filterMap.mpr ⟨b,hb,by rw [e]; rfl⟩
theorem aj8 {fp:List Addr}{h:Heap}{p:Addr × Obj} (hp:p ∈ mQ fp h):p.1 ∈ fp/\h.get? p.1=some p.2:=by
 obtain ⟨b,hb,e⟩:=List.mem_filterMap.mp hp
 cases q:h.get? b with
 | none=>rw [q] at e; cases e
 | some o=>
  rw [q] at e
  have e':(b,o)=p:=bj7 e
  subst e'
  exact⟨hb,q⟩
theorem a6.pinned {pins:List (Addr × Obj)}{σ:St}{H:Hp}{s:Shared}{fp:List Addr} (I:a6 X pins σ H s) (hf:∀ b ∈ fp,fD X pins H b) (ho:∀ b ∈ fp,∃ o,s.heap.get? b=some o/\∀ v,o.data ≠ .cell v):a6 X (pins ++ mQ fp s.heap) σ H s:=
 I.pins_of fun p hp=>(bj9.mp hp).elim (fun z=>I.pin p (bl5 _ z)) fun z=>by
  obtain ⟨hb,e⟩:=aj8 z
  obtain ⟨f0,f1,f2,_⟩:=hf p.1 hb
  obtain ⟨o,e',d⟩:=ho p.1 hb
  rw [e] at e'; cases e'
  exact⟨e,f0,f1,f2,d⟩
theorem a6.unpinned {pins pl:List (Addr × Obj)}{σ:St}{H:Hp}{s:Shared} (I:a6 X (pins ++ pl) σ H s):a6 X pins σ H s:=I.pins_of fun p hp=>I.pin p (bl5 _ (bs8 _ hp))
theorem yP {iter:Expr}{body:List Stmt}{wi:TI}{g:TG}{tb:TS}{pos:Pos} (hp:PassesOwn (model X.prog X.w) X.A X.env X.xe) (hc:X.calm=true) (hi:PI X tg iter wi) (hg:PG X tg g) (hb:dG X body tb)
  (hs:∀ x,foldedSetIterable iter X.env x=pure x:=by intro _; rfl):PS X (.For tg iter body [] pos) (yO wi g tb):=by
 intro pins s σ H D I h
 refine wpAny_For (aJ (hi pins s σ H _ I h) fun v s1 h1=>aJ h1 fun itv s2 h2=>?_) hs
 obtain ⟨it,fp,tn,J,H2,e,I2,T,st2,f2,W,⟨m0,w0⟩,turn⟩:=h2
 subst e
 have stat:∀ {H':Hp},(∀ b ∈ fp,H' b=none)->∀ b ∈ fp,fD X pins H' b:=fun hn b hb=>⟨hn b hb,(f2 b hb).2⟩
 refine codeAny_forLoop_any (fun n s'=>∃ i σ' H',a6 X pins σ' H' s'/\tn i s'.heap/\(∀ b ∈ fp,H' b=none)/\W i n σ' H') ?_ m0 ⟨0,σ,H2,I2,st2,fun b hb=>(f2 b hb).1,w0⟩
 rintro n s3 ⟨i,σ3,H3,I3,st3,fr3,w3⟩
 rcases turn i n σ3 H3 w3 with ⟨stop,qn⟩ | ⟨go,N,hN,step⟩
 ·refine bw9 hp (aJ (T.done X rfl rfl rfl hc i pins s3 σ3 H3 X.xe I3 (stat fr3) st3 stop) fun r s4 ⟨hr,I4⟩=>?_)
  subst hr
  exact wpAny_execs_nil ⟨σ3,H3,I4,qn⟩
 ·refine bw9 hp (aJ (T.item X rfl rfl rfl hc i pins s3 σ3 H3 X.xe I3 (stat fr3) st3 go) fun r s4 ⟨u,hr,h4⟩=>?_)
  subst hr
  refine bw9 hp (aJ h4 fun _ s5 ⟨x,H5,I5,r5,y5,st5,fr5⟩=>?_)
  have I5':=I5.pinned (stat fr5) (T.obj _ _ st5)
  refine bw9 hp (aJ (hg _ s5 σ3 H5 x u _ I5' r5 (step x H5 y5)) fun _ s6 ⟨σ6,H6,I6,q6⟩=>?_)
  refine bw9 hp (aJ (hb _ s6 σ6 H6 _ I6 q6) fun f s7 q7=>?_)
  have again:∀ {σ7:St}{H7:Hp},a6 X (pins ++ mQ fp s5.heap) σ7 H7 s7->N σ7 H7->∃ m,m < n/\∃ i σ' H',a6 X pins σ' H' s7/\tn i s7.heap/\(∀ b ∈ fp,H' b=none)/\W i m σ' H':=fun {σ7 H7} I7 n7=>by
   obtain ⟨m',hm,w7⟩:=hN σ7 H7 n7
   refine⟨m',hm,i+1,σ7,H7,I7.unpinned,T.keep _ _ _ st5 fun b hb o e=>(I7.pin (b,o) (bl5 _ (bl5 _ (oS hb e)))).1,fun b hb=>?_,w7⟩
   obtain ⟨o,e,d⟩:=T.obj _ _ st5 b hb
   exact (I7.pin (b,o) (bl5 _ (bl5 _ (oS hb e)))).2.1
  cases f with
  | next=>obtain ⟨σ7,H7,I7,n7⟩:=q7; exact again I7 n7
  | cont=>obtain ⟨σ7,H7,I7,n7⟩:=q7; exact again I7 n7
  | brk=>obtain ⟨σ7,H7,I7,q7⟩:=q7; exact⟨σ7,H7,I7.unpinned,q7⟩
  | ret v=>obtain ⟨x7,σ7,H7,I7,r7,q7⟩:=q7; exact⟨x7,σ7,H7,I7.unpinned,r7,q7⟩
end
theorem bg2 {K:PySem.W.Frag}{a:Addr}{xs:List V}{g:TG}{tb:TS}{D:cN}{σ:St}{H:Hp} (Pv:Nat->St->Hp->Prop) (h0:Pv 0 σ H) (hl:∀ i σ H,i<=xs.length->Pv i σ H->aI K H a xs)
  (hs:∀ i x σ H,xs[i]? = some x->Pv i σ H->g x σ H fun σ2 H2=>tb { D with nx:=Pv (i+1),ct:=Pv (i+1),bk:=D.nx } σ2 H2) (hd:∀ σ H,Pv xs.length σ H->D.nx σ H) :
  ∃ W:Nat->Nat->St->Hp->Prop,(∃ m,W 0 m σ H)/\∀ i m σ H,W i m σ H->
   ((kZ K a).stop i H/\D.nx σ H) ∨ ((kZ K a).go i H/\∃ N:St->Hp->Prop,(∀ σ' H',N σ' H'->∃ m',m' < m/\W (i+1) m' σ' H')/\∀ x H',(kZ K a).yld i H x H'->g x σ H' fun σ2 H2=>tb { D with nx:=N,ct:=N,bk:=D.nx } σ2 H2):=by
 refine⟨fun i m σ H=>m=xs.length - i/\i<=xs.length/\Pv i σ H,⟨xs.length,by simp,bl6 _,h0⟩,?_⟩
 rintro i m σ H ⟨rfl,hi,p⟩
 have q:=hl i σ H hi p
 by_cases hlt:i < xs.length
 ·refine .inr ⟨⟨xs,xs[i],q,by simp [hlt]⟩,Pv (i+1),fun σ' H' p'=>⟨xs.length - (i+1),by omega,rfl,hlt,p'⟩,fun x H' y=>?_⟩
  obtain ⟨e,y⟩:=y
  subst e
  exact hs i x σ _ (y xs q) p
 ·have e:i=xs.length:=by omega
  subst e
  exact .inl ⟨⟨xs,q,bh1 _⟩,hd σ H p⟩
theorem aj9 {K:PySem.W.Frag}{a:Addr}{xs:List V}{g:TG}{tb:TS}{D:cN}{σ:St}{H:Hp} (Pv:Nat->St->Hp->Prop) (h0:Pv 0 σ H) (hl:∀ i σ H,i<=xs.length->Pv i σ H->aF K H a xs)
  (hs:∀ i x σ H,xs[i]? = some x->Pv i σ H->g x σ H fun σ2 H2=>tb { D with nx:=Pv (i+1),ct:=Pv (i+1),bk:=D.nx } σ2 H2) (hd:∀ σ H,Pv xs.length σ H->D.nx σ H) :
  ∃ W:Nat->Nat->St->Hp->Prop,(∃ m,W 0 m σ H)/\∀ i m σ H,W i m σ H->
   ((j4 K a).stop i H/\D.nx σ H) ∨ ((j4 K a).go i H/\∃ N:St->Hp->Prop,(∀ σ' H',N σ' H'->∃ m',m' < m/\W (i+1) m' σ' H')/\∀ x H',(j4 K a).yld i H x H'->g x σ H' fun σ2 H2=>tb { D with nx:=N,ct:=N,bk:=D.nx } σ2 H2):=by
 refine⟨fun i m σ H=>m=xs.length - i/\i<=xs.length/\Pv i σ H,⟨xs.length,by simp,bl6 _,h0⟩,?_⟩
 rintro i m σ H ⟨rfl,hi,p⟩
 have q:=hl i σ H hi p
 by_cases hlt:i < xs.length
 ·refine .inr ⟨⟨xs,xs[i],q,by simp [hlt]⟩,Pv (i+1),fun σ' H' p'=>⟨xs.length - (i+1),by omega,rfl,hlt,p'⟩,fun x H' y=>?_⟩
  obtain ⟨e,y⟩:=y
  subst e
  exact hs i x σ _ (y xs q) p
 ·have e:i=xs.length:=by omega
  subst e
  exact .inl ⟨⟨xs,q,bh1 _⟩,hd σ H p⟩
abbrev R2:=V->V->Hp->VK->Prop
def bN (X:Cx) (f:Value->Value->Sem Value) (r:R2):Prop:=
 ∀ (pins:List (Addr × Obj)) (s:Shared) (σ:St) (H:Hp) (x y:V) (v u:Value) (Q:VK),a6 X pins σ H s->aQ x v->aQ y u->r x y H Q->
  wpAny (model X.prog X.w) X.A (f v u) (EP X pins σ Q) X.xe s
def cD (X:Cx) (f:Value) (r:List V->Hp->VK->Prop):Prop:=
 ∀ (pins:List (Addr × Obj)) (s:Shared) (σ:St) (H:Hp) (xs:List V) (us:List Value) (Q:VK),a6 X pins σ H s->aH xs us->r xs H Q->
  wpAny (model X.prog X.w) X.A (call f us) (EP X pins σ Q) X.xe s
def ak0 (X:Cx) (r:V->Hp->(Bool->Hp->Prop)->Prop):Prop:=
 ∀ (pins:List (Addr × Obj)) (s:Shared) (σ:St) (H:Hp) (x:V) (v:Value) (Q:Bool->Hp->Prop),a6 X pins σ H s->aQ x v->r x H Q->
  wpAny (model X.prog X.w) X.A (truthy v) (TP X pins σ Q) X.xe s
def mR (r:R2) (ta tb:TE):TE:=fun σ H Q=>ta σ H fun x H1=>tb σ H1 fun y H2=>r x y H2 Q
def rI (C:Int->Int->Prop) (g:Int->Int->V):R2:=fun x y H Q=>∃ i j,x = .int i/\y = .int j/\C i j/\Q (g i j) H
def gO (g:Int->Int->V):R2:=fun x y H Q=>∃ i j,x = .int i/\y = .int j/\Q (g i j) H
section
variable {X : Cx} {a b c : Expr} {ta tb tc : TE} {pos : Pos}
theorem tG (ha:PE X a ta) (hb:PE X b tb) {pins:List (Addr × Obj)}{s:Shared}{σ:St}{H:Hp}{R:V->V->Hp->Prop} (I:a6 X pins σ H s)
  (h:ta σ H fun x H1=>tb σ H1 fun y H2=>R x y H2) {Q:Value->Shared->Prop}{f:Value->Value->Sem Value}
  (hf:∀ v u s2 x y H2,a6 X pins σ H2 s2->aQ x v->aQ y u->R x y H2->wpAny (model X.prog X.w) X.A (f v u) Q X.xe s2) :
  wpAny (model X.prog X.w) X.A (eval a X.env) (fun v s₁=>wpAny (model X.prog X.w) X.A (eval b X.env) (fun u s₂=>wpAny (model X.prog X.w) X.A (f v u) Q X.xe s₂) X.xe s₁) X.xe s:=by
 refine aJ (ha pins s σ H _ I h) fun v s1 ⟨x,H1,I1,r1,q1⟩=>?_
 refine aJ (hb pins s1 σ H1 _ I1 q1) fun u s2 ⟨y,H2,I2,r2,q2⟩=>?_
 exact hf v u s2 x y H2 I2 r1 r2 q2
theorem ak1 {op:Operator}{r:R2} (ho:bN X (binaryOp op) r) (ha:PE X a ta) (hb:PE X b tb):PE X (.BinOp a op b pos) (mR r ta tb):=by
 intro pins s σ H Q I h
 exact wpAny_BinOp (tG ha hb I h fun v u s2 x y H2 I2 rx ry q=>ho pins s2 σ H2 x y v u Q I2 rx ry q)
theorem mS {f:Value->Value->Sem Value}{C:Int->Int->Prop}{g:Int->Int->Int}
  (rule:∀ (i j:Int) (t u:Tok) (s:Shared) (Q:Value->Shared->Prop) (E:Value->Shared->Prop),C i j->Q (.int (g i j) s.toks) { s with toks:=s.toks+1 }->wpAny (model X.prog X.w) X.A (f (.int i t) (.int j u)) Q E s) :
  bN X f (rI C fun i j=>.int (g i j)):=by
 intro pins s σ H x y v u Q I rx ry h
 obtain ⟨i,j,rfl,rfl,hc,q⟩:=h
 obtain ⟨t,rfl⟩:=rx
 obtain ⟨t',rfl⟩:=ry
 exact rule i j t t' s _ _ hc ⟨.int (g i j),H,I.tok _,⟨_,rfl⟩,q⟩
theorem yQ {f:Value->Value->Sem Value}{g:Int->Int->Int}
  (rule:∀ (i j:Int) (t u:Tok) (s:Shared) (Q:Value->Shared->Prop) (E:Value->Shared->Prop),Q (.int (g i j) s.toks) { s with toks:=s.toks+1 }->wpAny (model X.prog X.w) X.A (f (.int i t) (.int j u)) Q E s) :
  bN X f (gO fun i j=>.int (g i j)):=by
 intro pins s σ H x y v u Q I rx ry h
 obtain ⟨i,j,rfl,rfl,q⟩:=h
 obtain ⟨t,rfl⟩:=rx
 obtain ⟨t',rfl⟩:=ry
 exact rule i j t t' s _ _ ⟨.int (g i j),H,I.tok _,⟨_,rfl⟩,q⟩
theorem tH {f:Value->Value->Sem Value}{g:Int->Int->Bool}
  (rule:∀ (i j:Int) (t u:Tok) (s:Shared) (Q:Value->Shared->Prop) (E:Value->Shared->Prop),Q (.bool (g i j)) s->wpAny (model X.prog X.w) X.A (f (.int i t) (.int j u)) Q E s) :
  bN X f (gO fun i j=>.bl (g i j)):=by
 intro pins s σ H x y v u Q I rx ry h
 obtain ⟨i,j,rfl,rfl,q⟩:=h
 obtain ⟨t,rfl⟩:=rx
 obtain ⟨t',rfl⟩:=ry
 exact rule i j t t' s _ _ ⟨.bl (g i j),H,I,rfl,q⟩
def tI (i j:Int):Prop:=0 < j/\j < 1073741824
def tJ (i j:Int):Prop:=0<=j/\j<=1000000/\i.natAbs < 2 ^ 64
def mT (i j:Int):Prop:=(-(2 ^ 64) < i/\i < 2 ^ 64) ∨ (-(2 ^ 64) < j/\j < 2 ^ 64)
theorem mT.ok {i j:Int} (h:mT i j):IntMulOk i j:=by
 rcases h with ⟨h1,h2⟩ | ⟨h1,h2⟩
 ·exact .of_left (intBits_le_64 h1 h2)
 ·exact .of_right (intBits_le_64 h1 h2)
theorem ak2 (k:Nat):(0:Int)<=2 ^ k:=by
 rw [two_pow_cast]
 exact Int.natCast_nonneg _
theorem ak3:bN X (binaryOp .Add) (gO fun i j=>.int (i+j)):=yQ fun _ _ _ _ _ _ _ q=>add_int q
theorem ak4:bN X (binaryOp .Sub) (gO fun i j=>.int (i - j)):=yQ fun _ _ _ _ _ _ _ q=>sub_int q
theorem ak5:bN X (binaryOp .Mult) (rI mT fun i j=>.int (i * j)):=mS fun _ _ _ _ _ _ _ hc q=>mul_int q hc.ok
theorem ak6:bN X (binaryOp .FloorDiv) (rI tI fun i j=>.int (i / j)):=mS fun i j _ _ _ _ _ hc q=>by
 have h1:(0:Int) < j:=hc.1
 have h2:j < 1073741824:=hc.2
 exact floordiv_int (by omega) (by rw [Int.fdiv_eq_ediv_of_nonneg i (by omega)]; exact q) (.inl (PyProof.noPylong_small (by omega)))
theorem ak7:bN X (binaryOp .Mod) (rI (fun _ j=>0 < j) fun i j=>.int (i % j)):=mS fun i j _ _ _ _ _ hc q=>by
 have h1:(0:Int) < j:=hc
 exact mod_int' (by omega) (by rw [Int.fmod_eq_emod_of_nonneg i (by omega)]; exact q)
theorem ak8:bN X (binaryOp .LShift) (rI tJ fun i j=>.int (i * 2 ^ j.toNat)):=mS fun _ _ _ _ _ _ _ hc q=>lshift_int_small hc.1 hc.2.1 hc.2.2 q
theorem ak9:bN X (binaryOp .RShift) (rI (fun _ j=>0<=j) fun i j=>.int (i / 2 ^ j.toNat)):=mS fun i j _ _ _ _ _ hc q=>
 rshift_int hc (by rw [Int.fdiv_eq_ediv_of_nonneg i (ak2 _)]; exact q)
end
def yR:V->V->Bool
 | .non,.non=>true | .non,.int _=>true | .int _,.non=>true | .non,.bl _=>true | .bl _,.non=>true | .non,.str _=>true | .str _,.non=>true
 | .int _,.int _=>true | .bl _,.bl _=>true | .str _,.str _=>true | .byt _,.byt _=>true
 | .int _,.str _=>true | .str _,.int _=>true | .bl _,.str _=>true | .str _,.bl _=>true
 | _,_=>false
def yT:R2:=fun x y H Q=>yR x y=true/\Q (.bl (decide (x=y))) H
def oT:R2:=fun x y H Q=>yR x y=true/\Q (.bl (!decide (x=y))) H
theorem yV {i j:Int}:decide (V.int i=V.int j)=(i == j):=by
 rw [br0]
 simp
theorem yW {i j:Bool}:decide (V.bl i=V.bl j)=(i == j):=by
 rw [br0]
 simp
theorem yX {i j:Str}:decide (V.str i=V.str j)=(i == j):=by
 rw [br0]
 simp
theorem yY {i j:Array UInt8}:decide (V.byt i=V.byt j)=(i.toList == j.toList):=by
 rw [br0]
 cases i
 cases j
 simp
section
variable {X : Cx} {a b c : Expr} {ta tb tc : TE} {pos : Pos}
theorem bP {pins:List (Addr × Obj)}{σ:St}{H:Hp}{s:Shared}{Q:VK}{k k':Bool} (I:a6 X pins σ H s) (q:Q (.bl k) H) (e:k=k'):EP X pins σ Q (.bool k') s:=by
 subst e
 exact⟨.bl k,H,I,rfl,q⟩
theorem yZ:bN X (compareOp .Eq) yT:=by
 intro pins s σ H x y v u Q I rx ry h
 obtain ⟨hs,q⟩:=h
 cases x with
 | non=>
  cases rx
  cases y with
  | non=>cases ry; exact PySem.EqNone.eq_none_none (bP I q (by simp))
  | bl j=>cases ry; exact PySem.EqNone.eq_none_bool (bP I q (by simp))
  | int j=>obtain ⟨t',rfl⟩:=ry; exact PySem.EqNone.eq_none_int (bP I q (by simp))
  | str j=>obtain ⟨t',rfl⟩:=ry; exact PySem.EqNone.eq_none_str (bP I q (by simp))
  | _=>exact absurd (show false=true from hs) bi7
 | bl i=>
  cases rx
  cases y with
  | non=>cases ry; exact PySem.EqNone.eq_bool_none (bP I q (by simp))
  | bl j=>cases ry; exact eq_bool (bP I q yW)
  | str j=>obtain ⟨t',rfl⟩:=ry; exact PySem.EqMixed.eq_bool_str (bP I q (by simp))
  | _=>exact absurd (show false=true from hs) bi7
 | int i=>
  obtain ⟨t,rfl⟩:=rx
  cases y with
  | non=>cases ry; exact PySem.EqNone.eq_int_none (bP I q (by simp))
  | int j=>obtain ⟨t',rfl⟩:=ry; exact eq_int (bP I q yV)
  | str j=>obtain ⟨t',rfl⟩:=ry; exact PySem.EqMixed.eq_int_str (bP I q (by simp))
  | _=>exact absurd (show false=true from hs) bi7
 | str i=>
  obtain ⟨t,rfl⟩:=rx
  cases y with
  | non=>cases ry; exact PySem.EqNone.eq_str_none (bP I q (by simp))
  | bl j=>cases ry; exact PySem.EqMixed.eq_str_bool (bP I q (by simp))
  | int j=>obtain ⟨t',rfl⟩:=ry; exact PySem.EqMixed.eq_str_int (bP I q (by simp))
  | str j=>obtain ⟨t',rfl⟩:=ry; exact eq_str (bP I q yX)
  | _=>exact absurd (show false=true from hs) bi7
 | byt i=>
  obtain ⟨t,rfl⟩:=rx
  cases y with
  | byt j=>obtain ⟨t',rfl⟩:=ry; exact PySem.W.eq_bytes (bP I q yY)
  | _=>exact absurd (show false=true from hs) bi7
 | _=>cases y <;> exact absurd (show false=true from hs) bi7
theorem z9:bN X (compareOp .NotEq) oT:=by
 intro pins s σ H x y v u Q I rx ry h
 obtain ⟨hs,q⟩:=h
 cases x with
 | non=>
  cases rx
  cases y with
  | non=>cases ry; exact PySem.EqNone.ne_none_none (bP I q (by simp))
  | bl j=>cases ry; exact PySem.EqNone.ne_none_bool (bP I q (by simp))
  | int j=>obtain ⟨t',rfl⟩:=ry; exact PySem.EqNone.ne_none_int (bP I q (by simp))
  | str j=>obtain ⟨t',rfl⟩:=ry; exact PySem.EqNone.ne_none_str (bP I q (by simp))
  | _=>exact absurd (show false=true from hs) bi7
 | bl i=>
  cases rx
  cases y with
  | non=>cases ry; exact PySem.EqNone.ne_bool_none (bP I q (by simp))
  | bl j=>cases ry; exact ne_bool (bP I q (congrArg not yW))
  | str j=>obtain ⟨t',rfl⟩:=ry; exact PySem.EqMixed.ne_bool_str (bP I q (by simp))
  | _=>exact absurd (show false=true from hs) bi7
 | int i=>
  obtain ⟨t,rfl⟩:=rx
  cases y with
  | non=>cases ry; exact PySem.EqNone.ne_int_none (bP I q (by simp))
  | int j=>obtain ⟨t',rfl⟩:=ry; exact ne_int (bP I q (congrArg not yV))
  | str j=>obtain ⟨t',rfl⟩:=ry; exact PySem.EqMixed.ne_int_str (bP I q (by simp))
  | _=>exact absurd (show false=true from hs) bi7
 | str i=>
  obtain ⟨t,rfl⟩:=rx
  cases y with
  | non=>cases ry; exact PySem.EqNone.ne_str_none (bP I q (by simp))
  | bl j=>cases ry; exact PySem.EqMixed.ne_str_bool (bP I q (by simp))
  | int j=>obtain ⟨t',rfl⟩:=ry; exact PySem.EqMixed.ne_str_int (bP I q (by simp))
  | str j=>obtain ⟨t',rfl⟩:=ry; exact ne_str (bP I q (congrArg not yX))
  | _=>exact absurd (show false=true from hs) bi7
 | byt i=>
  obtain ⟨t,rfl⟩:=rx
  cases y with
  | byt j=>obtain ⟨t',rfl⟩:=ry; exact PySem.W.ne_bytes (bP I q (congrArg not yY))
  | _=>exact absurd (show false=true from hs) bi7
 | _=>cases y <;> exact absurd (show false=true from hs) bi7
theorem tK:bN X (compareOp .Lt) (gO fun i j=>.bl (decide (i < j))):=tH fun _ _ _ _ _ _ _ q=>lt_int q
theorem zA:bN X (compareOp .Gt) (gO fun i j=>.bl (decide (j < i))):=tH fun _ _ _ _ _ _ _ q=>gt_int q
theorem zB:bN X (compareOp .GtE) (gO fun i j=>.bl (decide (j<=i))):=tH fun _ _ _ _ _ _ _ q=>ge_int q
theorem al0:bN X (compareOp .IsNot) (fun x y H Q=>y = .non/\Q (.bl (!decide (x = .non))) H):=by
 intro pins s σ H x y v u Q I rx ry h
 obtain ⟨rfl,q⟩:=h
 cases ry
 refine isnot_none_gen (bP I q ?_)
 cases x <;> first
  | (cases rx; rfl)
  | (obtain ⟨t,rfl⟩:=rx; rfl)
theorem dU (b:Expr) {op:CmpOp} (h:op ≠ .In:=by decide) (h2:op ≠ .NotIn:=by decide):behindInMarks op b=false:=by
 have e1:(op == CmpOp.In)=false:=by cases op <;> first | rfl | exact absurd rfl h
 have e2:(op == CmpOp.NotIn)=false:=by cases op <;> first | rfl | exact absurd rfl h2
 cases b <;> simp [behindInMarks,e1,e2]
theorem al1 {op:CmpOp}{r:R2} (ho:bN X (compareOp op) r) (ha:PE X a ta) (hb:PE X b tb) (hm:behindInMarks op b=false):PE X (.Compare a [op] [b] pos) (mR r ta tb):=by
 intro pins s σ H Q I h
 exact wpAny_Compare1 (tG ha hb I h fun v u s2 x y H2 I2 rx ry q=>ho pins s2 σ H2 x y v u Q I2 rx ry q) hm
def al2 (t:TE):TT:=fun σ H Q=>t σ H fun x H'=>∃ k,x = .bl k/\Q k H'
theorem al3 {op:CmpOp}{r:R2} (ho:bN X (compareOp op) r) (ha:PE X a ta) (hb:PE X b tb) (hm:behindInMarks op b=false):PT X (.Compare a [op] [b] pos) (al2 (mR r ta tb)):=by
 intro pins s σ H Q I h
 refine wpAny_isTrue_Compare1 (aJ (ha pins s σ H _ I h) fun v s1 ⟨x,H1,I1,r1,q1⟩=>aJ (hb pins s1 σ H1 _ I1 q1) fun u s2 ⟨y,H2,I2,r2,q2⟩=>
  aJ (ho pins s2 σ H2 x y v u _ I2 r1 r2 q2) fun c s3 ⟨z,H3,I3,r3,k,e,q3⟩=>?_) hm
 subst e
 cases r3
 exact br7 ⟨H3,I3,q3⟩
def tL (K:PySem.W.Frag) (x:V) (H:Hp) (k:Bool):Prop:=
 match x with
 | .non=>k=false
 | .bl b=>k=b
 | .int i=>k=(i != 0)
 | .str y=>y.length<=sizeLine/\k=((y.length:Int) != 0)
 | .byt y=>y.size<=sizeLine/\k=((y.size:Int) != 0)
 | .ref p=>(∃ xs,aI K H p xs/\k = !xs.isEmpty) ∨ (∃ xs,aF K H p xs/\k = !xs.isEmpty) ∨ ∃ kvs,H p=some (.dK kvs)/\k = !kvs.isEmpty
 | _=>False
theorem al4 {κ:Type}{kvs:List (κ × V)}{vs:List (κ × Value)} (r:KV kvs vs):(!vs.isEmpty) = !kvs.isEmpty:=by
 cases r <;> rfl
theorem zC {xs:List V}{its:List Value} (r:aH xs its):(!its.toArray.isEmpty) = !xs.isEmpty:=by
 cases r <;> simp
theorem mV:(sizeLine:Nat) < 2 ^ 63:=by rw [sizeLine_eq]; decide
theorem al5:ak0 X (fun x H Q=>∃ k,tL X.K x H k/\Q k H):=by
 intro pins s σ H x v Q I rx h
 obtain ⟨k,e,q⟩:=h
 have hl:=mV
 have hs:sizeLine=16777216:=sizeLine_eq
 cases x with
 | non=>
  cases rx
  have e':k=false:=e
  subst e'
  exact truthy_none ⟨H,I,q⟩
 | bl b=>
  cases rx
  have e':k=b:=e
  subst e'
  exact br7 ⟨H,I,q⟩
 | int i=>
  obtain ⟨t,rfl⟩:=rx
  have e':k=(i != 0):=e
  subst e'
  exact PySem.P.truthy_int ⟨H,I,q⟩
 | str y=>
  obtain ⟨t,rfl⟩:=rx
  obtain ⟨hy,e'⟩:y.length<=sizeLine/\k=((y.length:Int) != 0):=e
  subst e'
  exact PySem.P.truthy_str (by omega) ⟨H,I.tok _,q⟩
 | byt y=>
  obtain ⟨t,rfl⟩:=rx
  obtain ⟨hy,e'⟩:y.size<=sizeLine/\k=((y.size:Int) != 0):=e
  subst e'
  exact PySem.W.truthy_bytes (by omega) ⟨H,I.tok _,q⟩
 | ref p=>
  cases rx
  have e':(∃ xs,aI X.K H p xs/\k = !xs.isEmpty) ∨ (∃ xs,aF X.K H p xs/\k = !xs.isEmpty) ∨ ∃ kvs,H p=some (.dK kvs)/\k = !kvs.isEmpty:=e
  rcases e' with ⟨xs,hx,e'⟩ | ⟨xs,hx,e'⟩ | ⟨kvs,hx,e'⟩
  ·subst e'
   obtain ⟨its,r,pl,hz⟩:=I.list hx
   have hlen:=r.length
   exact wpAny_truthy_list pl.isList (by simp only [bh0]; omega) ⟨H,I.tok _,by rw [zC r]; exact q⟩
  ·subst e'
   obtain ⟨its,r,pl,hz⟩:=I.tuple hx
   have hlen:=r.length
   exact truthy_tuple pl (by simp only [bh0]; omega) ⟨H,I.tok _,by rw [zC r]; exact q⟩
  ·subst e'
   obtain ⟨hz,hS,vs,r,m⟩:kvs.length<=sizeLine/\(p == sysModules)=false/\∃ vs,KV kvs vs/\s.heap.DictOf (dL X.prog X.w) p vs:=I.hok p _ hx
   have hlen:kvs.length=vs.length:=Paired.length r
   exact wpAny_truthy_dict hS m (by omega) ⟨H,I.tok _,by rw [al4 r]; exact q⟩
 | _=>exact (show False from e).elim
theorem al6 (ha:PE X a ta) (he:∀ whole,isTrue a X.env whole=(do let v <- whole; standAt a.pos; holding [v] (truthy v))) :
  PT X a (fun σ H Q=>ta σ H fun x H'=>∃ k,tL X.K x H' k/\Q k H'):=by
 intro pins s σ H Q I h
 exact isTrue_plain (aJ (ha pins s σ H _ I h) fun v s1 ⟨x,H1,I1,r1,q1⟩=>al5 pins s1 σ H1 x v Q I1 r1 q1) (he _)
theorem dW {x:V}{us:List Value} (r:aH [x] us):∃ u,us = [u]/\aQ x u:=by
 cases r with
 | cons r1 r2=>cases r2; exact⟨_,rfl,r1⟩
theorem oU {x y:V}{us:List Value} (r:aH [x,y] us):∃ u w',us = [u,w']/\aQ x u/\aQ y w':=by
 cases r with
 | cons r1 r2=>
  cases r2 with
  | cons r3 r4=>cases r4; exact⟨_,_,rfl,r1,r3⟩
theorem al7 (hc:X.calm=true):cD X (.builtin "max") (fun xs H Q=>∃ i j,xs = [.int i,.int j]/\Q (.int (if j > i then j else i)) H):=by
 intro pins s σ H xs us Q I r h
 obtain ⟨i,j,rfl,q⟩:=h
 obtain ⟨u,w',rfl,⟨t,rfl⟩,⟨t',rfl⟩⟩:=oU r
 refine max_two_ints (I.ok.hd hc) fun h' tk k=>⟨_,H,I.kept k,?_,q⟩
 by_cases hj:j > i
 ·rw [if_pos hj,if_pos hj]; exact⟨_,rfl⟩
 ·rw [if_neg hj,if_neg hj]; exact⟨_,rfl⟩
theorem al8 (hc:X.calm=true):cD X (.builtin "min") (fun xs H Q=>∃ i j,xs = [.int i,.int j]/\Q (.int (if j < i then j else i)) H):=by
 intro pins s σ H xs us Q I r h
 obtain ⟨i,j,rfl,q⟩:=h
 obtain ⟨u,w',rfl,⟨t,rfl⟩,⟨t',rfl⟩⟩:=oU r
 refine min_two_ints (I.ok.hd hc) fun h' tk k=>⟨_,H,I.kept k,?_,q⟩
 by_cases hj:j < i
 ·rw [if_pos hj,if_pos hj]; exact⟨_,rfl⟩
 ·rw [if_neg hj,if_neg hj]; exact⟨_,rfl⟩
end
structure tM (h:Heap) (x dx C:Addr) (mA:Str->Option Value):Prop where
 obj:h.get? x=some (PySem.W.instObj C dx)
 ns:h.Ns1 dx mA
 ne:dx ≠ x
theorem al9 {h:Heap}{dx:Addr}{mA:Str->Option Value} (n:h.Ns1 dx mA):∃ od,h.get? dx=some od/\∀ name,PySem.W.lookIn name od=some (mA name):=by
 obtain ⟨o,es,ep,ho,hd,hk,_,hm⟩:=n
 refine⟨o,ho,fun name=>?_⟩
 have e:=hm name
 unfold nsFind findBy at e
 rw [<- Array.find?_toList] at e
 unfold PySem.W.lookIn
 rw [hd]
 dsimp only
 split
 ·rename_i y q
  rw [q] at e
  exact congrArg some e
 ·rename_i q
  rw [q] at e
  have a:es.toList.any (·.refKey)=false:=by
   rw [List.any_eq_false]
   intro y hy
   obtain ⟨z,t,hkey⟩:=hk y (Array.mem_toList_iff.mp hy)
   simp [DictEntry.refKey,hkey]
  have a' : ¬ es.toList.any (·.refKey)=true:=by rw [a]; exact bi7
  rw [if_neg a']
  exact congrArg some e
theorem tM.look {h:Heap}{x dx C:Addr}{mA:Str->Option Value} (I:tM h x dx C mA):∃ od,PySem.W.InstAt h x (PySem.W.instObj C dx) C (some od)/\∀ name,PySem.W.lookIn name od=some (mA name):=
 let ⟨od,ho,hl⟩:=al9 I.ns
 ⟨od,⟨I.obj,rfl,rfl,ho⟩,hl⟩
section
variable {P : Program} {w : World} {H H' : Hp} {h h' : Heap} {a C dx : Addr} {fs fs' : List (Str × V)}
theorem am0 (hok:bO P w H h) (e:H a=some (.ins C dx fs)):∃ mA,tM h a dx C mA/\(∀ f,jU (fs.lookup f) (mA f))/\PySem.Within mA (fs.map (·.1))/\fs.length<=1000/\H dx=some (.own a):=by
 obtain ⟨d,z,ne,ob,mA,n,r,q⟩:=(show bA P w H h a (.ins C dx fs) from hok a _ e)
 exact⟨mA,⟨ob,n,ne⟩,r,q,z,d⟩
end
structure tN (K:PySem.W.Frag) (C:Addr):Prop where
 pg:PySem.W.plainGet K C Str.empty=true
 hd:PySem.W.hasDictIn K C=true
 po:PySem.W.plainOver K C=true
 sa:PySem.W.findIn K (.ref C) "__setattr__" = some (some (.builtin "object.__setattr__"))
theorem tN.get {K:PySem.W.Frag}{C:Addr} (c:tN K C) (f:Str):PySem.W.plainGet K C f=true:=c.pg
section
variable {X : Cx} {pins : List (Addr × Obj)} {σ : St} {H : Hp} {s : Shared} {A : Around} {E : Value → Shared → Prop} {Q : Value → Shared → Prop} {c : Value} {b : Bool}
inductive eM (K:PySem.W.Frag) (H:Hp):V->Value->Prop where
 | non:eM K H .non (.type "NoneType")
 | bl (x:Bool):eM K H (.bl x) (.type "bool")
 | int (i:Int):eM K H (.int i) (.type "int")
 | str (x:Str):eM K H (.str x) (.type "str")
 | flt (x:UInt64):eM K H (.flt x) (.type "float")
 | lst {a:Addr}{xs:List V} (e:H a=some (.lst xs)):eM K H (.ref a) (.type "list")
 | frz {a:Addr}{o:Obj}{xs:List V} (e:H a=some (.frz o (.lst xs))):eM K H (.ref a) (.type "list")
 | tup {a:Addr}{xs:List V} (e:H a=some (.tup xs)):eM K H (.ref a) (.type "tuple")
 | dK {a:Addr}{kvs:List (a9 × V)} (e:H a=some (.dK kvs)):eM K H (.ref a) (.type "dict")
 | dT {a:Addr}{kvs:List (List a9 × V)} (e:H a=some (.dT kvs)):eM K H (.ref a) (.type "dict")
 | ins {a C dx:Addr}{fs:List (Str × V)} (e:H a=some (.ins C dx fs)) (cl:tN K C) (ha:PySem.W.findIn K (.ref C) "__class__" = some (some (.builtin "object.__class__")))
   (hn:PySem.W.specialIn K (.builtin "object.__class__") "__get__" = some (some (.builtin "getset_descriptor.__get__"))) (htk:PySem.W.takesIn K (.builtin "object.__class__")=some true)
   (hm:PySem.W.mroIn K C (.type "object")=some true):eM K H (.ref a) (.ref C)
theorem am1 {x:V}{u t:Value} (I:a6 X pins σ H s) (rx:aQ x u) (ty:eM X.K H x t) (e:PySem.W.kitOne X.K t c=some b) (h:∀ tk,Q (.bool b) { s with toks:=tk }) :
  wpAny (model X.prog X.w) A (call (.builtin "isinstance") [u,c]) Q E s:=by
 cases ty with
 | non=>cases (show u=Value.none from rx); exact bq1 PySem.W.kitx_none I.kIn bx5 e (fun z=>nomatch z) h
 | bl y=>cases (show u=Value.bool y from rx); exact bq1 PySem.W.kitx_bool I.kIn bx5 e (fun z=>nomatch z) h
 | int i=>obtain ⟨t,q⟩:=(show ∃ t,u=Value.int i t from rx); cases q; exact bq1 PySem.W.kitx_int I.kIn bx5 e (fun z=>nomatch z) h
 | str y=>obtain ⟨t,q⟩:=(show ∃ t,u=Value.str y t from rx); cases q; exact bq1 PySem.W.kitx_str I.kIn bx5 e (fun z=>nomatch z) h
 | flt y=>obtain ⟨t,q⟩:=(show ∃ t,u=Value.float y t from rx); cases q; exact bq1 PySem.W.kitx_float I.kIn bx5 e (fun z=>nomatch z) h
 | @lst a xs ea=>
  cases (show u=Value.ref a from rx)
  obtain ⟨_,_,n,_,h1⟩:=(show bA X.prog X.w H s.heap a (.lst xs) from I.hok a _ ea)
  exact bq1 PySem.W.kitx_list I.kIn ⟨_,h1,rfl⟩ e (fun z=>nomatch z) h
 | @frz a ob xs ea=>
  cases (show u=Value.ref a from rx)
  obtain ⟨_,_,_,n,_,h1⟩:=(show bA X.prog X.w H s.heap a (.frz ob (.lst xs)) from I.hok a _ ea)
  exact bq1 PySem.W.kitx_list I.kIn ⟨_,h1,rfl⟩ e (fun z=>nomatch z) h
 | @tup a xs ea=>
  cases (show u=Value.ref a from rx)
  obtain ⟨_,_,_,p⟩:=(show bA X.prog X.w H s.heap a (.tup xs) from I.hok a _ ea)
  obtain ⟨o,h1,h2,_⟩:=p
  exact bq1 PySem.W.kitx_tuple I.kIn ⟨o,h1,h2⟩ e (fun z=>nomatch z) h
 | @dK a kvs ea=>
  cases (show u=Value.ref a from rx)
  obtain ⟨_,_,vs,_,p⟩:=(show bA X.prog X.w H s.heap a (.dK kvs) from I.hok a _ ea)
  obtain ⟨o,es,ep,h1,h2,_⟩:=p
  exact bq1 PySem.W.kitx_dict I.kIn ⟨o,h1,h2.1⟩ e (fun z=>nomatch z) h
 | @dT a kvs ea=>
  cases (show u=Value.ref a from rx)
  obtain ⟨_,_,xs,_,o,es,ep,h1,h2,_⟩:=(show bA X.prog X.w H s.heap a (.dT kvs) from I.hok a _ ea)
  exact bq1 PySem.W.kitx_dict I.kIn ⟨o,h1,h2.1⟩ e (fun z=>nomatch z) h
 | @ins a C dx fs ea cl ha hn htk hm=>
  cases (show u=Value.ref a from rx)
  obtain ⟨mA,O,_⟩:=am0 I.hok ea
  obtain ⟨od,J,_⟩:=O.look
  exact bq1 (PySem.W.kitx_own (cl.get _) cl.hd ha hn htk hm) I.kIn J e (fun z=>nomatch z) h
end
structure c9 (k:Nat) (A:Around):Prop where
 hd:A.handled=none
 dp:A.depth+3 * k+5 < recursionLimit
 un:A.units+16 * k+200 < cLine
theorem c9.mono {j k:Nat}{A:Around} (r:c9 k A) (h:j<=k):c9 j A:=⟨r.hd,by have:=r.dp; omega,by have:=r.un; omega⟩
theorem c9.deeper {k:Nat}{A:Around} (r:c9 (k+1) A) (env:Env):c9 k (A.deeper env):=
 ⟨r.hd,by have:=r.dp; show A.depth+1+3 * k+5 < _; omega,by have:=r.un; show A.units+3+16 * k+200 < _; omega⟩
theorem c9.depth {k:Nat}{A:Around} (r:c9 k A):A.depth < recursionLimit:=by have:=r.dp; omega
theorem c9.units {k:Nat}{A:Around} (r:c9 k A):A.units+64 < cLine:=by have:=r.un; omega
def jW:TA:=fun _ H Q=>Q [] H
def i6 (ta:TE) (tr:TA):TA:=fun σ H Q=>ta σ H fun x H1=>tr σ H1 fun xs H2=>Q (x :: xs) H2
section
variable {X : Cx} {e : Expr} {es : List Expr} {te : TE} {t : TA} {pos : Pos}
theorem fE:PA X [] jW:=fun _ _ _ _ H Q I h=>Calls.spliced_nil ⟨[],H,I,.nil,h⟩
theorem dX (ha:PE X e te) (hr:PA X es t) (hs:starEach (e :: es) X.env=(false,eval e X.env) :: starEach es X.env:=by rfl):PA X (e :: es) (i6 te t):=by
 intro pos pins s σ H Q I h
 rw [hs]
 show wpAny _ _ (spliced ((false,eval e X.env) :: backTo pos (starEach es X.env))) _ _ s
 refine Calls.spliced_cons (aJ (ha pins s σ H _ I h) fun u s1 ⟨x,H1,I1,r1,q1⟩=>?_)
 exact aJ (hr pos pins s1 σ H1 _ I1 q1) fun us s2 ⟨xs,H2,I2,r2,q2⟩=>⟨x :: xs,H2,I2,.cons r1 r2,q2⟩
def zD (t:TA):TE:=fun σ H Q=>t σ H fun xs H1=>xs.length<=sizeLine/\∀ p,H1 p=none->Q (.ref p) (upd H1 p (.tup xs))
def zE (t:TA):TE:=fun σ H Q=>t σ H fun xs H1=>xs.length<=sizeLine/\∀ p,H1 p=none->Q (.ref p) (upd H1 p (.lst xs))
theorem am2 {x1} (h:PA X es t):PE X (.Tuple es x1 pos) (zD t):=by
 intro pins s σ H Q I hq
 refine wpAny_Tuple_spliced (aJ (h pos pins s σ H _ I hq) fun us s1 ⟨xs,H1,I1,r,z,q⟩=>⟨by rw [<- r.length]; exact z,?_⟩)
 have hf:H1 s1.heap.objs.size=none:=I1.hok.fresh (bh1 _)
 refine⟨.ref s1.heap.objs.size,upd H1 s1.heap.objs.size (.tup xs),I1.laid (t':=s1.toks) (fun b u e=>bg7 _ e) (bh1 _) ?_,rfl,q _ hf⟩
 exact⟨z,us,r,⟨_,bh8 _ rfl,rfl,_,rfl⟩⟩
theorem zF (h:PA X es t):PE X (.List es pos) (zE t):=by
 intro pins s σ H Q I hq
 refine wpAny_List_spliced (aJ (h pos pins s σ H _ I hq) fun us s1 ⟨xs,H1,I1,r,z,q⟩=>⟨by rw [<- r.length]; exact z,?_⟩)
 have hf:H1 s1.heap.objs.size=none:=I1.hok.fresh (bh1 _)
 refine⟨.ref s1.heap.objs.size,upd H1 s1.heap.objs.size (.lst xs),I1.laid (t':=s1.toks) (fun b u e=>bg7 _ e) (bh1 _) ?_,rfl,q _ hf⟩
 exact⟨z,us,0,r,bh8 _ rfl⟩
end
abbrev Sp:=List V->Hp->VK->XK->Prop
abbrev fO:=List Env->Hp->Shared->XK->Value->Shared->Prop
structure oV (P:Program) (w:World) (K:PySem.W.Frag) (mg:Str->Option Value) (base:Heap) (A:Around) (outer:List Env) (s:Shared) (H:Hp):Prop where
 frames:A.frames=some outer
 mod:Mod K mg base
 bs:∀ b o,base.get? b=some o->s.heap.get? b=some o/\H b=none
 bsz:base.objs.size<=s.heap.objs.size
 funs:s.heap.FunFrames base outer
 frf:∀ b ∈ bS outer,H b=none
 hok:bO P w H s.heap
 bare:AllBare s.gens
def CE (outer:List Env) (P:Program) (w:World) (H:Hp) (s:Shared) (Q:VK) (u:Value) (s':Shared):Prop:=
 ∃ v H',s'.os=s.os/\AllBare s'.gens/\Un (bS outer) [] H H' s.heap s'.heap/\bO P w H' s'.heap/\aQ v u/\Q v H'
def CR (CX:fO) (outer:List Env) (P:Program) (w:World) (H:Hp) (s:Shared) (Q:VK) (E:XK) (r:Result) (s':Shared):Prop:=
 match r with
 | .ok (.ret u)=>CE outer P w H s Q u s'
 | .ok _=>False
 | .error e=>CX outer H s E e s'
structure cU (P:Program) (w:World) (K:PySem.W.Frag) (mg:Str->Option Value) (base:Heap) (CX:fO) (k:Nat) (f:Addr) (fd:FuncData) (ps:List Str) (sp:Sp):Prop where
 len:∀ vs H Q E,sp vs H Q E->vs.length=ps.length
 run:∀ (A:Around) (outer:List Env) (s:Shared) (H:Hp) (args:Args) (us:List Value) (vs:List V) (Q:VK) (E:XK),c9 k A->oV P w K mg base A outer s H->BindsTo s fd args (ps.zip us)->aH vs us->sp vs H Q E->
  codeAny (model P w) A (.call (.ref f) args) (CR CX outer P w H s Q E) s
theorem cU.imp {P:Program}{w:World}{K:PySem.W.Frag}{mg:Str->Option Value}{base:Heap}{CX:fO}{k:Nat}{f:Addr}{fd:FuncData}{ps:List Str}{sp sp':Sp} (F:cU P w K mg base CX k f fd ps sp)
  (h:∀ vs H Q E,sp' vs H Q E->sp vs H Q E):cU P w K mg base CX k f fd ps sp':=
 ⟨fun vs H Q E q=>F.len vs H Q E (h _ _ _ _ q),fun A outer s H args us vs Q E hr he hb hv hs=>F.run A outer s H args us vs Q E hr he hb hv (h _ _ _ _ hs)⟩
section
variable {X : Cx} {pins : List (Addr × Obj)} {σ : St} {H : Hp} {s s' : Shared}
theorem a6.env0 (I:a6 X pins σ H s):oV X.prog X.w X.K X.mg X.base X.A X.stack s H:=
 ⟨I.ok.frames,I.ok.mod,I.bs,bk9 I.ok.bsz I.sz,I.stack,I.stkFree,I.hok,I.bare⟩
theorem a6.after {Q:VK}{u:Value} (I:a6 X pins σ H s) (h:CE X.stack X.prog X.w H s Q u s'):EP X pins σ Q u s':=by
 obtain ⟨v,H',os,bare,un,hok,r,q⟩:=h
 obtain ⟨hh,g,d,t,os'⟩:=s'
 obtain rfl:os'=s.os:=os
 exact⟨v,H',I.call (h':=hh) (g':=g) (d':=d) (t':=t) (ch:=[]) un hok bare (fun b z=>absurd z (by simp)),r,q⟩
end
def tO (sp:Sp) (dvs:List V) (E:XK) (t:TA):TE:=fun σ H Q=>t σ H fun vs H1=>sp (vs ++ dvs) H1 Q E
def i7 (K:PySem.W.Frag) (fd:FuncData) (ps:List Str) (ds:List Value):Prop:=
 ∀ (s:Shared) (us:List Value),K.In s.heap->(us ++ ds).length=ps.length->BindsTo s fd ⟨us,[]⟩ (ps.zip (us ++ ds))
theorem i7.all {K:PySem.W.Frag}{fd:FuncData}{ps:List Str} (h:∀ us:List Value,us.length=ps.length->bindArgs fd ⟨us,[]⟩=pure (ps.zip us)):i7 K fd ps []:=fun s us _ hl=>by
 rw [bk6] at hl ⊢
 exact .of_eq (h us hl)
def mW (CX:fO) (X:Cx) (E:XK):Prop:=∀ (pins:List (Addr × Obj)) (σ:St) (H:Hp) (s:Shared) (e:Value) (s':Shared),a6 X pins σ H s->CX X.stack H s E e s'->X.xe e s'
section
variable {X : Cx} {CX : fO} {k : Nat} {f C : Addr} {fd : FuncData} {ps : List Str} {sp : Sp} {dvs : List V} {ds : List Value} {E : XK} {x m : Str} {p pos apos : Pos} {e o : Expr} {es : List Expr} {ta : TE} {t : TA}
theorem am3 {pins:List (Addr × Obj)}{σ:St}{H:Hp}{s:Shared}{Q:VK}{us:List Value}{vs:List V} (F:cU X.prog X.w X.K X.mg X.base CX k f fd ps sp) (hr:c9 k X.A) (hb:i7 X.K fd ps ds) (hd:aH dvs ds) (hx:mW CX X E)
  (I:a6 X pins σ H s) (r:aH vs us) (h:sp (vs ++ dvs) H Q E):wpAny (model X.prog X.w) X.A (call (.ref f) us) (EP X pins σ Q) X.xe s:=by
 have r2:aH (vs ++ dvs) (us ++ ds):=r.append hd
 have hl:(us ++ ds).length=ps.length:=by rw [<- r2.length]; exact F.len _ _ _ _ h
 refine wpAny_call (codeAny_mono (F.run X.A X.stack s H ⟨us,[]⟩ (us ++ ds) (vs ++ dvs) Q E hr I.env0 (hb s us I.kIn hl) r2 h) fun r s' hq=>?_)
 cases r with
 | error e=>exact hx pins σ H s e s' I hq
 | ok fl=>
  cases fl with
  | ret u=>exact I.after hq
  | next=>exact False.elim hq
  | brk=>exact False.elim hq
  | cont=>exact False.elim hq
theorem tP (F:cU X.prog X.w X.K X.mg X.base CX k f fd ps sp) (hr:c9 k X.A) (hg:Gl X x) (hm:X.mg x=some (.ref f)) (hk:PySem.W.keepIn X.K (.ref f)=true) (hb:i7 X.K fd ps ds) (hd:aH dvs ds) (hx:mW CX X E)
  (ha:PA X (e :: es) t) (hdb:(x == ("__debug__" : Str))=false:=by decide) (he:starEach (e :: es) X.env=(false,eval e X.env) :: starEach es X.env:=by rfl) (hpl:(backTo pos (starEach es X.env)).any (·.1)=false:=by rfl) :
  PE X (.Call (.Name x p) (e :: es) [] pos) (tO sp dvs E t):=by
 intro pins s σ H Q I h
 refine wpAny_Call_Name_kw (t6 I hg hm ?_ hdb)
 refine PySem.W.callWith_K (h₀:=X.base) I.ok.mod.kin hk (aJ (ha pos pins s σ H _ I h) fun us s1 ⟨vs,H1,I1,r,q⟩=>⟨I1.kIn,?_⟩) he hpl
 exact am3 F hr hb hd hx I1 r q
end
def PK (X:Cx) (kws:List Keyword) (t:TA):Prop:=
 ∀ (pos:Pos) (pins:List (Addr × Obj)) (s:Shared) (σ:St) (H:Hp) (Q:List V->Hp->Prop),a6 X pins σ H s->t σ H Q->wpAny (model X.prog X.w) X.A (evalAll ((backToKw pos (keywordEach kws X.env)).map (·.2))) (AP X pins σ Q) X.xe s
structure FnScope (N P:List Str) (sc:Scope):Prop where
 kind:sc.kind = .function
 co:sc.isCoroutine=false
 gen:sc.isGenerator=false
 nd:N.Nodup
 pre:N.take P.length=P
 par:∀ x ∈ P,sc.names.lookup x=some .local ∨ sc.names.lookup x=some .cell
 nofree:∀ y ∈ sc.names,y.2 ≠ .free
theorem zG {kindOf:Str->Option NameKind}{x:Str}:∀ {binds:List (Str × Value)}{m:Str->Option Value},(∀ v,(x,v) ∉ binds)->bindL kindOf binds m x=m x
 | [],_,_=>rfl
 | (n,v) :: r,m,h=>by
  unfold bindL
  rw [zG fun w hw=>h w (bi3 _ hw)]
  split
  ·have:x ≠ n:=by rintro rfl; exact h v bi0
   simp [this]
  ·rfl
theorem zH {kindOf:Str->Option NameKind}{x:Str}:∀ {binds:List (Str × Value)}{m:Str->Option Value},(∀ v,(x,v) ∉ binds)->bindC kindOf binds m x=m x
 | [],_,_=>rfl
 | (n,v) :: r,m,h=>by
  unfold bindC
  rw [zH fun w hw=>h w (bi3 _ hw)]
  split
  ·rfl
  ·have:x ≠ n:=by rintro rfl; exact h v bi0
   simp [this]
theorem zI {kindOf:Str->Option NameKind}{x:Str}{v:Value}:∀ {P:List Str}{vs:List Value}{i:Nat}{m:Str->Option Value},P.Nodup->P[i]? = some x->vs[i]? = some v->kindOf x=some .local->
  bindL kindOf (P.zip vs) m x=some v
 | [],_,_,_,_,h,_,_=>by simp at h
 | _ :: _,[],_,_,_,_,h,_=>by simp at h
 | p :: P,w :: vs,0,m,nd,h1,h2,hk=>by
  simp at h1 h2; subst h1; subst h2
  show bindL kindOf ((p,w) :: P.zip vs) m p=_
  unfold bindL
  rw [zG fun v hv=>(List.nodup_cons.mp nd).1 (List.of_mem_zip hv).1,if_pos hk]
  simp
 | p :: P,w :: vs,i+1,m,nd,h1,h2,hk=>by
  show bindL kindOf ((p,w) :: P.zip vs) m x=_
  unfold bindL
  exact zI (i:=i) (List.nodup_cons.mp nd).2 (by simpa using h1) (by simpa using h2) hk
theorem zJ {kindOf:Str->Option NameKind}{x:Str}{v:Value}:∀ {P:List Str}{vs:List Value}{i:Nat}{m:Str->Option Value},P.Nodup->P[i]? = some x->vs[i]? = some v->kindOf x ≠ some .local->
  bindC kindOf (P.zip vs) m x=some v
 | [],_,_,_,_,h,_,_=>by simp at h
 | _ :: _,[],_,_,_,_,h,_=>by simp at h
 | p :: P,w :: vs,0,m,nd,h1,h2,hk=>by
  simp at h1 h2; subst h1; subst h2
  show bindC kindOf ((p,w) :: P.zip vs) m p=_
  unfold bindC
  rw [zH fun v hv=>(List.nodup_cons.mp nd).1 (List.of_mem_zip hv).1,if_neg hk]
  simp
 | p :: P,w :: vs,i+1,m,nd,h1,h2,hk=>by
  show bindC kindOf ((p,w) :: P.zip vs) m x=_
  unfold bindC
  exact zJ (i:=i) (List.nodup_cons.mp nd).2 (by simpa using h1) (by simpa using h2) hk
def fP (N:List Str) (vs:List V):St:=vs.map some ++ List.replicate (N.length - vs.length) none
def cV (CX:fO) (P:Program) (w:World) (K:PySem.W.Frag) (mg:Str->Option Value) (base:Heap) (N:List Str) (qual:Str) (scope:Scope) (f:Addr) (cd:Value) (A:Around) (outer:List Env) (s:Shared) (H:Hp) (E:XK):Cx where
 prog:=P
 w:=w
 K:=K
 mg:=mg
 base:=base
 A:=A.deeper (envOfC qual scope s.heap.objs.size f cd)
 N:=N
 s₀:=s
 H₀:=H
 env:=envOfC qual scope s.heap.objs.size f cd
 outer:=outer
 stack:=envOfC qual scope s.heap.objs.size f cd :: outer
 ex:=[]
 calm:=true
 fn:=fun _=>true
 pn:=[]
 xe:=fun e s'=>wpAny (model P w) (A.deeper (envOfC qual scope s.heap.objs.size f cd)) (leaving (envOfC qual scope s.heap.objs.size f cd) e) (fun _ s''=>CX outer H s E e s'') (fun e' s''=>CX outer H s E e' s'') s'
theorem zK {sc:Scope}{n:Nat}{x:Str} (h:sc.names.lookup x=some .cell):∃ c,(cellsFrom n sc.names []).lookup x=some c:=by
 have q:=PySem.W.cellsFrom_some sc.names n [] (.inl h)
 exact Option.isSome_iff_exists.mp q
theorem am4 {CX:fO}{P:Program}{w:World}{K:PySem.W.Frag}{mg:Str->Option Value}{base:Heap}{N ps:List Str}{qual:Str}{scope:Scope}{f:Addr}{cd:Value}{A:Around}{outer:List Env}{s s1:Shared}{H:Hp}{E:XK}{us:List Value}{vs:List V}
  (S:FnScope N ps scope) (hd:A.handled=none) (e0:oV P w K mg base A outer s H) (hl:vs.length=ps.length) (r:aH vs us)
  (x:InCallC s s.heap.objs.size (bindL (envOfC qual scope s.heap.objs.size f cd).kindOf (ps.zip us) fun _=>none) (cellsFrom (s.heap.objs.size+1) scope.names []) (bindC (envOfC qual scope s.heap.objs.size f cd).kindOf (ps.zip us) fun _=>none) s1) :
  a6 (cV CX P w K mg base N qual scope f cd A outer s H E) [] (fP N vs) H s1:=by
 have hpl:ps.length<=N.length:=by have:=congrArg List.length S.pre; rw [br2] at this; omega
 obtain ⟨h1,tk,rfl,hk⟩:=x.done
 have noA:∀ b:Addr,b ∉ (cV CX P w K mg base N qual scope f cd A outer s H E).ex:=fun b z=>absurd (show b ∈ ([]:List Addr) from z) (by simp)
 refine⟨⟨e0.mod,S.kind,rfl,rfl,bh1 _,fun y z c h1 h2=>?_,fun y hy=>?_,fun y c _ h=>?_,fun _=>hd,Around.frames_deeper e0.frames,.inr ⟨rfl,rfl⟩,fun b z=>absurd z (noA b),e0.bs,e0.bsz,fun b _ _=>noA b,fun b z=>absurd z (noA b),e0.funs,e0.frf⟩,
  rfl,e0.bare,Un.kept hk,⟨_,x.toInCall.ns,fun i y v h1 h2 h3=>?_⟩,fun y c h=>⟨_,x.cell y c h⟩,e0.hok.fresh (bh1 _),fun y c h=>?_,fun p hp=>absurd (show p ∈ ([]:List (Addr × Obj)) from hp) (by simp),e0.hok.kept hk,?_⟩
 ·exact name_of_addr x.apart (bn6 h1) (bn6 h2)
 ·have hy:scope.names.lookup y=some .cell ∨ scope.names.lookup y=some .free:=hy
  rcases hy with hy | hy
  ·exact zK hy
  ·exact absurd rfl (S.nofree _ (bn6 hy))
 ·exact bn9 (x.above y c (bn6 h))
 ·have hi:i < vs.length:=by
   unfold fP at h2
   by_cases hi:i < vs.length
   ·exact hi
   ·rw [bp5 (by simpa using hi)] at h2
    rw [List.getElem?_replicate] at h2
    split at h2 <;> cases h2
  have ha:vs[i]? = some v:=by
   unfold fP at h2
   rw [bn5 (by simpa using hi),bi4] at h2
   cases e:vs[i]? with
   | none=>rw [e] at h2; cases h2
   | some a=>rw [e] at h2; cases h2; rfl
  obtain ⟨u,hu,rv⟩:=r.get ha
  have hp:ps[i]? = some y:=by
   rw [<- S.pre,List.getElem?_take_of_lt (by omega)]; exact h1
  have ndP:ps.Nodup:=by rw [<- S.pre]; exact S.nd.sublist (List.take_sublist _ _)
  refine⟨u,rv,?_⟩
  rcases S.par y (bm3 hp) with k | k
  ·exact .inl ⟨k,zI ndP hp hu k⟩
  ·obtain ⟨c,e⟩:=zK (n:=s.heap.objs.size+1) k
   refine .inr ⟨.inl k,c,e,?_⟩
   have q:=x.cell y c e
   rw [zJ ndP hp hu (by show scope.names.lookup y ≠ _; rw [k]; decide)] at q
   exact q
 ·exact e0.hok.fresh (bn9 (x.above y c (bn6 h)))
 ·unfold fP
  show _=N.length
  rw [bi6,bh2,bs2]
  omega
theorem zL {CX:fO}{P:Program}{w:World}{K:PySem.W.Frag}{mg:Str->Option Value}{base:Heap}{k:Nat}{f:Addr}{name qual:Str}{params:Arguments}{body:List Stmt}{scope:Scope}{dV kV doc pm cdv ct oc:Value}{an od:Option Addr}
  {osl:Array (Option Value)}{N ps:List Str}{sp:Sp} (lk:K.lookup f=some ⟨oc,od,.func (PySem.W.fnOf name qual params body scope dV kV doc pm an cdv ct),osl⟩) (hcd:PySem.W.codeIn K cdv qual=true) (S:FnScope N ps scope)
  (len:∀ vs H Q E,sp vs H Q E->vs.length=ps.length)
  (hbody:∀ (A:Around) (outer:List Env) (s:Shared) (H:Hp) (vs:List V) (Q:VK) (E:XK),c9 k (A.deeper (envOfC qual scope s.heap.objs.size f cdv))->sp vs H Q E->
   ∃ t,dG (cV CX P w K mg base N qual scope f cdv A outer s H E) body t/\t { nx:=fun _ H'=>Q .non H',rt:=Q } (fP N vs) H) :
  cU P w K mg base CX (k+1) f (PySem.W.fnOf name qual params body scope dV kV doc pm an cdv ct) ps sp:=by
 refine⟨len,fun A outer s H args us vs Q E hr e0 hb r hsp=>?_⟩
 have hl:=len _ _ _ _ hsp
 have KX:K.In s.heap:=e0.mod.kin.keeps fun b o e=>(e0.bs b o e).1
 have lim:s.heap.NoLimit:=e0.mod.nolimit.keeps fun b o e=>(e0.bs b o e).1
 have hkind:∀ y ∈ ps.zip us,scope.names.lookup y.1=some .local ∨ (scope.names.lookup y.1=some .cell/\((cellsFrom (s.heap.objs.size+1) scope.names []).lookup y.1).isSome=true):=fun ⟨n,v⟩ hy=>by
  rcases S.par n (List.of_mem_zip hy).1 with q | q
  ·exact .inl q
  ·exact .inr ⟨q,PySem.W.cellsFrom_some _ _ _ (.inl q)⟩
 refine codeAny_call_function hr.depth (KX _ _ lk) rfl S.co S.gen rfl (PySem.W.codeRec_of KX hcd) (hb _ _ _ _ ?_)
 refine wpAny_newFunctionEnv_cells S.kind hkind fun env he s1 x=>?_
 subst he
 refine⟨lim.keeps x.toInCall.keep,codeAny_func ?_⟩
 obtain ⟨t,ht,hq⟩:=hbody A outer s H vs Q E (hr.deeper _) hsp
 have I:a6 (cV CX P w K mg base N qual scope f cdv A outer s H E) [] (fP N vs) H s1:=am4 S hr.hd e0 hl r x
 refine bq7 (ht [] s1 (fP N vs) H _ I hq) (fun fl s' hs=>?_) fun e s' hs=>hs
 have fin:∀ {σ':St}{H':Hp}{v:V}{u:Value},a6 (cV CX P w K mg base N qual scope f cdv A outer s H E) [] σ' H' s'->aQ v u->Q v H'->CE outer P w H s Q u s':=
  fun {σ' H' v u} J rv q=>⟨v,H',J.os,J.bare,J.base,J.hok,rv,q⟩
 cases fl with
 | ret u=>
  obtain ⟨v,σ',H',J,rv,q⟩:=hs
  exact fin J rv q
 | next=>
  obtain ⟨σ',H',J,q⟩:=hs
  exact fin (v:=V.non) (u:=Value.none) J rfl q
 | brk=>
  obtain ⟨_,_,_,q⟩:=hs
  exact False.elim q
 | cont=>
  obtain ⟨_,_,_,q⟩:=hs
  exact False.elim q
section
variable {X : Cx} {x : Str} {p pos : Pos} {e : Expr} {es : List Expr} {t : TA} {id T : String} {r : List V → Hp → VK → Prop}
def tQ (r:List V->Hp->VK->Prop) (t:TA):TE:=fun σ H Q=>t σ H fun vs H1=>r vs H1 Q
theorem tR (hc:cD X (.builtin id) r) (hg:Gl X x) (hm:X.mg x=none) (hv:bootBuiltins x=some (.builtin id)) (ha:PA X (e :: es) t) (hn:x ≠ "__name__":=by decide) (hdb:(x == ("__debug__" : Str))=false:=by decide)
  (he:starEach (e :: es) X.env=(false,eval e X.env) :: starEach es X.env:=by rfl) (hpl:(backTo pos (starEach es X.env)).any (·.1)=false:=by rfl):PE X (.Call (.Name x p) (e :: es) [] pos) (tQ r t):=by
 intro pins s σ H Q I h
 refine wpAny_Call_Name_kw (iZ I hg hm hv ?_ hn hdb)
 exact PyProof.Rows.callWith_builtin1 (aJ (ha pos pins s σ H _ I h) fun us s1 ⟨vs,H1,I1,r1,q1⟩=>hc pins s1 σ H1 vs us Q I1 r1 q1) he hpl
theorem tS (hc:cD X (.type T) r) (hg:Gl X x) (hm:X.mg x=none) (hv:bootBuiltins x=some (.type T)) (ha:PA X (e :: es) t) (hn:x ≠ "__name__":=by decide) (hdb:(x == ("__debug__" : Str))=false:=by decide)
  (he:starEach (e :: es) X.env=(false,eval e X.env) :: starEach es X.env:=by rfl) (hpl:(backTo pos (starEach es X.env)).any (·.1)=false:=by rfl):PE X (.Call (.Name x p) (e :: es) [] pos) (tQ r t):=by
 intro pins s σ H Q I h
 refine wpAny_Call_Name_kw (iZ I hg hm hv ?_ hn hdb)
 exact bq8 (aJ (ha pos pins s σ H _ I h) fun us s1 ⟨vs,H1,I1,r1,q1⟩=>hc pins s1 σ H1 vs us Q I1 r1 q1) he hpl
end
end L2
namespace HT
open PySem PyProof.Rows
def b6:List Int->List Int->Bool
 | [],[]=>false
 | [],_ :: _=>true
 | _ :: _,[]=>false
 | x :: xs,y :: ys=>if x=y then b6 xs ys else decide (x < y)
theorem fF (x y:Int) (xs ys:List Int):b6 (x :: xs) (y :: ys)=if x=y then b6 xs ys else decide (x < y):=rfl
theorem oW:b6 [] []=false:=rfl
theorem am5 (y:Int) (ys:List Int):b6 [] (y :: ys)=true:=rfl
theorem am6 (x:Int) (xs:List Int):b6 (x :: xs) []=false:=rfl
theorem am7 (A:Around) (s:Shared) (a:Int) (t:Tok) (c:Int) (u:Tok):∃ e,SeqAt.EqAt A s (.int a t) (.int c u) e/\(e=true ↔ a=c):=
 ⟨(a == c),SeqAt.EqAt.int_int a t c u,by simp⟩
theorem am8 (A:Around) (s:Shared) (a:Int) (t:Tok) (c:Int) (u:Tok) (prog:Program) (w:World) (E:Value->Shared->Prop) (Q:Value->Shared->Prop) (h:Q (.bool (decide (a < c))) s) :
  wpAny (model prog w) A (richCompare .Lt (.int a t) (.int c u)) Q E s:=
 (PyProof.Rows.lt_int h:wpAny (model prog w) A (compareOp .Lt (.int a t) (.int c u)) Q E s)
section
open PySem.SeqAt
open PySem.AutoSeq1 (wpAny_loadPart')
open PySem.MeetsSeq PySem.MeetsSeq2 PySem.MeetsSeq3
theorem am9 (l b:Addr) (items items2:Array Value) (n n2:Nat) (dd dd2:Option Addr) (sl sl2:Array (Option Value)) (ns ms:List Int) (hi:IntsAre items.toList ns) (hj:IntsAre items2.toList ms) :
  Meets (Builtin.«tuple.__lt__» ⟨[.ref l,.ref b],[]⟩)
   (fun _ R s=>s.heap.get? l=some { cls:=.type "tuple",dict:=dd,data:=.seq items n,slots:=sl }/\s.heap.get? b=some { cls:=.type "tuple",dict:=dd2,data:=.seq items2 n2,slots:=sl2 }/\
    R (.ok (.ret (.bool (b6 ns ms)))) s):=
 .of_wp fun prog w A R s h=>by
  obtain ⟨hp,g,d,tk,os⟩:=s; obtain ⟨hl,hb,h⟩:=h
  have f2:=AutoSeq1.sub_tuple_tuple
  have z1:items.size=ns.length:=by rw [<- hi.length]; simp
  have z2:items2.size=ms.length:=by rw [<- hj.length]; simp
  wp_walk using wpAny_loadPart' hl,wpAny_loadPart' hb,wpAny_forIn_list _ (fun cC b s'=>b.1=none/\s'=⟨hp,g,d,tk,os⟩/\∃ (vs ws:List Value) (ns' ms':List Int),cC=vs.zip ws/\
   IntsAre vs ns'/\IntsAre ws ms'/\ns'.length+items2.size=ms'.length+items.size/\R (.ok (.ret (.bool (b6 ns' ms')))) ⟨hp,g,d,tk,os⟩) _
  case turn=>
   rintro ⟨y,x⟩ cC b s' ⟨hb',rfl,vs,ws,ns',ms',hz,hvi,hwi,hlen,hR⟩
   cases hvi with
   | nil=>rw [List.zip_nil_left] at hz; cases hz
   | cons a t hvi'=>
    cases hwi with
    | nil=>rw [List.zip_nil_right] at hz; cases hz
    | cons c u hwi'=>
     rw [bs5] at hz
     injection hz with hyx hrest
     injection hyx with hy hx
     subst hy hx
     rw [fF] at hR
     simp only [bk2] at hlen
     obtain ⟨e,he,hiff⟩:=am7 A.in1 ⟨hp,g,d,tk,os⟩ a t c u
     refine bg5 (he prog w _ _ ?_)
     cases e with
     | true=>
      rw [if_pos (hiff.mp rfl)] at hR
      wp_walk
      exact⟨rfl,rfl,_,_,_,_,hrest,hvi',hwi',by omega,hR⟩
     | false=>
      rw [if_neg (fun q=>absurd (hiff.mpr q) bi7)] at hR
      have hri:=am8 A.in1 ⟨hp,g,d,tk,os⟩ a t c u prog w
      wp_walk using hri
      exact⟨_,rfl,by simpa using hR⟩
  case fin=>
   rintro ⟨b1,b2⟩ s' ⟨hb',rfl,vs,ws,ns',ms',hz,hvi,hwi,hlen,hR⟩
   simp only at hb'
   subst hb'
   have hv:b6 ns' ms'=decide (items.size < items2.size):=by
    cases hvi with
    | nil=>
     cases hwi with
     | nil=>
      simp only [List.length_nil] at hlen
      rw [oW]
      exact (bh3 (by omega)).symm
     | cons c u hw=>
      simp only [List.length_nil,bk2] at hlen
      rw [am5]
      exact (bi2 (by omega)).symm
    | cons a t hv=>
     cases hwi with
     | nil=>
      simp only [List.length_nil,bk2] at hlen
      rw [am6]
      exact (bh3 (by omega)).symm
     | cons c u hw=>
      rw [bs5] at hz
      cases hz
   rw [hv] at hR
   wp_walk
   exact⟨_,rfl,by simpa [Builtin.Tuple.tupleCompareSizes] using hR⟩
  case h=>
   exact⟨rfl,rfl,items.toList,items2.toList,ns,ms,rfl,hi,hj,by omega,h⟩
end
section
variable {prog : Program} {w : World} {A : Around} {E : Value → Shared → Prop} {s : Shared}
theorem an0 {l b:Addr}{items items2:Array Value}{ns ms:List Int}{Q:Value->Shared->Prop} (hl:IsTup s.heap l items) (hb:IsTup s.heap b items2) (hi:IntsAre items.toList ns) (hj:IntsAre items2.toList ms)
  (hu:A.units < cLine) (h:Q (.bool (b6 ns ms)) s):wpAny (model prog w) A (compareOp .Lt (.ref l) (.ref b)) Q E s:=by
 obtain ⟨⟨cls,dd,data,sl⟩,ho,hc,n,hd⟩:=id hl
 obtain ⟨⟨cls2,dd2,data2,sl2⟩,ho2,hc2,n2,hd2⟩:=id hb
 simp only at hc hd hc2 hd2
 subst hc hd hc2 hd2
 exact richCompare_meets_room (op:=.Lt) ⟨_,ho,rfl⟩ ⟨_,ho2,rfl⟩ PySem.F.slot_tuple_lt PySem.F.entry_tuple_lt (PySem.F.args_tuple_lt_2 _ _) (am9 l b items items2 n n2 dd dd2 sl sl2 ns ms hi hj)
  ⟨ho,ho2,show Value.bool (b6 ns ms) ≠ Value.notImplemented/\Q (.bool (b6 ns ms)) s from ⟨(fun x=>nomatch x),h⟩⟩ hu
theorem an1 {t b:Addr}{vs ws:List Value}{Q:Value->Shared->Prop} (ht:IsTup s.heap t vs.toArray) (hb:IsTup s.heap b ws.toArray) (hv:vs ≠ [])
  (h1:ws = []->Q (.ref t) s) (h2:ws ≠ []->Q (.ref s.heap.objs.size) { s with heap:=s.heap.push { cls:=.type "tuple",data:=.seq (vs ++ ws).toArray } })
  (hsz:vs.length+ws.length<=sizeLine):wpAny (model prog w) A (binaryOp .Add (.ref t) (.ref b)) Q E s:=by
 obtain ⟨⟨cls,dd,data,sl⟩,ho,hc,n,hd⟩:=id ht
 obtain ⟨⟨cls2,dd2,data2,sl2⟩,ho2,hc2,n2,hd2⟩:=id hb
 simp only at hc hd hc2 hd2
 subst hc hd hc2 hd2
 have e:vs.toArray ++ ws.toArray=(vs ++ ws).toArray:=by simp
 by_cases hw:ws = []
 ·exact concat_meets ⟨_,ho,rfl⟩ ⟨_,ho2,rfl⟩ noFill_tuple_add seq_tuple_add PySem.F.slot_tuple_add PySem.F.entry_tuple_add (PySem.F.args_tuple_add_2 _ _)
   (tuple_addW1 t b vs.toArray ws.toArray n n2 dd dd2 sl sl2 (by simpa using hv) (by simp [hw])) ⟨ho,ho2,h1 hw⟩
 ·refine concat_meets ⟨_,ho,rfl⟩ ⟨_,ho2,rfl⟩ noFill_tuple_add seq_tuple_add PySem.F.slot_tuple_add PySem.F.entry_tuple_add (PySem.F.args_tuple_add_2 _ _)
   (tuple_addW2 t b vs.toArray ws.toArray n n2 dd dd2 sl sl2 (by simpa using hv) (by simpa using hw) (by rw [bh0,bh0]; exact hsz)) ⟨ho,ho2,?_⟩
  rw [e]
  exact h2 hw
def aP (n d:Nat):Option Int->Nat
 | none=>d
 | some v=>if v < 0 then (v+(n:Int)).toNat else min v.toNat n
theorem an2 (n d k:Nat):aP n d (some (k:Int))=min k n:=by
 show (if (k:Int) < 0 then ((k:Int)+(n:Int)).toNat else min (k:Int).toNat n)=min k n
 rw [if_neg (by omega),br8]
theorem an3 (n d:Nat) (hd:d<=n) (o:Option Int):aP n d o<=n:=by
 cases o with
 | none=>exact hd
 | some v=>
  show (if v < 0 then (v+(n:Int)).toNat else min v.toNat n)<=n
  by_cases hv:v < 0
  ·rw [if_pos hv]; omega
  ·rw [if_neg hv]; exact Nat.min_le_right _ _
theorem zM (v:Int) (n d:Nat):(if v < 0 then max (v+(n:Int)) 0 else min v (n:Int))=((aP n d (some v):Nat):Int):=by
 show (if v < 0 then max (v+(n:Int)) 0 else min v (n:Int))=(((if v < 0 then (v+(n:Int)).toNat else min v.toNat n):Nat):Int)
 by_cases hv:v < 0
 ·simp only [if_pos hv]; omega
 ·simp only [if_neg hv]; omega
theorem an4 (lo hi:Option Int) (n:Nat):Builtin.Slice.sliceAdjust lo hi 1 (n:Int)=(((aP n 0 lo:Nat):Int),((aP n n hi:Nat):Int)):=by
 have h1 : ¬ ((1:Int) < 0):=by omega
 unfold Builtin.Slice.sliceAdjust
 simp only [h1,bn2]
 refine Prod.ext ?_ ?_
 ·cases lo with
  | none=>rfl
  | some v=>exact zM v n 0
 ·cases hi with
  | none=>rfl
  | some v=>exact zM v n n
theorem an5 (i j:Nat):Builtin.Slice.slicePlaces (i:Int) (j:Int) 1=j - i:=by
 unfold Builtin.Slice.slicePlaces
 have h1:(1:Int) > 0:=by omega
 simp only [h1,if_true,Int.ediv_one]
 split <;> omega
theorem zN {v:Value}{o:Option Int}{Q:Option Int->Shared->Prop} (p:IsPart v o) (h:Q o s):wpAny (model prog w) A (Builtin.Slice.slicePartIndex v) Q E s:=by
 cases p with
 | none=>exact slicePart_none h
 | int i t=>exact slicePart_int h
theorem zO {sl:Addr}{vl vu:Value}{lo hi:Option Int}{n:Nat}{Q:Int × Int × Nat->Shared->Prop} (hs:s.heap.IsSliceOf sl vl vu .none) (pl:IsPart vl lo) (pu:IsPart vu hi)
  (h:Q (((aP n 0 lo:Nat):Int),1,aP n n hi - aP n 0 lo) s):wpAny (model prog w) A (Builtin.Slice.sliceApplied (.ref sl) (pure (n:Int))) Q E s:=by
 obtain ⟨os,hos,hcs,hds⟩:=id hs
 unfold Builtin.Slice.sliceApplied Builtin.Slice.sliceFields
 refine bg5 (bg5 (bo5 hos hds (x:=vl) rfl (bg5 (bo5 hos hds (x:=vu) rfl (bg5 (bo5 hos hds (x:=.none) rfl (bg8 ?_)))))))
 refine bg5 (slicePart_none ?_)
 show wpAny _ _ (if ((1:Int) == 0)=true then _ else _) _ _ s
 rw [if_neg (by decide)]
 refine bg5 (zN pl (bg5 (zN pu (bg5 (bg8 ?_)))))
 show wpAny _ _ (match Builtin.Slice.sliceAdjust lo hi 1 (n:Int) with | (lo,hi)=>pure (lo,(1:Int),Builtin.Slice.slicePlaces lo hi 1)) _ _ s
 rw [an4 lo hi n]
 show wpAny _ _ (pure (((aP n 0 lo:Nat):Int),(1:Int),Builtin.Slice.slicePlaces ((aP n 0 lo:Nat):Int) ((aP n n hi:Nat):Int) 1)) _ _ s
 rw [an5]
 exact bg8 h
theorem an6 (xs:Array Value) (i k:Nat):((List.range k).filterMap fun (m:Nat)=>xs[((i:Int)+(m:Int) * 1).toNat]?).toArray=((xs.toList.drop i).take k).toArray:=by
 have e:(fun (m:Nat)=>xs[((i:Int)+(m:Int) * 1).toNat]?)=fun m=>xs[i+m]?:=by
  funext m
  have:((i:Int)+(m:Int) * 1).toNat=i+m:=by omega
  rw [this]
 rw [e]
 have:=pick_run xs i k
 rw [List.filterMap_map] at this
 have e2:((fun x=>xs[x]?) ∘ fun x=>i+x)=fun m=>xs[i+m]?:=rfl
 rw [e2] at this
 rw [this]
theorem an7 {t sl:Addr}{items:Array Value}{vl vu:Value}{lo hi:Option Int}{Q:Value->Shared->Prop} (ht:IsTup s.heap t items) (hs:s.heap.IsSliceOf sl vl vu .none) (pl:IsPart vl lo) (pu:IsPart vu hi)
  (hw : ¬ (aP items.size 0 lo=0/\aP items.size items.size hi=items.size))
  (h:Q (.ref s.heap.objs.size) { s with heap:=s.heap.push { cls:=.type "tuple",data:=.seq ((items.toList.drop (aP items.size 0 lo)).take (aP items.size items.size hi - aP items.size 0 lo)).toArray } })
  (hsz:items.size<=sizeLine):wpAny (model prog w) A (getItem (.ref t) (.ref sl)) Q E s:=by
 have htake:sizeOk (.seq ((items.toList.drop (aP items.size 0 lo)).take (aP items.size items.size hi - aP items.size 0 lo)).toArray):=by
  show ((items.toList.drop (aP items.size 0 lo)).take (aP items.size items.size hi - aP items.size 0 lo)).toArray.size<=sizeLine
  rw [bh0,br2,br3,bj3]
  omega
 have hj:aP items.size items.size hi<=items.size:=an3 _ _ (bh1 _) hi
 obtain ⟨os,hos,hcs,hds⟩:=id hs
 have hTs:s.TypeIs (.ref sl) "slice":=⟨os,hos,hcs⟩
 unfold getItem
 try with_reducible refine bq4 ?_
 first | refine bg5 (bg8 ?_) | skip
 refine bg5 (wpAny_sequenceKey ht.typeIs (by decide) ?_)
 refine bg5 (bl3 (name:=Str.ofString "__getitem__") ht.typeIs bt8
  (bl0 bt8 ht.typeIs entry_tuple_getitem ?_ (args_tuple_getitem _ _)))
 show wpAny _ _ (Builtin.Tuple.tupleItemsOf (.ref t) >>= _) _ _ s
 refine bg5 (tupleItemsOf_ ht ?_)
 refine bg5 (wpAny_typeOf hTs ?_)
 rw [if_pos (by decide)]
 refine bg5 (zO hs pl pu ?_)
 have hno : ¬ ((((aP items.size 0 lo:Nat):Int) == 0 && (1:Int) == 1 && (aP items.size items.size hi - aP items.size 0 lo) == items.size)=true):=by
  intro q
  rw [bk5,bk5] at q
  have q1:((aP items.size 0 lo:Nat):Int)=0:=eq_of_beq q.1.1
  have q2:aP items.size items.size hi - aP items.size 0 lo=items.size:=eq_of_beq q.2
  exact hw ⟨by omega,by omega⟩
 show wpAny _ _ (if (((aP items.size 0 lo:Nat):Int) == 0 && (1:Int) == 1 && (aP items.size items.size hi - aP items.size 0 lo) == items.size)=true then _ else _) _ _ s
 rw [if_neg hno,an6]
 first
  | exact bg5 (m:=Builtin.Tuple.tupleExact _) (bk7 (bg8 ⟨_,rfl,bg8 h⟩) htake)
  | exact bg5 (m:=Builtin.Tuple.tupleExact _) (bk7 (bg5 (bg8 (bg8 ⟨_,rfl,bg8 h⟩))) htake)
  | exact bg5 (bg5 (m:=Builtin.Tuple.tupleExact _) (bk7 (bg8 (bg8 ⟨_,rfl,bg8 h⟩)) htake))
  | exact bg5 (bg5 (m:=Builtin.Tuple.tupleExact _) (bk7 (bg8 ⟨_,rfl,bg8 h⟩) htake))
end
end HT
namespace L2
open PySem PySem.Spec PyProof.Rows
abbrev TO:=St->Hp->(Option Int->Hp->Prop)->Prop
def PO (X:Cx) (e:Option Expr) (t:TO):Prop:=
 ∀ (pins:List (Addr × Obj)) (s:Shared) (σ:St) (H:Hp) (Q:Option Int->Hp->Prop),a6 X pins σ H s->t σ H Q->
  wpAny (model X.prog X.w) X.A (evalPart e X.env) (fun u s'=>∃ o H',a6 X pins σ H' s'/\IsPart u o/\Q o H') X.xe s
def an8:TO:=fun _ H Q=>Q none H
def an9 (t:TE):TO:=fun σ H Q=>t σ H fun x H1=>∃ i,x = .int i/\Q (some i) H1
theorem i8 {ns:List Int}:∀ {us:List Value},aH (ns.map V.int) us->IntsAre us ns:=by
 induction ns with
 | nil=>intro us r; rw [List.map_nil] at r; cases r; exact .nil
 | cons n ns ih=>
  intro us r
  rw [bn4] at r
  cases r with
  | cons r1 r2=>
   obtain ⟨t,e⟩:=r1
   subst e
   exact .cons n t (ih r2)
section
variable {X : Cx} {e : Expr} {te : TE} {lo hi : Option Expr} {tl th : TO} {pos p2 : Pos}
theorem ao0:PO X none an8:=by
 intro pins s σ H Q I h
 rw [evalPart_none]
 exact bg8 ⟨none,H,I,.none,h⟩
theorem ao1 (h:PE X e te):PO X (some e) (an9 te):=by
 intro pins s σ H Q I hw
 rw [evalPart_some]
 refine aJ (h pins s σ H _ I hw) fun u s1 ⟨x,H1,I1,r1,q1⟩=>?_
 obtain ⟨i,rfl,q⟩:=q1
 obtain ⟨t,rfl⟩:=r1
 exact⟨some i,H1,I1,.int i t,q⟩
def j5 (X:Cx) (r:V->Option Int->Option Int->Hp->VK->Prop):Prop:=
 ∀ (pins:List (Addr × Obj)) (s:Shared) (σ:St) (H:Hp) (x:V) (v vl vu:Value) (lo hi:Option Int) (sl:Addr) (Q:VK),a6 X pins σ H s->aQ x v->s.heap.IsSliceOf sl vl vu .none->IsPart vl lo->IsPart vu hi->r x lo hi H Q->
  ∃ T id,typeLookup (.type T) "__getitem__" = pure (some (.builtin id))/\s.TypeIs v T/\wpAny (model X.prog X.w) X.A (getItem v (.ref sl)) (EP X pins σ Q) X.xe s
theorem j5.or {r r':V->Option Int->Option Int->Hp->VK->Prop} (h:j5 X r) (h':j5 X r'):j5 X (fun x lo hi H Q=>r x lo hi H Q ∨ r' x lo hi H Q):=by
 intro pins s σ H x v vl vu lo hi sl Q I rx hs pl pu q
 rcases q with q | q
 ·exact h pins s σ H x v vl vu lo hi sl Q I rx hs pl pu q
 ·exact h' pins s σ H x v vl vu lo hi sl Q I rx hs pl pu q
def tSl (r:V->Option Int->Option Int->Hp->VK->Prop) (te:TE) (tl th:TO):TE:=fun σ H Q=>te σ H fun x H1=>tl σ H1 fun l H2=>th σ H2 fun u H3=>r x l u H3 Q
theorem ao2 {r:V->Option Int->Option Int->Hp->VK->Prop} (hr:j5 X r) (he:PE X e te) (hl:PO X lo tl) (hu:PO X hi th):PE X (.Subscript e (.Slice lo hi none p2) pos) (tSl r te tl th):=by
 intro pins s σ H Q I h
 refine Subscript_ (aJ (he pins s σ H _ I h) fun v s1 ⟨x,H1,I1,r1,q1⟩=>?_)
 refine wpAny_Slice (aJ (hl pins s1 σ H1 _ I1 q1) fun vl s2 ⟨l,H2,I2,pl,q2⟩=>aJ (hu pins s2 σ H2 _ I2 q2) fun vu s3 ⟨u,H3,I3,pu,q3⟩=>?_)
 rw [evalPart_none]
 refine bg8 ?_
 have I4:a6 X pins σ H3 { s3 with heap:=s3.heap.push { cls:=.type "slice",data:=.fields #[vl,vu,.none] } }:=I3.kept (t':=s3.toks) fun b ob q=>bg7 _ q
 obtain ⟨T,id,hT,ht,hg⟩:=hr pins { s3 with heap:=s3.heap.push { cls:=.type "slice",data:=.fields #[vl,vu,.none] } } σ H3 x v vl vu l u s3.heap.objs.size Q I4 r1 (Heap.IsSliceOf.new ..) pl pu q3
 show wpAny (model X.prog X.w) X.A (subscriptTail e (.Slice lo hi none p2) v (.ref s3.heap.objs.size)) (EP X pins σ Q) X.xe { s3 with heap:=s3.heap.push { cls:=.type "slice",data:=.fields #[vl,vu,.none] } }
 exact tail_any (ops:=[.ref s3.heap.objs.size,v]) ht hT hg (by with_unfolding_all rfl)
def g9 (xs:List V) (lo hi:Option Int):List V:=(xs.drop (HT.aP xs.length 0 lo)).take (HT.aP xs.length xs.length hi - HT.aP xs.length 0 lo)
theorem zP (xs:List V) (lo hi:Option Int):(g9 xs lo hi).length<=xs.length:=by
 unfold g9
 rw [br2,br3]
 omega
def ao3 (K:PySem.W.Frag):V->Option Int->Option Int->Hp->VK->Prop:=fun x lo hi H Q=>∃ a xs,x = .ref a/\aF K H a xs/\
 ¬ (HT.aP xs.length 0 lo=0/\HT.aP xs.length xs.length hi=xs.length)/\∀ p,H p=none->Q (.ref p) (upd H p (.tup (g9 xs lo hi)))
theorem ao4:j5 X (ao3 X.K):=by
 intro pins s σ H x v vl vu lo hi sl Q I rx hs pl pu h
 obtain ⟨a,xs,rfl,hx,hw,q⟩:=h
 cases rx
 obtain ⟨its,r,ht,hz⟩:=I.tuple hx
 have hlen:its.toArray.size=xs.length:=by rw [bh0]; exact r.length.symm
 refine⟨"tuple",_,PyProof.Rows.slot_tuple_getitem.lookup,ht.typeIs,?_⟩
 refine HT.an7 ht hs pl pu (by rw [hlen]; exact hw) ?_ (by rw [hlen]; exact hz)
 rw [hlen]
 refine⟨.ref s.heap.objs.size,_,I.laid (t':=s.toks) (o:=.tup (g9 xs lo hi)) (fun b ob q=>bg7 _ q) (bh1 _) ?_,rfl,q _ (I.hok.fresh (bh1 _))⟩
 exact⟨bk9 (zP xs lo hi) hz,_,(r.drop (HT.aP xs.length 0 lo)).take (HT.aP xs.length xs.length hi - HT.aP xs.length 0 lo),IsTup.new _ _⟩
def tT (K:PySem.W.Frag):R2:=fun x y H Q=>∃ a b ns ms,x = .ref a/\y = .ref b/\aF K H a (ns.map V.int)/\aF K H b (ms.map V.int)/\Q (.bl (HT.b6 ns ms)) H
theorem ao5 (hu:X.A.units < cLine):bN X (compareOp .Lt) (tT X.K):=by
 intro pins s σ H x y v u Q I rx ry h
 obtain ⟨a,b,ns,ms,rfl,rfl,ha,hb,q⟩:=h
 cases rx
 cases ry
 obtain ⟨its,r1,p1,_⟩:=I.tuple ha
 obtain ⟨its2,r2,p2,_⟩:=I.tuple hb
 have i1:IntsAre its.toArray.toList ns:=i8 r1
 have i2:IntsAre its2.toArray.toList ms:=i8 r2
 exact HT.an0 p1 p2 i1 i2 hu ⟨.bl (HT.b6 ns ms),H,I,rfl,q⟩
def ao6 (K:PySem.W.Frag):R2:=fun x y H Q=>∃ a b xs ys,x = .ref a/\y = .ref b/\aF K H a xs/\aF K H b ys/\xs ≠ []/\xs.length+ys.length<=sizeLine/\
 (ys = []->Q (.ref a) H)/\(ys ≠ []->∀ p,H p=none->Q (.ref p) (upd H p (.tup (xs ++ ys))))
theorem aH.nil_iff {xs:List V}{us:List Value} (r:aH xs us):us = [] ↔ xs = []:=by
 cases r with
 | nil=>simp
 | cons _ _=>simp
theorem ao7:bN X (binaryOp .Add) (ao6 X.K):=by
 intro pins s σ H x y v u Q I rx ry h
 obtain ⟨a,b,xs,ys,rfl,rfl,ha,hb,hx,hz,q1,q2⟩:=h
 cases rx
 cases ry
 obtain ⟨its,r1,p1,_⟩:=I.tuple ha
 obtain ⟨its2,r2,p2,_⟩:=I.tuple hb
 refine HT.an1 p1 p2 (fun z=>hx (r1.nil_iff.mp z)) (fun z=>⟨.ref a,H,I,rfl,q1 (r2.nil_iff.mp z)⟩) (fun z=>?_) (by rw [<- r1.length,<- r2.length]; exact hz)
 refine⟨.ref s.heap.objs.size,_,I.laid (t':=s.toks) (o:=.tup (xs ++ ys)) (fun b ob q=>bg7 _ q) (bh1 _) ?_,rfl,q2 (fun w=>z (r2.nil_iff.mpr w)) _ (I.hok.fresh (bh1 _))⟩
 exact⟨by rw [bi6]; exact hz,_,r1.append r2,IsTup.new _ _⟩
end
def jX (n:Nat) (i:Int):Option Nat:=if 0<=i then (if i < n then some i.toNat else none) else if -(n:Int)<=i then some (i+n).toNat else none
def atI {α:Type} (xs:List α) (i:Int):Option α:=(jX xs.length i).bind fun j=>xs[j]?
theorem ao8 {n:Nat}{i:Int}{j:Nat} (h:jX n i=some j):seqIndex? i n=some j/\j < n/\-(n:Int)<=i/\i < n:=by
 unfold jX at h
 by_cases h0:0<=i
 ·rw [if_pos h0] at h
  by_cases h1:i < n
  ·rw [if_pos h1] at h
   have e:i.toNat=j:=bj7 h
   exact⟨by rw [seqIndex_of h0 h1,e],by omega,by omega,h1⟩
  ·rw [if_neg h1] at h; cases h
 ·rw [if_neg h0] at h
  by_cases h1 : -(n:Int)<=i
  ·rw [if_pos h1] at h
   have e:(i+n).toNat=j:=bj7 h
   exact⟨by rw [seqIndex_neg (by omega) h1,e],by omega,h1,by omega⟩
  ·rw [if_neg h1] at h; cases h
theorem tU {α:Type}{xs:List α}{i:Int}{v:α} (h:atI xs i=some v):∃ j,seqIndex? i xs.length=some j/\xs[j]? = some v/\j < xs.length/\-(xs.length:Int)<=i/\i < xs.length:=by
 unfold atI at h
 cases e:jX xs.length i with
 | none=>rw [e] at h; cases h
 | some j=>
  rw [e] at h
  obtain ⟨h1,h2,h3,h4⟩:=ao8 e
  exact⟨j,h1,h,h2,h3,h4⟩
theorem l4 {α:Type}{xs:List α}{j:Nat}{v:α} (h:xs[j]? = some v):atI xs (j:Int)=some v:=by
 have hj:j < xs.length:=(bh7.mp h).1
 have e:jX xs.length (j:Int)=some j:=by
  unfold jX
  rw [if_pos (by omega),if_pos (by omega)]; simp
 unfold atI; rw [e]; exact h
def zQ (b:Expr):Prop:=∀ o i,subscripted b false o i=operate [o,i] (getItem o i)
def i9 (X:Cx) (r:R2):Prop:=
 ∀ (value slice:Expr) (pins:List (Addr × Obj)) (s:Shared) (σ:St) (H:Hp) (x y:V) (v u:Value) (Q:VK),a6 X pins σ H s->aQ x v->aQ y u->r x y H Q->
  subscripted slice false v u=operate [v,u] (getItem v u)->wpAny (model X.prog X.w) X.A (subscriptTail value slice v u) (EP X pins σ Q) X.xe s
def MtR (X:Cx) (id:String) (r:V->List V->Hp->VK->Prop):Prop:=
 ∀ (pins:List (Addr × Obj)) (s:Shared) (σ:St) (H:Hp) (x:V) (xs:List V) (v:Value) (us:List Value) (Q:VK),a6 X pins σ H s->aQ x v->aH xs us->r x xs H Q->
  wpAny (model X.prog X.w) X.A (call (.builtin id) (v :: us)) (EP X pins σ Q) X.xe s
section
variable {X : Cx} {a b : Expr} {ta tb : TE} {pos : Pos}
theorem i9.or {r r':R2} (h:i9 X r) (h':i9 X r'):i9 X (fun x y H Q=>r x y H Q ∨ r' x y H Q):=by
 intro value slice pins s σ H x y v u Q I rx ry q hs
 rcases q with q | q
 ·exact h value slice pins s σ H x y v u Q I rx ry q hs
 ·exact h' value slice pins s σ H x y v u Q I rx ry q hs
theorem mX {r:R2} (hr:i9 X r) (ha:PE X a ta) (hb:PE X b tb) (hs:zQ b):PE X (.Subscript a b pos) (mR r ta tb):=by
 intro pins s σ H Q I h
 exact Subscript_ (tG ha hb I h fun v u s2 x y H2 I2 rx ry q=>hr a b pins s2 σ H2 x y v u Q I2 rx ry q (hs _ _))
def zR (K:PySem.W.Frag):R2:=fun x y H Q=>∃ p xs i v,x = .ref p/\y = .int i/\aI K H p xs/\atI xs i=some v/\Q v H
def zS (K:PySem.W.Frag):R2:=fun x y H Q=>∃ p xs i v,x = .ref p/\y = .int i/\aF K H p xs/\atI xs i=some v/\Q v H
def zT:R2:=fun x y H Q=>∃ z i c,x = .str z/\y = .int i/\z.length<=sizeLine/\atI z.cps.toList i=some c/\Q (.str ⟨#[c]⟩) H
theorem tV:i9 X (zR X.K):=by
 intro value slice pins s σ H x y v u Q I rx ry h hs
 obtain ⟨p,xs,i,z,rfl,rfl,hq,he,q⟩:=h
 cases rx
 obtain ⟨t,rfl⟩:=ry
 obtain ⟨its,r,pl,hz⟩:=I.list hq
 obtain ⟨j,h1,h2,h3,h4,h5⟩:=tU he
 obtain ⟨w,ew,rw'⟩:=r.get h2
 have hl:=r.length
 have hn:=mV
 have fin:EP X pins σ Q w s:=⟨z,H,I,rw',q⟩
 by_cases h0:0<=i
 ·have hj:i.toNat=j:=by
   rw [seqIndex_of h0 h5] at h1
   exact bj7 h1
  exact item_listR pl.isList h0 (by omega) (by rw [hj]; simpa using ew) fin hs
 ·have hj:(i+(its.toArray.size:Int)).toNat=j:=by
   rw [seqIndex_neg (by omega) h4] at h1
   rw [bh0,<- hl]
   exact bj7 h1
  exact subscriptTail_builtinR (x:=w) pl.isList.typeIs slot_list_getitem.lookup
   (wpAny_getItem_list_neg (Q:=fun r s'=>r=w/\EP X pins σ Q r s') pl.isList (by omega) (by rw [bh0] <;> omega) (by omega) (by rw [hj]; simpa using ew) ⟨rfl,fin⟩) hs
theorem tW:i9 X (zS X.K):=by
 intro value slice pins s σ H x y v u Q I rx ry h hs
 obtain ⟨p,xs,i,z,rfl,rfl,hq,he,q⟩:=h
 cases rx
 obtain ⟨t,rfl⟩:=ry
 obtain ⟨its,r,pl,hz⟩:=I.tuple hq
 obtain ⟨j,h1,h2,h3,h4,h5⟩:=tU he
 obtain ⟨w,ew,rw'⟩:=r.get h2
 have hl:=r.length
 have hn:=mV
 have fin:EP X pins σ Q w s:=⟨z,H,I,rw',q⟩
 exact subscriptTail_builtinR (x:=w) pl.typeIs slot_tuple_getitem.lookup
  (getItem_tuple (j:=j) (Q:=fun r s'=>r=w/\EP X pins σ Q r s') pl (by omega) (by omega) (by rw [bh0,<- hl]; exact h1) (by simpa using ew) ⟨rfl,fin⟩) hs
theorem ao9:i9 X zT:=by
 intro value slice pins s σ H x y v u Q I rx ry h hs
 obtain ⟨z,i,c,rfl,rfl,hz,he,q⟩:=h
 obtain ⟨t,rfl⟩:=rx
 obtain ⟨t',rfl⟩:=ry
 obtain ⟨j,h1,h2,h3,h4,h5⟩:=tU he
 have hl:z.cps.toList.length=z.length:=by simp [Str.length]
 rw [hl] at h1 h4 h5
 have hn:=mV
 exact tail_any (typeIs_str s z t) slot_str_getitem.lookup (getItem_str (c:=c) (by
  have e1:decide (i < -(2 ^ 63:Int))=false:=bh3 (by omega)
  have e2:decide (i >= 2 ^ 63)=false:=bh3 (by omega)
  rw [e1,e2,Bool.or_false]) (by rw [h1]; simpa using h2) ⟨.str ⟨#[c]⟩,H,I.tok _,⟨_,rfl⟩,q⟩) hs
def zU (K:PySem.W.Frag):R2:=fun x y H Q=>zR K x y H Q ∨ zS K x y H Q ∨ zT x y H Q
theorem ap0:i9 X (zU X.K):=tV.or (tW.or ao9)
theorem ap1 (lo hi:Option Int) (n:Nat):(sliceBounds lo hi none n).1=((HT.aP n 0 lo:Nat):Int)/\(sliceBounds lo hi none n).2.1=((HT.aP n n hi:Nat):Int)/\(sliceBounds lo hi none n).2.2=1:=by
 refine⟨?_,?_,rfl⟩
 ·cases lo with
  | none=>simp [sliceBounds,HT.aP]
  | some i=>
   simp only [sliceBounds,HT.aP,Option.getD_none,show (1:Int) > 0 by decide,if_true]
   by_cases h:i < 0
   ·simp only [h,if_true] <;> omega
   ·simp only [h,bn2] <;> omega
 ·cases hi with
  | none=>simp [sliceBounds,HT.aP]
  | some i=>
   simp only [sliceBounds,HT.aP,Option.getD_none,show (1:Int) > 0 by decide,if_true]
   by_cases h:i < 0
   ·simp only [h,if_true] <;> omega
   ·simp only [h,bn2] <;> omega
theorem ap2 (its:List Value) (lo hi:Option Int):slicePick its.toArray lo hi none=((its.drop (HT.aP its.length 0 lo)).take (HT.aP its.length its.length hi - HT.aP its.length 0 lo)).toArray:=by
 obtain ⟨h1,h2,h3⟩:=ap1 lo hi its.toArray.size
 unfold slicePick
 rw [h1,h2,h3]
 simp only [sliceRange_one,pick_run,bh0] <;> rfl
def ap3 (K:PySem.W.Frag):V->Option Int->Option Int->Hp->VK->Prop:=fun x lo hi H Q=>∃ a xs,x = .ref a/\aI K H a xs/\∀ p,H p=none->Q (.ref p) (upd H p (.lst (g9 xs lo hi)))
theorem ap4:j5 X (ap3 X.K):=by
 intro pins s σ H x v vl vu lo hi sl Q I rx hs pl pu h
 obtain ⟨a,xs,rfl,hx,q⟩:=h
 cases rx
 obtain ⟨its,r,ht,hz⟩:=I.list hx
 have hlen:=r.length
 refine⟨"list",_,slot_list_getitem.lookup,ht.isList.typeIs,?_⟩
 refine wpAny_getItem_list_slice ht.isList hs pl pu .none (by simp) ?_ (by rw [bh0] <;> omega)
 rw [ap2,<- hlen]
 refine⟨.ref s.heap.objs.size,_,I.laid (t':=s.toks) (o:=.lst (g9 xs lo hi)) (fun b ob q=>bg7 _ q) (bh1 _) ?_,rfl,q _ (I.hok.fresh (bh1 _))⟩
 exact⟨bk9 (zP xs lo hi) hz,_,0,(r.drop (HT.aP xs.length 0 lo)).take (HT.aP xs.length xs.length hi - HT.aP xs.length 0 lo),bh8 _ rfl⟩
def iA:V->Bool
 | .non=>true
 | .bl _=>true
 | .int _=>true
 | .str _=>true
 | _=>false
def gA:V->V->Bool
 | .non,.non=>true
 | .bl a,.bl b=>a == b
 | .bl a,.int b=>(if a then 1 else 0) == b
 | .int a,.bl b=>a == (if b then 1 else 0)
 | .int a,.int b=>a == b
 | .str a,.str b=>a == b
 | _,_=>false
theorem ap5 {A:Around}{s:Shared}{y x:V}{u v:Value} (ry:aQ y u) (rx:aQ x v) (fy:iA y=true) (fx:iA x=true):SeqAt.EqAt A s u v (gA y x):=by
 cases y with
 | non=>
  cases ry
  cases x with
  | non=>cases rx; exact SeqAt.EqAt.same _
  | bl b=>cases rx; exact SeqAt.EqAt.none_bool b
  | int b=>obtain ⟨t,rfl⟩:=rx; exact SeqAt.EqAt.none_int b t
  | str b=>obtain ⟨t,rfl⟩:=rx; exact SeqAt.EqAt.none_str b t
  | _=>exact absurd (show false=true from fx) bi7
 | bl a=>
  cases ry
  cases x with
  | non=>cases rx; exact SeqAt.EqAt.bool_none a
  | bl b=>cases rx; exact SeqAt.EqAt.bool_bool a b
  | int b=>obtain ⟨t,rfl⟩:=rx; exact SeqAt.EqAt.bool_int a b t
  | str b=>obtain ⟨t,rfl⟩:=rx; exact SeqAt.EqAt.bool_str a b t
  | _=>exact absurd (show false=true from fx) bi7
 | int a=>
  obtain ⟨t',rfl⟩:=ry
  cases x with
  | non=>cases rx; exact SeqAt.EqAt.int_none a t'
  | bl b=>cases rx; exact SeqAt.EqAt.int_bool a t' b
  | int b=>obtain ⟨t,rfl⟩:=rx; exact SeqAt.EqAt.int_int a t' b t
  | str b=>obtain ⟨t,rfl⟩:=rx; exact SeqAt.EqAt.int_str a t' b t
  | _=>exact absurd (show false=true from fx) bi7
 | str a=>
  obtain ⟨t',rfl⟩:=ry
  cases x with
  | non=>cases rx; exact SeqAt.EqAt.str_none a t'
  | bl b=>cases rx; exact SeqAt.EqAt.str_bool a t' b
  | int b=>obtain ⟨t,rfl⟩:=rx; exact SeqAt.EqAt.str_int a t' b t
  | str b=>obtain ⟨t,rfl⟩:=rx; exact SeqAt.EqAt.str_str a t' b t
  | _=>exact absurd (show false=true from fx) bi7
 | _=>exact absurd (show false=true from fy) bi7
def dY (x:V) (u:Value):Bool:=match u with
 | .none=>gA .non x
 | .bool b=>gA (.bl b) x
 | .int i _=>gA (.int i) x
 | .str z _=>gA (.str z) x
 | _=>false
theorem zV {x y:V}{u:Value} (r:aQ y u) (f:iA y=true):dY x u=gA y x:=by
 cases y with
 | non=>cases r; rfl
 | bl b=>cases r; rfl
 | int i=>obtain ⟨t,rfl⟩:=r; rfl
 | str z=>obtain ⟨t,rfl⟩:=r; rfl
 | _=>exact absurd (show false=true from f) bi7
theorem mY {x:V}:∀ {xs:List V}{us:List Value},aH xs us->xs.all iA=true->us.any (dY x)=xs.any fun y=>gA y x
 | _,_,.nil,_=>rfl
 | y :: xs,u :: us,.cons r t,f=>by
  rw [bt2,bk5] at f
  rw [bv9,bv9,zV r f.1,mY t f.2]
theorem mZ {A:Around}{s:Shared}{x:V}{v:Value} (rx:aQ x v) (fx:iA x=true):∀ {xs:List V}{us:List Value},aH xs us->xs.all iA=true->∀ u ∈ us,SeqAt.EqAt A s u v (dY x u)
 | _,_,.nil,_=>fun u hu=>by cases hu
 | y :: xs,u :: us,.cons r t,f=>fun u' hu=>by
  rw [bt2,bk5] at f
  rcases bh5.mp hu with rfl | hu
  ·rw [zV r f.1]; exact ap5 r rx f.1 fx
  ·exact mZ rx fx t f.2 u' hu
def nA (x:V) (xs:List V):Bool:=xs.any fun y=>gA y x
def tX (K:PySem.W.Frag) (neg:Bool):R2:=fun x y H Q=>∃ p xs,y = .ref p/\(aI K H p xs ∨ aF K H p xs)/\iA x=true/\xs.all iA=true/\Q (.bl (if neg then !nA x xs else nA x xs)) H
theorem ap6:bN X (compareOp .In) (tX X.K false):=by
 intro pins s σ H x y v u Q I rx ry h
 obtain ⟨p,xs,rfl,hq,fx,fs,q⟩:=h
 cases ry
 rcases hq with hq | hq
 ·obtain ⟨its,r,pl,hz⟩:=I.list hq
  refine SeqAt.in_listAt (dY x) pl.isList (fun w hw=>mZ rx fx r fs w (by simpa using hw)) ⟨.bl _,H,I,rfl,?_⟩
  rw [show its.toArray.any (dY x)=its.any (dY x) by simp,mY r fs]
  exact q
 ·obtain ⟨its,r,pl,hz⟩:=I.tuple hq
  refine SeqAt.in_tupleAt (dY x) pl (fun w hw=>mZ rx fx r fs w (by simpa using hw)) ⟨.bl _,H,I,rfl,?_⟩
  rw [show its.toArray.any (dY x)=its.any (dY x) by simp,mY r fs]
  exact q
theorem ap7:bN X (compareOp .NotIn) (tX X.K true):=by
 intro pins s σ H x y v u Q I rx ry h
 obtain ⟨p,xs,rfl,hq,fx,fs,q⟩:=h
 cases ry
 rcases hq with hq | hq
 ·obtain ⟨its,r,pl,hz⟩:=I.list hq
  refine SeqAt.notIn_listAt (dY x) pl.isList (fun w hw=>mZ rx fx r fs w (by simpa using hw)) ⟨.bl _,H,I,rfl,?_⟩
  rw [show its.toArray.any (dY x)=its.any (dY x) by simp,mY r fs]
  exact q
 ·obtain ⟨its,r,pl,hz⟩:=I.tuple hq
  refine SeqAt.notIn_tupleAt (dY x) pl (fun w hw=>mZ rx fx r fs w (by simpa using hw)) ⟨.bl _,H,I,rfl,?_⟩
  rw [show its.toArray.any (dY x)=its.any (dY x) by simp,mY r fs]
  exact q
theorem ap8:cD X (.builtin "len") (fun xs H Q=>∃ p ys,xs = [.ref p]/\(aI X.K H p ys ∨ aF X.K H p ys)/\Q (.int ys.length) H):=by
 intro pins s σ H xs us Q I r h
 obtain ⟨p,ys,rfl,hq,q⟩:=h
 obtain ⟨u,rfl,rx⟩:=dW r
 cases rx
 have hn:=mV
 rcases hq with hq | hq
 ·obtain ⟨its,r',pl,hz⟩:=I.list hq
  have hlen:=r'.length
  exact Calls.call_len_list pl.isList (by simp only [bh0] <;> omega) ⟨.int ys.length,H,I.tok _,⟨s.toks+1,by rw [bh0,hlen]⟩,q⟩
 ·obtain ⟨its,r',pl,hz⟩:=I.tuple hq
  have hlen:=r'.length
  exact len_tuple pl (by simp only [bh0] <;> omega) ⟨.int ys.length,H,I.tok _,⟨s.toks+1,by rw [bh0,hlen]⟩,q⟩
theorem cD.or {f:Value}{r r':List V->Hp->VK->Prop} (h:cD X f r) (h':cD X f r'):cD X f (fun xs H Q=>r xs H Q ∨ r' xs H Q):=by
 intro pins s σ H xs us Q I rs q
 rcases q with q | q
 ·exact h pins s σ H xs us Q I rs q
 ·exact h' pins s σ H xs us Q I rs q
theorem ap9:cD X (.type "list") (fun xs H Q=>∃ p ys,xs = [.ref p]/\(aI X.K H p ys ∨ aF X.K H p ys)/\∀ l,H l=none->Q (.ref l) (upd H l (.lst ys))):=by
 intro pins s σ H xs us Q I r h
 obtain ⟨p,ys,rfl,hq,q⟩:=h
 obtain ⟨u,rfl,rx⟩:=dW r
 cases rx
 have fin:∀ (its:List Value),aH ys its->ys.length<=sizeLine->∀ (h':Heap) (c':Nat),(∀ b o',s.heap.get? b=some o'->h'.get? b=some o')->
   h'.get? s.heap.objs.size=some { cls:=.type "list",dict:=none,data:=.seq its.toArray c',slots:=#[] }->EP X pins σ Q (.ref s.heap.objs.size) { s with heap:=h' }:=fun its r' hz h' c' kp e=>
  ⟨.ref s.heap.objs.size,_,I.laid (t':=s.toks) kp (bh1 _) (show bA X.prog X.w _ h' _ (.lst ys) from ⟨hz,its,c',r',e⟩),rfl,q _ (I.hok.fresh (bh1 _))⟩
 rcases hq with hq | hq
 ·obtain ⟨its,r',pl,hz⟩:=I.list hq
  have hlen:=r'.length
  obtain ⟨o,ho,hc,n,hd⟩:=pl.isList
  exact call_list_seq p (.inl rfl) ho hc hd (fun h' c' kp e=>fin its r' hz h' c' kp e) (by simp only [bh0] <;> omega)
 ·obtain ⟨its,r',pl,hz⟩:=I.tuple hq
  have hlen:=r'.length
  obtain ⟨o,ho,hc,n,hd⟩:=pl
  exact call_list_seq p (.inr rfl) ho hc hd (fun h' c' kp e=>fin its r' hz h' c' kp e) (by simp only [bh0] <;> omega)
theorem aq0:cD X (.type "tuple") (fun xs H Q=>∃ p ys,xs = [.ref p]/\((aI X.K H p ys/\∀ l,H l=none->Q (.ref l) (upd H l (.tup ys))) ∨ (aF X.K H p ys/\Q (.ref p) H))):=by
 intro pins s σ H xs us Q I r h
 obtain ⟨p,ys,rfl,h⟩:=h
 obtain ⟨u,rfl,rx⟩:=dW r
 cases rx
 rcases h with ⟨hq,q⟩ | ⟨hq,q⟩
 ·obtain ⟨its,r',pl,hz⟩:=I.list hq
  have hlen:=r'.length
  refine call_tuple_list pl.isList (fun h' kp=>?_) (by simp only [bh0] <;> omega)
  have I1:a6 X pins σ H { s with heap:=h' }:=I.kept (t':=s.toks) kp
  have I2:a6 X pins σ (upd H h'.objs.size (.tup ys)) { s with heap:=h'.push { cls:=.type "tuple",data:=.seq its.toArray } }:=
   I1.laid (t':=s.toks) (fun b o e=>bg7 _ e) (bh1 _) (show bA X.prog X.w _ _ _ (.tup ys) from ⟨hz,its,r',IsTup.new _ _⟩)
  exact⟨.ref h'.objs.size,_,I2,rfl,q _ (I1.hok.fresh (bh1 _))⟩
 ·obtain ⟨its,r',pl,hz⟩:=I.tuple hq
  exact call_tuple_same pl ⟨.ref p,H,I,rfl,q⟩
def oX (K:PySem.W.Frag) (T:String) (x:V) (H:Hp):Prop:=match x with
 | .str _=>T="str"
 | .int _=>T="int"
 | .ref p=>(T="list"/\∃ xs,aI K H p xs) ∨ (T="tuple"/\∃ o,K.lookup p=some o/\o.cls = .type "tuple"/\o.dict=none) ∨
   (T="dict"/\((∃ kvs,H p=some (.dK kvs)) ∨ ∃ kvs,H p=some (.dT kvs))) ∨ (T="set"/\∃ S n,H p=some (.set S n))
 | _=>False
theorem aq1 {pins:List (Addr × Obj)}{σ:St}{H:Hp}{s:Shared}{T:String}{x:V}{v:Value} (I:a6 X pins σ H s) (r:aQ x v) (ty:oX X.K T x H) :
  s.TypeIs v T/\∀ a,v = .ref a->∃ ob,s.heap.get? a=some ob/\ob.dict=none:=by
 cases x with
 | str z=>
  obtain ⟨t,rfl⟩:=r
  cases (show T="str" from ty)
  exact⟨typeIs_str s z t,fun _ e=>nomatch e⟩
 | int i=>
  obtain ⟨t,rfl⟩:=r
  cases (show T="int" from ty)
  exact⟨typeIs_int s i t,fun _ e=>nomatch e⟩
 | ref p=>
  cases r
  rcases ty with ⟨rfl,xs,hq⟩ | ⟨rfl,o,hk,hc,hd⟩ | ⟨rfl,hk⟩ | ⟨rfl,S,n,hk⟩
  ·obtain ⟨its,_,pl,_⟩:=I.list hq
   refine⟨pl.isList.typeIs,fun a e=>?_⟩
   cases e
   obtain ⟨o,n,e,c,hd,_⟩:=pl
   exact⟨o,e,hd⟩
  ·refine⟨⟨o,I.kIn p o hk,hc⟩,fun a e=>?_⟩
   cases e
   exact⟨o,I.kIn _ o hk,hd⟩
  ·have z:∃ o,s.heap.get? p=some o/\o.ExactDict:=by
    rcases hk with ⟨kvs,hk⟩ | ⟨kvs,hk⟩
    ·obtain ⟨_,_,_,_,o,_,_,e,ex,_⟩:=I.hok p _ hk
     exact⟨o,e,ex⟩
    ·obtain ⟨_,_,_,_,o,_,_,e,ex,_⟩:=I.hok p _ hk
     exact⟨o,e,ex⟩
   obtain ⟨o,e,ex⟩:=z
   refine⟨⟨o,e,ex.1⟩,fun a e2=>?_⟩
   cases e2
   exact⟨o,e,ex.2.1⟩
  ·obtain ⟨o,_,_,_,e,ex,_⟩:=I.hok p _ hk
   refine⟨⟨o,e,ex.1⟩,fun a e2=>?_⟩
   cases e2
   exact⟨o,e,ex.2.1⟩
 | _=>exact False.elim ty
def zW (K:PySem.W.Frag) (T:String) (r:V->List V->Hp->VK->Prop) (to:TE) (t:TA):TE:=fun σ H Q=>to σ H fun x H1=>oX K T x H1/\t σ H1 fun xs H2=>r x xs H2 Q
variable {o e : Expr} {es : List Expr} {to : TE} {t : TA} {name : Str} {apos cpos : Pos} {T id : String} {r : V → List V → Hp → VK → Prop}
theorem tY (pa:PlainAttrs T) (slot:Slot T name id) (hty:typeOf (.builtin id)=pure (.type "method_descriptor")) (hm:MtR X id r) (ho:PE X o to) (ha:PA X (e :: es) t)
  (hbase:attributeBase o name X.env (eval o X.env)=eval o X.env:=by rfl)
  (hfew:((backTo cpos (starEach (e :: es) X.env)).all (fun x=>!x.1) && (backToKw cpos (keywordEach [] X.env)).all (fun x=>x.1.isSome)
   && decide ((e :: es).length+([]:List Keyword).length+(if ([]:List Keyword).isEmpty then 0 else 1) < 30))=true:=by rfl)
  (hline:(apos.endLine == cpos.line)=true:=by rfl) (hs:starEach (e :: es) X.env=(false,eval e X.env) :: starEach es X.env:=by rfl) (hplain:(backTo cpos (starEach es X.env)).any (·.1)=false:=by rfl) :
  PE X (.Call (.Attribute o name apos) (e :: es) [] cpos) (zW X.K T r to t):=by
 intro pins s σ H Q I h
 refine wpAny_Call_method_late hbase hfew hline rfl (aJ (ho pins s σ H _ I h) fun v s1 ⟨x,H1,I1,r1,ty,q1⟩=>?_)
 obtain ⟨h1,h2⟩:=aq1 I1 r1 ty
 refine⟨T,id,pa,slot,hty,h1,h2,?_⟩
 have hA:=ha cpos pins s1 σ H1 _ I1 q1
 rw [hs] at hA ⊢
 refine Calls.callWith_builtin (by show (false || (backTo cpos (starEach es X.env)).any (·.1))=false; rw [hplain] <;> rfl) (Calls.evalArgs_plain ?_)
 exact aJ hA fun us s2 ⟨vs,H2,I2,r2,q2⟩=>hm pins s2 σ H2 x vs v us Q I2 r1 r2 q2
end
def zX (X:Cx) (id:String) (r:V->List V->Hp->VK->Prop):Prop:=
 ∀ (pins:List (Addr × Obj)) (s:Shared) (σ:St) (H:Hp) (x:V) (xs:List V) (v:Value) (us:List Value) (Q:VK),a6 X pins σ H s->aQ x v->aH xs us->r x xs H Q->
  wpAny (model X.prog X.w) X.A (call (.builtin id) (v :: us)) (EP X pins σ Q) X.xe s
theorem aH.one {x:V}{us:List Value} (h:aH [x] us):∃ u,us = [u]/\aQ x u:=by
 cases h with
 | cons r t=>
  cases t
  exact⟨_,rfl,r⟩
theorem aH.two {x y:V}{us:List Value} (h:aH [x,y] us):∃ u v,us = [u,v]/\aQ x u/\aQ y v:=by
 cases h with
 | cons r t=>
  cases t with
  | cons q t=>
   cases t
   exact⟨_,_,rfl,r,q⟩
theorem aH.eraseIdx:∀ {xs:List V}{us:List Value} (i:Nat),aH xs us->aH (xs.eraseIdx i) (us.eraseIdx i)
 | _,_,_,.nil=>.nil
 | _,_,0,.cons _ t=>t
 | _,_,i+1,.cons r t=>.cons r (aH.eraseIdx i t)
theorem aH.rep {xs:List V}{us:List Value} (h:aH xs us):∀ k:Nat,aH (List.replicate k xs).flatten (List.replicate k us).flatten
 | 0=>.nil
 | k+1=>by
  rw [bq6,bq6,br9,br9]
  exact aH.append h (aH.rep h k)
theorem zY (its:List Value):∀ (k:Nat) (acc:List Value),
  List.foldl (fun x1 x2=>x1 ++ x2) acc.toArray (List.replicate k its.toArray)=(acc ++ (List.replicate k its).flatten).toArray
 | 0,acc=>by simp
 | k+1,acc=>by
  have e:acc.toArray ++ its.toArray=(acc ++ its).toArray:=by simp
  have e2:(acc ++ its) ++ (List.replicate k its).flatten=acc ++ (List.replicate (k+1) its).flatten:=by
   rw [bq6,br9,bj2]
  rw [<- e2,<- zY its k (acc ++ its),<- e,bq6,List.foldl_cons]
section
variable {X : Cx} {pins : List (Addr × Obj)} {σ : St} {H : Hp} {s : Shared} {l b : Addr} {xs ys zs : List V}
theorem a6.lset {its its':List Value}{n:Nat}{f:Array Value->Array Value}{t':Nat} (I:a6 X pins σ H s) (hH:H l=some (.lst xs))
  (e:s.heap.get? l=some { cls:=.type "list",data:=.seq its.toArray n }) (hf:f its.toArray=its'.toArray) (hv:aH ys its') (hz:ys.length<=sizeLine) :
  a6 X pins σ (upd H l (.lst ys)) { s with heap:=s.heap.update l (Obj.mapSeq f),toks:=t' }:=by
 have q:=PySem.IsL.update e f
 rw [hf] at q
 refine I.write (x:=l) (e:=l) (by rw [hH]; exact trivial) (.inl rfl) (fun b' u hb hu=>(bv5 s.heap (Obj.mapSeq f) (Ne.symm hb)).trans hu) ⟨_,q⟩ ?_
 exact⟨hz,its',_,hv,q⟩
theorem a6.lnew {its:List Value}{t':Nat} (I:a6 X pins σ H s) (hv:aH ys its) (hz:ys.length<=sizeLine) :
  a6 X pins σ (upd H s.heap.objs.size (.lst ys)) { s with heap:=s.heap.push { cls:=.type "list",data:=.seq its.toArray },toks:=t' }:=
 I.laid (fun _ _ q=>bg7 _ q) (bh1 _) ⟨hz,its,0,hv,bh8 _ rfl⟩
theorem a6.fresh (I:a6 X pins σ H s):H s.heap.objs.size=none:=I.hok.fresh (bh1 _)
theorem a6.lstM (I:a6 X pins σ H s) (hH:H l=some (.lst xs)):xs.length<=sizeLine/\∃ (its:List Value) (n:Nat),aH xs its/\xs.length=its.length/\s.heap.get? l=some { cls:=.type "list",data:=.seq its.toArray n }:=by
 obtain ⟨z,its,n,r,e⟩:=I.hok l _ hH
 exact⟨z,its,n,r,r.length,e⟩
theorem zZ {n:Nat} (h:n<=sizeLine):Builtin.List.listTooLong n=false:=by
 unfold Builtin.List.listTooLong
 exact bh3 (by omega)
end
section
variable {X : Cx}
def A0:V->List V->Hp->VK->Prop:=fun x vs H Q=>∃ l xs y,x = .ref l/\vs = [y]/\H l=some (.lst xs)/\xs.length < sizeLine/\Q .non (upd H l (.lst (xs ++ [y])))
theorem oY:zX X "list.append" A0:=by
 intro pins s σ H x vs v us Q I rx rv h
 obtain ⟨l,xs,y,rfl,rfl,hH,hz,q⟩:=h
 cases rx
 obtain ⟨u,rfl,ru⟩:=rv.one
 obtain ⟨z,its,n,r,hl,e⟩:=I.lstM hH
 refine call_meets F.slot_list_append ⟨_,e,rfl⟩ F.entry_list_append (F.args_list_append_2 _ _) (PySem.list_append l its.toArray n u (by rw [bh0]; omega)) ⟨e,?_⟩
 refine⟨.non,_,I.lset (its':=its ++ [u]) hH e (by simp) (r.append (.cons ru .nil)) ?_,rfl,q⟩
 rw [bi6,bp1]
 omega
def aq2:V->List V->Hp->VK->Prop:=fun x vs H Q=>∃ l b xs zs,x = .ref l/\vs = [.ref b]/\H l=some (.lst xs)/\H b=some (.lst zs)/\xs.length+zs.length<=sizeLine/\Q .non (upd H l (.lst (xs ++ zs)))
theorem bg3:zX X "list.extend" aq2:=by
 intro pins s σ H x vs v us Q I rx rv h
 obtain ⟨l,b,xs,zs,rfl,rfl,hH,hB,hz,q⟩:=h
 cases rx
 obtain ⟨u,rfl,ru⟩:=rv.one
 cases ru
 obtain ⟨z,its,n,r,hl,e⟩:=I.lstM hH
 obtain ⟨z2,its2,n2,r2,hl2,e2⟩:=I.lstM hB
 have hsz:its.toArray.size+its2.toArray.size<=sizeLine:=by rw [bh0,bh0]; omega
 have hlong : ¬ (!its.toArray.isEmpty && Builtin.List.listTooLong (its.toArray.size+its2.toArray.size))=true:=by
  rw [zZ hsz,by0]
  exact bi7
 refine call_meets F.slot_list_extend ⟨_,e,rfl⟩ F.entry_list_extend (F.args_list_extend_2 _ _)
  (AutoSeq1.list_extend_list_list_0 l its.toArray n b its2.toArray n2 hlong (by rw [bh0]; omega) (by omega)) ⟨e,e2,?_⟩
 refine⟨.non,_,I.lset (its':=its ++ its2) hH e (by simp) (r.append r2) ?_,rfl,q⟩
 rw [bi6]
 omega
def A1:R2:=fun x y H Q=>∃ l b xs zs,x = .ref l/\y = .ref b/\H l=some (.lst xs)/\H b=some (.lst zs)/\xs.length+zs.length<=sizeLine/\∀ p,H p=none->Q (.ref p) (upd H p (.lst (xs ++ zs)))
theorem aq3:bN X (binaryOp .Add) A1:=by
 intro pins s σ H x y v u Q I rx ry h
 obtain ⟨l,b,xs,zs,rfl,rfl,hH,hB,hz,q⟩:=h
 cases rx
 cases ry
 obtain ⟨z,its,n,r,hl,e⟩:=I.lstM hH
 obtain ⟨z2,its2,n2,r2,hl2,e2⟩:=I.lstM hB
 refine PySem.P.add_list e e2 ?_ (by rw [bh0,bh0]; omega)
 have ea:its.toArray ++ its2.toArray=(its ++ its2).toArray:=by simp
 rw [ea]
 exact⟨.ref _,_,I.lnew (t':=s.toks) (r.append r2) (by rw [bi6]; omega),rfl,q _ I.fresh⟩
def A2:R2:=fun x y H Q=>∃ l k xs,x = .ref l/\y = .int k/\H l=some (.lst xs)/\-(2 ^ 63)<=k/\k < 2 ^ 63/\xs.length * k.toNat<=sizeLine/\
 ∀ p,H p=none->Q (.ref p) (upd H p (.lst (List.replicate k.toNat xs).flatten))
theorem aq4 {α:Type} (xs:List α) (k:Nat):(List.replicate k xs).flatten.length=k * xs.length:=by
 induction k with
 | zero=>simp
 | succ k ih=>rw [bq6,br9,bi6,ih,Nat.succ_mul,Nat.add_comm]
theorem aq5:bN X (binaryOp .Mult) A2:=by
 intro pins s σ H x y v u Q I rx ry h
 obtain ⟨l,k,xs,rfl,rfl,hH,h1,h2,hz,q⟩:=h
 cases rx
 obtain ⟨t,rfl⟩:=ry
 obtain ⟨z,its,n,r,hl,e⟩:=I.lstM hH
 have hlen:its.toArray.size * k.toNat<=sizeLine:=by rw [bh0,<- hl]; exact hz
 have hcap : ¬ its.toArray.size * k.toNat > (2 ^ 63 - 1) / 8:=by
  have:(sizeLine:Nat)<=(2 ^ 63 - 1) / 8:=by decide
  omega
 have hfit : ¬ (!Builtin.List.listFitsIndex k)=true:=by
  rw [fitsIndex_both h1 h2]
  exact bi7
 have hlong : ¬ Builtin.List.listTooLong (its.toArray.size * k.toNat)=true:=by
  rw [zZ hlen]
  exact bi7
 have hnew:List.foldl (fun x1 x2=>x1 ++ x2) #[] (List.replicate (if its.toArray.isEmpty=true then 0 else k.toNat) its.toArray)=(List.replicate k.toNat its).flatten.toArray:=by
  have f0:∀ m:Nat,List.foldl (fun x1 x2=>x1 ++ x2) #[] (List.replicate m its.toArray)=(List.replicate m its).flatten.toArray:=fun m=>by
   have:=zY its m []
   rw [List.nil_append] at this
   exact this
  rw [f0]
  cases its with
  | nil=>simp
  | cons a r'=>rw [if_neg (by simp)]
 refine wpAny_binaryOp_repeat_ref (T:="list") (U:="int") (by decide) ⟨_,e,rfl⟩ (fun s'=>typeIs_int s' k t) noFill_list_mul F.fills_int_mul F.slot_int_rmul repeat_list F.slot_int_index.lookup
  (call_meets F.slot_int_rmul (typeIs_int s k t) F.entry_int_rmul (F.args_int_rmul_2 _ _) (int___rmul___int_list k t l its.toArray n)
   ⟨e,rfl,⟨_,e,rfl⟩,call_meets F.slot_list_mul ⟨_,e,rfl⟩ F.entry_list_mul (F.args_list_mul_2 _ _) (AutoListH.list___mul___list_int_3 l its.toArray n k t hfit hcap hlong) ⟨e,?_⟩⟩)
 rw [hnew]
 exact⟨.ref _,_,I.lnew (t':=s.toks) (r.rep k.toNat) (by rw [aq4,Nat.mul_comm]; exact hz),rfl,q _ I.fresh⟩
end
section
variable {κ : Type} [DecidableEq κ]
def dZ (kvs:List (κ × V)) (k:κ):Option V:=(kvs.find? fun kv=>decide (kv.1=k)).map (·.2)
def dB (kvs:List (κ × V)) (k:κ) (v:V):List (κ × V):=
 if (kvs.any fun kv=>decide (kv.1=k))=true then kvs.map (fun kv=>if kv.1=k then (kv.1,v) else kv) else kvs ++ [(k,v)]
theorem tZ {p:κ × V}{r:List (κ × V)}{k:κ} (e:p.1=k):dZ (p :: r) k=some p.2:=by simp [dZ,bq2,e]
theorem u5 {p:κ × V}{r:List (κ × V)}{k:κ} (e : ¬ p.1=k):dZ (p :: r) k=dZ r k:=by simp [dZ,bq2,e]
theorem A3 (k:κ):∀ kvs:List (κ × V),(kvs.any fun kv=>decide (kv.1=k))=(dZ kvs k).isSome
 | []=>rfl
 | p :: r=>by
  rw [bv9]
  by_cases e:p.1=k
  ·simp only [tZ e,bi2 e,Bool.true_or,Option.isSome_some]
  ·rw [u5 e,bh3 e,Bool.false_or]; exact A3 k r
theorem u6 (kvs:List (κ × V)) (k:κ) (v:V):(dB kvs k v).length<=kvs.length+1:=by
 unfold dB
 split
 ·rw [bh2]; omega
 ·rw [bi6,bk2,List.length_nil]; omega
theorem jU.isSome_eq {o:Option V}{u:Option Value} (r:jU o u):o.isSome=u.isSome:=by
 cases o with
 | none=>cases u with
  | none=>rfl
  | some _=>exact (show False from r).elim
 | some _=>cases u with
  | none=>exact (show False from r).elim
  | some _=>rfl
theorem KV.val {kvs:List (κ × V)}{vs:List (κ × Value)} (r:KV kvs vs) (k:κ):jU (dZ kvs k) (valueAt vs k):=by
 unfold KV at r
 induction r with
 | nil=>exact bx5
 | @cons p q ps qs h t ih=>
  obtain ⟨h1,h2⟩:=h
  by_cases e:p.1=k
  ·have e':q.1=k:=h1.symm.trans e
   have b:valueAt (q :: qs) k=some q.2:=by simp [valueAt,bq2,e']
   rw [tZ e,b]; exact h2
  ·have e' : ¬ q.1=k:=fun z=>e (h1.trans z)
   have b:valueAt (q :: qs) k=valueAt qs k:=by simp [valueAt,bq2,e']
   rw [u5 e,b]; exact ih
theorem KV.any {kvs:List (κ × V)}{vs:List (κ × Value)} (r:KV kvs vs) (k:κ):(kvs.any fun kv=>decide (kv.1=k))=vs.any fun kv=>decide (kv.1=k):=by
 unfold KV at r
 induction r with
 | nil=>rfl
 | cons h t ih=>rw [bv9,bv9,ih,h.1]
theorem KV.repl {kvs:List (κ × V)}{vs:List (κ × Value)} (r:KV kvs vs) (k:κ) {y:V}{u:Value} (ry:aQ y u) :
  KV (kvs.map fun kv=>if kv.1=k then (kv.1,y) else kv) (vs.map fun kv=>if kv.1=k then (kv.1,u) else kv):=by
 unfold KV at r ⊢
 induction r with
 | nil=>exact .nil
 | @cons p q ps qs h t ih=>
  rw [bn4,bn4]
  refine .cons ?_ ih
  obtain ⟨h1,h2⟩:=h
  by_cases e:p.1=k
  ·rw [if_pos e,if_pos (h1.symm.trans e)]; exact⟨h1,ry⟩
  ·rw [if_neg e,if_neg (fun z=>e (h1.trans z))]; exact⟨h1,h2⟩
theorem KV.put {kvs:List (κ × V)}{vs:List (κ × Value)} (r:KV kvs vs) (k:κ) {y:V}{u:Value} (ry:aQ y u):KV (dB kvs k y) (stored vs k u):=by
 unfold dB stored
 rw [r.any k]
 by_cases e:(vs.any fun kv=>decide (kv.1=k))=true
 ·rw [if_pos e,if_pos e]; exact r.repl k ry
 ·rw [if_neg e,if_neg e]; exact Paired.snoc r ⟨rfl,ry⟩
theorem KV.length {kvs:List (κ × V)}{vs:List (κ × Value)} (r:KV kvs vs):kvs.length=vs.length:=Paired.length r
end
theorem oZ {P:Program}{w:World}{k:a9}{u:Value} (r:aQ (kV k) u):(dL P w).is k u=true:=by
 cases k with
 | inl i=>obtain ⟨t,e⟩:=(show ∃ t,u=Value.int i t from r); subst e; exact ag2 P w i t
 | inr x=>obtain ⟨t,e⟩:=(show ∃ t,u=Value.str x t from r); subst e; exact ag3 P w x t
theorem A4 {P:Program}{w:World}:∀ {ks:List a9}{us:List Value},aH (ks.map kV) us->ItemsAre (dL P w) ks us
 | [],_,r=>by rw [List.map_nil] at r; cases r; exact .nil
 | k :: ks,_,r=>by
  rw [bn4] at r
  cases r with
  | cons h t=>exact .cons (oZ h) (A4 t)
abbrev KT (H:Hp):List (List a9 × V)->List (List a9 × Addr × Value)->Prop:=Paired fun p q=>p.1=q.1/\H q.2.1=some (.tup (p.1.map kV))/\aQ p.2 q.2.2
theorem KT.val {H:Hp}{kvs:List (List a9 × V)}{xs:List (List a9 × Addr × Value)} (r:KT H kvs xs) (k:List a9):jU (dZ kvs k) ((atKey xs k).map (·.2)):=by
 induction r with
 | nil=>exact bx5
 | @cons p q ps qs h t ih=>
  obtain ⟨h1,_,h2⟩:=h
  by_cases e:p.1=k
  ·have e':q.1=k:=h1.symm.trans e
   have b:atKey (q :: qs) k=some q.2:=by simp [atKey,bq2,e']
   rw [tZ e,b]; exact h2
  ·have e' : ¬ q.1=k:=fun z=>e (h1.trans z)
   have b:atKey (q :: qs) k=atKey qs k:=by simp [atKey,bq2,e']
   rw [u5 e,b]; exact ih
theorem KT.repl {H:Hp}{kvs:List (List a9 × V)}{xs:List (List a9 × Addr × Value)} (r:KT H kvs xs) (k:List a9) {y:V}{u:Value} (ry:aQ y u) :
  KT H (kvs.map fun kv=>if kv.1=k then (kv.1,y) else kv) (xs.map (putAt k u)):=by
 induction r with
 | nil=>exact .nil
 | @cons p q ps qs h t ih=>
  rw [bn4,bn4]
  refine .cons ?_ ih
  obtain ⟨h1,h2,h3⟩:=h
  unfold putAt
  by_cases e:p.1=k
  ·rw [if_pos e,if_pos (h1.symm.trans e)]; exact⟨h1,h2,ry⟩
  ·rw [if_neg e,if_neg (fun z=>e (h1.trans z))]; exact⟨h1,h2,h3⟩
theorem KT.put {H:Hp}{kvs:List (List a9 × V)}{xs:List (List a9 × Addr × Value)} (r:KT H kvs xs) (k:List a9) {b:Addr}{y:V}{u:Value} (hb:H b=some (.tup (k.map kV))) (ry:aQ y u) :
  KT H (dB kvs k y) (storedH xs k b u):=by
 have e:(kvs.any fun kv=>decide (kv.1=k))=(atKey xs k).isSome:=by
  rw [A3,(r.val k).isSome_eq,Option.isSome_map]
 unfold dB storedH
 rw [e]
 by_cases q:(atKey xs k).isSome=true
 ·rw [if_pos q,if_pos q]; exact r.repl k ry
 ·rw [if_neg q,if_neg q]; exact Paired.snoc r ⟨rfl,hb,ry⟩
theorem KT.keeps {H H':Hp}{kvs:List (List a9 × V)}{xs:List (List a9 × Addr × Value)} (r:KT H kvs xs) (ht:∀ b ys,H b=some (.tup ys)->H' b=some (.tup ys)):KT H' kvs xs:=
 Paired.mapP r fun _ _ z=>⟨z.1,ht _ _ z.2.1,z.2.2⟩
section
variable {P : Program} {w : World} {H : Hp} {h : Heap} {a : Addr}
theorem A5 {u:HO} (ok:bO P w H h) (e:Rd H a u):bA P w H h a u:=e.ok ok
theorem nB {kvs:List (a9 × V)} (ok:bO P w H h) (e:Rd H a (.dK kvs)):kvs.length<=sizeLine/\(a == sysModules)=false/\∃ vs,KV kvs vs/\h.DictOf (dL P w) a vs:=
 show bA P w H h a (.dK kvs) from A5 ok e
theorem u7 {kvs:List (a9 × V)} (ok:bO P w H h) (e:H a=some (.dK kvs)):kvs.length<=sizeLine/\(a == sysModules)=false/\∃ vs,KV kvs vs/\h.DictOf (dL P w) a vs:=nB ok (.inl e)
theorem nC {ks:List a9} (ok:bO P w H h) (e:H a=some (.tup (ks.map kV))):(tupleKind (dL P w)).is h ks a:=by
 obtain ⟨_,its,r,o,h1,h2,n,h3⟩:=(show bA P w H h a (.tup (ks.map kV)) from ok a _ e)
 exact⟨o,its.toArray,n,h1,h2,h3,by simpa using A4 r⟩
theorem p5 {kvs:List (List a9 × V)} (ok:bO P w H h) (e:Rd H a (.dT kvs)):kvs.length<=sizeLine/\(a == sysModules)=false/\
  ∃ xs,KT H kvs xs/\h.DictOfH (tupleKind (dL P w)) a xs:=by
 obtain ⟨z,y,xs,r,o,es,ep,h1,h2,h3,h4,h5⟩:=(show bA P w H h a (.dT kvs) from A5 ok e)
 refine⟨z,y,xs,r,o,es,ep,h1,h2,h3,h4,fun x hx=>?_,h5⟩
 have all:∀ {l:List (List a9 × V)}{m:List (List a9 × Addr × Value)},KT H l m->∀ x ∈ m,(tupleKind (dL P w)).is h x.1 x.2.1:=by
  intro l m q
  induction q with
  | nil=>intro x hx; exact nomatch hx
  | @cons p q ps qs hq t ih=>
   intro x hx
   rcases bh5.mp hx with e | hx
   ·subst e
    exact nC ok (by rw [<- hq.1]; exact hq.2.1)
   ·exact ih x hx
 exact all r x hx
theorem A6 {kvs:List (List a9 × V)} (ok:bO P w H h) (e:H a=some (.dT kvs)):kvs.length<=sizeLine/\(a == sysModules)=false/\
  ∃ xs,KT H kvs xs/\h.DictOfH (tupleKind (dL P w)) a xs:=p5 ok (.inl e)
end
def gB (H:Hp) (a:Addr) (y:V) (r:Option V):Prop:=
 (∃ kvs k,Rd H a (.dK kvs)/\y=kV k/\r=dZ kvs k) ∨ ∃ kvs k b,Rd H a (.dT kvs)/\y = .ref b/\H b=some (.tup (k.map kV))/\r=dZ kvs k
def j6 (H:Hp) (a:Addr) (y v:V) (H':Hp):Prop:=
 (∃ kvs k,H a=some (.dK kvs)/\y=kV k/\kvs.length < sizeLine/\H'=upd H a (.dK (dB kvs k v))) ∨
 ∃ kvs k b,H a=some (.dT kvs)/\y = .ref b/\H b=some (.tup (k.map kV))/\kvs.length < sizeLine/\H'=upd H a (.dT (dB kvs k v))
theorem gB.k {H:Hp}{a:Addr}{kvs:List (a9 × V)}{k:a9} (e:H a=some (.dK kvs)):gB H a (kV k) (dZ kvs k):=.inl ⟨kvs,k,.inl e,rfl,rfl⟩
theorem gB.t {H:Hp}{a b:Addr}{kvs:List (List a9 × V)}{k:List a9} (e:H a=some (.dT kvs)) (eb:H b=some (.tup (k.map kV))):gB H a (.ref b) (dZ kvs k):=.inr ⟨kvs,k,b,.inl e,rfl,eb,rfl⟩
theorem j6.k {H:Hp}{a:Addr}{kvs:List (a9 × V)}{k:a9}{v:V} (e:H a=some (.dK kvs)) (hl:kvs.length < sizeLine):j6 H a (kV k) v (upd H a (.dK (dB kvs k v))):=.inl ⟨kvs,k,e,rfl,hl,rfl⟩
theorem j6.t {H:Hp}{a b:Addr}{kvs:List (List a9 × V)}{k:List a9}{v:V} (e:H a=some (.dT kvs)) (eb:H b=some (.tup (k.map kV))) (hl:kvs.length < sizeLine) :
  j6 H a (.ref b) v (upd H a (.dT (dB kvs k v))):=.inr ⟨kvs,k,b,e,rfl,eb,hl,rfl⟩
section
variable {X : Cx} {pins : List (Addr × Obj)} {σ : St} {H : Hp} {s : Shared} {a : Addr} {y v : V} {u r : Value} {o : Option V} {A : Around} {E : Value → Shared → Prop}
theorem a6.big (I:a6 X pins σ H s):sysModules < s.heap.objs.size:=by
 have h:mainGlobals < s.heap.objs.size:=(I.mod.glob.keeps I.bk).lt
 exact Nat.lt_trans (by decide) h
theorem aq6 {Q:Value->Shared->Prop} (hu:A.units+1 < cLine) (I:a6 X pins σ H s) (g:gB H a y o) (ry:aQ y u) (h:∀ s',a6 X pins σ H s'->Q (.bool o.isSome) s') :
  wpAny (model X.prog X.w) A (compareOp .In u (.ref a)) Q E s:=by
 rcases g with ⟨kvs,k,e,ey,l⟩ | ⟨kvs,k,b,e,ey,eb,l⟩
 ·subst ey
  obtain ⟨z,hd,vs,rel,dd⟩:=nB I.hok e
  refine wpAny_in_of (oZ ry) hd dd.mapOf ?_
  rw [<- (rel.val k).isSome_eq,<- l]
  exact h _ (I.tok _)
 ·subst ey
  cases (show u=Value.ref b from ry)
  obtain ⟨z,hd,xs,rel,dd⟩:=p5 I.hok e
  refine wpAny_in_heap (tupleKind_room_in1 hu) (nC I.hok eb) hd dd ?_
  have q:=(rel.val k).isSome_eq
  rw [Option.isSome_map] at q
  rw [<- q,<- l]
  exact h _ (I.tok _)
theorem aq7 {Q:Value->Shared->Prop} (hu:A.units+1 < cLine) (I:a6 X pins σ H s) (g:gB H a y o) (ry:aQ y u) (h:∀ s',a6 X pins σ H s'->Q (.bool (!o.isSome)) s') :
  wpAny (model X.prog X.w) A (compareOp .NotIn u (.ref a)) Q E s:=by
 rcases g with ⟨kvs,k,e,ey,l⟩ | ⟨kvs,k,b,e,ey,eb,l⟩
 ·subst ey
  obtain ⟨z,hd,vs,rel,dd⟩:=nB I.hok e
  refine wpAny_notIn_of (oZ ry) hd dd.mapOf ?_
  rw [<- (rel.val k).isSome_eq,<- l]
  exact h _ (I.tok _)
 ·subst ey
  cases (show u=Value.ref b from ry)
  obtain ⟨z,hd,xs,rel,dd⟩:=p5 I.hok e
  refine wpAny_notIn_heap (tupleKind_room_in1 hu) (nC I.hok eb) hd dd ?_
  have q:=(rel.val k).isSome_eq
  rw [Option.isSome_map] at q
  rw [<- q,<- l]
  exact h _ (I.tok _)
theorem p6 {h':Heap}{t':Nat}{ob:HO} (I:a6 X pins σ H s) (mu:mI (H a)) (hs:Heap.SameBut a s.heap h') (he:∃ q,h'.get? a=some q) (new:bA X.prog X.w (upd H a ob) h' a ob) :
  a6 X pins σ (upd H a ob) { s with heap:=h',toks:=t' }:=
 I.write (x:=a) (e:=a) mu (.inl rfl) (fun b q hb z=>(hs.2 b hb).trans z) he new
theorem A7 {P:Program}{w:World}{H':Hp}{h':Heap}{kvs:List (a9 × V)}{vs:List (a9 × Value)} (z:kvs.length<=sizeLine) (hd:(a == sysModules)=false) (rel:KV kvs vs) (dd:h'.DictOf (dL P w) a vs) :
  bA P w H' h' a (.dK kvs):=⟨z,hd,vs,rel,dd⟩
theorem aq8 {H':Hp}{Q:Unit->Shared->Prop} (hu:A.units+1 < cLine) (I:a6 X pins σ H s) (g:j6 H a y v H') (ry:aQ y u) (rv:aQ v r) (h:∀ s',a6 X pins σ H' s'->Q () s') :
  wpAny (model X.prog X.w) A (setItem (.ref a) u r) Q E s:=by
 rcases g with ⟨kvs,k,e,ey,l,eH⟩ | ⟨kvs,k,b,e,ey,eb,l,eH⟩
 ·subst ey eH
  obtain ⟨z,hd,vs,rel,dd⟩:=u7 I.hok e
  have hz:vs.length<=sizeLine:=by rw [<- rel.length]; exact z
  have hl:(dB kvs k v).length<=sizeLine:=by have:=u6 kvs k v; omega
  refine wpAny_setItem_pairs (hsz:=hz) (oZ ry) dd fun h' dd' hs=>h _ ?_
  have he:∃ q,h'.get? a=some q:=let ⟨q,_,_,hq,_⟩:=dd'; ⟨q,hq⟩
  exact p6 I (by rw [e]; exact bx5) hs he (A7 hl hd (rel.put k rv) dd')
 ·subst ey eH
  cases (show u=Value.ref b from ry)
  obtain ⟨z,hd,xs,rel,dd⟩:=A6 I.hok e
  have hz:xs.length<=sizeLine:=by rw [<- Paired.length rel]; exact z
  have hl:(dB kvs k v).length<=sizeLine:=by have:=u6 kvs k v; omega
  refine wpAny_setItem_heap (hsz:=hz) (tupleKind_room_in1 hu) (nC I.hok eb) dd fun h' dd' hs=>h _ ?_
  obtain ⟨q,es,ep,hq,h2,h3,h4,_,h5⟩:=dd'
  refine p6 I (by rw [e]; exact bx5) hs ⟨q,hq⟩ ⟨hl,hd,_,(rel.put k eb rv).keeps fun c ys ec=>?_,q,es,ep,hq,h2,h3,h4,h5⟩
  rw [aM (xW ec e (fun z=>nomatch z))]
  exact ec
end
section
variable {X : Cx} {pins : List (Addr × Obj)} {σ : St} {H : Hp} {s : Shared} {a : Addr} {kvs : List (a9 × V)} {k : a9} {u : Value} {A : Around} {E : Value → Shared → Prop}
theorem aq9 {Q:Value->Shared->Prop} (I:a6 X pins σ H s) (e:Rd H a (.dK kvs)) (h:∀ t s',a6 X pins σ H s'->Q (.int kvs.length t) s'):wpAny (model X.prog X.w) A (call (.builtin "len") [.ref a]) Q E s:=by
 obtain ⟨z,hd,vs,rel,dd⟩:=nB I.hok e
 refine call_len_dict hd dd (by rw [<- rel.length]; rw [sizeLine_eq] at z; omega) ?_
 rw [<- rel.length]
 exact h _ _ (I.tok _)
end
def A8 (ty td:TE):TE:=fun σ H Q=>ty σ H fun y H1=>td σ H1 fun x H2=>∃ a o,x = .ref a/\gB H2 a y o/\Q (.bl o.isSome) H2
def A9 (ty td:TE):TE:=fun σ H Q=>ty σ H fun y H1=>td σ H1 fun x H2=>∃ a o,x = .ref a/\gB H2 a y o/\Q (.bl (!o.isSome)) H2
def u8 (td ty tv:TE):TS:=fun D σ H=>tv σ H fun v H1=>td σ H1 fun x H2=>ty σ H2 fun y H3=>∃ a H4,x = .ref a/\j6 H3 a y v H4/\D.nx σ H4
section
variable {X : Cx} {o i e value : Expr} {pos pos' tpos : Pos} {td ty tv : TE}
theorem ar0 (hu:X.A.units+1 < cLine) (hi:PE X i ty) (ho:PE X o td):PC X .In i o (A8 ty td):=by
 intro pins s σ H Q I h
 refine aJ (hi pins s σ H _ I h) fun iv s1 ⟨y,H1,I1,ry,q1⟩=>aJ (ho pins s1 σ H1 _ I1 q1) fun u s2 ⟨x,H2,I2,rx,a,ov,ex,g,q2⟩=>?_
 subst ex
 obtain rfl:u=Value.ref a:=rx
 exact aq6 hu I2 g ry fun s3 I3=>⟨.bl ov.isSome,H2,I3,rfl,q2⟩
theorem ar1 (hu:X.A.units+1 < cLine) (hi:PE X i ty) (ho:PE X o td):PC X .NotIn i o (A9 ty td):=by
 intro pins s σ H Q I h
 refine aJ (hi pins s σ H _ I h) fun iv s1 ⟨y,H1,I1,ry,q1⟩=>aJ (ho pins s1 σ H1 _ I1 q1) fun u s2 ⟨x,H2,I2,rx,a,ov,ex,g,q2⟩=>?_
 subst ex
 obtain rfl:u=Value.ref a:=rx
 exact aq7 hu I2 g ry fun s3 I3=>⟨.bl (!ov.isSome),H2,I3,rfl,q2⟩
theorem B0 (hu:X.A.units+1 < cLine) (ho:PE X o td) (hi:PE X i ty) (hv:PE X value tv) (hs:swapsWith value (some (.Subscript o i pos')) pos.line X.env=pure false) :
  PS X (.Assign [.Subscript o i pos'] value pos) (u8 td ty tv):=by
 intro pins s σ H D I h
 refine wpAny_Assign_Subscript (aJ (hv pins s σ H _ I h) fun r s1 ⟨v,H1,I1,rv,q1⟩=>aJ (ho pins s1 σ H1 _ I1 q1) fun u s2 ⟨x,H2,I2,rx,q2⟩=>aJ (hi pins s2 σ H2 _ I2 q2) fun iv s3 ⟨y,H3,I3,ry,a,H4,ex,g,q3⟩=>?_) hs
 subst ex
 obtain rfl:u=Value.ref a:=rx
 exact aq8 hu I3 g ry rv fun s4 I4=>⟨σ,H4,I4,q3⟩
end
theorem ar2 {P:Program}{w:World}{H:Hp} (h:Heap) (hb:sysModules < h.objs.size):bA P w H (h.push { cls:=.type "dict",data:=.dict #[] }) h.objs.size (.dK []):=
 ⟨bl6 _,beq_eq_false_iff_ne.mpr (Ne.symm (bj5 hb)),[],.nil,Heap.DictOf.new h⟩
theorem ar3 {P:Program}{w:World}{H:Hp} (h:Heap) (hb:sysModules < h.objs.size):bA P w H (h.push { cls:=.type "dict",data:=.dict #[] }) h.objs.size (.dT []):=
 ⟨bl6 _,beq_eq_false_iff_ne.mpr (Ne.symm (bj5 hb)),[],.nil,_,#[],0,bh8 _ rfl,⟨rfl,rfl,rfl⟩,rfl,rfl,List.nodup_nil⟩
def B1:TE:=fun _ H Q=>∀ p,H p=none->Q (.ref p) (upd H p (.dK []))
def B2:TE:=fun _ H Q=>∀ p,H p=none->Q (.ref p) (upd H p (.dT []))
section
variable {X : Cx} {pos : Pos}
theorem ar4:PE X (.Dict [] [] pos) B1:=fun pins s σ H Q I h=>
 wpAny_Dict_empty ⟨.ref s.heap.objs.size,_,I.laid (a:=s.heap.objs.size) (o:=.dK []) (t':=s.toks) (fun _ _ q=>bg7 _ q) (bh1 _) (ar2 s.heap I.big),rfl,h _ (I.hok.fresh (bh1 _))⟩
theorem ar5:PE X (.Dict [] [] pos) B2:=fun pins s σ H Q I h=>
 wpAny_Dict_empty ⟨.ref s.heap.objs.size,_,I.laid (a:=s.heap.objs.size) (o:=.dT []) (t':=s.toks) (fun _ _ q=>bg7 _ q) (bh1 _) (ar3 s.heap I.big),rfl,h _ (I.hok.fresh (bh1 _))⟩
end
def jY (kvs more:List (a9 × V)):List (a9 × V):=more.foldl (fun acc kv=>dB acc kv.1 kv.2) kvs
theorem KV.merge:∀ {more:List (a9 × V)}{rs:List (a9 × Value)}{kvs:List (a9 × V)}{vs:List (a9 × Value)},KV more rs->KV kvs vs->KV (jY kvs more) (merged vs rs):=by
 intro more rs kvs vs r
 unfold KV at r
 induction r generalizing kvs vs with
 | nil=>intro q; exact q
 | @cons p q ps qs h t ih=>
  intro r0
  have e:KV (dB kvs p.1 p.2) (stored vs q.1 q.2):=by
   have:=r0.put p.1 h.2
   rw [<- h.1]; exact this
  exact ih e
theorem B3:∀ (more kvs:List (a9 × V)),(jY kvs more).length<=kvs.length+more.length
 | [],kvs=>by show kvs.length<=kvs.length+0; omega
 | p :: r,kvs=>by
  have h1:=B3 r (dB kvs p.1 p.2)
  have h2:=u6 kvs p.1 p.2
  show (jY (dB kvs p.1 p.2) r).length<=_
  rw [bk2]; omega
structure M1 (X:Cx) (o:Expr) (m:Str) (apos:Pos) (e:Expr) (cpos:Pos):Prop where
 base:attributeBase o m X.env (eval o X.env)=eval o X.env
 few:((backTo cpos (starEach [e] X.env)).all (fun x=>!x.1) && (backToKw cpos (keywordEach [] X.env)).all (fun x=>x.1.isSome)
  && decide (([e]:List Expr).length+([]:List Keyword).length+(if ([]:List Keyword).isEmpty then 0 else 1) < 30))=true
 line:(apos.endLine == cpos.line)=true
 trees:backTo cpos (starEach [e] X.env) = [(false,eval e X.env)]
structure M2 (X:Cx) (o:Expr) (m:Str) (apos:Pos) (e f:Expr) (cpos:Pos):Prop where
 base:attributeBase o m X.env (eval o X.env)=eval o X.env
 few:((backTo cpos (starEach [e,f] X.env)).all (fun x=>!x.1) && (backToKw cpos (keywordEach [] X.env)).all (fun x=>x.1.isSome)
  && decide (([e,f]:List Expr).length+([]:List Keyword).length+(if ([]:List Keyword).isEmpty then 0 else 1) < 30))=true
 line:(apos.endLine == cpos.line)=true
 trees:backTo cpos (starEach [e,f] X.env) = [(false,eval e X.env),(false,eval f X.env)]
def u9 (H:Hp) (a:Addr):Prop:=(∃ kvs,Rd H a (.dK kvs)) ∨ ∃ kvs,Rd H a (.dT kvs)
theorem B4 {X:Cx}{pins:List (Addr × Obj)}{σ:St}{H:Hp}{s:Shared}{a:Addr} (I:a6 X pins σ H s) (d:u9 H a) :
  s.TypeIs (.ref a) "dict"/\(∀ b,Value.ref a = .ref b->∃ ob,s.heap.get? b=some ob/\ob.dict=none)/\(a == sysModules)=false:=by
 rcases d with ⟨kvs,e⟩ | ⟨kvs,e⟩
 ·obtain ⟨_,hd,vs,_,dd⟩:=nB I.hok e
  refine⟨dd.typeIs,fun b q=>?_,hd⟩
  cases q
  obtain ⟨ob,_,_,h1,h2,_⟩:=dd
  exact⟨ob,h1,h2.2.1⟩
 ·obtain ⟨_,hd,xs,_,dd⟩:=p5 I.hok e
  refine⟨dd.typeIs,fun b q=>?_,hd⟩
  cases q
  obtain ⟨ob,_,_,h1,h2,_⟩:=dd
  exact⟨ob,h1,h2.2.1⟩
end L2
namespace Att
open PySem PySem.W PySem.Calls PyProof.Rows
theorem ar6 {P:Params}{h:Heap}:∀ (ns:List Int) (vs:List Value),WellAll P h vs (ns.map WData.int)->IntsAre vs ns:=by
 intro ns
 induction ns with
 | nil=>
  intro vs w
  rw [List.map_nil] at w
  cases w
  exact .nil
 | cons n ns ih=>
  intro vs w
  rw [bn4] at w
  cases w with
  | cons a b=>
   cases a
   exact .cons _ _ (ih _ b)
theorem B5 {l:OpenLaw}{n:Nat} (hn:l.most=some n) {P:Params}{h:Heap}{args:List WData}{vals:List Value}
  (hpre:l.row.toRowW.claim.pre args=true) (hwl:WellAll P h vals args) :
  ∃ a vs ns,vals = [Value.ref a]/\args = [WData.list (ns.map WData.int)]/\h.get? a=some { cls:=.type "list",data:=.seq vs.toArray }/\IntsAre vs ns/\ns.length<=n:=by
 have hsh:WShape.hasAll [] args [.list .int]=true:=(pre_splitW hpre).1
 have hc:l.pre.holds [] { args:=args }=true:=(pre_splitW hpre).2
 obtain ⟨d,r,rfl,h1,h2⟩:=hasAllW_cons hsh
 obtain rfl:=hasAllW_nil h2
 obtain ⟨xs,rfl,h3⟩:=hasW_list h1
 obtain ⟨ns,rfl⟩:=items_int h3
 have hlen:ns.length<=n:=by
  unfold OpenLaw.pre at hc
  have h4:(WTm.not (.lt (.lit (.int (n:Int))) (.len (.arg 0)))).holds [] { args:=[.list (ns.map .int)] }=true:=by
   have h4:=(holds_andW hc).1
   rw [hn] at h4
   exact h4
  have h5:=condW_of h4 (w_not (w_lt w_lit (w_len_list (w_arg rfl))))
  rw [bh2] at h5
  refine bw1 fun q=>?_
  have q':(n:Int) < ((ns.length:Nat):Int):=by omega
  first
   | (rw [bi2 q'] at h5; exact absurd h5 (by decide))
   | (simp at h5; omega)
 cases hwl with
 | cons w1 w2=>
  cases w2
  cases w1 with
  | list ho hall=>exact⟨_,_,ns,rfl,rfl,ho,ar6 ns _ hall,hlen⟩
theorem B6 (l:OpenLaw) (args:List WData):l.row.toRowW.claim.post args (.bool true) args=true:=
 postW_of (r:=l.row.toRowW) (X:=(true == true))
  (show WShape.has [] (.bool true) .bool=true by first | rfl | decide | simp [WShape.has,WShape.arms,WShape.armsAll])
  (show (WTm.eq .res (.lit (.bool true))).value [] { args:=args,res:=some (.bool true),after:=args }=some (.bool (true == true)) from w_eq_bool (w_res rfl) w_lit) rfl
theorem bg4 {l:OpenLaw}{n:Nat}{q:Program}{loose:List Str}{XP:(Str->Option Value)->Heap->Prop}{YP:World->Heap->Prop}{d:DefRec}{x:Str}
  (hn:l.most=some n) (hdf:d.params.defaults = [])
  (hbind:∀ pm cd doc v:Value,bindArgs (docDef d.name d.params d.body d.scope pm cd doc) ⟨[v],[]⟩=pure [(x,v)])
  (hx:d.scope.names.lookup x=some .local ∨ d.scope.names.lookup x=some .cell)
  (hk:d.scope.kind = .function) (hco:d.scope.isCoroutine=false) (hgen:d.scope.isGenerator=false)
  (body:∀ (w:World) (s₀ s₁ s:Shared) (mg mb:Str->Option Value) (fa:Addr) (o:Obj) (pm cd doc:Value) (a:Addr) (vs:List Value) (ns:List Int),
   Ground q loose [] XP w s₀ mg mb s₁.heap->YP w s₁.heap->
   s₁.heap.get? fa=some o->o.data = .func (docDef d.name d.params d.body d.scope pm cd doc)->s₁.heap.CodeRec cd d.name->mg d.name=some (.ref fa)->
   s₁.heap.get? a=some { cls:=.type "list",data:=.seq vs.toArray }->IntsAre vs ns->ns.length<=n->
   s.gens = #[]->s.os=s₁.os->
   Fr s₁.heap s₁.heap.objs.size s.heap (bindL (envOfC d.name d.scope s₁.heap.objs.size fa cd).kindOf [(x,.ref a)] fun _=>none)->
   Cl s₁.heap.objs.size (cellsFrom (s₁.heap.objs.size+1) d.scope.names []) s.heap (bindC (envOfC d.name d.scope s₁.heap.objs.size fa cd).kindOf [(x,.ref a)] fun _=>none)->
   wpAny (model l.prog w) (callerA.deeper (envOfC d.name d.scope s₁.heap.objs.size fa cd)) (execs d.body (envOfC d.name d.scope s₁.heap.objs.size fa cd))
    (fun f s'=>f = .ret (.bool true)/\OldK s₁.heap s'.heap/\s'.os=s₁.os/\AllBare s'.gens) (fun _ _=>False) s) :
  WalkO q loose XP YP l.row.toRowW d [] (fun f vs=>PySem.call f vs):=by
 intro w s₀ s₁ mg mb G Y fa o pm cd doc dV kV ho hd hcd hD hmg hg args vals as hpre hlay hrd hwl hlo
 obtain rfl:dV = .none:=Dflts.none hD hdf
 obtain rfl:kV = .none:=Dflts.noKw hD
 obtain ⟨a,vs,ns,rfl,rfl,hobj,hints,hlen⟩:=B5 hn hpre hwl
 refine enter_call ?_
 refine call_cells_ret (o:=o) (by rw [depth_caller]; decide) ho (fd_plain hd) G.T.nolimit hcd (hbind pm cd doc (.ref a)) (fun y hy=>?_) (fun h₁ tk F X=>?_) hco hgen hk
 ·obtain rfl:y=(x,Value.ref a):=bh6.mp hy
  rcases hx with e | e
  ·exact .inl e
  ·exact .inr ⟨e,cellsFrom_some _ _ _ (.inl e)⟩
 ·refine bq7 (body w s₀ s₁ { s₁ with heap:=h₁,toks:=tk } mg mb fa o pm cd doc a vs ns G Y ho (fd_plain hd) hcd hmg hobj hints hlen hg rfl F X) (fun f s' hq=>?_) (fun _ _ hq=>hq)
  obtain ⟨rfl,h2,h3,h4⟩:=hq
  exact⟨.inl ⟨.bool true,.bool true,[],rfl,fun _=>rfl,.bool true,B6 l _,fun _=>⟨bx1,fun _ hm=>(nomatch hm)⟩⟩,h2,h3,h4⟩
theorem ar7 {l:OpenLaw}{n:Nat}{q:Program}{loose:List Str}{XP:(Str->Option Value)->Heap->Prop}{YP:World->Heap->Prop}{d:DefRec}
  (hn:l.most=some n) (hdf:d.params.defaults = [])
  (call:∀ (w:World) (s₀ s₁:Shared) (mg mb:Str->Option Value) (fa:Addr) (o:Obj) (pm cd doc:Value) (a:Addr) (vs:List Value) (ns:List Int),
   Ground q loose [] XP w s₀ mg mb s₁.heap->YP w s₁.heap->
   s₁.heap.get? fa=some o->o.data = .func (docDef d.name d.params d.body d.scope pm cd doc)->s₁.heap.CodeRec cd d.name->mg d.name=some (.ref fa)->
   s₁.heap.get? a=some { cls:=.type "list",data:=.seq vs.toArray }->IntsAre vs ns->ns.length<=n->s₁.gens = #[]->
   codeAny (model l.prog w) callerA (.call (.ref fa) ⟨[.ref a],[]⟩) (fun r s'=>r = .ok (.ret (.bool true))/\OldK s₁.heap s'.heap/\s'.os=s₁.os/\AllBare s'.gens) s₁) :
  WalkO q loose XP YP l.row.toRowW d [] (fun f vs=>PySem.call f vs):=by
 intro w s₀ s₁ mg mb G Y fa o pm cd doc dV kV ho hd hcd hD hmg hg args vals as hpre hlay hrd hwl hlo
 obtain rfl:dV = .none:=Dflts.none hD hdf
 obtain rfl:kV = .none:=Dflts.noKw hD
 obtain ⟨a,vs,ns,rfl,rfl,hobj,hints,hlen⟩:=B5 hn hpre hwl
 refine enter_call (codeAny_mono (call w s₀ s₁ mg mb fa o pm cd doc a vs ns G Y ho (fd_plain hd) hcd hmg hobj hints hlen hg) fun r s' hq=>?_)
 obtain ⟨rfl,h2,h3,h4⟩:=hq
 exact⟨.inl ⟨.bool true,.bool true,[],rfl,fun _=>rfl,.bool true,B6 l _,fun _=>⟨bx1,fun _ hm=>(nomatch hm)⟩⟩,h2,h3,h4⟩
end Att
namespace L2
open PySem PySem.Spec PyProof.Rows
theorem p9:∀ {vs:List Value}{ns:List Int},IntsAre vs ns->aH (ns.map V.int) vs
 | _,_,.nil=>.nil
 | _,_,.cons n t h=>.cons ⟨t,rfl⟩ (p9 h)
def pA (H:Hp):Prop:=∀ b,H b=none ∨ ∃ o xs,H b=some (.frz o (.lst xs))
theorem ar8 {P:Program}{w:World}{K:PySem.W.Frag}{mg mb:Str->Option Value}{CX:fO}{k:Nat}{fa a:Addr}{fd:FuncData}{x:Str}{sp:Sp}{s₁:Shared}{vs:List Value}{ns:List Int}
  (KX:K.In s₁.heap) (hns:s₁.heap.Ns mainGlobals mg) (hb:s₁.heap.Ns builtinsNs mb) (hbb:∀ x:Str,x ≠ "__name__"->mb x=bootBuiltins x) (hlim:s₁.heap.NoLimit) (hg:s₁.gens = #[])
  (ha:s₁.heap.get? a=some { cls:=.type "list",data:=.seq vs.toArray }) (hi:IntsAre vs ns) (hl:ns.length<=sizeLine) (hr:c9 k callerA)
  (F:∀ base:Heap,K.In base->base.Ns mainGlobals mg->cU P w K mg base CX k fa fd [x] sp) (hbind:∀ (s:Shared) (u:Value),BindsTo s fd ⟨[u],[]⟩ [(x,u)])
  (hsp:∀ H:Hp,pA H->aI K H a (ns.map V.int)->sp [.ref a] H (fun v _=>v = .bl true) fun _ _ _=>False)
  (hCX:∀ H e s',CX [] H s₁ (fun _ _ _=>False) e s'->False) :
  codeAny (model P w) callerA (.call (.ref fa) ⟨[.ref a],[]⟩) (fun r s'=>r = .ok (.ret (.bool true))/\OldK s₁.heap s'.heap/\s'.os=s₁.os/\AllBare s'.gens) s₁:=by
 have rv:=p9 hi
 have lenV:=hi.length
 have core:∀ H:Hp,pA H->aI K H a (ns.map V.int)->bO P w H s₁.heap->(∀ b,H b ≠ none->b=a)->(H a ≠ none->K.lookup a=none)->
   codeAny (model P w) callerA (.call (.ref fa) ⟨[.ref a],[]⟩) (fun r s'=>r = .ok (.ret (.bool true))/\OldK s₁.heap s'.heap/\s'.os=s₁.os/\AllBare s'.gens) s₁:=by
  intro H hO hS hok hA hK
  have base_of:∀ {b:Addr}{o:Obj},s₁.heap.get? b=some o->H b=none->(hJ s₁.heap H).get? b=some o:=fun e n=>ag5 e n
  have noA:∀ {b:Addr}{o:Obj}{es:Array DictEntry}{ep:Nat},s₁.heap.get? b=some o->o.data = .dict es ep->H b=none:=fun {b o es ep} e d=>by
   cases q:H b with
   | none=>rfl
   | some u=>
    have e':b=a:=hA b (by rw [q]; simp)
    subst e'
    rw [ha] at e; cases e
    have d':Data.seq vs.toArray _=Data.dict es ep:=d
    cases d'
  have nsK:∀ {b:Addr}{m:Str->Option Value},s₁.heap.Ns b m->(hJ s₁.heap H).Ns b m:=fun {b m} ⟨o,es,ep,e,d,r⟩=>⟨o,es,ep,base_of e (noA e d),d,r⟩
  have hKb:K.In (hJ s₁.heap H):=fun b o e=>base_of (KX b o e) (by
   cases q:H b with
   | none=>rfl
   | some u=>
    have e':b=a:=hA b (by rw [q]; simp)
    subst e'
    rw [hK (by rw [q]; simp)] at e; cases e)
  have hM:Mod K mg (hJ s₁.heap H):=⟨hKb,nsK hns,⟨mb,nsK hb,hbb⟩,let ⟨mc,h1,h2⟩:=hlim; ⟨mc,nsK h1,h2⟩⟩
  have e0:oV P w K mg (hJ s₁.heap H) callerA [] s₁ H:=⟨rfl,hM,fun b o e=>ag6 e,Nat.le_of_eq (ag4 _ _),trivial,fun b hb=>absurd (show b ∈ ([]:List Addr) from hb) (by simp),hok,.of_eq hg⟩
  refine codeAny_mono ((F _ hKb (nsK hns)).run callerA [] s₁ H ⟨[.ref a],[]⟩ [.ref a] [.ref a] _ _ hr e0 (hbind s₁ (.ref a)) (.cons rfl .nil) (hsp H hO hS)) fun r s' h=>?_
  cases r with
  | error e=>exact (hCX H e s' h).elim
  | ok fl=>
   cases fl with
   | next=>exact False.elim h
   | brk=>exact False.elim h
   | cont=>exact False.elim h
   | ret u=>
    obtain ⟨v,H',os,bare,un,hok',r',q⟩:=h
    have q':v = .bl true:=q
    subst q'
    obtain rfl:u=Value.bool true:=r'
    refine⟨rfl,OldK.of_keep fun b o e=>?_,os,bare⟩
    cases q:H b with
    | none=>exact un.keep b o e q (by intro z; exact absurd (show b ∈ ([]:List Addr) from z) (by simp)) (by simp)
    | some u=>
     rcases hO b with z | ⟨ob,xs,z⟩
     ·rw [q] at z; cases z
     ·have z2:=un.frzs b ob _ z
      obtain ⟨e1,_⟩:=hok b _ z
      obtain ⟨e2,_⟩:=hok' b _ z2
      rw [e] at e1; cases e1
      exact e2
 cases hk:K.lookup a with
 | some o=>
  have e:=KX a o hk
  rw [ha] at e
  cases e
  refine core (fun _=>none) (fun _=>.inl rfl) (.inr ⟨_,vs.toArray,_,hk,rfl,rfl,rfl,by rw [bh0,lenV]; exact hl,by simpa using rv⟩) (fun b u z=>by have z':(none:Option HO)=some u:=z; cases z') (fun b z=>absurd rfl z) fun z=>absurd rfl z
 | none=>
  refine core (fun b=>if b=a then some (.frz { cls:=.type "list",data:=.seq vs.toArray } (.lst (ns.map V.int))) else none) (fun b=>?_) (.inl (.inr ⟨{ cls:=.type "list",data:=.seq vs.toArray },if_pos rfl⟩)) (fun b u z=>?_) (fun b z=>?_) fun _=>hk
  ·by_cases hb:b=a
   ·exact .inr ⟨_,_,if_pos hb⟩
   ·exact .inl (if_neg hb)
  ·by_cases hb:b=a
   ·have z':=(if_pos hb).symm.trans z
    cases z'
    subst hb
    exact⟨ha,by rw [bh2]; exact hl,vs,_,rv,ha⟩
   ·have z':=(if_neg hb).symm.trans z
    cases z'
  ·by_cases hb:b=a
   ·exact hb
   ·exact absurd (if_neg hb) z
theorem ar9 {l:PySem.W.OpenLaw}{n k:Nat}{q:Program}{loose:List Str}{XP:(Str->Option Value)->Heap->Prop}{YP:World->Heap->Prop}{d:DefRec}{K:Params->PySem.W.Frag}{CX:World->fO}{sp:World->Sp}{x:Str}
  (hn:l.most=some n) (hn2:n<=sizeLine) (hdf:d.params.defaults = []) (hr:c9 k callerA)
  (hY:∀ (w:World) (h:Heap),YP w h->(K w.params).In h)
  (F:∀ (w:World) (mg:Str->Option Value) (fa:Addr) (h:Heap),(K w.params).In h->h.Ns mainGlobals mg->mg d.name=some (.ref fa)->
   ∃ fd:FuncData,(∀ (s:Shared) (u:Value),BindsTo s fd ⟨[u],[]⟩ [(x,u)])/\
    ∀ base:Heap,(K w.params).In base->base.Ns mainGlobals mg->cU l.prog w (K w.params) mg base (CX w) k fa fd [x] (sp w))
  (hsp:∀ (w:World) (H:Hp) (a:Addr) (ns:List Int),ns.length<=n->pA H->aI (K w.params) H a (ns.map V.int)->sp w [.ref a] H (fun v _=>v = .bl true) fun _ _ _=>False)
  (hCX:∀ (w:World) (H:Hp) (s:Shared) (e:Value) (s':Shared),CX w [] H s (fun _ _ _=>False) e s'->False) :
  PySem.W.WalkO q loose XP YP l.row.toRowW d [] (fun f vs=>PySem.call f vs):=by
 refine Att.ar7 hn hdf fun w s₀ s₁ mg mb fa o pm cd doc a vs ns G Y ho hd hcd hmg hobj hints hlen hg=>?_
 have KX:=hY w _ Y
 obtain ⟨fd,hb,hF⟩:=F w mg fa _ KX G.T.g hmg
 exact ar8 KX G.T.g G.T.b G.T.builtins G.T.nolimit hg hobj hints (bk9 hlen hn2) hr hF hb (fun H hO hS=>hsp w H a ns hlen hO hS) fun H e s'=>hCX w H s₁ e s'
def iB (s:Stmt):Arguments:=match s with
 | .FunctionDef _ a _ _ _ _ _ _ _ _=>a
 | _=>{ posonlyargs:=[],args:=[],vararg:=none,kwonlyargs:=[],kw_defaults:=[],kwarg:=none,defaults:=[] }
def dM (s:Stmt):List Stmt:=match s with
 | .FunctionDef _ _ b _ _ _ _ _ _ _=>b
 | _=>[]
def aO (s:Stmt):Scope:=match s with
 | .FunctionDef _ _ _ _ _ _ sc _ _ _=>sc
 | _=>{ kind:=.function,names:=[],isGenerator:=false,isCoroutine:=false }
abbrev dH:fO:=fun _ _ _ _ _ _=>False
abbrev E0:XK:=fun _ _ _=>False
theorem as0 {X:Cx}:mW dH X E0:=fun _ _ _ _ _ _ _ h=>h.elim
structure eN (K:PySem.W.Frag) (x qual:Str) (st:Stmt) (f:Addr) (fd:FuncData):Prop where
 ex:∃ (oc:Value) (od:Option Addr) (kV doc pm:Value) (an:Option Addr) (cdv ct:Value) (osl:Array (Option Value)),
  fd=PySem.W.fnOf x qual (iB st) (dM st) (aO st) .none kV doc pm an cdv ct/\K.lookup f=some ⟨oc,od,.func fd,osl⟩/\PySem.W.codeIn K cdv qual=true
 kp:PySem.W.keepIn K (.ref f)=true
section
variable {P : Program} {w : World} {K : PySem.W.Frag} {mg : Str → Option Value} {base : Heap}
theorem eN.ok {x qual:Str}{st:Stmt}{f:Addr}{fd:FuncData}{N ps:List Str}{k:Nat}{sp:Sp} (F:eN K x qual st f fd) (S:FnScope N ps (aO st)) (len:∀ vs H Q E,sp vs H Q E->vs.length=ps.length)
  (hbody:∀ (cdv:Value) (A:Around) (outer:List Env) (s:Shared) (H:Hp) (vs:List V) (Q:VK) (E:XK),c9 k (A.deeper (envOfC qual (aO st) s.heap.objs.size f cdv))->sp vs H Q E->
   ∃ t,dG (cV dH P w K mg base N qual (aO st) f cdv A outer s H E).nox (dM st) t/\t { nx:=fun _ H'=>Q .non H',rt:=Q } (fP N vs) H):cU P w K mg base dH (k+1) f fd ps sp:=by
 obtain ⟨oc,od,kV,doc,pm,an,cdv,ct,osl,rfl,lk,hcd⟩:=F.ex
 refine zL lk hcd S len fun A outer s H vs Q E hr hsp=>?_
 obtain ⟨t,h,q⟩:=hbody cdv A outer s H vs Q E hr hsp
 exact⟨t,h.nox,q⟩
theorem eN.binds {x qual:Str}{st:Stmt}{f:Addr}{fd:FuncData}{ps:List Str} (F:eN K x qual st f fd)
  (h:∀ (kV doc pm:Value) (an:Option Addr) (cdv ct:Value) (us:List Value),us.length=ps.length->bindArgs (PySem.W.fnOf x qual (iB st) (dM st) (aO st) .none kV doc pm an cdv ct) ⟨us,[]⟩=pure (ps.zip us)):i7 K fd ps []:=by
 obtain ⟨oc,od,kV,doc,pm,an,cdv,ct,osl,rfl,lk,hcd⟩:=F.ex
 exact .all (h kV doc pm an cdv ct)
theorem as1 {x qual:Str}{st:Stmt}{f:Addr}{oc:Value}{od an:Option Addr}{osl:Array (Option Value)}{kV doc pm cdv ct:Value} (l:K.lookup f=some ⟨oc,od,.func (PySem.W.fnOf x qual (iB st) (dM st) (aO st) .none kV doc pm an cdv ct),osl⟩)
  (c:PySem.W.codeIn K cdv qual=true) (k:PySem.W.keepIn K (.ref f)=true):eN K x qual st f (PySem.W.fnOf x qual (iB st) (dM st) (aO st) .none kV doc pm an cdv ct):=⟨⟨oc,od,kV,doc,pm,an,cdv,ct,osl,rfl,l,c⟩,k⟩
end
theorem l5 {A:Around}{k:Nat} (hr:c9 k A):A.units+1 < cLine:=bw4 (Nat.add_le_add_left (by decide:1<=64) _) hr.units
theorem pB {n:Nat} (h:n<=1000):n < sizeLine:=bw4 h (by decide)
section
variable {X : Cx}
theorem pv (i:Nat) {x:Str}{pos:Pos} (hN:X.N[i]? = some x:=by rfl) (hv:fZ X.env.scope x:=by first | exact Or.inl rfl | exact Or.inr (Or.inl rfl) | exact Or.inr (Or.inr rfl)) (hd:(x == ("__debug__" : Str))=false:=by decide)
  (hcd:(x == ("__classdict__" : Str))=false:=by decide):PE X (.Name x pos) (hZ i):=iY hN hv hd hcd
theorem as2:cD X (.builtin "len") (fun xs H Q=>∃ a kvs,xs = [V.ref a]/\H a=some (.dK kvs)/\Q (.int kvs.length) H):=by
 intro pins s σ H xs us Q I r h
 obtain ⟨a,kvs,rfl,ha,q⟩:=h
 obtain ⟨u,rfl,ru⟩:=dW r
 cases ru
 exact aq9 I (.inl ha) fun t s' I'=>⟨.int kvs.length,H,I',⟨t,rfl⟩,q⟩
end
theorem aS {A B:Prop} (h:B):if false=true then A else B:=by
 rw [if_neg bi7]
 exact h
theorem bB {A B:Prop} (h:A):if true=true then A else B:=by
 rw [if_pos rfl]
 exact h
def aD (H H':Hp):Prop:=∀ b o,H b=some o->H' b=some o
theorem aD.refl (H:Hp):aD H H:=fun _ _ h=>h
theorem aD.trans {H H1 H2:Hp} (a:aD H H1) (b:aD H1 H2):aD H H2:=fun c o h=>b c o (a c o h)
theorem aD.free {H H':Hp} (e:aD H H') {l:Addr} (h:H' l=Option.none):H l=Option.none:=by
 cases q:H l with
 | none=>rfl
 | some o=>
  rw [e l o q] at h
  cases h
def dI (cells:List (Str × Addr)):List (Str × NameKind)->List (Str × Addr)->List (Str × Addr)
 | [],cs=>cs
 | (n,k) :: r,cs=>dI cells r (if k == .free then (n,(cells.lookup n).getD 0) :: cs else cs)
theorem uA {env:Env}:∀ (ns:List (Str × NameKind)) (cs:List (Str × Addr)),(∀ x ∈ ns,x.2 = .free->∃ c,env.cells.lookup x.1=some c)->
  (forIn ns cs (fun (x:Str × NameKind) r=>(match x with
   | (name,kind)=>if (kind == .free)=true then (do let y <- cellOf env name; pure (ForInStep.yield ((name,y) :: r))) else pure (ForInStep.yield r)):_->_->Sem _))=(pure (dI env.cells ns cs):Sem (List (Str × Addr)))
 | [],cs,_=>by rw [List.forIn_nil]; rfl
 | (n,k) :: r,cs,h=>by
  rw [List.forIn_cons]
  have hr:∀ x ∈ r,x.2 = .free->∃ c,env.cells.lookup x.1=some c:=fun x hx=>h x (bi3 _ hx)
  cases hk:(k == NameKind.free) with
  | true=>
   have e:k = .free:=by simpa using hk
   obtain ⟨c,hc⟩:=h (n,k) bi0 e
   simp only [hk,if_true]
   have e1:cellOf env n=pure c:=by unfold cellOf; rw [hc]
   rw [e1]
   show ((pure c >>= fun y=>pure (ForInStep.yield ((n,y) :: cs))) >>= _:Sem _)=_
   rw [pure_bind,pure_bind]
   have:=uA (env:=env) r ((n,c) :: cs) hr
   refine this.trans ?_
   unfold dI
   simp only [hk,if_true,hc,Option.getD_some]
   cases r <;> rfl
  | false=>
   simp only [hk,bj1,bn2]
   rw [pure_bind]
   have:=uA (env:=env) r cs hr
   refine this.trans ?_
   conv=>rhs; unfold dI
   simp only [hk,bj1,bn2]
theorem uB {scope:Scope}{env:Env} (h:∀ x ∈ scope.names,x.2 = .free->∃ c,env.cells.lookup x.1=some c):closureFor scope env=pure (dI env.cells scope.names []):=by
 have e:=uA (env:=env) scope.names [] h
 unfold closureFor
 rw [show (pure (dI env.cells scope.names []):Sem (List (Str × Addr)))=(pure (dI env.cells scope.names []) >>= pure) by rw [pure_bind]]
 rw [<- e]
theorem pC {cells:List (Str × Addr)}:∀ (ns:List (Str × NameKind)) (cs:List (Str × Addr)) {x:Str}{c:Addr},(∀ y ∈ ns,y.2 = .free->∃ c,cells.lookup y.1=some c)->
  (∀ x c,cs.lookup x=some c->cells.lookup x=some c)->(dI cells ns cs).lookup x=some c->cells.lookup x=some c
 | [],cs,x,c,_,hc,h=>hc x c h
 | (n,k) :: r,cs,x,c,hn,hc,h=>by
  unfold dI at h
  have hr:∀ y ∈ r,y.2 = .free->∃ c,cells.lookup y.1=some c:=fun y hy=>hn y (bi3 _ hy)
  cases hk:(k == NameKind.free) with
  | false=>
   simp only [hk,bj1,bn2] at h
   exact pC r cs hr hc h
  | true=>
   simp only [hk,if_true] at h
   refine pC r _ hr (fun y d e=>?_) h
   obtain ⟨c0,h0⟩:=hn (n,k) bi0 (by simpa using hk)
   have h0:cells.lookup n=some c0:=h0
   rw [h0] at e
   rw [bo8] at e
   by_cases hyn:y=n
   ·subst hyn
    simp only [bq5,Option.getD_some] at e
    rw [h0]; exact e
   ·have:(y == n)=false:=beq_eq_false_iff_ne.mpr hyn
    simp only [this] at e
    exact hc y d e
theorem uC {cells:List (Str × Addr)}:∀ (ns:List (Str × NameKind)) (cs:List (Str × Addr)) {x:Str},((x,NameKind.free) ∈ ns ∨ ∃ c,cs.lookup x=some c)->∃ c,(dI cells ns cs).lookup x=some c
 | [],cs,x,h=>by
  rcases h with h | h
  ·simp at h
  ·exact h
 | (n,k) :: r,cs,x,h=>by
  unfold dI
  refine uC r _ ?_
  rcases h with h | ⟨c,h⟩
  ·rcases bh5.mp h with e | e
   ·cases e
    exact .inr ⟨_,by simp [bo8]; rfl⟩
   ·exact .inl e
  ·right
   cases hk:(k == NameKind.free) with
   | false=>exact⟨c,by simpa [hk] using h⟩
   | true=>
    simp only [if_true]
    rw [bo8]
    by_cases hxn:(x == n)=true
    ·simp only [hxn]; exact⟨_,rfl⟩
    ·simp only [bs0.mpr hxn]; exact⟨c,h⟩
theorem pD {env:Env}:∀ {names:List (Str × NameKind)}{x:Str}{k:NameKind},(names.map fun (n,k)=>if (k == NameKind.free && env.scope.kind == .function && env.kindOf n == some .cell) then (n,NameKind.cell) else (n,k)).lookup x=some k->
  names.lookup x=some k ∨ (names.lookup x=some .free/\k = .cell)
 | [],_,_,h=>by simp at h
 | (n,q) :: r,x,k,h=>by
  have ih:=@pD env r x k
  rw [bn4] at h
  by_cases hx:(x == n)=true
  ·have e:x=n:=by simpa using hx
   subst e
   by_cases hc:(q == NameKind.free && env.scope.kind == .function && env.kindOf x == some .cell)=true
   ·simp only [hc,if_true,bo8,bq5] at h
    have hq:q = .free:=by simp at hc; exact hc.1.1
    exact .inr ⟨by simp [bo8,hq],(bj7 h).symm⟩
   ·simp only [hc,bj1,bn2,bo8,bq5] at h
    exact .inl (by simp [bo8]; exact bj7 h)
  ·have hx':(x == n)=false:=bs0.mpr hx
   have h':(r.map fun (n,k)=>if (k == NameKind.free && env.scope.kind == .function && env.kindOf n == some .cell) then (n,NameKind.cell) else (n,k)).lookup x=some k:=by
    by_cases hc:(q == NameKind.free && env.scope.kind == .function && env.kindOf n == some .cell)=true
    ·simp only [hc,if_true,bo8,hx'] at h; exact h
    ·simp only [hc,bj1,bn2,bo8,hx'] at h; exact h
   simp only [bo8,hx']
   exact ih h'
def eO (fr:List (Option Nat)) (σ:St):St:=fr.map fun o=>o.bind fun j=>(σ[j]?).join
def Wk (σ₁ σ₂:St):Prop:=σ₁.length=σ₂.length/\∀ (i:Nat) v,σ₁[i]? = some (some v)->σ₂[i]? = some (some v)
theorem Wk.refl (σ:St):Wk σ σ:=⟨rfl,fun _ _ h=>h⟩
theorem Wk.set {σ τ:St}{i:Nat}{v:V} (h:Wk σ τ) (hi:σ[i]? = some none):Wk σ (τ.set i (some v)):=by
 refine⟨by rw [bs4]; exact h.1,fun j w e=>?_⟩
 by_cases hj:j=i
 ·subst hj; rw [hi] at e; cases e
 ·rw [bl8 (Ne.symm hj)]; exact h.2 j w e
theorem iC:∀ (ns:List (Str × NameKind)) (n:Nat) (cs:List (Str × Addr)),cellsFrom n ns cs=cellsFrom n ns [] ++ cs
 | [],_,_=>rfl
 | (x,k) :: r,n,cs=>by
  unfold cellsFrom
  split
  ·rw [iC r (n+1) ((x,n) :: cs),iC r (n+1) [(x,n)]]; simp
  ·exact iC r n cs
theorem uD:∀ (ns:List (Str × NameKind)) (n:Nat) {x:Str}{c:Addr},(x,c) ∈ cellsFrom n ns []->(x,NameKind.cell) ∈ ns
 | [],_,_,_,h=>by simp [cellsFrom] at h
 | (y,k) :: r,n,x,c,h=>by
  unfold cellsFrom at h
  split at h
  ·rename_i hk
   rw [iC] at h
   rcases bj9.mp h with z | z
   ·exact bi3 _ (uD r _ z)
   ·rw [bh6] at z
    cases z
    have:k = .cell:=by simpa using hk
    rw [this]; exact bi0
  ·exact bi3 _ (uD r _ h)
theorem pE:∀ (ns:List (Str × NameKind)) (n:Nat) {x:Str},(x,NameKind.cell) ∈ ns->∃ c,(x,c) ∈ cellsFrom n ns []
 | (y,k) :: r,n,x,h=>by
  unfold cellsFrom
  rcases bh5.mp h with z | z
  ·cases z
   rw [if_pos (by rfl),iC]
   exact⟨n,bl5 _ (by simp)⟩
  ·split
   ·obtain ⟨c,hc⟩:=pE r (n+1) z
    rw [iC]
    exact⟨c,bs8 _ hc⟩
   ·exact pE r n z
theorem uE {α:Type}:∀ {l:List (Str × α)}{x:Str}{c:α},(x,c) ∈ l->∃ d,l.lookup x=some d
 | (y,v) :: r,x,c,h=>by
  rw [bo8]
  cases hb:x == y with
  | true=>exact⟨v,rfl⟩
  | false=>
   rcases bh5.mp h with z | z
   ·cases z; simp at hb
   ·exact uE z
theorem pF {α:Type}{x:Str}:∀ (l r:List (Str × α)),(l ++ r).lookup x=(match l.lookup x with | some v=>some v | none=>r.lookup x)
 | [],_=>rfl
 | (y,v) :: l,r=>by
  rw [List.cons_append,bo8,bo8]
  cases hb:x == y with
  | true=>rfl
  | false=>exact pF l r
def fQ (X:Cx) (scope:Scope) (C:Addr):List (Str × Addr):=cellsFrom (C+1) scope.names (dI X.env.cells scope.names [])
theorem jZ {X:Cx}{scope:Scope}{C:Addr}{x:Str}{c:Addr} (h:(fQ X scope C).lookup x=some c) :
  (x,c) ∈ cellsFrom (C+1) scope.names [] ∨ ((∀ d,(x,d) ∉ cellsFrom (C+1) scope.names [])/\(dI X.env.cells scope.names []).lookup x=some c):=by
 unfold fQ at h
 rw [iC,pF] at h
 cases e:(cellsFrom (C+1) scope.names []).lookup x with
 | some v=>rw [e] at h; cases h; exact .inl (bn6 e)
 | none=>
  rw [e] at h
  refine .inr ⟨fun d hd=>?_,h⟩
  obtain ⟨d',z⟩:=uE hd
  rw [e] at z; cases z
theorem as3 {X:Cx}{scope:Scope}{C:Addr}{x:Str}{c:Addr} (hn:(x,NameKind.cell) ∉ scope.names) (h:(dI X.env.cells scope.names []).lookup x=some c):(fQ X scope C).lookup x=some c:=by
 unfold fQ
 rw [iC,pF]
 cases e:(cellsFrom (C+1) scope.names []).lookup x with
 | some v=>exact absurd (uD _ _ (bn6 e)) hn
 | none=>exact h
theorem B7 {X:Cx}{scope:Scope}{C:Addr}{x:Str} (h:(x,NameKind.cell) ∈ scope.names ∨ ∃ c,(dI X.env.cells scope.names []).lookup x=some c):∃ c,(fQ X scope C).lookup x=some c:=by
 unfold fQ
 rw [iC,pF]
 cases e:(cellsFrom (C+1) scope.names []).lookup x with
 | some v=>exact⟨v,rfl⟩
 | none=>
  rcases h with h | h
  ·obtain ⟨c,hc⟩:=pE scope.names (C+1) h
   obtain ⟨d,hd⟩:=uE hc
   rw [e] at hd; cases hd
  ·exact h
def bI (X:Cx) (scope:Scope) (N:List Str) (s:Shared) (H:Hp) (C:Addr) (fp:List Addr) (E:Value->Shared->Prop):Cx:=
 { X with N:=N,s₀:=s,H₀:=H,env:=compEnvC scope (fQ X scope C) C X.env,outer:=X.stack,ex:=fp,fn:=fun x=>scope.names.lookup x == some .cell,pn:=[],xe:=E }
structure cZ (X:Cx) (scope:Scope) (N:List Str) (fr:List (Option Nat)):Prop where
 kind:scope.kind = .function
 own:∀ y ∈ scope.names,y.2 = .cell->scope.names.lookup y.1=some .cell
 names:∀ y ∈ scope.names,y.2 = .local->scope.names.lookup y.1=some .local
 free:∀ y ∈ scope.names,y.2 = .free->X.env.scope.names.lookup y.1=some .cell ∨ X.env.scope.names.lookup y.1=some .free
 len:fr.length=N.length
 from_:∀ (i j:Nat),fr[i]? = some (some j)->∃ x,N[i]? = some x/\X.N[j]? = some x/\scope.names.lookup x=some .free
section
variable {X : Cx} {pins : List (Addr × Obj)} {σ : St} {H : Hp} {s : Shared} {scope : Scope} {N : List Str} {fr : List (Option Nat)}
theorem cZ.cells (S:cZ X scope N fr) (I:a6 X pins σ H s):∀ y ∈ scope.names,y.2 = .free->∃ c,X.env.cells.lookup y.1=some c:=fun y hy hk=>I.ok.has y.1 (S.free y hy hk)
theorem as4 {C D:Addr}{fp:List Addr}{E:Value->Shared->Prop}{h1:Heap}{tk:Nat}{m:Str->Option Value} (S:cZ X scope N fr) (I:a6 X pins σ H s)
  (hf:∀ b ∈ fp,fD X pins H b) (hfl:∀ b ∈ fp,b < s.heap.objs.size) (hD:s.heap.objs.size<=D) (hC:s.heap.objs.size<=C) (hDC:D < C)
  (old:∀ b o,s.heap.get? b=some o->h1.get? b=some o) (hns:h1.Ns C m) (hacc:h1.get? D=some { cls:=.type "list",data:=.seq #[] 0 }) (hco:CellsOk h1 (C+1) (cellsFrom (C+1) scope.names [])) :
  a6 (bI X scope N s H C fp E) [] (eO fr σ) (upd H D (.lst [])) { s with heap:=h1,toks:=tk }:=by
 have hHD:H D=none:=I.hok.fresh hD
 have cl:=S.cells I
 have cs:∀ {x:Str}{c:Addr},(dI X.env.cells scope.names []).lookup x=some c->X.env.cells.lookup x=some c:=fun {x c} h=>pC scope.names [] cl (fun _ _ z=>by simp at z) h
 have clt:∀ {x:Str}{c:Addr},X.env.cells.lookup x=some c->c < s.heap.objs.size:=fun {x c} h=>by obtain ⟨v,z⟩:=I.cell x c h; exact z.lt
 have nge:∀ {x:Str}{c:Addr},(x,c) ∈ cellsFrom (C+1) scope.names []->C < c:=fun {x c} h=>(hco.empty x c h).2
 refine⟨⟨I.ok.mod,?_,I.ok.glob,I.ok.blt,hC,?_,?_,?_,I.ok.hd,I.ok.frames,.inl rfl,?_,I.bs,bk9 I.ok.bsz I.sz,?_,?_,I.stack,I.stkFree⟩,rfl,I.bare,Un.laid old hD hHD,⟨m,hns,?_⟩,?_,?_,?_,fun p hp=>absurd (show p ∈ ([]:List (Addr × Obj)) from hp) (by simp),?_,?_⟩
 ·exact S.kind
 ·intro x y c h1 h2
  rcases jZ h1 with a | ⟨_,a⟩ <;> rcases jZ h2 with b | ⟨_,b⟩
  ·exact name_of_addr hco.apart a b
  ·exact absurd (bi5 (Nat.lt_trans (nge a) (clt (cs b))) hC) (bm1 _)
  ·exact absurd (bi5 (Nat.lt_trans (nge b) (clt (cs a))) hC) (bm1 _)
  ·exact I.ok.inj x y c (cs a) (cs b)
 ·intro x hx
  have hx:(relabel scope X.env).names.lookup x=some .cell ∨ (relabel scope X.env).names.lookup x=some .free:=hx
  have fin:(x,NameKind.free) ∈ scope.names->∃ c,(fQ X scope C).lookup x=some c:=fun z=>B7 (.inr (uC scope.names [] (.inl z)))
  rcases hx with hx | hx
  ·rcases pD hx with z | z
   ·exact B7 (.inl (bn6 z))
   ·exact fin (bn6 z.1)
  ·rcases pD hx with z | z
   ·exact fin (bn6 z)
   ·exact absurd z.2 (by decide)
 ·intro x c hx h
  have hx:(scope.names.lookup x == some NameKind.cell)=true:=hx
  have hx:scope.names.lookup x=some .cell:=by simpa using hx
  rcases jZ h with a | ⟨a,_⟩
  ·exact bk9 hC (bn9 (nge a))
  ·obtain ⟨d,hd⟩:=pE scope.names (C+1) (bn6 hx)
   exact absurd hd (a d)
 ·intro b hb
  refine⟨bj5 (bi5 (hfl b hb) hC),fun x c e=>?_⟩
  rcases jZ e with a | ⟨_,a⟩
  ·exact bo0 (Nat.lt_trans (bi5 (hfl b hb) hC) (nge a))
  ·exact (hf b hb).2.2.2.2.1 x c (cs a)
 ·intro b o e hb
  rcases (hf b hb).2.2.2.1 with z | z
  ·exact I.ok.noex b o e z
  ·exact absurd (bi5 (bh9 e) (bk9 I.ok.bsz z)) (bm1 _)
 ·intro b hb z
  rcases bh5.mp (I.stkSub b z) with e | e
  ·exact (hf b hb).2.1 e
  ·exact (hf b hb).2.2.1 e
 ·intro i x v e1 e2 e3
  have e2:(fr.map fun o=>o.bind fun j=>(σ[j]?).join)[i]? = some (some v):=e2
  rw [bi4] at e2
  cases ef:fr[i]? with
  | none=>rw [ef] at e2; cases e2
  | some o=>
   rw [ef] at e2
   cases o with
   | none=>cases e2
   | some j=>
    have e2:some ((σ[j]?).join)=some (some v):=e2
    have ej:σ[j]? = some (some v):=by
     cases q:σ[j]? with
     | none=>rw [q] at e2; cases e2
     | some w=>rw [q] at e2; cases w with
      | none=>cases e2
      | some w=>cases e2; rfl
    obtain ⟨y,a1,a2,a4⟩:=S.from_ i j ef
    have e1:N[i]? = some x:=e1
    rw [e1] at a1
    cases a1
    have a3:(x,NameKind.free) ∈ scope.names:=bn6 a4
    have vis:fZ X.env.scope x:=(S.free _ a3 rfl).elim (fun z=>.inr (.inl z)) fun z=>.inr (.inr z)
    obtain ⟨m0,hn0,hl0⟩:=I.loc
    obtain ⟨u,r,l⟩:=hl0 j x v a2 ej vis
    refine⟨u,r,.inr ⟨?_,?_⟩⟩
    ·have e3:(relabel scope X.env).names.lookup x=some .local ∨ (relabel scope X.env).names.lookup x=some .cell ∨ (relabel scope X.env).names.lookup x=some .free:=e3
     rcases e3 with z | z | z
     ·rcases pD z with y | y
      ·rw [a4] at y; cases y
      ·exact absurd y.2 (by decide)
     ·exact .inl z
     ·exact .inr z
    ·obtain ⟨c,hc⟩:=uC (cells:=X.env.cells) scope.names [] (x:=x) (.inl a3)
     refine⟨c,as3 (fun z=>by have:=S.own _ z rfl; rw [a4] at this; cases this) hc,?_⟩
     have hc':=cs hc
     have S1:=S.free (x,.free) a3 rfl
     rcases l with ⟨k,_⟩ | ⟨_,c2,hc2,z⟩
     ·have k:X.env.scope.names.lookup x=some .local:=k
      rcases S1 with q | q <;> (have q:X.env.scope.names.lookup x=_:=q; rw [k] at q; cases q)
     ·rw [hc'] at hc2; cases hc2
      obtain ⟨oc,ho,hd⟩:=z
      exact⟨oc,old c oc ho,hd⟩
 ·intro x c e
  rcases jZ e with a | ⟨_,a⟩
  ·exact⟨_,(hco.empty x c a).1⟩
  ·obtain ⟨v,oc,ho,hd⟩:=I.cell x c (cs a)
   exact⟨v,oc,old c oc ho,hd⟩
 ·show upd H D (.lst []) C=none
  rw [aM (bo0 hDC)]; exact I.hok.fresh hC
 ·intro x c e
  show upd H D (.lst []) c=none
  rcases jZ e with a | ⟨_,a⟩
  ·rw [aM (bo0 (Nat.lt_trans hDC (nge a)))]; exact I.hok.fresh (bk9 hC (bn9 (nge a)))
  ·have q:=cs a
   rw [aM (bj5 (bi5 (clt q) hD))]
   exact I.freeC x c q
 ·exact I.hok.laid old hD ⟨bl6 _,[],0,.nil,hacc⟩
 ·show (eO fr σ).length=N.length
  unfold eO; rw [bh2]; exact S.len
end
def j7 (X:Cx) (ifs:List Expr) (t:TT):Prop:=
 ∀ (pins:List (Addr × Obj)) (s:Shared) (σ:St) (H:Hp) (Q:Bool->Hp->Prop),a6 X pins σ H s->t σ H Q->
  wpAny (model X.prog X.w) X.A (forIn ifs true fun c r=>if r=true then do let ok <- isTrue c X.env (eval c X.env); pure (ForInStep.yield ok) else pure (ForInStep.yield r)) (TP X pins σ Q) X.xe s
def uF:TT:=fun _ H Q=>Q true H
theorem B8 {X:Cx}:j7 X [] uF:=fun _ _ _ H _ I h=>wpAny_tests_nil ⟨H,I,h⟩
theorem uG {X:Cx}{c:Expr}{t:TT} (h:PT X c t):j7 X [c] t:=fun pins s σ H Q I hq=>wpAny_tests_one (h pins s σ H Q I hq)
section
variable {prog : Program} {w : World} {A : Around}
def uH (prog:Program) (w:World) (A:Around) (elt tg:Expr) (ifs:List Expr) (it acc:Value) (env:Env) (lost:Value->Shared->Prop) (stop next:Shared->Prop) (s:Shared):Prop:=
 let M:=model prog w
 let tests:Sem Bool:=forIn ifs true fun c r=>if r=true then do let ok <- isTrue c env (eval c env); pure (ForInStep.yield ok) else pure (ForInStep.yield r)
 let put:Shared->Prop:=wpAny M A (eval elt env) (fun x=>wpAny M A (call (.builtin "list.append") [acc,x]) (fun _=>next) lost) lost
 let taken:Value->Shared->Prop:=fun v=>wpAny M A (letOwnedTupleGo tg it v) (fun _=>wpAny M A (assign tg env v) (fun _=>wpAny M A tests (fun ok s'=>if ok=true then put s' else next s') lost) lost) lost
 wpAny M A (pyNext it) (fun r s'=>match r with
  | none=>stop s'
  | some v=>taken v s') lost s
theorem as5 {R:Result->Shared->Prop}{s:Shared}{elt tg iter:Expr}{ifs:List Expr}{scope:Scope}{pos:Pos}{it acc:Value}{env:Env} (I:Nat->Shared->Prop)
  (turn:∀ n s,I n s->uH prog w A elt tg ifs it acc env (notedBy (model prog w) A env fun e=>R (.error e)) (R (.ok .next)) (fun s'=>∃ m,m < n/\I m s') s) (n:Nat) (h:I n s) :
  codeAny (model prog w) A (.compLoop (.ListComp elt [⟨tg,iter,ifs,0⟩] scope pos) 0 it acc env) R s:=by
 apply codeAny_loop rfl I _ n h
 intro k s1 h1
 change wpAny _ A ((compTurn _ 0 it acc env).onRaise (fun x=>do noteFrame x env; theTreesLotGoes x)) _ _ s1
 apply wpAny_noted
 rw [compTurn_list]
 have t:=turn k s1 h1
 unfold uH at t
 apply bg5
 apply wpAny_standAt
 apply bg5
 refine bq7 t (fun r s2 h2=>?_) fun _ _ z=>z
 cases r with
 | none=>exact bg8 h2
 | some v=>
  apply bg5
  refine bq7 h2 (fun _ s3 h3=>?_) fun _ _ z=>z
  apply bg5
  refine bq7 h3 (fun _ s4 h4=>?_) fun _ _ z=>z
  apply bg5
  refine bq7 h4 (fun ok s5 h5=>?_) fun _ _ z=>z
  cases ok with
  | false=>exact bg8 ⟨rfl,h5⟩
  | true=>
   apply bg5
   apply bg5
   refine bq7 h5 (fun x s6 h6=>?_) fun _ _ z=>z
   apply bg5
   exact bq7 h6 (fun _ s7 h7=>bg8 (bg8 ⟨rfl,h7⟩)) fun _ _ z=>z
end
def pG (g:TG) (tc:TT) (te:TE) (σ0:St) (J:It) (D:Addr) (Q:VK) (W:Nat->Nat->List V->Hp->Prop):Prop:=
 ∀ i m acc H',W i m acc H'->H' D=some (.lst acc)/\((J.stop i H'/\Q (.ref D) H') ∨ (J.go i H'/\∀ x H2,J.yld i H' x H2->g x σ0 H2 fun σ2 H3=>Wk σ0 σ2/\tc σ2 H3 fun b H4=>
  if b=true then te σ2 H4 fun v H5=>H5 D=some (.lst acc)/\acc.length < sizeLine/\∃ m',m' < m/\W (i+1) m' (acc ++ [v]) (upd H5 D (.lst (acc ++ [v]))) else ∃ m',m' < m/\W (i+1) m' acc H4))
def as6 (wi:TI) (fr:List (Option Nat)) (g:TG) (tc:TT) (te:TE):TE:=fun σ H Q=>wi σ H fun J H1=>∀ D,H1 D=none->
 ∃ W:Nat->Nat->List V->Hp->Prop,(∃ m,W 0 m [] (upd H1 D (.lst [])))/\pG g tc te (eO fr σ) J D Q W
section
variable {M : Model} {A : Around} {E : Value → Shared → Prop} {s : Shared}
theorem as7 {scope:Scope}{globals:Addr}{cl:List (Str × Addr)}{qual:Str}{func:Option Addr}{code:Value}{builtins:Addr}{outer:Env}{Q:Env->Shared->Prop}
  (hQ:∀ h',h'.Ns s.heap.objs.size (fun _=>none)->(∀ b o,s.heap.get? b=some o->h'.get? b=some o)->CellsOk h' (s.heap.objs.size+1) (cellsFrom (s.heap.objs.size+1) scope.names [])->
   Q (newEnv scope s.heap.objs.size globals (cellsFrom (s.heap.objs.size+1) scope.names cl) qual func code (some outer) builtins) { s with heap:=h' }) :
  wpAny M A (newFunctionEnv scope globals cl [] qual func code (some outer) builtins) Q E s:=by
 simp only [newFunctionEnv,Option.isSome_some,if_true]
 refine bg5 (wpAny_alloc ?_)
 refine bg5 (wpAny_layCells _ (fun name kind cells=>by cases hkc:kind == NameKind.cell <;> simp [hkc]) _ _ _ _ ?_)
 have ok:=cellsFrom_ok scope.names (s.heap.push { cls:=.type "dict",data:=.dict #[] }) (s.heap.objs.size+1) [] ⟨fun _ _ hm=>(nomatch hm),bx1⟩ (by rw [bq3]; exact bh1 _)
 rw [bq3] at ok
 rw [show ({ s with heap:=s.heap.push { cls:=.type "dict",data:=.dict #[] } }:Shared).heap.objs.size=s.heap.objs.size+1 from bq3 ..]
 rw [List.forIn_nil]
 refine bg5 (bg8 (bg8 (hQ _ ((Heap.Ns.new s.heap (.type "dict")).keeps (pushCells_keeps _ _)) (fun b o e=>pushCells_keeps _ _ b o (bg7 _ e)) ok)))
end
section
variable {X : Cx} {pins : List (Addr × Obj)} {σ : St} {H : Hp} {s : Shared} {scope : Scope} {N : List Str} {fr : List (Option Nat)} {tg iter elt : Expr} {ifs : List Expr} {pos : Pos} {wi : TI} {g : TG} {tc : TT} {te : TE}
structure l6 (X:Cx) (scope:Scope) (N:List Str) (tg:Expr) (ifs:List Expr) (elt:Expr) (s:Shared) (H:Hp) (g:TG) (tc:TT) (te:TE):Prop where
 tg:∀ (C:Addr) (fp:List Addr),PG (bI X scope N s H C fp fun _ _=>False) tg g
 ifs:∀ (C:Addr) (fp:List Addr),j7 (bI X scope N s H C fp fun _ _=>False) ifs tc
 elt:∀ (C:Addr) (fp:List Addr),PE (bI X scope N s H C fp fun _ _=>False) elt te
structure uI (X:Cx) (scope:Scope) (N:List Str) (tg:Expr) (ifs:List Expr) (elt:Expr) (g:TG) (tc:TT) (te:TE):Prop where
 tg:∀ (s:Shared) (H:Hp) (C:Addr) (fp:List Addr),PG (bI X scope N s H C fp fun _ _=>False) tg g
 ifs:∀ (s:Shared) (H:Hp) (C:Addr) (fp:List Addr),j7 (bI X scope N s H C fp fun _ _=>False) ifs tc
 elt:∀ (s:Shared) (H:Hp) (C:Addr) (fp:List Addr),PE (bI X scope N s H C fp fun _ _=>False) elt te
theorem uI.at (B:uI X scope N tg ifs elt g tc te) (s:Shared) (H:Hp):l6 X scope N tg ifs elt s H g tc te:=⟨B.tg s H,B.ifs s H,B.elt s H⟩
theorem as8 {C:Addr}{fp:List Addr}{E:Value->Shared->Prop}{pins':List (Addr × Obj)}{σ':St}{H':Hp}{s':Shared} (I:a6 X pins σ H s) (hf:∀ b ∈ fp,fD X pins H b) (I':a6 (bI X scope N s H C fp E) pins' σ' H' s'):a6 X pins σ H' s':=
 I.call' (ch:=fp) I'.os I'.base I'.hok I'.bare fun b hb=>⟨(hf b hb).2.2.2.1,(hf b hb).2.1,(hf b hb).2.2.2.2.1,(hf b hb).2.2.2.2.2⟩
theorem uJ {Rr:Value->Addr->Result->Shared->Prop}{J:It}{fp:List Addr}{it:Addr}{tn:Nat->Heap->Prop}{Q:VK}
  (hc:X.calm=true) (S:cZ X scope N fr) (B:l6 X scope N tg ifs elt s H g tc te) (I:a6 X pins σ H s) (T:gN X.prog X.w X.K tg J fp it tn) (hst:tn 0 s.heap) (hf:∀ b ∈ fp,fD X pins H b)
  (h:∀ D,H D=none->∃ W:Nat->Nat->List V->Hp->Prop,(∃ m,W 0 m [] (upd H D (.lst [])))/\pG g tc te (eO fr σ) J D Q W)
  (hend:∀ (D C:Addr) (s':Shared) (H':Hp) (m:Str->Option Value),s.heap.objs.size<=C->s.heap.objs.size<=D->a6 X pins σ H' s'->s'.heap.Ns C m->H' C=none->Q (.ref D) H'->Rr (.ref D) C (.ok .next) s') :
  wpAny (model X.prog X.w) X.A (newList []) (fun acc s₃=>wpAny (model X.prog X.w) X.A (newFunctionEnv scope X.env.globals (dI X.env.cells scope.names []) [] X.env.qual none .none (some X.env)) (fun cenv s₄=>
   codeAny (model X.prog X.w) X.A (.compStart (.ListComp elt [⟨tg,iter,ifs,0⟩] scope pos) 0 (.ref it) acc { cenv with scope:=relabel scope X.env }) (Rr acc cenv.locals) s₄) X.xe s₃) X.xe s:=by
 refine bk7 (as7 (fun h₁ hns₁ keep₁ hco₁=>?_))
 dsimp only at hns₁ keep₁ hco₁ ⊢
 generalize hH2:s.heap.push { cls:=.type "list",dict:=none,data:=.seq ([]:List Value).toArray }=H2 at hns₁ keep₁ hco₁ ⊢
 have hC:H2.objs.size=s.heap.objs.size+1:=by rw [<- hH2,bq3]
 have hDC:s.heap.objs.size < H2.objs.size:=by rw [hC]; exact Nat.lt_succ_self _
 have hCle:s.heap.objs.size<=H2.objs.size:=by rw [hC]; exact by5 _
 have old:∀ b o,s.heap.get? b=some o->h₁.get? b=some o:=fun b o e=>keep₁ b o (hH2 ▸ bg7 _ e)
 have hacc:h₁.get? s.heap.objs.size=some { cls:=.type "list",data:=.seq #[] 0 }:=keep₁ _ _ (hH2 ▸ bh8 _ rfl)
 have hfl:∀ b ∈ fp,b < s.heap.objs.size:=fun b hb=>by obtain ⟨o,e,_⟩:=T.obj _ _ hst b hb; exact bh9 e
 obtain ⟨W,⟨m0,w0⟩,turn⟩:=h s.heap.objs.size (I.hok.fresh (bh1 _))
 have st1:tn 0 h₁:=T.keep _ _ _ hst fun b _ o e=>old b o e
 have fr0:∀ b ∈ fp,upd H s.heap.objs.size (.lst []) b=none:=fun b hb=>by rw [aM (bj5 (hfl b hb))]; exact (hf b hb).1
 have stat:∀ {H':Hp},(∀ b ∈ fp,H' b=none)->∀ b ∈ fp,fD (bI X scope N s H H2.objs.size fp fun _ _=>False) [] H' b:=fun {H'} hn b hb=>by
  have f:=hf b hb
  refine⟨hn b hb,bj5 (bi5 (hfl b hb) hCle),fun z=>?_,.inl hb,fun x c e=>(jZ e).elim (fun z=>bo0 (Nat.lt_trans (bi5 (hfl b hb) hCle) (hco₁.empty x c z).2)) fun z=>f.2.2.2.2.1 x c (pC scope.names [] (S.cells I) (fun _ _ z=>by simp at z) z.2),fun p hp=>absurd (show p ∈ ([]:List (Addr × Obj)) from hp) (by simp)⟩
  rcases bh5.mp (I.stkSub b z) with e | e
  ·exact f.2.1 e
  ·exact f.2.2.1 e
 generalize hX:bI X scope N s H H2.objs.size fp (fun _ _=>False)=Y at stat
 have I0:a6 Y [] (eO fr σ) (upd H s.heap.objs.size (.lst [])) { s with heap:=h₁ }:=hX ▸ as4 S I hf hfl (bh1 _) hCle hDC old hns₁ hacc hco₁
 have bt:PG Y tg g:=hX ▸ B.tg H2.objs.size fp
 have bi:j7 Y ifs tc:=hX ▸ B.ifs H2.objs.size fp
 have be:PE Y elt te:=hX ▸ B.elt H2.objs.size fp
 have eP:Y.prog=X.prog:=by rw [<- hX]; rfl
 have ew:Y.w=X.w:=by rw [<- hX]; rfl
 have eK:Y.K=X.K:=by rw [<- hX]; rfl
 have eA:Y.A=X.A:=by rw [<- hX]; rfl
 have eE:Y.env=compEnvC scope (fQ X scope H2.objs.size) H2.objs.size X.env:=by rw [<- hX]; rfl
 have eX:Y.xe=fun _ _=>False:=by rw [<- hX]; rfl
 have ec:Y.calm=true:=by rw [<- hX]; exact hc
 have never:∀ {E:Value->Shared->Prop} (e:Value) (s':Shared),Y.xe e s'->E e s':=fun {E} e s' z=>by rw [eX] at z; exact z.elim
 have out:∀ {pins' σ' H' s'},a6 Y pins' σ' H' s'->a6 X pins σ H' s':=fun {_ _ _ _} I'=>as8 (C:=H2.objs.size) (E:=fun _ _=>False) (scope:=scope) (N:=N) I hf (hX ▸ I')
 have loop:codeAny (model X.prog X.w) X.A (.compLoop (.ListComp elt [⟨tg,iter,ifs,0⟩] scope pos) 0 (.ref it) (.ref s.heap.objs.size) (compEnvC scope (fQ X scope H2.objs.size) H2.objs.size X.env))
   (Rr (.ref s.heap.objs.size) H2.objs.size) { s with heap:=h₁ }:=by
  refine as5 (fun n s'=>∃ i acc H',a6 Y [] (eO fr σ) H' s'/\tn i s'.heap/\(∀ b ∈ fp,H' b=none)/\W i n acc H') ?_ m0 ⟨0,[],_,I0,st1,fr0,w0⟩
  rintro n s3 ⟨i,acc,H3,I3,st3,fr3,w3⟩
  unfold uH
  dsimp only
  obtain ⟨hD3,step⟩:=turn i n acc H3 w3
  rcases step with ⟨stop,qn⟩ | ⟨go,step⟩
  ·have z:=T.done Y eP ew eK ec i [] s3 _ H3 (notedBy (model X.prog X.w) X.A (compEnvC scope (fQ X scope H2.objs.size) H2.objs.size X.env) fun e s'=>Rr (.ref s.heap.objs.size) H2.objs.size (.error e) s') I3 (stat fr3) st3 stop
   rw [eA] at z
   refine aJ z fun r s4 ⟨hr,I4⟩=>?_
   subst hr
   obtain ⟨m4,hn4,_⟩:=I4.loc
   rw [eE] at hn4
   have f4:=I4.free
   rw [eE] at f4
   exact hend _ _ s4 H3 m4 hCle (bh1 _) (out I4) hn4 f4 qn
  ·have z:=T.item Y eP ew eK ec i [] s3 _ H3 (notedBy (model X.prog X.w) X.A (compEnvC scope (fQ X scope H2.objs.size) H2.objs.size X.env) fun e s'=>Rr (.ref s.heap.objs.size) H2.objs.size (.error e) s') I3 (stat fr3) st3 go
   rw [eA] at z
   refine aJ z fun r s4 ⟨u,hr,h4⟩=>?_
   subst hr
   refine aJ h4 fun _ s5 ⟨x,H5,I5,r5,y5,st5,fr5⟩=>?_
   have I5':=I5.pinned (stat fr5) (T.obj _ _ st5)
   have q1:=bt _ s5 _ H5 x u _ I5' r5 (step x H5 y5)
   rw [eP,ew,eA,eE] at q1
   refine bq7 q1 (fun _ s6 ⟨σ6,H6,I6,wk,q6⟩=>?_) never
   have q2:=bi _ s6 σ6 H6 _ I6 q6
   rw [eP,ew,eA,eE] at q2
   refine bq7 q2 (fun b s7 ⟨H7,I7,q7⟩=>?_) never
   have again:∀ {H8:Hp}{s8:Shared}{acc':List V},a6 Y ([] ++ mQ fp s5.heap) σ6 H8 s8->(∃ m',m' < n/\W (i+1) m' acc' H8)->∃ m,m < n/\∃ i acc H',a6 Y [] (eO fr σ) H' s8/\tn i s8.heap/\(∀ b ∈ fp,H' b=none)/\W i m acc H':=fun {H8 s8 acc'} I8 n8=>by
    obtain ⟨m',hm,w8⟩:=n8
    refine⟨m',hm,i+1,acc',H8,(I8.unpinned).weak wk.1 wk.2,T.keep _ _ _ st5 fun b hb o e=>(I8.pin (b,o) (bl5 _ (bl5 _ (oS hb e)))).1,fun b hb=>?_,w8⟩
    obtain ⟨o,e,d⟩:=T.obj _ _ st5 b hb
    exact (I8.pin (b,o) (bl5 _ (bl5 _ (oS hb e)))).2.1
   cases b with
   | false=>
    rw [if_neg bi7] at q7 ⊢
    exact again I7 q7
   | true=>
    rw [if_pos rfl] at q7 ⊢
    have q3:=be _ s7 σ6 H7 _ I7 q7
    rw [eP,ew,eA,eE] at q3
    refine bq7 q3 (fun v s8 ⟨y,H8,I8,r8,hD8,hz8,q8⟩=>?_) never
    have q4:=oY _ s8 σ6 H8 (.ref s.heap.objs.size) [y] (.ref s.heap.objs.size) [v] (fun _ H9=>∃ m',m' < n/\W (i+1) m' (acc ++ [y]) H9) I8 rfl (.cons r8 .nil) ⟨_,_,_,rfl,rfl,hD8,hz8,q8⟩
    rw [eP,ew,eA] at q4
    exact bq7 q4 (fun _ s9 ⟨_,H9,I9,_,q9⟩=>again I9 q9) never
 exact codeAny_compStart_list loop (T.self _ 0 _ _ _ st1 loop)
end
section
variable {X : Cx} {scope : Scope} {N : List Str} {fr : List (Option Nat)} {tg iter elt : Expr} {ifs : List Expr} {pos : Pos} {wi : TI} {g : TG} {tc : TT} {te : TE}
theorem a6.drop {pins:List (Addr × Obj)}{σ:St}{H H':Hp}{s s':Shared}{C:Addr}{h':Heap} (I0:a6 X pins σ H s) (hC:s.heap.objs.size<=C) {σ':St} (I:a6 X pins σ' H' s') (hn:H' C=none) (sb:Heap.SameBut C s'.heap h'):a6 X pins σ' H' { s' with heap:=h' }:=by
 refine I.turned (t':=s'.toks) (it:=C) (fun b o hb e=>(sb.2 b hb).trans e) hn (bo0 (bi5 I0.lt hC)) (.inr (bk9 I0.sz hC)) (fun x c e z=>?_) fun p hp z=>?_
 ·obtain ⟨v,q⟩:=I0.cell x c e
  exact absurd (bi5 q.lt (by rw [z]; exact hC)) (bm1 _)
 ·exact absurd (bi5 (bh9 (I0.pin p hp).1) (by rw [z]; exact hC)) (bm1 _)
theorem as9 {i:Nat}{x:Str}{px spos:Pos} (hc:X.calm=true) (S:cZ X scope N fr) (hi:PI X tg iter wi) (B:uI X scope N tg ifs elt g tc te) (hN:X.N.Nodup) (hix:X.N[i]? = some x) (hx:X.env.scope.names.lookup x=some .local)
  (hsw:swapsWith (.ListComp elt [⟨tg,iter,ifs,0⟩] scope pos) (some (.Name x px)) spos.line X.env=pure true) (hs:∀ x,foldedSetIterable iter X.env x=pure x:=by intro _; rfl) :
  PS X (.Assign [.Name x px] (.ListComp elt [⟨tg,iter,ifs,0⟩] scope pos) spos) (mO (as6 wi fr g tc te) (dA i)):=by
 intro pins s σ H D I h
 rw [exec_Assign_Name_used _ _ _ _ hsw]
 refine bg5 (wpAny_standAt (bg5 ?_))
 show wpAny _ _ (do let _ <- comprehension (.ListComp elt [⟨tg,iter,ifs,0⟩] scope pos) scope X.env _ (newList []) false (eval iter X.env) (some (assign (.Name x px) X.env))) _ _ s
 refine bg5 (bq7 (wpAny_comprehension_free (Q:=fun _ s'=>SP X pins D .next s') (use:=some (assign (.Name x px) X.env)) rfl hs (uB (S.cells I)) S.kind S.names (aJ (hi pins s σ H _ I h) fun v s1 h1=>aJ h1 fun itv s2 h2=>?_))
  (fun _ s' hq=>bg8 (bg8 hq)) fun _ _ e=>e)
 obtain ⟨it,fp,tn,J,H2,e,I2,T,st2,f2,hW⟩:=h2
 subst e
 refine uJ (Rr:=fun acc C=>compPost (model X.prog X.w) X.A X.xe (some (assign (.Name x px) X.env)) (fun _ s'=>SP X pins D .next s') acc C) hc S (B.at _ _) I2 T st2 f2 hW ?_
 intro D' C s' H' m hC hD I' hns hHC q
 refine wpAny_assign_Name (sZ I' hN hix (.inl hx) (v:=.ref D') rfl (fun s'' I'' sb=>?_) (.inr hx))
 obtain ⟨a,sb,ha⟩:=sb
 have hCa:C ≠ a:=by
  rcases ha with z | z
  ·rw [z]; exact bo0 (bi5 I2.lt hC)
  ·intro e; subst e
   obtain ⟨v,q⟩:=I2.cell x _ z
   exact absurd (bi5 q.lt hC) (bm1 _)
 exact⟨m,hns.sameBut sb hCa,fun h' sb'=>⟨_,H',I2.drop hC I'' hHC sb',q⟩⟩
variable {gh : Hp → TG} {tch : Hp → TT} {teh : Hp → TE}
def uK (wi:TI) (fr:List (Option Nat)) (gh:Hp->TG) (tch:Hp->TT) (teh:Hp->TE):TE:=fun σ H Q=>wi σ H fun J H1=>∀ D,H1 D=none->
 ∃ W:Nat->Nat->List V->Hp->Prop,(∃ m,W 0 m [] (upd H1 D (.lst [])))/\pG (gh H1) (tch H1) (teh H1) (eO fr σ) J D Q W
theorem uL (hc:X.calm=true) (S:cZ X scope N fr) (hi:PI X tg iter wi) (B:∀ (s:Shared) (H:Hp),l6 X scope N tg ifs elt s H (gh H) (tch H) (teh H))
  (hs:∀ x,foldedSetIterable iter X.env x=pure x:=by intro _; rfl):PE X (.ListComp elt [⟨tg,iter,ifs,0⟩] scope pos) (uK wi fr gh tch teh):=by
 intro pins s σ H Q I h
 rw [eval_ListComp]
 refine wpAny_comprehension_free (use:=none) rfl hs (uB (S.cells I)) S.kind S.names (aJ (hi pins s σ H _ I h) fun v s1 h1=>aJ h1 fun itv s2 h2=>?_)
 obtain ⟨it,fp,tn,J,H2,e,I2,T,st2,f2,hW⟩:=h2
 subst e
 refine uJ (Rr:=fun acc C=>compPost (model X.prog X.w) X.A X.xe none (EP X pins σ Q) acc C) hc S (B _ _) I2 T st2 f2 hW ?_
 intro D C s' H' m hC hD I' hns hHC q
 exact⟨m,hns,fun h' sb=>⟨.ref D,H',I2.drop hC I' hHC sb,rfl,q⟩⟩
theorem B9 {i:Nat}{x:Str}{px spos:Pos} (hc:X.calm=true) (S:cZ X scope N fr) (hi:PI X tg iter wi) (B:∀ (s:Shared) (H:Hp),l6 X scope N tg ifs elt s H (gh H) (tch H) (teh H)) (hN:X.N.Nodup) (hix:X.N[i]? = some x) (hx:X.env.scope.names.lookup x=some .local)
  (hsw:swapsWith (.ListComp elt [⟨tg,iter,ifs,0⟩] scope pos) (some (.Name x px)) spos.line X.env=pure true) (hs:∀ x,foldedSetIterable iter X.env x=pure x:=by intro _; rfl) :
  PS X (.Assign [.Name x px] (.ListComp elt [⟨tg,iter,ifs,0⟩] scope pos) spos) (mO (uK wi fr gh tch teh) (dA i)):=by
 intro pins s σ H D I h
 rw [exec_Assign_Name_used _ _ _ _ hsw]
 refine bg5 (wpAny_standAt (bg5 ?_))
 show wpAny _ _ (do let _ <- comprehension (.ListComp elt [⟨tg,iter,ifs,0⟩] scope pos) scope X.env _ (newList []) false (eval iter X.env) (some (assign (.Name x px) X.env))) _ _ s
 refine bg5 (bq7 (wpAny_comprehension_free (Q:=fun _ s'=>SP X pins D .next s') (use:=some (assign (.Name x px) X.env)) rfl hs (uB (S.cells I)) S.kind S.names (aJ (hi pins s σ H _ I h) fun v s1 h1=>aJ h1 fun itv s2 h2=>?_))
  (fun _ s' hq=>bg8 (bg8 hq)) fun _ _ e=>e)
 obtain ⟨it,fp,tn,J,H2,e,I2,T,st2,f2,hW⟩:=h2
 subst e
 refine uJ (Rr:=fun acc C=>compPost (model X.prog X.w) X.A X.xe (some (assign (.Name x px) X.env)) (fun _ s'=>SP X pins D .next s') acc C) hc S (B _ _) I2 T st2 f2 hW ?_
 intro D' C s' H' m hC hD I' hns hHC q
 refine wpAny_assign_Name (sZ I' hN hix (.inl hx) (v:=.ref D') rfl (fun s'' I'' sb=>?_) (.inr hx))
 obtain ⟨a,sb,ha⟩:=sb
 have hCa:C ≠ a:=by
  rcases ha with z | z
  ·rw [z]; exact bo0 (bi5 I2.lt hC)
  ·intro e; subst e
   obtain ⟨v,q⟩:=I2.cell x _ z
   exact absurd (bi5 q.lt hC) (bm1 _)
 exact⟨m,hns.sameBut sb hCa,fun h' sb'=>⟨_,H',I2.drop hC I'' hHC sb',q⟩⟩
end
theorem aZ {H:Hp}{p:Addr} (h:H p=none) (o:HO):aD H (upd H p o):=fun b u q=>by rw [aM (bX q h)]; exact q
theorem aD.tup {K:PySem.W.Frag}{H H':Hp}{a:Addr}{xs:List V} (e:aD H H') (h:aF K H a xs):aF K H' a xs:=by
 rcases h with (h | ⟨o,h⟩) | h
 ·exact .inl (.inl (e _ _ h))
 ·exact .inl (.inr ⟨o,e _ _ h⟩)
 ·exact .inr h
structure C0 (H:Hp) (J:It) (xs:List V):Prop where
 go:∀ i H',aD H H'->i < xs.length->J.go i H'
 yld:∀ i H' x H2,aD H H'->J.yld i H' x H2->i < xs.length->xs[i]? = some x/\H2=H'
 stop:∀ H',aD H H'->J.stop xs.length H'
theorem at0 {K:PySem.W.Frag}{H:Hp}{a:Addr}{xs:List V} (h:aF K H a xs):C0 H (j4 K a) xs:=
 ⟨fun i H' e hi=>⟨xs,xs[i],e.tup h,by simp [hi]⟩,fun i H' x H2 e y hi=>⟨y.2 xs (e.tup h),y.1⟩,fun H' e=>⟨xs,e.tup h,bh1 _⟩⟩
def iD (lo:Int) (n:Nat):List V:=(List.range n).map fun (i:Nat)=>V.int (lo+(i:Int))
theorem uM (lo:Int) (n:Nat):(iD lo n).length=n:=by unfold iD; rw [bh2,bo3]
def CW (H1:Hp) (D:Addr) (n:Nat) (Pv:Nat->List V->Hp->Prop):Nat->Nat->List V->Hp->Prop:=fun i m acc H'=>m=n - i/\i<=n/\acc.length<=i/\aD H1 H'/\H' D=some (.lst acc)/\Pv i acc H'
def C1 (H1:Hp) (D:Addr) (n:Nat) (Pv:Nat->List V->Hp->Prop) (i:Nat) (acc:List V) (v:V) (H5:Hp):Prop:=H5 D=some (.lst acc)/\acc.length < sizeLine/\∃ m',m' < n - i/\CW H1 D n Pv (i+1) m' (acc ++ [v]) (upd H5 D (.lst (acc ++ [v])))
def CNo (H1:Hp) (D:Addr) (n:Nat) (Pv:Nat->List V->Hp->Prop) (i:Nat) (acc:List V) (H4:Hp):Prop:=∃ m',m' < n - i/\CW H1 D n Pv (i+1) m' acc H4
structure uN (H1:Hp) (D:Addr) (n i:Nat) (acc:List V) (H':Hp):Prop where
 lt:i < n
 few:acc.length<=i
 sz:n<=sizeLine
 same:aD H1 H'
 new:H1 D=none
 acc:H' D=some (.lst acc)
theorem uN.yes {H1:Hp}{D:Addr}{n i:Nat}{acc:List V}{H' H5:Hp}{Pv:Nat->List V->Hp->Prop}{v:V} (c:uN H1 D n i acc H') (s:aD H' H5) (p:Pv (i+1) (acc ++ [v]) (upd H5 D (.lst (acc ++ [v])))):C1 H1 D n Pv i acc v H5:=by
 refine⟨s _ _ c.acc,bw4 c.few (bi5 c.lt c.sz),_,?_,rfl,c.lt,?_,fun b o e=>?_,b8,p⟩
 ·have:=c.lt; omega
 ·rw [bi6,bp1]; exact Nat.succ_le_succ c.few
 ·rw [aM (bX e c.new)]; exact s _ _ (c.same _ _ e)
theorem at2 {H1:Hp}{J:It}{xs:List V}{g:TG}{tc:TT}{te:TE}{σ0:St}{Q:VK} (O:C0 H1 J xs) (Pv:Nat->List V->Hp->Prop) (hn:xs.length<=sizeLine)
  (h0:∀ D,H1 D=none->Pv 0 [] (upd H1 D (.lst [])))
  (hs:∀ i x acc D H',xs[i]? = some x->uN H1 D xs.length i acc H'->Pv i acc H'->g x σ0 H' fun σ2 H3=>Wk σ0 σ2/\tc σ2 H3 fun b H4=>
   if b=true then te σ2 H4 fun v H5=>C1 H1 D xs.length Pv i acc v H5 else CNo H1 D xs.length Pv i acc H4)
  (hd:∀ D acc H',H1 D=none->aD H1 H'->H' D=some (.lst acc)->acc.length<=xs.length->Pv xs.length acc H'->Q (.ref D) H') :
  ∀ D,H1 D=none->∃ W:Nat->Nat->List V->Hp->Prop,(∃ m,W 0 m [] (upd H1 D (.lst [])))/\pG g tc te σ0 J D Q W:=by
 intro D hD
 refine⟨CW H1 D xs.length Pv,⟨xs.length,rfl,bl6 _,bh1 _,aZ hD _,b8,h0 D hD⟩,?_⟩
 rintro i m acc H' ⟨rfl,hi,ha,sm,hDa,p⟩
 refine⟨hDa,?_⟩
 by_cases hlt:i < xs.length
 ·refine .inr ⟨O.go i H' sm hlt,fun x H2 y=>?_⟩
  obtain ⟨hx,e⟩:=O.yld i H' x H2 sm y hlt
  subst e
  exact hs i x acc D H2 hx ⟨hlt,ha,hn,sm,hD,hDa⟩ p
 ·have e:i=xs.length:=by omega
  subst e
  exact .inl ⟨O.stop H' sm,hd D acc H' hD sm hDa ha p⟩
end L2
namespace Srt
open PySem PySem.W PyProof.Rows
abbrev G (p:Array Nat) (i:Nat):Nat:=p.getD i 0
theorem nD {p q:Array Nat}{i j:Nat} (h:p[i]? = q[j]?):G p i=G q j:=by
 unfold G; rw [bt1,bt1,h]
theorem uO {p:Array Nat}{i j:Nat} (hj:j<=p.size) (k:Nat):G (kas_rev p i j) k=if i<=k/\k < j then G p (i+j - 1 - k) else G p k:=by
 have e:=getElem?_mirror_all (i:=i) hj k
 unfold kas_rev
 by_cases h1:i<=k/\k < j
 ·rw [if_pos h1] at e ⊢; exact nD e
 ·rw [if_neg h1] at e ⊢; exact nD e
theorem at3 {p:Array Nat}{src d:Nat} (hs:src < p.size) (hd:d<=src) (k:Nat):G (bubble p src d) k=if k=src - d then G p src else if src - d < k/\k<=src then G p (k - 1) else G p k:=by
 have e:=getElem?_bubble hs d hd k
 by_cases h1:k=src - d
 ·rw [if_pos h1] at e ⊢; exact nD e
 ·rw [if_neg h1] at e ⊢
  by_cases h2:src - d < k/\k<=src
  ·rw [if_pos h2] at e ⊢; exact nD e
  ·rw [if_neg h2] at e ⊢; exact nD e
def PP (n:Nat) (p:Array Nat):Prop:=p.toList.Perm (List.range n)
theorem PP.size {n:Nat}{p:Array Nat} (h:PP n p):p.size=n:=by
 have:=h.length_eq
 rw [bo3] at this
 simpa using this
theorem PP.lt {n:Nat}{p:Array Nat} (h:PP n p) {k:Nat} (hk:k < n):G p k < n:=by
 have hs:=h.size
 have hk':k < p.toList.length:=by simpa [hs] using hk
 have e:G p k=p.toList[k]:=by
  unfold G; rw [bt1]; simp [hs,hk]
 have m:p.toList[k] ∈ p.toList:=bp6 hk'
 rw [e]
 exact bt3.mp (h.mem_iff.mp m)
theorem PP.of {n:Nat}{p q:Array Nat} (h:PP n p) (e:q.Perm p):PP n q:=(Array.perm_iff_toList_perm.mp e).trans h
theorem PP.rev {n:Nat}{p:Array Nat} (h:PP n p) (i j:Nat):PP n (kas_rev p i j):=h.of (mirror_perm _ _ _ _)
theorem PP.bub {n:Nat}{p:Array Nat} (h:PP n p) (i j:Nat):PP n (bubble p i j):=h.of (bubble_perm _ _ _)
structure uP (c:Nat->Nat->Bool):Prop where
 asym:∀ {i j},c i j=true->c j i=false
 ntr:∀ {i j k},c i j=false->c j k=false->c i k=false
section
variable {c : Nat → Nat → Bool} (O : uP c)
def Le (c:Nat->Nat->Bool) (i j:Nat):Prop:=c j i=false
include O
theorem le_refl (i:Nat):Le c i i:=by
 unfold Le
 cases h:c i i with
 | false=>rfl
 | true=>have:=O.asym h; rw [h] at this; exact this
theorem le_trans {i j k:Nat} (h1:Le c i j) (h2:Le c j k):Le c i k:=O.ntr h2 h1
theorem pH {i j:Nat} (h:c i j=true):Le c i j:=O.asym h
omit O
def eQ (c:Nat->Nat->Bool) (p:Array Nat) (n:Nat):Prop:=∀ a b,a<=b->b < n->Le c (G p a) (G p b)
def j8 (c:Nat->Nat->Bool) (p:Array Nat) (n:Nat):Prop:=∀ a b,a<=b->b < n->Le c (G p b) (G p a)
include O
theorem at4 {p:Array Nat}{n:Nat} (h:eQ c p n) (h1:1<=n) (hl:Le c (G p (n - 1)) (G p n)):eQ c p (n+1):=fun a b hab hb=>by
 by_cases hbn:b < n
 ·exact h a b hab hbn
 ·have e:b=n:=by omega
  subst e
  by_cases han:a=b
  ·subst han; exact le_refl O _
  ·exact le_trans O (h a (b - 1) (by omega) (by omega)) hl
theorem pI {p:Array Nat}{n:Nat} (h:j8 c p n) (h1:1<=n) (hl:Le c (G p n) (G p (n - 1))):j8 c p (n+1):=fun a b hab hb=>by
 by_cases hbn:b < n
 ·exact h a b hab hbn
 ·have e:b=n:=by omega
  subst e
  by_cases han:a=b
  ·subst han; exact le_refl O _
  ·exact le_trans O hl (h a (b - 1) (by omega) (by omega))
omit O
def bT {α:Type} (n:Nat) (c:Nat->Nat->Bool) (R:α->Prop):KasT α->Prop
 | .ret a=>R a
 | .ask i j k=>i < n/\j < n/\bT n c R (k (c i j))
theorem bT.mono {α:Type}{n:Nat}{R R':α->Prop} (h:∀ a,R a->R' a):∀ (t:KasT α),bT n c R t->bT n c R' t
 | .ret a,q=>h a q
 | .ask i j k,q=>⟨q.1,q.2.1,bT.mono h (k (c i j)) q.2.2⟩
theorem bT.bind {α β:Type}{n:Nat}{R:α->Prop}{R':β->Prop}{f:α->KasT β} (h:∀ a,R a->bT n c R' (f a)):∀ (t:KasT α),bT n c R t->bT n c R' (t.bind f)
 | .ret a,q=>h a q
 | .ask i j k,q=>⟨q.1,q.2.1,bT.bind h (k (c i j)) q.2.2⟩
theorem bT.run {α:Type}{n:Nat}{R:α->Prop}{I:Shared->Prop}{cmp:Nat->Nat->(Bool->Shared->Prop)->Shared->Prop}{Q:α->Shared->Prop}
  (hc:∀ i j C s,i < n->j < n->I s->(∀ s',I s'->C (c i j) s')->cmp i j C s) (hQ:∀ a s,R a->I s->Q a s):∀ (t:KasT α) (s:Shared),I s->bT n c R t->t.kasWp cmp Q s
 | .ret a,s,hI,q=>hQ a s q hI
 | .ask i j k,s,hI,q=>hc i j _ s q.1 q.2.1 hI fun s' hI'=>bT.run hc hQ (k (c i j)) s' hI' q.2.2
include O
theorem uQ {n:Nat}{p:Array Nat} (hp:PP n p):∀ (f m:Nat),1<=m->m+f<=n->eQ c p m->bT n c (fun r=>m<=r/\r<=m+f/\eQ c p r/\(r < m+f->c (G p r) (G p (r - 1))=true)) (kas_asc p f m)
 | 0,m,_,_,h=>⟨bh1 _,bh1 _,h,fun z=>absurd z (bm1 _)⟩
 | f+1,m,h1,h2,h=>by
  refine⟨hp.lt (by omega),hp.lt (by omega),?_⟩
  by_cases hc:c (p.getD m 0) (p.getD (m - 1) 0)=true
  ·simp only [hc,if_true]
   exact⟨bh1 _,by omega,h,fun _=>hc⟩
  ·have hc':c (p.getD m 0) (p.getD (m - 1) 0)=false:=bs0.mpr hc
   simp only [hc',bj1,bn2]
   refine bT.mono (fun r q=>⟨by omega,by omega,q.2.2.1,fun z=>q.2.2.2 (by omega)⟩) _ (uQ hp f (m+1) (by omega) (by omega) (at4 O h h1 hc'))
omit O
def k6 (c:Nat->Nat->Bool) (i j:Nat):Prop:=Le c i j/\Le c j i
include O
theorem uR {p q:Array Nat}{n:Nat} (h:j8 c p n) (e:∀ k,k < n->k6 c (G q k) (G p k)):j8 c q n:=fun a b hab hb=>
 le_trans O (e b hb).1 (le_trans O (h a b hab hb) (e a (by omega)).2)
theorem C2 {n m i:Nat}{p:Array Nat} (hp:PP n p) (hm:m<=n) (h:∀ a,i<=a->a < m->k6 c (G p a) (G p (m - 1))):∀ k,k6 c (G (kas_rev p i m) k) (G p k):=fun k=>by
 rw [uO (by rw [hp.size]; exact hm)]
 by_cases hk:i<=k/\k < m
 ·rw [if_pos hk]
  have h1:=h (i+m - 1 - k) (by omega) (by omega)
  have h2:=h k hk.1 hk.2
  exact⟨le_trans O h1.1 h2.2,le_trans O h2.1 h1.2⟩
 ·rw [if_neg hk]; exact⟨le_refl O _,le_refl O _⟩
omit O
def DI (c:Nat->Nat->Bool) (n:Nat) (p:Array Nat) (m q:Nat):Prop:=PP n p/\1<=m/\m<=n/\j8 c p m/\q+1<=m/\∀ a,m - (q+1)<=a->a < m->k6 c (G p a) (G p (m - 1))
include O
theorem C3 {n m q:Nat}{p:Array Nat} (h:DI c n p m q):PP n (kas_rev p (m - (q+1)) m)/\∀ k,k6 c (G (kas_rev p (m - (q+1)) m) k) (G p k):=
 ⟨h.1.rev _ _,C2 O h.1 h.2.2.1 h.2.2.2.2.2⟩
theorem pJ {n:Nat}:∀ (f:Nat) (p:Array Nat) (m q:Nat),m+f<=n->DI c n p m q->bT n c (fun r=>DI c n r.1 r.2.1 r.2.2) (kas_desc f p m q)
 | 0,p,m,q,_,h=>h
 | f+1,p,m,q,hf,h=>by
  have hp:=h.1
  have h1:=h.2.1
  refine⟨hp.lt (by omega),hp.lt (by omega),?_⟩
  by_cases hc:c (p.getD m 0) (p.getD (m - 1) 0)=true
  ·simp only [hc,if_true]
   have dn:j8 c p (m+1):=pI O h.2.2.2.1 h1 (pH O hc)
   by_cases hq:q > 0
   ·simp only [hq,if_true]
    obtain ⟨pr,er⟩:=C3 O h
    refine pJ f _ (m+1) 0 (by omega) ⟨pr,by omega,by omega,uR O dn fun k _=>er k,by omega,fun a h1 h2=>?_⟩
    have e:a=m+1 - 1:=by omega
    rw [e]; exact⟨le_refl O _,le_refl O _⟩
   ·simp only [hq,bn2]
    refine pJ f p (m+1) 0 (by omega) ⟨hp,by omega,by omega,dn,by omega,fun a h1 h2=>?_⟩
    have e:a=m+1 - 1:=by omega
    rw [e]; exact⟨le_refl O _,le_refl O _⟩
  ·have hc':c (p.getD m 0) (p.getD (m - 1) 0)=false:=bs0.mpr hc
   simp only [hc',bj1,bn2]
   refine⟨hp.lt (by omega),hp.lt (by omega),?_⟩
   by_cases hd:c (p.getD (m - 1) 0) (p.getD m 0)=true
   ·simp only [hd,if_true]
    exact h
   ·have hd':c (p.getD (m - 1) 0) (p.getD m 0)=false:=bs0.mpr hd
    simp only [hd',bj1,bn2]
    have ee:k6 c (G p (m - 1)) (G p m):=⟨hc',hd'⟩
    refine pJ f p (m+1) (q+1) (by omega) ⟨hp,by omega,by omega,pI O h.2.2.2.1 h1 ee.2,by have:=h.2.2.2.2.1; omega,fun a h1 h2=>?_⟩
    rw [Nat.add_sub_cancel]
    by_cases ha:a=m
    ·rw [ha]; exact⟨le_refl O _,le_refl O _⟩
    ·have z:=h.2.2.2.2.2 a (by omega) (by omega)
     exact⟨le_trans O z.1 ee.1,le_trans O ee.2 z.2⟩
omit O
def CI (c:Nat->Nat->Bool) (n:Nat) (r:Nat × Array Nat):Prop:=PP n r.2/\1<=r.1/\r.1<=n/\eQ c r.2 r.1
include O
theorem C4 {n m:Nat}{p:Array Nat} (hp:PP n p) (h1:1<=m) (hm:m<=n) (h:j8 c p m):bT n c (CI c n) (kas_tail3 m n p):=by
 have ha:eQ c (kas_rev p 0 m) m:=fun a b hab hb=>by
  rw [uO (by rw [hp.size]; exact hm),uO (by rw [hp.size]; exact hm),if_pos ⟨bl6 _,by omega⟩,if_pos ⟨bl6 _,hb⟩]
  exact h _ _ (by omega) (by omega)
 refine bT.bind (R:=fun r=>m<=r/\r<=m+(n - m)/\eQ c (kas_rev p 0 m) r/\_) (fun r q=>?_) _ (uQ O (hp.rev 0 m) (n - m) m h1 (by omega) ha)
 exact⟨hp.rev _ _,by have:=q.1; omega,by have:=q.2.1; omega,q.2.2.1⟩
theorem C5 {n m:Nat}{p:Array Nat} (hp:PP n p) (h1:1<=m) (hm:m+1<=n) (h:j8 c p (m+1)):bT n c (CI c n) (kas_descPart m n p):=by
 refine bT.bind (R:=fun r=>DI c n r.1 r.2.1 r.2.2) (fun r q=>?_) _ (pJ O (n - (m+1)) p (m+1) 0 (by omega) ⟨hp,by omega,hm,h,by omega,fun a h1 h2=>?_⟩)
 ·by_cases hq:r.2.2 > 0
  ·rw [if_pos hq]
   obtain ⟨pr,er⟩:=C3 O q
   exact C4 O pr q.2.1 q.2.2.1 (uR O q.2.2.2.1 fun k _=>er k)
  ·rw [if_neg hq]
   exact C4 O q.1 q.2.1 q.2.2.1 q.2.2.2.1
 ·have e:a=m+1 - 1:=by omega
  rw [e]; exact⟨le_refl O _,le_refl O _⟩
theorem at5 {n:Nat}{p:Array Nat} (hp:PP n p) (hn:1<=n):bT n c (CI c n) (kas_count n p):=by
 have a1:eQ c p 1:=fun a b hab hb=>by
  have e1:a=0:=by omega
  have e2:b=0:=by omega
  rw [e1,e2]; exact le_refl O _
 refine bT.bind (R:=fun r=>1<=r/\r<=1+(n - 1)/\eQ c p r/\(r < 1+(n - 1)->c (G p r) (G p (r - 1))=true)) (fun m q=>?_) _ (uQ O hp (n - 1) 1 (bh1 _) (by omega) a1)
 obtain ⟨q1,q2,q3,q4⟩:=q
 by_cases hm:(m == n)=true
 ·rw [if_pos hm]
  exact⟨hp,q1,by omega,q3⟩
 ·rw [if_neg hm]
  have hne:m ≠ n:=by simpa using hm
  have hc:=q4 (by omega)
  by_cases h1:m > 1
  ·rw [if_pos h1]
   refine⟨hp.lt (by omega),hp.lt (by omega),?_⟩
   by_cases hd:c (p.getD 0 0) (p.getD (m - 1) 0)=true
   ·simp only [hd,if_true]
    exact⟨hp,q1,by omega,q3⟩
   ·have hd':c (p.getD 0 0) (p.getD (m - 1) 0)=false:=bs0.mpr hd
    simp only [hd',bj1,bn2]
    have eq:∀ a,0<=a->a < m->k6 c (G p a) (G p (m - 1)):=fun a _ ha=>⟨q3 a (m - 1) (by omega) (by omega),le_trans O hd' (q3 0 a (bl6 _) ha)⟩
    have er:=C2 O hp (by omega:m<=n) eq
    refine C5 O (hp.rev 0 m) q1 (by omega) (uR O (p:=p) ?_ fun k _=>er k)
    refine pI O (fun a b hab hb=>?_) q1 (pH O hc)
    exact le_trans O (eq b (bl6 _) hb).1 (eq a (bl6 _) (by omega)).2
  ·rw [if_neg h1]
   have e:m=1:=by omega
   subst e
   refine C5 O hp (bh1 _) (by omega) (pI O (fun a b hab hb=>?_) (bh1 _) (pH O hc))
   have e1:a=0:=by omega
   have e2:b=0:=by omega
   rw [e1,e2]; exact le_refl O _
theorem uS {n k:Nat}{p:Array Nat} (hp:PP n p) (hk:k < n) (ha:eQ c p k):∀ (f l r:Nat),l<=r->r<=k->r - l<=f->(∀ a,a < l->Le c (G p a) (G p k))->(∀ a,r<=a->a < k->Le c (G p k) (G p a))->
  bT n c (fun l=>l<=k/\(∀ a,a < l->Le c (G p a) (G p k))/\∀ a,l<=a->a < k->Le c (G p k) (G p a)) (kas_place p k f l r)
 | 0,l,r,h1,h2,h3,hl,hr=>⟨by omega,hl,fun a h4 h5=>hr a (by omega) h5⟩
 | f+1,l,r,h1,h2,h3,hl,hr=>by
  unfold kas_place
  by_cases hlr:l >= r
  ·rw [if_pos hlr]
   exact⟨by omega,hl,fun a h4 h5=>hr a (by omega) h5⟩
  ·rw [if_neg hlr]
   refine⟨hp.lt hk,hp.lt (by omega),?_⟩
   by_cases hc:c (p.getD k 0) (p.getD ((l+r) / 2) 0)=true
   ·simp only [hc,if_true]
    exact uS hp hk ha f l ((l+r) / 2) (by omega) (by omega) (by omega) hl fun a h4 h5=>le_trans O (pH O hc) (ha _ _ h4 h5)
   ·have hc':c (p.getD k 0) (p.getD ((l+r) / 2) 0)=false:=bs0.mpr hc
    simp only [hc',bj1,bn2]
    exact uS hp hk ha f ((l+r) / 2+1) r (by omega) h2 (by omega) (fun a h4=>le_trans O (ha a ((l+r) / 2) (by omega) (by omega)) hc') hr
theorem C6 {n:Nat}:∀ (f:Nat) (p:Array Nat) (k:Nat),PP n p->k+f<=n->eQ c p k->bT n c (fun q=>PP n q/\eQ c q (k+f)) (kas_bin f p k)
 | 0,p,k,hp,_,h=>⟨hp,h⟩
 | f+1,p,k,hp,hk,h=>by
  refine bT.bind (R:=fun l=>l<=k/\(∀ a,a < l->Le c (G p a) (G p k))/\∀ a,l<=a->a < k->Le c (G p k) (G p a)) (fun l q=>?_) _ (uS O hp (by omega) h k 0 k (bl6 _) (bh1 _) (by omega) (fun a z=>absurd z (bx0 _)) fun a h1 h2=>absurd h2 (by omega))
  obtain ⟨q1,q2,q3⟩:=q
  have e:∀ a,G (bubble p k (k - l)) a=if a=l then G p k else if l < a/\a<=k then G p (a - 1) else G p a:=fun a=>by
   rw [at3 (by rw [hp.size]; omega) (by omega),show k - (k - l)=l by omega]
  refine bT.mono (fun r z=>⟨z.1,by rw [show k+(f+1)=k+1+f by omega]; exact z.2⟩) _ (C6 f _ (k+1) (hp.bub _ _) (by omega) fun a b hab hb=>?_)
  rw [e,e]
  by_cases ha:a=l
  ·rw [if_pos ha]
   by_cases hb':b=l
   ·rw [if_pos hb']; exact le_refl O _
   ·rw [if_neg hb',if_pos (by omega)]; exact q3 _ (by omega) (by omega)
  ·rw [if_neg ha]
   by_cases ha2:l < a/\a<=k
   ·rw [if_pos ha2,if_neg (by omega),if_pos (by omega)]
    exact h _ _ (by omega) (by omega)
   ·rw [if_neg ha2]
    by_cases hb':b=l
    ·rw [if_pos hb']; exact q2 a (by omega)
    ·rw [if_neg hb']
     by_cases hb2:l < b/\b<=k
     ·rw [if_pos hb2]; exact h _ _ (by omega) (by omega)
     ·rw [if_neg hb2]; exact h _ _ hab (by omega)
theorem at6 {n:Nat} (hn:1<=n):bT n c (fun q=>PP n q/\eQ c q n) (kas_sort n):=by
 have hp:PP n (List.toArray (List.range n)):=by unfold PP; simp
 refine bT.bind (R:=CI c n) (fun r q=>?_) _ (at5 O hp hn)
 obtain ⟨q1,q2,q3,q4⟩:=q
 by_cases h:r.1 < n
 ·rw [if_pos h]
  have e:max r.1 1=r.1:=by omega
  rw [e]
  exact bT.mono (fun p z=>⟨z.1,by rw [show r.1+(n - r.1)=n by omega] at z; exact z.2⟩) _ (C6 O (n - r.1) r.2 r.1 q1 (by omega) q4)
 ·rw [if_neg h]
  have e:r.1=n:=by omega
  exact⟨q1,by rw [e] at q4; exact q4⟩
end
end Srt
namespace L2
open PySem PySem.Spec PyProof.Rows
theorem bA.there {P:Program}{w:World}{H:Hp}{h:Heap}{a:Addr}{o:HO} (x:bA P w H h a o):∃ u,h.get? a=some u:=by
 cases o with
 | lst xs=>obtain ⟨_,_,_,_,e⟩:=x; exact⟨_,e⟩
 | tup xs=>obtain ⟨_,_,_,o,e,_⟩:=x; exact⟨_,e⟩
 | dK kvs=>obtain ⟨_,_,_,_,o,_,_,e,_⟩:=x; exact⟨_,e⟩
 | dT kvs=>obtain ⟨_,_,_,_,o,_,_,e,_⟩:=x; exact⟨_,e⟩
 | set S n=>obtain ⟨o,_,_,_,e,_⟩:=x; exact⟨_,e⟩
 | ins C dx fs=>obtain ⟨_,_,_,e,_⟩:=x; exact⟨_,e⟩
 | own y=>exact x
 | xd fs=>obtain ⟨_,⟨_,_,_,e,_⟩,_⟩:=x; exact⟨_,e⟩
 | rng lo hi=>obtain ⟨_,_,_,e⟩:=x; exact⟨_,e⟩
 | frz ob u=>obtain ⟨e,_⟩:=x; exact⟨_,e⟩
 | tbl ps=>exact⟨_,(show h.get? a=some _ from x)⟩
 | met f y=>exact⟨_,(show h.get? a=some _ from x)⟩
 | ext φ=>obtain ⟨_,z,_⟩:=x; exact z
section
variable {X : Cx} {pins : List (Addr × Obj)} {σ : St} {H : Hp} {s : Shared} {h' : Heap} {a : Addr} {o : HO} {t' : Nat}
theorem a6.laidF (I:a6 X pins σ H s) (hn:s.heap.get? a=none) (k:∀ b u,b ≠ X.env.locals->s.heap.get? b=some u->h'.get? b=some u) (ns:∀ m,s.heap.Ns X.env.locals m->h'.Ns X.env.locals m)
  (new:bA X.prog X.w (upd H a o) h' a o):H a=none/\a6 X pins σ (upd H a o) { s with heap:=h',toks:=t' }:=by
 have hHn:H a=none:=by
  cases q:H a with
  | none=>rfl
  | some u=>obtain ⟨z,e⟩:=(I.hok a u q).there; rw [hn] at e; cases e
 have ne:∀ b u,s.heap.get? b=some u->b ≠ a:=fun b u e z=>by rw [z,hn] at e; cases e
 have hL:=I.free
 refine⟨hHn,I.step (g':=s.gens) (d':=s.drawn) (ch:=[]) (fun _ z=>nomatch z) (fun b o' h1 _ _ e _=>k b o' h1 e) (fun b o' h1 _ _ e _=>⟨o'.slots,k b o' h1 e⟩) (fun b o' _ e n=>by rw [aM (ne b o' e)]; exact n) (fun b o' _ e=>?_)
  (fun b xs q=>by rw [aM (bX q hHn)]; exact q) (fun b u xs q=>by rw [aM (bX q hHn)]; exact q) (fun b ps q=>⟨#[],by rw [aM (bX q hHn),q]; simp⟩) ns (fun b u q=>?_) I.bare⟩
 ·by_cases hb:b=X.env.locals
  ·obtain ⟨m,hm,_⟩:=I.loc
   obtain ⟨o2,_,_,e2,_⟩:=ns m hm
   exact⟨o2,by rw [hb]; exact e2⟩
  ·exact⟨o',k b o' hb e⟩
 ·by_cases hb:b=a
  ·subst hb; rw [b8] at q; cases q; exact new
  ·rw [aM hb] at q
   refine (I.hok b u q).stay (fun c v hc e=>k c v ?_ e) (fun c e=>by rw [aM (bX e hHn)]; exact e) fun c xs e=>by rw [aM (bX e hHn)]; exact e
   rcases hc with z | z
   ·rw [z]; intro y; rw [y,hL] at q; cases q
   ·intro y; rw [y,hL] at z; cases z
theorem a6.newsAll (I:a6 X pins σ H s) {news:List (Addr × Obj)}{m:Str->Option Value} (hs:∀ p ∈ mJ X.base s.heap X.env.locals,p ∈ news) (F:Fr X.base X.env.locals h' m) (N:News X.base X.env.locals h' news) :
  ∀ b o,b ≠ X.env.locals->s.heap.get? b=some o->h'.get? b=some o:=fun b o h1 e=>by
 cases q:X.base.get? b with
 | some u=>
  have:=I.bk b u q
  rw [e] at this; cases this
  exact F.keep b _ q
 | none=>exact (N (b,o) (hs _ (xX h1 q e))).1
end
theorem at7 {α:Type}{d:α} (l:List α) {p:List Nat} (h:p.Perm (List.range l.length)):(p.map fun i=>l.getD i d).Perm l:=by
 have e:(List.range l.length).map (fun i=>l.getD i d)=l:=by
  apply List.ext_getElem
  ·simp
  ·intro i h1 h2
   simp at h1
   simp [h1]
 have:=h.map fun i=>l.getD i d
 rw [e] at this
 exact this
theorem nE:∀ {xs:List V}{us:List Value} (i:Nat),i < xs.length->aH xs us->aQ (xs.getD i .non) (us.getD i Value.none)
 | _,_,_,h,.nil=>by simp at h
 | _,_,0,_,.cons r _=>by simpa using r
 | _,_,i+1,h,.cons _ t=>by
  have:=nE i (by simpa using h) t
  simpa using this
theorem C7 {xs:List V}{us:List Value} (r:aH xs us):∀ {p:List Nat},(∀ i ∈ p,i < xs.length)->aH (p.map fun i=>xs.getD i .non) (p.map fun i=>us.getD i Value.none)
 | [],_=>.nil
 | i :: p,h=>.cons (nE i (h i bi0) r) (C7 r fun j hj=>h j (bi3 _ hj))
theorem pK {α:Type}:∀ l:List α,(l.zip l).map (·.2)=l
 | []=>rfl
 | a :: l=>by
  show a :: ((l.zip l).map (·.2))=a :: l
  rw [pK l]
theorem at8 {prog:Program}{w:World}{A:Around}{E:Value->Shared->Prop}{s:Shared}{a:Addr}{vs:List Value}{n:Nat}{P:PySem.Fin->Shared->Prop} (e:s.heap.get? a=some (seqObj "list" vs.toArray n)) (few:vs.length < 2)
  (q:P (.done (.ret .none)) { s with heap:=sortedHeap s.heap a vs vs.toArray }):wpAny (model prog w) A (Builtin.«list.sort» ⟨[.ref a],[]⟩) P E s:=by
 have big:vs.length<=sizeLine:=bk9 (bn9 few) (by decide)
 have la:=bh9 e
 have c:vs.toArray.size < 2:=by simpa using few
 have same:(arrOf (SortSt.mk' general' (vs.toArray.zip vs.toArray) #[] 7 none)).map (·.2)=vs.toArray:=by
  change (vs.toArray.zip vs.toArray).map (·.2)=vs.toArray
  apply Array.ext'
  simpa using pK vs
 obtain ⟨k,ek⟩:∃ k,(s.heap.update a (Obj.mapSeq fun _=>#[])).get? a=some (seqObj "list" #[] k):=⟨_,get?_update_seq e fun _=>#[]⟩
 have there:(((s.heap.update a (Obj.mapSeq fun _=>#[])).push (seqObj "tuple" vs.toArray 0)).push (seqObj "list" #[] 0)).get? a=some (seqObj "list" #[] k):=
  bg7 _ (bg7 _ ek)
 rw [list_sort_plain]
 apply bg5
 apply listItems_at e rfl
 apply bg5
 refine listUpdate_at e rfl ?_ (by simpa using big) (bl6 _)
 apply bg5
 apply seqEpoch_at ek rfl
 apply bg5
 refine wpAny_newTuple ?_ big
 apply bg5
 refine wpAny_newList ?_ (bl6 _)
 apply bq4
 simp only [c,if_true,StateT.run_pure]
 apply bg5
 apply bg8
 apply bg5
 apply bg8
 apply bg5
 apply seqEpoch_at there rfl
 apply bg5
 refine listUpdate_at there rfl ?_ (bl6 _) (by rw [same,bh0]; exact Nat.le_succ_of_le big)
 rw [same]
 simp only [bne_self_eq_false,bj1,bn2]
 exact bg8 q
theorem C8 {prog:Program}{w:World}{A:Around}{E:Value->Shared->Prop}{s:Shared}{l:Addr}{vs:List Value}{Q:Value->Shared->Prop} (hl:s.heap.IsList l vs.toArray) (few:vs.length < 2)
  (q:Q (.ref (s.heap.objs.size+1)) { s with heap:=sortedAll s.heap vs vs.toArray }):wpAny (model prog w) A (call (.builtin "sorted") [.ref l]) Q E s:=by
 have big:vs.length<=sizeLine:=bk9 (bn9 few) (by decide)
 apply Calls.call_function_entry kind_sorted plain_sorted entry_sorted (args_sorted1 _)
 simp only [Builtin.«sorted»]
 apply bg5 (m:=checkCount "sorted" 1 1 _)
 apply bg8
 apply bg5
 refine collect_list hl ?_ big
 apply bg5
 refine wpAny_newList ?_ big
 have one:((s.heap.push (seqObj "list" #[] 0)).update s.heap.objs.size (Obj.mapSeq (· ++ vs.toArray))).objs.size=s.heap.objs.size+1:=(Heap.size_update _ _ _).trans (size_push' _ _)
 have at1:(((s.heap.push (seqObj "list" #[] 0)).update s.heap.objs.size (Obj.mapSeq (· ++ vs.toArray))).push (seqObj "list" vs.toArray 0)).get? (s.heap.objs.size+1)=some (seqObj "list" vs.toArray 0):=one ▸ bh8 _ rfl
 change wpAny _ _ _ _ _ { s with heap:=((s.heap.push (seqObj "list" #[] 0)).update s.heap.objs.size (Obj.mapSeq (· ++ vs.toArray))).push (seqObj "list" vs.toArray 0) }
 rw [one]
 apply bg5
 apply bq4
 refine bl0 slot_list_sort ⟨_,at1,rfl⟩ entry_list_sort ?_ (args_list_sort _)
 refine at8 at1 few ⟨_,rfl,?_⟩
 exact bg8 ⟨_,rfl,q⟩
theorem C9:∀ {a b:List Int},HT.b6 a b=true->HT.b6 b a=false
 | [],[],h=>by cases h
 | [],_ :: _,_=>rfl
 | _ :: _,[],h=>by cases h
 | x :: xs,y :: ys,h=>by
  rw [HT.fF] at h ⊢
  by_cases e:x=y
  ·rw [if_pos e] at h; rw [if_pos e.symm]; exact C9 h
  ·rw [if_neg e] at h; rw [if_neg (Ne.symm e)]
   have:=bq9 h
   exact bh3 (by omega)
theorem E1:∀ {a b c:List Int},HT.b6 a b=false->HT.b6 b c=false->HT.b6 a c=false
 | [],[],c,_,h=>h
 | [],_ :: _,_,h,_=>by cases h
 | _ :: _,[],[],_,_=>rfl
 | _ :: _,[],_ :: _,_,h=>by cases h
 | _ :: _,_ :: _,[],_,_=>rfl
 | x :: xs,y :: ys,z :: zs,h1,h2=>by
  rw [HT.fF] at h1 h2 ⊢
  by_cases e1:x=y
  ·rw [if_pos e1] at h1
   by_cases e2:y=z
   ·rw [if_pos e2] at h2; rw [if_pos (e1.trans e2)]; exact E1 h1 h2
   ·rw [if_neg e2] at h2; rw [if_neg (by rw [e1]; exact e2)]; rw [e1]; exact h2
  ·rw [if_neg e1] at h1
   have k1:=bs6 h1
   by_cases e2:y=z
   ·rw [<- e2,if_neg e1]; exact h1
   ·rw [if_neg e2] at h2
    have k2:=bs6 h2
    rw [if_neg (by omega)]
    exact bh3 (by omega)
theorem E2:∀ {a b:List Int},HT.b6 a b=false->HT.b6 b a=false->a=b
 | [],[],_,_=>rfl
 | [],_ :: _,h,_=>by cases h
 | _ :: _,[],_,h=>by cases h
 | x :: xs,y :: ys,h1,h2=>by
  rw [HT.fF] at h1 h2
  by_cases e:x=y
  ·rw [if_pos e] at h1; rw [if_pos e.symm] at h2; rw [e,E2 h1 h2]
  ·rw [if_neg e] at h1; rw [if_neg (Ne.symm e)] at h2
   have:=bs6 h1
   have:=bs6 h2
   omega
def E3 (H:Hp):V->List Int
 | .ref b=>match H b with
  | some (.tup xs)=>xs.map fun x=>match x with
   | .int i=>i
   | _=>0
  | _=>[]
 | _=>[]
section
variable {prog : Program} {w : World} {A : Around} {s : Shared} {Q : Bool → Shared → Prop}
theorem uT:∀ {us ws:List Value}{xs ys:List Int} (i:Nat),IntsAre us xs->IntsAre ws ys->Q (HT.b6 xs ys) s->PySem.W.KatLex prog w A true (decide (us.length < ws.length)) Q (us.zip ws) i s
 | _,_,_,_,_,.nil,.nil,h=>h
 | _,_,_,_,_,.nil,.cons _ _ _,h=>h
 | _,_,_,_,_,.cons _ _ _,.nil,h=>h
 | _,_,_,_,i,.cons (vs:=us) x t hx,.cons (vs:=ws) y u hy,h=>by
  refine PySem.W.kat_cons (wpAny_eqBool_int ?_)
  rw [HT.fF] at h
  by_cases e:x=y
  ·rw [if_pos e] at h
   have eb:(x == y)=true:=by simpa using e
   rw [eb]
   refine PySem.W.kat_yes ?_
   have e2:decide ((Value.int x t :: us).length < (Value.int y u :: ws).length)=decide (us.length < ws.length):=by simp
   rw [e2]
   exact uT (i+1) hx hy h
  ·rw [if_neg e] at h
   have eb:(x == y)=false:=by simpa using e
   rw [eb]
   refine PySem.W.kat_no ?_
   cases hi:(true && i == 0) with
   | true=>exact PySem.W.kat_lt_int h
   | false=>exact PySem.W.kat_one _ _ (lt_int h)
end
def E4 (K:PySem.W.Frag):List V->Hp->VK->Prop:=fun xs H Q=>∃ (a:Addr) (ys:List V) (key:V->List Int),xs = [.ref a]/\aI K H a ys/\ys.length < 64/\(∀ y ∈ ys,∃ b,y = .ref b/\aF K H b ((key y).map V.int)/\key y ≠ [])/\
 ∀ l (zs:List V),H l=none->zs.Perm ys->zs.Pairwise (fun u v=>HT.b6 (key v) (key u)=false)->Q (.ref l) (upd H l (.lst zs))
theorem at9 {c:Nat->Nat->Bool}{R:V->V->Prop}{ys:List V}{p:Array Nat}{n:Nat} (hp:Srt.PP n p) (ha:Srt.eQ c p n) (hR:∀ i j,Srt.Le c i j->R (ys.getD i .non) (ys.getD j .non)) :
  (p.toList.map fun i=>ys.getD i .non).Pairwise R:=by
 rw [bl7,bm5]
 intro i j hi hj hij
 have hs:=hp.size
 have h1:i < n:=by rw [<- hs]; simpa using hi
 have h2:j < n:=by rw [<- hs]; simpa using hj
 have q:=ha i j (bn9 hij) h2
 have e:∀ k (hk:k < p.toList.length),Srt.G p k=p.toList[k]:=fun k hk=>by
  have hk':k < p.size:=by simpa using hk
  unfold Srt.G; rw [bt1]; simp [hk']
 rw [e i hi,e j hj] at q
 exact hR _ _ q
theorem au0 {X:Cx}:cD X (.builtin "sorted") (E4 X.K):=by
 intro pins s σ H xs us Q I r h
 obtain ⟨a,ys,key,rfl,hs,h64,hk,q⟩:=h
 obtain ⟨u,rfl,ru⟩:=dW r
 cases ru
 obtain ⟨its,rv,p,hz⟩:=I.list hs
 have hl:=rv.length
 by_cases h2:its.length < 2
 ·
  refine C8 p.isList h2 ?_
  obtain ⟨e,he⟩:=sortedAll_at s.heap its its.toArray
  have hn:s.heap.objs.size<=s.heap.objs.size+1:=by5 _
  refine⟨.ref (s.heap.objs.size+1),upd H (s.heap.objs.size+1) (.lst ys),I.laid (t':=s.toks) (fun _ _=>sortedAll_old) hn ⟨hz,its,e,rv,he⟩,rfl,q _ ys (I.hok.fresh hn) (bu8 _) ?_⟩
  match ys,hl with
  | [],_=>exact bx1
  | [_],_=>exact bl9 _ _
  | _ :: _ :: _,hl=>simp at hl; omega
 ·obtain ⟨m,F⟩:=I.fr
  have hL:∀ {b:Addr}{k:List Int},aF X.K H b (k.map V.int)->b ≠ X.env.locals:=fun {b k} z e=>by
   obtain ⟨its',_,⟨ob,e1,c1,_⟩,_⟩:=I.tuple z
   obtain ⟨m',⟨o',es',ep',e2,d2,_⟩,_⟩:=I.loc
   rcases z with (z | ⟨_,z⟩) | ⟨o3,its3,n3,z3,zc,zd,_⟩
   ·rw [e,I.free] at z; cases z
   ·rw [e,I.free] at z; cases z
   ·have:=I.kIn b o3 z3
    rw [e,e2] at this
    cases this
    rw [d2] at zd; cases zd
  refine PySem.W.kat_sorted F (ag8 (g:=X.base) (h:=s.heap) (L:=X.env.locals)) p.isList (by omega) (by omega) fun D e1 h' F' N' hD=>?_
  have keep:=I.newsAll (fun p hp=>bi3 _ hp) F' N'
  have look:∀ i,i < ys.length->∃ (b:Addr) (ob:Obj) (us:List Value) (n:Nat),its.getD i Value.none = .ref b/\h'.get? b=some ob/\ob.cls = .type "tuple"/\ob.data = .seq us.toArray n/\IntsAre us (key (ys.getD i .non))/\key (ys.getD i .non) ≠ []:=fun i hi=>by
   have hy:ys.getD i .non ∈ ys:=by
    rw [bh4,bg9 hi]; exact bp6 hi
   obtain ⟨b,eb,sq,ne⟩:=hk _ hy
   have rr:=nE i hi rv
   rw [eb] at rr
   have rr:its.getD i Value.none = .ref b:=rr
   obtain ⟨us,ru,⟨ob,e1,c1,n1,d1⟩,_⟩:=I.tuple sq
   exact⟨b,ob,us,n1,rr,keep b ob (hL sq) e1,c1,d1,i8 ru,ne⟩
  have firsts:∀ {xs:List V}{vs:List Value},aH xs vs->(∀ y ∈ xs,∃ b,y = .ref b/\aF X.K H b ((key y).map V.int)/\key y ≠ [])->∃ fs:List Value,PySem.W.KatTups h' vs fs/\fs.length=vs.length/\∀ v ∈ fs,∃ i t,v=Value.int i t:=by
   intro xs vs r
   induction r with
   | nil=>intro _; exact⟨[],PySem.W.KatTups.nil,rfl,fun _ z=>nomatch z⟩
   | @cons x v xs vs rx rt ih=>
    intro hh
    obtain ⟨fs,t1,t2,t3⟩:=ih fun y hy=>hh y (bi3 _ hy)
    obtain ⟨b,eb,sq,ne⟩:=hh x bi0
    subst eb
    cases rx
    obtain ⟨us,ru,⟨ob,e1,c1,n1,d1⟩,_⟩:=I.tuple sq
    have ia:=i8 ru
    generalize key (V.ref b)=kk at ia ne
    cases ia with
    | nil=>exact absurd rfl ne
    | @cons n t vs0 ns0 ht=>
     exact⟨Value.int n t :: fs,PySem.W.KatTups.cons (keep b ob (hL sq) e1) c1 d1 (by simp) t1,by simp [t2],fun v hv=>(bh5.mp hv).elim (fun z=>⟨n,t,z⟩) (t3 v)⟩
  obtain ⟨fs,t1,t2,t3⟩:=firsts rv hk
  refine PySem.W.kat_kind (T:=.type "int") t1 (by omega) (fun v hv=>?_) (by decide) ?_
  ·obtain ⟨i,t,rfl⟩:=t3 v hv
   exact PySem.W.Looks.now
  let c:Nat->Nat->Bool:=fun i j=>HT.b6 (key (ys.getD i .non)) (key (ys.getD j .non))
  have O:Srt.uP c:=⟨fun h=>C9 h,fun h1 h2=>E1 h1 h2⟩
  have ok:=Srt.at6 (n:=its.length) O (by omega)
  refine Srt.bT.run (I:=fun s'=>s'={ s with heap:=h' }) (fun i j C s' hi hj hI hC=>?_) (fun pa s' hR hI=>?_) _ _ rfl ok
  ·subst hI
   obtain ⟨b1,o1,u1,n1,g1,g2,_,g4,g5,_⟩:=look i (by omega)
   obtain ⟨b2,o2,u2,n2,k1,k2,_,k4,k5,_⟩:=look j (by omega)
   show wpAny _ _ (keyLt' (tuples' (Value.type "int" != Value.type "tuple")) (its.getD i Value.none) (its.getD j Value.none)) _ _ _
   rw [g1,k1]
   have eT:(Value.type "int" != Value.type "tuple")=true:=by decide
   rw [eT]
   refine PySem.W.kat_lt g2 g4 k2 k4 ?_
   have:=uT (prog:=X.prog) (w:=X.w) (A:=X.A.in1.in1) (s:={ s with heap:=h' }) (Q:=C) 0 g5 k5 (hC _ rfl)
   simpa using this
  ·subst hI
   obtain ⟨hp,hasc⟩:=hR
   refine PySem.W.KasFin.intro F' N' (PySem.W.UpdF.head fun p hp=>bj5 (hD p hp)) fun h2 cc F2 N2=>?_
   have keep2:=I.newsAll (fun p hp=>bi3 _ hp) F2 N2
   have hDn:s.heap.get? D=none:=by
    cases z:s.heap.get? D with
    | none=>rfl
    | some o=>
     obtain ⟨_,n1,n2⟩:=N2 (D,_) bi0
     exact absurd (hD _ (xX n1 n2 z)) (bm1 _)
   have hpl:∀ i ∈ pa.toList,i < ys.length:=fun i hi=>by
    have:=bt3.mp (hp.mem_iff.mp hi); omega
   have hp':pa.toList.Perm (List.range ys.length):=by rw [hl]; exact hp
   have pm:=at7 (d:=V.non) ys hp'
   obtain ⟨hDo,hDL,hDb⟩:=N2 (D,_) bi0
   obtain ⟨hHD,I2⟩:=I.laidF (t':=s.toks) (a:=D) (o:=.lst (pa.toList.map fun i=>ys.getD i .non)) hDn keep2 (fun m' hm'=>by
     have e:m'=m:=funext fun nm=>Heap.Ns.agree hm' F.ns nm
     rw [e]; exact F2.ns) ⟨by rw [pm.length_eq]; exact hz,_,cc,C7 rv hpl,hDo⟩
   exact⟨.ref D,_,I2,rfl,q D _ hHD pm (at9 hp hasc fun i j hle=>hle)⟩
end L2
namespace Raw
open PySem PySem.W PySem.Calls PyProof.Rows
def fG (h:Heap) (d:Addr) (es:Array DictEntry) (ep:Nat):Prop:=∃ o,h.get? d=some o/\o.ExactDict/\o.data = .dict es ep
theorem fG.ty {s:Shared}{d:Addr}{es:Array DictEntry}{ep:Nat} (x:fG s.heap d es ep):s.TypeIs (.ref d) "dict":=x.elim fun o y=>⟨o,y.1,y.2.1.1⟩
theorem fG.lt {h:Heap}{d:Addr}{es:Array DictEntry}{ep:Nat} (x:fG h d es ep):d < h.objs.size:=x.elim fun _ y=>bh9 y.1
theorem fG.keep {h h':Heap}{d:Addr}{es:Array DictEntry}{ep:Nat} (x:fG h d es ep) (k:∀ o,h.get? d=some o->h'.get? d=some o):fG h' d es ep:=x.elim fun o y=>⟨o,k o y.1,y.2⟩
section
variable {prog : Program} {w : World} {A : Around} {E : Value → Shared → Prop} {s : Shared} {d it : Addr} {es : Array DictEntry} {ep i : Nat}
theorem made (far:(d == sysModules)=false) (x:fG s.heap d es ep) {Q:Value->Shared->Prop}
  (q:Q (.ref s.heap.objs.size) { s with heap:=s.heap.push { cls:=.type "dict_keyiterator",data:=.fields #[.ref d,.int 0 0,.int es.size 0,.int ep 0] } }):wpAny (model prog w) A (pyIter (.ref d)) Q E s:=by
 have T:=x.ty
 obtain ⟨o,e1,e2,e3⟩:=x
 apply wpAny_pyIter_slot T PySem.F.slot_dict_iter
 apply bl0 PySem.F.slot_dict_iter T PySem.F.entry_dict_iter _ (PySem.F.args_dict_iter_1 _)
 simp only [Builtin.«dict.__iter__»,Builtin.Dict.dictSlotNone]
 apply bg5
 apply bg5
 apply wpAny_notOrdered_dict T
 apply bg8
 change wpAny _ _ (Builtin.Dict.showsAll d >>= _) _ _ s
 have far':Builtin.Dict.showsAll d=pure ():=by
  unfold Builtin.Dict.showsAll
  simp only [far,bj1,bn2]
 rw [far',pure_bind]
 apply bg5
 apply wpAny_dictEntries e1 e3
 apply bg5
 apply wpAny_dictEpoch e1 e3
 apply bg5
 refine bk7 (bg8 ?_)
 refine⟨.ref s.heap.objs.size,rfl,"dict_keyiterator",_,⟨_,bh8 _ rfl,rfl⟩,PySem.F.slot_dict_keyiterator_next.lookup,?_⟩
 simpa only [rawInt] using q
theorem turn (hh:A.handled=none) (hi:s.heap.IsKeyIter it d i es.size ep) (x:fG s.heap d es ep) {Q:Option Value->Shared->Prop}
  (yes:∀ (lt:i < es.size) h',h'.IsKeyIter it d (i+1) es.size ep->Heap.SameBut it s.heap h'->Q (some es[i].key) { s with heap:=h' })
  (no:es.size<=i->∀ h',Heap.ExtBut it s.heap h'->Q none { s with heap:=h' }):wpAny (model prog w) A (pyNext (.ref it)) Q E s:=by
 have T:=hi.typeIs
 obtain ⟨oi,f1,f2,f3⟩:=hi
 obtain ⟨o,e1,e2,e3⟩:=x
 have slot:=PySem.F.slot_dict_keyiterator_next
 have plain:Builtin.Dict_items.ownsTuple "dict_keyiterator" = false:=by decide
 have isref:(Value.ref d == Value.none)=false:=rfl
 have nn : ¬ (i:Int) < 0:=by omega
 unfold pyNext
 apply bg5
 apply bu6
 apply bl3 (name:=Str.ofString "__next__") T slot
 apply bl0 slot T PySem.F.entry_dict_keyiterator_next _ (PySem.F.args_dict_keyiterator_next_1 _)
 apply bg5
 apply bg8
 apply bg5
 apply bg5
 apply bg5
 first
  | apply wpAny_typeNameOfWhole_keyiter T
  | apply wpAny_typeNameOf_keyiter T
 apply bg8
 apply bg5
 apply wpAny_fieldsOf f1 f3
 simp only [plain,bj1,bn2]
 change wpAny _ _ (if (Value.ref d == Value.none)=true then _ else _) _ _ s
 have adr:Builtin.Dict_items.addrOf (Value.ref d)=pure d:=rfl
 simp only [isref,bj1,bn2,adr,pure_bind]
 apply bg5
 apply wpAny_dictEntries e1 e3
 simp only [bne_self_eq_false,bj1,bn2]
 apply bg5
 apply wpAny_dictEpoch e1 e3
 simp only [bne_self_eq_false,bj1,bn2]
 apply bg8
 simp only [nn,bn2,br8]
 by_cases lt:i < es.size
 ·simp only [bl1 lt]
  apply bg5
  apply bg5
  first
   | apply wpAny_typeNameOfWhole_keyiter T
   | apply wpAny_typeNameOf_keyiter T
  apply bg8
  apply bg5
  apply wpAny_isOneOf_keyiter T
  change wpAny _ _ (setField (.ref it) 1 (rawInt ((i:Int)+1)) >>= _) _ _ s
  apply bg5
  refine bt5 f1 f3 (by simp) ?_
  have again:(s.heap.update it (Obj.mapFields (·.setIfInBounds 1 (rawInt ((i:Int)+1))))).IsKeyIter it d (i+1) es.size ep:=by
   refine⟨_,bo4 _ f1 (Obj.isFreed_of_fields (Obj.data_mapFields f3 _)),?_,?_⟩
   ·rw [Obj.cls_mapFields]; exact f2
   ·rw [Obj.data_mapFields f3]; simp [rawInt]
  apply bg5
  apply bq4
  apply bg5
  refine wpAny_isOneOf_keyiter (s:={ s with heap:=s.heap.update it (Obj.mapFields (·.setIfInBounds 1 (rawInt ((i:Int)+1)))) }) again.typeIs ?_
  change wpAny _ _ (pure es[i].key) _ _ _
  apply bg8
  apply bg8
  exact⟨es[i].key,rfl,bg8 (yes lt _ again (bm9 ..))⟩
 ·have ge:es.size<=i:=bw1 lt
  simp only [bt6 ge]
  apply bg5
  apply bg5
  first
   | apply wpAny_typeNameOfWhole_keyiter T
   | apply wpAny_typeNameOf_keyiter T
  apply bg8
  change wpAny _ _ (setField (.ref it) 0 .none >>= _) _ _ s
  apply bg5
  refine bt5 f1 f3 (by simp) ?_
  apply bg5
  simp only [newExc,newTuple]
  apply bg5
  refine bk7 ?_ (by size_fits)
  apply bg5
  refine wpAny_of_eq (a:=Value.none) (by first | rfl | (simp only [firstArgMember]; rfl)) ?_
  refine bk7 ?_ (by size_fits)
  unfold raiseNew
  apply bg5
  apply wpAny_handled
  have quiet:A.in1.handled=none:=hh
  rw [quiet]
  refine wpAny_throw ?_
  apply bg5
  refine bw2 (T:="StopIteration") (b:=true) ⟨_,bh8 _ rfl,rfl⟩ isSubtype_stop ?_
  exact bg8 (no ge _ (((bm9 ..).extBut.push _).push _))
theorem au1 (hh:A.handled=none) (ne:d ≠ it):Walks prog w A it [it,d] [it] es.size (fun i v=>∃ lt:i < es.size,es[i].key=v) (fun i h=>h.IsKeyIter it d i es.size ep/\fG h d es ep) where
 sub:=by intro b hb; rw [bh6.mp hb]; exact bi0
 frame:=by
  intro i h h' st hk
  exact⟨st.1.at (hk it bi0),st.2.keep (hk d (bi3 _ bi0))⟩
 item:=by
  intro i s Q E lt st hQ
  refine turn hh st.1 st.2 (fun lt' h' again sb=>?_) fun ge=>absurd lt (Nat.not_lt.mpr ge)
  exact hQ _ h' s.toks ⟨lt',rfl⟩ ⟨again,st.2.keep fun o e=>sb.extBut d o ne e⟩ fun b o hb e=>sb.extBut b o (fun z=>hb (bh6.mpr z)) e
 done:=by
  intro s Q E st hQ
  refine turn hh st.1 st.2 (fun lt=>absurd lt (bm1 _)) fun _ h' eb=>?_
  exact hQ h' s.toks fun b o hb e=>eb b o (fun z=>hb (bh6.mpr z)) e
 self:=by intro i s Q E st hQ; exact wpAny_pyIter_keyiter st.1 hQ
theorem E5 (far:(d == sysModules)=false):KdlSrc prog w "dict" d d es.size (fun i v=>∃ lt:i < es.size,es[i].key=v) (fun h=>fG h d es ep) where
 type:=fun _ x=>x.ty
 there:=fun _ x=>⟨x.lt,x.lt⟩
 keep:=fun _ _ x k=>x.keep (k d (.inl rfl))
 notList:=by decide
 notTuple:=by decide
 hint:=fun _ _ _ _ x q=>kdl_hint_dict x.ty q
 iter:=fun _ _ hh x=>⟨_,_,fun _ _ q=>made far x q,au1 hh (bj5 x.lt),⟨_,bh8 _ rfl,rfl,rfl⟩,x.keep fun o e=>bg7 _ e⟩
end
end Raw
namespace L2
open PySem PySem.Spec PyProof.Rows
section
variable {X : Cx} {pins : List (Addr × Obj)} {σ : St} {H : Hp} {s : Shared} {a : Addr}
def pL (H:Hp) (y:V) (k:List a9):Prop:=∃ q,y = .ref q/\H q=some (.tup (k.map kV))
theorem au2 {kvs:List (a9 × V)} (I:a6 X pins σ H s) (h:H a=some (.dK kvs)):∃ es ep,Raw.fG s.heap a es ep/\(a == sysModules)=false/\aH (kvs.map fun p=>kV p.1) (es.toList.map (·.key))/\kvs.length<=sizeLine:=by
 obtain ⟨z,far,vs,rel,o,es,ep,e1,e2,e3,kk,pr,nd⟩:=(show bA X.prog X.w H s.heap a (.dK kvs) from I.hok a _ h)
 refine⟨es,ep,⟨o,e1,e2,e3⟩,far,?_,z⟩
 clear z far e1 e2 e3 kk nd h
 generalize es.toList=l at pr
 induction pr generalizing kvs with
 | nil=>cases rel; exact .nil
 | @cons e k es' kvs' h1 h2 _ ih=>
  cases rel with
  | @cons p q ps qs r rs=>
   refine .cons ?_ (ih rs)
   obtain ⟨r1,_⟩:=r
   show aQ (kV p.1) e.key
   rw [r1]
   rcases gM h1 with ⟨n,t,e4,e5⟩ | ⟨x,t,e4,e5⟩
   ·rw [e4,e5]; exact⟨t,rfl⟩
   ·rw [e4,e5]; exact⟨t,rfl⟩
theorem au3 {kvs:List (List a9 × V)} (I:a6 X pins σ H s) (h:H a=some (.dT kvs)):∃ es ep ys,Raw.fG s.heap a es ep/\(a == sysModules)=false/\Paired (pL H) ys (kvs.map (·.1))/\aH ys (es.toList.map (·.key))/\kvs.length<=sizeLine:=by
 obtain ⟨z,far,xs,rel,o,es,ep,e1,e2,e3,e4,nd⟩:=(show bA X.prog X.w H s.heap a (.dT kvs) from I.hok a _ h)
 refine⟨es,ep,xs.map fun q=>V.ref q.2.1,⟨o,e1,e2,e3⟩,far,?_,?_,z⟩
 ·clear e4 nd h z
  induction rel with
  | nil=>exact .nil
  | cons r rs ih=>exact .cons ⟨_,rfl,r.2.1⟩ ih
 ·rw [e4]
  clear rel e4 nd
  induction xs with
  | nil=>exact .nil
  | cons q qs ih=>exact .cons rfl ih
theorem E6 {es:Array DictEntry}{acc:Array Value} (h:ItemsOf (fun i v=>∃ lt:i < es.size,es[i].key=v) acc es.size):acc.toList=es.toList.map (·.key):=by
 apply List.ext_getElem?
 intro j
 have h1:=h.1
 by_cases hj:j < es.size
 ·have hj':j < acc.size:=by rw [h1]; exact hj
  obtain ⟨_,e⟩:=h.2 j acc[j] (by simp [hj'])
  rw [bi4]
  simp [hj,hj',e]
 ·have hj' : ¬ j < acc.size:=by rw [h1]; exact hj
  rw [bi4]
  simp [bw1 hj,bw1 hj']
theorem au4 (hc:X.calm=true):cD X (.type "list") (fun xs H Q=>∃ a kvs,xs = [.ref a]/\H a=some (.dT kvs)/\∀ l ys,H l=none->Paired (pL H) ys (kvs.map (·.1))->Q (.ref l) (upd H l (.lst ys))):=by
 intro pins s σ H xs us Q I r h
 obtain ⟨a,kvs,rfl,ha,q⟩:=h
 obtain ⟨u,rfl,ru⟩:=dW r
 cases ru
 obtain ⟨es,ep,ys,rd,far,pk,vk,z⟩:=au3 I ha
 have hl:=vk.length
 have hl2:=pk.length
 rw [bh2] at hl hl2
 have hsz:es.toList.length=es.size:=bj3
 refine PySem.W.kdl_call (Raw.E5 far) (I.ok.hd hc) rd (by omega) fun h' tk acc c kp e it=>?_
 refine⟨.ref s.heap.objs.size,_,I.laid (t':=tk) kp (bh1 _) (show bA X.prog X.w _ h' _ (.lst ys) from ⟨by omega,acc.toList,c,by rw [E6 it]; exact vk,by simpa using e⟩),rfl,q _ ys (I.hok.fresh (bh1 _)) pk⟩
end
section
variable {X : Cx}
theorem au5:cD X (.builtin "isinstance") (fun xs H Q=>∃ x t n b,xs = [x,.ty n]/\eM X.K H x t/\PySem.W.kitOne X.K t (.type n)=some b/\Q (.bl b) H):=by
 intro pins s σ H xs us Q I r h
 obtain ⟨x,t,n,b,rfl,ty,e,q⟩:=h
 obtain ⟨u,u',rfl,ru,ru'⟩:=oU r
 cases ru'
 exact am1 I ru ty e fun tk=>⟨.bl b,H,I.tok tk,rfl,q⟩
theorem au6 {xs ys:List Int} (hl:xs.length=ys.length):((List.range xs.length).all fun j=>xs[j]? == ys[j]?)=decide (xs=ys):=by
 by_cases e:xs=ys
 ·subst e
  rw [bi2 rfl,bp7]
  intro j _
  simp
 ·rw [bh3 e]
  cases q:((List.range xs.length).all fun j=>xs[j]? == ys[j]?) with
  | false=>rfl
  | true=>
   refine absurd (List.ext_getElem? fun j=>?_) e
   by_cases hj:j < xs.length
   ·have:=bp7.mp q j (bt3.mpr hj)
    simpa using this
   ·rw [List.getElem?_eq_none (by omega),List.getElem?_eq_none (by omega)]
theorem au7 {A:Around}{s:Shared}{xs ys:List Int}{us ws:List Value} (r:aH (xs.map V.int) us) (r':aH (ys.map V.int) ws):∀ j (h1:j < us.toArray.size) (h2:j < ws.toArray.size),SeqAt.EqAt A s us.toArray[j] ws.toArray[j] (xs[j]? == ys[j]?):=by
 intro j h1 h2
 have l1:=r.length
 have l2:=r'.length
 rw [bh2] at l1 l2
 have k1:j < xs.length:=by rw [l1]; simpa using h1
 have k2:j < ys.length:=by rw [l2]; simpa using h2
 obtain ⟨u,eu,ru⟩:=r.get (i:=j) (x:=.int xs[j]) (by simp [k1])
 obtain ⟨v,ev,rv⟩:=r'.get (i:=j) (x:=.int ys[j]) (by simp [k2])
 have e1:us.toArray[j]=u:=by
  have:us.toArray[j]? = some u:=by simpa using eu
  rw [bl1 h1] at this; exact bj7 this
 have e2:ws.toArray[j]=v:=by
  have:ws.toArray[j]? = some v:=by simpa using ev
  rw [bl1 h2] at this; exact bj7 this
 obtain ⟨t,rfl⟩:=ru
 obtain ⟨t',rfl⟩:=rv
 rw [e1,e2,bg9 k1,bg9 k2]
 have:(some xs[j] == some ys[j])=(xs[j] == ys[j]):=rfl
 rw [this]
 exact SeqAt.EqAt.int_int _ _ _ _
end
def E7 (outer:List (Str × NameKind)) (XN:List Str) (names:List (Str × NameKind)) (N:List Str) (fr:List (Option Nat)):Bool:=
 names.all (fun y=>!(y.2 == .cell) || names.lookup y.1 == some .cell) && names.all (fun y=>!(y.2 == .local) || names.lookup y.1 == some .local) &&
 names.all (fun y=>!(y.2 == .free) || (outer.lookup y.1 == some .cell || outer.lookup y.1 == some .free)) && fr.length == N.length &&
 (fr.zip N).all (fun p=>match p.1 with
  | none=>true
  | some j=>XN[j]? == some p.2 && names.lookup p.2 == some .free)
theorem cZ.of {X:Cx}{scope:Scope}{N:List Str}{fr:List (Option Nat)} (hk:scope.kind = .function) (h:E7 X.env.scope.names X.N scope.names N fr=true):cZ X scope N fr:=by
 unfold E7 at h
 simp only [bk5] at h
 obtain ⟨⟨⟨⟨h1,h2⟩,h3⟩,h4⟩,h5⟩:=h
 refine⟨hk,fun y hy e=>?_,fun y hy e=>?_,fun y hy e=>?_,by simpa using h4,fun i j e=>?_⟩
 ·have:=bp7.mp h1 y hy
  rw [e] at this; simpa using this
 ·have:=bp7.mp h2 y hy
  rw [e] at this; simpa using this
 ·have:=bp7.mp h3 y hy
  rw [e] at this; simpa using this
 ·have hl:fr.length=N.length:=by simpa using h4
  have hi:i < fr.length:=(bh7.mp e).1
  have m:(some j,N[i]'(by omega)) ∈ fr.zip N:=by
   have:(fr.zip N)[i]? = some (some j,N[i]'(by omega)):=by
    rw [List.getElem?_zip_eq_some]
    exact⟨e,by simp⟩
   exact bm3 this
  have:=bp7.mp h5 _ m
  simp only [bk5,beq_iff_eq] at this
  exact⟨N[i]'(by omega),by simp,this.1,this.2⟩
theorem wk0 {n:Option V}{r:St}{v:V}:Wk (none :: r) (some v :: r):=(Wk.refl (none :: r)).set (i:=0) rfl
def l7 (H:Hp) (ys:List V) (ls:List (Int × Int)):Prop:=Paired (fun y l=>∃ b,y = .ref b/\H b=some (.tup [.int l.1,.int l.2])) ys ls
structure E8 (H:Hp) (v:V) (ws:List Int) (ls:List (Int × Int)):Prop where
 at_:∃ a p q ys,v = .ref a/\H a=some (.tup [.ref p,.ref q])/\H p=some (.tup (ws.map V.int))/\H q=some (.tup ys)/\l7 H ys ls
theorem l7.get {H:Hp}:∀ {ys:List V}{ls:List (Int × Int)}{i:Nat}{y:V},l7 H ys ls->ys[i]? = some y->∃ l b,ls[i]? = some l/\y = .ref b/\H b=some (.tup [.int l.1,.int l.2])
 | _,_,_,_,.nil,e=>by simp at e
 | _,_,0,_,.cons (b:=l) ⟨b,h1,h2⟩ _,e=>by simp at e; subst e; exact⟨l,b,rfl,h1,h2⟩
 | _,_,i+1,_,.cons _ t,e=>by
  obtain ⟨l,b,h1,h2⟩:=l7.get (i:=i) t (by simpa using e)
  exact⟨l,b,by simpa using h1,h2⟩
def aY (ls:List (Int × Int)) (k:Int):List Int:=ls.flatMap fun l=>(if l.1=k then [l.2] else []) ++ (if l.2=k then [l.1] else [])
theorem au8 (ls:List (Int × Int)) (l:Int × Int) (k:Int):aY (ls ++ [l]) k=aY ls k ++ ((if l.1=k then [l.2] else []) ++ (if l.2=k then [l.1] else [])):=by
 unfold aY; rw [List.flatMap_append]; simp
theorem au9 {ls:List (Int × Int)}{i:Nat}{l:Int × Int} (h:ls[i]? = some l) (k:Int):aY (ls.take (i+1)) k=aY (ls.take i) k ++ ((if l.1=k then [l.2] else []) ++ (if l.2=k then [l.1] else [])):=by
 rw [bm8,h]; exact au8 _ _ _
structure iE (H H':Hp) (r:Addr) (bs:List Addr) (f:Nat->List Int):Prop where
 new:H r=none
 news:∀ b ∈ bs,H b=none/\b ≠ r
 nd:bs.Nodup
 row:H' r=some (.lst (bs.map V.ref))
 rows:∀ (k:Nat) (b:Addr),bs[k]? = some b->H' b=some (.lst ((f k).map V.int))
 same:aD H H'
theorem iE.congr {H H':Hp}{r:Addr}{bs:List Addr}{f g:Nat->List Int} (h:iE H H' r bs f) (e:∀ k,k < bs.length->f k=g k):iE H H' r bs g:=
 ⟨h.new,h.news,h.nd,h.row,fun k b hb=>by rw [<- e k (bh7.mp hb).1]; exact h.rows k b hb,h.same⟩
theorem iE.app {H H':Hp}{r:Addr}{bs:List Addr}{f:Nat->List Int} (h:iE H H' r bs f) {k:Nat}{b:Addr} (hb:bs[k]? = some b) (x:Int) :
  iE H (upd H' b (.lst ((f k).map V.int ++ [V.int x]))) r bs (fun j=>if j=k then f j ++ [x] else f j):=by
 have hm:b ∈ bs:=bm3 hb
 refine⟨h.new,h.news,h.nd,by rw [aM (Ne.symm (h.news b hm).2)]; exact h.row,fun j c hc=>?_,fun c o e=>by rw [aM (bX e (h.news b hm).1)]; exact h.same c o e⟩
 by_cases hj:j=k
 ·subst hj
  rw [hb] at hc; cases hc
  rw [b8,if_pos rfl]; simp
 ·rw [if_neg hj]
  have ne:c ≠ b:=fun z=>by
   subst z
   obtain ⟨i1,e1⟩:=bh7.mp hb
   obtain ⟨i2,e2⟩:=bh7.mp hc
   refine hj (Nat.le_antisymm (bw1 fun z=>?_) (bw1 fun z=>?_))
   ·exact bm5.mp h.nd _ _ i1 i2 z (e1.trans e2.symm)
   ·exact bm5.mp h.nd _ _ i2 i1 z (e2.trans e1.symm)
  rw [aM ne]; exact h.rows j c hc
theorem pM (ls:List (Int × Int)) (k:Int):(aY ls k).length<=2 * ls.length:=by
 induction ls with
 | nil=>exact bh1 _
 | cons l r ih=>
  have e:aY (l :: r) k=((if l.1=k then [l.2] else []) ++ (if l.2=k then [l.1] else [])) ++ aY r k:=rfl
  rw [e,bi6,bi6,bk2]
  have h1:(if l.1=k then [l.2] else []).length<=1:=by split <;> simp
  have h2:(if l.2=k then [l.1] else []).length<=1:=by split <;> simp
  omega
theorem pN {α:Type}{xs:List α}{i:Int}{v:α} (h0:0<=i) (h:xs[i.toNat]? = some v):atI xs i=some v:=by
 have:=l4 h
 rwa [show ((i.toNat:Nat):Int)=i by omega] at this
theorem j9 {n:Nat} (h:n<=16000000):n < sizeLine:=by rw [sizeLine_eq]; omega
theorem av0 {σ:St}{H:Hp}{A B:Hp->Prop} (h:A H):uF σ H fun b H4=>if b=true then A H4 else B H4:=by
 show if true=true then A H else B H
 rw [if_pos rfl]; exact h
theorem uV {K:PySem.W.Frag}{H:Hp}{p:Addr}{xs:List V} (h:aI K H p xs):oX K "list" (.ref p) H:=.inl ⟨rfl,xs,h⟩
def nF (H:Hp) (y:V):Int × Int:=match E3 H y with
 | [a,b]=>(a,b)
 | _=>(0,0)
theorem pO {H:Hp}:∀ {zs:List V},(∀ y ∈ zs,∃ b,y = .ref b/\H b=some (.tup [.int (nF H y).1,.int (nF H y).2])/\E3 H y = [(nF H y).1,(nF H y).2])->l7 H zs (zs.map (nF H))
 | [],_=>.nil
 | y :: zs,h=>by
  obtain ⟨b,e,hb,_⟩:=h y bi0
  exact .cons ⟨b,e,hb⟩ (pO fun z hz=>h z (bi3 _ hz))
end L2
namespace Zp
open PySem PyProof.Rows
section
variable {prog : Program} {w : World} {A : Around} {E : Value → Shared → Prop} {s : Shared}
theorem E9 {it t:Addr}{i:Nat}{items:Array Value}{x:Value}{Q:Value->Shared->Prop} (hi:s.heap.IsTupleIter it t i) (ht:s.heap.IsTuple t items) (hx:items[i]? = some x)
  (q:∀ h',h'.IsTupleIter it t (i+1)->Heap.SameBut it s.heap h'->Q x { s with heap:=h' }):wpAny (model prog w) A (Builtin.SmallTypes.nextOf (.ref it)) Q E s:=by
 have T:=hi.typeIs
 obtain ⟨o,e1,e2,e3⟩:=hi
 obtain ⟨u,f1,_,k,f3⟩:=ht
 have slot:=PySem.F.slot_tuple_iterator_next
 have isref:(Value.ref t == Value.none)=false:=rfl
 unfold Builtin.SmallTypes.nextOf
 apply bg5
 apply bl3 (name:=Str.ofString "__next__") T slot
 apply bl0 slot T PySem.F.entry_tuple_iterator_next _ (PySem.F.args_tuple_iterator_next_1 _)
 change wpAny _ _ (field (.ref it) 0 >>= _) _ _ s
 apply bg5
 refine bo5 e1 e3 (x:=.ref t) rfl ?_
 change wpAny _ _ (if (Value.ref t == Value.none)=true then _ else _) _ _ s
 simp only [isref,bj1,bn2]
 change wpAny _ _ (field (.ref it) 1 >>= _) _ _ s
 apply bg5
 refine bo5 e1 e3 (x:=.int i 0) rfl ?_
 change wpAny _ _ (seqItems? (.ref t) >>= _) _ _ s
 apply bg5
 apply bw5 f1 f3
 simp only [br8,hx]
 apply bg5
 refine bt5 e1 e3 (by simp) ?_
 apply bg8
 refine⟨x,rfl,bg8 (q _ ⟨_,bo4 _ e1 (Obj.isFreed_of_fields (Obj.data_mapFields e3 _)),?_,?_⟩ (bm9 ..))⟩
 ·rw [Obj.cls_mapFields]; exact e2
 ·rw [Obj.data_mapFields e3]; simp [rawInt]
theorem F0 {it t:Addr}{i:Nat}{items:Array Value}{Q:Value->Shared->Prop} (hh:A.handled=none) (hi:s.heap.IsTupleIter it t i) (ht:s.heap.IsTuple t items) (hx:items[i]? = none)
  (q:∀ h' e,Heap.ExtBut it s.heap h'->(∃ o,h'.get? e=some o/\o.cls = .type "StopIteration")->E (.ref e) { s with heap:=h' }):wpAny (model prog w) A (Builtin.SmallTypes.nextOf (.ref it)) Q E s:=by
 have T:=hi.typeIs
 obtain ⟨o,e1,e2,e3⟩:=hi
 obtain ⟨u,f1,_,k,f3⟩:=ht
 have slot:=PySem.F.slot_tuple_iterator_next
 have isref:(Value.ref t == Value.none)=false:=rfl
 unfold Builtin.SmallTypes.nextOf
 apply bg5
 apply bl3 (name:=Str.ofString "__next__") T slot
 apply bl0 slot T PySem.F.entry_tuple_iterator_next _ (PySem.F.args_tuple_iterator_next_1 _)
 change wpAny _ _ (field (.ref it) 0 >>= _) _ _ s
 apply bg5
 refine bo5 e1 e3 (x:=.ref t) rfl ?_
 change wpAny _ _ (if (Value.ref t == Value.none)=true then _ else _) _ _ s
 simp only [isref,bj1,bn2]
 change wpAny _ _ (field (.ref it) 1 >>= _) _ _ s
 apply bg5
 refine bo5 e1 e3 (x:=.int i 0) rfl ?_
 change wpAny _ _ (seqItems? (.ref t) >>= _) _ _ s
 apply bg5
 apply bw5 f1 f3
 simp only [br8,hx]
 apply bg5
 apply bu1
 apply bg5
 refine bt5 e1 e3 (by simp) ?_
 apply bg5
 simp only [newExc,newTuple]
 apply bg5
 refine bk7 ?_ (by size_fits)
 apply bg5
 refine wpAny_of_eq (a:=Value.none) (by first | rfl | (simp only [firstArgMember]; rfl)) ?_
 refine bk7 ?_ (by size_fits)
 unfold raiseNew
 apply bg5
 apply wpAny_handled
 have quiet:A.in1.handled=none:=hh
 rw [quiet]
 refine wpAny_throw ?_
 exact q _ _ (((bm9 ..).extBut.push _).push _) ⟨_,bh8 _ rfl,rfl⟩
theorem av1 (hh:A.handled=none) (it t:Addr) (ne:t ≠ it) (items:Array Value):Draws prog w A it [it,t] items.size (fun i v=>items[i]? = some v) (fun i h=>h.IsTupleIter it t i/\h.IsTuple t items) where
 live:=fun _ _ st=>st.1.elim fun o y=>⟨o,y.1⟩
 frame:=fun _ _ _ st k=>⟨st.1.at fun o e=>k it bi0 o e,st.2.elim fun o y=>⟨o,k t (bi3 _ bi0) o y.1,y.2⟩⟩
 item:=fun i s Q E lt st q=>E9 st.1 st.2 (bl1 lt) fun h' again sb=>q _ h' s.toks (bl1 lt) ⟨again,st.2.elim fun o y=>⟨o,sb.extBut t o ne y.1,y.2⟩⟩ sb
 done:=fun s Q E st q=>F0 hh st.1 st.2 (bt6 (bh1 _)) q
end
structure Ap (z TI TO i1 i2:Addr) (fp1 fp2:List Addr):Prop where
 TIz:TI ≠ z
 TOz:TO ≠ z
 TITO:TI ≠ TO
 z1:z ∉ fp1
 z2:z ∉ fp2
 o1:TO ∉ fp1
 o2:TO ∉ fp2
 t1:TI ∉ fp1
 t2:TI ∉ fp2
 m1:i1 ∈ fp1
 m2:i2 ∈ fp2
 n1:i1 ∉ fp2
 n2:i2 ∉ fp1
structure uW (z TI TO i1 i2:Addr) (St1 St2:Nat->Heap->Prop) (f0:Value) (i j:Nat) (h:Heap):Prop where
 zz:IsZip h z TI TO f0
 ti:IsPair h TI (.ref i1) (.ref i2)
 to_:∃ a b,IsPair h TO a b
 s1:St1 i h
 s2:St2 j h
section
variable {prog : Program} {w : World} {A : Around} {E : Value → Shared → Prop} {s : Shared} {z TI TO i1 i2 : Addr} {fp1 fp2 : List Addr} {n1 n2 : Nat} {P1 P2 : Nat → Value → Prop} {St1 St2 : Nat → Heap → Prop}
theorem l9 (ap:Ap z TI TO i1 i2 fp1 fp2) {b:Addr} (h:b ∉ fp1):b ≠ i1:=fun e=>h (e ▸ ap.m1)
theorem pP (ap:Ap z TI TO i1 i2 fp1 fp2) {b:Addr} (h:b ∉ fp2):b ≠ i2:=fun e=>h (e ▸ ap.m2)
theorem item (D1:Draws prog w A.in1 i1 fp1 n1 P1 St1) (D2:Draws prog w A.in1 i2 fp2 n2 P2 St2) (ap:Ap z TI TO i1 i2 fp1 fp2) {i:Nat} (l1:i < n1) (l2:i < n2) (st:uW z TI TO i1 i2 St1 St2 .none i i s.heap) {Q:Option Value->Shared->Prop}
  (q:∀ x y h' tk,P1 i x->P2 i y->uW z TI TO i1 i2 St1 St2 (rawInt s.heap.objs.size) (i+1) (i+1) h'->IsPair h' s.heap.objs.size x y->(∀ c o,c ≠ z->c ≠ TO->c ≠ i1->c ≠ i2->s.heap.get? c=some o->h'.get? c=some o)->
   h'.objs.size=s.heap.objs.size+1->Q (some (.ref s.heap.objs.size)) { s with heap:=h',toks:=tk }):wpAny (model prog w) A (pyNext (.ref z)) Q E s:=by
 obtain ⟨hz,hti,⟨a,b,hto⟩,h1,h2⟩:=st
 have T:s.TypeIs (.ref z) "zip":=⟨_,hz,rfl⟩
 have slot:=PySem.F.slot_zip_next
 unfold pyNext
 apply bg5
 apply bu6
 apply bl3 (name:=Str.ofString "__next__") T slot
 apply bl0 slot T PySem.F.entry_zip_next _ (PySem.F.args_zip_next_1 _)
 change wpAny _ _ (field (.ref z) 2 >>= _) _ _ _
 apply bg5
 refine bo5 hz rfl (x:=.bool false) rfl ?_
 change wpAny _ _ (field (.ref z) 3 >>= _) _ _ _
 apply bg5
 refine bo5 hz rfl (x:=.ref TI) rfl ?_
 apply bg5
 apply bw5 hti rfl
 change wpAny _ _ (Builtin.SmallTypes.ownedTupleIsFree (.ref z) >>= _) _ _ _
 apply bg5
 unfold Builtin.SmallTypes.ownedTupleIsFree
 apply bg5
 refine bo5 hz rfl (x:=.none) rfl (bg8 ?_)
 simp only [if_true]
 apply bg5
 apply bu1
 apply bg5
 refine bo5 hz rfl (x:=.ref TO) rfl ?_
 apply bg5
 refine bp0 hz (by simp) fun g1 hz1 sb1=>?_
 have k1:∀ c o,c ≠ z->s.heap.get? c=some o->g1.get? c=some o:=fun c o c1 e=>sb1.extBut c o c1 e
 apply bg5
 simp only [List.zipIdx_cons,List.zipIdx_nil,List.forIn_cons,List.forIn_nil]
 apply bg5
 apply bg5
 apply wpAny_onRaise
 change wpAny _ _ (Builtin.SmallTypes.nextOf (.ref i1) >>= _) _ _ _
 apply bg5
 refine D1.item i { s with heap:=g1 } _ _ l1 (D1.frame _ _ _ h1 fun c hc o e=>k1 c o (fun y=>ap.z1 (y ▸ hc)) e) fun x g2 tk2 px st1 sb2=>bg8 ?_
 have k2:∀ c o,c ≠ z->c ≠ i1->s.heap.get? c=some o->g2.get? c=some o:=fun c o c1 c2 e=>sb2.extBut c o c2 (k1 c o c1 e)
 have to2:IsPair g2 TO a b:=k2 _ _ ap.TOz (l9 ap ap.o1) hto
 apply bg5
 apply bw5 to2 rfl
 apply bg5
 refine wpAny_updateSeq_pair to2 fun g3 to3 sb3=>?_
 have to3:IsPair g3 TO x b:=to3
 apply bg5
 apply wpAny_letGo
 apply bg8
 apply bg5
 apply bg5
 apply wpAny_onRaise
 change wpAny _ _ (Builtin.SmallTypes.nextOf (.ref i2) >>= _) _ _ _
 apply bg5
 have k3:∀ c o,c ≠ z->c ≠ i1->c ≠ TO->s.heap.get? c=some o->g3.get? c=some o:=fun c o c1 c2 c3 e=>sb3.extBut c o c3 (k2 c o c1 c2 e)
 refine D2.item i { s with heap:=g3,toks:=tk2 } _ _ l2 (D2.frame _ _ _ h2 fun c hc o e=>k3 c o (fun y=>ap.z2 (y ▸ hc)) (fun y=>ap.n1 (y ▸ hc)) (fun y=>ap.o2 (y ▸ hc)) e) fun y g4 tk4 py st2 sb4=>bg8 ?_
 have to4:IsPair g4 TO x b:=sb4.extBut _ _ (pP ap ap.o2) to3
 apply bg5
 apply bw5 to4 rfl
 apply bg5
 refine wpAny_updateSeq_pair to4 fun g5 to5 sb5=>?_
 have to5:IsPair g5 TO x y:=to5
 apply bg5
 apply wpAny_letGo
 apply bg8
 apply bg8
 apply bg5
 apply bw5 to5 rfl
 apply bg5
 refine wpAny_newTuple ?_ (by show 2<=sizeLine; decide)
 have size:g5.objs.size=s.heap.objs.size:=by rw [sb5.1,sb4.1,sb3.1,sb2.1,sb1.1]
 have k5:∀ c o,c ≠ z->c ≠ TO->c ≠ i1->c ≠ i2->s.heap.get? c=some o->g5.get? c=some o:=fun c o c1 c2 c3 c4 e=>sb5.extBut c o c2 (sb4.extBut c o c4 (k3 c o c1 c3 c2 e))
 have z5:IsZip g5 z TI TO .ellipsis:=sb5.extBut _ _ (Ne.symm ap.TOz) (sb4.extBut _ _ (pP ap ap.z2) (sb3.extBut _ _ (Ne.symm ap.TOz) (sb2.extBut _ _ (l9 ap ap.z1) hz1)))
 change wpAny _ _ (Builtin.SmallTypes.ownedTupleHandOut (.ref z) (.ref g5.objs.size) >>= _) _ _ _
 apply bg5
 unfold Builtin.SmallTypes.ownedTupleHandOut
 apply bg5
 have z6:IsZip (g5.push { cls:=.type "tuple",data:=.seq #[x,y] }) z TI TO .ellipsis:=bg7 _ z5
 refine bp0 z6 (by simp) fun g7 z7 sb7=>?_
 have z7:IsZip g7 z TI TO (rawInt g5.objs.size):=z7
 refine bp0 z7 (by simp) fun g8 z8 sb8=>?_
 have z8:IsZip g8 z TI TO (rawInt g5.objs.size):=z8
 have zlt:z < g5.objs.size:=bh9 z5
 have up:∀ c o,c ≠ z->g5.get? c=some o->g8.get? c=some o:=fun c o c1 e=>sb8.extBut c o c1 (sb7.extBut c o c1 (bg7 _ e))
 have p8:IsPair g8 g5.objs.size x y:=sb8.extBut _ _ (bo0 zlt) (sb7.extBut _ _ (bo0 zlt) (bh8 _ rfl))
 have s8:g8.objs.size=g5.objs.size+1:=by rw [sb8.1,sb7.1,bq3]
 have f1:St1 (i+1) g8:=D1.frame _ _ _ st1 fun c hc o e=>up c o (fun y=>ap.z1 (y ▸ hc)) (sb5.extBut c o (fun y=>ap.o1 (y ▸ hc)) (sb4.extBut c o (fun y=>ap.n2 (y ▸ hc)) (sb3.extBut c o (fun y=>ap.o1 (y ▸ hc)) e)))
 have f2:St2 (i+1) g8:=D2.frame _ _ _ st2 fun c hc o e=>up c o (fun y=>ap.z2 (y ▸ hc)) (sb5.extBut c o (fun y=>ap.o2 (y ▸ hc)) e)
 have ti8:IsPair g8 TI (.ref i1) (.ref i2):=up _ _ ap.TIz (k5 _ _ ap.TIz ap.TITO (l9 ap ap.t1) (pP ap ap.t2) hti)
 rw [size] at z8 p8 s8
 apply bg8
 refine⟨_,rfl,bg8 ?_⟩
 change Q (some (.ref g5.objs.size)) _
 rw [size]
 exact q x y g8 tk4 px py ⟨z8,ti8,⟨x,y,up _ _ ap.TOz to5⟩,f1,f2⟩ p8 (fun c o c1 c2 c3 c4 e=>up c o c1 (k5 c o c1 c2 c3 c4 e)) s8
theorem fin (D1:Draws prog w A.in1 i1 fp1 n1 P1 St1) (D2:Draws prog w A.in1 i2 fp2 n2 P2 St2) (ap:Ap z TI TO i1 i2 fp1 fp2) {i:Nat} (le:i=n1 ∨ (i < n1/\i=n2)) (st:uW z TI TO i1 i2 St1 St2 .none i i s.heap) {Q:Option Value->Shared->Prop}
  (q:∀ h' tk,(∀ c o,c ≠ z->c ≠ TO->c ≠ i1->c ≠ i2->s.heap.get? c=some o->h'.get? c=some o)->Q none { s with heap:=h',toks:=tk }):wpAny (model prog w) A (pyNext (.ref z)) Q E s:=by
 obtain ⟨hz,hti,⟨a,b,hto⟩,h1,h2⟩:=st
 have T:s.TypeIs (.ref z) "zip":=⟨_,hz,rfl⟩
 have slot:=PySem.F.slot_zip_next
 unfold pyNext
 apply bg5
 apply bu6
 apply bl3 (name:=Str.ofString "__next__") T slot
 apply bl0 slot T PySem.F.entry_zip_next _ (PySem.F.args_zip_next_1 _)
 change wpAny _ _ (field (.ref z) 2 >>= _) _ _ _
 apply bg5
 refine bo5 hz rfl (x:=.bool false) rfl ?_
 change wpAny _ _ (field (.ref z) 3 >>= _) _ _ _
 apply bg5
 refine bo5 hz rfl (x:=.ref TI) rfl ?_
 apply bg5
 apply bw5 hti rfl
 change wpAny _ _ (Builtin.SmallTypes.ownedTupleIsFree (.ref z) >>= _) _ _ _
 apply bg5
 unfold Builtin.SmallTypes.ownedTupleIsFree
 apply bg5
 refine bo5 hz rfl (x:=.none) rfl (bg8 ?_)
 simp only [if_true]
 apply bg5
 apply bu1
 apply bg5
 refine bo5 hz rfl (x:=.ref TO) rfl ?_
 apply bg5
 refine bp0 hz (by simp) fun g1 hz1 sb1=>?_
 have k1:∀ c o,c ≠ z->s.heap.get? c=some o->g1.get? c=some o:=fun c o c1 e=>sb1.extBut c o c1 e
 apply bg5
 simp only [List.zipIdx_cons,List.zipIdx_nil,List.forIn_cons,List.forIn_nil]
 apply bg5
 apply bg5
 apply wpAny_onRaise
 change wpAny _ _ (Builtin.SmallTypes.nextOf (.ref i1) >>= _) _ _ _
 apply bg5
 have z1:IsZip g1 z TI TO .ellipsis:=hz1
 rcases le with rfl | ⟨lt,rfl⟩
 ·refine D1.done { s with heap:=g1 } _ _ (D1.frame _ _ _ h1 fun c hc o e=>k1 c o (fun y=>ap.z1 (y ▸ hc)) e) fun g2 e eb ex=>?_
  have z2:IsZip g2 z TI TO .ellipsis:=eb _ _ (l9 ap ap.z1) z1
  refine bp0 z2 (by simp) fun g3 z3 sb3=>?_
  obtain ⟨oe,eo,co⟩:=ex
  have ne:e ≠ z:=fun y=>by
   rw [y,z2] at eo
   have:=bj7 eo
   rw [<- this] at co; exact absurd (show Value.type "zip" = Value.type "StopIteration" from co) (by decide)
  apply bg5
  refine bw2 (T:="StopIteration") (b:=true) ⟨oe,sb3.extBut _ _ ne eo,co⟩ isSubtype_stop ?_
  exact bg8 (q g3 s.toks fun c o c1 _ c3 _ e=>sb3.extBut c o c1 (eb c o c3 (k1 c o c1 e)))
 ·refine D1.item i { s with heap:=g1 } _ _ lt (D1.frame _ _ _ h1 fun c hc o e=>k1 c o (fun y=>ap.z1 (y ▸ hc)) e) fun x g2 tk2 px st1 sb2=>bg8 ?_
  have k2:∀ c o,c ≠ z->c ≠ i1->s.heap.get? c=some o->g2.get? c=some o:=fun c o c1 c2 e=>sb2.extBut c o c2 (k1 c o c1 e)
  have to2:IsPair g2 TO a b:=k2 _ _ ap.TOz (l9 ap ap.o1) hto
  apply bg5
  apply bw5 to2 rfl
  apply bg5
  refine wpAny_updateSeq_pair to2 fun g3 to3 sb3=>?_
  apply bg5
  apply wpAny_letGo
  apply bg8
  apply bg5
  apply bg5
  apply wpAny_onRaise
  change wpAny _ _ (Builtin.SmallTypes.nextOf (.ref i2) >>= _) _ _ _
  apply bg5
  have k3:∀ c o,c ≠ z->c ≠ i1->c ≠ TO->s.heap.get? c=some o->g3.get? c=some o:=fun c o c1 c2 c3 e=>sb3.extBut c o c3 (k2 c o c1 c2 e)
  refine D2.done { s with heap:=g3,toks:=tk2 } _ _ (D2.frame _ _ _ h2 fun c hc o e=>k3 c o (fun y=>ap.z2 (y ▸ hc)) (fun y=>ap.n1 (y ▸ hc)) (fun y=>ap.o2 (y ▸ hc)) e) fun g4 e eb ex=>?_
  have z4:IsZip g4 z TI TO .ellipsis:=eb _ _ (pP ap ap.z2) (sb3.extBut _ _ (Ne.symm ap.TOz) (sb2.extBut _ _ (l9 ap ap.z1) z1))
  refine bp0 z4 (by simp) fun g5 z5 sb5=>?_
  obtain ⟨oe,eo,co⟩:=ex
  have ne:e ≠ z:=fun y=>by
   rw [y,z4] at eo
   have:=bj7 eo
   rw [<- this] at co; exact absurd (show Value.type "zip" = Value.type "StopIteration" from co) (by decide)
  apply bg5
  refine bw2 (T:="StopIteration") (b:=true) ⟨oe,sb5.extBut _ _ ne eo,co⟩ isSubtype_stop ?_
  exact bg8 (q g5 tk2 fun c o c1 c2 c3 c4 e=>sb5.extBut c o c1 (eb c o c4 (k3 c o c1 c3 c2 e)))
end
def fH (h:Heap) (t u:Addr):Heap:=
 ((((h.push { cls:=.type "tuple_iterator",data:=.fields #[.ref t,.int 0 0] }).push { cls:=.type "tuple_iterator",data:=.fields #[.ref u,.int 0 0] }).push { cls:=.type "tuple",data:=.seq #[.ref h.objs.size,.ref (h.objs.size+1)] }).push
  { cls:=.type "tuple",data:=.seq #[.none,.none] }).push { cls:=.type "zip",data:=.fields #[.none,.bool false,.bool false,.ref (h.objs.size+2),.ref (h.objs.size+3)] }
theorem av2 (t u:Addr) (xs ys:Array Value):Meets (Builtin.«zip.__new__» ⟨[.type "zip",.ref t,.ref u],[]⟩) (fun _ R s=>s.heap.IsTuple t xs/\s.heap.IsTuple u ys/\R (.ok (.ret (.ref (s.heap.objs.size+4)))) { s with heap:=fH s.heap t u }):=
 .of_wp fun prog w A R s h=>by
  obtain ⟨hp,g,d,tk,os⟩:=s
  obtain ⟨ht,hu,h⟩:=h
  have sub:=sub_zip
  have a1:Heap.IsTuple (Shared.heap ⟨hp,g,d,tk,os⟩) t xs:=ht
  have a2:Heap.IsTuple (Shared.heap ⟨hp.push { cls:=.type "tuple_iterator",data:=.fields #[.ref t,.int 0 0] },g,d,tk,os⟩) u ys:=hu.elim fun o y=>⟨o,bg7 _ y.1,y.2⟩
  wp_walk using bu0 a1,bu0 a2
  have e:∀ (o:Obj) (k:Heap),(k.push o).objs.size=k.objs.size+1:=fun o k=>bq3 ..
  refine⟨_,rfl,?_⟩
  simp only [fH,e] at h ⊢
  exact h
section
variable {prog : Program} {w : World} {A : Around} {E : Value → Shared → Prop} {s : Shared}
theorem av3 {t u:Addr}{xs ys:Array Value}{Q:Value->Shared->Prop} (ht:s.heap.IsTuple t xs) (hu:s.heap.IsTuple u ys)
  (q:∀ h',IsZip h' (s.heap.objs.size+4) (s.heap.objs.size+2) (s.heap.objs.size+3) .none->IsPair h' (s.heap.objs.size+2) (.ref s.heap.objs.size) (.ref (s.heap.objs.size+1))->
   IsPair h' (s.heap.objs.size+3) .none .none->h'.IsTupleIter s.heap.objs.size t 0->h'.IsTupleIter (s.heap.objs.size+1) u 0->(∀ c o,s.heap.get? c=some o->h'.get? c=some o)->Q (.ref (s.heap.objs.size+4)) { s with heap:=h' }) :
  wpAny (model prog w) A (call (.type "zip") [.ref t,.ref u]) Q E s:=by
 refine callType_new PySem.F.called_zip (by decide) (PySem.F.typeCall_zip_2 _ _) (PySem.F.newCall_zip_2 _ _) (fun obj=>PySem.F.args_object_init_3 obj _ _) PySem.F.entry_zip_new (av2 t u xs ys) ⟨ht,hu,?_⟩
 have e:∀ (o:Obj) (k:Heap),(k.push o).objs.size=k.objs.size+1:=fun o k=>bq3 ..
 have p0:∀ (k:Heap) (o:Obj) (m:Nat),o.isFreed=false->m=k.objs.size->(k.push o).get? m=some o:=fun k o m f z=>by rw [z]; exact bh8 _ f
 have g0:(fH s.heap t u).get? s.heap.objs.size=some { cls:=.type "tuple_iterator",data:=.fields #[.ref t,.int 0 0] }:=by
  unfold fH
  exact bg7 _ (bg7 _ (bg7 _ (bg7 _ (p0 _ _ _ rfl rfl))))
 have g1:(fH s.heap t u).get? (s.heap.objs.size+1)=some { cls:=.type "tuple_iterator",data:=.fields #[.ref u,.int 0 0] }:=by
  unfold fH
  exact bg7 _ (bg7 _ (bg7 _ (p0 _ _ _ rfl (by simp only [e]))))
 have g2:(fH s.heap t u).get? (s.heap.objs.size+2)=some { cls:=.type "tuple",data:=.seq #[.ref s.heap.objs.size,.ref (s.heap.objs.size+1)] }:=by
  unfold fH
  exact bg7 _ (bg7 _ (p0 _ _ _ rfl (by simp only [e])))
 have g3:(fH s.heap t u).get? (s.heap.objs.size+3)=some { cls:=.type "tuple",data:=.seq #[.none,.none] }:=by
  unfold fH
  exact bg7 _ (p0 _ _ _ rfl (by simp only [e]))
 have g4:(fH s.heap t u).get? (s.heap.objs.size+4)=some { cls:=.type "zip",data:=.fields #[.none,.bool false,.bool false,.ref (s.heap.objs.size+2),.ref (s.heap.objs.size+3)] }:=by
  unfold fH
  exact p0 _ _ _ rfl (by simp only [e])
 refine⟨⟨_,g4,rfl⟩,q _ g4 g2 g3 ⟨_,g0,rfl,rfl⟩ ⟨_,g1,rfl,rfl⟩ fun c o z=>?_⟩
 unfold fH
 exact bg7 _ (bg7 _ (bg7 _ (bg7 _ (bg7 _ z))))
end
end Zp
namespace L2
open PySem PySem.Spec PyProof.Rows
def uX (K:PySem.W.Frag) (a b:Addr):It:=
  ⟨fun i H=>∃ xs ys x y,aF K H a xs/\aF K H b ys/\xs[i]? = some x/\ys[i]? = some y,
   fun i H v H'=>∃ T x y,H T=none/\v = .ref T/\H'=upd H T (.tup [x,y])/\∀ xs ys,aF K H a xs->aF K H b ys->xs[i]? = some x/\ys[i]? = some y,
   fun i H=>∃ xs ys,aF K H a xs/\aF K H b ys/\(i=xs.length ∨ (i < xs.length/\i=ys.length))⟩
def Sq (t:Bool) (K:PySem.W.Frag) (H:Hp) (a:Addr) (xs:List V):Prop:=match t with
 | true=>aF K H a xs
 | false=>aI K H a xs
def fI (t:Bool) (h:Heap) (i a:Addr) (n:Nat):Prop:=match t with
 | true=>h.IsTupleIter i a n
 | false=>h.IsListIter i a n
def F1 (t:Bool) (h:Heap) (a:Addr) (xs:Array Value):Prop:=match t with
 | true=>h.IsTuple a xs
 | false=>h.IsList a xs
theorem fI.at {h h':Heap}{i a:Addr}{n:Nat}:∀ {t:Bool},fI t h i a n->(∀ o,h.get? i=some o->h'.get? i=some o)->fI t h' i a n
 | true,x,k=>Heap.IsTupleIter.at x k
 | false,x,k=>Heap.IsListIter.at x k
theorem fI.ob {h:Heap}{i a:Addr}{n:Nat}:∀ {t:Bool},fI t h i a n->∃ o,h.get? i=some o/\∀ v,o.data ≠ .cell v
 | true,⟨o,f,_,d⟩=>⟨o,f,fun v q=>by rw [d] at q; cases q⟩
 | false,⟨o,f,_,d⟩=>⟨o,f,fun v q=>by rw [d] at q; cases q⟩
theorem fI.draws {prog:Program}{w:World}{A:Around}:∀ (t:Bool) (hh:A.handled=none) (it a:Addr) (ne:a ≠ it) (items:Array Value),Draws prog w A it [it,a] items.size (fun i v=>items[i]? = some v) (fun i h=>fI t h it a i/\F1 t h a items)
 | true,hh,it,a,ne,items=>Zp.av1 hh it a ne items
 | false,hh,it,a,ne,items=>Draws.list hh it a ne items
section
variable {X : Cx} {pins : List (Addr × Obj)} {σ : St} {H : Hp} {s : Shared} {a : Addr} {xs ys : List V}
theorem Sq.get (I:a6 X pins σ H s):∀ {t:Bool},Sq t X.K H a xs->∃ us,aH xs us/\F1 t s.heap a us.toArray
 | true,h=>by obtain ⟨us,r,p,_⟩:=I.tuple h; exact⟨us,r,p⟩
 | false,h=>by obtain ⟨us,r,p,_⟩:=I.list h; exact⟨us,r,p.isList⟩
theorem Sq.inj (I:a6 X pins σ H s):∀ {t:Bool},Sq t X.K H a xs->Sq t X.K H a ys->xs=ys
 | true,h,g=>I.tuple_inj h g
 | false,h,g=>I.list_inj h g
theorem Sq.off (I:a6 X pins σ H s) (he:H a=none) (hb:X.base.get? a=none):∀ {t:Bool},Sq t X.K H a xs->False
 | true,h=>by
  rcases h with (h | ⟨_,h⟩) | ⟨o,_,_,h,_⟩
  ·rw [he] at h; cases h
  ·rw [he] at h; cases h
  ·have:=I.ok.mod.kin a o h
   rw [hb] at this; cases this
 | false,h=>by
  rcases h with (h | ⟨_,h⟩) | ⟨o,_,_,h,_⟩
  ·rw [he] at h; cases h
  ·rw [he] at h; cases h
  ·have:=I.ok.mod.kin a o h
   rw [hb] at this; cases this
end
def av4 (t1 t2:Bool) (K:PySem.W.Frag) (a b:Addr):It:=
  ⟨fun i H=>∃ xs ys x y,Sq t1 K H a xs/\Sq t2 K H b ys/\xs[i]? = some x/\ys[i]? = some y,
   fun i H v H'=>∃ T x y,H T=none/\v = .ref T/\H'=upd H T (.tup [x,y])/\∀ xs ys,Sq t1 K H a xs->Sq t2 K H b ys->xs[i]? = some x/\ys[i]? = some y,
   fun i H=>∃ xs ys,Sq t1 K H a xs/\Sq t2 K H b ys/\(i=xs.length ∨ (i < xs.length/\i=ys.length))⟩
structure uY (t1 t2:Bool) (z TI TO i1 i2 a b:Addr) (i:Nat) (h:Heap):Prop where
 zz:IsZip h z TI TO .none
 ti:IsPair h TI (.ref i1) (.ref i2)
 to_:∃ x y,IsPair h TO x y
 s1:fI t1 h i1 a i
 s2:fI t2 h i2 b i
theorem F3 (t1 t2:Bool) {P:Program}{w:World}{K:PySem.W.Frag}{elts:List Expr}{k:Nat}{pos:Pos} (a b z TI TO i1 i2:Addr) (d : [z,TI,TO,i1,i2].Nodup) :
  gN P w K (.Tuple elts k pos) (av4 t1 t2 K a b) [z,TI,TO,i1,i2] z (uY t1 t2 z TI TO i1 i2 a b):=by
 have nd:z ≠ TI/\z ≠ TO/\z ≠ i1/\z ≠ i2/\TI ≠ TO/\TI ≠ i1/\TI ≠ i2/\TO ≠ i1/\TO ≠ i2/\i1 ≠ i2:=by
  simp only [List.nodup_cons,bh5,bi8,bn7,not_or] at d
  obtain ⟨⟨a1,a2,a3,a4⟩,⟨b1,b2,b3⟩,⟨c1,c2⟩,e1,_⟩:=d
  exact⟨a1,a2,a3,a4,b1,b2,b3,c1,c2,e1⟩
 obtain ⟨n1,n2,n3,n4,n5,n6,n7,n8,n9,n10⟩:=nd
 have offBase:∀ {X:Cx}{pins:List (Addr × Obj)}{σ:St}{H:Hp}{s:Shared},a6 X pins σ H s->(∀ c ∈ [z,TI,TO,i1,i2],fD X pins H c)->∀ c ∈ [z,TI,TO,i1,i2],X.base.get? c=none:=by
  intro X pins σ H s I hf c hc
  cases q:X.base.get? c with
  | none=>rfl
  | some o=>
   rcases (hf c hc).2.2.2.1 with h | h
   ·exact absurd h (I.ok.noex c o q)
   ·exact absurd (bi5 (bh9 q) (bk9 I.ok.bsz h)) (bm1 _)
 have off:∀ {t:Bool}{X:Cx}{pins:List (Addr × Obj)}{σ:St}{H:Hp}{s:Shared}{c:Addr}{zs:List V},a6 X pins σ H s->(∀ c ∈ [z,TI,TO,i1,i2],fD X pins H c)->Sq t X.K H c zs->c ∉ [z,TI,TO,i1,i2]:=by
  intro t X pins σ H s c zs I hf hc hm
  exact Sq.off I (hf c hm).1 (offBase I hf c hm) hc
 have ap:∀ {c e:Addr},c ∉ [z,TI,TO,i1,i2]->e ∉ [z,TI,TO,i1,i2]->Zp.Ap z TI TO i1 i2 [i1,c] [i2,e]:=fun {c e} hc he=>by
  simp only [bh5,bi8,bn7,not_or] at hc he
  obtain ⟨c1,c2,c3,c4,c5⟩:=hc
  obtain ⟨e1,e2,e3,e4,e5⟩:=he
  have two:∀ {q u v:Addr},q ≠ u->q ≠ v->q ∉ [u,v]:=fun {q u v} h1 h2 hm=>by
   simp only [bh5,bi8,bn7] at hm
   exact hm.elim h1 h2
  exact⟨n1.symm,n2.symm,n5,two n3 (Ne.symm c1),two n4 (Ne.symm e1),two n8 (Ne.symm c3),two n9 (Ne.symm e3),two n6 (Ne.symm c2),two n7 (Ne.symm e2),bi0,bi0,two n10 (Ne.symm e4),two n10.symm (Ne.symm c5)⟩
 refine⟨by simp,fun i h st c hc=>?_,fun i h h' st kp=>?_,?_,?_,fun A i s Q E st q=>wpAny_pyIter_zip st.zz q⟩
 ·simp only [bh5,bi8,bn7] at hc
  obtain ⟨x,y,to⟩:=st.to_
  rcases hc with rfl | rfl | rfl | rfl | rfl
  ·exact⟨_,st.zz,fun v q=>by cases q⟩
  ·exact⟨_,st.ti,fun v q=>by cases q⟩
  ·exact⟨_,to,fun v q=>by cases q⟩
  ·exact st.s1.ob
  ·exact st.s2.ob
 ·obtain ⟨x,y,to⟩:=st.to_
  exact⟨kp z (by simp) _ st.zz,kp TI (by simp) _ st.ti,⟨x,y,kp TO (by simp) _ to⟩,st.s1.at fun o e=>kp i1 (by simp) o e,st.s2.at fun o e=>kp i2 (by simp) o e⟩
 ·
  intro X hP hw hK hc i pins s σ H E I hf st hg
  subst hP hw hK
  obtain ⟨xs,ys,x,y,ha,hb,hx,hy⟩:=hg
  obtain ⟨us,ru,pu⟩:=Sq.get I ha
  obtain ⟨vs,rv,pv'⟩:=Sq.get I hb
  obtain ⟨ux,eux,rux⟩:=ru.get hx
  obtain ⟨vy,evy,rvy⟩:=rv.get hy
  have fa:=off I hf ha
  have fb:=off I hf hb
  have hh:X.A.in1.handled=none:=I.ok.hd hc
  have l1:i < us.toArray.size:=by simpa using (bh7.mp eux).1
  have l2:i < vs.toArray.size:=by simpa using (bh7.mp evy).1
  have fa':a ≠ i1:=fun q=>fa (by rw [q]; simp)
  have fb':b ≠ i2:=fun q=>fb (by rw [q]; simp)
  have D1:=fI.draws t1 (prog:=X.prog) (w:=X.w) hh i1 a fa' us.toArray
  have D2:=fI.draws t2 (prog:=X.prog) (w:=X.w) hh i2 b fb' vs.toArray
  refine Zp.item D1 D2 (ap fa fb) l1 l2 ⟨st.zz,st.ti,st.to_,⟨st.s1,pu⟩,⟨st.s2,pv'⟩⟩ fun p q h' tk hp hq st' pr kp sz=>⟨_,rfl,?_⟩
  obtain rfl:p=ux:=by
   have:us.toArray[i]? = some ux:=by simpa using eux
   rw [this] at hp; exact (bj7 hp).symm
  obtain rfl:q=vy:=by
   have:vs.toArray[i]? = some vy:=by simpa using evy
   rw [this] at hq; exact (bj7 hq).symm
  refine wpAny_letOwnedTupleGo_zip (s:={ s with heap:=h',toks:=tk }) st'.zz fun g zz sb=>?_
  have hzl:z < s.heap.objs.size:=bh9 st.zz
  have up:∀ c o,c ≠ z->c ≠ TO->c ≠ i1->c ≠ i2->s.heap.get? c=some o->g.get? c=some o:=fun c o c1 c2 c3 c4 e=>sb.extBut c o c1 (kp c o c1 c2 c3 c4 e)
  have hT:H s.heap.objs.size=none:=I.hok.fresh (bh1 _)
  have prG:IsPair g s.heap.objs.size p q:=sb.extBut _ _ (bo0 hzl) pr
  have fpn:∀ c u,H c=some u->c ∉ [z,TI,TO,i1,i2]:=fun c u e hm=>by rw [(hf c hm).1] at e; cases e
  have upH:∀ c o u,H c=some u->s.heap.get? c=some o->g.get? c=some o:=fun c o u e z=>by
   have:=fpn c u e
   simp only [bh5,bi8,bn7,not_or] at this
   exact up c o this.1 this.2.2.1 this.2.2.2.1 this.2.2.2.2 z
  have ns:∀ m,s.heap.Ns X.env.locals m->g.Ns X.env.locals m:=fun m hm=>by
   obtain ⟨o,es,ep,e1,e2⟩:=hm
   exact⟨o,es,ep,up _ o (Ne.symm (hf z (by simp)).2.1) (Ne.symm (hf TO (by simp)).2.1) (Ne.symm (hf i1 (by simp)).2.1) (Ne.symm (hf i2 (by simp)).2.1) e1,e2⟩
  have I2:a6 X pins σ (upd H s.heap.objs.size (.tup [x,y])) { s with heap:=g,toks:=tk }:=by
   refine I.step (g':=s.gens) (d':=s.drawn) (ch:=[z,TO,i1,i2]) (fun c hc'=>?_) (fun c o _ _ hc' e _=>?_) (fun c o _ _ hc' e _=>⟨o.slots,?_⟩) (fun c o _ e n=>?_) (fun c o hc' e=>⟨o,?_⟩)
    (fun c zs e=>by rw [aM (bX e hT)]; exact e) (fun c u zs e=>by rw [aM (bX e hT)]; exact e) (fun c ps e=>⟨#[],by rw [aM (bX e hT),e]; simp⟩) ns (fun c u e=>?_) I.bare
   ·have hm:c ∈ [z,TI,TO,i1,i2]:=by
     simp only [bh5,bi8,bn7] at hc' ⊢
     rcases hc' with h | h | h | h <;> simp [h]
    exact⟨(hf c hm).2.2.2.1,(hf c hm).2.1,(hf c hm).2.2.2.2.1,(hf c hm).2.2.2.2.2⟩
   ·simp only [bh5,bi8,bn7,not_or] at hc'
    exact up c o hc'.1 hc'.2.1 hc'.2.2.1 hc'.2.2.2 e
   ·simp only [bh5,bi8,bn7,not_or] at hc'
    exact up c o hc'.1 hc'.2.1 hc'.2.2.1 hc'.2.2.2 e
   ·rw [aM (bj5 (bh9 e))]; exact n
   ·simp only [bh5,bi8,bn7,not_or] at hc'
    exact up c o hc'.1 hc'.2.1 hc'.2.2.1 hc'.2.2.2 e
   ·by_cases hcT:c=s.heap.objs.size
    ·subst hcT
     rw [b8] at e; cases e
     exact⟨by show 2<=sizeLine; decide,[p,q],.cons rux (.cons rvy .nil),⟨_,prG,rfl,_,rfl⟩⟩
    ·rw [aM hcT] at e
     refine (I.hok c u e).stay (fun c' o' hc2 q'=>?_) (fun c' q'=>by rw [aM (bX q' hT)]; exact q') fun c' zs q'=>by rw [aM (bX q' hT)]; exact q'
     rcases hc2 with rfl | hc2
     ·exact upH _ _ _ e q'
     ·exact upH _ _ _ hc2 q'
  obtain ⟨x',y',to'⟩:=st'.to_
  refine⟨.ref s.heap.objs.size,_,I2,rfl,⟨_,x,y,hT,rfl,rfl,fun xs' ys' ha' hb'=>?_⟩,⟨zz,sb.extBut _ _ n1.symm st'.ti,⟨x',y',sb.extBut _ _ n2.symm to'⟩,st'.s1.1.at fun o e=>sb.extBut _ o n3.symm e,st'.s2.1.at fun o e=>sb.extBut _ o n4.symm e⟩,fun c hc'=>?_⟩
  ·rw [Sq.inj I ha' ha,Sq.inj I hb' hb]; exact⟨hx,hy⟩
  ·obtain ⟨o,e,_⟩:∃ o,s.heap.get? c=some o/\True:=by
    simp only [bh5,bi8,bn7] at hc'
    obtain ⟨x2,y2,to2⟩:=st.to_
    obtain ⟨o1,f1,_⟩:=st.s1.ob
    obtain ⟨o2,f2,_⟩:=st.s2.ob
    rcases hc' with rfl | rfl | rfl | rfl | rfl
    ·exact⟨_,st.zz,trivial⟩
    ·exact⟨_,st.ti,trivial⟩
    ·exact⟨_,to2,trivial⟩
    ·exact⟨_,f1,trivial⟩
    ·exact⟨_,f2,trivial⟩
   rw [aM (bj5 (bh9 e))]; exact (hf c hc').1
 ·
  intro X hP hw hK hc i pins s σ H E I hf st hg
  subst hP hw hK
  obtain ⟨xs,ys,ha,hb,hi⟩:=hg
  obtain ⟨us,ru,pu⟩:=Sq.get I ha
  obtain ⟨vs,rv,pv'⟩:=Sq.get I hb
  have fa:=off I hf ha
  have fb:=off I hf hb
  have hh:X.A.in1.handled=none:=I.ok.hd hc
  have fa':a ≠ i1:=fun q=>fa (by rw [q]; simp)
  have fb':b ≠ i2:=fun q=>fb (by rw [q]; simp)
  have D1:=fI.draws t1 (prog:=X.prog) (w:=X.w) hh i1 a fa' us.toArray
  have D2:=fI.draws t2 (prog:=X.prog) (w:=X.w) hh i2 b fb' vs.toArray
  have e1:=ru.length
  have e2:=rv.length
  refine Zp.fin D1 D2 (ap fa fb) (by simp only [bh0]; omega) ⟨st.zz,st.ti,st.to_,⟨st.s1,pu⟩,⟨st.s2,pv'⟩⟩ fun g tk kp=>⟨rfl,?_⟩
  have fpn:∀ c u,H c=some u->c ∉ [z,TI,TO,i1,i2]:=fun c u e hm=>by rw [(hf c hm).1] at e; cases e
  have upH:∀ c o u,H c=some u->s.heap.get? c=some o->g.get? c=some o:=fun c o u e z=>by
   have:=fpn c u e
   simp only [bh5,bi8,bn7,not_or] at this
   exact kp c o this.1 this.2.2.1 this.2.2.2.1 this.2.2.2.2 z
  have ns:∀ m,s.heap.Ns X.env.locals m->g.Ns X.env.locals m:=fun m hm=>by
   obtain ⟨o,es,ep,e1,e2⟩:=hm
   exact⟨o,es,ep,kp _ o (Ne.symm (hf z (by simp)).2.1) (Ne.symm (hf TO (by simp)).2.1) (Ne.symm (hf i1 (by simp)).2.1) (Ne.symm (hf i2 (by simp)).2.1) e1,e2⟩
  refine I.step (g':=s.gens) (d':=s.drawn) (ch:=[z,TO,i1,i2]) (fun c hc'=>?_) (fun c o _ _ hc' e _=>?_) (fun c o _ _ hc' e _=>⟨o.slots,?_⟩) (fun c o _ e n=>n) (fun c o hc' e=>⟨o,?_⟩)
   (fun c zs e=>e) (fun c u zs e=>e) (fun c ps e=>⟨#[],by rw [e]; simp⟩) ns (fun c u e=>?_) I.bare
  ·have hm:c ∈ [z,TI,TO,i1,i2]:=by
    simp only [bh5,bi8,bn7] at hc' ⊢
    rcases hc' with h | h | h | h <;> simp [h]
   exact⟨(hf c hm).2.2.2.1,(hf c hm).2.1,(hf c hm).2.2.2.2.1,(hf c hm).2.2.2.2.2⟩
  ·simp only [bh5,bi8,bn7,not_or] at hc'
   exact kp c o hc'.1 hc'.2.1 hc'.2.2.1 hc'.2.2.2 e
  ·simp only [bh5,bi8,bn7,not_or] at hc'
   exact kp c o hc'.1 hc'.2.1 hc'.2.2.1 hc'.2.2.2 e
  ·simp only [bh5,bi8,bn7,not_or] at hc'
   exact kp c o hc'.1 hc'.2.1 hc'.2.2.1 hc'.2.2.2 e
  ·refine (I.hok c u e).stay (fun c' o' hc2 q'=>?_) (fun _ q'=>q') fun _ _ q'=>q'
   rcases hc2 with rfl | hc2
   ·exact upH _ _ _ e q'
   ·exact upH _ _ _ hc2 q'
abbrev av5:=uY true true
theorem av6 {P:Program}{w:World}{K:PySem.W.Frag}{elts:List Expr}{k:Nat}{pos:Pos} (a b z TI TO i1 i2:Addr) (d : [z,TI,TO,i1,i2].Nodup) :
  gN P w K (.Tuple elts k pos) (uX K a b) [z,TI,TO,i1,i2] z (av5 z TI TO i1 i2 a b):=F3 true true a b z TI TO i1 i2 d
section
variable {X : Cx}
theorem av7 (hc:X.calm=true):cD X (.builtin "all") (fun xs H Q=>∃ (a:Addr) (bs:List Bool),xs = [.ref a]/\aI X.K H a (bs.map V.bl)/\Q (.bl (bs.all id)) H):=by
 intro pins s σ H xs us Q I r h
 obtain ⟨a,bs,rfl,hq,q⟩:=h
 obtain ⟨u,rfl,ru⟩:=dW r
 cases ru
 obtain ⟨its,rv,p,hz⟩:=I.list hq
 have hl:=rv.length
 rw [bh2] at hl
 have hlt:a < s.heap.objs.size:=by obtain ⟨o,e,_⟩:=p.isList; exact bh9 e
 refine call_all_walk (wpAny_pyIter_list p.isList ?_)
 have hh:X.A.in1.handled=none:=I.ok.hd hc
 refine⟨s.heap.objs.size,_,_,_,_,_,fun i=>bs.getD i false,rfl,Walks.list hh s.heap.objs.size a (bj5 hlt) its.toArray,⟨⟨_,bh8 _ rfl,rfl,rfl⟩,p.isList.push _⟩,?_,fun h' tk kp=>?_⟩
 ·intro i v s' Q' E' hP hQ'
  have hi:its[i]? = some v:=by simpa using hP
  have hil:i < bs.length:=by rw [hl]; exact (bh7.mp hi).1
  obtain ⟨u,e1,e2⟩:=rv.get (i:=i) (x:=.bl bs[i]) (by simp [hil])
  rw [hi] at e1; cases e1
  cases e2
  have:bs.getD i false=bs[i]:=by rw [bh4,bg9 hil]; rfl
  have hQ2:Q' (bs.getD i false) s':=hQ'
  rw [this] at hQ2
  exact br7 hQ2
 ·have all_eq:(List.range its.toArray.size).all (fun i=>bs.getD i false)=bs.all id:=by
   rw [bh0,<- hl]
   clear q rv hz hl hq hlt p hh kp
   induction bs with
   | nil=>rfl
   | cons b r ih=>
    rw [bk2,List.range_succ_eq_map,bt2,List.all_map,bt2,<- ih]
    rfl
  rw [all_eq]
  refine⟨.bl (bs.all id),H,I.kept (t':=tk) (h':=h') fun b o e=>kp b o (fun z=>?_) (bg7 _ e),rfl,q⟩
  rw [bh6.mp z] at e
  exact absurd (bh9 e) (bm1 _)
end
end L2
namespace HT
open PySem PyProof.Rows
section
variable {prog : Program} {w : World} {A : Around} {E : Value → Shared → Prop} {s : Shared}
theorem av8 {t sl:Addr}{items:Array Value}{vl vu:Value}{lo hi:Option Int}{Q:Value->Shared->Prop} (ht:IsTup s.heap t items) (hs:s.heap.IsSliceOf sl vl vu .none) (pl:IsPart vl lo) (pu:IsPart vu hi)
  (h1:aP items.size 0 lo=0) (h2:aP items.size items.size hi=items.size) (h:Q (.ref t) s):wpAny (model prog w) A (getItem (.ref t) (.ref sl)) Q E s:=by
 obtain ⟨o,e1,e2,e3⟩:=id hs
 have T:s.TypeIs (.ref sl) "slice":=⟨o,e1,e2⟩
 unfold getItem
 try with_reducible refine bq4 ?_
 first | refine bg5 (bg8 ?_) | skip
 apply bg5
 apply wpAny_sequenceKey ht.typeIs (by decide)
 apply bg5
 apply bl3 (name:=Str.ofString "__getitem__") ht.typeIs bt8
 apply bl0 bt8 ht.typeIs entry_tuple_getitem _ (args_tuple_getitem _ _)
 change wpAny _ _ (Builtin.Tuple.tupleItemsOf (.ref t) >>= _) _ _ s
 apply bg5
 apply tupleItemsOf_ ht
 apply bg5
 apply wpAny_typeOf T
 rw [if_pos (by decide)]
 apply bg5
 apply zO hs pl pu
 rw [h1,h2]
 have yes:((((0:Nat):Int) == 0 && (1:Int) == 1 && (items.size - 0) == items.size)=true):=by simp
 change wpAny _ _ (if ((((0:Nat):Int) == 0 && (1:Int) == 1 && (items.size - 0) == items.size)=true) then _ else _) _ _ s
 rw [if_pos yes]
 apply bg5
 unfold Builtin.Tuple.tupleIsExact
 apply bg5
 apply wpAny_typeOf ht.typeIs
 apply bg8
 change wpAny _ _ (rule "tuple.getitem.whole" >>= fun _=>ret (Value.ref t)) _ _ s
 apply bg5
 apply bu1
 exact bg8 ⟨_,rfl,bg8 h⟩
end
end HT
namespace L2
open PySem PySem.Spec PyProof.Rows
section
variable {X : Cx}
def av9 (K:PySem.W.Frag):V->Option Int->Option Int->Hp->VK->Prop:=fun x lo hi H Q=>∃ a xs,x = .ref a/\aF K H a xs/\(∀ p,H p=none->Q (.ref p) (upd H p (.tup (g9 xs lo hi))))/\(g9 xs lo hi=xs->Q (.ref a) H)
theorem aw0:j5 X (av9 X.K):=by
 intro pins s σ H x v vl vu lo hi sl Q I rx hs pl pu h
 obtain ⟨a,xs,ex,hx,q1,q2⟩:=h
 by_cases hw:HT.aP xs.length 0 lo=0/\HT.aP xs.length xs.length hi=xs.length
 ·subst ex
  cases rx
  obtain ⟨its,r,ht,hz⟩:=I.tuple hx
  have hlen:its.toArray.size=xs.length:=by rw [bh0]; exact r.length.symm
  refine⟨"tuple",_,PyProof.Rows.slot_tuple_getitem.lookup,ht.typeIs,?_⟩
  refine HT.av8 ht hs pl pu (by rw [hlen]; exact hw.1) (by rw [hlen]; exact hw.2) ⟨.ref a,H,I,rfl,q2 ?_⟩
  unfold g9
  rw [hw.1,hw.2]
  simp
 ·exact ao4 pins s σ H x v vl vu lo hi sl Q I rx hs pl pu ⟨a,xs,ex,hx,hw,q1⟩
end
def uZ (K:PySem.W.Frag) (a b:Addr):It:=
  ⟨fun i H=>∃ xs ys x y,aI K H a xs/\aI K H b ys/\xs[i]? = some x/\ys[i]? = some y,
   fun i H v H'=>∃ T x y,H T=none/\v = .ref T/\H'=upd H T (.tup [x,y])/\∀ xs ys,aI K H a xs->aI K H b ys->xs[i]? = some x/\ys[i]? = some y,
   fun i H=>∃ xs ys,aI K H a xs/\aI K H b ys/\(i=xs.length ∨ (i < xs.length/\i=ys.length))⟩
abbrev aw1:=uY false false
theorem aw2 {P:Program}{w:World}{K:PySem.W.Frag}{elts:List Expr}{k:Nat}{pos:Pos} (a b z TI TO i1 i2:Addr) (d : [z,TI,TO,i1,i2].Nodup) :
  gN P w K (.Tuple elts k pos) (uZ K a b) [z,TI,TO,i1,i2] z (aw1 z TI TO i1 i2 a b):=F3 false false a b z TI TO i1 i2 d
section
variable {X : Cx} {pins : List (Addr × Obj)} {σ : St} {H : Hp} {s : Shared} {a b : Addr} {A : Around} {E : Value → Shared → Prop}
theorem aw3 {kvs more:List (a9 × V)}{Q:Value->Shared->Prop} (I:a6 X pins σ H s) (ea:H a=some (.dK kvs)) (eb:H b=some (.dK more)) (hne:a ≠ b) (hl:kvs.length+more.length<=sizeLine)
  (h:∀ s',a6 X pins σ (upd H a (.dK (jY kvs more))) s'->Q .none s'):wpAny (model X.prog X.w) A (call (.builtin "dict.update") [.ref a,.ref b]) Q E s:=by
 obtain ⟨z,hd,vs,rel,dd⟩:=u7 I.hok ea
 obtain ⟨z2,hd2,rs,rel2,dd2⟩:=u7 I.hok eb
 have l1:=rel.length
 have l2:=rel2.length
 refine call_meetsIn PySem.F.slot_dict_update dd.typeIs PySem.F.entry_dict_update (PySem.F.args_dict_update_2 _ _) (meets_dict_update (dL X.prog X.w) a b hne hd2) ⟨vs,rs,dd,dd2,by omega,fun h' dd' _ hs=>h _ ?_⟩
 have he:∃ q,h'.get? a=some q:=let ⟨q,_,_,hq,_⟩:=dd'; ⟨q,hq⟩
 refine p6 I (by rw [ea]; exact bx5) hs he (A7 ?_ hd (rel2.merge rel) dd')
 have:=B3 more kvs
 omega
end
def F4 (td ty:TE):TE:=fun σ H Q=>td σ H fun x H1=>∃ a,x = .ref a/\u9 H1 a/\ty σ H1 fun y H2=>∃ (b:Addr) (kvs more:List (a9 × V)),y = .ref b/\a ≠ b/\H2 a=some (.dK kvs)/\H2 b=some (.dK more)/\kvs.length+more.length<=sizeLine/\Q .non (upd H2 a (.dK (jY kvs more)))
section
variable {X : Cx} {o e : Expr} {apos cpos : Pos} {td ty : TE}
theorem aw4 (ho:PE X o td) (he:PE X e ty) (m:M1 X o "update" apos e cpos):PE X (.Call (.Attribute o "update" apos) [e] [] cpos) (F4 td ty):=by
 intro pins s σ H Q I h
 refine wpAny_Call_method m.base m.few m.line PySem.F.plainAttrs_dict PySem.F.slot_dict_update PySem.F.type_dict_update (aJ (ho pins s σ H _ I h) fun u s1 ⟨x,H1,I1,rx,a,ex,d,q1⟩=>?_)
 subst ex
 obtain rfl:u=Value.ref a:=rx
 obtain ⟨t1,t2,_⟩:=B4 I1 d
 refine⟨t1,t2,?_⟩
 rw [m.trees]
 refine Calls.callWith_builtin rfl (Calls.evalArgs_plain (Calls.spliced_cons (aJ (he pins s1 σ H1 _ I1 q1) fun iv s2 ⟨y,H2,I2,ry,b,kvs,more,ey,ne,ea,eb,l,q2⟩=>Calls.spliced_nil ?_)))
 subst ey
 obtain rfl:iv=Value.ref b:=ry
 exact aw3 I2 ea eb ne l fun s3 I3=>⟨.non,_,I3,rfl,q2⟩
end
section
variable {X : Cx}
theorem aw5 (xs ys:List Int):((List.range (min xs.length ys.length)).all (fun j=>xs[j]? == ys[j]?) && xs.length == ys.length)=decide (xs=ys):=by
 by_cases hl:xs.length=ys.length
 ·rw [<- hl,Nat.min_self,au6 hl]; simp
 ·have:(xs.length == ys.length)=false:=by simpa using hl
  rw [this,by0,bh3 fun e=>hl (by rw [e])]
def aw6 (K:PySem.W.Frag):R2:=fun x y H Q=>∃ (a b:Addr) (xs ys:List Int),x = .ref a/\y = .ref b/\aF K H a (xs.map V.int)/\aF K H b (ys.map V.int)/\Q (.bl (!decide (xs=ys))) H
theorem F5 (hu:X.A.units < cLine):bN X (compareOp .NotEq) (aw6 X.K):=by
 intro pins s σ H x y u v Q I rx ry h
 obtain ⟨a,b,xs,ys,rfl,rfl,h1,h2,q⟩:=h
 cases rx; cases ry
 obtain ⟨us,r1,p1,_⟩:=I.tuple h1
 obtain ⟨ws,r2,p2,_⟩:=I.tuple h2
 have l1:=r1.length
 have l2:=r2.length
 rw [bh2] at l1 l2
 refine SeqAt.RcNeAt.tuples p1 p2 hu (au7 r1 r2) _ _ _ _ ⟨.bl (!decide (xs=ys)),H,I,?_,q⟩
 rw [bh0,bh0,<- l1,<- l2,aw5]; rfl
end
end L2
namespace PP
open PySem L2
inductive PV where
 | non | bl (b:Bool) | int (i:Int) | str (x:Str) | tup (xs:List PV) | lst (xs:List PV)
 | dK (kvs:List (a9 × PV)) | dT (kvs:List (List a9 × PV)) | scr (ns:List Int) | kt (xs:List PV) | exc (c:Str)
mutual
def flat:PV->Bool
 | .tup xs=>flats xs
 | .lst _=>false
 | .dK _=>false
 | .dT _=>false
 | .non=>true
 | .bl _=>true
 | .int _=>true
 | .str _=>true
 | .scr _=>true
 | .kt xs=>flats xs
 | .exc _=>true
def flats:List PV->Bool
 | []=>true
 | x :: r=>flat x && flats r
end
def iF (K:PySem.W.Frag) (H:Hp) (a:Addr) (ns:List Int):Prop:=(∃ o,H a=some (.frz o (.lst (ns.map V.int)))) ∨
  ∃ (o:Obj) (its:Array Value) (n:Nat),K.lookup a=some o/\o.cls = .type "list"/\o.dict=none/\o.data = .seq its n/\its.size<=sizeLine/\aH (ns.map V.int) its.toList
def lA (K:PySem.W.Frag) (a:Addr) (us:List V):Prop:=∃ (o:Obj) (its:Array Value) (n:Nat),K.lookup a=some o/\o.cls = .type "tuple"/\o.data = .seq its n/\its.size<=sizeLine/\aH us its.toList
mutual
inductive aG (K:PySem.W.Frag) (M:Addr->Prop) (H:Hp):V->PV->Prop
 | non:aG K M H .non .non
 | bl (b:Bool):aG K M H (.bl b) (.bl b)
 | int (i:Int):aG K M H (.int i) (.int i)
 | str (x:Str):aG K M H (.str x) (.str x)
 | tup {a:Addr}{us:List V}{xs:List PV}:H a=some (.tup us)->Reps K M H us xs->aG K M H (.ref a) (.tup xs)
 | lst {a:Addr}{us:List V}{xs:List PV}:M a->H a=some (.lst us)->Reps K M H us xs->aG K M H (.ref a) (.lst xs)
 | dK {a:Addr}{kvs:List (a9 × V)}{ps:List (a9 × PV)}:M a->H a=some (.dK kvs)->kvs.map (·.1)=ps.map (·.1)->Reps K M H (kvs.map (·.2)) (ps.map (·.2))->aG K M H (.ref a) (.dK ps)
 | dT {a:Addr}{kvs:List (List a9 × V)}{ps:List (List a9 × PV)}:M a->H a=some (.dT kvs)->kvs.map (·.1)=ps.map (·.1)->Reps K M H (kvs.map (·.2)) (ps.map (·.2))->aG K M H (.ref a) (.dT ps)
 | scr {a:Addr}{ns:List Int}:iF K H a ns->aG K M H (.ref a) (.scr ns)
 | kt {a:Addr}{us:List V}{xs:List PV}:lA K a us->Reps K M H us xs->aG K M H (.ref a) (.kt xs)
 | exc {a C:Addr}{o:Obj}{c:Str}:H a=some (.frz o (.own a))->PySem.W.nsIn K mainGlobals c=some (some (.ref C))->o.cls = .ref C->aG K M H (.ref a) (.exc c)
inductive Reps (K:PySem.W.Frag) (M:Addr->Prop) (H:Hp):List V->List PV->Prop
 | nil:Reps K M H [] []
 | cons {v:V}{x:PV}{vs:List V}{xs:List PV}:aG K M H v x->Reps K M H vs xs->Reps K M H (v :: vs) (x :: xs)
end
structure gP (M M':Addr->Prop) (H H':Hp):Prop where
 lst:∀ a us,M a->H a=some (.lst us)->M' a/\H' a=some (.lst us)
 dK:∀ a kvs,M a->H a=some (.dK kvs)->M' a/\H' a=some (.dK kvs)
 dT:∀ a kvs,M a->H a=some (.dT kvs)->M' a/\H' a=some (.dT kvs)
 tup:∀ a us,H a=some (.tup us)->H' a=some (.tup us)
 frz:∀ a o u,H a=some (.frz o u)->H' a=some (.frz o u)
theorem iF.keep {K:PySem.W.Frag}{H H':Hp}{a:Addr}{ns:List Int} (k:∀ a o u,H a=some (.frz o u)->H' a=some (.frz o u)) (h:iF K H a ns):iF K H' a ns:=
 h.elim (fun ⟨o,e⟩=>.inl ⟨o,k _ _ _ e⟩) .inr
mutual
theorem aG.keep {K:PySem.W.Frag}{M M':Addr->Prop}{H H':Hp} (k:gP M M' H H'):∀ {v:V}{x:PV},aG K M H v x->aG K M' H' v x
 | _,_,.non=>.non
 | _,_,.bl b=>.bl b
 | _,_,.int i=>.int i
 | _,_,.str x=>.str x
 | _,_,.tup h r=>.tup (k.tup _ _ h) (Reps.keep k r)
 | _,_,.lst m h r=>.lst (k.lst _ _ m h).1 (k.lst _ _ m h).2 (Reps.keep k r)
 | _,_,.dK m h e r=>.dK (k.dK _ _ m h).1 (k.dK _ _ m h).2 e (Reps.keep k r)
 | _,_,.dT m h e r=>.dT (k.dT _ _ m h).1 (k.dT _ _ m h).2 e (Reps.keep k r)
 | _,_,.scr h=>.scr (h.keep k.frz)
 | _,_,.kt h r=>.kt h (Reps.keep k r)
 | _,_,.exc h e c=>.exc (k.frz _ _ _ h) e c
theorem Reps.keep {K:PySem.W.Frag}{M M':Addr->Prop}{H H':Hp} (k:gP M M' H H'):∀ {vs:List V}{xs:List PV},Reps K M H vs xs->Reps K M' H' vs xs
 | _,_,.nil=>.nil
 | _,_,.cons r t=>.cons (aG.keep k r) (Reps.keep k t)
end
mutual
theorem aG.flat {K:PySem.W.Frag}{M M':Addr->Prop}{H:Hp}{v:V}{x:PV} (f:flat x=true) (r:aG K M H v x):aG K M' H v x:=by
 cases r with
 | non=>exact .non
 | bl b=>exact .bl b
 | int i=>exact .int i
 | str x=>exact .str x
 | tup h r=>exact .tup h (Reps.flat (by unfold PP.flat at f; exact f) r)
 | lst m h r=>unfold PP.flat at f; cases f
 | dK m h e r=>unfold PP.flat at f; cases f
 | dT m h e r=>unfold PP.flat at f; cases f
 | scr h=>exact .scr h
 | kt h r=>exact .kt h (Reps.flat (by unfold PP.flat at f; exact f) r)
 | exc h e c=>exact .exc h e c
theorem Reps.flat {K:PySem.W.Frag}{M M':Addr->Prop}{H:Hp}{vs:List V}{xs:List PV} (f:flats xs=true) (r:Reps K M H vs xs):Reps K M' H vs xs:=by
 cases r with
 | nil=>exact .nil
 | cons r t=>
  unfold PP.flats at f
  rw [bk5] at f
  exact .cons (aG.flat f.1 r) (Reps.flat f.2 t)
end
theorem gP.same {M M':Addr->Prop}{H H':Hp} (s:aD H H') (m:∀ a,M a->M' a):gP M M' H H':=
 ⟨fun a _ h e=>⟨m a h,s _ _ e⟩,fun a _ h e=>⟨m a h,s _ _ e⟩,fun a _ h e=>⟨m a h,s _ _ e⟩,fun _ _ e=>s _ _ e,fun _ _ _ e=>s _ _ e⟩
theorem aG.same {K:PySem.W.Frag}{M M':Addr->Prop}{H H':Hp}{v:V}{x:PV} (r:aG K M H v x) (s:aD H H') (m:∀ a,M a->M' a):aG K M' H' v x:=r.keep (.same s m)
theorem Reps.same {K:PySem.W.Frag}{M M':Addr->Prop}{H H':Hp}{v:List V}{x:List PV} (r:Reps K M H v x) (s:aD H H') (m:∀ a,M a->M' a):Reps K M' H' v x:=r.keep (.same s m)
def eS:HO->Bool
 | .lst _=>true
 | .dK _=>true
 | .dT _=>true
 | _=>false
theorem gP.upd {M M':Addr->Prop}{H:Hp}{a:Addr}{o o':HO} (h:H a=some o') (mu:eS o'=true) (m:∀ b,M b->b ≠ a/\M' b):gP M M' H (upd H a o):=
 ⟨fun b _ hb e=>⟨(m b hb).2,by rw [aM (m b hb).1]; exact e⟩,fun b _ hb e=>⟨(m b hb).2,by rw [aM (m b hb).1]; exact e⟩,fun b _ hb e=>⟨(m b hb).2,by rw [aM (m b hb).1]; exact e⟩,
  fun b _ e=>by rw [aM (fun z=>by rw [z,h] at e; cases e; cases mu)]; exact e,
  fun b _ _ e=>by rw [aM (fun z=>by rw [z,h] at e; cases e; cases mu)]; exact e⟩
theorem Reps.length {K:PySem.W.Frag}{M:Addr->Prop}{H:Hp}:∀ {vs:List V}{xs:List PV},Reps K M H vs xs->vs.length=xs.length
 | _,_,.nil=>rfl
 | _,_,.cons _ t=>congrArg (· + 1) t.length
theorem Reps.get {K:PySem.W.Frag}{M:Addr->Prop}{H:Hp}:∀ {vs:List V}{xs:List PV}{i:Nat}{v:V},Reps K M H vs xs->vs[i]? = some v->∃ x,xs[i]? = some x/\aG K M H v x
 | _,_,_,_,.nil,e=>by simp at e
 | _,_,0,_,.cons r _,e=>by simp at e; subst e; exact⟨_,rfl,r⟩
 | _,_,i+1,v,.cons _ t,e=>by
  rw [bm4] at e
  obtain ⟨x,h1,h2⟩:=t.get e
  exact⟨x,by rw [bm4]; exact h1,h2⟩
theorem Reps.at {K:PySem.W.Frag}{M:Addr->Prop}{H:Hp}:∀ {vs:List V}{xs:List PV}{i:Nat}{x:PV},Reps K M H vs xs->xs[i]? = some x->∃ v,vs[i]? = some v/\aG K M H v x
 | _,_,_,_,.nil,e=>by simp at e
 | _,_,0,_,.cons r _,e=>by simp at e; subst e; exact⟨_,rfl,r⟩
 | _,_,i+1,v,.cons _ t,e=>by
  rw [bm4] at e
  obtain ⟨x,h1,h2⟩:=t.at e
  exact⟨x,by rw [bm4]; exact h1,h2⟩
theorem Reps.append {K:PySem.W.Frag}{M:Addr->Prop}{H:Hp}:∀ {vs:List V}{xs:List PV}{us:List V}{ys:List PV},Reps K M H vs xs->Reps K M H us ys->Reps K M H (vs ++ us) (xs ++ ys)
 | _,_,_,_,.nil,s=>s
 | _,_,_,_,.cons r t,s=>.cons r (t.append s)
theorem Reps.set {K:PySem.W.Frag}{M:Addr->Prop}{H:Hp}{v:V}{x:PV} (q:aG K M H v x):∀ (i:Nat) {vs:List V}{xs:List PV},Reps K M H vs xs->Reps K M H (vs.set i v) (xs.set i x)
 | _,_,_,.nil=>.nil
 | 0,_,_,.cons r t=>.cons q t
 | i+1,_,_,.cons r t=>.cons r (Reps.set q i t)
theorem Reps.take {K:PySem.W.Frag}{M:Addr->Prop}{H:Hp}:∀ (n:Nat) {vs:List V}{xs:List PV},Reps K M H vs xs->Reps K M H (vs.take n) (xs.take n)
 | 0,_,_,_=>by simp; exact .nil
 | _+1,_,_,.nil=>.nil
 | n+1,_,_,.cons r t=>.cons r (Reps.take n t)
theorem Reps.drop {K:PySem.W.Frag}{M:Addr->Prop}{H:Hp}:∀ (n:Nat) {vs:List V}{xs:List PV},Reps K M H vs xs->Reps K M H (vs.drop n) (xs.drop n)
 | 0,_,_,r=>r
 | _+1,_,_,.nil=>.nil
 | n+1,_,_,.cons _ t=>Reps.drop n t
theorem Reps.eraseIdx {K:PySem.W.Frag}{M:Addr->Prop}{H:Hp}:∀ (n:Nat) {vs:List V}{xs:List PV},Reps K M H vs xs->Reps K M H (vs.eraseIdx n) (xs.eraseIdx n)
 | _,_,_,.nil=>.nil
 | 0,_,_,.cons _ t=>t
 | n+1,_,_,.cons r t=>.cons r (Reps.eraseIdx n t)
abbrev intz (ns:List Int):List PV:=ns.map PV.int
theorem Reps.intz {K:PySem.W.Frag}{M:Addr->Prop}{H:Hp}:∀ (ns:List Int),Reps K M H (ns.map V.int) (intz ns)
 | []=>.nil
 | n :: r=>.cons (.int n) (Reps.intz r)
theorem Reps.ofInts {K:PySem.W.Frag}{M:Addr->Prop}{H:Hp}:∀ {ns:List Int}{us:List V},Reps K M H us (PP.intz ns)->us=ns.map V.int
 | [],_,.nil=>rfl
 | n :: r,_,.cons q t=>by
  cases q
  rw [Reps.ofInts t]; rfl
theorem cR:∀ (ns:List Int),flats (intz ns)=true
 | []=>rfl
 | n :: r=>by show (flat (.int n) && flats (intz r))=true; rw [cR r]; rfl
inductive Tg | rd | sh | nw | fr
inductive Slot | sh (g:Bool) (x:PV) | own (x:PV)
def Slot.val:Slot->PV
 | .sh _ x=>x
 | .own x=>x
def Slot.tag:Slot->Tg
 | .sh true _=>.nw
 | .sh false _=>.sh
 | .own _=>.rd
abbrev bE:=List (Option Slot)
def Ms (H0:Hp) (W:Addr->Prop):Bool->Addr->Prop
 | false,a=>¬ W a
 | true,a=>¬ W a/\H0 a=none
def Mg (H0:Hp) (W:Addr->Prop) (Hs:Hp):Tg->Addr->Prop
 | .rd,_=>True
 | .sh,a=>¬ W a
 | .nw,a=>¬ W a/\H0 a=none
 | .fr,a=>Hs a=none
def gC (K:PySem.W.Frag) (M:Addr->Prop) (H:Hp) (a:Addr):PV->Prop
 | .lst xs=>∃ us,H a=some (.lst us)/\Reps K M H us xs
 | .dK ps=>∃ kvs,H a=some (.dK kvs)/\kvs.map (·.1)=ps.map (·.1)/\Reps K M H (kvs.map (·.2)) (ps.map (·.2))
 | .dT ps=>∃ kvs,H a=some (.dT kvs)/\kvs.map (·.1)=ps.map (·.1)/\Reps K M H (kvs.map (·.2)) (ps.map (·.2))
 | _=>False
def F6 (K:PySem.W.Frag) (H0:Hp) (W:Addr->Prop) (H:Hp) (v:V):Slot->Prop
 | .sh g x=>aG K (Ms H0 W g) H v x
 | .own x=>∃ a,v = .ref a/\W a/\gC K (Ms H0 W true) H a x
structure PX (K:PySem.W.Frag) (H0:Hp) (W:Addr->Prop) (σ:St) (ρ:bE) (H:Hp):Prop where
 len:ρ.length=σ.length
 same:aD H0 H
 wm:∀ a,W a->H0 a=none/\∃ o,H a=some o/\eS o=true
 sl:∀ (i:Nat) (m:Slot),ρ[i]? = some (some m)->∃ v,σ[i]? = some (some v)/\F6 K H0 W H v m
 dis:∀ (i j:Nat) (x y:PV) (a:Addr),ρ[i]? = some (some (.own x))->ρ[j]? = some (some (.own y))->σ[i]? = some (some (.ref a))->σ[j]? = some (some (.ref a))->i=j
theorem gC.keep {K:PySem.W.Frag}{M M':Addr->Prop}{H H':Hp}{a:Addr} (k:gP M M' H H') (ha:∀ o,H a=some o->H' a=some o):∀ {x:PV},gC K M H a x->gC K M' H' a x
 | .lst _,⟨us,e,r⟩=>⟨us,ha _ e,r.keep k⟩
 | .dK _,⟨us,e,q,r⟩=>⟨us,ha _ e,q,r.keep k⟩
 | .dT _,⟨us,e,q,r⟩=>⟨us,ha _ e,q,r.keep k⟩
theorem gC.at {K:PySem.W.Frag}{M:Addr->Prop}{H:Hp}{a:Addr}:∀ {x:PV},gC K M H a x->∃ o,H a=some o/\eS o=true
 | .lst _,⟨us,e,r⟩=>⟨_,e,rfl⟩
 | .dK _,⟨us,e,q,r⟩=>⟨_,e,rfl⟩
 | .dT _,⟨us,e,q,r⟩=>⟨_,e,rfl⟩
theorem gC.rep {K:PySem.W.Frag}{M M':Addr->Prop}{H:Hp}{a:Addr} (m:∀ b,M b->M' b) (ha:M' a):∀ {x:PV},gC K M H a x->aG K M' H (.ref a) x
 | .lst _,⟨us,e,r⟩=>.lst ha e (r.same (aD.refl _) m)
 | .dK _,⟨us,e,q,r⟩=>.dK ha e q (r.same (aD.refl _) m)
 | .dT _,⟨us,e,q,r⟩=>.dT ha e q (r.same (aD.refl _) m)
section
variable {K : PySem.W.Frag} {H0 : Hp} {W W' : Addr → Prop} {σ : St} {ρ : bE} {H H' : Hp}
theorem PX.mono (p:PX K H0 W σ ρ H) (s:aD H H'):PX K H0 W σ ρ H':=by
 refine⟨p.len,p.same.trans s,fun a h=>⟨(p.wm a h).1,let ⟨o,e,m⟩:=(p.wm a h).2; ⟨o,s _ _ e,m⟩⟩,fun i m h=>?_,p.dis⟩
 obtain ⟨v,e,r⟩:=p.sl i m h
 refine⟨v,e,?_⟩
 cases m with
 | sh g x=>exact aG.same r s fun _ z=>z
 | own x=>
  obtain ⟨a,e1,e2,r⟩:=r
  exact⟨a,e1,e2,r.keep (.same s fun _ z=>z) fun _ z=>s _ _ z⟩
theorem PX.new (p:PX K H0 W σ ρ H) {a:Addr} (h:H a=none) : ¬ W a/\H0 a=none:=
 ⟨fun z=>(by obtain ⟨_,o,e,_⟩:=p.wm a z; rw [h] at e; cases e),p.same.free h⟩
theorem Mg.back {g:Tg}{H1:Hp} (s:aD H H1) {a:Addr} (h:Mg H0 W H1 g a):Mg H0 W H g a:=by
 cases g with
 | fr=>exact s.free h
 | rd=>exact h
 | sh=>exact h
 | nw=>exact h
end
abbrev PK:=PV->Tg->Prop
abbrev aE:=bE->PK->Prop
abbrev cA:=bE->(Bool->Prop)->Prop
abbrev cL:=bE->(List (PV × Tg)->Prop)->Prop
inductive gD (K:PySem.W.Frag) (H0:Hp) (W:Addr->Prop) (Hs H:Hp):List V->List (PV × Tg)->Prop
 | nil:gD K H0 W Hs H [] []
 | cons {v:V}{x:PV}{g:Tg}{vs:List V}{xs:List (PV × Tg)}:aG K (Mg H0 W Hs g) H v x->gD K H0 W Hs H vs xs->gD K H0 W Hs H (v :: vs) ((x,g) :: xs)
def pQ (K:PySem.W.Frag) (H0:Hp) (W:Addr->Prop) (H:Hp) (Q:PK) (Q':VK):Prop:=∀ v H' x g,aD H H'->aG K (Mg H0 W H g) H' v x->Q x g->Q' v H'
def LE (X:Cx) (t:aE):TE:=fun σ H Q'=>∃ (W:Addr->Prop) (ρ:bE) (Q:PK),PX X.K X.H₀ W σ ρ H/\t ρ Q/\pQ X.K X.H₀ W H Q Q'
def LT (X:Cx) (t:cA):TT:=fun σ H Q'=>∃ (W:Addr->Prop) (ρ:bE) (Q:Bool->Prop),PX X.K X.H₀ W σ ρ H/\t ρ Q/\∀ b H',aD H H'->Q b->Q' b H'
def LA (X:Cx) (t:cL):TA:=fun σ H Q'=>∃ (W:Addr->Prop) (ρ:bE) (Q:List (PV × Tg)->Prop),PX X.K X.H₀ W σ ρ H/\t ρ Q/\∀ vs H' xs,aD H H'->gD X.K X.H₀ W H H' vs xs->Q xs->Q' vs H'
theorem gD.same {K:PySem.W.Frag}{H0:Hp}{W:Addr->Prop}{Hs Hs' H H':Hp} (s:aD H H') (b:aD Hs' Hs):∀ {vs:List V}{xs:List (PV × Tg)},gD K H0 W Hs H vs xs->gD K H0 W Hs' H' vs xs
 | _,_,.nil=>.nil
 | _,_,.cons r t=>.cons (r.same s fun _ z=>Mg.back b z) (t.same s b)
theorem gD.any {K:PySem.W.Frag}{H0:Hp}{W:Addr->Prop}{Hs H:Hp}:∀ {vs:List V}{xs:List (PV × Tg)},gD K H0 W Hs H vs xs->Reps K (fun _=>True) H vs (xs.map (·.1))
 | _,_,.nil=>.nil
 | _,_,.cons r t=>.cons (r.same (aD.refl _) fun _ _=>trivial) t.any
def Nw:Tg->PV->Prop
 | .fr,_=>True
 | .nw,_=>True
 | _,x=>flat x=true
section
variable {K : PySem.W.Frag} {H0 Hs H : Hp} {W : Addr → Prop} {σ : St} {ρ : bE}
theorem Nw.rep {g:Tg}{x:PV}{v:V} (px:PX K H0 W σ ρ Hs) (n:Nw g x) (r:aG K (Mg H0 W Hs g) H v x):aG K (Ms H0 W true) H v x:=by
 cases g with
 | fr=>exact r.same (aD.refl _) fun a z=>px.new z
 | nw=>exact r.same (aD.refl _) fun a z=>z
 | sh=>exact r.flat n
 | rd=>exact r.flat n
theorem F7 {v:V}{m:Slot} (r:F6 K H0 W H v m):aG K (Mg H0 W Hs m.tag) H v m.val:=by
 cases m with
 | sh g x=>
  cases g with
  | true=>exact aG.same r (aD.refl _) fun _ z=>z
  | false=>exact aG.same r (aD.refl _) fun _ z=>z
 | own x=>
  obtain ⟨a,rfl,_,r⟩:=r
  exact r.rep (fun _ _=>trivial) trivial
end
section
variable {X : Cx} {σ : St} {H : Hp} {Q' : VK} {ta tb : aE}
def a5 (i:Nat):aE:=fun ρ Q=>∃ m,ρ[i]? = some (some m)/\Q m.val m.tag
def qC (x:PV):aE:=fun _ Q=>Q x .fr
theorem aw7 {i:Nat} (h:LE X (a5 i) σ H Q'):hZ i σ H Q':=by
 obtain ⟨W,ρ,Q,px,⟨m,e,q⟩,k⟩:=h
 obtain ⟨v,ev,r⟩:=px.sl i m e
 exact⟨v,ev,k v H _ _ (aD.refl _) (F7 r) q⟩
theorem nG {x:PV}{v:V} (hr:∀ M,aG X.K M H v x) (h:LE X (qC x) σ H Q'):tC v σ H Q':=by
 obtain ⟨W,ρ,Q,px,q,k⟩:=h
 exact k v H _ _ (aD.refl _) (hr _) q
def dC (X:Cx) (R:PV->Tg->PV->Tg->PK->Prop) (r:R2):Prop:=∀ (W:Addr->Prop) (Hs H:Hp) (u v:V) (x y:PV) (g g':Tg) (Q:PK) (Q':VK),aD Hs H->
 (∀ a,Hs a=none->¬ W a/\X.H₀ a=none)->aG X.K (Mg X.H₀ W Hs g) H u x->aG X.K (Mg X.H₀ W Hs g') H v y->R x g y g' Q->(∀ w H' z gz,aD H H'->aG X.K (Mg X.H₀ W Hs gz) H' w z->Q z gz->Q' w H')->r u v H Q'
def q2 (R:PV->Tg->PV->Tg->PK->Prop) (ta tb:aE):aE:=fun ρ Q=>ta ρ fun x g=>tb ρ fun y g'=>R x g y g' Q
theorem pR {R:PV->Tg->PV->Tg->PK->Prop}{r:R2} (c:dC X R r) (h:LE X (q2 R ta tb) σ H Q'):mR r (LE X ta) (LE X tb) σ H Q':=by
 obtain ⟨W,ρ,Q,px,q,k⟩:=h
 refine⟨W,ρ,_,px,q,fun u H1 x g s1 r1 q1=>⟨W,ρ,_,px.mono s1,q1,fun v H2 y g' s2 r2 q2=>?_⟩⟩
 exact c W H H2 u v x y g g' Q Q' (s1.trans s2) (fun a z=>px.new z) (r1.same s2 fun _ z=>z) (r2.same (aD.refl _) fun _ z=>Mg.back s1 z) q2 fun w H' z gz s3 r3 q3=>k w H' z gz ((s1.trans s2).trans s3) r3 q3
def RI (C:Int->Int->Prop) (f:Int->Int->PV):PV->Tg->PV->Tg->PK->Prop:=fun x _ y _ Q=>∃ i j,x = .int i/\y = .int j/\C i j/\Q (f i j) .fr
def dN (f:Int->Int->PV):PV->Tg->PV->Tg->PK->Prop:=fun x _ y _ Q=>∃ i j,x = .int i/\y = .int j/\Q (f i j) .fr
theorem nH {C:Int->Int->Prop}{f:Int->Int->Int}:dC X (RI C fun i j=>.int (f i j)) (rI C fun i j=>.int (f i j)):=by
 rintro W Hs H u v x y g g' Q Q' s n r1 r2 ⟨i,j,rfl,rfl,c,q⟩ k
 cases r1; cases r2
 exact⟨i,j,rfl,rfl,c,k _ _ _ _ (aD.refl _) (.int _) q⟩
theorem F8 {f:Int->Int->Int}:dC X (dN fun i j=>.int (f i j)) (gO fun i j=>.int (f i j)):=by
 rintro W Hs H u v x y g g' Q Q' s n r1 r2 ⟨i,j,rfl,rfl,q⟩ k
 cases r1; cases r2
 exact⟨i,j,rfl,rfl,k _ _ _ _ (aD.refl _) (.int _) q⟩
theorem k7 {f:Int->Int->Bool}:dC X (dN fun i j=>.bl (f i j)) (gO fun i j=>.bl (f i j)):=by
 rintro W Hs H u v x y g g' Q Q' s n r1 r2 ⟨i,j,rfl,rfl,q⟩ k
 cases r1; cases r2
 exact⟨i,j,rfl,rfl,k _ _ _ _ (aD.refl _) (.bl _) q⟩
def k8 (neg:Bool):PV->Tg->PV->Tg->PK->Prop:=fun x _ y _ Q=>(∃ i j,x = .int i/\y = .int j/\Q (.bl (if neg=true then !decide (i=j) else decide (i=j))) .fr) ∨ (∃ i j,x = .bl i/\y = .bl j/\Q (.bl (if neg=true then !decide (i=j) else decide (i=j))) .fr)
theorem F9 (i j:Int):decide (V.int i=V.int j)=decide (i=j):=by
 rw [br0,bj6,bj6]; exact⟨fun z=>V.int.inj z,fun z=>congrArg V.int z⟩
theorem G0 (i j:Bool):decide (V.bl i=V.bl j)=decide (i=j):=by
 rw [br0,bj6,bj6]; exact⟨fun z=>V.bl.inj z,fun z=>congrArg V.bl z⟩
theorem G1:dC X (k8 false) yT:=by
 rintro W Hs H u v x y g g' Q Q' s n r1 r2 (⟨i,j,rfl,rfl,q⟩ | ⟨i,j,rfl,rfl,q⟩) k
 ·cases r1; cases r2
  exact⟨rfl,by rw [F9]; exact k _ _ _ _ (aD.refl _) (.bl _) q⟩
 ·cases r1; cases r2
  exact⟨rfl,by rw [G0]; exact k _ _ _ _ (aD.refl _) (.bl _) q⟩
theorem aw8:dC X (k8 true) oT:=by
 rintro W Hs H u v x y g g' Q Q' s n r1 r2 (⟨i,j,rfl,rfl,q⟩ | ⟨i,j,rfl,rfl,q⟩) k
 ·cases r1; cases r2
  exact⟨rfl,by rw [F9]; exact k _ _ _ _ (aD.refl _) (.bl _) q⟩
 ·cases r1; cases r2
  exact⟨rfl,by rw [G0]; exact k _ _ _ _ (aD.refl _) (.bl _) q⟩
def aV (t:aE):cA:=fun ρ Q=>t ρ fun x _=>∃ b,x = .bl b/\Q b
theorem v3 {t:aE}{Q':Bool->Hp->Prop} (h:LT X (aV t) σ H Q'):LE X t σ H fun x H'=>∃ k,x = .bl k/\Q' k H':=by
 obtain ⟨W,ρ,Q,px,q,k⟩:=h
 refine⟨W,ρ,_,px,q,?_⟩
 rintro v H1 x g s r ⟨b,rfl,q⟩
 cases r
 exact⟨b,rfl,k _ _ s q⟩
def k9 (t u:cA):cA:=fun ρ Q=>t ρ fun c=>if c=true then u ρ Q else Q false
def jA (t u:cA):cA:=fun ρ Q=>t ρ fun c=>if c=true then Q true else u ρ Q
def jB (t:cA):cA:=fun ρ Q=>t ρ fun c=>Q (!c)
variable {t u : cA} {Qb : Bool → Hp → Prop}
theorem aw9 (h:LT X (k9 t u) σ H Qb):y6 (LT X t) (LT X u) σ H Qb:=by
 obtain ⟨W,ρ,Q,px,q,k⟩:=h
 refine⟨W,ρ,_,px,q,fun b H1 s1 q1=>?_⟩
 cases b with
 | true=>exact bB ⟨W,ρ,Q,px.mono s1,by simpa using q1,fun b H2 s2 q2=>k _ _ (s1.trans s2) q2⟩
 | false=>exact aS (k _ _ s1 (by simpa using q1))
theorem ax0 (h:LT X (jA t u) σ H Qb):y7 (LT X t) (LT X u) σ H Qb:=by
 obtain ⟨W,ρ,Q,px,q,k⟩:=h
 refine⟨W,ρ,_,px,q,fun b H1 s1 q1=>?_⟩
 cases b with
 | false=>exact aS ⟨W,ρ,Q,px.mono s1,by simpa using q1,fun b H2 s2 q2=>k _ _ (s1.trans s2) q2⟩
 | true=>exact bB (k _ _ s1 (by simpa using q1))
theorem ax1 (h:LT X (jB t) σ H Qb):y9 (LT X t) σ H Qb:=by
 obtain ⟨W,ρ,Q,px,q,k⟩:=h
 exact⟨W,ρ,_,px,q,fun b H1 s1 q1=>k _ _ s1 q1⟩
def kA (ta tb:aE):aE:=fun ρ Q=>ta ρ fun x _=>∃ c,x = .bl c/\if c=true then tb ρ Q else Q (.bl false) .fr
def nI (ta tb:aE):aE:=fun ρ Q=>ta ρ fun x _=>∃ c,x = .bl c/\if c=true then Q (.bl true) .fr else tb ρ Q
def v4 (ta:aE):aE:=fun ρ Q=>ta ρ fun x _=>∃ c,x = .bl c/\Q (.bl (!c)) .fr
theorem pQ.back {K:PySem.W.Frag}{H0:Hp}{W:Addr->Prop}{H H1:Hp}{Q:PK} (k:pQ K H0 W H Q Q') (s:aD H H1):pQ K H0 W H1 Q Q':=fun v H' x g s' r q=>k v H' x g (s.trans s') (r.same (aD.refl _) fun _ z=>Mg.back s z) q
theorem ax2 (h:LE X (kA ta tb) σ H Q'):yA (LE X ta) (LE X tb) σ H Q':=by
 obtain ⟨W,ρ,Q,px,q,k⟩:=h
 refine⟨W,ρ,_,px,q,?_⟩
 rintro v H1 x g s1 r ⟨c,rfl,q⟩
 cases r
 refine⟨c,rfl,?_⟩
 cases c with
 | true=>exact bB ⟨W,ρ,Q,px.mono s1,by simpa using q,k.back s1⟩
 | false=>exact aS (k _ _ _ _ s1 (.bl _) (by simpa using q))
theorem ax3 (h:LE X (nI ta tb) σ H Q'):yB (LE X ta) (LE X tb) σ H Q':=by
 obtain ⟨W,ρ,Q,px,q,k⟩:=h
 refine⟨W,ρ,_,px,q,?_⟩
 rintro v H1 x g s1 r ⟨c,rfl,q⟩
 cases r
 refine⟨c,rfl,?_⟩
 cases c with
 | false=>exact aS ⟨W,ρ,Q,px.mono s1,by simpa using q,k.back s1⟩
 | true=>exact bB (k _ _ _ _ s1 (.bl _) (by simpa using q))
theorem ax4 (h:LE X (v4 ta) σ H Q'):yC (LE X ta) σ H Q':=by
 obtain ⟨W,ρ,Q,px,q,k⟩:=h
 refine⟨W,ρ,_,px,q,?_⟩
 rintro v H1 x g s1 r ⟨c,rfl,q⟩
 cases r
 exact⟨c,rfl,k _ _ _ _ s1 (.bl _) q⟩
def aA:cL:=fun _ Q=>Q []
def a7 (te:aE) (tr:cL):cL:=fun ρ Q=>te ρ fun x g=>tr ρ fun xs=>Q ((x,g) :: xs)
variable {Qa : List V → Hp → Prop} {tr : cL}
theorem ax5 (h:LA X aA σ H Qa):jW σ H Qa:=by
 obtain ⟨W,ρ,Q,px,q,k⟩:=h
 exact k _ _ _ (aD.refl _) .nil q
theorem ax6 (h:LA X (a7 ta tr) σ H Qa):i6 (LE X ta) (LA X tr) σ H Qa:=by
 obtain ⟨W,ρ,Q,px,q,k⟩:=h
 refine⟨W,ρ,_,px,q,fun v H1 x g s1 r1 q1=>⟨W,ρ,_,px.mono s1,q1,fun vs H2 xs s2 r2 q2=>?_⟩⟩
 exact k _ _ _ (s1.trans s2) (.cons (r1.same s2 fun _ z=>z) (r2.same (aD.refl _) s1)) q2
def gQ (t:cL):aE:=fun ρ Q=>t ρ fun xs=>xs.length<=1000/\flats (xs.map (·.1))=true/\Q (.tup (xs.map (·.1))) .fr
def iG (t:cL):aE:=fun ρ Q=>t ρ fun xs=>xs.length<=1000/\flats (xs.map (·.1))=true/\Q (.lst (xs.map (·.1))) .fr
theorem gD.length {K:PySem.W.Frag}{H0:Hp}{W:Addr->Prop}{Hs H:Hp}:∀ {vs:List V}{xs:List (PV × Tg)},gD K H0 W Hs H vs xs->vs.length=xs.length
 | _,_,.nil=>rfl
 | _,_,.cons _ t=>congrArg (· + 1) t.length
theorem v5 {n:Nat} (h:n<=1000):n<=sizeLine:=bn9 (pB h)
theorem ax7 (h:LE X (gQ tr) σ H Q'):zD (LA X tr) σ H Q':=by
 obtain ⟨W,ρ,Q,px,q,k⟩:=h
 refine⟨W,ρ,_,px,q,?_⟩
 rintro vs H1 xs s1 r ⟨hl,n,q⟩
 refine⟨by rw [r.length]; exact v5 hl,fun p hp=>k _ _ _ .fr (s1.trans (aZ hp _)) (.tup b8 ?_) q⟩
 exact (r.any.flat n).same (aZ hp _) fun _ z=>z
theorem ax8 (h:LE X (iG tr) σ H Q'):zE (LA X tr) σ H Q':=by
 obtain ⟨W,ρ,Q,px,q,k⟩:=h
 refine⟨W,ρ,_,px,q,?_⟩
 rintro vs H1 xs s1 r ⟨hl,n,q⟩
 refine⟨by rw [r.length]; exact v5 hl,fun p hp=>k _ _ _ .fr (s1.trans (aZ hp _)) (.lst (s1.free hp) b8 ?_) q⟩
 exact (r.any.flat n).same (aZ hp _) fun _ z=>z
def dO (X:Cx) (R:List PV->(PV->Prop)->Prop) (r:List V->Hp->VK->Prop):Prop:=∀ (H:Hp) (vs:List V) (xs:List PV) (Q:PV->Prop) (Q':VK),Reps X.K (fun _=>True) H vs xs->R xs Q->
 (∀ w H' z,aD H H'->aG X.K (fun a=>H a=none) H' w z->Q z->Q' w H')->r vs H Q'
def aC (R:List PV->(PV->Prop)->Prop) (t:cL):aE:=fun ρ Q=>t ρ fun xs=>R (xs.map (·.1)) fun z=>Q z .fr
theorem G2 {R:List PV->(PV->Prop)->Prop}{r:List V->Hp->VK->Prop} (c:dO X R r) (h:LE X (aC R tr) σ H Q'):tQ r (LA X tr) σ H Q':=by
 obtain ⟨W,ρ,Q,px,q,k⟩:=h
 refine⟨W,ρ,_,px,q,fun vs H1 xs s1 r1 q1=>c H1 vs _ _ Q' r1.any q1 fun w H' z s2 r2 q2=>k w H' z .fr (s1.trans s2) (r2.same (aD.refl _) fun _ z=>s1.free z) q2⟩
end
structure nJ where
 nx:bE->Prop
 rt:PV->Prop
 bk:bE->Prop:=fun _=>False
 ct:bE->Prop:=fun _=>False
abbrev aK:=nJ->bE->Prop
def Ev (W:Addr->Prop) (H:Hp) (W':Addr->Prop) (H':Hp):Prop:=∀ b o,H b=some o->¬ W b->H' b=some o/\¬ W' b
theorem Ev.trans {W W1 W2:Addr->Prop}{H H1 H2:Hp} (a:Ev W H W1 H1) (b:Ev W1 H1 W2 H2):Ev W H W2 H2:=fun c o h n=>let ⟨h1,n1⟩:=a c o h n; b c o h1 n1
theorem Ev.same {W:Addr->Prop}{H H':Hp} (s:aD H H'):Ev W H W H':=fun c o h n=>⟨s _ _ h,n⟩
theorem Ev.refl (W:Addr->Prop) (H:Hp):Ev W H W H:=Ev.same (aD.refl _)
structure pS (X:Cx) (W:Addr->Prop) (H:Hp) (D':nJ) (D:cN):Prop where
 nx:∀ W' σ' H' ρ',Ev W H W' H'->PX X.K X.H₀ W' σ' ρ' H'->D'.nx ρ'->D.nx σ' H'
 rt:∀ v H' x,aD X.H₀ H'->aG X.K (fun a=>X.H₀ a=none) H' v x->D'.rt x->D.rt v H'
 bk:∀ W' σ' H' ρ',Ev W H W' H'->PX X.K X.H₀ W' σ' ρ' H'->D'.bk ρ'->D.bk σ' H'
 ct:∀ W' σ' H' ρ',Ev W H W' H'->PX X.K X.H₀ W' σ' ρ' H'->D'.ct ρ'->D.ct σ' H'
theorem pS.step {X:Cx}{W W1:Addr->Prop}{H H1:Hp}{D':nJ}{D:cN} (k:pS X W H D' D) (e:Ev W H W1 H1):pS X W1 H1 D' D:=
 ⟨fun W' σ' H' ρ' e'=>k.nx W' σ' H' ρ' (e.trans e'),k.rt,fun W' σ' H' ρ' e'=>k.bk W' σ' H' ρ' (e.trans e'),fun W' σ' H' ρ' e'=>k.ct W' σ' H' ρ' (e.trans e')⟩
def LS (X:Cx) (t:aK):TS:=fun D σ H=>∃ (W:Addr->Prop) (ρ:bE) (D':nJ),PX X.K X.H₀ W σ ρ H/\t D' ρ/\pS X W H D' D
theorem gR {α:Type}{l:List α}{i j:Nat}{a b:α} (h:(l.set i a)[j]? = some b):(j=i/\i < l.length/\b=a) ∨ (j ≠ i/\l[j]? = some b):=by
 by_cases e:j=i
 ·subst e
  have hl:j < (l.set j a).length:=(bh7.mp h).1
  rw [bs4] at hl
  rw [br1 hl] at h
  exact .inl ⟨rfl,hl,(bj7 h).symm⟩
 ·rw [bl8 (Ne.symm e)] at h
  exact .inr ⟨e,h⟩
section
variable {K : PySem.W.Frag} {H0 : Hp} {W W' : Addr → Prop} {σ : St} {ρ : bE} {H H' Hs : Hp}
theorem PX.setSh {i:Nat}{v:V}{g:Bool}{x:PV} (p:PX K H0 W σ ρ H) (r:aG K (Ms H0 W g) H v x):PX K H0 W (σ.set i (some v)) (ρ.set i (some (.sh g x))) H:=by
 refine⟨by rw [bs4,bs4]; exact p.len,p.same,p.wm,fun j m h=>?_,fun j k y z a h1 h2 h3 h4=>?_⟩
 ·rcases gR h with ⟨rfl,hl,e⟩ | ⟨hne,h⟩
  ·cases e
   rw [p.len] at hl
   exact⟨v,br1 hl,r⟩
  ·obtain ⟨u,e,q⟩:=p.sl j m h
   exact⟨u,by rw [bl8 (Ne.symm hne)]; exact e,q⟩
 ·rcases gR h1 with ⟨_,_,e⟩ | ⟨n1,h1⟩
  ·cases e
  ·rcases gR h2 with ⟨_,_,e⟩ | ⟨n2,h2⟩
   ·cases e
   ·rw [bl8 (Ne.symm n1)] at h3
    rw [bl8 (Ne.symm n2)] at h4
    exact p.dis j k y z a h1 h2 h3 h4
def lB (W:Addr->Prop) (a:Addr):Addr->Prop:=fun b=>W b ∨ b=a
theorem v6 {g:Bool}{a b:Addr} (n:b ≠ a) (h:Ms H0 W g b):Ms H0 (lB W a) g b:=by
 cases g with
 | true=>exact⟨fun z=>z.elim h.1 n,h.2⟩
 | false=>exact fun z=>z.elim h n
theorem PX.setOwn {i:Nat}{a:Addr}{x:PV} (p:PX K H0 W σ ρ Hs) (s:aD Hs H) (ha:Hs a=none) (r:gC K (Ms H0 (lB W a) true) H a x):PX K H0 (lB W a) (σ.set i (some (.ref a))) (ρ.set i (some (.own x))) H:=by
 have old:∀ b o,Hs b=some o->b ≠ a:=fun b o e z=>by rw [z,ha] at e; cases e
 have kp:∀ g,gP (Ms H0 W g) (Ms H0 (lB W a) g) Hs H:=fun g=>⟨fun b _ m e=>⟨v6 (old _ _ e) m,s _ _ e⟩,fun b _ m e=>⟨v6 (old _ _ e) m,s _ _ e⟩,fun b _ m e=>⟨v6 (old _ _ e) m,s _ _ e⟩,fun _ _ e=>s _ _ e,fun _ _ _ e=>s _ _ e⟩
 have wa : ¬ W a:=(p.new ha).1
 refine⟨by rw [bs4,bs4]; exact p.len,p.same.trans s,fun b z=>?_,fun j m h=>?_,fun j k y z b h1 h2 h3 h4=>?_⟩
 ·rcases z with z | rfl
  ·obtain ⟨h1,o,h2,h3⟩:=p.wm b z
   exact⟨h1,o,s _ _ h2,h3⟩
  ·exact⟨(p.new ha).2,r.at⟩
 ·rcases gR h with ⟨rfl,hl,e⟩ | ⟨hne,h⟩
  ·cases e
   rw [p.len] at hl
   exact⟨_,br1 hl,a,rfl,.inr rfl,r⟩
  ·obtain ⟨u,e,q⟩:=p.sl j m h
   refine⟨u,by rw [bl8 (Ne.symm hne)]; exact e,?_⟩
   cases m with
   | sh g y=>exact aG.keep (kp g) q
   | own y=>
    obtain ⟨b,e1,e2,q⟩:=q
    exact⟨b,e1,.inl e2,q.keep (kp true) fun o z=>s _ _ z⟩
 ·have ne:∀ {j:Nat}{y:PV},ρ[j]? = some (some (.own y))->σ[j]? ≠ some (some (.ref a)):=fun {j y} h1 h2=>by
   obtain ⟨u,e,c,e1,e2,_⟩:=p.sl j _ h1
   rw [h2] at e
   cases e
   cases e1
   exact wa e2
  rcases gR h1 with ⟨e1,l1,_⟩ | ⟨n1,h1⟩
  ·rcases gR h2 with ⟨e2,_,_⟩ | ⟨n2,h2⟩
   ·rw [e1,e2]
   ·rw [e1,br1 (by rw [<- p.len]; exact l1)] at h3
    rw [bl8 (Ne.symm n2)] at h4
    cases h3
    exact absurd h4 (ne h2)
  ·rw [bl8 (Ne.symm n1)] at h3
   rcases gR h2 with ⟨e2,l2,_⟩ | ⟨n2,h2⟩
   ·rw [e2,br1 (by rw [<- p.len]; exact l2)] at h4
    cases h4
    exact absurd h3 (ne h1)
   ·rw [bl8 (Ne.symm n2)] at h4
    exact p.dis j k y z b h1 h2 h3 h4
theorem Ev.own {a:Addr} (s:aD Hs H) (ha:Hs a=none):Ev W Hs (lB W a) H:=fun b o e n=>⟨s _ _ e,fun z=>z.elim n fun z=>by rw [z,ha] at e; cases e⟩
theorem lC {g:Bool}{a b:Addr} (wa:W a) (h:Ms H0 W g b):b ≠ a:=by
 cases g with
 | true=>exact fun z=>h.1 (by rw [z]; exact wa)
 | false=>exact fun z=>h (by rw [z]; exact wa)
theorem PX.updOwn {i:Nat}{a:Addr}{x y:PV}{o:HO} (p:PX K H0 W σ ρ H) (hi:ρ[i]? = some (some (.own x))) (ha:σ[i]? = some (some (.ref a))) (wa:W a) (mu:eS o=true) (r:gC K (Ms H0 W true) (upd H a o) a y) :
  PX K H0 W σ (ρ.set i (some (.own y))) (upd H a o):=by
 obtain ⟨w0,o',e',mu'⟩:=p.wm a wa
 have kp:∀ g,gP (Ms H0 W g) (Ms H0 W g) H (upd H a o):=fun g=>.upd e' mu' fun b m=>⟨lC wa m,m⟩
 refine⟨by rw [bs4]; exact p.len,fun b u e=>by rw [aM (fun z=>by rw [z,w0] at e; cases e)]; exact p.same _ _ e,fun b z=>?_,fun j m h=>?_,fun j k y' z b h1 h2 h3 h4=>?_⟩
 ·by_cases e:b=a
  ·subst e; exact⟨w0,o,b8,mu⟩
  ·obtain ⟨h1,o2,h2,h3⟩:=p.wm b z
   exact⟨h1,o2,by rw [aM e]; exact h2,h3⟩
 ·rcases gR h with ⟨rfl,hl,e⟩ | ⟨hne,h⟩
  ·cases e
   exact⟨_,ha,a,rfl,wa,r⟩
  ·obtain ⟨u,e,q⟩:=p.sl j m h
   refine⟨u,e,?_⟩
   cases m with
   | sh g y=>exact aG.keep (kp g) q
   | own y=>
    obtain ⟨b,e1,e2,q⟩:=q
    have hb:b ≠ a:=fun z=>by
     subst e1
     rw [z] at e
     exact hne (p.dis j i _ _ a h hi e ha)
    exact⟨b,e1,e2,q.keep (kp true) fun o z=>by rw [aM hb]; exact z⟩
 ·have g1:∃ y,ρ[j]? = some (some (.own y)):=by
   rcases gR h1 with ⟨e,_,_⟩ | ⟨_,h⟩
   ·exact⟨x,by rw [e]; exact hi⟩
   ·exact⟨_,h⟩
  have g2:∃ y,ρ[k]? = some (some (.own y)):=by
   rcases gR h2 with ⟨e,_,_⟩ | ⟨_,h⟩
   ·exact⟨x,by rw [e]; exact hi⟩
   ·exact⟨_,h⟩
  obtain ⟨y1,g1⟩:=g1
  obtain ⟨y2,g2⟩:=g2
  exact p.dis j k y1 y2 b g1 g2 h3 h4
theorem Ev.upd {a:Addr}{o:HO} (wa:W a):Ev W H W (upd H a o):=fun b u e n=>⟨by rw [aM (fun z=>n (by rw [z]; exact wa))]; exact e,n⟩
end
section
variable {X : Cx} {σ : St} {H : Hp} {D : cN} {te : aE} {t u : aK}
def cO:aK:=fun D ρ=>D.nx ρ
def aR (t u:aK):aK:=fun D ρ=>t { D with nx:=u D } ρ
theorem ax9 (h:LS X cO D σ H):yD D σ H:=by
 obtain ⟨W,ρ,D',px,q,k⟩:=h
 exact k.nx W σ H ρ (Ev.refl _ _) px q
theorem ay0 (h:LS X (aR t u) D σ H):yE (LS X t) (LS X u) D σ H:=by
 obtain ⟨W,ρ,D',px,q,k⟩:=h
 exact⟨W,ρ,_,px,q,fun W' σ' H' ρ' e px' q'=>⟨W',ρ',D',px',q',k.step e⟩,k.rt,k.bk,k.ct⟩
def G3:Tg->PV->Bool
 | .fr,_=>true
 | .nw,_=>true
 | _,x=>flat x
def G4:Tg->PV->Prop
 | .rd,x=>flat x=true
 | _,_=>True
theorem ay1 {K:PySem.W.Frag}{H0 Hs H:Hp}{W:Addr->Prop}{σ:St}{ρ:bE}{g:Tg}{x:PV}{v:V} (px:PX K H0 W σ ρ Hs) (n:G4 g x) (r:aG K (Mg H0 W Hs g) H v x):aG K (Ms H0 W (G3 g x)) H v x:=by
 cases g with
 | fr=>exact Nw.rep (g:=.fr) px trivial r
 | nw=>exact Nw.rep (g:=.nw) px trivial r
 | sh=>
  show aG K (Ms H0 W (flat x)) H v x
  cases e:flat x with
  | true=>exact r.flat e
  | false=>exact r.same (aD.refl _) fun _ z=>z
 | rd=>exact r.flat n
def bM (i:Nat) (te:aE):aK:=fun D ρ=>te ρ fun x g=>G4 g x/\D.nx (ρ.set i (some (.sh (G3 g x) x)))
theorem v7 {i:Nat} (h:LS X (bM i te) D σ H):mO (LE X te) (dA i) D σ H:=by
 obtain ⟨W,ρ,D',px,q,k⟩:=h
 refine⟨W,ρ,_,px,q,?_⟩
 rintro v H1 x g s r ⟨n,q⟩
 exact k.nx W _ H1 _ (Ev.same s) ((px.mono s).setSh (ay1 px n r)) q
def G5:PV->Bool
 | .lst xs=>flats xs
 | .dK ps=>flats (ps.map (·.2))
 | .dT ps=>flats (ps.map (·.2))
 | _=>false
theorem ay2 {K:PySem.W.Frag}{M:Addr->Prop}{H:Hp}{v:V}{x:PV} (r:aG K M H v x) (o:G5 x=true):∃ a,v = .ref a/\M a/\∀ M',gC K M' H a x:=by
 cases r with
 | lst m e r=>exact⟨_,rfl,m,fun _=>⟨_,e,r.flat o⟩⟩
 | dK m e q r=>exact⟨_,rfl,m,fun _=>⟨_,e,q,r.flat o⟩⟩
 | dT m e q r=>exact⟨_,rfl,m,fun _=>⟨_,e,q,r.flat o⟩⟩
 | _=>cases o
def jC (i:Nat) (te:aE):aK:=fun D ρ=>te ρ fun x g=>g = .fr/\G5 x=true/\D.nx (ρ.set i (some (.own x)))
theorem ay3 {i:Nat} (h:LS X (jC i te) D σ H):mO (LE X te) (dA i) D σ H:=by
 obtain ⟨W,ρ,D',px,q,k⟩:=h
 refine⟨W,ρ,_,px,q,?_⟩
 rintro v H1 x g s r ⟨rfl,o,q⟩
 obtain ⟨a,rfl,m,w⟩:=ay2 r o
 exact k.nx _ _ H1 _ (Ev.own s m) (px.setOwn s m (w _)) q
def b7 (te:aE):aK:=fun D ρ=>te ρ fun x g=>Nw g x/\D.rt x
theorem ay4 (h:LS X (b7 te) D σ H):t8 (LE X te) D σ H:=by
 obtain ⟨W,ρ,D',px,q,k⟩:=h
 refine⟨W,ρ,_,px,q,?_⟩
 rintro v H1 x g s r ⟨n,q⟩
 exact k.rt v H1 x (px.same.trans s) ((Nw.rep px n r).same (aD.refl _) fun _ z=>z.2) q
def Slot.nw:Slot->Prop
 | .own _=>True
 | .sh true _=>True
 | .sh false x=>flat x=true
def jD (i:Nat):aK:=fun D ρ=>∃ m,ρ[i]? = some (some m)/\m.nw/\D.rt m.val
theorem ay5 {i:Nat} (h:LS X (jD i) D σ H):t8 (hZ i) D σ H:=by
 obtain ⟨W,ρ,D',px,⟨m,hi,n,q⟩,k⟩:=h
 obtain ⟨v,ev,r⟩:=px.sl i _ hi
 refine⟨v,ev,k.rt v H _ px.same ?_ q⟩
 cases m with
 | own x=>
  obtain ⟨a,rfl,wa,r⟩:=r
  exact r.rep (fun _ z=>z.2) (px.wm a wa).1
 | sh g x=>
  cases g with
  | true=>exact aG.same r (aD.refl _) fun _ z=>z.2
  | false=>exact aG.flat n r
def cM (c:cA) (t u:aK):aK:=fun D ρ=>c ρ fun b=>if b=true then t D ρ else u D ρ
theorem ay6 {c:cA} (h:LS X (cM c t u) D σ H):yF (LT X c) (LS X t) (LS X u) D σ H:=by
 obtain ⟨W,ρ,D',px,q,k⟩:=h
 refine⟨W,ρ,_,px,q,fun b H1 s q1=>?_⟩
 cases b with
 | true=>exact bB ⟨W,ρ,D',px.mono s,by simpa using q1,k.step (Ev.same s)⟩
 | false=>exact aS ⟨W,ρ,D',px.mono s,by simpa using q1,k.step (Ev.same s)⟩
def v8 (c:cA) (tb:aK):aK:=fun D ρ=>∃ I:Nat->bE->Prop,(∃ m,I m ρ)/\∀ m ρ',I m ρ'->c ρ' fun b=>if b=true then tb { D with nx:=fun ρ2=>∃ m',m' < m/\I m' ρ2,ct:=fun ρ2=>∃ m',m' < m/\I m' ρ2,bk:=D.nx } ρ' else D.nx ρ'
theorem ay7 {c:cA}{tb:aK} (h:LS X (v8 c tb) D σ H):yH (LT X c) (LS X tb) D σ H:=by
 obtain ⟨W,ρ,D',px,⟨I,⟨m0,i0⟩,turn⟩,k⟩:=h
 refine⟨fun m σ2 H2=>∃ W2 ρ2,PX X.K X.H₀ W2 σ2 ρ2 H2/\Ev W H W2 H2/\I m ρ2,⟨m0,W,ρ,px,Ev.refl _ _,i0⟩,?_⟩
 rintro m σ2 H2 ⟨W2,ρ2,px2,e2,i2⟩
 refine⟨W2,ρ2,_,px2,turn m ρ2 i2,fun b H3 s3 q3=>?_⟩
 cases b with
 | true=>
  refine bB ⟨fun σ4 H4=>∃ W4 ρ4,PX X.K X.H₀ W4 σ4 ρ4 H4/\Ev W H W4 H4/\∃ m',m' < m/\I m' ρ4,fun σ4 H4 ⟨W4,ρ4,a,b,m',c,d⟩=>⟨m',c,W4,ρ4,a,b,d⟩,W2,ρ2,_,px2.mono s3,by simpa using q3,?_⟩
  have e3:Ev W H W2 H3:=e2.trans (Ev.same s3)
  exact⟨fun W' σ' H' ρ' e p q=>⟨W',ρ',p,e3.trans e,q⟩,k.rt,fun W' σ' H' ρ' e p q=>k.nx W' σ' H' ρ' (e3.trans e) p q,fun W' σ' H' ρ' e p q=>⟨W',ρ',p,e3.trans e,q⟩⟩
 | false=>exact aS (k.nx W2 σ2 H3 ρ2 (e2.trans (Ev.same s3)) (px2.mono s3) (by simpa using q3))
end
theorem lim {n:Nat} (h:n<=16000000):n<=sizeLine:=bn9 (j9 h)
theorem aG.sqT {K:PySem.W.Frag}{M:Addr->Prop}{H:Hp}{v:V}{xs:List PV} (r:aG K M H v (.tup xs)):∃ a us,v = .ref a/\H a=some (.tup us)/\Reps K M H us xs:=by
 cases r with
 | tup e r=>exact⟨_,_,rfl,e,r⟩
theorem aG.sqL {K:PySem.W.Frag}{M:Addr->Prop}{H:Hp}{v:V}{xs:List PV} (r:aG K M H v (.lst xs)):∃ a us,v = .ref a/\M a/\H a=some (.lst us)/\Reps K M H us xs:=by
 cases r with
 | lst m e r=>exact⟨_,_,rfl,m,e,r⟩
theorem iF.sqL {K:PySem.W.Frag}{H:Hp}{a:Addr}{ns:List Int} (h:iF K H a ns):aI K H a (ns.map V.int):=h.elim (fun z=>.inl (.inr z)) .inr
def iH:PV->Option (List PV)
 | .tup xs=>some xs
 | .lst xs=>some xs
 | .scr ns=>some (intz ns)
 | .kt xs=>some xs
 | _=>none
theorem aG.seq {K:PySem.W.Frag}{M:Addr->Prop}{H:Hp}{v:V}{x:PV}{xs:List PV} (r:aG K M H v x) (e:iH x=some xs):∃ a us,v = .ref a/\(aI K H a us ∨ aF K H a us)/\Reps K M H us xs:=by
 cases r with
 | tup h r=>cases e; exact⟨_,_,rfl,.inr (aF.of h),r⟩
 | lst m h r=>cases e; exact⟨_,_,rfl,.inl (aI.of h),r⟩
 | scr h=>cases e; exact⟨_,_,rfl,.inl h.sqL,Reps.intz _⟩
 | kt h r=>cases e; exact⟨_,_,rfl,.inr (.inr h),r⟩
 | _=>cases e
section
variable {X : Cx} {σ : St} {H : Hp} {D : cN} {te ti to : aE} {t u : aK} {Q' : VK}
theorem _root_.PP.PX.updL {K:PySem.W.Frag}{H0:Hp}{W:Addr->Prop}{σ:St}{ρ:bE}{H:Hp}{i:Nat}{a:Addr}{x:PV}{us:List V}{ys:List PV} (p:PX K H0 W σ ρ H) (hi:ρ[i]? = some (some (.own x))) (ha:σ[i]? = some (some (.ref a))) (wa:W a) (r:Reps K (Ms H0 W true) (upd H a (.lst us)) us ys) :
  PX K H0 W σ (ρ.set i (some (.own (.lst ys)))) (upd H a (.lst us)):=p.updOwn hi ha wa rfl (y:=.lst ys) ⟨us,b8,r⟩
def pT (i:Nat) (te:aE):aK:=fun D ρ=>∃ xs,ρ[i]? = some (some (.own (.lst xs)))/\te ρ fun x g=>Nw g x/\xs.length < 16000000/\D.nx (ρ.set i (some (.own (.lst (xs ++ [x])))))
theorem ay8 {i:Nat} (h:LS X (pT i te) D σ H):oQ (zW X.K "list" A0 (hZ i) (i6 (LE X te) jW)) D σ H:=by
 obtain ⟨W,ρ,D',px,⟨xs,hi,q⟩,k⟩:=h
 obtain ⟨v,ev,a,rfl,wa,us,ea,r⟩:=px.sl i _ hi
 refine⟨_,ev,uV (aI.of ea),W,ρ,_,px,q,?_⟩
 rintro w H1 x g s rx ⟨n,hl,q⟩
 have ea1:=s _ _ ea
 refine⟨a,us,w,rfl,rfl,ea1,j9 (by rw [r.length]; omega),?_⟩
 refine k.nx W σ _ _ ((Ev.same s).trans (Ev.upd wa)) ((px.mono s).updL hi ev wa ?_) q
 exact ((r.same s fun _ z=>z).append (.cons (Nw.rep px n rx) .nil)).keep (.upd ea1 rfl fun b m=>⟨lC wa m,m⟩)
end
theorem Reps.atI {K:PySem.W.Frag}{M:Addr->Prop}{H:Hp}{us:List V}{xs:List PV}{i:Int}{z:PV} (r:Reps K M H us xs) (h:L2.atI xs i=some z):∃ v,L2.atI us i=some v/\aG K M H v z:=by
 unfold L2.atI at h ⊢
 rw [r.length]
 cases e:jX xs.length i with
 | none=>rw [e] at h; cases h
 | some j=>rw [e] at h; exact r.at h
section
variable {X : Cx} {σ : St} {H : Hp} {Q' : VK} {ta tb te : aE} {tr : cL}
def v9:PV->Tg->PV->Tg->PK->Prop:=fun x g y _ Q=>∃ xs i z,iH x=some xs/\y = .int i/\L2.atI xs i=some z/\Q z g
theorem ay9:dC X v9 (zU X.K):=by
 rintro W Hs H u v x y g g' Q Q' s n r1 r2 ⟨xs,i,z,e,rfl,hz,q⟩ k
 cases r2
 obtain ⟨a,us,rfl,hs,r⟩:=r1.seq e
 obtain ⟨v,hv,rv⟩:=r.atI hz
 rcases hs with hs | hs
 ·exact .inl ⟨a,us,i,v,rfl,rfl,hs,hv,k v H z g (aD.refl _) rv q⟩
 ·exact .inr (.inl ⟨a,us,i,v,rfl,rfl,hs,hv,k v H z g (aD.refl _) rv q⟩)
def vA:PV->Option Nat
 | .tup xs=>some xs.length
 | .lst xs=>some xs.length
 | .scr ns=>some ns.length
 | .dK ps=>some ps.length
 | .kt xs=>some xs.length
 | _=>none
def fJ:List PV->(PV->Prop)->Prop:=fun xs Q=>∃ x n,xs = [x]/\vA x=some n/\Q (.int n)
theorem Reps.one {K:PySem.W.Frag}{M:Addr->Prop}{H:Hp}{vs:List V}{x:PV} (r:Reps K M H vs [x]):∃ v,vs = [v]/\aG K M H v x:=by
 cases r with
 | cons r t=>cases t; exact⟨_,rfl,r⟩
theorem Reps.two {K:PySem.W.Frag}{M:Addr->Prop}{H:Hp}{vs:List V}{x y:PV} (r:Reps K M H vs [x,y]):∃ v w,vs = [v,w]/\aG K M H v x/\aG K M H w y:=by
 cases r with
 | cons r t=>
  obtain ⟨w,rfl,q⟩:=t.one
  exact⟨_,_,rfl,r,q⟩
theorem az0:dO X fJ (fun xs H Q=>(∃ p ys,xs = [.ref p]/\(aI X.K H p ys ∨ aF X.K H p ys)/\Q (.int ys.length) H) ∨ ∃ a kvs,xs = [V.ref a]/\H a=some (.dK kvs)/\Q (.int kvs.length) H):=by
 rintro H vs xs Q Q' r ⟨x,n,rfl,e,q⟩ k
 obtain ⟨v,rfl,r1⟩:=r.one
 have fin:∀ {m:Nat},m=n->Q' (.int m) H:=fun {m} z=>by rw [z]; exact k _ _ _ (aD.refl _) (.int _) q
 cases r1 with
 | tup h r2=>cases e; exact .inl ⟨_,_,rfl,.inr (aF.of h),fin r2.length⟩
 | lst m h r2=>cases e; exact .inl ⟨_,_,rfl,.inl (aI.of h),fin r2.length⟩
 | scr h=>cases e; exact .inl ⟨_,_,rfl,.inl h.sqL,fin (by rw [bh2])⟩
 | kt h r2=>cases e; exact .inl ⟨_,_,rfl,.inr (.inr h),fin r2.length⟩
 | dK m h e' r=>
  cases e
  refine .inr ⟨_,_,rfl,h,fin ?_⟩
  have:=congrArg List.length e'
  rw [bh2,bh2] at this
  exact this
 | _=>cases e
def seqT:PV->Option (List PV)
 | .kt _=>none
 | x=>iH x
def G6:List PV->(PV->Prop)->Prop:=fun xs Q=>∃ x ys,xs = [x]/\seqT x=some ys/\flats ys=true/\Q (.tup ys)
def pU:List PV->(PV->Prop)->Prop:=fun xs Q=>∃ x ys,xs = [x]/\iH x=some ys/\flats ys=true/\Q (.lst ys)
theorem az1:dO X (fun xs Q=>G6 xs Q/\∀ ns,xs ≠ [.scr ns]) (fun xs H Q=>∃ p ys,xs = [.ref p]/\((aI X.K H p ys/\∀ l,H l=none->Q (.ref l) (upd H l (.tup ys))) ∨ (aF X.K H p ys/\Q (.ref p) H))):=by
 rintro H vs xs Q Q' r ⟨⟨x,ys,rfl,e,f,q⟩,nsc⟩ k
 obtain ⟨v,rfl,r1⟩:=r.one
 cases r1 with
 | tup h r2=>cases e; exact⟨_,_,rfl,.inr ⟨aF.of h,k _ _ _ (aD.refl _) (.tup h (r2.flat f)) q⟩⟩
 | lst m h r2=>cases e; exact⟨_,_,rfl,.inl ⟨aI.of h,fun l hl=>k _ _ _ (aZ hl _) (.tup b8 ((r2.flat f).same (aZ hl _) fun _ z=>z)) q⟩⟩
 | scr h=>exact absurd rfl (nsc _)
 | _=>cases e
theorem az2:dO X pU (fun xs H Q=>∃ p ys,xs = [.ref p]/\(aI X.K H p ys ∨ aF X.K H p ys)/\∀ l,H l=none->Q (.ref l) (upd H l (.lst ys))):=by
 rintro H vs xs Q Q' r ⟨x,ys,rfl,e,f,q⟩ k
 obtain ⟨v,rfl,r1⟩:=r.one
 obtain ⟨a,us,rfl,hs,r2⟩:=r1.seq e
 exact⟨_,_,rfl,hs,fun l hl=>k _ _ _ (aZ hl _) (.lst hl b8 ((r2.flat f).same (aZ hl _) fun _ z=>z)) q⟩
def nK:List PV->(PV->Prop)->Prop:=fun xs Q=>∃ bs:List Bool,xs = [.lst (bs.map PV.bl)]/\Q (.bl (bs.all id))
theorem Reps.ofBls {K:PySem.W.Frag}{M:Addr->Prop}{H:Hp}:∀ {ns:List Bool}{us:List V},Reps K M H us (ns.map PV.bl)->us=ns.map V.bl
 | [],_,.nil=>rfl
 | n :: r,_,.cons q t=>by
  cases q
  rw [Reps.ofBls t]; rfl
theorem az3:dO X nK (fun xs H Q=>∃ (a:Addr) (bs:List Bool),xs = [.ref a]/\aI X.K H a (bs.map V.bl)/\Q (.bl (bs.all id)) H):=by
 rintro H vs xs Q Q' r ⟨bs,rfl,q⟩ k
 obtain ⟨v,rfl,r1⟩:=r.one
 obtain ⟨a,us,rfl,_,h,r2⟩:=r1.sqL
 obtain rfl:=r2.ofBls
 exact⟨a,bs,rfl,aI.of h,k _ _ _ (aD.refl _) (.bl _) q⟩
def vB:List PV->(PV->Prop)->Prop:=fun xs Q=>∃ i j,xs = [.int i,.int j]/\Q (.int (if j < i then j else i))
def pV:List PV->(PV->Prop)->Prop:=fun xs Q=>∃ i j,xs = [.int i,.int j]/\Q (.int (if j > i then j else i))
theorem az4:dO X vB (fun xs H Q=>∃ i j,xs = [.int i,.int j]/\Q (.int (if j < i then j else i)) H):=by
 rintro H vs xs Q Q' r ⟨i,j,rfl,q⟩ k
 obtain ⟨v,w,rfl,r1,r2⟩:=r.two
 cases r1; cases r2
 exact⟨i,j,rfl,k _ _ _ (aD.refl _) (.int _) q⟩
theorem az5:dO X pV (fun xs H Q=>∃ i j,xs = [.int i,.int j]/\Q (.int (if j > i then j else i)) H):=by
 rintro H vs xs Q Q' r ⟨i,j,rfl,q⟩ k
 obtain ⟨v,w,rfl,r1,r2⟩:=r.two
 cases r1; cases r2
 exact⟨i,j,rfl,k _ _ _ (aD.refl _) (.int _) q⟩
abbrev bF:=List PV->(PV->Prop)->Prop
def nL (K:PySem.W.Frag) (p:bF):Sp:=fun vs H Q _=>∃ xs Qp,Reps K (fun _=>True) H vs xs/\p xs Qp/\∀ v H' x,aD H H'->aG K (fun a=>H a=none) H' v x->Qp x->Q v H'
theorem az6 {p:bF}{E:XK} (h:LE X (aC p tr) σ H Q'):tO (nL X.K p) [] E (LA X tr) σ H Q':=by
 obtain ⟨W,ρ,Q,px,q,k⟩:=h
 refine⟨W,ρ,_,px,q,fun vs H1 xs s1 r1 q1=>⟨_,_,by rw [bk6]; exact r1.any,q1,fun v H' x s2 r2 q2=>k v H' x .fr (s1.trans s2) (r2.same (aD.refl _) fun _ z=>s1.free z) q2⟩⟩
def az7:PV->Option Bool
 | .non=>some false
 | .bl b=>some b
 | .int i=>some (i != 0)
 | .tup xs=>some (!xs.isEmpty)
 | .lst xs=>some (!xs.isEmpty)
 | .dK ps=>some (!ps.isEmpty)
 | _=>none
def pW (t:aE):cA:=fun ρ Q=>t ρ fun x _=>∃ b,az7 x=some b/\Q b
theorem vC {α β:Type}:∀ {l:List α}{m:List β},l.length=m.length->l.isEmpty=m.isEmpty
 | [],[],_=>rfl
 | _ :: _,_ :: _,_=>rfl
theorem az8 {t:aE}{Qb:Bool->Hp->Prop} (h:LT X (pW t) σ H Qb):LE X t σ H fun x H'=>∃ k,tL X.K x H' k/\Qb k H':=by
 obtain ⟨W,ρ,Q,px,q,k⟩:=h
 refine⟨W,ρ,_,px,q,?_⟩
 rintro v H1 x g s r ⟨b,e,q⟩
 refine⟨b,?_,k _ _ s q⟩
 cases r with
 | non=>cases e; rfl
 | bl b=>cases e; rfl
 | int i=>cases e; rfl
 | str x=>cases e
 | tup h r=>cases e; exact .inr (.inl ⟨_,aF.of h,by rw [vC r.length]⟩)
 | lst m h r=>cases e; exact .inl ⟨_,aI.of h,by rw [vC r.length]⟩
 | dK m h e' r=>
  cases e
  refine .inr (.inr ⟨_,h,?_⟩)
  have:=congrArg List.length e'
  rw [bh2,bh2] at this
  rw [vC this]
 | dT m h e' r=>cases e
 | scr h=>cases e
 | kt h r=>cases e
 | exc h e' c=>cases e
def vD:PV->Bool
 | .non=>true
 | _=>false
def vE (neg:Bool):PV->Tg->PV->Tg->PK->Prop:=fun x _ y _ Q=>y = .non/\Q (.bl (if neg=true then !vD x else vD x)) .fr
theorem az9 {K:PySem.W.Frag}{M:Addr->Prop}{H:Hp}{v:V}{x:PV} (r:aG K M H v x):decide (v = .non)=vD x:=by
 cases r <;> rfl
theorem aA0:dC X (vE true) (fun x y H Q=>y = .non/\Q (.bl (!decide (x = .non))) H):=by
 rintro W Hs H u v x y g g' Q Q' s n r1 r2 ⟨rfl,q⟩ k
 cases r2
 exact⟨rfl,by rw [az9 r1]; exact k _ _ _ _ (aD.refl _) (.bl _) q⟩
end
structure jE (K:PySem.W.Frag) (H0:Hp) (W:Addr->Prop) (g:Bool) (H1:Hp) (J:It) (xs:List PV):Prop where
 go:∀ W' H' i,Ev W H1 W' H'->i < xs.length->J.go i H'
 yld:∀ W' H' i v H2,Ev W H1 W' H'->J.yld i H' v H2->i < xs.length->aD H' H2/\∃ x,xs[i]? = some x/\aG K (Ms H0 W' g) H2 v x
 stop:∀ W' H',Ev W H1 W' H'->J.stop xs.length H'
abbrev dP:=bE->(List PV->Bool->Prop)->Prop
def LI (X:Cx) (t:dP):TI:=fun σ H R=>∃ (W:Addr->Prop) (ρ:bE) (Q:List PV->Bool->Prop),PX X.K X.H₀ W σ ρ H/\t ρ Q/\∀ J H1 xs g,aD H H1->jE X.K X.H₀ W g H1 J xs->Q xs g->R J H1
theorem Ev.keep {H0:Hp}{W W':Addr->Prop}{H H':Hp}{g:Bool} (e:Ev W H W' H') (tw:∀ a,W a->∃ o,H a=some o/\eS o=true):gP (Ms H0 W g) (Ms H0 W' g) H H':=by
 have m:∀ {a:Addr}{o:HO},Ms H0 W g a->H a=some o->Ms H0 W' g a/\H' a=some o:=fun {a o} z h=>by
  cases g with
  | true=>
   obtain ⟨h1,h2⟩:=e a _ h z.1
   exact⟨⟨h2,z.2⟩,h1⟩
  | false=>
   obtain ⟨h1,h2⟩:=e a _ h z
   exact⟨h2,h1⟩
 refine⟨fun a _ z h=>m z h,fun a _ z h=>m z h,fun a _ z h=>m z h,fun a _ h=>(e a _ h fun z=>?_).1,fun a _ _ h=>(e a _ h fun z=>?_).1⟩
 ·obtain ⟨o,h',mu⟩:=tw a z; rw [h] at h'; cases h'; cases mu
 ·obtain ⟨o,h',mu⟩:=tw a z; rw [h] at h'; cases h'; cases mu
section
variable {X : Cx} {σ : St} {H : Hp} {te : aE} {tr : cL} {R : It → Hp → Prop}
def G7 (K:PySem.W.Frag) (tl:TE):TI:=fun σ H R=>tl σ H fun x H1=>∃ a,x = .ref a/\((∃ xs,aI K H1 a xs/\R (kZ K a) H1) ∨ (∃ xs,aF K H1 a xs/\R (j4 K a) H1))
def pX:Tg->List PV->Bool
 | .fr,_=>true
 | .nw,_=>true
 | _,xs=>flats xs
def dJ (te:aE):dP:=fun ρ Q=>te ρ fun x g=>∃ xs,iH x=some xs/\(g = .rd->flat x=true)/\Q xs (pX g xs)
theorem G8 {K:PySem.W.Frag}{H0:Hp}{W:Addr->Prop}{g:Bool}{H1:Hp}{a:Addr}{us:List V}{xs:List PV} (tw:∀ a,W a->∃ o,H1 a=some o/\eS o=true) (ha:∀ W' H',Ev W H1 W' H'->aI K H' a us) (r:Reps K (Ms H0 W g) H1 us xs):jE K H0 W g H1 (kZ K a) xs:=by
 have lr:=r.length
 refine⟨fun W' H' i e hi=>⟨us,us[i]'(by omega),ha W' H' e,by simp⟩,fun W' H' i v H2 e y hi=>?_,fun W' H' e=>⟨us,ha W' H' e,by omega⟩⟩
 obtain ⟨rfl,y⟩:=y
 obtain ⟨x,hx,rx⟩:=r.get (y us (ha W' _ e))
 exact⟨aD.refl _,x,hx,rx.keep (e.keep tw)⟩
theorem G9 {K:PySem.W.Frag}{H0:Hp}{W:Addr->Prop}{g:Bool}{H1:Hp}{a:Addr}{us:List V}{xs:List PV} (tw:∀ a,W a->∃ o,H1 a=some o/\eS o=true) (ha:∀ W' H',Ev W H1 W' H'->aF K H' a us) (r:Reps K (Ms H0 W g) H1 us xs):jE K H0 W g H1 (j4 K a) xs:=by
 have lr:=r.length
 refine⟨fun W' H' i e hi=>⟨us,us[i]'(by omega),ha W' H' e,by simp⟩,fun W' H' i v H2 e y hi=>?_,fun W' H' e=>⟨us,ha W' H' e,by omega⟩⟩
 obtain ⟨rfl,y⟩:=y
 obtain ⟨x,hx,rx⟩:=r.get (y us (ha W' _ e))
 exact⟨aD.refl _,x,hx,rx.keep (e.keep tw)⟩
theorem lD {K:PySem.W.Frag}{H0 Hs H:Hp}{W:Addr->Prop}{σ:St}{ρ:bE}{g:Tg}{us:List V}{xs:List PV} (px:PX K H0 W σ ρ Hs) (hg:g = .rd->flats xs=true) (r:Reps K (Mg H0 W Hs g) H us xs):Reps K (Ms H0 W (pX g xs)) H us xs:=by
 cases g with
 | fr=>exact r.same (aD.refl _) fun _ z=>px.new z
 | nw=>exact r.same (aD.refl _) fun _ z=>z
 | sh=>
  show Reps K (Ms H0 W (flats xs)) H us xs
  cases e:flats xs with
  | true=>exact r.flat e
  | false=>exact r.same (aD.refl _) fun _ z=>z
 | rd=>exact r.flat (hg rfl)
theorem aA1 (h:LI X (dJ te) σ H R):G7 X.K (LE X te) σ H R:=by
 obtain ⟨W,ρ,Q,px,q,k⟩:=h
 refine⟨W,ρ,_,px,q,?_⟩
 rintro v H1 x g s r ⟨xs,e,hg,q⟩
 have px1:=px.mono s
 have tw:∀ a,W a->∃ o,H1 a=some o/\eS o=true:=fun a z=>(px1.wm a z).2
 cases r with
 | tup h r=>
  cases e
  refine⟨_,rfl,.inr ⟨_,aF.of h,k _ _ _ _ s (G9 tw (fun W' H' e=>aF.of (e _ _ h fun z=>?_).1) (lD px (fun z=>by have:=hg z; unfold flat at this; exact this) r)) q⟩⟩
  obtain ⟨o,h',mu⟩:=tw _ z; rw [h] at h'; cases h'; cases mu
 | @lst a us xs' m h r=>
  cases e
  have wa : ¬ W a:=by
   cases g with
   | fr=>exact (px.new m).1
   | nw=>exact m.1
   | sh=>exact m
   | rd=>have:=hg rfl; unfold flat at this; cases this
  exact⟨_,rfl,.inl ⟨_,aI.of h,k _ _ _ _ s (G8 tw (fun W' H' e=>aI.of (e _ _ h wa).1) (lD px (fun z=>by have:=hg z; unfold flat at this; cases this) r)) q⟩⟩
 | scr h=>
  cases e
  refine⟨_,rfl,.inl ⟨_,h.sqL,k _ _ _ _ s (G8 tw (fun W' H' e=>(iF.keep (fun a o u hz=>(e _ _ hz fun z=>?_).1) h).sqL) (lD (g:=g) px (fun z=>cR _) (Reps.intz _))) q⟩⟩
  obtain ⟨o,h',mu⟩:=tw _ z; rw [hz] at h'; cases h'; cases mu
 | kt h r=>
  cases e
  exact⟨_,rfl,.inr ⟨_,.inr h,k _ _ _ _ s (G9 tw (fun W' H' e=>.inr h) (lD px (fun z=>by have:=hg z; unfold flat at this; exact this) r)) q⟩⟩
 | _=>cases e
def eU (lo:Int) (n:Nat):List PV:=(List.range n).map fun (i:Nat)=>PV.int (lo+(i:Int))
theorem e8 (lo:Int) (n:Nat):(eU lo n).length=n:=by unfold eU; rw [bh2,bo3]
theorem J0 {lo:Int}{n i:Nat} (h:i < n):(eU lo n)[i]? = some (.int (lo+i)):=by unfold eU; rw [bi4,bt7 h]; rfl
def jF (te:aE):dP:=fun ρ Q=>te ρ fun x _=>∃ j:Int,x = .int j/\-1000000<=j/\j<=1000000/\Q (eU 0 j.toNat) true
def pY (ta tb:aE):dP:=fun ρ Q=>ta ρ fun x _=>tb ρ fun y _=>∃ i j:Int,x = .int i/\y = .int j/\(-1000000<=i/\i<=1000000/\-1000000<=j/\j<=1000000)/\Q (eU i (j - i).toNat) true
theorem J1 {K:PySem.W.Frag}{H0:Hp}{W:Addr->Prop}{H1:Hp} (lo:Int) (n:Nat):jE K H0 W true H1 (mP lo n) (eU lo n):=by
 refine⟨fun W' H' i e hi=>by rw [e8] at hi; exact hi,fun W' H' i v H2 e y hi=>?_,fun W' H' e=>by show n<=(eU lo n).length; rw [e8]; exact bh1 _⟩
 rw [e8] at hi
 obtain ⟨rfl,rfl⟩:=y
 exact⟨aD.refl _,_,J0 hi,.int _⟩
theorem aA2 (h:LI X (jF te) σ H R):yM (i6 (LE X te) jW) σ H R:=by
 obtain ⟨W,ρ,Q,px,q,k⟩:=h
 refine⟨W,ρ,_,px,q,?_⟩
 rintro v H1 x g s r ⟨j,rfl,h1,h2,q⟩
 cases r
 exact⟨j,rfl,by omega,by omega,k _ _ _ _ s (J1 0 j.toNat) q⟩
theorem aA3 {ta tb:aE} (h:LI X (pY ta tb) σ H R):yN (i6 (LE X ta) (i6 (LE X tb) jW)) σ H R:=by
 obtain ⟨W,ρ,Q,px,q,k⟩:=h
 refine⟨W,ρ,_,px,q,fun v H1 x g s r q=>⟨W,ρ,_,px.mono s,q,?_⟩⟩
 rintro w H2 y g' s2 r2 ⟨i,j,rfl,rfl,h,q⟩
 cases r; cases r2
 exact⟨i,j,rfl,by omega,k _ _ _ _ (s.trans s2) (J1 i (j - i).toNat) q⟩
end
abbrev jG:=PV->Bool->bE->(bE->Prop)->Prop
def nM (K:PySem.W.Frag) (own:Nat->Prop) (p:jG) (t:TG):Prop:=∀ (H0:Hp) (W:Addr->Prop) (σ:St) (ρ:bE) (H:Hp) (v:V) (x:PV) (g:Bool) (Q:bE->Prop) (Q':St->Hp->Prop),
 PX K H0 W σ ρ H->aG K (Ms H0 W g) H v x->p x g ρ Q->(∀ σ' ρ',PX K H0 W σ' ρ' H->(∀ i,¬ own i->σ'[i]? = σ[i]?)->σ'.length=σ.length->Q ρ'->Q' σ' H)->t v σ H Q'
def bY (i:Nat):jG:=fun x g ρ Q=>Q (ρ.set i (some (.sh (g || flat x) x)))
theorem pZ {K:PySem.W.Frag}{H0 H:Hp}{W:Addr->Prop}{v:V}{x:PV}{g:Bool} (r:aG K (Ms H0 W g) H v x):aG K (Ms H0 W (g || flat x)) H v x:=by
 cases g with
 | true=>exact r
 | false=>
  show aG K (Ms H0 W (flat x)) H v x
  cases e:flat x with
  | true=>exact r.flat e
  | false=>exact r
theorem qA (K:PySem.W.Frag) (i:Nat):nM K (· = i) (bY i) (dA i):=by
 intro H0 W σ ρ H v x g Q Q' px r q k
 exact k _ _ (px.setSh (pZ r)) (fun j hj=>by rw [bl8 (Ne.symm hj)]) (bs4 ..) q
def jH (i j:Nat):jG:=fun x g ρ Q=>∃ y z,x = .tup [y,z]/\Q ((ρ.set i (some (.sh (g || flat y) y))).set j (some (.sh (g || flat z) z)))
theorem vF (K:PySem.W.Frag) (i j:Nat):nM K (fun k=>k=i ∨ k=j) (jH i j) (mM K 2 (i5 (dA i) (i5 (dA j) mL))):=by
 intro H0 W σ ρ H v x g Q Q' px r q k
 obtain ⟨y,z,rfl,q⟩:=q
 obtain ⟨a,us,rfl,h,r⟩:=r.sqT
 obtain ⟨u1,u2,rfl,r1,r2⟩:=r.two
 refine⟨a,_,rfl,aF.of h,rfl,u1,_,rfl,u2,_,rfl,rfl,k _ _ ((px.setSh (pZ r1)).setSh (pZ r2)) (fun k hk=>?_) (by rw [bs4,bs4]) q⟩
 rw [bl8 (fun e=>hk (.inr e.symm)),bl8 (fun e=>hk (.inl e.symm))]
section
variable {X : Cx} {σ : St} {H : Hp} {D : cN}
def eV (ti:dP) (p:jG) (tb:aK):aK:=fun D ρ=>ti ρ fun xs g=>∃ I:Nat->bE->Prop,I 0 ρ/\(∀ i x ρ',xs[i]? = some x->I i ρ'->p x g ρ' fun ρ2=>tb { D with nx:=I (i+1),ct:=I (i+1),bk:=D.nx } ρ2)/\∀ ρ',I xs.length ρ'->D.nx ρ'
theorem aA4 {ti:dP}{p:jG}{g:TG}{tb:aK}{own:Nat->Prop} (hg:nM X.K own p g) (h:LS X (eV ti p tb) D σ H):yO (LI X ti) g (LS X tb) D σ H:=by
 obtain ⟨W,ρ,D',px,q,k⟩:=h
 refine⟨W,ρ,_,px,q,?_⟩
 rintro J H1 xs gb s it ⟨I,i0,turn,fin⟩
 refine⟨fun i m σ2 H2=>m=xs.length - i/\i<=xs.length/\∃ W2 ρ2,PX X.K X.H₀ W2 σ2 ρ2 H2/\Ev W H1 W2 H2/\I i ρ2,⟨xs.length,by omega,bl6 _,W,ρ,px.mono s,Ev.refl _ _,i0⟩,?_⟩
 rintro i m σ2 H2 ⟨rfl,hi,W2,ρ2,px2,e2,i2⟩
 have e0:Ev W H W2 H2:=(Ev.same s).trans e2
 by_cases hlt:i < xs.length
 ·refine .inr ⟨it.go W2 H2 i e2 hlt,fun σ3 H3=>∃ W3 ρ3,PX X.K X.H₀ W3 σ3 ρ3 H3/\Ev W H1 W3 H3/\I (i+1) ρ3,fun σ3 H3 ⟨W3,ρ3,a,b,c⟩=>⟨xs.length - (i+1),by omega,rfl,hlt,W3,ρ3,a,b,c⟩,fun v H3 y=>?_⟩
  obtain ⟨s3,x,hx,rx⟩:=it.yld W2 H2 i v H3 e2 y hlt
  refine hg X.H₀ W2 σ2 ρ2 H3 v x gb _ _ (px2.mono s3) rx (turn i x ρ2 hx i2) fun σ4 ρ4 px4 _ _ q4=>?_
  have e3:Ev W H1 W2 H3:=e2.trans (Ev.same s3)
  have e3':Ev W H W2 H3:=e0.trans (Ev.same s3)
  exact⟨W2,ρ4,_,px4,q4,fun W' σ' H' ρ' e p q=>⟨W',ρ',p,e3.trans e,q⟩,k.rt,fun W' σ' H' ρ' e p q=>k.nx W' σ' H' ρ' (e3'.trans e) p q,fun W' σ' H' ρ' e p q=>⟨W',ρ',p,e3.trans e,q⟩⟩
 ·have e:i=xs.length:=by omega
  subst e
  exact .inl ⟨it.stop W2 H2 e2,k.nx W2 σ2 H2 ρ2 e0 px2 (fin ρ2 i2)⟩
end
def lE (fr:List (Option Nat)) (ρ:bE):bE:=fr.map fun o=>o.bind fun j=>(ρ[j]?).join.map fun m=>Slot.sh false m.val
def kB (D:Addr):Addr->Prop:=fun a=>a=D
theorem aA5 {K:PySem.W.Frag}{H0:Hp}{W:Addr->Prop}{σ:St}{ρ:bE}{H1 H':Hp}{D:Addr}{acc:List V}{fr:List (Option Nat)} (px:PX K H0 W σ ρ H1) (hD:H1 D=none) (s:aD H1 H') (ha:H' D=some (.lst acc)) :
  PX K H1 (kB D) (eO fr σ) (lE fr ρ) H':=by
 have old:∀ {a:Addr}{o:HO},H1 a=some o->a ≠ D:=fun {a o} e z=>by rw [z,hD] at e; cases e
 refine⟨by unfold eO lE; rw [bh2,bh2],s,fun a z=>by cases z; exact⟨hD,_,ha,rfl⟩,fun i m h=>?_,fun i j x y a h1=>?_⟩
 ·unfold lE at h
  rw [bi4] at h
  cases ef:fr[i]? with
  | none=>rw [ef] at h; cases h
  | some o=>
   rw [ef] at h
   cases o with
   | none=>cases h
   | some j=>
    have h:some ((ρ[j]?).join.map fun m=>Slot.sh false m.val)=some (some m):=h
    cases er:ρ[j]? with
    | none=>rw [er] at h; cases h
    | some o=>
     rw [er] at h
     cases o with
     | none=>cases h
     | some m0=>
      cases h
      obtain ⟨v,ev,r⟩:=px.sl j m0 er
      refine⟨v,?_,?_⟩
      ·unfold eO
       rw [bi4,ef]
       show some ((σ[j]?).join)=_
       rw [ev]; rfl
      ·have r':aG K (fun _=>True) H1 v m0.val:=(F7 (Hs:=H1) r).same (aD.refl _) fun _ _=>trivial
       exact r'.keep ⟨fun a _ _ e=>⟨old e,s _ _ e⟩,fun a _ _ e=>⟨old e,s _ _ e⟩,fun a _ _ e=>⟨old e,s _ _ e⟩,fun _ _ e=>s _ _ e,fun _ _ _ e=>s _ _ e⟩
 ·unfold lE at h1
  rw [bi4] at h1
  cases ef:fr[i]? with
  | none=>rw [ef] at h1; cases h1
  | some o=>
   rw [ef] at h1
   cases o with
   | none=>cases h1
   | some j=>
    have h1:some ((ρ[j]?).join.map fun m=>Slot.sh false m.val)=some (some (Slot.own x)):=h1
    cases er:ρ[j]? with
    | none=>rw [er] at h1; cases h1
    | some o=>
     rw [er] at h1
     cases o with
     | none=>cases h1
     | some m0=>cases h1
section
variable {X : Cx} {σ : St} {H : Hp} {Q' : VK}
abbrev _root_.L2.Cx.frm (X:Cx) (H1:Hp):Cx:={ X with H₀:=H1 }
def cP (ti:dP) (fr:List (Option Nat)) (p:jG) (tc:cA) (te:aE):aE:=fun ρ Q=>ti ρ fun xs g=>xs.length<=16000000/\∃ I:Nat->List PV->Prop,I 0 []/\
 (∀ i x acc,xs[i]? = some x->I i acc->p x false (lE fr ρ) fun ρ2=>tc ρ2 fun b=>if b=true then te ρ2 fun y gy=>Nw gy y/\I (i+1) (acc ++ [y]) else I (i+1) acc)/\∀ acc,I xs.length acc->Q (.lst acc) .fr
theorem nN {ti:dP}{fr:List (Option Nat)}{p:jG}{g:TG}{tc:cA}{te:aE}{own:Nat->Prop} (hg:nM X.K own p g) (ho:∀ i,own i->fr[i]? = some none) (h:LE X (cP ti fr p tc te) σ H Q') :
  uK (LI X ti) fr (fun _=>g) (fun H1=>LT (X.frm H1) tc) (fun H1=>LE (X.frm H1) te) σ H Q':=by
 obtain ⟨W,ρ,Q,px,q,k⟩:=h
 refine⟨W,ρ,_,px,q,?_⟩
 rintro J H1 xs gb s it ⟨hl,I,i0,turn,fin⟩ D hD
 have px1:=px.mono s
 refine⟨fun i m acc H'=>m=xs.length - i/\i<=xs.length/\aD H1 H'/\H' D=some (.lst acc)/\∃ ys,Reps X.K (Ms H1 (kB D) true) H' acc ys/\ys.length<=i/\I i ys,⟨xs.length,by omega,bl6 _,aZ hD _,b8,[],.nil,bh1 _,i0⟩,?_⟩
 rintro i m acc H' ⟨rfl,hi,sm,ha,ys,ry,hy,iy⟩
 refine⟨ha,?_⟩
 have ev:Ev W H1 (lB W D) H':=Ev.own sm hD
 by_cases hlt:i < xs.length
 ·refine .inr ⟨it.go _ H' i ev hlt,fun v H2 y=>?_⟩
  obtain ⟨s2,x,hx,rx⟩:=it.yld _ H' i v H2 ev y hlt
  have ha2:=s2 _ _ ha
  have pxb:PX X.K H1 (kB D) (eO fr σ) (lE fr ρ) H2:=aA5 px1 hD (sm.trans s2) ha2
  have rx':aG X.K (Ms H1 (kB D) false) H2 v x:=rx.same (aD.refl _) fun a z=>by
   cases gb with
   | true=>exact fun e=>z.1 (.inr e)
   | false=>exact fun e=>z (.inr e)
  refine hg H1 (kB D) _ _ H2 v x false _ _ pxb rx' (turn i x ys hx iy) fun σ2 ρ2 px2 hown hlen q2=>⟨⟨hlen.symm,fun j w e=>?_⟩,?_⟩
  ·by_cases oj:own j
   ·have:=ho j oj
    unfold eO at e
    rw [bi4,this] at e
    cases e
   ·rw [hown j oj]; exact e
  ·refine⟨kB D,ρ2,_,px2,q2,fun b H4 s4 q4=>?_⟩
   have ha4:=s4 _ _ ha2
   have sm4:=(sm.trans s2).trans s4
   cases b with
   | false=>
    refine aS ⟨xs.length - (i+1),by omega,rfl,hlt,sm4,ha4,ys,ry.same (s2.trans s4) fun _ z=>z,by omega,by simpa using q4⟩
   | true=>
    refine bB ⟨kB D,ρ2,_,px2.mono s4,by simpa using q4,?_⟩
    rintro w H5 y gy s5 ryy ⟨nw,q5⟩
    have ha5:=s5 _ _ ha4
    have lr:=ry.length
    refine⟨ha5,j9 (by omega),xs.length - (i+1),by omega,rfl,hlt,fun b o e=>?_,b8,ys ++ [y],?_,by rw [bi6,bp1]; omega,q5⟩
    ·rw [aM (fun z=>by rw [z,hD] at e; cases e)]
     exact s5 _ _ (sm4 _ _ e)
    ·exact ((ry.same ((s2.trans s4).trans s5) fun _ z=>z).append (.cons (Nw.rep (px2.mono s4) nw ryy) .nil)).keep (.upd ha5 rfl fun b m=>⟨m.1,m⟩)
 ·have e:i=xs.length:=by omega
  subst e
  refine .inl ⟨it.stop _ H' ev,k _ H' _ .fr (s.trans sm) (.lst (s.free hD) ha (ry.same (aD.refl _) fun _ z=>s.free z.2)) (fin ys iy)⟩
def e9:cA:=fun _ Q=>Q true
theorem aA6 {Qb:Bool->Hp->Prop} (h:LT X e9 σ H Qb):uF σ H Qb:=by
 obtain ⟨W,ρ,Q,px,q,k⟩:=h
 exact k _ _ (aD.refl _) q
end
section
variable {κ : Type} [DecidableEq κ]
def bU (ps:List (κ × PV)) (k:κ):Option PV:=(ps.find? fun p=>decide (p.1=k)).map (·.2)
def cG (ps:List (κ × PV)) (k:κ) (x:PV):List (κ × PV):=if (ps.any fun p=>decide (p.1=k))=true then ps.map (fun p=>if p.1=k then (p.1,x) else p) else ps ++ [(k,x)]
variable {K : PySem.W.Frag} {M : Addr → Prop} {H : Hp}
theorem nO (k:κ):∀ {kvs:List (κ × V)}{ps:List (κ × PV)},kvs.map (·.1)=ps.map (·.1)->Reps K M H (kvs.map (·.2)) (ps.map (·.2))->(bU ps k=none->dZ kvs k=none)/\∀ x,bU ps k=some x->∃ v,dZ kvs k=some v/\aG K M H v x
 | [],[],_,_=>⟨fun _=>rfl,fun x h=>by cases h⟩
 | [],_ :: _,e,_=>by cases e
 | _ :: _,[],e,_=>by cases e
 | (k1,v) :: kvs,(k2,x) :: ps,e,r=>by
  injection e with e1 e2
  have e1:k1=k2:=e1
  subst e1
  cases r with
  | cons r t=>
   obtain ⟨h1,h2⟩:=nO k e2 t
   unfold bU dZ at h1 h2 ⊢
   by_cases e:k1=k
   ·simp only [bq2,e,decide_true,Option.map_some]
    exact⟨fun z=>(by cases z),fun y z=>(by cases z; exact⟨v,rfl,r⟩)⟩
   ·simp only [bq2,e,decide_false]
    exact⟨h1,h2⟩
theorem aA7 (k:κ) {kvs:List (κ × V)}{ps:List (κ × PV)} (e:kvs.map (·.1)=ps.map (·.1)):(kvs.any fun p=>decide (p.1=k))=ps.any fun p=>decide (p.1=k):=by
 have h1:(kvs.any fun p=>decide (p.1=k))=(kvs.map (·.1)).any fun z=>decide (z=k):=by rw [List.any_map]; rfl
 have h2:(ps.any fun p=>decide (p.1=k))=(ps.map (·.1)).any fun z=>decide (z=k):=by rw [List.any_map]; rfl
 rw [h1,h2,e]
theorem J2 (k:κ) {w:V}{y:PV} (q:aG K M H w y):∀ {kvs:List (κ × V)}{ps:List (κ × PV)},kvs.map (·.1)=ps.map (·.1)->Reps K M H (kvs.map (·.2)) (ps.map (·.2))->
  (kvs.map fun kv=>if kv.1=k then (kv.1,w) else kv).map (·.1)=(ps.map fun kv=>if kv.1=k then (kv.1,y) else kv).map (·.1)/\Reps K M H ((kvs.map fun kv=>if kv.1=k then (kv.1,w) else kv).map (·.2)) ((ps.map fun kv=>if kv.1=k then (kv.1,y) else kv).map (·.2))
 | [],[],_,_=>⟨rfl,.nil⟩
 | [],_ :: _,e,_=>by cases e
 | _ :: _,[],e,_=>by cases e
 | (k1,v) :: kvs,(k2,x) :: ps,e,r=>by
  injection e with e1 e2
  have e1:k1=k2:=e1
  subst e1
  cases r with
  | cons r t=>
   obtain ⟨h1,h2⟩:=J2 k q e2 t
   by_cases e:k1=k
   ·simp only [bn4,e,if_true]
    exact⟨by rw [h1],.cons q h2⟩
   ·simp only [bn4,e,bn2]
    exact⟨by rw [h1],.cons r h2⟩
theorem vG (k:κ) {w:V}{y:PV} (q:aG K M H w y) {kvs:List (κ × V)}{ps:List (κ × PV)} (e:kvs.map (·.1)=ps.map (·.1)) (r:Reps K M H (kvs.map (·.2)) (ps.map (·.2))) :
  (dB kvs k w).map (·.1)=(cG ps k y).map (·.1)/\Reps K M H ((dB kvs k w).map (·.2)) ((cG ps k y).map (·.2)):=by
 unfold dB cG
 rw [aA7 k e]
 split
 ·exact J2 k q e r
 ·rw [bj4,bj4,bj4,bj4,e]
  exact⟨rfl,r.append (.cons q .nil)⟩
end
def kP:a9->PV
 | .inl i=>.int i
 | .inr x=>.str x
theorem vH {K:PySem.W.Frag}{M:Addr->Prop}{H:Hp}{v:V}{k:a9} (r:aG K M H v (kP k)):v=kV k:=by
 cases k with
 | inl i=>cases r; rfl
 | inr x=>cases r; rfl
theorem qB {K:PySem.W.Frag}{M:Addr->Prop}{H:Hp}:∀ {ks:List a9}{us:List V},Reps K M H us (ks.map kP)->us=ks.map kV
 | [],_,.nil=>rfl
 | k :: r,_,.cons q t=>by rw [vH q,qB t]; rfl
def J3 (x y:PV) (o:Option PV):Prop:=(∃ ps k,x = .dK ps/\y=kP k/\o=bU ps k) ∨ (∃ ps k,x = .dT ps/\y = .tup (k.map kP)/\o=bU ps k)
theorem J4 {K:PySem.W.Frag}{M M2:Addr->Prop}{H:Hp}{v w:V}{x y:PV}{o:Option PV} (h:J3 x y o) (rx:aG K M H v x) (ry:aG K M2 H w y):∃ a o',v = .ref a/\gB H a w o'/\(o=none->o'=none)/\∀ z,o=some z->∃ u,o'=some u/\aG K M H u z:=by
 rcases h with ⟨ps,k,rfl,rfl,rfl⟩ | ⟨ps,k,rfl,rfl,rfl⟩
 ·obtain rfl:=vH ry
  cases rx with
  | dK m h e r=>exact⟨_,_,rfl,gB.k h,(nO k e r).1,(nO k e r).2⟩
 ·obtain ⟨b,us,rfl,hb,rb⟩:=ry.sqT
  obtain rfl:=qB rb
  cases rx with
  | dT m h e r=>exact⟨_,_,rfl,gB.t h hb,(nO k e r).1,(nO k e r).2⟩
section
variable {X : Cx} {σ : St} {H : Hp} {D : cN} {tk td te : aE} {Q' : VK}
def kC (neg:Bool) (tk td:aE):aE:=fun ρ Q=>tk ρ fun y _=>td ρ fun x _=>∃ o,J3 x y o/\Q (.bl (if neg=true then !o.isSome else o.isSome)) .fr
theorem J5 {α β:Type}{o:Option α}{o':Option β}{P:β->α->Prop} (h1:o=none->o'=none) (h2:∀ z,o=some z->∃ u,o'=some u/\P u z):o'.isSome=o.isSome:=by
 cases o with
 | none=>rw [h1 rfl]; rfl
 | some z=>obtain ⟨u,e,_⟩:=h2 z rfl; rw [e]; rfl
theorem aA8 (h:LE X (kC false tk td) σ H Q'):A8 (LE X tk) (LE X td) σ H Q':=by
 obtain ⟨W,ρ,Q,px,q,k⟩:=h
 refine⟨W,ρ,_,px,q,fun w H1 y g s r q=>⟨W,ρ,_,px.mono s,q,?_⟩⟩
 rintro v H2 x g' s2 r2 ⟨o,ak,q⟩
 obtain ⟨a,o',rfl,dg,h1,h2⟩:=J4 ak r2 (r.same s2 fun _ z=>z)
 refine⟨a,o',rfl,dg,?_⟩
 rw [J5 h1 h2]
 exact k _ _ _ .fr (s.trans s2) (.bl _) q
theorem aA9 (h:LE X (kC true tk td) σ H Q'):A9 (LE X tk) (LE X td) σ H Q':=by
 obtain ⟨W,ρ,Q,px,q,k⟩:=h
 refine⟨W,ρ,_,px,q,fun w H1 y g s r q=>⟨W,ρ,_,px.mono s,q,?_⟩⟩
 rintro v H2 x g' s2 r2 ⟨o,ak,q⟩
 obtain ⟨a,o',rfl,dg,h1,h2⟩:=J4 ak r2 (r.same s2 fun _ z=>z)
 refine⟨a,o',rfl,dg,?_⟩
 rw [J5 h1 h2]
 exact k _ _ _ .fr (s.trans s2) (.bl _) q
theorem PX.updD {K:PySem.W.Frag}{H0:Hp}{W:Addr->Prop}{σ:St}{ρ:bE}{H:Hp}{i:Nat}{a:Addr}{x:PV}{kvs:List (a9 × V)}{ps:List (a9 × PV)} (p:PX K H0 W σ ρ H) (hi:ρ[i]? = some (some (.own x))) (ha:σ[i]? = some (some (.ref a))) (wa:W a)
  (r:kvs.map (·.1)=ps.map (·.1)/\Reps K (Ms H0 W true) (upd H a (.dK kvs)) (kvs.map (·.2)) (ps.map (·.2))):PX K H0 W σ (ρ.set i (some (.own (.dK ps)))) (upd H a (.dK kvs)):=p.updOwn hi ha wa rfl (y:=.dK ps) ⟨kvs,b8,r⟩
theorem PX.updT {K:PySem.W.Frag}{H0:Hp}{W:Addr->Prop}{σ:St}{ρ:bE}{H:Hp}{i:Nat}{a:Addr}{x:PV}{kvs:List (List a9 × V)}{ps:List (List a9 × PV)} (p:PX K H0 W σ ρ H) (hi:ρ[i]? = some (some (.own x))) (ha:σ[i]? = some (some (.ref a))) (wa:W a)
  (r:kvs.map (·.1)=ps.map (·.1)/\Reps K (Ms H0 W true) (upd H a (.dT kvs)) (kvs.map (·.2)) (ps.map (·.2))):PX K H0 W σ (ρ.set i (some (.own (.dT ps)))) (upd H a (.dT kvs)):=p.updOwn hi ha wa rfl (y:=.dT ps) ⟨kvs,b8,r⟩
theorem qD {κ α β:Type}{l:List (κ × α)}{m:List (κ × β)} (e:l.map (·.1)=m.map (·.1)):l.length=m.length:=by
 have:=congrArg List.length e
 rw [bh2,bh2] at this
 exact this
def qE (i:Nat) (tk te:aE):aK:=fun D ρ=>te ρ fun z g=>∃ ps,ρ[i]? = some (some (.own (.dK ps)))/\tk ρ fun y _=>∃ k,y=kP k/\Nw g z/\ps.length < 16000000/\D.nx (ρ.set i (some (.own (.dK (cG ps k z)))))
def nP (i:Nat) (tk te:aE):aK:=fun D ρ=>te ρ fun z g=>∃ ps,ρ[i]? = some (some (.own (.dT ps)))/\tk ρ fun y _=>∃ k,y = .tup (k.map kP)/\Nw g z/\ps.length < 16000000/\D.nx (ρ.set i (some (.own (.dT (cG ps k z)))))
theorem aB0 {i:Nat} (h:LS X (qE i tk te) D σ H):u8 (hZ i) (LE X tk) (LE X te) D σ H:=by
 obtain ⟨W,ρ,D',px,q,k⟩:=h
 refine⟨W,ρ,_,px,q,?_⟩
 rintro w H1 z g s rz ⟨ps,hi,q⟩
 obtain ⟨v,ev,a,rfl,wa,kvs,ea,e1,r⟩:=(px.mono s).sl i _ hi
 refine⟨_,ev,W,ρ,_,px.mono s,q,?_⟩
 rintro kv H2 y g' s2 ry ⟨kk,rfl,nw,hl,q⟩
 obtain rfl:=vH ry
 have ea2:=s2 _ _ ea
 refine⟨a,_,rfl,j6.k ea2 (j9 (by rw [qD e1]; omega)),?_⟩
 refine k.nx W σ _ _ ((Ev.same (s.trans s2)).trans (Ev.upd wa)) ((px.mono (s.trans s2)).updD hi ev wa ?_) q
 obtain ⟨h1,h2⟩:=vG kk ((Nw.rep px nw rz).same s2 fun _ z=>z) e1 (r.same s2 fun _ z=>z)
 exact⟨h1,h2.keep (.upd ea2 rfl fun b m=>⟨lC wa m,m⟩)⟩
theorem aB1 {i:Nat} (h:LS X (nP i tk te) D σ H):u8 (hZ i) (LE X tk) (LE X te) D σ H:=by
 obtain ⟨W,ρ,D',px,q,k⟩:=h
 refine⟨W,ρ,_,px,q,?_⟩
 rintro w H1 z g s rz ⟨ps,hi,q⟩
 obtain ⟨v,ev,a,rfl,wa,kvs,ea,e1,r⟩:=(px.mono s).sl i _ hi
 refine⟨_,ev,W,ρ,_,px.mono s,q,?_⟩
 rintro kv H2 y g' s2 ry ⟨kk,rfl,nw,hl,q⟩
 obtain ⟨b,us,rfl,hb,rb⟩:=ry.sqT
 obtain rfl:=qB rb
 have ea2:=s2 _ _ ea
 refine⟨a,_,rfl,j6.t ea2 hb (j9 (by rw [qD e1]; omega)),?_⟩
 refine k.nx W σ _ _ ((Ev.same (s.trans s2)).trans (Ev.upd wa)) ((px.mono (s.trans s2)).updT hi ev wa ?_) q
 obtain ⟨h1,h2⟩:=vG kk ((Nw.rep px nw rz).same s2 fun _ z=>z) e1 (r.same s2 fun _ z=>z)
 exact⟨h1,h2.keep (.upd ea2 rfl fun b m=>⟨lC wa m,m⟩)⟩
theorem aB2 (h:LE X (qC (.dK [])) σ H Q'):B1 σ H Q':=by
 obtain ⟨W,ρ,Q,px,q,k⟩:=h
 exact fun p hp=>k _ _ _ .fr (aZ hp _) (.dK hp b8 rfl .nil) q
theorem aB3 (h:LE X (qC (.dT [])) σ H Q'):B2 σ H Q':=by
 obtain ⟨W,ρ,Q,px,q,k⟩:=h
 exact fun p hp=>k _ _ _ .fr (aZ hp _) (.dT hp b8 rfl .nil) q
def gE (ps more:List (a9 × PV)):List (a9 × PV):=more.foldl (fun acc kv=>cG acc kv.1 kv.2) ps
theorem J6 {K:PySem.W.Frag}{M:Addr->Prop}{H:Hp}:∀ {more:List (a9 × V)}{mp:List (a9 × PV)}{kvs:List (a9 × V)}{ps:List (a9 × PV)},more.map (·.1)=mp.map (·.1)->Reps K M H (more.map (·.2)) (mp.map (·.2))->kvs.map (·.1)=ps.map (·.1)->Reps K M H (kvs.map (·.2)) (ps.map (·.2))->
  (jY kvs more).map (·.1)=(gE ps mp).map (·.1)/\Reps K M H ((jY kvs more).map (·.2)) ((gE ps mp).map (·.2))
 | [],[],_,_,_,_,e,r=>⟨e,r⟩
 | [],_ :: _,_,_,e,_,_,_=>by cases e
 | _ :: _,[],_,_,e,_,_,_=>by cases e
 | (k1,v) :: more,(k2,x) :: mp,kvs,ps,e,r,e',r'=>by
  injection e with e1 e2
  have e1:k1=k2:=e1
  subst e1
  cases r with
  | cons q t=>
   obtain ⟨h1,h2⟩:=vG k1 q e' r'
   exact J6 (more:=more) (mp:=mp) e2 t h1 h2
def vI (i:Nat) (te:aE):aK:=fun D ρ=>∃ ps,ρ[i]? = some (some (.own (.dK ps)))/\te ρ fun y g=>∃ mp,y = .dK mp/\(g = .fr ∨ (g = .nw/\False))/\ps.length+mp.length<=16000000/\D.nx (ρ.set i (some (.own (.dK (gE ps mp)))))
theorem aB4 {i:Nat} (h:LS X (vI i te) D σ H):oQ (F4 (hZ i) (LE X te)) D σ H:=by
 obtain ⟨W,ρ,D',px,⟨ps,hi,q⟩,k⟩:=h
 obtain ⟨v,ev,a,rfl,wa,kvs,ea,e1,r⟩:=px.sl i _ hi
 refine⟨_,ev,a,rfl,.inl ⟨kvs,.inl ea⟩,W,ρ,_,px,q,?_⟩
 rintro w H1 y g s ry ⟨mp,rfl,hg,hl,q⟩
 rcases hg with rfl | ⟨_,z⟩
 ·cases ry with
  | @dK b more _ m hb e2 rb=>
   have hab:a ≠ b:=fun z=>by subst z; rw [show H a=none from m] at ea; cases ea
   have ea1:=s _ _ ea
   refine⟨b,kvs,more,rfl,hab,ea1,hb,lim (by rw [qD e1,qD e2]; exact hl),?_⟩
   refine k.nx W σ _ _ ((Ev.same s).trans (Ev.upd wa)) ((px.mono s).updD hi ev wa ?_) q
   obtain ⟨h1,h2⟩:=J6 e2 (rb.same (M':=Ms X.H₀ W true) (aD.refl _) fun _ z=>px.new z) e1 (r.same s fun _ z=>z)
   exact⟨h1,h2.keep (.upd ea1 rfl fun b m=>⟨lC wa m,m⟩)⟩
 ·exact z.elim
end
def bJ:Nat->PV->PV->Bool
 | _,.non,.non=>true
 | _,.bl a,.bl b=>a == b
 | _,.int a,.int b=>a == b
 | _,.str a,.str b=>a == b
 | n+1,.tup xs,.tup ys=>(xs.zip ys).all (fun p=>bJ n p.1 p.2) && xs.length == ys.length
 | n+1,.lst xs,.lst ys=>(xs.zip ys).all (fun p=>bJ n p.1 p.2) && xs.length == ys.length
 | n+1,.kt xs,.kt ys=>(xs.zip ys).all (fun p=>bJ n p.1 p.2) && xs.length == ys.length
 | _,_,_=>false
def cW:Nat->PV->PV->Bool
 | _,.non,.non=>true
 | _,.bl _,.bl _=>true
 | _,.int _,.int _=>true
 | _,.str _,.str _=>true
 | _,.non,.int _=>true
 | _,.int _,.non=>true
 | n+1,.tup xs,.tup ys=>(xs.zip ys).all (fun p=>cW n p.1 p.2)
 | n+1,.lst xs,.lst ys=>(xs.zip ys).all (fun p=>cW n p.1 p.2)
 | n+1,.kt xs,.kt ys=>(xs.zip ys).all (fun p=>cW n p.1 p.2)
 | _+1,.non,.tup _=>true
 | _+1,.tup _,.non=>true
 | _,_,_=>false
theorem aB5 (n:Nat) (a b:Int):bJ n (.int a) (.int b)=(a == b):=by cases n <;> rfl
theorem J7 (n:Nat):∀ (a b:List Int),((((intz a).zip (intz b)).all fun p=>bJ n p.1 p.2) && (intz a).length == (intz b).length)=decide (a=b)
 | [],[]=>rfl
 | [],_ :: _=>by simp
 | _ :: _,[]=>by simp
 | x :: a,y :: b=>by
  have ih:=J7 n a b
  simp only [bn4,bs5,bt2,bk2,aB5] at ih ⊢
  by_cases e:x=y
  ·subst e
   have:((intz a).length+1 == (intz b).length+1)=((intz a).length == (intz b).length):=by simp
   rw [this,bq5,Bool.true_and,ih]
   simp
  ·have:(x == y)=false:=beq_eq_false_iff_ne.mpr e
   rw [this,bx8,bx8]
   simp [e]
theorem qF (n:Nat) (a b:List Int):bJ (n+1) (.tup (intz a)) (.tup (intz b))=decide (a=b):=J7 n a b
theorem J8 (n:Nat):∀ (a b:List Int),(((intz a).zip (intz b)).all fun p=>cW n p.1 p.2)=true
 | [],_=>by simp
 | _ :: _,[]=>by simp
 | x :: a,y :: b=>by
  simp only [bn4,bs5,bt2,J8 n a b,Bool.and_true]
  cases n <;> rfl
theorem qG (n:Nat) (a b:List Int):cW (n+1) (.tup (intz a)) (.tup (intz b))=true:=J8 n a b
def lF (neg:Bool):PV->Tg->PV->Tg->PK->Prop:=fun x _ y _ Q=>∃ i ns,x = .int i/\iH y=some (intz ns)/\Q (.bl (if neg=true then !decide (i ∈ ns) else decide (i ∈ ns))) .fr
def J9:PV->Option String
 | .non=>some "NoneType"
 | .bl _=>some "bool"
 | .int _=>some "int"
 | .str _=>some "str"
 | .tup _=>some "tuple"
 | .kt _=>some "tuple"
 | .lst _=>some "list"
 | _=>none
def kD (K:PySem.W.Frag) (n:String) (te:aE):aE:=fun ρ Q=>te ρ fun x _=>∃ T b,J9 x=some T/\PySem.W.kitOne K (.type T) (.type n)=some b/\Q (.bl b) .fr
def fR (n:Nat) (neg:Bool):PV->Tg->PV->Tg->PK->Prop:=fun x _ y _ Q=>((∃ xs ys,x = .tup xs/\y = .tup ys) ∨ (∃ xs ys,x = .lst xs/\y = .lst ys))/\cW (n+1) x y=true/\Q (.bl (if neg=true then !bJ (n+1) x y else bJ (n+1) x y)) .fr
abbrev lG:=bE->(Option Int->Prop)->Prop
def eB (xs:List PV) (lo hi:Option Int):List PV:=(xs.drop (HT.aP xs.length 0 lo)).take (HT.aP xs.length xs.length hi - HT.aP xs.length 0 lo)
def vJ:PV->List PV->PV
 | .tup _,ys=>.tup ys
 | .kt _,ys=>.tup ys
 | _,ys=>.lst ys
def qH:lG:=fun _ Q=>Q none
def qI (te:aE):lG:=fun ρ Q=>te ρ fun x _=>∃ i,x = .int i/\Q (some i)
def qJ (te:aE) (tl th:lG):aE:=fun ρ Q=>te ρ fun x _=>tl ρ fun lo=>th ρ fun hi=>∃ xs,seqT x=some xs/\flats xs=true/\Q (vJ x (eB xs lo hi)) .fr
def eW (N:List Str) (xs:List PV):bE:=xs.map (fun x=>some (.sh (flat x) x)) ++ List.replicate (N.length - xs.length) none
abbrev kE (ta tb:aE):aE:=q2 (dN fun i j=>.int (i+j)) ta tb
abbrev qK (ta tb:aE):aE:=q2 (dN fun i j=>.int (i - j)) ta tb
abbrev vK (ta tb:aE):aE:=q2 (RI mT fun i j=>.int (i * j)) ta tb
abbrev iI (ta tb:aE):aE:=q2 (RI tI fun i j=>.int (i / j)) ta tb
abbrev dD (ta tb:aE):aE:=q2 (RI (fun _ j=>0 < j) fun i j=>.int (i % j)) ta tb
abbrev aB6 (ta tb:aE):aE:=q2 (RI tJ fun i j=>.int (i * 2 ^ j.toNat)) ta tb
abbrev aB7 (ta tb:aE):aE:=q2 (RI (fun _ j=>0<=j) fun i j=>.int (i / 2 ^ j.toNat)) ta tb
abbrev kF (ta tb:aE):aE:=q2 (dN fun i j=>.bl (decide (i < j))) ta tb
abbrev jI (ta tb:aE):aE:=q2 (dN fun i j=>.bl (decide (j < i))) ta tb
abbrev vL (ta tb:aE):aE:=q2 (dN fun i j=>.bl (decide (j<=i))) ta tb
abbrev gS (ta tb:aE):aE:=q2 (k8 false) ta tb
abbrev qNe (ta tb:aE):aE:=q2 (k8 true) ta tb
abbrev aB8 (ta tb:aE):aE:=q2 (vE true) ta tb
abbrev cJ (ta tb:aE):aE:=q2 v9 ta tb
def fK:List PV->(PV->Prop)->Prop:=fun xs Q=>G6 xs Q/\∀ ns,xs ≠ [.scr ns]
def kG:aK:=fun _ _=>False
def QE (X:Cx) (e:Expr) (t:aE):Prop:=PE X e (LE X t)
def QT (X:Cx) (e:Expr) (t:cA):Prop:=PT X e (LT X t)
def QW (X:Cx) (e:Expr) (t:cA):Prop:=PW X e (LT X t)
def QA (X:Cx) (es:List Expr) (t:cL):Prop:=PA X es (LA X t)
def QS (X:Cx) (st:Stmt) (t:aK):Prop:=PS X st (LS X t)
def eC (X:Cx) (st:List Stmt) (t:aK):Prop:=dG X st (LS X t)
def QI (X:Cx) (tg iter:Expr) (t:dP):Prop:=PI X tg iter (LI X t)
section
variable {X : Cx}
theorem bZ {e:Expr}{t t':TE} (h:PE X e t) (m:∀ σ H Q,t' σ H Q->t σ H Q):PE X e t':=fun pins s σ H Q I q=>h pins s σ H Q I (m σ H Q q)
theorem nQ {e:Expr}{t t':TT} (h:PT X e t) (m:∀ σ H Q,t' σ H Q->t σ H Q):PT X e t':=fun pins s σ H Q I q=>h pins s σ H Q I (m σ H Q q)
theorem K0 {e:Expr}{t t':TT} (h:PW X e t) (m:∀ σ H Q,t' σ H Q->t σ H Q):PW X e t':=fun wh pins s σ H Q I q=>h wh pins s σ H Q I (m σ H Q q)
theorem K1 {e:List Expr}{t t':TA} (h:PA X e t) (m:∀ σ H Q,t' σ H Q->t σ H Q):PA X e t':=fun pos pins s σ H Q I q=>h pos pins s σ H Q I (m σ H Q q)
theorem dQ {e:Stmt}{t t':TS} (h:PS X e t) (m:∀ D σ H,t' D σ H->t D σ H):PS X e t':=fun pins s σ H D I q=>h pins s σ H D I (m D σ H q)
theorem K2 {e:List Stmt}{t t':TS} (h:dG X e t) (m:∀ D σ H,t' D σ H->t D σ H):dG X e t':=fun pins s σ H D I q=>h pins s σ H D I (m D σ H q)
theorem nR {tg e:Expr}{t t':TI} (h:PI X tg e t) (m:∀ σ H R,t' σ H R->t σ H R):PI X tg e t':=fun pins s σ H R I q=>h pins s σ H R I (m σ H R q)
variable {a b c e o : Expr} {es cC : List Expr} {ta tb te to tk : aE} {tr : cL} {tA tB' tc : cA} {pos p2 px : Pos} {st : Stmt} {sts : List Stmt} {t u : aK}
theorem qv (i:Nat) {x:Str}{pos:Pos} (hN:X.N[i]? = some x:=by rfl) (hv:fZ X.env.scope x:=by first | exact Or.inl rfl | exact Or.inr (Or.inl rfl) | exact Or.inr (Or.inr rfl)) (hd:(x == ("__debug__" : Str))=false:=by decide)
  (hcd:(x == ("__classdict__" : Str))=false:=by decide):QE X (.Name x pos) (a5 i):=bZ (iY hN hv hd hcd) fun _ _ _=>aw7
theorem aL {i j}:QE X (.Constant (.int i) j pos) (qC (.int i)):=bZ t5 fun _ _ _=>nG fun _=>.int i
theorem jJ {i j}:QE X (.Constant (.bool i) j pos) (qC (.bl i)):=bZ ah0 fun _ _ _=>nG fun _=>.bl i
theorem K3 {j}:QE X (.Constant .none j pos) (qC .non):=bZ ah1 fun _ _ _=>nG fun _=>.non
theorem K4 {i j}:QE X (.Constant (.str i) j pos) (qC (.str i)):=bZ ah2 fun _ _ _=>nG fun _=>.str i
theorem gT {op:Operator}{R:PV->Tg->PV->Tg->PK->Prop}{r:R2} (ho:bN X (binaryOp op) r) (cv:dC X R r) (ha:QE X a ta) (hb:QE X b tb):QE X (.BinOp a op b pos) (q2 R ta tb):=bZ (ak1 ho ha hb) fun _ _ _=>pR cv
theorem kH (ha:QE X a ta) (hb:QE X b tb):QE X (.BinOp a .Add b pos) (q2 (dN fun i j=>.int (i+j)) ta tb):=gT ak3 F8 ha hb
theorem qL (ha:QE X a ta) (hb:QE X b tb):QE X (.BinOp a .Sub b pos) (q2 (dN fun i j=>.int (i - j)) ta tb):=gT ak4 F8 ha hb
theorem vM (ha:QE X a ta) (hb:QE X b tb):QE X (.BinOp a .Mult b pos) (q2 (RI mT fun i j=>.int (i * j)) ta tb):=gT ak5 nH ha hb
theorem iJ (ha:QE X a ta) (hb:QE X b tb):QE X (.BinOp a .FloorDiv b pos) (q2 (RI tI fun i j=>.int (i / j)) ta tb):=gT ak6 nH ha hb
theorem dE (ha:QE X a ta) (hb:QE X b tb):QE X (.BinOp a .Mod b pos) (q2 (RI (fun _ j=>0 < j) fun i j=>.int (i % j)) ta tb):=gT ak7 nH ha hb
theorem aB9 (ha:QE X a ta) (hb:QE X b tb):QE X (.BinOp a .LShift b pos) (q2 (RI tJ fun i j=>.int (i * 2 ^ j.toNat)) ta tb):=gT ak8 nH ha hb
theorem aC0 (ha:QE X a ta) (hb:QE X b tb):QE X (.BinOp a .RShift b pos) (q2 (RI (fun _ j=>0<=j) fun i j=>.int (i / 2 ^ j.toNat)) ta tb):=gT ak9 nH ha hb
theorem lH {op:CmpOp}{R:PV->Tg->PV->Tg->PK->Prop}{r:R2} (ho:bN X (compareOp op) r) (cv:dC X R r) (ha:QE X a ta) (hb:QE X b tb) (hm:behindInMarks op b=false):QE X (.Compare a [op] [b] pos) (q2 R ta tb):=bZ (al1 ho ha hb hm) fun _ _ _=>pR cv
theorem gF {op:CmpOp}{R:PV->Tg->PV->Tg->PK->Prop}{r:R2} (ho:bN X (compareOp op) r) (cv:dC X R r) (ha:QE X a ta) (hb:QE X b tb) (hm:behindInMarks op b=false):QT X (.Compare a [op] [b] pos) (aV (q2 R ta tb)):=nQ (al3 ho ha hb hm) fun _ _ _ h=>pR cv (v3 h)
theorem aC1 (ha:QE X a ta) (hb:QE X b tb):QE X (.Compare a [.Lt] [b] pos) (q2 (dN fun i j=>.bl (decide (i < j))) ta tb):=lH tK k7 ha hb (dU _)
theorem aC2 (ha:QE X a ta) (hb:QE X b tb):QE X (.Compare a [.Gt] [b] pos) (q2 (dN fun i j=>.bl (decide (j < i))) ta tb):=lH zA k7 ha hb (dU _)
theorem K5 (ha:QE X a ta) (hb:QE X b tb):QE X (.Compare a [.GtE] [b] pos) (q2 (dN fun i j=>.bl (decide (j<=i))) ta tb):=lH zB k7 ha hb (dU _)
theorem aC3 (ha:QE X a ta) (hb:QE X b tb):QE X (.Compare a [.Eq] [b] pos) (q2 (k8 false) ta tb):=lH yZ G1 ha hb (dU _)
theorem lJ (ha:QE X a ta) (hb:QE X b tb):QT X (.Compare a [.Lt] [b] pos) (aV (q2 (dN fun i j=>.bl (decide (i < j))) ta tb)):=gF tK k7 ha hb (dU _)
theorem lK (ha:QE X a ta) (hb:QE X b tb):QT X (.Compare a [.Gt] [b] pos) (aV (q2 (dN fun i j=>.bl (decide (j < i))) ta tb)):=gF zA k7 ha hb (dU _)
theorem aC4 (ha:QE X a ta) (hb:QE X b tb):QT X (.Compare a [.GtE] [b] pos) (aV (q2 (dN fun i j=>.bl (decide (j<=i))) ta tb)):=gF zB k7 ha hb (dU _)
theorem iK (ha:QE X a ta) (hb:QE X b tb):QT X (.Compare a [.Eq] [b] pos) (aV (q2 (k8 false) ta tb)):=gF yZ G1 ha hb (dU _)
theorem aC5 (ha:QE X a ta) (hb:QE X b tb):QT X (.Compare a [.NotEq] [b] pos) (aV (q2 (k8 true) ta tb)):=gF z9 aw8 ha hb (dU _)
theorem aC6 (ha:QE X a ta) (hb:QE X b tb):QT X (.Compare a [.IsNot] [b] pos) (aV (q2 (vE true) ta tb)):=gF al0 aA0 ha hb (dU _)
theorem K6 (hu:X.A.units+1 < cLine) (hk:QE X a tk) (hd:QE X b te) (hm:behindInMarks .In b=false:=by rfl):QT X (.Compare a [.In] [b] pos) (aV (kC false tk te)):=nQ (ah6 (ar0 hu hk hd) hm) fun _ _ _ h=>aA8 (v3 h)
theorem aC7 (hu:X.A.units+1 < cLine) (hk:QE X a tk) (hd:QE X b te) (hm:behindInMarks .NotIn b=false:=by rfl):QE X (.Compare a [.NotIn] [b] pos) (kC true tk te):=bZ (ah5 (ar1 hu hk hd) hm) fun _ _ _ h=>aA9 h
theorem kI (h:QE X e te) (he:∀ whole,isTrue e X.env whole=(do let v <- whole; standAt e.pos; holding [v] (truthy v)):=by intro _; rfl):QT X e (aV te):=nQ (ah7 h he) fun _ _ _ h=>v3 h
theorem K7 (h:QE X e te) (he:∀ whole,isTrue e X.env whole=(do let v <- whole; standAt e.pos; holding [v] (truthy v)):=by intro _; rfl):QT X e (pW te):=nQ (al6 h he) fun _ _ _ h=>az8 h
theorem nS (ha:QT X a tA):QW X (.BoolOp .And [a] pos) tA:=ah8 ha
theorem qM (ha:QT X a tA):QW X (.BoolOp .Or [a] pos) tA:=ah9 ha
theorem nV (ha:QT X a tA) (hb:QW X (.BoolOp .And (b :: cC) pos) tB'):QW X (.BoolOp .And (a :: b :: cC) pos) (k9 tA tB'):=K0 (ai0 ha hb) fun _ _ _=>aw9
theorem lM (ha:QT X a tA) (hb:QW X (.BoolOp .Or (b :: cC) pos) tB'):QW X (.BoolOp .Or (a :: b :: cC) pos) (jA tA tB'):=K0 (ai1 ha hb) fun _ _ _=>ax0
theorem iL (h:QW X e tA):QT X e tA:=PW.pt h
theorem lN (ha:QT X a tA):QT X (.UnaryOp .Not a pos) (jB tA):=nQ (ai2 ha) fun _ _ _=>ax1
theorem lO {op} (h:QE X a ta):QE X (.BoolOp op [a] pos) ta:=ai3 h
theorem qN (ha:QE X a ta) (hb:QE X (.BoolOp .And (b :: cC) pos) tb):QE X (.BoolOp .And (a :: b :: cC) pos) (kA ta tb):=bZ (ai4 ha hb) fun _ _ _=>ax2
theorem K8 (ha:QE X a ta) (hb:QE X (.BoolOp .Or (b :: cC) pos) tb):QE X (.BoolOp .Or (a :: b :: cC) pos) (nI ta tb):=bZ (ai5 ha hb) fun _ _ _=>ax3
theorem aC8 (ha:QE X a ta):QE X (.UnaryOp .Not a pos) (v4 ta):=bZ (ai6 ha) fun _ _ _=>ax4
theorem aB:QA X [] aA:=K1 fE fun _ _ _=>ax5
theorem a8 (ha:QE X e te) (hr:QA X es tr) (hs:starEach (e :: es) X.env=(false,eval e X.env) :: starEach es X.env:=by rfl):QA X (e :: es) (a7 te tr):=K1 (dX ha hr hs) fun _ _ _=>ax6
theorem jK {x1} (h:QA X es tr):QE X (.Tuple es x1 pos) (gQ tr):=bZ (am2 h) fun _ _ _=>ax7
theorem kJ (h:QA X es tr):QE X (.List es pos) (iG tr):=bZ (zF h) fun _ _ _=>ax8
theorem cK (ha:QE X a ta) (hb:QE X b tb) (hs:zQ b:=by exact fun _ _=>rfl):QE X (.Subscript a b pos) (q2 v9 ta tb):=bZ (mX ap0 ha hb hs) fun _ _ _=>pR ay9
theorem K9:QE X (.Dict [] [] pos) (qC (.dK [])):=bZ ar4 fun _ _ _=>aB2
theorem aC9:QE X (.Dict [] [] pos) (qC (.dT [])):=bZ ar5 fun _ _ _=>aB3
theorem gU {x:Str}{id:String}{R:List PV->(PV->Prop)->Prop}{r:List V->Hp->VK->Prop} (hc:cD X (.builtin id) r) (cv:dO X R r) (hg:Gl X x) (hm:X.mg x=none) (hv:bootBuiltins x=some (.builtin id)) (ha:QA X (e :: es) tr) (hn:x ≠ "__name__":=by decide) (hdb:(x == ("__debug__" : Str))=false:=by decide)
  (he:starEach (e :: es) X.env=(false,eval e X.env) :: starEach es X.env:=by rfl) (hpl:(backTo pos (starEach es X.env)).any (·.1)=false:=by rfl):QE X (.Call (.Name x p2) (e :: es) [] pos) (aC R tr):=bZ (tR hc hg hm hv ha hn hdb he hpl) fun _ _ _=>G2 cv
theorem vN {x:Str}{T:String}{R:List PV->(PV->Prop)->Prop}{r:List V->Hp->VK->Prop} (hc:cD X (.type T) r) (cv:dO X R r) (hg:Gl X x) (hm:X.mg x=none) (hv:bootBuiltins x=some (.type T)) (ha:QA X (e :: es) tr) (hn:x ≠ "__name__":=by decide) (hdb:(x == ("__debug__" : Str))=false:=by decide)
  (he:starEach (e :: es) X.env=(false,eval e X.env) :: starEach es X.env:=by rfl) (hpl:(backTo pos (starEach es X.env)).any (·.1)=false:=by rfl):QE X (.Call (.Name x p2) (e :: es) [] pos) (aC R tr):=bZ (tS hc hg hm hv ha hn hdb he hpl) fun _ _ _=>G2 cv
theorem cX:eC X [] cO:=K2 ai8 fun _ _ _=>ax9
theorem aT (h1:QS X st t) (h2:eC X sts u):eC X (st :: sts) (aR t u):=K2 (oP h1 h2) fun _ _ _=>ay0
theorem aN (h1:QS X st t):eC X [st] t:=t7 h1
theorem lP:QS X st kG:=dQ aj1 fun _ _ _ ⟨_,_,_,_,h,_⟩=>h
theorem c8 {i:Nat}{x:Str} (hN:X.N.Nodup) (he:QE X e te) (hi:X.N[i]? = some x:=by rfl) (hx:hV X.env.scope x:=by first | exact Or.inl rfl | exact Or.inr rfl) (hs:swapsWith e (some (.Name x p2)) pos.line X.env=pure false:=by rfl) (hf:X.fn x=true ∨ X.env.scope.names.lookup x=some .local:=by first | exact .inl rfl | exact .inr rfl) :
  QS X (.Assign [.Name x p2] e pos) (bM i te):=dQ (yG hN hi hx he hs hf) fun _ _ _=>v7
theorem lQ {i:Nat}{x:Str} (hN:X.N.Nodup) (he:QE X e te) (hi:X.N[i]? = some x:=by rfl) (hx:hV X.env.scope x:=by first | exact Or.inl rfl | exact Or.inr rfl) (hs:swapsWith e (some (.Name x p2)) pos.line X.env=pure false:=by rfl) (hf:X.fn x=true ∨ X.env.scope.names.lookup x=some .local:=by first | exact .inl rfl | exact .inr rfl) :
  QS X (.Assign [.Name x p2] e pos) (jC i te):=dQ (yG hN hi hx he hs hf) fun _ _ _=>ay3
theorem bH (he:QE X e te):QS X (.Return (some e) pos) (b7 te):=dQ (t9 he) fun _ _ _=>ay4
theorem lR (i:Nat) {x:Str} (hN:X.N[i]? = some x:=by rfl) (hv:fZ X.env.scope x:=by first | exact Or.inl rfl | exact Or.inr (Or.inl rfl) | exact Or.inr (Or.inr rfl)) (hd:(x == ("__debug__" : Str))=false:=by decide) (hcd:(x == ("__classdict__" : Str))=false:=by decide) :
  QS X (.Return (some (.Name x p2)) pos) (jD i):=dQ (t9 (iY hN hv hd hcd)) fun _ _ _=>ay5
theorem cS {sa sb:List Stmt} (hc:QT X c tc) (ha:eC X sa t) (hb:eC X sb u):QS X (.If c sa sb pos) (cM tc t u):=dQ (ai9 hc ha hb) fun _ _ _=>ay6
theorem aD0 {body:List Stmt} (hp:PassesOwn (model X.prog X.w) X.A X.env X.xe) (hc:QT X c tc) (hb:eC X body t):QS X (.While c body [] pos) (v8 tc t):=dQ (aj2 hp hc hb) fun _ _ _=>ay7
theorem L0 (i:Nat) {x:Str}{apos cpos xpos:Pos} (he:QE X e te) (hN:X.N[i]? = some x:=by rfl) (hv:fZ X.env.scope x:=by first | exact Or.inl rfl | exact Or.inr (Or.inl rfl) | exact Or.inr (Or.inr rfl)) (hd:(x == ("__debug__" : Str))=false:=by decide) (hcd:(x == ("__classdict__" : Str))=false:=by decide)
  (hbase:attributeBase (.Name x xpos) "append" X.env (eval (.Name x xpos) X.env)=eval (.Name x xpos) X.env:=by rfl)
  (hfew:((backTo cpos (starEach [e] X.env)).all (fun x=>!x.1) && (backToKw cpos (keywordEach [] X.env)).all (fun x=>x.1.isSome) && decide (([e]:List Expr).length+([]:List Keyword).length+(if ([]:List Keyword).isEmpty then 0 else 1) < 30))=true:=by rfl)
  (hline:(apos.endLine == cpos.line)=true:=by rfl) (hs:starEach [e] X.env=(false,eval e X.env) :: starEach [] X.env:=by rfl) (hplain:(backTo cpos (starEach [] X.env)).any (·.1)=false:=by rfl)
  (hsw:swapsWith (.Call (.Attribute (.Name x xpos) "append" apos) [e] [] cpos) none pos.line X.env=pure false:=by rfl) :
  QS X (.Expr (.Call (.Attribute (.Name x xpos) "append" apos) [e] [] cpos) pos) (pT i te):=
 dQ (mK (tY PySem.F.plainAttrs_list PySem.F.slot_list_append PySem.F.type_list_append oY (iY hN hv hd hcd) (dX he fE hs) hbase hfew hline hs hplain) hsw) fun _ _ _=>ay8
theorem L1 {i:Nat}{x:Str}{xpos tpos:Pos} (hu:X.A.units+1 < cLine) (hk:QE X a tk) (he:QE X e te) (hN:X.N[i]? = some x:=by rfl) (hv:fZ X.env.scope x:=by first | exact Or.inl rfl | exact Or.inr (Or.inl rfl) | exact Or.inr (Or.inr rfl)) (hd:(x == ("__debug__" : Str))=false:=by decide) (hcd:(x == ("__classdict__" : Str))=false:=by decide)
  (hs:swapsWith e (some (.Subscript (.Name x xpos) a tpos)) pos.line X.env=pure false:=by rfl):QS X (.Assign [.Subscript (.Name x xpos) a tpos] e pos) (qE i tk te):=dQ (B0 hu (iY hN hv hd hcd) hk he hs) fun _ _ _=>aB0
theorem L3 {i:Nat}{x:Str}{xpos tpos:Pos} (hu:X.A.units+1 < cLine) (hk:QE X a tk) (he:QE X e te) (hN:X.N[i]? = some x:=by rfl) (hv:fZ X.env.scope x:=by first | exact Or.inl rfl | exact Or.inr (Or.inl rfl) | exact Or.inr (Or.inr rfl)) (hd:(x == ("__debug__" : Str))=false:=by decide) (hcd:(x == ("__classdict__" : Str))=false:=by decide)
  (hs:swapsWith e (some (.Subscript (.Name x xpos) a tpos)) pos.line X.env=pure false:=by rfl):QS X (.Assign [.Subscript (.Name x xpos) a tpos] e pos) (nP i tk te):=dQ (B0 hu (iY hN hv hd hcd) hk he hs) fun _ _ _=>aB1
theorem aD1 {tg l:Expr}{tl:TE} (hl:PE X l tl):PI X tg l (G7 X.K tl):=by
 intro pins s σ H R I h
 refine aJ (hl pins s σ H _ I h) fun v s1 ⟨x,H1,I1,r1,q1⟩=>?_
 obtain ⟨a,e,q⟩:=q1
 subst e
 cases r1
 rcases q with ⟨xs,hq,q⟩ | ⟨xs,hq,q⟩
 ·obtain ⟨its,rv,p,hz⟩:=I1.list hq
  refine wpAny_pyIter_list p.isList ?_
  refine⟨s1.heap.objs.size,[s1.heap.objs.size],_,_,H1,rfl,I1.kept (t':=s1.toks) fun b o e=>bg7 _ e,aj3 a _,⟨_,bh8 _ rfl,rfl,rfl⟩,fun b hb=>?_,q⟩
  have e:b=s1.heap.objs.size:=by simpa using hb
  subst e
  exact I1.fpOk (bh1 _) (I1.hok.fresh (bh1 _))
 ·obtain ⟨its,rv,p,hz⟩:=I1.tuple hq
  refine bu0 (show s1.heap.IsTuple a its.toArray from p) ?_
  refine⟨s1.heap.objs.size,[s1.heap.objs.size],_,_,H1,rfl,I1.kept (t':=s1.toks) fun b o e=>bg7 _ e,yJ a _,⟨_,bh8 _ rfl,rfl,rfl⟩,fun b hb=>?_,q⟩
  have e:b=s1.heap.objs.size:=by simpa using hb
  subst e
  exact I1.fpOk (bh1 _) (I1.hok.fresh (bh1 _))
theorem eY {tg l:Expr} (hl:QE X l te):QI X tg l (dJ te):=nR (aD1 hl) fun _ _ _=>aA1
theorem lT {tg:Expr} (hg:Gl X "range") (hm:X.mg "range" = none) (ha:QE X a ta) (hs:starEach [a] X.env = [(false,eval a X.env)]:=by rfl):QI X tg (.Call (.Name "range" p2) [a] [] pos) (jF ta):=nR (aj6 hg hm (dX ha fE hs) hs) fun _ _ _=>aA2
theorem L4 {tg:Expr} (hg:Gl X "range") (hm:X.mg "range" = none) (ha:QE X a ta) (hb:QE X b tb) (hs:starEach [a,b] X.env = [(false,eval a X.env),(false,eval b X.env)]:=by rfl) (hs2:starEach [b] X.env = [(false,eval b X.env)]:=by rfl) :
  QI X tg (.Call (.Name "range" p2) [a,b] [] pos) (pY ta tb):=nR (aj7 hg hm (dX ha (dX hb fE hs2) (by rw [hs,hs2])) hs hs2) fun _ _ _=>aA3
theorem L5 {tg:Expr}{body:List Stmt}{ti:dP}{p:jG}{g:TG}{own:Nat->Prop} (hp:PassesOwn (model X.prog X.w) X.A X.env X.xe) (hc:X.calm=true) (hi:QI X tg e ti) (hg:PG X tg g) (ht:nM X.K own p g) (hb:eC X body t)
  (hs:∀ x,foldedSetIterable e X.env x=pure x:=by intro _; rfl):QS X (.For tg e body [] pos) (eV ti p t):=dQ (yP hp hc hi hg hb hs) fun _ _ _=>aA4 ht
end
section
variable {X : Cx} {pins : List (Addr × Obj)} {σ : St} {H : Hp} {s : Shared} {K : PySem.W.Frag} {M M' : Addr → Prop}
theorem lA.inj {a:Addr}{us ws:List V} (h:lA K a us) (h':lA K a ws):us=ws:=by
 obtain ⟨o,its,n,e1,_,e2,_,v⟩:=h
 obtain ⟨o',its',n',e1',_,e2',_,v'⟩:=h'
 rw [e1] at e1'; cases e1'
 rw [e2] at e2'; cases e2'
 exact v.inj v'
theorem Reps.self_of {n:Nat} (ih:∀ {v:V}{x y:PV},aG K M H v x->aG K M' H v y->cW n x y=true->bJ n x y=true):∀ {vs:List V}{xs ys:List PV},Reps K M H vs xs->Reps K M' H vs ys->((xs.zip ys).all fun p=>cW n p.1 p.2)=true->(((xs.zip ys).all fun p=>bJ n p.1 p.2) && xs.length == ys.length)=true
 | _,_,_,.nil,.nil,_=>rfl
 | _,_,_,.cons r t,.cons r' t',o=>by
  simp only [bs5,bt2,bk5] at o
  have h1:=ih r r' o.1
  have h2:=Reps.self_of ih t t' o.2
  simp only [bs5,bt2,h1,Bool.true_and,bk2] at h2 ⊢
  rw [<- h2]
  congr 1
  simp
theorem aG.self:∀ (n:Nat) {v:V}{x y:PV},aG K M H v x->aG K M' H v y->cW n x y=true->bJ n x y=true:=by
 intro n
 induction n with
 | zero=>
  intro v x y r r' o
  cases r with
  | non=>cases r'; rfl
  | bl b=>cases r'; exact bq5 b
  | int i=>cases r'; exact bq5 i
  | str z=>cases r'; exact bq5 z
  | _=>cases o
 | succ n ih=>
  intro v x y r r' o
  cases r with
  | non=>cases r'; rfl
  | bl b=>cases r'; exact bq5 b
  | int i=>cases r'; exact bq5 i
  | str z=>cases r'; exact bq5 z
  | tup h rr=>
   cases r' with
   | tup h' rr'=>rw [h] at h'; cases h'; exact Reps.self_of ih rr rr' o
   | _=>cases o
  | lst _ h rr=>
   cases r' with
   | lst _ h' rr'=>rw [h] at h'; cases h'; exact Reps.self_of ih rr rr' o
   | _=>cases o
  | kt h rr=>
   cases r' with
   | kt h' rr'=>cases lA.inj h h'; exact Reps.self_of ih rr rr' o
   | _=>cases o
  | _=>cases o
theorem Reps.self (n:Nat) {vs:List V}{xs ys:List PV} (r:Reps K M H vs xs) (r':Reps K M' H vs ys) (o:((xs.zip ys).all fun p=>cW n p.1 p.2)=true):(((xs.zip ys).all fun p=>bJ n p.1 p.2) && xs.length == ys.length)=true:=Reps.self_of (aG.self n) r r' o
theorem iM (n:Nat) (xs ys:List PV):(List.range (min xs.length ys.length)).all (fun j=>bJ n (xs.getD j .non) (ys.getD j .non))=(xs.zip ys).all fun p=>bJ n p.1 p.2:=by
 rw [br0]
 simp only [bp7,bt3]
 constructor
 ·intro h p hp
  obtain ⟨j,hj,e⟩:=bp2 hp
  have hj':j < min xs.length ys.length:=by simpa using hj
  have:=h j hj'
  rw [List.getElem_zip] at e
  subst e
  have h1:j < xs.length:=by omega
  have h2:j < ys.length:=by omega
  simpa [bh4,h1,h2] using this
 ·intro h j hj
  have h1:j < xs.length:=by omega
  have h2:j < ys.length:=by omega
  have hz:j < (xs.zip ys).length:=by simp; omega
  have:=h _ (bp6 hz)
  rw [List.getElem_zip] at this
  simpa [bh4,h1,h2] using this
theorem aD2 (I:a6 X pins σ H s):∀ (n:Nat) {A:Around}{v w:V}{x y:PV}{a b:Value},A.units+n < cLine->aG X.K M H v x->aG X.K M' H w y->aQ v a->aQ w b->cW n x y=true->SeqAt.EqAt A s a b (bJ n x y):=by
 intro n
 induction n with
 | zero=>
  intro A v w x y a b hu rx ry ra rb o
  cases rx with
  | non=>
   cases ra
   cases ry with
   | non=>cases rb; exact SeqAt.EqAt.same _
   | int i=>obtain ⟨t',rfl⟩:=rb; exact SeqAt.EqAt.none_int _ _
   | _=>cases o
  | bl i=>
   cases ra
   cases ry with
   | bl j=>cases rb; exact SeqAt.EqAt.bool_bool _ _
   | _=>cases o
  | int i=>
   obtain ⟨t,rfl⟩:=ra
   cases ry with
   | int j=>obtain ⟨t',rfl⟩:=rb; exact SeqAt.EqAt.int_int _ _ _ _
   | non=>cases rb; exact SeqAt.EqAt.int_none _ _
   | _=>cases o
  | str i=>
   obtain ⟨t,rfl⟩:=ra
   cases ry with
   | str j=>obtain ⟨t',rfl⟩:=rb; exact SeqAt.EqAt.str_str _ _ _ _
   | _=>cases o
  | _=>cases o
 | succ n ih=>
  intro A v w x y a b hu rx ry ra rb o
  have items:∀ {us ws:List V}{xs ys:List PV}{its its2:List Value},Reps X.K M H us xs->Reps X.K M' H ws ys->aH us its->aH ws its2->((xs.zip ys).all fun p=>cW n p.1 p.2)=true->
    ∀ j (h1:j < its.toArray.size) (h2:j < its2.toArray.size),SeqAt.EqAt A.in1 s its.toArray[j] its2.toArray[j] (bJ n (xs.getD j .non) (ys.getD j .non)):=fun {us ws xs ys its its2} r1 r2 v1 v2 ok j h1 h2=>by
   have l1:=v1.length
   have l2:=v2.length
   have m1:=r1.length
   have m2:=r2.length
   have k1:j < its.length:=by simpa using h1
   have k2:j < its2.length:=by simpa using h2
   have j1:j < us.length:=by omega
   have j2:j < ws.length:=by omega
   have i1:j < xs.length:=by omega
   have i2:j < ys.length:=by omega
   obtain ⟨u,hu',ru⟩:=v1.get (bg9 j1)
   obtain ⟨u2,hu2',ru2⟩:=v2.get (bg9 j2)
   obtain ⟨x,hx,rx⟩:=r1.get (bg9 j1)
   obtain ⟨y,hy,ry⟩:=r2.get (bg9 j2)
   have e1:its.toArray[j]=u:=by
    rw [bg9 k1] at hu'
    simpa using hu'
   have e2:its2.toArray[j]=u2:=by
    rw [bg9 k2] at hu2'
    simpa using hu2'
   have ok':cW n x y=true:=by
    rw [bp7] at ok
    have hz:j < (xs.zip ys).length:=by simp; omega
    have:=ok _ (bp6 hz)
    rw [List.getElem_zip] at this
    rw [bg9 i1] at hx
    rw [bg9 i2] at hy
    cases hx; cases hy
    exact this
   rw [e1,e2]
   have g1:xs.getD j .non=x:=by rw [bh4,hx]; rfl
   have g2:ys.getD j .non=y:=by rw [bh4,hy]; rfl
   rw [g1,g2]
   exact ih (by show A.units+1+n < cLine; omega) rx ry ru ru2 ok'
  have huA:A.units < cLine:=by omega
  cases rx with
  | @kt p us xs h1 r1=>
   obtain ⟨its,v1,p1,_⟩:=I.tuple (.inr h1)
   cases (show a=Value.ref p from ra)
   cases ry with
   | @kt p2 ws ys h2 r2=>
    obtain ⟨its2,v2,p2',_⟩:=I.tuple (.inr h2)
    cases (show b=Value.ref p2 from rb)
    by_cases e:p=p2
    ·subst e
     have:=aG.self (K:=X.K) (M:=M) (M':=M') (n+1) (.kt h1 r1) (.kt h2 r2) o
     rw [this]
     exact SeqAt.EqAt.same _
    ·have:=SeqAt.RcAt.tuples p1 p2' huA (items r1 r2 v1 v2 o)
     refine .of_refs e ?_
     have l1:=v1.length
     have l2:=v2.length
     have m1:=r1.length
     have m2:=r2.length
     rw [bh0,bh0,<- l1,<- l2,m1,m2,iM] at this
     exact this
   | _=>cases o
  | @tup p us xs h1 r1=>
   obtain ⟨its,v1,p1,_⟩:=I.tuple (aF.of (K:=X.K) h1)
   cases (show a=Value.ref p from ra)
   cases ry with
   | @tup p2 ws ys h2 r2=>
    obtain ⟨its2,v2,p2',_⟩:=I.tuple (aF.of (K:=X.K) h2)
    cases (show b=Value.ref p2 from rb)
    by_cases e:p=p2
    ·subst e
     have:=aG.self (K:=X.K) (M:=M) (M':=M') (n+1) (.tup h1 r1) (.tup h2 r2) o
     rw [this]
     exact SeqAt.EqAt.same _
    ·have:=SeqAt.RcAt.tuples p1 p2' huA (items r1 r2 v1 v2 o)
     refine .of_refs e ?_
     have l1:=v1.length
     have l2:=v2.length
     have m1:=r1.length
     have m2:=r2.length
     rw [bh0,bh0,<- l1,<- l2,m1,m2,iM] at this
     exact this
   | non=>cases rb; exact SeqAt.EqAt.tuple_none p1 huA
   | _=>cases o
  | @lst p us xs _ h1 r1=>
   obtain ⟨its,v1,p1,_⟩:=I.list (aI.of (K:=X.K) h1)
   cases (show a=Value.ref p from ra)
   cases ry with
   | @lst p2 ws ys _ h2 r2=>
    obtain ⟨its2,v2,p2',_⟩:=I.list (aI.of (K:=X.K) h2)
    cases (show b=Value.ref p2 from rb)
    have l1:=v1.length
    have l2:=v2.length
    have m1:=r1.length
    have m2:=r2.length
    by_cases e:p=p2
    ·subst e
     rw [h1] at h2; cases h2
     have:=Reps.self n r1 r2 o
     show SeqAt.EqAt A s _ _ ((xs.zip ys).all (fun p=>bJ n p.1 p.2) && xs.length == ys.length)
     rw [this]
     exact SeqAt.EqAt.same _
    ·refine .of_refs e ?_
     by_cases hl:xs.length=ys.length
     ·have:=SeqAt.RcAt.lists p1.isList p2'.isList (by rw [bh0,bh0]; omega) huA (items r1 r2 v1 v2 o)
      have hm:min xs.length ys.length=its.length:=by omega
      rw [bh0,<- hm,iM] at this
      show SeqAt.RcAt A s _ _ ((xs.zip ys).all (fun p=>bJ n p.1 p.2) && xs.length == ys.length)
      rw [show (xs.length == ys.length)=true by simpa using hl,Bool.and_true]
      exact this
     ·have:=SeqAt.RcAt.lists_lengths (A:=A) p1.isList p2'.isList (by rw [bh0,bh0]; simp; omega) huA
      show SeqAt.RcAt A s _ _ ((xs.zip ys).all (fun p=>bJ n p.1 p.2) && xs.length == ys.length)
      rw [show (xs.length == ys.length)=false by simpa using hl,by0]
      exact this
   | _=>cases o
  | non=>
   cases ra
   cases ry with
   | non=>cases rb; exact SeqAt.EqAt.same _
   | int i=>obtain ⟨t',rfl⟩:=rb; exact SeqAt.EqAt.none_int _ _
   | @tup p2 ws ys h2 r2=>
    obtain ⟨its2,v2,p2',_⟩:=I.tuple (aF.of (K:=X.K) h2)
    cases (show b=Value.ref p2 from rb)
    exact SeqAt.EqAt.none_tuple p2' huA
   | _=>cases o
  | bl i=>
   cases ra
   cases ry with
   | bl j=>cases rb; exact SeqAt.EqAt.bool_bool _ _
   | _=>cases o
  | int i=>
   obtain ⟨t,rfl⟩:=ra
   cases ry with
   | int j=>obtain ⟨t',rfl⟩:=rb; exact SeqAt.EqAt.int_int _ _ _ _
   | non=>cases rb; exact SeqAt.EqAt.int_none _ _
   | _=>cases o
  | str i=>
   obtain ⟨t,rfl⟩:=ra
   cases ry with
   | str j=>obtain ⟨t',rfl⟩:=rb; exact SeqAt.EqAt.str_str _ _ _ _
   | _=>cases o
  | _=>cases o
end
structure Bt (mg:Str->Option Value):Prop where
 len:mg "len" = none
 range:mg "range" = none
 tuple:mg "tuple" = none
 list:mg "list" = none
 sorted:mg "sorted" = none
 all:mg "all" = none
 any:mg "any" = none
 zip:mg "zip" = none
 min:mg "min" = none
 max:mg "max" = none
 sum:mg "sum" = none
 isinst:mg "isinstance" = none
 int:mg "int" = none
 bool:mg "bool" = none
 enum:mg "enumerate" = none
section
variable {X : Cx} {a b c e o : Expr} {es cC : List Expr} {ta tb te to tk : aE} {tr : cL} {tA tB' tc : cA} {pos p2 px : Pos} {st : Stmt} {sts : List Stmt} {t u : aK}
theorem gG (B:Bt X.mg) (ha:QA X [e] tr) (hg:Gl X "len":=by rfl) (he:starEach [e] X.env=(false,eval e X.env) :: starEach [] X.env:=by rfl) (hpl:(backTo pos (starEach [] X.env)).any (·.1)=false:=by rfl):QE X (.Call (.Name "len" p2) [e] [] pos) (aC fJ tr):=
 gU (ap8.or as2) az0 hg B.len PySem.boot_len ha (he:=he) (hpl:=hpl)
theorem fS (B:Bt X.mg) (ha:QA X [e] tr) (hg:Gl X "tuple":=by rfl) (he:starEach [e] X.env=(false,eval e X.env) :: starEach [] X.env:=by rfl) (hpl:(backTo pos (starEach [] X.env)).any (·.1)=false:=by rfl):QE X (.Call (.Name "tuple" p2) [e] [] pos) (aC fK tr):=
 vN aq0 az1 hg B.tuple PyProof.Rows.boot_tuple ha (he:=he) (hpl:=hpl)
theorem L6 (B:Bt X.mg) (ha:QA X [e] tr) (hg:Gl X "list":=by rfl) (he:starEach [e] X.env=(false,eval e X.env) :: starEach [] X.env:=by rfl) (hpl:(backTo pos (starEach [] X.env)).any (·.1)=false:=by rfl):QE X (.Call (.Name "list" p2) [e] [] pos) (aC pU tr):=
 vN ap9 az2 hg B.list PyProof.Rows.boot_list ha (he:=he) (hpl:=hpl)
theorem L7 (B:Bt X.mg) (hc:X.calm=true) (ha:QA X [e] tr) (hg:Gl X "all":=by rfl) (he:starEach [e] X.env=(false,eval e X.env) :: starEach [] X.env:=by rfl) (hpl:(backTo pos (starEach [] X.env)).any (·.1)=false:=by rfl):QE X (.Call (.Name "all" p2) [e] [] pos) (aC nK tr):=
 gU (av7 hc) az3 hg B.all PyProof.Rows.boot_all ha (he:=he) (hpl:=hpl)
theorem aD3 (B:Bt X.mg) (hc:X.calm=true) (ha:QA X [a,b] tr) (hg:Gl X "min":=by rfl) (he:starEach [a,b] X.env=(false,eval a X.env) :: starEach [b] X.env:=by rfl) (hpl:(backTo pos (starEach [b] X.env)).any (·.1)=false:=by rfl):QE X (.Call (.Name "min" p2) [a,b] [] pos) (aC vB tr):=
 gU (al8 hc) az4 hg B.min PyProof.Rows.boot_min ha (he:=he) (hpl:=hpl)
theorem L8 (B:Bt X.mg) (hc:X.calm=true) (ha:QA X [a,b] tr) (hg:Gl X "max":=by rfl) (he:starEach [a,b] X.env=(false,eval a X.env) :: starEach [b] X.env:=by rfl) (hpl:(backTo pos (starEach [b] X.env)).any (·.1)=false:=by rfl):QE X (.Call (.Name "max" p2) [a,b] [] pos) (aC pV tr):=
 gU (al7 hc) az5 hg B.max PyProof.Rows.boot_max ha (he:=he) (hpl:=hpl)
theorem L9 (x:Int):∀ (xs:List Int),nA (.int x) (xs.map V.int)=decide (x ∈ xs)
 | []=>by simp [nA]
 | y :: r=>by
  have ih:=L9 x r
  unfold nA at ih ⊢
  rw [bn4,bv9,ih]
  by_cases e:y=x
  ·subst e; simp [gA]
  ·have:gA (.int y) (.int x)=false:=by simpa [gA] using e
   rw [this,Bool.false_or,br0]
   simp [Ne.symm e]
theorem M0:∀ (xs:List Int),(xs.map V.int).all iA=true
 | []=>rfl
 | _ :: r=>by rw [bn4,bt2,M0 r]; rfl
theorem M3 (neg:Bool):dC X (lF neg) (tX X.K neg):=by
 rintro W Hs H u v x y g g' Q Q' s n r1 r2 ⟨i,ns,rfl,e,q⟩ k
 cases r1
 obtain ⟨a,us,rfl,hs,r⟩:=r2.seq e
 obtain rfl:=r.ofInts
 refine⟨a,_,rfl,hs,rfl,M0 ns,?_⟩
 have:=k _ _ _ .fr (aD.refl _) (.bl _) q
 rw [L9]
 cases neg <;> exact this
theorem M4 (ha:QE X a ta) (hb:QE X b tb) (hm:behindInMarks .In b=false:=by rfl):QT X (.Compare a [.In] [b] pos) (aV (q2 (lF false) ta tb)):=gF ap6 (M3 false) ha hb hm
theorem aD4 (ha:QE X a ta) (hb:QE X b tb) (hm:behindInMarks .NotIn b=false:=by rfl):QT X (.Compare a [.NotIn] [b] pos) (aV (q2 (lF true) ta tb)):=gF ap7 (M3 true) ha hb hm
theorem aG.kt_ {K:PySem.W.Frag}{M:Addr->Prop}{H:Hp}{v:V}{xs:List PV} (r:aG K M H v (.kt xs)):∃ a us,v = .ref a/\lA K a us/\Reps K M H us xs:=by
 cases r with
 | kt h r=>exact⟨_,_,rfl,h,r⟩
def M5 (K:PySem.W.Frag) (H:Hp) (x:V) (t:Value):Prop:=eM K H x t ∨ ∃ a us,x = .ref a/\aF K H a us/\t = .type "tuple"
theorem aD5:cD X (.builtin "isinstance") (fun xs H Q=>∃ x t n b,xs = [x,.ty n]/\M5 X.K H x t/\PySem.W.kitOne X.K t (.type n)=some b/\Q (.bl b) H):=by
 intro pins s σ H xs us Q I r h
 obtain ⟨x,t,n,b,rfl,ty,e,q⟩:=h
 rcases ty with ty | ⟨a,ws,rfl,hs,rfl⟩
 ·exact au5 pins s σ H _ us Q I r ⟨x,t,n,b,rfl,ty,e,q⟩
 obtain ⟨u,u',rfl,ru,ru'⟩:=oU r
 cases ru'
 cases (show u=Value.ref a from ru)
 obtain ⟨its,_,⟨o,h1,h2,_⟩,_⟩:=I.tuple hs
 exact bq1 PySem.W.kitx_tuple I.kIn ⟨o,h1,h2⟩ e (fun z=>nomatch z) fun tk=>⟨.bl b,H,I.tok tk,rfl,q⟩
theorem aD6 {K:PySem.W.Frag}{M:Addr->Prop}{H:Hp}{v:V}{x:PV}{T:String} (r:aG K M H v x) (e:J9 x=some T):M5 K H v (.type T):=by
 cases r with
 | non=>cases e; exact .inl .non
 | bl b=>cases e; exact .inl (.bl b)
 | int i=>cases e; exact .inl (.int i)
 | str i=>cases e; exact .inl (.str i)
 | tup h _=>cases e; exact .inl (.tup h)
 | lst _ h _=>cases e; exact .inl (.lst h)
 | kt h _=>cases e; exact .inr ⟨_,_,rfl,.inr h,rfl⟩
 | _=>cases e
theorem vO {x:Str}{n:String} (B:Bt X.mg) (hn:bootBuiltins x=some (.type n)) (hm:X.mg x=none) (ha:QE X a ta) (hg:Gl X "isinstance":=by rfl) (hgx:Gl X x:=by rfl) (hx:x ≠ "__name__":=by decide) (hdx:(x == ("__debug__" : Str))=false:=by decide)
  (he:starEach [a,.Name x px] X.env=(false,eval a X.env) :: starEach [.Name x px] X.env:=by rfl) (he2:starEach [.Name x px] X.env=(false,eval (.Name x px) X.env) :: starEach [] X.env:=by rfl) (hpl:(backTo pos (starEach [.Name x px] X.env)).any (·.1)=false:=by rfl):QE X (.Call (.Name "isinstance" p2) [a,.Name x px] [] pos) (kD X.K n ta):=
 bZ (tR aD5 hg B.isinst PyProof.Rows.boot_isinstance (dX ha (dX (ah4 (v:=.ty n) hgx hm hn rfl hx hdx) fE he2) he) (he:=he) (hpl:=hpl)) fun σ H Q' h=>by
  obtain ⟨W,ρ,Q,px,q,k⟩:=h
  refine⟨W,ρ,_,px,q,?_⟩
  rintro v H1 x g s r ⟨T,b,e,kt,q⟩
  exact⟨v,_,n,b,rfl,aD6 r e,kt,k _ _ _ .fr s (.bl _) q⟩
theorem aD7 (B:Bt X.mg) (ha:QE X a ta) (hg:Gl X "isinstance":=by rfl) (hgx:Gl X "int":=by rfl)
  (he:starEach [a,.Name "int" px] X.env=(false,eval a X.env) :: starEach [.Name "int" px] X.env:=by rfl) (he2:starEach [.Name "int" px] X.env=(false,eval (.Name "int" px) X.env) :: starEach [] X.env:=by rfl) (hpl:(backTo pos (starEach [.Name "int" px] X.env)).any (·.1)=false:=by rfl):QE X (.Call (.Name "isinstance" p2) [a,.Name "int" px] [] pos) (kD X.K "int" ta):=vO B PyProof.Rows.boot_int B.int ha (hg:=hg) (hgx:=hgx) (he:=he) (he2:=he2) (hpl:=hpl)
theorem aD8 (B:Bt X.mg) (ha:QE X a ta) (hg:Gl X "isinstance":=by rfl) (hgx:Gl X "bool":=by rfl)
  (he:starEach [a,.Name "bool" px] X.env=(false,eval a X.env) :: starEach [.Name "bool" px] X.env:=by rfl) (he2:starEach [.Name "bool" px] X.env=(false,eval (.Name "bool" px) X.env) :: starEach [] X.env:=by rfl) (hpl:(backTo pos (starEach [.Name "bool" px] X.env)).any (·.1)=false:=by rfl):QE X (.Call (.Name "isinstance" p2) [a,.Name "bool" px] [] pos) (kD X.K "bool" ta):=vO B PyProof.Rows.boot_bool B.bool ha (hg:=hg) (hgx:=hgx) (he:=he) (he2:=he2) (hpl:=hpl)
theorem aD9 (B:Bt X.mg) (ha:QE X a ta) (hg:Gl X "isinstance":=by rfl) (hgx:Gl X "tuple":=by rfl)
  (he:starEach [a,.Name "tuple" px] X.env=(false,eval a X.env) :: starEach [.Name "tuple" px] X.env:=by rfl) (he2:starEach [.Name "tuple" px] X.env=(false,eval (.Name "tuple" px) X.env) :: starEach [] X.env:=by rfl) (hpl:(backTo pos (starEach [.Name "tuple" px] X.env)).any (·.1)=false:=by rfl):QE X (.Call (.Name "isinstance" p2) [a,.Name "tuple" px] [] pos) (kD X.K "tuple" ta):=vO B PyProof.Rows.boot_tuple B.tuple ha (hg:=hg) (hgx:=hgx) (he:=he) (he2:=he2) (hpl:=hpl)
def nW (K:PySem.W.Frag) (n:Nat) (neg:Bool):R2:=fun v w H Q=>∃ x y,aG K (fun _=>True) H v x/\aG K (fun _=>True) H w y/\((∃ xs ys,x = .tup xs/\y = .tup ys) ∨ (∃ xs ys,x = .lst xs/\y = .lst ys) ∨ (∃ xs ys,x = .kt xs/\y = .kt ys))/\cW (n+1) x y=true/\Q (.bl (if neg=true then !bJ (n+1) x y else bJ (n+1) x y)) H
theorem lU {pins:List (Addr × Obj)}{σ:St}{H:Hp}{s:Shared}{M M':Addr->Prop} (I:a6 X pins σ H s) {n:Nat}{A:Around} (hu:A.units+(n+1) < cLine) {us ws:List V}{xs ys:List PV}{its its2:List Value} (r1:Reps X.K M H us xs) (r2:Reps X.K M' H ws ys) (v1:aH us its) (v2:aH ws its2)
  (ok:((xs.zip ys).all fun p=>cW n p.1 p.2)=true):∀ j (h1:j < its.toArray.size) (h2:j < its2.toArray.size),SeqAt.EqAt A.in1 s its.toArray[j] its2.toArray[j] (bJ n (xs.getD j .non) (ys.getD j .non)):=by
 intro j h1 h2
 have l1:=v1.length
 have l2:=v2.length
 have m1:=r1.length
 have m2:=r2.length
 have k1:j < its.length:=by simpa using h1
 have k2:j < its2.length:=by simpa using h2
 have j1:j < us.length:=by omega
 have j2:j < ws.length:=by omega
 have i1:j < xs.length:=by omega
 have i2:j < ys.length:=by omega
 obtain ⟨u,hu',ru⟩:=v1.get (bg9 j1)
 obtain ⟨u2,hu2',ru2⟩:=v2.get (bg9 j2)
 obtain ⟨x,hx,rx⟩:=r1.get (bg9 j1)
 obtain ⟨y,hy,ry⟩:=r2.get (bg9 j2)
 have e1:its.toArray[j]=u:=by
  rw [bg9 k1] at hu'
  simpa using hu'
 have e2:its2.toArray[j]=u2:=by
  rw [bg9 k2] at hu2'
  simpa using hu2'
 have ok':cW n x y=true:=by
  rw [bp7] at ok
  have hz:j < (xs.zip ys).length:=by simp; omega
  have:=ok _ (bp6 hz)
  rw [List.getElem_zip] at this
  rw [bg9 i1] at hx
  rw [bg9 i2] at hy
  cases hx; cases hy
  exact this
 rw [e1,e2]
 have g1:xs.getD j .non=x:=by rw [bh4,hx]; rfl
 have g2:ys.getD j .non=y:=by rw [bh4,hy]; rfl
 rw [g1,g2]
 exact aD2 I n (by show A.units+1+n < cLine; omega) rx ry ru ru2 ok'
theorem M6 (n:Nat) (hu:X.A.units+(n+1) < cLine):bN X (compareOp .Eq) (nW X.K n false):=by
 intro pins s σ H v w a b Q I ra rb h
 obtain ⟨x,y,rx,ry,kd,o,q⟩:=h
 have hu0:X.A.units < cLine:=by omega
 rcases kd with ⟨xs,ys,rfl,rfl⟩ | ⟨xs,ys,rfl,rfl⟩ | ⟨xs,ys,rfl,rfl⟩
 ·obtain ⟨p,us,rfl,h1,r1⟩:=rx.sqT
  obtain ⟨p2,ws,rfl,h2,r2⟩:=ry.sqT
  cases ra; cases rb
  obtain ⟨its,v1,p1,_⟩:=I.tuple (aF.of (K:=X.K) h1)
  obtain ⟨its2,v2,p2',_⟩:=I.tuple (aF.of (K:=X.K) h2)
  have l1:=v1.length
  have l2:=v2.length
  have m1:=r1.length
  have m2:=r2.length
  have:=SeqAt.RcAt.tuples p1 p2' hu0 (lU I hu r1 r2 v1 v2 o)
  rw [bh0,bh0,<- l1,<- l2,m1,m2,iM] at this
  exact this _ _ _ _ ⟨.bl _,H,I,rfl,q⟩
 ·obtain ⟨p,us,rfl,_,h1,r1⟩:=rx.sqL
  obtain ⟨p2,ws,rfl,_,h2,r2⟩:=ry.sqL
  cases ra; cases rb
  obtain ⟨its,v1,p1,_⟩:=I.list (aI.of (K:=X.K) h1)
  obtain ⟨its2,v2,p2',_⟩:=I.list (aI.of (K:=X.K) h2)
  have l1:=v1.length
  have l2:=v2.length
  have m1:=r1.length
  have m2:=r2.length
  have q:Q (.bl ((xs.zip ys).all (fun p=>bJ n p.1 p.2) && xs.length == ys.length)) H:=q
  by_cases hl:xs.length=ys.length
  ·have:=SeqAt.RcAt.lists p1.isList p2'.isList (by rw [bh0,bh0]; omega) hu0 (lU I hu r1 r2 v1 v2 o)
   have hm:min xs.length ys.length=its.length:=by omega
   rw [bh0,<- hm,iM] at this
   rw [show (xs.length == ys.length)=true by simpa using hl,Bool.and_true] at q
   exact this _ _ _ _ ⟨.bl _,H,I,rfl,q⟩
  ·have:=SeqAt.RcAt.lists_lengths (A:=X.A) p1.isList p2'.isList (by rw [bh0,bh0]; simp; omega) hu0
   rw [show (xs.length == ys.length)=false by simpa using hl,by0] at q
   exact this _ _ _ _ ⟨.bl _,H,I,rfl,q⟩
 ·obtain ⟨p,us,rfl,h1,r1⟩:=rx.kt_
  obtain ⟨p2,ws,rfl,h2,r2⟩:=ry.kt_
  cases ra; cases rb
  obtain ⟨its,v1,p1,_⟩:=I.tuple (.inr h1)
  obtain ⟨its2,v2,p2',_⟩:=I.tuple (.inr h2)
  have l1:=v1.length
  have l2:=v2.length
  have m1:=r1.length
  have m2:=r2.length
  have:=SeqAt.RcAt.tuples p1 p2' hu0 (lU I hu r1 r2 v1 v2 o)
  rw [bh0,bh0,<- l1,<- l2,m1,m2,iM] at this
  exact this _ _ _ _ ⟨.bl _,H,I,rfl,q⟩
theorem M7 (n:Nat) (hu:X.A.units+(n+1) < cLine):bN X (compareOp .NotEq) (nW X.K n true):=by
 intro pins s σ H v w a b Q I ra rb h
 obtain ⟨x,y,rx,ry,kd,o,q⟩:=h
 have hu0:X.A.units < cLine:=by omega
 rcases kd with ⟨xs,ys,rfl,rfl⟩ | ⟨xs,ys,rfl,rfl⟩ | ⟨xs,ys,rfl,rfl⟩
 ·obtain ⟨p,us,rfl,h1,r1⟩:=rx.sqT
  obtain ⟨p2,ws,rfl,h2,r2⟩:=ry.sqT
  cases ra; cases rb
  obtain ⟨its,v1,p1,_⟩:=I.tuple (aF.of (K:=X.K) h1)
  obtain ⟨its2,v2,p2',_⟩:=I.tuple (aF.of (K:=X.K) h2)
  have l1:=v1.length
  have l2:=v2.length
  have m1:=r1.length
  have m2:=r2.length
  have:=SeqAt.RcNeAt.tuples p1 p2' hu0 (lU I hu r1 r2 v1 v2 o)
  rw [bh0,bh0,<- l1,<- l2,m1,m2,iM] at this
  exact this _ _ _ _ ⟨.bl _,H,I,rfl,q⟩
 ·obtain ⟨p,us,rfl,_,h1,r1⟩:=rx.sqL
  obtain ⟨p2,ws,rfl,_,h2,r2⟩:=ry.sqL
  cases ra; cases rb
  obtain ⟨its,v1,p1,_⟩:=I.list (aI.of (K:=X.K) h1)
  obtain ⟨its2,v2,p2',_⟩:=I.list (aI.of (K:=X.K) h2)
  have l1:=v1.length
  have l2:=v2.length
  have m1:=r1.length
  have m2:=r2.length
  have q:Q (.bl (!((xs.zip ys).all (fun p=>bJ n p.1 p.2) && xs.length == ys.length))) H:=q
  by_cases hl:xs.length=ys.length
  ·have:=SeqAt.RcNeAt.lists p1.isList p2'.isList (by rw [bh0,bh0]; omega) hu0 (lU I hu r1 r2 v1 v2 o)
   have hm:min xs.length ys.length=its.length:=by omega
   rw [bh0,<- hm,iM] at this
   rw [show (xs.length == ys.length)=true by simpa using hl,Bool.and_true] at q
   exact this _ _ _ _ ⟨.bl _,H,I,rfl,q⟩
  ·have:=SeqAt.RcNeAt.lists_lengths (A:=X.A) p1.isList p2'.isList (by rw [bh0,bh0]; simp; omega) hu0
   rw [show (xs.length == ys.length)=false by simpa using hl,by0] at q
   exact this _ _ _ _ ⟨.bl _,H,I,rfl,q⟩
 ·obtain ⟨p,us,rfl,h1,r1⟩:=rx.kt_
  obtain ⟨p2,ws,rfl,h2,r2⟩:=ry.kt_
  cases ra; cases rb
  obtain ⟨its,v1,p1,_⟩:=I.tuple (.inr h1)
  obtain ⟨its2,v2,p2',_⟩:=I.tuple (.inr h2)
  have l1:=v1.length
  have l2:=v2.length
  have m1:=r1.length
  have m2:=r2.length
  have:=SeqAt.RcNeAt.tuples p1 p2' hu0 (lU I hu r1 r2 v1 v2 o)
  rw [bh0,bh0,<- l1,<- l2,m1,m2,iM] at this
  exact this _ _ _ _ ⟨.bl _,H,I,rfl,q⟩
theorem qO {n:Nat}{neg:Bool}:dC X (fR n neg) (nW X.K n neg):=by
 rintro W Hs H u v x y g g' Q Q' s n r1 r2 ⟨kd,o,q⟩ k
 exact⟨x,y,r1.same (aD.refl _) fun _ _=>trivial,r2.same (aD.refl _) fun _ _=>trivial,kd.elim .inl fun z=>.inr (.inl z),o,k _ _ _ .fr (aD.refl _) (.bl _) q⟩
theorem aE0 (hu:X.A.units+3 < cLine) (ha:QE X a ta) (hb:QE X b tb):QT X (.Compare a [.Eq] [b] pos) (aV (q2 (fR 2 false) ta tb)):=gF (M6 2 hu) qO ha hb (dU _)
theorem M8 (hu:X.A.units+3 < cLine) (ha:QE X a ta) (hb:QE X b tb):QT X (.Compare a [.NotEq] [b] pos) (aV (q2 (fR 2 true) ta tb)):=gF (M7 2 hu) qO ha hb (dU _)
theorem vP (hu:X.A.units+3 < cLine) (ha:QE X a ta) (hb:QE X b tb):QE X (.Compare a [.Eq] [b] pos) (q2 (fR 2 false) ta tb):=lH (M6 2 hu) qO ha hb (dU _)
end
end PP
namespace PP
open PySem L2 PyProof.Rows
def LO (X:Cx) (t:lG):TO:=fun σ H Q'=>∃ (W:Addr->Prop) (ρ:bE) (Q:Option Int->Prop),PX X.K X.H₀ W σ ρ H/\t ρ Q/\∀ o H',aD H H'->Q o->Q' o H'
def QO (X:Cx) (e:Option Expr) (t:lG):Prop:=PO X e (LO X t)
theorem Reps.cut {K:PySem.W.Frag}{M:Addr->Prop}{H:Hp}{us:List V}{xs:List PV} (r:Reps K M H us xs) (lo hi:Option Int):Reps K M H (g9 us lo hi) (eB xs lo hi):=by
 unfold g9 eB
 rw [r.length]
 exact (r.drop _).take _
section
variable {X : Cx} {a b c e o : Expr} {es cC : List Expr} {ta tb te to tk : aE} {tr : cL} {tA tB' tc : cA} {pos p2 px : Pos} {st : Stmt} {sts : List Stmt} {t u : aK}
theorem vQ:QO X none qH:=fun pins s σ H Q I h=>ao0 pins s σ H Q I (by
 obtain ⟨W,ρ,Q1,px,q,k⟩:=h
 exact k _ _ (aD.refl _) q)
theorem vR (h:QE X e te):QO X (some e) (qI te):=fun pins s σ H Q I hq=>ao1 h pins s σ H Q I (by
 obtain ⟨W,ρ,Q1,px,q,k⟩:=hq
 refine⟨W,ρ,_,px,q,?_⟩
 rintro v H1 x g s r ⟨i,rfl,q⟩
 cases r
 exact⟨i,rfl,k _ _ s q⟩)
theorem vS {lo hi:Option Expr}{tl th:lG}{sp:Pos} (he:QE X e te) (hl:QO X lo tl) (hh:QO X hi th):QE X (.Subscript e (.Slice lo hi none sp) pos) (qJ te tl th):=bZ (ao2 (ap4.or aw0) he hl hh) fun σ H Q' h=>by
 obtain ⟨W,ρ,Q,px,q,k⟩:=h
 refine⟨W,ρ,_,px,q,fun v H1 x g s1 r1 q1=>⟨W,ρ,_,px.mono s1,q1,fun lo H2 s2 q2=>⟨W,ρ,_,px.mono (s1.trans s2),q2,?_⟩⟩⟩
 rintro hi H3 s3 ⟨xs,e,f,q3⟩
 have S:=(s1.trans s2).trans s3
 have r3:=r1.same (M':=Mg X.H₀ W H g) (s2.trans s3) fun _ z=>z
 cases r3 with
 | tup h r=>
  cases e
  refine .inr ⟨_,_,rfl,aF.of h,fun p hp=>k _ _ _ .fr (S.trans (aZ hp _)) (.tup b8 (((r.flat f).cut lo hi).same (aZ hp _) fun _ z=>z)) q3,fun ec=>k _ _ _ .fr S (.tup h ?_) q3⟩
  have:=(r.flat (M':=Mg X.H₀ W H .fr) f).cut lo hi
  rw [ec] at this
  exact this
 | lst m h r=>
  cases e
  exact .inl ⟨_,_,rfl,aI.of h,fun p hp=>k _ _ _ .fr (S.trans (aZ hp _)) (.lst (S.free hp) b8 (((r.flat f).cut lo hi).same (aZ hp _) fun _ z=>z)) q3⟩
 | scr h=>
  cases e
  exact .inl ⟨_,_,rfl,h.sqL,fun p hp=>k _ _ _ .fr (S.trans (aZ hp _)) (.lst (S.free hp) b8 (((Reps.intz _).cut lo hi).same (aZ hp _) fun _ z=>z)) q3⟩
 | _=>cases e
structure Df (P:Program) (w:World) (K:PySem.W.Frag) (mg:Str->Option Value) (base:Heap) (k:Nat) (x:Str) (ps:List Str) (p:bF):Prop where
 ex:∃ f fd,cU P w K mg base dH k f fd ps (nL K p)/\i7 K fd ps []/\PySem.W.keepIn K (.ref f)=true/\mg x=some (.ref f)
theorem aX {k j:Nat}{x:Str}{ps:List Str}{p:bF} (d:Df X.prog X.w X.K X.mg X.base k x ps p) (hr:c9 j X.A) (ha:QA X (e :: es) tr) (hkj:k<=j:=by decide) (hg:Gl X x:=by rfl) (hdb:(x == ("__debug__" : Str))=false:=by decide)
  (he:starEach (e :: es) X.env=(false,eval e X.env) :: starEach es X.env:=by rfl) (hpl:(backTo pos (starEach es X.env)).any (·.1)=false:=by rfl):QE X (.Call (.Name x p2) (e :: es) [] pos) (aC p tr):=by
 obtain ⟨f,fd,F,b,kp,m⟩:=d.ex
 exact bZ (tP F (hr.mono hkj) hg m kp b .nil as0 ha hdb he hpl) fun _ _ _=>az6
theorem vT {K:PySem.W.Frag}{H:Hp}{N:List Str}{vs:List V}{xs:List PV} (r:Reps K (fun _=>True) H vs xs):PX K H (fun _=>False) (L2.fP N vs) (eW N xs) H:=by
 have lr:=r.length
 have own:∀ {i:Nat}{m:Slot},(eW N xs)[i]? = some (some m)->∃ x,xs[i]? = some x/\m = .sh (flat x) x:=fun {i m} h=>by
  unfold eW at h
  by_cases hi:i < xs.length
  ·rw [bn5 (by simpa using hi),bi4] at h
   rw [bg9 hi] at h ⊢
   cases h
   exact⟨_,rfl,rfl⟩
  ·rw [bp5 (by simpa using hi),List.getElem?_replicate] at h
   split at h <;> cases h
 refine⟨by unfold L2.fP eW; simp [lr],aD.refl _,fun a z=>z.elim,fun i m h=>?_,fun i j x y a h1=>?_⟩
 ·obtain ⟨x,hx,rfl⟩:=own h
  obtain ⟨v,hv,rx⟩:=r.at hx
  refine⟨v,?_,pZ (g:=false) (rx.same (aD.refl _) fun _ _ z=>z)⟩
  have hi:i < vs.length:=(bh7.mp hv).1
  unfold L2.fP
  rw [bn5 (by simpa using hi),bi4,hv]; rfl
 ·obtain ⟨x,_,e⟩:=own h1
  cases e
theorem Df.of {P:Program}{w:World}{K:PySem.W.Frag}{mg:Str->Option Value}{base:Heap}{k:Nat}{x:Str}{ps N:List Str}{p:bF}{st:Stmt}{f:Addr}{fd:FuncData} (F:eN K x x st f fd) (m:mg x=some (.ref f)) (S:FnScope N ps (aO st))
  (hb:∀ (kV doc pm:Value) (an:Option Addr) (cdv ct:Value) (us:List Value),us.length=ps.length->bindArgs (PySem.W.fnOf x x (iB st) (dM st) (aO st) .none kV doc pm an cdv ct) ⟨us,[]⟩=pure (ps.zip us))
  (len:∀ xs Q,p xs Q->xs.length=ps.length)
  (body:∀ (cdv:Value) (A:Around) (outer:List Env) (s:Shared) (H:Hp) (E:XK),c9 k (A.deeper (envOfC x (aO st) s.heap.objs.size f cdv))->
   ∃ t,eC (cV dH P w K mg base N x (aO st) f cdv A outer s H E).nox (dM st) t/\∀ xs Q,p xs Q->t { nx:=fun _=>Q .non,rt:=Q } (eW N xs)):Df P w K mg base (k+1) x ps p:=by
 refine⟨f,fd,F.ok S (fun vs H Q E h=>?_) (fun cdv A outer s H vs Q E hr h=>?_),F.binds hb,F.kp,m⟩
 ·obtain ⟨xs,Qp,r,q,_⟩:=h
  rw [r.length]; exact len xs Qp q
 ·obtain ⟨xs,Qp,r,q,k⟩:=h
  obtain ⟨t,ht,hq⟩:=body cdv A outer s H E hr
  refine⟨_,ht,fun _=>False,eW N xs,_,vT r,hq xs Qp q,?_,?_,?_,?_⟩
  ·exact fun W' σ' H' ρ' e px q=>k _ _ _ px.same .non q
  ·exact fun v H' x s r q=>k _ _ _ s r q
  ·exact fun W' σ' H' ρ' e px q=>q
  ·exact fun W' σ' H' ρ' e px q=>q
theorem iN (i:Nat) {x:Str}{tp:Pos}{body:List Stmt}{ti:dP} (hN:X.N.Nodup) (hi:QI X (.Name x tp) e ti) (hb:eC X body t) (hx:X.N[i]? = some x:=by rfl) (hl:hV X.env.scope x:=by first | exact Or.inl rfl | exact Or.inr rfl) (hf:X.fn x=true ∨ X.env.scope.names.lookup x=some .local:=by first | exact .inl rfl | exact .inr rfl)
  (hp:PassesOwn (model X.prog X.w) X.A X.env X.xe:=by exact PassesOwn.never) (hc:X.calm=true:=by rfl) (hs:∀ x,foldedSetIterable e X.env x=pure x:=by intro _; rfl):QS X (.For (.Name x tp) e body [] pos) (eV ti (bY i) t):=
 L5 hp hc hi (i4 hN hx hl hf) (qA _ i) hb hs
theorem aE1 (i j:Nat) {x y:Str}{tp xp yp:Pos}{kt:Nat}{body:List Stmt}{ti:dP} (hN:X.N.Nodup) (hi:QI X (.Tuple [.Name x xp,.Name y yp] kt tp) e ti) (hb:eC X body t) (hx:X.N[i]? = some x:=by rfl) (hy:X.N[j]? = some y:=by rfl) (hlx:hV X.env.scope x:=by first | exact Or.inl rfl | exact Or.inr rfl) (hly:hV X.env.scope y:=by first | exact Or.inl rfl | exact Or.inr rfl)
  (hfx:X.fn x=true ∨ X.env.scope.names.lookup x=some .local:=by first | exact .inl rfl | exact .inr rfl) (hfy:X.fn y=true ∨ X.env.scope.names.lookup y=some .local:=by first | exact .inl rfl | exact .inr rfl)
  (hp:PassesOwn (model X.prog X.w) X.A X.env X.xe:=by exact PassesOwn.never) (hc:X.calm=true:=by rfl) (hs:∀ x,foldedSetIterable e X.env x=pure x:=by intro _; rfl):QS X (.For (.Tuple [.Name x xp,.Name y yp] kt tp) e body [] pos) (eV ti (jH i j) t):=
 L5 hp hc hi (tE hc (kY (i4 hN hx hlx hfx) (kY (i4 hN hy hly hfy) tD))) (vF _ i j) hb hs
abbrev cH:Value->Shared->Prop:=fun _ _=>False
section
variable {scope : Scope} {N : List Str} {fr : List (Option Nat)} {x y : Str} {tp xp yp : Pos} {kt : Nat} {iter elt : Expr} {ti : dP}
theorem vU {ifs:List Expr}{tcs:cA} (he:∀ (s:Shared) (H:Hp) (C:Addr) (fp:List Addr),QE (bI X scope N s H C fp cH) elt te) (hi:∀ (s:Shared) (H:Hp) (C:Addr) (fp:List Addr),j7 (bI X scope N s H C fp cH) ifs (LT (bI X scope N s H C fp cH) tcs))
  (hN:N.Nodup) (h0:N[0]? = some x) (hl:∀ (s:Shared) (H:Hp) (C:Addr) (fp:List Addr),(bI X scope N s H C fp cH).env.scope.names.lookup x=some .local) (s:Shared) (H:Hp) :
  l6 X scope N (.Name x tp) ifs elt s H (dA 0) (LT (X.frm H) tcs) (LE (X.frm H) te):=
 ⟨fun C fp=>i4 (X:=bI X scope N s H C fp cH) hN h0 (.inl (hl s H C fp)) (.inr (hl s H C fp)),fun C fp=>hi s H C fp,fun C fp=>he s H C fp⟩
theorem M9 {Y:Cx}:j7 Y [] (LT Y e9):=fun pins s σ H Q I h=>B8 pins s σ H Q I (aA6 h)
theorem lV (hi:QI X (.Name x tp) iter ti) (he:∀ (s:Shared) (H:Hp) (C:Addr) (fp:List Addr),QE (bI X scope N s H C fp cH) elt te)
  (hc:X.calm=true:=by rfl) (S:cZ X scope N fr:=by exact cZ.of rfl rfl) (hN:N.Nodup:=by decide +kernel) (h0:N[0]? = some x:=by rfl) (hl:∀ (s:Shared) (H:Hp) (C:Addr) (fp:List Addr),(bI X scope N s H C fp cH).env.scope.names.lookup x=some .local:=by intro _ _ _ _; rfl) (hf:fr[0]? = some none:=by rfl)
  (hs:∀ x,foldedSetIterable iter X.env x=pure x:=by intro _; rfl):QE X (.ListComp elt [⟨.Name x tp,iter,[],0⟩] scope pos) (cP ti fr (bY 0) e9 te):=
 bZ (uL (gh:=fun _=>dA 0) (tch:=fun H=>LT (X.frm H) e9) (teh:=fun H=>LE (X.frm H) te) hc S hi (vU he (fun _ _ _ _=>M9) hN h0 hl) hs) fun _ _ _=>nN (qA _ 0) (fun i e=>by subst e; exact hf)
theorem lW {c:Expr}{tcs:cA} (hi:QI X (.Name x tp) iter ti) (ht:∀ (s:Shared) (H:Hp) (C:Addr) (fp:List Addr),QT (bI X scope N s H C fp cH) c tcs) (he:∀ (s:Shared) (H:Hp) (C:Addr) (fp:List Addr),QE (bI X scope N s H C fp cH) elt te)
  (hc:X.calm=true:=by rfl) (S:cZ X scope N fr:=by exact cZ.of rfl rfl) (hN:N.Nodup:=by decide +kernel) (h0:N[0]? = some x:=by rfl) (hl:∀ (s:Shared) (H:Hp) (C:Addr) (fp:List Addr),(bI X scope N s H C fp cH).env.scope.names.lookup x=some .local:=by intro _ _ _ _; rfl) (hf:fr[0]? = some none:=by rfl)
  (hs:∀ x,foldedSetIterable iter X.env x=pure x:=by intro _; rfl):QE X (.ListComp elt [⟨.Name x tp,iter,[c],0⟩] scope pos) (cP ti fr (bY 0) tcs te):=
 bZ (uL (gh:=fun _=>dA 0) (tch:=fun H=>LT (X.frm H) tcs) (teh:=fun H=>LE (X.frm H) te) hc S hi (vU he (fun s H C fp=>uG (ht s H C fp)) hN h0 hl) hs) fun _ _ _=>nN (qA _ 0) (fun i e=>by subst e; exact hf)
theorem aE2 {c:Expr}{tcs:cA}{i:Nat}{z:Str}{zp:Pos} (nd:X.N.Nodup) (hi:QI X (.Name x tp) iter ti) (ht:∀ (s:Shared) (H:Hp) (C:Addr) (fp:List Addr),QT (bI X scope N s H C fp cH) c tcs) (he:∀ (s:Shared) (H:Hp) (C:Addr) (fp:List Addr),QE (bI X scope N s H C fp cH) elt te)
  (hz:X.N[i]? = some z:=by rfl) (hzl:X.env.scope.names.lookup z=some .local:=by rfl) (hsw:swapsWith (.ListComp elt [⟨.Name x tp,iter,[c],0⟩] scope p2) (some (.Name z zp)) pos.line X.env=pure true:=by rfl)
  (hc:X.calm=true:=by rfl) (S:cZ X scope N fr:=by exact cZ.of rfl rfl) (hN:N.Nodup:=by decide +kernel) (h0:N[0]? = some x:=by rfl) (hl:∀ (s:Shared) (H:Hp) (C:Addr) (fp:List Addr),(bI X scope N s H C fp cH).env.scope.names.lookup x=some .local:=by intro _ _ _ _; rfl) (hf:fr[0]? = some none:=by rfl)
  (hs:∀ x,foldedSetIterable iter X.env x=pure x:=by intro _; rfl):QS X (.Assign [.Name z zp] (.ListComp elt [⟨.Name x tp,iter,[c],0⟩] scope p2) pos) (bM i (cP ti fr (bY 0) tcs te)):=
 dQ (B9 (gh:=fun _=>dA 0) (tch:=fun H=>LT (X.frm H) tcs) (teh:=fun H=>LE (X.frm H) te) hc S hi (vU he (fun s H C fp=>uG (ht s H C fp)) hN h0 hl) nd hz hzl hsw hs) fun D σ H h=>nN (qA _ 0) (fun i e=>by subst e; exact hf) (v7 h)
end
theorem aE3 (i:Nat) {x:Str}{apos cpos xpos:Pos} (he:QE X e te) (hm:M1 X (.Name x xpos) "update" apos e cpos:=by exact⟨rfl,rfl,rfl,rfl⟩) (hN:X.N[i]? = some x:=by rfl) (hv:fZ X.env.scope x:=by first | exact Or.inl rfl | exact Or.inr (Or.inl rfl) | exact Or.inr (Or.inr rfl)) (hd:(x == ("__debug__" : Str))=false:=by decide) (hcd:(x == ("__classdict__" : Str))=false:=by decide)
  (hsw:swapsWith (.Call (.Attribute (.Name x xpos) "update" apos) [e] [] cpos) none pos.line X.env=pure false:=by rfl):QS X (.Expr (.Call (.Attribute (.Name x xpos) "update" apos) [e] [] cpos) pos) (vI i te):=
 dQ (mK (aw4 (iY hN hv hd hcd) he hm) hsw) fun _ _ _=>aB4
end
end PP
namespace SO
open PySem PyProof.Rows
section
variable (rk : Keyed → Int)
def Kr (xs:Array Keyed) (i:Nat):Int:=((xs[i]?).map rk).getD 0
def Up (xs:Array Keyed) (lo hi:Nat):Prop:=∀ i j,lo<=i->i<=j->j < hi->Kr rk xs i<=Kr rk xs j
def Dn (xs:Array Keyed) (lo hi:Nat):Prop:=∀ i j,lo<=i->i<=j->j < hi->Kr rk xs j<=Kr rk xs i
end
variable {rk : Keyed → Int}
theorem kK {xs ys:Array Keyed}{i j:Nat} (h:xs[i]? = ys[j]?):Kr rk xs i=Kr rk ys j:=by unfold Kr; rw [h]
theorem qP {xs:Array Keyed}{i j:Nat} (hj:j<=xs.size) (k:Nat):Kr rk (mirror xs i j ((j - i) / 2)) k=Kr rk xs (if i<=k/\k < j then i+j - 1 - k else k):=by
 refine kK ?_
 rw [getElem?_mirror_all hj]
 split <;> rfl
theorem vV {xs:Array Keyed}{i j:Nat} (hj:j<=xs.size) (e:∀ k,i<=k->k < j->Kr rk xs k=Kr rk xs (j - 1)) (k:Nat):Kr rk (mirror xs i j ((j - i) / 2)) k=Kr rk xs k:=by
 rw [qP hj]
 split
 ·rename_i h; rw [e k h.1 h.2,e _ (by omega) (by omega)]
 ·rfl
theorem aE4 {xs:Array Keyed}{src d:Nat} (hs:src < xs.size) (hd:d<=src) (k:Nat):Kr rk (bubble xs src d) k=Kr rk xs (if k=src - d then src else if src - d < k/\k<=src then k - 1 else k):=by
 refine kK ?_
 rw [getElem?_bubble hs d hd]
 repeat' split
 all_goals rfl
structure SB (κ:SortKind) (a0:Array Keyed) (pd:Array (Nat × Nat × Nat)) (st:SortSt):Prop where
 pm:(arrOf st).Perm a0
 kd:kindOf st=κ
 ok:failedOf st=none
 pd:pendingOf st=pd
section
variable {κ : SortKind} {a0 : Array Keyed} {pd : Array (Nat × Nat × Nat)} {st : SortSt} {prog : Program} {w : World} {A : Around} {E : Value → Shared → Prop} {s : Shared} {Ok : Keyed → Prop}
theorem SB.sz (h:SB κ a0 pd st):(arrOf st).size=a0.size:=h.pm.size_eq
theorem SB.put (h:SB κ a0 pd st) {xs:Array Keyed} (hp:xs.Perm (arrOf st)):SB κ a0 pd (setArr st xs):=⟨hp.trans h.pm,h.kd,h.ok,h.pd⟩
def cE (prog:Program) (w:World) (A:Around) (E:Value->Shared->Prop) (s:Shared) (κ:SortKind) (Ok:Keyed->Prop) (rk:Keyed->Int):Prop:=
 ∀ (x y:Keyed),Ok x->Ok y->∀ (st:SortSt) (Q:Option Bool->SortSt->Prop),kindOf st=κ->Q (some (decide (rk x < rk y))) st->wpS (model prog w) A E s (lt' x y) Q st
def bK (Ok:Keyed->Prop) (xs:Array Keyed):Prop:=∀ x ∈ xs,Ok x
theorem SB.all (h:SB κ a0 pd st) (o:bK Ok a0):bK Ok (arrOf st):=fun x hx=>o x (h.pm.mem_iff.mp hx)
theorem cQ {xs:Array Keyed}{i:Nat}{Q:Keyed->SortSt->Prop} (hi:i < xs.size) (h:Q xs[i] st):wpS (model prog w) A E s (elem' xs i) Q st:=by
 rw [elem'_eq,getElem?_pos xs i hi]; exact bj0 h
theorem bV {xs:Array Keyed}{i:Nat} (hi:i < xs.size):Kr rk xs i=rk xs[i]:=by unfold Kr; rw [getElem?_pos xs i hi]; rfl
theorem nX (c:cE prog w A E s κ Ok rk) (o:bK Ok a0) (b:SB κ a0 pd st) {i j:Nat}{Q:Option Bool->SortSt->Prop} (hi:i < a0.size) (hj:j < a0.size)
  (h:Q (some (decide (Kr rk (arrOf st) i < Kr rk (arrOf st) j))) st):wpS (model prog w) A E s (ltAt' i j) Q st:=by
 have hi':i < (arrOf st).size:=by rw [b.sz]; exact hi
 have hj':j < (arrOf st).size:=by rw [b.sz]; exact hj
 rw [ltAt'_eq]
 refine bi1 (wpS_get (bi1 (cQ hi' (bi1 (cQ hj' ?_)))))
 refine c _ _ (b.all o _ (bn3 hi')) (b.all o _ (bn3 hj')) st Q b.kd ?_
 rw [<- bV (rk:=rk) hi',<- bV (rk:=rk) hj']; exact h
theorem qQ {i j:Nat}{Q:Unit->SortSt->Prop} (h:Q () (setArr st (mirror (arrOf st) i j ((j - i) / 2)))):wpS (model prog w) A E s (reverseSlice' i j) Q st:=by
 rw [reverseSlice'_eq]; exact wpS_modify h
abbrev CS:=Option (Option Nat) × Nat
abbrev DS:=Option (Option Nat) × Nat × Nat
def nY (lo b nrem:Nat):StateT SortSt Sem CS:=forIn [b:nrem] ((none,b):CS) fun _ r=>do
 match <- ltAt' (lo+r.2) (lo+r.2 - 1) with
 | some q=>if q=true then pure (ForInStep.done (none,r.2)) else pure (ForInStep.yield (none,r.2+1))
 | _=>pure (ForInStep.done (some none,r.2))
def vW (lo b nrem:Nat):StateT SortSt Sem DS:=forIn [b:nrem] ((none,b,0):DS) fun _ r=>do
 match <- ltAt' (lo+r.2.1) (lo+r.2.1 - 1) with
 | some q=>
  if q=true then (if r.2.2 > 0 then do reverseSlice' (lo+r.2.1 - (r.2.2+1)) (lo+r.2.1); pure (ForInStep.yield (none,r.2.1+1,0)) else pure (ForInStep.yield (none,r.2.1+1,0)))
  else do
   match <- ltAt' (lo+r.2.1 - 1) (lo+r.2.1) with
   | some q=>if q=true then pure (ForInStep.done (none,r.2.1,r.2.2)) else pure (ForInStep.yield (none,r.2.1+1,r.2.2+1))
   | _=>pure (ForInStep.done (some none,r.2.1,r.2.2))
 | _=>pure (ForInStep.done (some none,r.2.1,r.2.2))
theorem N0 (c:cE prog w A E s κ Ok rk) (o:bK Ok a0) (b:SB κ a0 pd st) {lo n nrem:Nat}{Q:CS->SortSt->Prop} (hz:lo+nrem<=a0.size) (h1:1<=n) (hn:n<=nrem) (u:Up rk (arrOf st) lo (lo+n))
  (h:∀ m,n<=m->m<=nrem->Up rk (arrOf st) lo (lo+m)->(m=nrem ∨ Kr rk (arrOf st) (lo+m) < Kr rk (arrOf st) (lo+m - 1))->Q (none,m) st):wpS (model prog w) A E s (nY lo n nrem) Q st:=by
 unfold nY
 refine bq0 (I:=fun x r st'=>st'=st/\r=(none,x)/\Up rk (arrOf st) lo (lo+x)) ?_ ?_ ⟨rfl,rfl,u⟩
 ·rintro x r st' hx hx' ⟨rfl,rfl,u'⟩
  refine bi1 (nX c o b (by omega) (by omega) ?_)
  by_cases hq:Kr rk (arrOf st') (lo+x) < Kr rk (arrOf st') (lo+x - 1)
  ·rw [bi2 hq]
   exact bj0 (h x hx (by omega) u' (.inr hq))
  ·rw [bh3 hq]
   refine bj0 ⟨rfl,rfl,fun i j hi hij hj=>?_⟩
   rcases bm6 j (lo+x) with z | z
   ·exact u' i j hi hij z
   ·have ej:j=lo+x:=by omega
    subst ej
    rcases bw6 hij with z | z
    ·rw [z]; exact bw0 _
    ·have:=u' i (lo+x - 1) hi (by omega) (by omega)
     omega
 ·rintro r st' ⟨rfl,rfl,u'⟩
  have em:max n nrem=nrem:=by omega
  rw [em] at u' ⊢
  exact h nrem hn (bh1 _) u' (.inl rfl)
structure nZ (rk:Keyed->Int) (xs ys:Array Keyed) (lo m q:Nat):Prop where
 dn:Dn rk ys lo (lo+m)
 le:q+1<=m
 eq:∀ i,lo+m - (q+1)<=i->i < lo+m->Kr rk ys i=Kr rk ys (lo+m - 1)
 low:∀ i,i < lo->Kr rk ys i=Kr rk xs i
theorem aE5 (c:cE prog w A E s κ Ok rk) (o:bK Ok a0) (b:SB κ a0 pd st) {lo n nrem:Nat}{xs:Array Keyed}{Q:DS->SortSt->Prop} (hz:lo+nrem<=a0.size) (h1:1<=n) (hn:n<=nrem) (u:nZ rk xs (arrOf st) lo n 0)
  (h:∀ m q st',SB κ a0 pd st'->n<=m->m<=nrem->nZ rk xs (arrOf st') lo m q->Q (none,m,q) st'):wpS (model prog w) A E s (vW lo n nrem) Q st:=by
 unfold vW
 refine bq0 (I:=fun x r st'=>∃ q,r=(none,x,q)/\SB κ a0 pd st'/\nZ rk xs (arrOf st') lo x q) ?_ ?_ ⟨0,rfl,b,u⟩
 ·rintro x r st' hx hx' ⟨q,rfl,b',f⟩
  have sz:=b'.sz
  dsimp only
  refine bi1 (nX c o b' (by omega) (by omega) ?_)
  by_cases hq:Kr rk (arrOf st') (lo+x) < Kr rk (arrOf st') (lo+x - 1)
  ·rw [bi2 hq]
   have nx:∀ ys:Array Keyed,(∀ k,Kr rk ys k=Kr rk (arrOf st') k)->nZ rk xs ys lo (x+1) 0:=fun ys e=>by
    refine⟨fun i j hi hij hj=>?_,by omega,fun i h1 h2=>by rw [show i=lo+(x+1) - 1 by omega],fun i hi=>(e i).trans (f.low i hi)⟩
    rw [e,e]
    rcases bm6 j (lo+x) with z | z
    ·exact f.dn i j hi hij z
    ·have ej:j=lo+x:=by omega
     subst ej
     rcases bw6 hij with z | z
     ·rw [z]; exact bw0 _
     ·have:=f.dn i (lo+x - 1) hi (by omega) (by omega)
      omega
   dsimp only
   rw [if_pos rfl]
   by_cases hp:q > 0
   ·rw [if_pos hp]
    exact bi1 (qQ (bj0 ⟨0,rfl,b'.put (mirror_perm _ _ _ _),nx _ (vV (by omega) f.eq)⟩))
   ·rw [if_neg hp]
    exact bj0 ⟨0,rfl,b',nx _ fun _=>rfl⟩
  ·rw [bh3 hq]
   dsimp only
   rw [if_neg bi7]
   refine bi1 (nX c o b' (by omega) (by omega) ?_)
   by_cases hl:Kr rk (arrOf st') (lo+x - 1) < Kr rk (arrOf st') (lo+x)
   ·rw [bi2 hl]
    exact bj0 (h x q st' b' hx (by omega) f)
   ·rw [bh3 hl]
    have ex:Kr rk (arrOf st') (lo+x)=Kr rk (arrOf st') (lo+x - 1):=by omega
    refine bj0 ⟨q+1,rfl,b',fun i j hi hij hj=>?_,by have:=f.le; omega,fun i h1 h2=>?_,f.low⟩
    ·rcases bm6 j (lo+x) with z | z
     ·exact f.dn i j hi hij z
     ·have ej:j=lo+x:=by omega
      subst ej
      rcases bw6 hij with z | z
      ·rw [z]; exact bw0 _
      ·rw [ex]; exact f.dn i (lo+x - 1) hi (by omega) (by omega)
    ·rw [show lo+(x+1) - 1=lo+x by omega]
     rcases bm6 i (lo+x) with z | z
     ·rw [ex]; exact f.eq i (by omega) z
     ·rw [show i=lo+x by omega]
 ·rintro r st' ⟨q,rfl,b',f⟩
  have em:max n nrem=nrem:=by omega
  rw [em] at f ⊢
  exact h nrem q st' b' hn (bh1 _) f
theorem N1 (c:cE prog w A E s κ Ok rk) (o:bK Ok a0) (b:SB κ a0 pd st) {lo nrem:Nat} (n:Nat) {xs:Array Keyed}{Q:Option Nat->SortSt->Prop}{K:DS->StateT SortSt Sem (Option Nat)}{k:CS->StateT SortSt Sem (Option Nat)} (hz:lo+nrem<=a0.size) (hn:n+1<=nrem)
  (hK:∀ m q,K (none,m,q)=if q > 0 then reverseSlice' (lo+m - (q+1)) (lo+m) >>= fun _=>reverseSlice' lo (lo+m) >>= fun _=>nY lo m nrem >>= k else reverseSlice' lo (lo+m) >>= fun _=>nY lo m nrem >>= k)
  (hk:∀ m,k (none,m)=pure (some m)) (u:nZ rk xs (arrOf st) lo (n+1) 0)
  (h:∀ m st',SB κ a0 pd st'->1<=m->m<=nrem->Up rk (arrOf st') lo (lo+m)->(∀ i,i < lo->Kr rk (arrOf st') i=Kr rk xs i)->Q (some m) st'):wpS (model prog w) A E s (liftM (rule "list.sort.descending-run") >>= fun _=>vW lo (n+1) nrem >>= K) Q st:=by
 refine bi1 (wpS_lift (bu1 ⟨rfl,?_⟩))
 refine bi1 (aE5 c o b hz (by omega) hn u fun m q st1 b1 m1 m2 f=>?_)
 have fin:∀ st2:SortSt,SB κ a0 pd st2->(∀ k,Kr rk (arrOf st2) k=Kr rk (arrOf st1) k)->
   wpS (model prog w) A E s (reverseSlice' lo (lo+m) >>= fun _=>nY lo m nrem >>= k) Q st2:=fun st2 b2 e=>by
  have sz:=b2.sz
  have low:∀ i,i < lo->Kr rk (mirror (arrOf st2) lo (lo+m) ((lo+m - lo) / 2)) i=Kr rk xs i:=fun i hi=>by
   rw [qP (by omega),if_neg (by omega),e]
   exact f.low i hi
  refine bi1 (qQ (bi1 (N0 (κ:=κ) c o (b2.put (mirror_perm _ _ _ _)) hz (by omega) m2 ?_ fun m' h1 h2 up _=>by rw [hk]; exact bj0 (h m' _ (b2.put (mirror_perm _ _ _ _)) (by omega) h2 up low))))
  ·intro i j hi hij hj
   show Kr rk (mirror (arrOf st2) lo (lo+m) _) i<=Kr rk (mirror (arrOf st2) lo (lo+m) _) j
   rw [qP (by omega),qP (by omega),if_pos (by omega),if_pos (by omega),e,e]
   exact f.dn _ _ (by omega) (by omega) (by omega)
 rw [hK]
 by_cases hp:q > 0
 ·rw [if_pos hp]
  have sz:=b1.sz
  exact bi1 (qQ (fin _ (b1.put (mirror_perm _ _ _ _)) (vV (by omega) f.eq)))
 ·rw [if_neg hp]
  exact fin st1 b1 fun _=>rfl
theorem aE6 (c:cE prog w A E s κ Ok rk) (o:bK Ok a0) (b:SB κ a0 pd st) {lo nrem:Nat}{Q:Option Nat->SortSt->Prop} (hz:lo+nrem<=a0.size) (h1:1<=nrem)
  (h:∀ m st',SB κ a0 pd st'->1<=m->m<=nrem->Up rk (arrOf st') lo (lo+m)->(∀ i,i < lo->Kr rk (arrOf st') i=Kr rk (arrOf st) i)->Q (some m) st'):wpS (model prog w) A E s (countRun' lo nrem) Q st:=by
 rw [countRun'_eq]
 refine bi1 (N0 (n:=1) c o b hz (bh1 _) h1 (fun i j hi hij hj=>by rw [show i=j by omega]; exact bw0 _) fun n n1 n2 un on=>?_)
 dsimp only
 by_cases en:(n == nrem)=true
 ·rw [if_pos en]
  exact bj0 (h n st b n1 n2 un fun _ _=>rfl)
 ·rw [if_neg en]
  have en':n ≠ nrem:=by simpa using en
  have lt:=on.resolve_left en'
  have sz:=b.sz
  by_cases g:n > 1
  ·rw [if_pos g]
   refine bi1 (nX c o b (by omega) (by omega) ?_)
   by_cases hq:Kr rk (arrOf st) lo < Kr rk (arrOf st) (lo+n - 1)
   ·rw [bi2 hq]
    exact bj0 (h n st b n1 n2 un fun _ _=>rfl)
   ·rw [bh3 hq]
    dsimp only
    rw [if_neg bi7]
    have all:∀ k,lo<=k->k < lo+n->Kr rk (arrOf st) k=Kr rk (arrOf st) (lo+n - 1):=fun k k1 k2=>by
     have a1:=un lo k (bh1 _) k1 k2
     have a2:=un k (lo+n - 1) k1 (by omega) (by omega)
     omega
    have sm:=vV (rk:=rk) (xs:=arrOf st) (i:=lo) (j:=lo+n) (by omega) all
    refine bi1 (qQ (N1 (xs:=arrOf st) (κ:=κ) c o (b.put (mirror_perm _ _ _ _)) n hz (by omega) (fun _ _=>rfl) (fun _=>rfl) ⟨fun i j hi hij hj=>?_,by omega,fun i h1 h2=>by rw [show i=lo+(n+1) - 1 by omega],fun i _=>sm i⟩ h))
    show Kr rk (mirror (arrOf st) lo (lo+n) _) j<=Kr rk (mirror (arrOf st) lo (lo+n) _) i
    rw [sm,sm]
    rcases bm6 j (lo+n) with z | z
    ·rw [all i hi (by omega),all j (by omega) z]; exact bw0 _
    ·have ej:j=lo+n:=by omega
     subst ej
     rcases bw6 hij with z | z
     ·rw [z]; exact bw0 _
     ·rw [all i hi (by omega)]; exact Int.le_of_lt lt
  ·rw [if_neg g]
   have e1:n=1:=by omega
   subst e1
   refine N1 (xs:=arrOf st) c o b 1 hz (by omega) (fun _ _=>rfl) (fun _=>rfl) ⟨fun i j hi hij hj=>?_,by omega,fun i h1 h2=>by rw [show i=lo+(1+1) - 1 by omega],fun i _=>rfl⟩ h
   rcases bw6 hij with z | z
   ·rw [z]; exact bw0 _
   ·have ei:i=lo+1 - 1:=by omega
    have ej:j=lo+1:=by omega
    rw [ei,ej]; exact Int.le_of_lt lt
theorem aE7 (c:cE prog w A E s κ Ok rk) (o:bK Ok a0) (b:SB κ a0 pd st) {lo n q:Nat}{Q:Bool->SortSt->Prop} (hz:lo+n<=a0.size) (hq:q<=n) (u:Up rk (arrOf st) lo (lo+q))
  (h:∀ st',SB κ a0 pd st'->Up rk (arrOf st') lo (lo+n)->(∀ i,i < lo->Kr rk (arrOf st') i=Kr rk (arrOf st) i)->Q true st'):wpS (model prog w) A E s (binarySort' lo n q) Q st:=by
 rw [binarySort'_eq]
 refine bi1 (bx2 (bq0 (I:=fun k r st'=>r=(none,())/\SB κ a0 pd st'/\Up rk (arrOf st') lo (lo+min k n)/\∀ i,i < lo->Kr rk (arrOf st') i=Kr rk (arrOf st) i)
  (Q:=fun r st'=>r=(none,())/\SB κ a0 pd st'/\Up rk (arrOf st') lo (lo+n)/\∀ i,i < lo->Kr rk (arrOf st') i=Kr rk (arrOf st) i) ?_ ?_ ?_) ?_)
 ·rintro k r st1 hk hkn ⟨rfl,b1,u1,l1⟩
  rw [show min k n=k by omega] at u1
  have hk0:lo+k < a0.size:=by omega
  have sz:=b1.sz
  refine bi1 (bx2 (bq0 (I:=fun x r st'=>st'=st1/\∃ l g,r=(none,l,g)/\l<=g/\g<=k/\g - l<=k - x/\(∀ i,i < l->Kr rk (arrOf st1) (lo+i)<=Kr rk (arrOf st1) (lo+k))/\∀ i,g<=i->i < k->Kr rk (arrOf st1) (lo+k) < Kr rk (arrOf st1) (lo+i))
   (Q:=fun r st'=>st'=st1/\∃ l g,r=(none,l,g)/\l<=k/\(∀ i,i < l->Kr rk (arrOf st1) (lo+i)<=Kr rk (arrOf st1) (lo+k))/\∀ i,l<=i->i < k->Kr rk (arrOf st1) (lo+k) < Kr rk (arrOf st1) (lo+i)) ?_ ?_ ?_) ?_)
  ·rintro x r st2 _ hx ⟨rfl,l,g,rfl,d1,d2,d3,f1,f2⟩
   dsimp only
   by_cases hlg:l >= g
   ·rw [if_pos hlg]
    have e:g=l:=by omega
    subst e
    exact bj0 ⟨rfl,g,g,rfl,d2,f1,f2⟩
   ·rw [if_neg hlg]
    refine bi1 (nX c o b1 hk0 (by omega) ?_)
    by_cases hc:Kr rk (arrOf st2) (lo+k) < Kr rk (arrOf st2) (lo+(l+g) / 2)
    ·rw [bi2 hc]
     refine bj0 ⟨rfl,l,(l+g) / 2,rfl,by omega,by omega,by omega,f1,fun i i1 i2=>?_⟩
     have:=u1 (lo+(l+g) / 2) (lo+i) (by omega) (by omega) (by omega)
     omega
    ·rw [bh3 hc]
     refine bj0 ⟨rfl,(l+g) / 2+1,g,rfl,by omega,d2,by omega,fun i i1=>?_,f2⟩
     have:=u1 (lo+i) (lo+(l+g) / 2) (by omega) (by omega) (by omega)
     omega
  ·rintro r st2 ⟨rfl,l,g,rfl,d1,d2,d3,f1,f2⟩
   have e:g=l:=by omega
   subst e
   exact⟨rfl,g,g,rfl,d2,f1,f2⟩
  ·exact⟨rfl,0,k,rfl,by omega,by omega,by omega,fun i hi=>absurd hi (by omega),fun i i1 i2=>absurd i1 (by omega)⟩
  ·rintro r st2 ⟨rfl,l,g,rfl,d,f1,f2⟩
   dsimp only
   rw [moveDown'_eq]
   have kb:∀ i,Kr rk (bubble (arrOf st2) (lo+k) (lo+k - (lo+l))) i=Kr rk (arrOf st2) (if i=lo+l then lo+k else if lo+l < i/\i<=lo+k then i - 1 else i):=fun i=>by
    rw [aE4 (by omega) (by omega),show lo+k - (lo+k - (lo+l))=lo+l by omega]
   refine bi1 (wpS_modify (bj0 ⟨rfl,b1.put (bubble_perm _ _ _),fun i j hi hij hj=>?_,fun i hi=>?_⟩))
   ·show Kr rk (bubble (arrOf st2) (lo+k) (lo+k - (lo+l))) i<=Kr rk (bubble (arrOf st2) (lo+k) (lo+k - (lo+l))) j
    rw [kb,kb]
    rw [show min (k+1) n=k+1 by omega] at hj
    have v1:∀ p,lo<=p->p < lo+l->Kr rk (arrOf st2) p<=Kr rk (arrOf st2) (lo+k):=fun p p1 p2=>by have:=f1 (p - lo) (by omega); rwa [show lo+(p - lo)=p by omega] at this
    have v2:∀ p,lo+l<=p->p < lo+k->Kr rk (arrOf st2) (lo+k) < Kr rk (arrOf st2) p:=fun p p1 p2=>by have:=f2 (p - lo) (by omega) (by omega); rwa [show lo+(p - lo)=p by omega] at this
    repeat' split
    all_goals first
     | (exfalso; omega)
     | exact bw0 _
     | exact v1 _ (by omega) (by omega)
     | exact Int.le_of_lt (v2 _ (by omega) (by omega))
     | exact u1 _ _ (by omega) (by omega) (by omega)
   ·show Kr rk (bubble (arrOf st2) (lo+k) (lo+k - (lo+l))) i=_
    rw [kb,if_neg (by omega),if_neg (by omega)]
    exact l1 i hi
 ·rintro r st1 ⟨rfl,b1,u1,l1⟩
  rw [show min (max (max q 1) n) n=n by omega] at u1
  exact⟨rfl,b1,u1,l1⟩
 ·refine⟨rfl,b,fun i j hi hij hj=>?_,fun _ _=>rfl⟩
  rcases bm6 j (lo+q) with z | z
  ·exact u i j hi hij z
  ·rw [show i=j by omega]; exact bw0 _
 ·rintro r st1 ⟨rfl,b1,u1,l1⟩
  exact bj0 (h st1 b1 u1 l1)
end
def jL:Bool->Keyed->Array Keyed->Nat->Nat->Nat->StateT SortSt Sem (Option Nat):=sortPriv% PySem.Builtin.gallop
def kL (lf:Bool) (key:Keyed) (xs:Array Keyed) (bs i:Nat):StateT SortSt Sem (Option Bool):=do
 let z <- elem' xs (bs+i)
 if lf then lt' z key else return (<- lt' key z).map (!·)
theorem aE8 (lf:Bool) (key:Keyed) (xs:Array Keyed) (bs n h:Nat):jL lf key xs bs n h=(do
 let mut la:=0
 let mut of:=1
 let mut l:=0
 let mut g:=0
 let some rt <- kL lf key xs bs h | return none
 if rt then
  let mx:=n - h
  for _ in [0:n] do
   if of >= mx then break
   let some mr <- kL lf key xs bs (h+of) | return none
   if !mr then break
   la:=of
   of:=2 * of+1
  l:=h+la+1
  g:=h+min of mx
 else
  let mx:=h+1
  for _ in [0:n] do
   if of >= mx then break
   let some fd <- kL lf key xs bs (h - of) | return none
   if fd then break
   la:=of
   of:=2 * of+1
  l:=h+1 - min of mx
  g:=h - la
 for _ in [0:n] do
  if l >= g then break
  let m:=l+(g - l) / 2
  let some mr <- kL lf key xs bs m | return none
  if mr then l:=m+1 else g:=m
 return some g):=rfl
section
variable {rk : Keyed → Int} {κ : SortKind} {st : SortSt} {prog : Program} {w : World} {A : Around} {E : Value → Shared → Prop} {s : Shared} {Ok : Keyed → Prop}
def bQ (rk:Keyed->Int) (lf:Bool) (key:Keyed) (xs:Array Keyed) (bs i:Nat):Bool:=if lf then decide (Kr rk xs (bs+i) < rk key) else decide (Kr rk xs (bs+i)<=rk key)
theorem qR (c:cE prog w A E s κ Ok rk) (hk:kindOf st=κ) {lf:Bool}{key:Keyed}{xs:Array Keyed}{bs i:Nat}{Q:Option Bool->SortSt->Prop} (ok:Ok key) (o:bK Ok xs) (hi:bs+i < xs.size)
  (h:Q (some (bQ rk lf key xs bs i)) st):wpS (model prog w) A E s (kL lf key xs bs i) Q st:=by
 unfold kL
 refine bi1 (cQ hi ?_)
 unfold bQ at h
 rw [bV hi] at h
 cases lf with
 | true=>
  simp only [if_true] at h ⊢
  exact c _ _ (o _ (bn3 hi)) ok st Q hk h
 | false=>
  simp only [bj1,bn2] at h ⊢
  refine bi1 (c _ _ ok (o _ (bn3 hi)) st _ hk (bj0 ?_))
  have e:(!decide (rk key < rk xs[bs+i]))=decide (rk xs[bs+i]<=rk key):=by
   by_cases z:rk xs[bs+i]<=rk key
   ·rw [bi2 z,bh3 (by omega)]; rfl
   ·rw [bh3 z,bi2 (by omega)]; rfl
  show Q (some (!decide (rk key < rk xs[bs+i]))) st
  rw [e]; exact h
abbrev GS:=Option (Option Nat) × Nat × Nat
def N3 (lf:Bool) (key:Keyed) (xs:Array Keyed) (bs n l g:Nat):StateT SortSt Sem GS:=forIn [0:n] ((none,l,g):GS) fun _ r=>
 if r.2.1 >= r.2.2 then pure (ForInStep.done (none,r.2.1,r.2.2)) else do
  match <- kL lf key xs bs (r.2.1+(r.2.2 - r.2.1) / 2) with
  | some q=>if q=true then pure (ForInStep.yield (none,r.2.1+(r.2.2 - r.2.1) / 2+1,r.2.2)) else pure (ForInStep.yield (none,r.2.1,r.2.1+(r.2.2 - r.2.1) / 2))
  | _=>pure (ForInStep.done (some none,r.2.1,r.2.2))
theorem N4 (c:cE prog w A E s κ Ok rk) (hk:kindOf st=κ) {lf:Bool}{key:Keyed}{xs:Array Keyed}{bs n l g:Nat}{Q:GS->SortSt->Prop} (ok:Ok key) (o:bK Ok xs) (hz:bs+n<=xs.size)
  (mono:∀ i j,i<=j->j < n->bQ rk lf key xs bs j=true->bQ rk lf key xs bs i=true) (hlg:l<=g) (hg:g<=n) (h1:∀ i,i < l->bQ rk lf key xs bs i=true) (h2:∀ i,g<=i->i < n->bQ rk lf key xs bs i=false)
  (hq:∀ k,k<=n->(∀ i,i < k->bQ rk lf key xs bs i=true)->(∀ i,k<=i->i < n->bQ rk lf key xs bs i=false)->Q (none,k,k) st):wpS (model prog w) A E s (N3 lf key xs bs n l g) Q st:=by
 unfold N3
 refine bq0 (I:=fun x r st'=>st'=st/\∃ l g,r=(none,l,g)/\l<=g/\g<=n/\g - l<=n - x/\(∀ i,i < l->bQ rk lf key xs bs i=true)/\∀ i,g<=i->i < n->bQ rk lf key xs bs i=false) ?_ ?_ ⟨rfl,l,g,rfl,hlg,hg,by omega,h1,h2⟩
 ·rintro x r st' _ hx ⟨rfl,l,g,rfl,d1,d2,d3,f1,f2⟩
  dsimp only
  by_cases hc:l >= g
  ·rw [if_pos hc]
   have e:g=l:=by omega
   subst e
   exact bj0 (hq g d2 f1 f2)
  ·rw [if_neg hc]
   refine bi1 (qR c hk ok o (by omega) ?_)
   cases z:bQ rk lf key xs bs (l+(g - l) / 2) with
   | true=>exact bj0 ⟨rfl,_,_,rfl,by omega,d2,by omega,fun i hi=>mono i (l+(g - l) / 2) (by omega) (by omega) z,f2⟩
   | false=>
    refine bj0 ⟨rfl,_,_,rfl,by omega,by omega,by omega,f1,fun i i1 i2=>?_⟩
    cases y:bQ rk lf key xs bs i with
    | false=>rfl
    | true=>rw [mono _ i i1 i2 y] at z; cases z
 ·rintro r st' ⟨rfl,l,g,rfl,d1,d2,d3,f1,f2⟩
  have e:g=l:=by omega
  subst e
  exact hq g d2 f1 f2
theorem lX (c:cE prog w A E s κ Ok rk) (hk:kindOf st=κ) {lf:Bool}{key:Keyed}{xs:Array Keyed}{bs n h:Nat}{Q:Option Nat->SortSt->Prop} (ok:Ok key) (o:bK Ok xs) (hh:h < n) (hz:bs+n<=xs.size) (u:Up rk xs bs (bs+n))
  (hq:∀ k,k<=n->(∀ i,i < k->bQ rk lf key xs bs i=true)->(∀ i,k<=i->i < n->bQ rk lf key xs bs i=false)->Q (some k) st):wpS (model prog w) A E s (jL lf key xs bs n h) Q st:=by
 have mono:∀ i j,i<=j->j < n->bQ rk lf key xs bs j=true->bQ rk lf key xs bs i=true:=fun i j hij hj e=>by
  have:=u (bs+i) (bs+j) (by omega) (by omega) (by omega)
  unfold bQ at e ⊢
  cases lf with
  | true=>simp only [if_true,bj6] at e ⊢; omega
  | false=>simp only [bj1,bn2,bj6] at e ⊢; omega
 have monf:∀ i j,i<=j->j < n->bQ rk lf key xs bs i=false->bQ rk lf key xs bs j=false:=fun i j hij hj e=>by
  cases z:bQ rk lf key xs bs j with
  | false=>rfl
  | true=>rw [mono i j hij hj z] at e; cases e
 rw [aE8]
 refine bi1 (qR c hk ok o (by omega) ?_)
 dsimp only
 cases z:bQ rk lf key xs bs h with
 | true=>
  rw [if_pos rfl]
  refine bi1 (bx2 (bq0 (I:=fun x r st'=>st'=st/\∃ la of,r=(none,la,of)/\la < of/\x < of/\h+la < n/\bQ rk lf key xs bs (h+la)=true)
   (Q:=fun r st'=>st'=st/\∃ la of,r=(none,la,of)/\la < of/\h+la < n/\bQ rk lf key xs bs (h+la)=true/\(of < n - h->bQ rk lf key xs bs (h+of)=false)) ?_ ?_ ⟨rfl,0,1,rfl,by omega,by omega,by omega,z⟩) ?_)
  ·rintro x r st' _ hx ⟨rfl,la,of,rfl,d1,d2,d3,f⟩
   dsimp only
   by_cases hc:of >= n - h
   ·rw [if_pos hc]
    exact bj0 ⟨rfl,la,of,rfl,d1,d3,f,fun y=>absurd y (by omega)⟩
   ·rw [if_neg hc]
    refine bi1 (qR c hk ok o (by omega) ?_)
    cases y:bQ rk lf key xs bs (h+of) with
    | true=>exact bj0 ⟨rfl,of,2 * of+1,rfl,by omega,by omega,by omega,y⟩
    | false=>exact bj0 ⟨rfl,la,of,rfl,d1,d3,f,fun _=>y⟩
  ·rintro r st' ⟨rfl,la,of,rfl,d1,d2,d3,f⟩
   exact⟨rfl,la,of,rfl,d1,d3,f,fun y=>absurd y (by omega)⟩
  ·rintro r st' ⟨rfl,la,of,rfl,d1,d3,f,ft⟩
   dsimp only
   refine bi1 (N4 (l:=h+la+1) (g:=h+min of (n - h)) c hk ok o hz mono (by omega) (by omega) (fun i hi=>mono i (h+la) (by omega) d3 f) (fun i i1 i2=>?_) fun k k1 k2 k3=>bj0 (hq k k1 k2 k3))
   rcases bm6 of (n - h) with y | y
   ·exact monf (h+of) i (by omega) i2 (ft y)
   ·exact absurd i1 (by omega)
 | false=>
  rw [if_neg bi7]
  refine bi1 (bx2 (bq0 (I:=fun x r st'=>st'=st/\∃ la of,r=(none,la,of)/\la < of/\x < of/\la<=h/\bQ rk lf key xs bs (h - la)=false)
   (Q:=fun r st'=>st'=st/\∃ la of,r=(none,la,of)/\la < of/\la<=h/\bQ rk lf key xs bs (h - la)=false/\(of < h+1->bQ rk lf key xs bs (h - of)=true)) ?_ ?_ ⟨rfl,0,1,rfl,by omega,by omega,by omega,z⟩) ?_)
  ·rintro x r st' _ hx ⟨rfl,la,of,rfl,d1,d2,d3,f⟩
   dsimp only
   by_cases hc:of >= h+1
   ·rw [if_pos hc]
    exact bj0 ⟨rfl,la,of,rfl,d1,d3,f,fun y=>absurd y (by omega)⟩
   ·rw [if_neg hc]
    refine bi1 (qR c hk ok o (by omega) ?_)
    cases y:bQ rk lf key xs bs (h - of) with
    | false=>exact bj0 ⟨rfl,of,2 * of+1,rfl,by omega,by omega,by omega,y⟩
    | true=>exact bj0 ⟨rfl,la,of,rfl,d1,d3,f,fun _=>y⟩
  ·rintro r st' ⟨rfl,la,of,rfl,d1,d2,d3,f⟩
   exact⟨rfl,la,of,rfl,d1,d3,f,fun y=>absurd y (by omega)⟩
  ·rintro r st' ⟨rfl,la,of,rfl,d1,d3,f,ft⟩
   dsimp only
   refine bi1 (N4 (l:=h+1 - min of (h+1)) (g:=h - la) c hk ok o hz mono (by omega) (by omega) (fun i hi=>?_) (fun i i1 i2=>monf (h - la) i i1 i2 f) fun k k1 k2 k3=>bj0 (hq k k1 k2 k3))
   rcases bm6 of (h+1) with y | y
   ·exact mono i (h - of) (by omega) (by omega) (ft y)
   ·exact absurd hi (by omega)
end
def lY:Nat->StateT SortSt Sem Unit:=sortPriv% PySem.Builtin.setMinGallop
def vX:Array Keyed->Array Keyed->StateT SortSt Sem (Array Keyed):=sortPriv% PySem.Builtin.mergeLo
theorem aE9 (g:Nat):lY g=modify (fun st=>SortSt.mk' (kindOf st) (arrOf st) (pendingOf st) g (failedOf st)):=rfl
abbrev LS:=Option (Array Keyed) × Array Keyed × Nat × Nat × Nat × Nat × Nat
abbrev vY:=Option (Array Keyed) × Array Keyed × Nat × Nat × Nat × Nat
abbrev LO:=Option (Array Keyed) × Array Keyed × Nat × Nat × Nat
def qS (x y o:Array Keyed) (i j mg p q:Nat):StateT SortSt Sem (ForInStep LS):=do
 let v <- elem' x i
 if (i+1+1 == x.size)=true then pure (.done (some (o.push v ++ y.extract j y.size ++ x.extract (i+1) x.size),o.push v,i+1,j,mg,p,q))
 else if (decide (p < 7) && decide (q < 7))=true then pure (.done (none,o.push v,i+1,j,mg,p,q)) else pure (.yield (none,o.push v,i+1,j,mg,p,q))
def qT (x y o:Array Keyed) (i j mg p q:Nat):StateT SortSt Sem (ForInStep LS):=do
 let v <- elem' y j
 if (j+1 == y.size)=true then pure (.done (some (o.push v ++ x.extract i x.size ++ y.extract (j+1) y.size),o.push v,i,j+1,mg,p,q)) else do
  let u <- elem' x i
  match <- jL true u y (j+1) (y.size - (j+1)) 0 with
  | some k=>
   if k > 0 then
    if (j+1+k == y.size)=true then pure (.done (some (o.push v ++ y.extract (j+1) (j+1+k) ++ x.extract i x.size ++ y.extract (j+1+k) y.size),o.push v ++ y.extract (j+1) (j+1+k),i,j+1+k,mg,p,k))
    else qS x y (o.push v ++ y.extract (j+1) (j+1+k)) i (j+1+k) mg p k
   else qS x y (o.push v) i (j+1) mg p k
  | _=>pure (.done (some (o.push v ++ x.extract i x.size ++ y.extract (j+1) y.size),o.push v,i,j+1,mg,p,q))
def qU (x y o:Array Keyed) (i j mg p q:Nat):StateT SortSt Sem (ForInStep LS):=do
 lY mg
 let v <- elem' y j
 match <- jL false v x i (x.size - i) 0 with
 | some k=>
  if k > 0 then
   if (i+k+1 == x.size)=true then pure (.done (some (o ++ x.extract i (i+k) ++ y.extract j y.size ++ x.extract (i+k) x.size),o ++ x.extract i (i+k),i+k,j,mg,k,q))
   else if (i+k == x.size)=true then pure (.done (some (o ++ x.extract i (i+k) ++ x.extract (i+k) x.size ++ y.extract j y.size),o ++ x.extract i (i+k),i+k,j,mg,k,q))
   else qT x y (o ++ x.extract i (i+k)) (i+k) j mg k q
  else qT x y o i j mg k q
 | _=>pure (.done (some (o ++ x.extract i x.size ++ y.extract j y.size),o,i,j,mg,p,q))
def vZ (x y o:Array Keyed) (i j mg p q:Nat):StateT SortSt Sem LS:=forIn [0:x.size+y.size] ((none,o,i,j,mg,p,q):LS) fun _ r=>
 if r.2.2.2.2.1 > 1 then qU x y r.2.1 r.2.2.1 r.2.2.2.1 (r.2.2.2.2.1 - 1) r.2.2.2.2.2.1 r.2.2.2.2.2.2 else qU x y r.2.1 r.2.2.1 r.2.2.2.1 r.2.2.2.2.1 r.2.2.2.2.2.1 r.2.2.2.2.2.2
def w4 (x y o:Array Keyed) (i j mg:Nat):StateT SortSt Sem vY:=forIn [0:x.size+y.size] ((none,o,i,j,0,0):vY) fun _ r=>do
 let v <- elem' y r.2.2.2.1
 let u <- elem' x r.2.2.1
 match <- lt' v u with
 | some q=>
  if q=true then do
   let v <- elem' y r.2.2.2.1
   if (r.2.2.2.1+1 == y.size)=true then pure (.done (some (r.2.1.push v ++ x.extract r.2.2.1 x.size ++ y.extract (r.2.2.2.1+1) y.size),r.2.1.push v,r.2.2.1,r.2.2.2.1+1,0,r.2.2.2.2.2+1))
   else if r.2.2.2.2.2+1 >= mg then pure (.done (none,r.2.1.push v,r.2.2.1,r.2.2.2.1+1,0,r.2.2.2.2.2+1)) else pure (.yield (none,r.2.1.push v,r.2.2.1,r.2.2.2.1+1,0,r.2.2.2.2.2+1))
  else do
   let u <- elem' x r.2.2.1
   if (r.2.2.1+1+1 == x.size)=true then pure (.done (some (r.2.1.push u ++ y.extract r.2.2.2.1 y.size ++ x.extract (r.2.2.1+1) x.size),r.2.1.push u,r.2.2.1+1,r.2.2.2.1,r.2.2.2.2.1+1,0))
   else if r.2.2.2.2.1+1 >= mg then pure (.done (none,r.2.1.push u,r.2.2.1+1,r.2.2.2.1,r.2.2.2.2.1+1,0)) else pure (.yield (none,r.2.1.push u,r.2.2.1+1,r.2.2.2.1,r.2.2.2.2.1+1,0))
 | _=>pure (.done (some (r.2.1 ++ x.extract r.2.2.1 x.size ++ y.extract r.2.2.2.1 y.size),r.2.1,r.2.2.1,r.2.2.2.1,r.2.2.2.2.1,r.2.2.2.2.2))
def N5 (x y o:Array Keyed) (i j mg:Nat):StateT SortSt Sem LO:=forIn [0:x.size+y.size] ((none,o,i,j,mg):LO) fun _ r=>do
 let u <- w4 x y r.2.1 r.2.2.1 r.2.2.2.1 r.2.2.2.2
 match u.1 with
 | some z=>pure (.done (some z,u.2.1,u.2.2.1,u.2.2.2.1,r.2.2.2.2))
 | none=>do
  liftM (rule "list.sort.gallop")
  let v <- vZ x y u.2.1 u.2.2.1 u.2.2.2.1 (r.2.2.2.2+1) u.2.2.2.2.1 u.2.2.2.2.2
  match v.1 with
  | some z=>pure (.done (some z,v.2.1,v.2.2.1,v.2.2.2.1,v.2.2.2.2.1))
  | none=>do
   lY (v.2.2.2.2.1+1)
   pure (.yield (none,v.2.1,v.2.2.1,v.2.2.2.1,v.2.2.2.2.1+1))
theorem aF0 (x y:Array Keyed):vX x y=(do
 liftM (rule "list.sort.merge-lo")
 let v <- elem' y 0
 if (1 == y.size)=true then pure (#[v] ++ x.extract 0 x.size ++ y.extract 1 y.size)
 else if (0+1 == x.size)=true then pure (#[v] ++ y.extract 1 y.size ++ x.extract 0 x.size)
 else do
  let z <- get
  let r <- N5 x y #[v] 0 1 (gallopOf z)
  match r.1 with
  | some z=>pure z
  | none=>unsupported "internal:list.sort.merge-bound"):=by kernel_rfl
section
variable (rk : Keyed → Int)
def Sd (l:List Keyed):Prop:=l.Pairwise fun a b=>rk a<=rk b
structure MI (xs ys o:List Keyed) (i j:Nat):Prop where
 pm:o.Perm (xs.take i ++ ys.take j)
 sx:Sd rk (o ++ xs.drop i)
 sy:Sd rk (o ++ ys.drop j)
end
variable {rk : Keyed → Int} {xs ys o : List Keyed} {i j : Nat}
theorem Sd.ins {o a b d:List Keyed} (h1:Sd rk (o ++ a)) (h2:Sd rk (o ++ (b ++ d))) (h:∀ u ∈ b,∀ t ∈ a,rk u<=rk t):Sd rk ((o ++ b) ++ a):=by
 unfold Sd at *
 rw [bj2]
 obtain ⟨p1,p2,p3⟩:=bn1.mp h1
 obtain ⟨q1,q2,q3⟩:=bn1.mp h2
 obtain ⟨r1,r2,r3⟩:=bn1.mp q2
 refine bn1.mpr ⟨p1,bn1.mpr ⟨r1,p2,h⟩,fun u hu t ht=>?_⟩
 rcases bj9.mp ht with z | z
 ·exact q3 u hu t (bs8 _ z)
 ·exact p3 u hu t z
theorem MI.ofy (m:MI rk xs ys o i j) (k:Nat) (h:∀ u ∈ (ys.drop j).take k,∀ t ∈ xs.drop i,rk u<=rk t):MI rk xs ys (o ++ (ys.drop j).take k) i (j+k):=by
 have e:(ys.drop j).take k ++ ys.drop (j+k)=ys.drop j:=by rw [<- List.drop_drop]; exact bk8 k _
 refine⟨?_,Sd.ins m.sx (d:=ys.drop (j+k)) (by rw [e]; exact m.sy) h,by rw [bj2,e]; exact m.sy⟩
 rw [List.take_add,<- bj2]
 exact m.pm.append_right _
theorem MI.ofx (m:MI rk xs ys o i j) (k:Nat) (h:∀ u ∈ (xs.drop i).take k,∀ t ∈ ys.drop j,rk u<=rk t):MI rk xs ys (o ++ (xs.drop i).take k) (i+k) j:=by
 have e:(xs.drop i).take k ++ xs.drop (i+k)=xs.drop i:=by rw [<- List.drop_drop]; exact bk8 k _
 refine⟨?_,by rw [bj2,e]; exact m.sx,Sd.ins m.sy (d:=xs.drop (i+k)) (by rw [e]; exact m.sx) h⟩
 rw [List.take_add]
 refine (m.pm.append_right _).trans ?_
 rw [bj2,bj2]
 exact (List.perm_append_comm).append_left _
theorem MI.fin (m:MI rk xs ys o i j) (h:xs.length<=i ∨ ys.length<=j):(o ++ xs.drop i ++ ys.drop j).Perm (xs ++ ys)/\Sd rk (o ++ xs.drop i ++ ys.drop j):=by
 refine⟨?_,?_⟩
 ·rw [bj2]
  refine (m.pm.append_right _).trans ?_
  have e1:xs=xs.take i ++ xs.drop i:=(bk8 i xs).symm
  have e2:ys=ys.take j ++ ys.drop j:=(bk8 j ys).symm
  conv=>rhs; rw [e1,e2]
  rw [bj2,bj2]
  refine List.Perm.append_left _ ?_
  rw [<- bj2,<- bj2]
  exact (List.perm_append_comm).append_right _
 ·rcases h with h | h
  ·rw [List.drop_eq_nil_of_le h,bk6]; exact m.sy
  ·rw [List.drop_eq_nil_of_le h,bk6]; exact m.sx
theorem MI.lst (m:MI rk xs ys o i j) (h:∀ u ∈ ys,∀ t ∈ xs.drop i,rk u<=rk t):(o ++ ys.drop j ++ xs.drop i).Perm (xs ++ ys)/\Sd rk (o ++ ys.drop j ++ xs.drop i):=by
 have m2:=m.ofy ys.length fun u hu t ht=>h u (List.mem_of_mem_drop (List.mem_of_mem_take hu)) t ht
 have e:(ys.drop j).take ys.length=ys.drop j:=bk3 (by simp)
 rw [e] at m2
 have f:=m2.fin (.inr (by omega))
 rw [List.drop_eq_nil_of_le (as:=ys) (i:=j+ys.length) (by omega),bk6] at f
 exact f
theorem N6 {x:Array Keyed}{i k:Nat}{u:Keyed} (h:u ∈ (x.toList.drop i).take k):∃ t,t < k/\i+t < x.size/\rk u=Kr rk x (i+t):=by
 obtain ⟨t,ht,e⟩:=bp2 h
 have h1:t < k/\i+t < x.size:=by simp at ht; omega
 refine⟨t,h1.1,h1.2,?_⟩
 rw [bV h1.2,<- e]
 simp
theorem o4 {x:Array Keyed}{i:Nat}{u:Keyed} (h:u ∈ x.toList.drop i):∃ t,i+t < x.size/\rk u=Kr rk x (i+t):=by
 obtain ⟨t,ht,e⟩:=bp2 h
 have h1:i+t < x.size:=by simp at ht; omega
 refine⟨t,h1,?_⟩
 rw [bV h1,<- e]
 simp
theorem Sd.up {x:Array Keyed} (h:Sd rk x.toList) (lo hi:Nat) (hh:hi<=x.size):Up rk x lo hi:=fun i j _ hij hj=>by
 rw [bV (by omega:i < x.size),bV (by omega:j < x.size)]
 rcases bw6 hij with z | z
 ·subst z; exact bw0 _
 ·have:=bm5.mp h i j (by simp; omega) (by simp; omega) z
  simpa using this
theorem N7 (x:Array Keyed) (i k:Nat):(x.extract i (i+k)).toList=(x.toList.drop i).take k:=by
 simp [List.extract]
theorem qV (x:Array Keyed) (i:Nat):(x.extract i x.size).toList=x.toList.drop i:=by
 simp [List.extract]
 exact bk3 (by simp)
theorem kM {x:Array Keyed}{i:Nat} (h:i < x.size) : [x[i]]=(x.toList.drop i).take 1:=by
 rw [br5 (by simpa using h)]; simp
structure Gq (st st':SortSt):Prop where
 kd:kindOf st'=kindOf st
 ar:arrOf st'=arrOf st
 pd:pendingOf st'=pendingOf st
 ok:failedOf st'=failedOf st
theorem Gq.refl (st:SortSt):Gq st st:=⟨rfl,rfl,rfl,rfl⟩
section
variable {κ : SortKind} {st : SortSt} {prog : Program} {w : World} {A : Around} {E : Value → Shared → Prop} {s : Shared} {Ok : Keyed → Prop}
theorem qW {st0:SortSt}{g:Nat}{Q:Unit->SortSt->Prop} (q:Gq st0 st) (h:∀ st',Gq st0 st'->Q () st'):wpS (model prog w) A E s (lY g) Q st:=by
 rw [aE9]; exact wpS_modify (h _ ⟨q.kd,q.ar,q.pd,q.ok⟩)
def dF (rk:Keyed->Int) (x y r:Array Keyed):Prop:=r.toList.Perm (x.toList ++ y.toList)/\Sd rk r.toList
theorem MI.y1 {x y o:Array Keyed} (m:MI rk x.toList y.toList o.toList i j) (hj:j < y.size) (h:∀ t,i+t < x.size->rk y[j]<=Kr rk x (i+t)):MI rk x.toList y.toList (o.push y[j]).toList i (j+1):=by
 have:=m.ofy 1 fun u hu t ht=>?_
 ·rw [<- kM hj] at this; simpa using this
 ·rw [<- kM hj,bh6] at hu
  subst hu
  obtain ⟨q,q1,q2⟩:=o4 (rk:=rk) ht
  rw [q2]; exact h q q1
theorem MI.x1 {x y o:Array Keyed} (m:MI rk x.toList y.toList o.toList i j) (hi:i < x.size) (h:∀ t,j+t < y.size->rk x[i]<=Kr rk y (j+t)):MI rk x.toList y.toList (o.push x[i]).toList (i+1) j:=by
 have:=m.ofx 1 fun u hu t ht=>?_
 ·rw [<- kM hi] at this; simpa using this
 ·rw [<- kM hi,bh6] at hu
  subst hu
  obtain ⟨q,q1,q2⟩:=o4 (rk:=rk) ht
  rw [q2]; exact h q q1
theorem MI.yk {x y o:Array Keyed} (m:MI rk x.toList y.toList o.toList i j) (k:Nat) (h:∀ p t,p < k->j+p < y.size->i+t < x.size->Kr rk y (j+p)<=Kr rk x (i+t)):MI rk x.toList y.toList (o ++ y.extract j (j+k)).toList i (j+k):=by
 have:=m.ofy k fun u hu t ht=>?_
 ·rw [<- N7] at this; rw [bp3]; exact this
 ·obtain ⟨p,p1,p2,p3⟩:=N6 (rk:=rk) hu
  obtain ⟨q,q1,q2⟩:=o4 (rk:=rk) ht
  rw [q2,p3]; exact h p q p1 p2 q1
theorem MI.xk {x y o:Array Keyed} (m:MI rk x.toList y.toList o.toList i j) (k:Nat) (h:∀ p t,p < k->i+p < x.size->j+t < y.size->Kr rk x (i+p)<=Kr rk y (j+t)):MI rk x.toList y.toList (o ++ x.extract i (i+k)).toList (i+k) j:=by
 have:=m.ofx k fun u hu t ht=>?_
 ·rw [<- N7] at this; rw [bp3]; exact this
 ·obtain ⟨p,p1,p2,p3⟩:=N6 (rk:=rk) hu
  obtain ⟨q,q1,q2⟩:=o4 (rk:=rk) ht
  rw [q2,p3]; exact h p q p1 p2 q1
theorem lZ {key:Keyed}{xs:Array Keyed}{bs i:Nat}:bQ rk false key xs bs i=decide (Kr rk xs (bs+i)<=rk key):=rfl
theorem m3 {key:Keyed}{xs:Array Keyed}{bs i:Nat}:bQ rk true key xs bs i=decide (Kr rk xs (bs+i) < rk key):=rfl
def GI (rk:Keyed->Int) (x y:Array Keyed) (lb:Nat) (st:SortSt) (c:LS) (st':SortSt):Prop:=Gq st st'/\∃ o i j mg p q,c=(none,o,i,j,mg,p,q)/\MI rk x.toList y.toList o.toList i j/\i+1 < x.size/\j < y.size/\lb<=i+j
def GQ (rk:Keyed->Int) (x y:Array Keyed) (lb:Nat) (st:SortSt) (c:LS) (st':SortSt):Prop:=Gq st st'/\((∃ r o i j mg p q,c=(some r,o,i,j,mg,p,q)/\dF rk x y r) ∨ ∃ o i j mg p q,c=(none,o,i,j,mg,p,q)/\MI rk x.toList y.toList o.toList i j/\i+1 < x.size/\j < y.size/\lb<=i+j)
def GR (rk:Keyed->Int) (x y:Array Keyed) (lb:Nat) (st:SortSt) (r:ForInStep LS) (st':SortSt):Prop:=match r with | .done c=>GQ rk x y lb st c st' | .yield c=>GI rk x y lb st c st'
theorem MI.done {x y o:Array Keyed} (m:MI rk x.toList y.toList o.toList i j) (hh:x.size<=i ∨ y.size<=j):dF rk x y (o ++ x.extract i x.size ++ y.extract j y.size):=by
 unfold dF
 rw [bp3,bp3,qV,qV]
 exact m.fin (by simpa using hh)
theorem MI.last {x y o:Array Keyed} (m:MI rk x.toList y.toList o.toList i j) (x0:0 < x.size) (hl:∀ u ∈ y.toList,rk u<=rk x[x.size - 1]) (hh:i+1=x.size):dF rk x y (o ++ y.extract j y.size ++ x.extract i x.size):=by
 unfold dF
 rw [bp3,bp3,qV,qV]
 refine m.lst fun u hu t ht=>?_
 obtain ⟨q,q1,q2⟩:=o4 (rk:=rk) ht
 have e:i+q=x.size - 1:=by omega
 rw [q2,e,bV (by omega)]
 exact hl u hu
theorem N8 {st0:SortSt}{x y o:Array Keyed}{mg p q lb:Nat} (x0:0 < x.size) (hl:∀ u ∈ y.toList,rk u<=rk x[x.size - 1]) (g:Gq st0 st) (m:MI rk x.toList y.toList o.toList i j) (hi:i+1 < x.size) (hj:j < y.size) (hb:lb<=i+j)
  (hm:∀ t,j+t < y.size->rk x[i]<=Kr rk y (j+t)):wpS (model prog w) A E s (qS x y o i j mg p q) (GR rk x y lb st0) st:=by
 unfold qS
 have hi':i < x.size:=by omega
 have m':=m.x1 hi' hm
 refine bi1 (cQ hi' ?_)
 by_cases he:(i+1+1 == x.size)=true
 ·rw [if_pos he]
  have he:i+1+1=x.size:=by simpa using he
  exact bj0 ⟨g,.inl ⟨_,_,_,_,_,_,_,rfl,m'.last x0 hl he⟩⟩
 ·rw [if_neg he]
  have he:i+1+1 ≠ x.size:=by simpa using he
  split
  ·exact bj0 ⟨g,.inr ⟨_,_,_,_,_,_,rfl,m',by omega,hj,by omega⟩⟩
  ·exact bj0 ⟨g,_,_,_,_,_,_,rfl,m',by omega,hj,by omega⟩
theorem N9 (c:cE prog w A E s κ Ok rk) {st0:SortSt} (hk:kindOf st0=κ) {x y o:Array Keyed}{mg p q lb:Nat} (ox:bK Ok x) (oy:bK Ok y) (sx:Sd rk x.toList) (sy:Sd rk y.toList) (x0:0 < x.size) (hl:∀ u ∈ y.toList,rk u<=rk x[x.size - 1]) (g:Gq st0 st) (m:MI rk x.toList y.toList o.toList i j) (hi:i+1 < x.size) (hj:j < y.size) (hb:lb<=i+j)
  (hm:∀ t,i+t < x.size->rk y[j]<=Kr rk x (i+t)):wpS (model prog w) A E s (qT x y o i j mg p q) (GR rk x y lb st0) st:=by
 unfold qT
 have hi':i < x.size:=by omega
 have m':=m.y1 hj hm
 refine bi1 (cQ hj ?_)
 by_cases he:(j+1 == y.size)=true
 ·rw [if_pos he]
  have he:j+1=y.size:=by simpa using he
  exact bj0 ⟨g,.inl ⟨_,_,_,_,_,_,_,rfl,m'.done (.inr (by omega))⟩⟩
 ·rw [if_neg he]
  have he:j+1 ≠ y.size:=by simpa using he
  refine bi1 (cQ hi' (bi1 (lX c (g.kd.trans hk) (ox _ (bn3 hi')) oy (by omega) (by omega) (sy.up _ _ (by omega)) fun k k1 k2 k3=>?_)))
  dsimp only
  have ux:=sx.up 0 _ (bh1 x.size)
  have mk:=m'.yk k fun p t hp _ ht=>by
   have a1:=k2 p hp
   rw [m3,bj6] at a1
   have a2:=ux i (i+t) (by omega) (by omega) ht
   rw [bV hi'] at a2
   omega
  have km:∀ t,j+1+k+t < y.size->rk x[i]<=Kr rk y (j+1+k+t):=fun t ht=>by
   have a1:=k3 (k+t) (by omega) (by omega)
   rw [m3,bs9,<- Nat.add_assoc] at a1
   omega
  by_cases hk0:k > 0
  ·rw [if_pos hk0]
   by_cases hf:(j+1+k == y.size)=true
   ·rw [if_pos hf]
    have hf:j+1+k=y.size:=by simpa using hf
    exact bj0 ⟨g,.inl ⟨_,_,_,_,_,_,_,rfl,mk.done (.inr (by omega))⟩⟩
   ·rw [if_neg hf]
    have hf:j+1+k ≠ y.size:=by simpa using hf
    exact N8 x0 hl g mk hi (by omega) (by omega) km
  ·rw [if_neg hk0]
   have e0:k=0:=by omega
   subst e0
   exact N8 x0 hl g m' hi (by omega) (by omega) km
theorem O0 (c:cE prog w A E s κ Ok rk) {st0:SortSt} (hk:kindOf st0=κ) {x y o:Array Keyed}{mg p q lb:Nat} (ox:bK Ok x) (oy:bK Ok y) (sx:Sd rk x.toList) (sy:Sd rk y.toList) (x0:0 < x.size) (hl:∀ u ∈ y.toList,rk u<=rk x[x.size - 1]) (g:Gq st0 st) (m:MI rk x.toList y.toList o.toList i j) (hi:i+1 < x.size) (hj:j < y.size) (hb:lb<=i+j) :
  wpS (model prog w) A E s (qU x y o i j mg p q) (GR rk x y lb st0) st:=by
 unfold qU
 refine bi1 (qW g fun st4 q4=>bi1 (cQ hj (bi1 (lX c (q4.kd.trans hk) (oy _ (bn3 hj)) ox (by omega) (by omega) (sx.up _ _ (by omega)) fun k k1 k2 k3=>?_))))
 dsimp only
 have uy:=sy.up 0 _ (bh1 y.size)
 have mk:=m.xk k fun p t hp _ ht=>by
  have a1:=k2 p hp
  rw [lZ,bj6] at a1
  have a2:=uy j (j+t) (by omega) (by omega) ht
  rw [bV hj] at a2
  omega
 have km:∀ t,i+k+t < x.size->rk y[j]<=Kr rk x (i+k+t):=fun t ht=>by
  have a1:=k3 (k+t) (by omega) (by omega)
  rw [lZ,bs9,<- Nat.add_assoc] at a1
  omega
 by_cases hk0:k > 0
 ·rw [if_pos hk0]
  by_cases he:(i+k+1 == x.size)=true
  ·rw [if_pos he]
   exact bj0 ⟨q4,.inl ⟨_,_,_,_,_,_,_,rfl,mk.last x0 hl (by simpa using he)⟩⟩
  ·rw [if_neg he]
   have he:i+k+1 ≠ x.size:=by simpa using he
   by_cases hf:(i+k == x.size)=true
   ·rw [if_pos hf]
    have hf:i+k=x.size:=by simpa using hf
    exact bj0 ⟨q4,.inl ⟨_,_,_,_,_,_,_,rfl,mk.done (.inl (by omega))⟩⟩
   ·rw [if_neg hf]
    have hf:i+k ≠ x.size:=by simpa using hf
    exact N9 c hk ox oy sx sy x0 hl q4 mk (by omega) hj (by omega) km
 ·rw [if_neg hk0]
  have e0:k=0:=by omega
  subst e0
  exact N9 c hk ox oy sx sy x0 hl q4 m hi hj hb km
theorem aF1 (c:cE prog w A E s κ Ok rk) {st0:SortSt} (hk:kindOf st0=κ) {x y o:Array Keyed}{mg p q lb:Nat} (ox:bK Ok x) (oy:bK Ok y) (sx:Sd rk x.toList) (sy:Sd rk y.toList) (x0:0 < x.size) (hl:∀ u ∈ y.toList,rk u<=rk x[x.size - 1]) (g:Gq st0 st) (m:MI rk x.toList y.toList o.toList i j) (hi:i+1 < x.size) (hj:j < y.size) (hb:lb<=i+j) :
  wpS (model prog w) A E s (vZ x y o i j mg p q) (GQ rk x y lb st0) st:=by
 unfold vZ
 refine bq0 (I:=fun _=>GI rk x y lb st0) ?_ ?_ ⟨g,o,i,j,_,p,q,rfl,m,hi,hj,hb⟩
 ·rintro t c3 st3 _ _ ⟨q3,o,i,j,mg,p,q,rfl,m,hi,hj,pr3⟩
  dsimp only
  split
  ·exact bx2 (O0 c hk ox oy sx sy x0 hl q3 m hi hj pr3) fun r _ hr=>by cases r <;> exact hr
  ·exact bx2 (O0 c hk ox oy sx sy x0 hl q3 m hi hj pr3) fun r _ hr=>by cases r <;> exact hr
 ·rintro c3 st3 ⟨q3,o,i,j,mg,p,q,rfl,m,hi,hj,pr3⟩
  exact⟨q3,.inr ⟨_,_,_,_,_,_,rfl,m,hi,hj,pr3⟩⟩
theorem aF2 (c:cE prog w A E s κ Ok rk) {st0:SortSt} (hk:kindOf st0=κ) {x y o:Array Keyed}{mg:Nat}{Q:vY->SortSt->Prop} (ox:bK Ok x) (oy:bK Ok y) (sx:Sd rk x.toList) (sy:Sd rk y.toList) (x0:0 < x.size) (hl:∀ u ∈ y.toList,rk u<=rk x[x.size - 1]) (g:Gq st0 st) (m:MI rk x.toList y.toList o.toList i j) (hi:i+1 < x.size) (hj:j < y.size)
  (h1:∀ r o' i' j' p q st',Gq st0 st'->dF rk x y r->Q (some r,o',i',j',p,q) st')
  (h2:∀ o' i' j' p q st',Gq st0 st'->MI rk x.toList y.toList o'.toList i' j'->i'+1 < x.size->j' < y.size->i+j+1<=i'+j'->Q (none,o',i',j',p,q) st') :
  wpS (model prog w) A E s (w4 x y o i j mg) Q st:=by
 have ux:Up rk x 0 x.size:=sx.up 0 _ (bh1 _)
 have uy:Up rk y 0 y.size:=sy.up 0 _ (bh1 _)
 unfold w4
 refine bq0 (I:=fun t c st'=>Gq st0 st'/\∃ o i' j' p q,c=(none,o,i',j',p,q)/\MI rk x.toList y.toList o.toList i' j'/\i'+1 < x.size/\j' < y.size/\i+j+t<=i'+j') ?_ ?_ ⟨g,o,i,j,0,0,rfl,m,hi,hj,by omega⟩
 ·rintro t c2 st2 _ ht ⟨q2,o,i',j',p,q,rfl,m,hi,hj,pr2⟩
  dsimp only
  have hi':i' < x.size:=by omega
  refine bi1 (cQ hj (bi1 (cQ hi' (bi1 (c _ _ (oy _ (bn3 hj)) (ox _ (bn3 hi')) st2 _ (q2.kd.trans hk) ?_)))))
  by_cases hc:rk y[j'] < rk x[i']
  ·rw [bi2 hc]
   dsimp only
   rw [if_pos rfl]
   have m':=m.y1 hj fun t ht=>by
    have:=ux i' (i'+t) (by omega) (by omega) ht
    rw [bV hi'] at this
    omega
   refine bi1 (cQ hj ?_)
   by_cases he:(j'+1 == y.size)=true
   ·rw [if_pos he]
    have he:j'+1=y.size:=by simpa using he
    exact bj0 (h1 _ _ _ _ _ _ _ q2 (m'.done (.inr (by omega))))
   ·rw [if_neg he]
    have he:j'+1 ≠ y.size:=by simpa using he
    split
    ·exact bj0 (h2 _ _ _ _ _ _ q2 m' hi (by omega) (by omega))
    ·exact bj0 ⟨q2,_,_,_,_,_,rfl,m',hi,by omega,by omega⟩
  ·rw [bh3 hc]
   dsimp only
   rw [if_neg bi7]
   have m':=m.x1 hi' fun t ht=>by
    have:=uy j' (j'+t) (by omega) (by omega) ht
    rw [bV hj] at this
    omega
   refine bi1 (cQ hi' ?_)
   by_cases he:(i'+1+1 == x.size)=true
   ·rw [if_pos he]
    exact bj0 (h1 _ _ _ _ _ _ _ q2 (m'.last x0 hl (by simpa using he)))
   ·rw [if_neg he]
    have he:i'+1+1 ≠ x.size:=by simpa using he
    split
    ·exact bj0 (h2 _ _ _ _ _ _ q2 m' (by omega) hj (by omega))
    ·exact bj0 ⟨q2,_,_,_,_,_,rfl,m',by omega,hj,by omega⟩
 ·rintro c2 st2 ⟨q2,o,i',j',p,q,rfl,m,hi,hj,pr2⟩
  exact h2 _ _ _ _ _ _ q2 m hi hj (by omega)
theorem aF3 (c:cE prog w A E s κ Ok rk) (hk:kindOf st=κ) {x y:Array Keyed}{Q:Array Keyed->SortSt->Prop} (ox:bK Ok x) (oy:bK Ok y) (sx:Sd rk x.toList) (sy:Sd rk y.toList) (x0:0 < x.size) (y0:0 < y.size)
  (hf:∀ t ∈ x.toList,rk y[0]<=rk t) (hl:∀ u ∈ y.toList,rk u<=rk x[x.size - 1])
  (h:∀ r st',Gq st st'->dF rk x y r->Q r st'):wpS (model prog w) A E s (vX x y) Q st:=by
 rw [aF0]
 refine bi1 (wpS_lift (bu1 ⟨rfl,bi1 (cQ y0 ?_)⟩))
 have m0:MI rk x.toList y.toList (#[y[0]]:Array Keyed).toList 0 1:=by
  have mm:MI rk x.toList y.toList [] 0 0:=⟨by simp,sx,sy⟩
  have:=mm.ofy 1 fun u hu t ht=>?_
  ·rw [<- kM y0] at this; exact this
  ·rw [<- kM y0,bh6] at hu
   subst hu
   exact hf t ht
 by_cases e1:(1 == y.size)=true
 ·rw [if_pos e1]
  have e1:1=y.size:=by simpa using e1
  exact bj0 (h _ st (Gq.refl st) (m0.done (.inr (by omega))))
 ·rw [if_neg e1]
  have e1:1 ≠ y.size:=by simpa using e1
  by_cases e2:(0+1 == x.size)=true
  ·rw [if_pos e2]
   exact bj0 (h _ st (Gq.refl st) (m0.last x0 hl (by simpa using e2)))
  ·rw [if_neg e2]
   have e2:0+1 ≠ x.size:=by simpa using e2
   refine bi1 (wpS_get ?_)
   unfold N5
   refine bi1 (bx2 (bq0
    (I:=fun n c st'=>Gq st st'/\∃ o i j mg,c=(none,o,i,j,mg)/\MI rk x.toList y.toList o.toList i j/\i+1 < x.size/\j < y.size/\n+1<=i+j)
    (Q:=fun c st'=>Gq st st'/\∃ r o i j mg,c=(some r,o,i,j,mg)/\dF rk x y r) ?_ ?_ ⟨Gq.refl st,_,0,1,_,rfl,m0,by omega,by omega,by omega⟩) ?_)
   ·rintro n c1 st1 _ hn ⟨q1,o,i,j,mg,rfl,m,hi,hj,pr⟩
    dsimp only
    refine bi1 (aF2 c hk ox oy sx sy x0 hl q1 m hi hj (fun r o' i' j' p q st' g md=>bj0 ⟨g,r,_,_,_,_,rfl,md⟩) fun o' i' j' p q st' g m' hi' hj' pr'=>?_)
    refine bi1 (wpS_lift (bu1 ⟨rfl,?_⟩))
    refine bi1 (bx2 (aF1 c hk ox oy sx sy x0 hl g m' hi' hj' pr') ?_)
    rintro c3 st3 ⟨q3,⟨r,o,i3,j3,mg,p,q,rfl,md⟩ | ⟨o,i3,j3,mg,p,q,rfl,m,hi,hj,pr3⟩⟩
    ·exact bj0 ⟨q3,r,_,_,_,_,rfl,md⟩
    ·exact bi1 (qW q3 fun st4 q4=>bj0 ⟨q4,o,i3,j3,_,rfl,m,hi,hj,by omega⟩)
   ·rintro c1 st1 ⟨q1,o,i,j,mg,rfl,m,hi,hj,pr⟩
    exact absurd pr (by omega)
   ·rintro c1 st1 ⟨q1,r,o,i,j,mg,rfl,md⟩
    exact bj0 (h r _ q1 md)
end
def w5:Array Keyed->Array Keyed->StateT SortSt Sem (Array Keyed):=sortPriv% PySem.Builtin.mergeHi
abbrev LH:=Option (Array Keyed) × Nat × Nat × Array Keyed × Nat × Nat × Nat
abbrev w6:=Option (Array Keyed) × Nat × Nat × Array Keyed × Nat × Nat
abbrev LP:=Option (Array Keyed) × Nat × Nat × Array Keyed × Nat
def qX (x y o:Array Keyed) (i j mg p q:Nat):StateT SortSt Sem (ForInStep LH):=do
 let v <- elem' x (i - 1)
 if (i - 1 == 0)=true then pure (.done (some (x.extract 0 (i - 1) ++ y.extract 0 j ++ (o.push v).reverse),i - 1,j,o.push v,mg,p,q))
 else if (decide (p < 7) && decide (q < 7))=true then pure (.done (none,i - 1,j,o.push v,mg,p,q)) else pure (.yield (none,i - 1,j,o.push v,mg,p,q))
def qY (x y o:Array Keyed) (i j mg p q:Nat):StateT SortSt Sem (ForInStep LH):=do
 let v <- elem' y (j - 1)
 if (j - 1 == 1)=true then pure (.done (some (y.extract 0 (j - 1) ++ x.extract 0 i ++ (o.push v).reverse),i,j - 1,o.push v,mg,p,q)) else do
  let u <- elem' x (i - 1)
  match <- jL true u y 0 (j - 1) (j - 1 - 1) with
  | some z=>
   if j - 1 - z > 0 then
    if (z == 1)=true then pure (.done (some (y.extract 0 z ++ x.extract 0 i ++ (o.push v ++ (y.extract z (j - 1)).reverse).reverse),i,z,o.push v ++ (y.extract z (j - 1)).reverse,mg,p,j - 1 - z))
    else if (z == 0)=true then pure (.done (some (x.extract 0 i ++ y.extract 0 z ++ (o.push v ++ (y.extract z (j - 1)).reverse).reverse),i,z,o.push v ++ (y.extract z (j - 1)).reverse,mg,p,j - 1 - z))
    else qX x y (o.push v ++ (y.extract z (j - 1)).reverse) i z mg p (j - 1 - z)
   else qX x y (o.push v) i (j - 1) mg p (j - 1 - z)
  | _=>pure (.done (some (x.extract 0 i ++ y.extract 0 (j - 1) ++ (o.push v).reverse),i,j - 1,o.push v,mg,p,q))
def qZ (x y o:Array Keyed) (i j mg p q:Nat):StateT SortSt Sem (ForInStep LH):=do
 lY mg
 let v <- elem' y (j - 1)
 match <- jL false v x 0 i (i - 1) with
 | some z=>
  if i - z > 0 then
   if (z == 0)=true then pure (.done (some (x.extract 0 z ++ y.extract 0 j ++ (o ++ (x.extract z i).reverse).reverse),z,j,o ++ (x.extract z i).reverse,mg,i - z,q))
   else qY x y (o ++ (x.extract z i).reverse) z j mg (i - z) q
  else qY x y o i j mg (i - z) q
 | _=>pure (.done (some (x.extract 0 i ++ y.extract 0 j ++ o.reverse),i,j,o,mg,p,q))
def w9 (x y o:Array Keyed) (i j mg p q:Nat):StateT SortSt Sem LH:=forIn [0:x.size+y.size] ((none,i,j,o,mg,p,q):LH) fun _ r=>
 if r.2.2.2.2.1 > 1 then qZ x y r.2.2.2.1 r.2.1 r.2.2.1 (r.2.2.2.2.1 - 1) r.2.2.2.2.2.1 r.2.2.2.2.2.2 else qZ x y r.2.2.2.1 r.2.1 r.2.2.1 r.2.2.2.2.1 r.2.2.2.2.2.1 r.2.2.2.2.2.2
def m5 (x y o:Array Keyed) (i j mg:Nat):StateT SortSt Sem w6:=forIn [0:x.size+y.size] ((none,i,j,o,0,0):w6) fun _ r=>do
 let v <- elem' y (r.2.2.1 - 1)
 let u <- elem' x (r.2.1 - 1)
 match <- lt' v u with
 | some q=>
  if q=true then do
   let u <- elem' x (r.2.1 - 1)
   if (r.2.1 - 1 == 0)=true then pure (.done (some (x.extract 0 (r.2.1 - 1) ++ y.extract 0 r.2.2.1 ++ (r.2.2.2.1.push u).reverse),r.2.1 - 1,r.2.2.1,r.2.2.2.1.push u,r.2.2.2.2.1+1,0))
   else if r.2.2.2.2.1+1 >= mg then pure (.done (none,r.2.1 - 1,r.2.2.1,r.2.2.2.1.push u,r.2.2.2.2.1+1,0)) else pure (.yield (none,r.2.1 - 1,r.2.2.1,r.2.2.2.1.push u,r.2.2.2.2.1+1,0))
  else do
   let v <- elem' y (r.2.2.1 - 1)
   if (r.2.2.1 - 1 == 1)=true then pure (.done (some (y.extract 0 (r.2.2.1 - 1) ++ x.extract 0 r.2.1 ++ (r.2.2.2.1.push v).reverse),r.2.1,r.2.2.1 - 1,r.2.2.2.1.push v,0,r.2.2.2.2.2+1))
   else if r.2.2.2.2.2+1 >= mg then pure (.done (none,r.2.1,r.2.2.1 - 1,r.2.2.2.1.push v,0,r.2.2.2.2.2+1)) else pure (.yield (none,r.2.1,r.2.2.1 - 1,r.2.2.2.1.push v,0,r.2.2.2.2.2+1))
 | _=>pure (.done (some (x.extract 0 r.2.1 ++ y.extract 0 r.2.2.1 ++ r.2.2.2.1.reverse),r.2.1,r.2.2.1,r.2.2.2.1,r.2.2.2.2.1,r.2.2.2.2.2))
def O1 (x y o:Array Keyed) (i j mg:Nat):StateT SortSt Sem LP:=forIn [0:x.size+y.size] ((none,i,j,o,mg):LP) fun _ r=>do
 let u <- m5 x y r.2.2.2.1 r.2.1 r.2.2.1 r.2.2.2.2
 match u.1 with
 | some z=>pure (.done (some z,u.2.1,u.2.2.1,u.2.2.2.1,r.2.2.2.2))
 | none=>do
  liftM (rule "list.sort.gallop")
  let v <- w9 x y u.2.2.2.1 u.2.1 u.2.2.1 (r.2.2.2.2+1) u.2.2.2.2.1 u.2.2.2.2.2
  match v.1 with
  | some z=>pure (.done (some z,v.2.1,v.2.2.1,v.2.2.2.1,v.2.2.2.2.1))
  | none=>do
   lY (v.2.2.2.2.1+1)
   pure (.yield (none,v.2.1,v.2.2.1,v.2.2.2.1,v.2.2.2.2.1+1))
theorem aF4 (x y:Array Keyed):w5 x y=(do
 liftM (rule "list.sort.merge-hi")
 let v <- elem' x (x.size - 1)
 if (x.size - 1 == 0)=true then pure (x.extract 0 (x.size - 1) ++ y.extract 0 y.size ++ (#[v]:Array Keyed).reverse)
 else if (y.size == 1)=true then pure (y.extract 0 y.size ++ x.extract 0 (x.size - 1) ++ (#[v]:Array Keyed).reverse)
 else do
  let z <- get
  let r <- O1 x y #[v] (x.size - 1) y.size (gallopOf z)
  match r.1 with
  | some z=>pure z
  | none=>unsupported "internal:list.sort.merge-bound"):=by kernel_rfl
structure MH (rk:Keyed->Int) (xs ys o:List Keyed) (i j:Nat):Prop where
 pm:o.Perm (xs.drop i ++ ys.drop j)
 sx:Sd rk (xs.take i ++ o)
 sy:Sd rk (ys.take j ++ o)
variable {rk : Keyed → Int} {xs ys o : List Keyed} {i j : Nat}
theorem Sd.insR {o a b d:List Keyed} (h1:Sd rk (a ++ o)) (h2:Sd rk ((d ++ b) ++ o)) (h:∀ t ∈ a,∀ u ∈ b,rk t<=rk u):Sd rk (a ++ (b ++ o)):=by
 unfold Sd at *
 obtain ⟨p1,p2,p3⟩:=bn1.mp h1
 obtain ⟨q1,q2,q3⟩:=bn1.mp h2
 obtain ⟨r1,r2,r3⟩:=bn1.mp q1
 refine bn1.mpr ⟨p1,bn1.mpr ⟨r2,p2,fun u hu t ht=>q3 u (bl5 _ hu) t ht⟩,fun u hu t ht=>?_⟩
 rcases bj9.mp ht with z | z
 ·exact h u hu t z
 ·exact p3 u hu t z
theorem r6 (l:List Keyed) {z j:Nat} (h:z<=j):l.take z ++ (l.take j).drop z=l.take j:=by
 have e:l.take z=(l.take j).take z:=by rw [List.take_take,Nat.min_eq_left h]
 rw [e]; exact bk8 z _
theorem wA (l:List Keyed) {z j:Nat} (h:z<=j):(l.take j).drop z ++ l.drop j=l.drop z:=by
 rw [by2,show l.drop j=(l.drop z).drop (j - z) by rw [List.drop_drop,Nat.add_sub_cancel' h]]
 exact bk8 _ _
theorem MH.ofy (m:MH rk xs ys o i j) {z:Nat} (hz:z<=j) (h:∀ t ∈ xs.take i,∀ u ∈ (ys.take j).drop z,rk t<=rk u):MH rk xs ys ((ys.take j).drop z ++ o) i z:=by
 refine⟨?_,Sd.insR m.sx (d:=ys.take z) (by rw [r6 _ hz]; exact m.sy) h,by rw [<- bj2,r6 _ hz]; exact m.sy⟩
 rw [<- wA ys hz]
 refine (m.pm.append_left _).trans ?_
 rw [<- bj2,<- bj2]
 exact (List.perm_append_comm).append_right _
theorem MH.ofx (m:MH rk xs ys o i j) {z:Nat} (hz:z<=i) (h:∀ t ∈ ys.take j,∀ u ∈ (xs.take i).drop z,rk t<=rk u):MH rk xs ys ((xs.take i).drop z ++ o) z j:=by
 refine⟨?_,by rw [<- bj2,r6 _ hz]; exact m.sx,Sd.insR m.sy (d:=xs.take z) (by rw [r6 _ hz]; exact m.sx) h⟩
 rw [<- wA xs hz,bj2]
 exact m.pm.append_left _
theorem MH.fin (m:MH rk xs ys o i j) (h:i=0 ∨ j=0):(xs.take i ++ ys.take j ++ o).Perm (xs ++ ys)/\Sd rk (xs.take i ++ ys.take j ++ o):=by
 refine⟨?_,?_⟩
 ·have e1:xs=xs.take i ++ xs.drop i:=(bk8 i xs).symm
  have e2:ys=ys.take j ++ ys.drop j:=(bk8 j ys).symm
  conv=>rhs; rw [e1,e2]
  rw [bj2,bj2]
  refine List.Perm.append_left _ ((m.pm.append_left _).trans ?_)
  rw [<- bj2,<- bj2]
  exact (List.perm_append_comm).append_right _
 ·rcases h with h | h
  ·subst h; simpa using m.sy
  ·subst h; simpa using m.sx
theorem MH.fst (m:MH rk xs ys o i j) (h:∀ t ∈ ys.take j,∀ u ∈ xs,rk t<=rk u):(ys.take j ++ xs.take i ++ o).Perm (xs ++ ys)/\Sd rk (ys.take j ++ xs.take i ++ o):=by
 have m2:=m.ofx (bl6 i) fun t ht u hu=>h t ht u (List.mem_of_mem_take (List.mem_of_mem_drop hu))
 have f:=m2.fin (.inl rfl)
 simpa using f
theorem o5 {x:Array Keyed}{i:Nat}{u:Keyed} (h:u ∈ x.toList.take i):∃ t,t < i/\t < x.size/\rk u=Kr rk x t:=by
 obtain ⟨t,ht,e⟩:=bp2 h
 have h1:t < i/\t < x.size:=by simp at ht; omega
 refine⟨t,h1.1,h1.2,?_⟩
 rw [bV h1.2,<- e]
 simp
theorem o6 {x:Array Keyed}{z i:Nat}{u:Keyed} (h:u ∈ (x.toList.take i).drop z):∃ t,z<=t/\t < i/\t < x.size/\rk u=Kr rk x t:=by
 obtain ⟨t,ht,e⟩:=bp2 h
 have h1:z+t < i/\z+t < x.size:=by simp at ht; omega
 refine⟨z+t,by omega,h1.1,h1.2,?_⟩
 rw [bV h1.2,<- e]
 simp
theorem kN (x:Array Keyed) (z i:Nat):(x.extract z i).toList=(x.toList.take i).drop z:=by
 rw [by2]; simp [List.extract]
theorem r9 (x:Array Keyed) (i:Nat):(x.extract 0 i).toList=x.toList.take i:=by
 simp [List.extract]
theorem o7 {x:Array Keyed}{i:Nat} (h:i < x.size) : [x[i]]=(x.toList.take (i+1)).drop i:=by
 rw [by2,kM h,show i+1 - i=1 by omega]
section
variable {κ : SortKind} {st : SortSt} {prog : Program} {w : World} {A : Around} {E : Value → Shared → Prop} {s : Shared} {Ok : Keyed → Prop}
theorem MH.y1 {x y o:Array Keyed} (m:MH rk x.toList y.toList o.toList.reverse i (j+1)) (hj:j < y.size) (h:∀ t,t < i->t < x.size->Kr rk x t<=rk y[j]):MH rk x.toList y.toList (o.push y[j]).toList.reverse i j:=by
 have:=m.ofy (by5 j) fun t ht u hu=>?_
 ·rw [<- o7 hj] at this; simpa using this
 ·rw [<- o7 hj,bh6] at hu
  subst hu
  obtain ⟨q,q1,q2,q3⟩:=o5 (rk:=rk) ht
  rw [q3]; exact h q q1 q2
theorem MH.x1 {x y o:Array Keyed} (m:MH rk x.toList y.toList o.toList.reverse (i+1) j) (hi:i < x.size) (h:∀ t,t < j->t < y.size->Kr rk y t<=rk x[i]):MH rk x.toList y.toList (o.push x[i]).toList.reverse i j:=by
 have:=m.ofx (by5 i) fun t ht u hu=>?_
 ·rw [<- o7 hi] at this; simpa using this
 ·rw [<- o7 hi,bh6] at hu
  subst hu
  obtain ⟨q,q1,q2,q3⟩:=o5 (rk:=rk) ht
  rw [q3]; exact h q q1 q2
theorem MH.yk {x y o:Array Keyed} (m:MH rk x.toList y.toList o.toList.reverse i j) {z:Nat} (hz:z<=j) (h:∀ t p,t < i->t < x.size->z<=p->p < j->p < y.size->Kr rk x t<=Kr rk y p):MH rk x.toList y.toList (o ++ (y.extract z j).reverse).toList.reverse i z:=by
 have:=m.ofy hz fun t ht u hu=>?_
 ·rw [<- kN] at this; simpa using this
 ·obtain ⟨q,q1,q2,q3⟩:=o5 (rk:=rk) ht
  obtain ⟨p,p1,p2,p3,p4⟩:=o6 (rk:=rk) hu
  rw [q3,p4]; exact h q p q1 q2 p1 p2 p3
theorem MH.xk {x y o:Array Keyed} (m:MH rk x.toList y.toList o.toList.reverse i j) {z:Nat} (hz:z<=i) (h:∀ t p,t < j->t < y.size->z<=p->p < i->p < x.size->Kr rk y t<=Kr rk x p):MH rk x.toList y.toList (o ++ (x.extract z i).reverse).toList.reverse z j:=by
 have:=m.ofx hz fun t ht u hu=>?_
 ·rw [<- kN] at this; simpa using this
 ·obtain ⟨q,q1,q2,q3⟩:=o5 (rk:=rk) ht
  obtain ⟨p,p1,p2,p3,p4⟩:=o6 (rk:=rk) hu
  rw [q3,p4]; exact h q p q1 q2 p1 p2 p3
theorem MH.done {x y o:Array Keyed} (m:MH rk x.toList y.toList o.toList.reverse i j) (hh:i=0 ∨ j=0):dF rk x y (x.extract 0 i ++ y.extract 0 j ++ o.reverse):=by
 unfold dF
 rw [bp3,bp3,r9,r9,Array.toList_reverse]
 exact m.fin hh
theorem MH.frst {x y o:Array Keyed} (m:MH rk x.toList y.toList o.toList.reverse i j) (y0:0 < y.size) (hf:∀ t ∈ x.toList,rk y[0]<=rk t) (hh:j=1):dF rk x y (y.extract 0 j ++ x.extract 0 i ++ o.reverse):=by
 unfold dF
 rw [bp3,bp3,r9,r9,Array.toList_reverse]
 refine m.fst fun t ht u hu=>?_
 subst hh
 obtain ⟨q,q1,q2,q3⟩:=o5 (rk:=rk) ht
 have e:q=0:=by omega
 subst e
 rw [q3,bV y0]
 exact hf u hu
structure HB (rk:Keyed->Int) (x y:Array Keyed) (lb i j:Nat) (o:Array Keyed):Prop where
 m:MH rk x.toList y.toList o.toList.reverse i j
 i0:0 < i
 i1:i < x.size
 j0:1 < j
 j1:j<=y.size
 pr:i+j+lb<=x.size+y.size
def HI (rk:Keyed->Int) (x y:Array Keyed) (lb:Nat) (st:SortSt) (c:LH) (st':SortSt):Prop:=Gq st st'/\∃ i j o mg p q,c=(none,i,j,o,mg,p,q)/\HB rk x y lb i j o
def HQ (rk:Keyed->Int) (x y:Array Keyed) (lb:Nat) (st:SortSt) (c:LH) (st':SortSt):Prop:=Gq st st'/\((∃ r i j o mg p q,c=(some r,i,j,o,mg,p,q)/\dF rk x y r) ∨ ∃ i j o mg p q,c=(none,i,j,o,mg,p,q)/\HB rk x y lb i j o)
def HR (rk:Keyed->Int) (x y:Array Keyed) (lb:Nat) (st:SortSt) (r:ForInStep LH) (st':SortSt):Prop:=match r with | .done c=>HQ rk x y lb st c st' | .yield c=>HI rk x y lb st c st'
theorem O2 {st0:SortSt}{x y o:Array Keyed}{i j mg p q lb:Nat} (g:Gq st0 st) (b:HB rk x y lb (i+1) j o) (hm:∀ (hi:i < x.size) t,t < j->t < y.size->Kr rk y t<=rk x[i]):wpS (model prog w) A E s (qX x y o (i+1) j mg p q) (HR rk x y lb st0) st:=by
 unfold qX
 obtain ⟨m,i0,i1,j0,j1,pr⟩:=b
 have hi':i < x.size:=by omega
 have m':=m.x1 hi' (hm hi')
 simp only [Nat.add_sub_cancel]
 refine bi1 (cQ hi' ?_)
 by_cases he:(i == 0)=true
 ·rw [if_pos he]
  have he:i=0:=by simpa using he
  exact bj0 ⟨g,.inl ⟨_,_,_,_,_,_,_,rfl,m'.done (.inl he)⟩⟩
 ·rw [if_neg he]
  have he:i ≠ 0:=by simpa using he
  split
  ·exact bj0 ⟨g,.inr ⟨_,_,_,_,_,_,rfl,m',by omega,by omega,j0,j1,by omega⟩⟩
  ·exact bj0 ⟨g,_,_,_,_,_,_,rfl,m',by omega,by omega,j0,j1,by omega⟩
theorem O3 (c:cE prog w A E s κ Ok rk) {st0:SortSt} (hk:kindOf st0=κ) {x y o:Array Keyed}{i j mg p q lb:Nat} (ox:bK Ok x) (oy:bK Ok y) (sx:Sd rk x.toList) (sy:Sd rk y.toList) (y0:0 < y.size) (hf:∀ t ∈ x.toList,rk y[0]<=rk t) (g:Gq st0 st) (b:HB rk x y lb (i+1) (j+1) o)
  (hm:∀ (hj:j < y.size) t,t < i+1->t < x.size->Kr rk x t<=rk y[j]):wpS (model prog w) A E s (qY x y o (i+1) (j+1) mg p q) (HR rk x y lb st0) st:=by
 unfold qY
 obtain ⟨m,i0,i1,j0,j1,pr⟩:=b
 have hi':i < x.size:=by omega
 have hj:j < y.size:=by omega
 have m':=m.y1 hj (hm hj)
 simp only [Nat.add_sub_cancel]
 refine bi1 (cQ hj ?_)
 by_cases he:(j == 1)=true
 ·rw [if_pos he]
  have he:j=1:=by simpa using he
  exact bj0 ⟨g,.inl ⟨_,_,_,_,_,_,_,rfl,m'.frst y0 hf he⟩⟩
 ·rw [if_neg he]
  have he:j ≠ 1:=by simpa using he
  refine bi1 (cQ hi' (bi1 (lX c (g.kd.trans hk) (ox _ (bn3 hi')) oy (by omega) (by omega) (sy.up _ _ (by omega)) fun z k1 k2 k3=>?_)))
  dsimp only
  have ux:=sx.up 0 _ (bh1 x.size)
  have mk:=m'.yk k1 fun t p ht ht' hp hp' _=>by
   have a1:=k3 p hp hp'
   rw [m3,bs9,Nat.zero_add] at a1
   have a2:=ux t i (by omega) (by omega) hi'
   rw [bV (i:=i) hi'] at a2
   omega
  have km:∀ (hi:i < x.size) t,t < z->t < y.size->Kr rk y t<=rk x[i]:=fun _ t ht _=>by
   have a1:=k2 t ht
   rw [m3,bj6,Nat.zero_add] at a1
   omega
  by_cases hk0:j - z > 0
  ·rw [if_pos hk0]
   by_cases h1:(z == 1)=true
   ·rw [if_pos h1]
    have h1:z=1:=by simpa using h1
    exact bj0 ⟨g,.inl ⟨_,_,_,_,_,_,_,rfl,mk.frst y0 hf h1⟩⟩
   ·rw [if_neg h1]
    have h1:z ≠ 1:=by simpa using h1
    by_cases h0:(z == 0)=true
    ·rw [if_pos h0]
     have h0:z=0:=by simpa using h0
     exact bj0 ⟨g,.inl ⟨_,_,_,_,_,_,_,rfl,mk.done (.inr h0)⟩⟩
    ·rw [if_neg h0]
     have h0:z ≠ 0:=by simpa using h0
     exact O2 g ⟨mk,by omega,i1,by omega,by omega,by omega⟩ km
  ·rw [if_neg hk0]
   have e0:z=j:=by omega
   subst e0
   exact O2 g ⟨m',by omega,i1,by omega,by omega,by omega⟩ km
theorem O4 (c:cE prog w A E s κ Ok rk) {st0:SortSt} (hk:kindOf st0=κ) {x y o:Array Keyed}{i j mg p q lb:Nat} (ox:bK Ok x) (oy:bK Ok y) (sx:Sd rk x.toList) (sy:Sd rk y.toList) (y0:0 < y.size) (hf:∀ t ∈ x.toList,rk y[0]<=rk t) (g:Gq st0 st) (b:HB rk x y lb i (j+1) o) :
  wpS (model prog w) A E s (qZ x y o i (j+1) mg p q) (HR rk x y lb st0) st:=by
 unfold qZ
 obtain ⟨m,i0,i1,j0,j1,pr⟩:=b
 have hj:j < y.size:=by omega
 simp only [Nat.add_sub_cancel]
 refine bi1 (qW g fun st4 q4=>bi1 (cQ hj (bi1 (lX c (q4.kd.trans hk) (oy _ (bn3 hj)) ox (by omega) (by omega) (sx.up _ _ (by omega)) fun z k1 k2 k3=>?_))))
 dsimp only
 have uy:=sy.up 0 _ (bh1 y.size)
 have mk:=m.xk k1 fun t p ht ht' hp hp' _=>by
  have a1:=k3 p hp hp'
  rw [lZ,bs9,Nat.zero_add] at a1
  have a2:=uy t j (by omega) (by omega) hj
  rw [bV (i:=j) hj] at a2
  omega
 have km:∀ (hj:j < y.size) t,t < z->t < x.size->Kr rk x t<=rk y[j]:=fun _ t ht _=>by
  have a1:=k2 t ht
  rw [lZ,bj6,Nat.zero_add] at a1
  exact a1
 by_cases hk0:i - z > 0
 ·rw [if_pos hk0]
  by_cases he:(z == 0)=true
  ·rw [if_pos he]
   exact bj0 ⟨q4,.inl ⟨_,_,_,_,_,_,_,rfl,mk.done (.inl (by simpa using he))⟩⟩
  ·rw [if_neg he]
   have he:z ≠ 0:=by simpa using he
   obtain ⟨z2,rfl⟩:∃ z2,z=z2+1:=⟨z - 1,by omega⟩
   exact O3 c hk ox oy sx sy y0 hf q4 ⟨mk,by omega,by omega,j0,j1,by omega⟩ km
 ·rw [if_neg hk0]
  have e0:z=i:=by omega
  subst e0
  obtain ⟨z2,rfl⟩:∃ z2,z=z2+1:=⟨z - 1,by omega⟩
  exact O3 c hk ox oy sx sy y0 hf q4 ⟨m,i0,i1,j0,j1,pr⟩ km
theorem aF5 (c:cE prog w A E s κ Ok rk) {st0:SortSt} (hk:kindOf st0=κ) {x y o:Array Keyed}{i j mg p q lb:Nat} (ox:bK Ok x) (oy:bK Ok y) (sx:Sd rk x.toList) (sy:Sd rk y.toList) (y0:0 < y.size) (hf:∀ t ∈ x.toList,rk y[0]<=rk t) (g:Gq st0 st) (b:HB rk x y lb i j o) :
  wpS (model prog w) A E s (w9 x y o i j mg p q) (HQ rk x y lb st0) st:=by
 unfold w9
 refine bq0 (I:=fun _=>HI rk x y lb st0) ?_ ?_ ⟨g,i,j,o,_,p,q,rfl,b⟩
 ·rintro t c3 st3 _ _ ⟨q3,i,j,o,mg,p,q,rfl,b3⟩
  obtain ⟨j3,rfl⟩:∃ j3,j=j3+1:=⟨j - 1,by have:=b3.j0; omega⟩
  dsimp only
  split
  ·exact bx2 (O4 c hk ox oy sx sy y0 hf q3 b3) fun r _ hr=>by cases r <;> exact hr
  ·exact bx2 (O4 c hk ox oy sx sy y0 hf q3 b3) fun r _ hr=>by cases r <;> exact hr
 ·rintro c3 st3 ⟨q3,i,j,o,mg,p,q,rfl,b3⟩
  exact⟨q3,.inr ⟨_,_,_,_,_,_,rfl,b3⟩⟩
theorem aF6 (c:cE prog w A E s κ Ok rk) {st0:SortSt} (hk:kindOf st0=κ) {x y o:Array Keyed}{i j mg n:Nat}{Q:w6->SortSt->Prop} (ox:bK Ok x) (oy:bK Ok y) (sx:Sd rk x.toList) (sy:Sd rk y.toList) (y0:0 < y.size) (hf:∀ t ∈ x.toList,rk y[0]<=rk t) (g:Gq st0 st) (b:HB rk x y n i j o)
  (h1:∀ r i' j' o' p q st',Gq st0 st'->dF rk x y r->Q (some r,i',j',o',p,q) st') (h2:∀ i' j' o' p q st',Gq st0 st'->HB rk x y (n+1) i' j' o'->Q (none,i',j',o',p,q) st') :
  wpS (model prog w) A E s (m5 x y o i j mg) Q st:=by
 have ux:Up rk x 0 x.size:=sx.up 0 _ (bh1 _)
 have uy:Up rk y 0 y.size:=sy.up 0 _ (bh1 _)
 unfold m5
 refine bq0 (I:=fun t c st'=>Gq st0 st'/\∃ i j o p q,c=(none,i,j,o,p,q)/\HB rk x y (n+t) i j o) ?_ ?_ ⟨g,i,j,o,0,0,rfl,b⟩
 ·rintro t c2 st2 _ ht ⟨q2,i',j',o,p,q,rfl,m,i0,i1,j0,j1,pr⟩
  obtain ⟨i2,rfl⟩:∃ i2,i'=i2+1:=⟨i' - 1,by omega⟩
  obtain ⟨j2,rfl⟩:∃ j2,j'=j2+1:=⟨j' - 1,by omega⟩
  simp only [Nat.add_sub_cancel]
  have hi:i2 < x.size:=by omega
  have hj:j2 < y.size:=by omega
  refine bi1 (cQ hj (bi1 (cQ hi (bi1 (c _ _ (oy _ (bn3 hj)) (ox _ (bn3 hi)) st2 _ (q2.kd.trans hk) ?_)))))
  by_cases hc:rk y[j2] < rk x[i2]
  ·rw [bi2 hc]
   dsimp only
   rw [if_pos rfl]
   have m':=m.x1 hi fun t ht _=>by
    have:=uy t j2 (by omega) (by omega) hj
    rw [bV hj] at this
    omega
   refine bi1 (cQ hi ?_)
   by_cases he:(i2 == 0)=true
   ·rw [if_pos he]
    exact bj0 (h1 _ _ _ _ _ _ _ q2 (m'.done (.inl (by simpa using he))))
   ·rw [if_neg he]
    have he:i2 ≠ 0:=by simpa using he
    split
    ·exact bj0 (h2 _ _ _ _ _ _ q2 ⟨m',by omega,by omega,j0,j1,by omega⟩)
    ·exact bj0 ⟨q2,_,_,_,_,_,rfl,m',by omega,by omega,j0,j1,by omega⟩
  ·rw [bh3 hc]
   dsimp only
   rw [if_neg bi7]
   have m':=m.y1 hj fun t ht _=>by
    have:=ux t i2 (by omega) (by omega) hi
    rw [bV hi] at this
    omega
   refine bi1 (cQ hj ?_)
   by_cases he:(j2 == 1)=true
   ·rw [if_pos he]
    exact bj0 (h1 _ _ _ _ _ _ _ q2 (m'.frst y0 hf (by simpa using he)))
   ·rw [if_neg he]
    have he:j2 ≠ 1:=by simpa using he
    split
    ·exact bj0 (h2 _ _ _ _ _ _ q2 ⟨m',i0,i1,by omega,by omega,by omega⟩)
    ·exact bj0 ⟨q2,_,_,_,_,_,rfl,m',i0,i1,by omega,by omega,by omega⟩
 ·rintro c2 st2 ⟨q2,i',j',o,p,q,rfl,m,i0,i1,j0,j1,pr⟩
  exact h2 _ _ _ _ _ _ q2 ⟨m,i0,i1,j0,j1,by omega⟩
theorem aF7 (c:cE prog w A E s κ Ok rk) (hk:kindOf st=κ) {x y:Array Keyed}{Q:Array Keyed->SortSt->Prop} (ox:bK Ok x) (oy:bK Ok y) (sx:Sd rk x.toList) (sy:Sd rk y.toList) (x0:0 < x.size) (y0:0 < y.size)
  (hf:∀ t ∈ x.toList,rk y[0]<=rk t) (hl:∀ u ∈ y.toList,rk u<=rk x[x.size - 1])
  (h:∀ r st',Gq st st'->dF rk x y r->Q r st'):wpS (model prog w) A E s (w5 x y) Q st:=by
 rw [aF4]
 refine bi1 (wpS_lift (bu1 ⟨rfl,bi1 (cQ (by omega:x.size - 1 < x.size) ?_)⟩))
 have m0:MH rk x.toList y.toList (#[x[x.size - 1]]:Array Keyed).toList.reverse (x.size - 1) y.size:=by
  have mm:MH rk x.toList y.toList [] x.size y.size:=⟨by simp,by rw [bk3 (by simp),bk6]; exact sx,by rw [bk3 (by simp),bk6]; exact sy⟩
  have e:=o7 (x:=x) (i:=x.size - 1) (by omega)
  rw [show x.size - 1+1=x.size by omega] at e
  have:=mm.ofx (Nat.sub_le x.size 1) fun t ht u hu=>?_
  ·rw [<- e] at this; simpa using this
  ·rw [<- e,bh6] at hu
   subst hu
   exact hl t (List.mem_of_mem_take ht)
 by_cases e1:(x.size - 1 == 0)=true
 ·rw [if_pos e1]
  exact bj0 (h _ st (Gq.refl st) (m0.done (.inl (by simpa using e1))))
 ·rw [if_neg e1]
  have e1:x.size - 1 ≠ 0:=by simpa using e1
  by_cases e2:(y.size == 1)=true
  ·rw [if_pos e2]
   exact bj0 (h _ st (Gq.refl st) (m0.frst y0 hf (by simpa using e2)))
  ·rw [if_neg e2]
   have e2:y.size ≠ 1:=by simpa using e2
   refine bi1 (wpS_get ?_)
   unfold O1
   refine bi1 (bx2 (bq0
    (I:=fun n c st'=>Gq st st'/\∃ i j o mg,c=(none,i,j,o,mg)/\HB rk x y (n+1) i j o)
    (Q:=fun c st'=>Gq st st'/\∃ r i j o mg,c=(some r,i,j,o,mg)/\dF rk x y r) ?_ ?_ ⟨Gq.refl st,_,_,_,_,rfl,m0,by omega,by omega,by omega,by omega,by omega⟩) ?_)
   ·rintro n c1 st1 _ hn ⟨q1,i,j,o,mg,rfl,b⟩
    dsimp only
    refine bi1 (aF6 c hk ox oy sx sy y0 hf q1 b (fun r o' i' j' p q st' g md=>bj0 ⟨g,r,_,_,_,_,rfl,md⟩) fun i' j' o' p q st' g b'=>?_)
    refine bi1 (wpS_lift (bu1 ⟨rfl,?_⟩))
    refine bi1 (bx2 (aF5 c hk ox oy sx sy y0 hf g b') ?_)
    rintro c3 st3 ⟨q3,⟨r,i3,j3,o,mg,p,q,rfl,md⟩ | ⟨i3,j3,o,mg,p,q,rfl,b3⟩⟩
    ·exact bj0 ⟨q3,r,_,_,_,_,rfl,md⟩
    ·exact bi1 (qW q3 fun st4 q4=>bj0 ⟨q4,i3,j3,o,_,rfl,b3⟩)
   ·rintro c1 st1 ⟨q1,i,j,o,mg,rfl,b⟩
    have:=b.pr
    exact absurd this (by omega)
   ·rintro c1 st1 ⟨q1,r,i,j,o,mg,rfl,md⟩
    exact bj0 (h r _ q1 md)
end
theorem aF8 (i:Nat):mergeAt' i=(do
 let z <- get
 let (some (sa,na,pw),some (sb,nb,_)):=((pendingOf z)[i]?,(pendingOf z)[i+1]?) | unsupported "internal:list.sort.pending"
 set (SortSt.mk' (kindOf z) (arrOf z) (((pendingOf z).setIfInBounds i (sa,na+nb,pw)).eraseIdxIfInBounds (i+1)) (gallopOf z) (failedOf z))
 let some k <- jL false (<- elem' (arrOf z) sb) (arrOf z) sa na 0 | return false
 let (sa,na):=(sa+k,na - k)
 if na == 0 then return true
 let some nb <- jL true (<- elem' (arrOf z) (sa+na - 1)) (arrOf z) sb nb (nb - 1) | return false
 if nb == 0 then return true
 let x:=(arrOf z).extract sa sb
 let y:=(arrOf z).extract sb (sb+nb)
 let m <- if na<=nb then vX x y else w5 x y
 modify fun z=>setArr z (m.toList.zipIdx.foldl (fun a (p,j)=>a.setIfInBounds (sa+j) p) (arrOf z))
 return (failedOf (<- get)).isNone):=rfl
variable {rk : Keyed → Int}
theorem aF9 {σ:Type}{M:Model}{A:Around}{E:Value->Shared->Prop}{s:Shared}{a b:σ}{Q:PUnit->σ->Prop} (h:Q ⟨⟩ a):wpS M A E s (set a:StateT σ Sem PUnit) Q b:=by
 unfold wpS; rw [StateT.run_set]; exact bg8 ⟨rfl,h⟩
theorem O5 (o:Nat):∀ (m:List Keyed) (n:Nat) (a:Array Keyed) (t:Nat),o+n+m.length<=a.size->
  ((m.zipIdx n).foldl (fun a (p,j)=>a.setIfInBounds (o+j) p) a)[t]? = if o+n<=t/\t < o+n+m.length then m[t - (o+n)]? else a[t]?
 | [],n,a,t,_=>by
  show a[t]? = _
  rw [if_neg (fun z=>Nat.not_lt_of_ge z.1 z.2)]
 | p :: m,n,a,t,h=>by
  rw [List.zipIdx_cons,List.foldl_cons]
  have h':o+(n+1)+m.length<=(a.setIfInBounds (o+n) p).size:=by rw [Array.size_setIfInBounds]; simp at h; omega
  have ih:=O5 o m (n+1) (a.setIfInBounds (o+n) p) t h'
  refine ih.trans ?_
  have hs:o+n < a.size:=by simp at h; omega
  rw [Array.getElem?_setIfInBounds]
  by_cases e:o+n=t
  ·subst e
   rw [if_neg (by omega),if_pos rfl,if_pos hs,if_pos (by simp),Nat.sub_self]; rfl
  ·rw [if_neg e]
   by_cases c:o+n<=t/\t < o+n+(p :: m).length
   ·rw [if_pos c,if_pos (by simp at c; omega)]
    rw [show t - (o+n)=(t - (o+(n+1)))+1 by omega]; rfl
   ·rw [if_neg c,if_neg (by simp at c ⊢; omega)]
theorem O6 {a:Array Keyed}{lo hi:Nat} (u:Up rk a lo hi) (hh:hi<=a.size):Sd rk (a.extract lo hi).toList:=by
 unfold Sd
 rw [bm5]
 intro i j hi' hj hij
 have h2:lo+j < hi:=by simp at hj; omega
 have:=u (lo+i) (lo+j) (by omega) (by omega) h2
 rw [bV (by omega:lo+i < a.size),bV (by omega:lo+j < a.size)] at this
 simpa using this
theorem O7 {a:Array Keyed}{lo mid hi:Nat} (u:Up rk a lo mid) (v:Up rk a mid hi) (h0:lo < mid) (h1:mid < hi) (h:Kr rk a (mid - 1)<=Kr rk a mid):Up rk a lo hi:=fun i j hi' hij hj=>by
 rcases bm6 j mid with z | z
 ·exact u i j hi' hij z
 ·rcases bm6 i mid with y | y
  ·have a1:=u i (mid - 1) hi' (by omega) (by omega)
   have a2:=v mid j (bh1 _) z hj
   omega
  ·exact v i j y hij hj
theorem O8 {a:Array Keyed}{lo hi t:Nat} (h:t < hi - lo) (hh:hi<=a.size):Kr rk (a.extract lo hi) t=Kr rk a (lo+t):=by
 refine kK ?_
 rw [Array.getElem?_extract_of_lt (by omega)]
 exact (getElem?_pos a (lo+t) (by omega)).symm
section
variable {κ : SortKind} {a0 : Array Keyed} {pd : Array (Nat × Nat × Nat)} {st : SortSt} {prog : Program} {w : World} {A : Around} {E : Value → Shared → Prop} {s : Shared} {Ok : Keyed → Prop}
theorem aG0 {a m:Array Keyed}{p x e:Nat} (hpx:p<=x) (hxe:x<=e) (he:e<=a.size) (md:dF rk (a.extract p x) (a.extract x e) m) :
  let r:=m.toList.zipIdx.foldl (fun a (q,j)=>a.setIfInBounds (p+j) q) a
  r.Perm a/\(∀ t,(t < p ∨ e<=t)->Kr rk r t=Kr rk a t)/\(∀ t t',p<=t->t<=t'->t' < e->Kr rk r t<=Kr rk r t')/\∀ t,p<=t->t < e->∃ t',p<=t'/\t' < e/\Kr rk r t=Kr rk a t':=by
 intro r
 have ml:m.toList.length=e - p:=by
  rw [md.1.length_eq]; simp; omega
 have g:∀ t,r[t]? = if p<=t/\t < e then m[t - p]? else a[t]?:=fun t=>by
  have:=O5 p m.toList 0 a t (by omega)
  rw [show r=(m.toList.zipIdx 0).foldl (fun a (q,j)=>a.setIfInBounds (p+j) q) a from rfl,this]
  simp only [Nat.add_zero,ml,show p+(e - p)=e by omega,bm7]
 have ex:(a.extract p x).toList ++ (a.extract x e).toList=(a.toList.take e).drop p:=by
  rw [kN,kN,by2,by2,by2]
  rw [show x=p+(x - p) by omega,<- List.drop_drop,show p+(x - p) - p=x - p by omega,show e - (p+(x - p))=(e - p) - (x - p) by omega]
  have:=bk8 (x - p) ((a.toList.drop p).take (e - p))
  rw [List.take_take,by2,Nat.min_eq_left (by omega)] at this
  exact this
 have rl:r.toList=a.toList.take p ++ (m.toList ++ a.toList.drop e):=by
  apply List.ext_getElem?
  intro t
  rw [bm7,g]
  rcases bm6 t p with z | z
  ·rw [if_neg (by omega),bn5 (by simp; omega),List.getElem?_take_of_lt z,bm7]
  ·rw [bp5 (by simp; omega)]
   have lp:(a.toList.take p).length=p:=by simp; omega
   rw [lp]
   rcases bm6 t e with y | y
   ·rw [if_pos ⟨z,y⟩,bn5 (by omega),bm7]
   ·rw [if_neg (by omega),bp5 (by omega),ml,List.getElem?_drop,bm7]
    congr 1; omega
 have mp:m.toList.Perm ((a.toList.take e).drop p):=ex ▸ md.1
 refine⟨?_,fun t ht=>kK (by rw [g,if_neg (by omega)]),fun t t' h1 h2 h3=>?_,fun t h1 h2=>?_⟩
 ·refine Array.perm_iff_toList_perm.mpr ?_
  rw [rl]
  have:a.toList=a.toList.take p ++ ((a.toList.take e).drop p ++ a.toList.drop e):=by
   rw [wA _ (by omega:p<=e)]; exact (bk8 p _).symm
  conv=>rhs; rw [this]
  exact (mp.append_right _).append_left _
 ·have e1:Kr rk r t=Kr rk m (t - p):=kK (by rw [g,if_pos (by omega)])
  have e2:Kr rk r t'=Kr rk m (t' - p):=kK (by rw [g,if_pos (by omega)])
  rw [e1,e2]
  have ms:m.size=e - p:=by rw [<- ml]; simp
  exact md.2.up 0 m.size (bh1 _) (t - p) (t' - p) (by omega) (by omega) (by omega)
 ·have e1:Kr rk r t=Kr rk m (t - p):=kK (by rw [g,if_pos (by omega)])
  have ms:m.size=e - p:=by rw [<- ml]; simp
  have hm:t - p < m.size:=by omega
  have mm:m[t - p] ∈ (a.toList.take e).drop p:=mp.mem_iff.mp (by simp)
  obtain ⟨t',q1,q2,q3,q4⟩:=o6 (rk:=rk) mm
  exact⟨t',q1,q2,by rw [e1,bV hm]; exact q4⟩
theorem aG1 (c:cE prog w A E s κ Ok rk) (o:bK Ok a0) (b:SB κ a0 pd st) {i sa na pw sb nb pw':Nat}{Q:Bool->SortSt->Prop} (e1:pd[i]? = some (sa,na,pw)) (e2:pd[i+1]? = some (sb,nb,pw')) (hs:sb=sa+na) (n0:0 < na) (m0:0 < nb) (hz:sb+nb<=a0.size)
  (u:Up rk (arrOf st) sa sb) (v:Up rk (arrOf st) sb (sb+nb))
  (h:∀ st',SB κ a0 ((pd.setIfInBounds i (sa,na+nb,pw)).eraseIdxIfInBounds (i+1)) st'->Up rk (arrOf st') sa (sb+nb)->(∀ t,(t < sa ∨ sb+nb<=t)->Kr rk (arrOf st') t=Kr rk (arrOf st) t)->Q true st'):wpS (model prog w) A E s (mergeAt' i) Q st:=by
 have sz:=b.sz
 rw [aF8]
 refine bi1 (wpS_get ?_)
 rw [b.pd,e1,e2]
 dsimp only
 refine bi1 (aF9 ?_)
 generalize hst:SortSt.mk' (kindOf st) (arrOf st) ((pd.setIfInBounds i (sa,na+nb,pw)).eraseIdxIfInBounds (i+1)) (gallopOf st) (failedOf st)=st1
 have b1:SB κ a0 ((pd.setIfInBounds i (sa,na+nb,pw)).eraseIdxIfInBounds (i+1)) st1:=by rw [<- hst]; exact⟨b.pm,b.kd,b.ok,rfl⟩
 have ar:arrOf st1=arrOf st:=by rw [<- hst]
 have oa:=b.all o
 have hsb:sb < (arrOf st).size:=by omega
 refine bi1 (cQ hsb (bi1 (lX c b1.kd (oa _ (bn3 hsb)) oa n0 (by omega) (hs ▸ u) fun k k1 k2 k3=>?_)))
 dsimp only
 have k2':∀ t,sa<=t->t < sa+k->Kr rk (arrOf st) t<=Kr rk (arrOf st) sb:=fun t t1 t2=>by
  have:=k2 (t - sa) (by omega)
  rw [lZ,bj6,show sa+(t - sa)=t by omega] at this
  rw [bV hsb]; exact this
 have k3':∀ t,sa+k<=t->t < sb->Kr rk (arrOf st) sb < Kr rk (arrOf st) t:=fun t t1 t2=>by
  have:=k3 (t - sa) (by omega) (by omega)
  rw [lZ,bs9,show sa+(t - sa)=t by omega] at this
  rw [bV hsb]; omega
 by_cases ek:(na - k == 0)=true
 ·rw [if_pos ek]
  have ek:na - k=0:=by simpa using ek
  refine bj0 (h st1 b1 ?_ fun t _=>by rw [ar])
  rw [ar]
  exact O7 u v (by omega) (by omega) (k2' (sb - 1) (by omega) (by omega))
 ·rw [if_neg ek]
  have ek:na - k ≠ 0:=by simpa using ek
  have el:sa+k+(na - k) - 1=sb - 1:=by omega
  rw [el]
  have hsl:sb - 1 < (arrOf st).size:=by omega
  refine bi1 (cQ hsl (bi1 (lX c b1.kd (oa _ (bn3 hsl)) oa (by omega) (by omega) v fun l l1 l2 l3=>?_)))
  dsimp only
  have l2':∀ t,sb<=t->t < sb+l->Kr rk (arrOf st) t < Kr rk (arrOf st) (sb - 1):=fun t t1 t2=>by
   have:=l2 (t - sb) (by omega)
   rw [m3,bj6,show sb+(t - sb)=t by omega] at this
   rw [bV hsl]; exact this
  have l3':∀ t,sb+l<=t->t < sb+nb->Kr rk (arrOf st) (sb - 1)<=Kr rk (arrOf st) t:=fun t t1 t2=>by
   have:=l3 (t - sb) (by omega) (by omega)
   rw [m3,bs9,show sb+(t - sb)=t by omega] at this
   rw [bV hsl]; omega
  by_cases en:(l == 0)=true
  ·rw [if_pos en]
   have en:l=0:=by simpa using en
   subst en
   refine bj0 (h st1 b1 ?_ fun t _=>by rw [ar])
   rw [ar]
   exact O7 u v (by omega) (by omega) (l3' sb (by omega) (by omega))
  ·rw [if_neg en]
   have en:l ≠ 0:=by simpa using en
   have sub:∀ p e,bK Ok ((arrOf st).extract p e):=fun p e z hz=>oa z (by
    have:z ∈ ((arrOf st).extract p e).toList:=Array.mem_toList_iff.mpr hz
    rw [kN] at this
    exact Array.mem_toList_iff.mp (List.mem_of_mem_take (List.mem_of_mem_drop this)))
   have sx:Sd rk ((arrOf st).extract (sa+k) sb).toList:=O6 (fun i j h1 h2 h3=>u i j (by omega) h2 h3) (by omega)
   have sy:Sd rk ((arrOf st).extract sb (sb+l)).toList:=O6 (fun i j h1 h2 h3=>v i j h1 h2 (by omega)) (by omega)
   have x0:0 < ((arrOf st).extract (sa+k) sb).size:=by simp; omega
   have y0:0 < ((arrOf st).extract sb (sb+l)).size:=by simp; omega
   have hf:∀ t ∈ ((arrOf st).extract (sa+k) sb).toList,rk ((arrOf st).extract sb (sb+l))[0]<=rk t:=fun t ht=>by
    rw [kN] at ht
    obtain ⟨t',q1,q2,q3,q4⟩:=o6 (rk:=rk) ht
    rw [q4,<- bV (rk:=rk) y0,O8 (by omega) (by omega)]
    exact Int.le_of_lt (k3' t' q1 q2)
   have hl:∀ t ∈ ((arrOf st).extract sb (sb+l)).toList,rk t<=rk ((arrOf st).extract (sa+k) sb)[((arrOf st).extract (sa+k) sb).size - 1]:=fun t ht=>by
    rw [kN] at ht
    obtain ⟨t',q1,q2,q3,q4⟩:=o6 (rk:=rk) ht
    have e:((arrOf st).extract (sa+k) sb).size=sb - (sa+k):=by simp; omega
    rw [q4,<- bV (rk:=rk) (by omega),O8 (by omega) (by omega),e,show sa+k+(sb - (sa+k) - 1)=sb - 1 by omega]
    exact Int.le_of_lt (l2' t' q1 q2)
   have fin:∀ (m:Array Keyed) (st2:SortSt),Gq st1 st2->dF rk ((arrOf st).extract (sa+k) sb) ((arrOf st).extract sb (sb+l)) m->
     wpS (model prog w) A E s (do modify (fun z=>setArr z (m.toList.zipIdx.foldl (fun a (p,j)=>a.setIfInBounds (sa+k+j) p) (arrOf z))); return (failedOf (<- get)).isNone) Q st2:=fun m st2 g md=>by
    have b2:SB κ a0 ((pd.setIfInBounds i (sa,na+nb,pw)).eraseIdxIfInBounds (i+1)) st2:=⟨by rw [g.ar]; exact b1.pm,g.kd.trans b1.kd,g.ok.trans b1.ok,g.pd.trans b1.pd⟩
    have a2:arrOf st2=arrOf st:=g.ar.trans ar
    obtain ⟨r1,r2,r3,r4⟩:=aG0 (by omega) (by omega) (by omega) md
    generalize hr:m.toList.zipIdx.foldl (fun a (q,j)=>a.setIfInBounds (sa+k+j) q) (arrOf st)=r at r1 r2 r3 r4
    refine bi1 (wpS_modify (bi1 (wpS_get (bj0 ?_))))
    have b3:=b2.put (xs:=m.toList.zipIdx.foldl (fun a (q,j)=>a.setIfInBounds (sa+k+j) q) (arrOf st2)) (by rw [a2,hr]; exact r1)
    have er:arrOf (setArr st2 (m.toList.zipIdx.foldl (fun a (q,j)=>a.setIfInBounds (sa+k+j) q) (arrOf st2)))=r:=by rw [<- hr,a2]
    have tr:(failedOf (setArr st2 (m.toList.zipIdx.foldl (fun a (q,j)=>a.setIfInBounds (sa+k+j) q) (arrOf st2)))).isNone=true:=by rw [b3.ok]; rfl
    rw [tr]
    refine h _ b3 (fun i j hi hij hj=>?_) fun t ht=>?_
    ·rw [er]
     have bl:∀ t,sa<=t->t < sa+k->∀ t',sa+k<=t'->t' < sb+l->Kr rk (arrOf st) t<=Kr rk (arrOf st) t':=fun t t1 t2 t' t3 t4=>by
      rcases bm6 t' sb with z | z
      ·exact u t t' t1 (by omega) z
      ·have a1:=k2' t t1 t2
       have a2:=v sb t' (bh1 _) z (by omega)
       omega
     have br:∀ t,sb+l<=t->t < sb+nb->∀ t',sa+k<=t'->t' < sb+l->Kr rk (arrOf st) t'<=Kr rk (arrOf st) t:=fun t t1 t2 t' t3 t4=>by
      rcases bm6 t' sb with z | z
      ·have a1:=u t' (sb - 1) (by omega) (by omega) (by omega)
       have a2:=l3' t t1 t2
       omega
      ·exact v t' t z (by omega) t2
     have blr:∀ t,sa<=t->t < sa+k->∀ t',sb+l<=t'->t' < sb+nb->Kr rk (arrOf st) t<=Kr rk (arrOf st) t':=fun t t1 t2 t' t3 t4=>by
      have a1:=bl t t1 t2 (sb - 1) (by omega) (by omega)
      have a2:=l3' t' t3 t4
      omega
     rcases bm6 i (sa+k) with z | z
     ·rw [r2 i (.inl z)]
      rcases bm6 j (sa+k) with y | y
      ·rw [r2 j (.inl y)]; exact u i j hi hij (by omega)
      ·rcases bm6 j (sb+l) with x | x
       ·obtain ⟨t',q1,q2,q3⟩:=r4 j y x
        rw [q3]; exact bl i hi z t' q1 q2
       ·rw [r2 j (.inr x)]; exact blr i hi z j x hj
     ·rcases bm6 j (sb+l) with x | x
      ·exact r3 i j z hij x
      ·rw [r2 j (.inr x)]
       rcases bm6 i (sb+l) with y | y
       ·obtain ⟨t',q1,q2,q3⟩:=r4 i z y
        rw [q3]; exact br j x hj t' q1 q2
       ·rw [r2 i (.inr y)]; exact v i j (by omega) hij hj
    ·rw [er]; exact r2 t (by omega)
   by_cases hle:na - k<=l
   ·rw [if_pos hle]
    exact bi1 (aF3 c b1.kd (sub _ _) (sub _ _) sx sy x0 y0 hf hl fun m st2 g md=>fin m st2 g md)
   ·rw [if_neg hle]
    exact bi1 (aF7 c b1.kd (sub _ _) (sub _ _) sx sy x0 y0 hf hl fun m st2 g md=>fin m st2 g md)
end
def Ch:Nat->List (Nat × Nat)->Nat->Prop
 | a,[],b=>a=b
 | a,(p,n) :: r,b=>p=a/\0 < n/\Ch (a+n) r b
theorem Ch.split:∀ {l l':List (Nat × Nat)}{a b:Nat},Ch a (l ++ l') b->∃ m,Ch a l m/\Ch m l' b
 | [],_,a,_,h=>⟨a,rfl,h⟩
 | (p,n) :: l,l',a,b,h=>by
  obtain ⟨h1,h2,h3⟩:=h
  obtain ⟨m,q1,q2⟩:=Ch.split h3
  exact⟨m,⟨h1,h2,q1⟩,q2⟩
theorem Ch.join:∀ {l l':List (Nat × Nat)}{a m b:Nat},Ch a l m->Ch m l' b->Ch a (l ++ l') b
 | [],_,a,m,_,h,h'=>by cases (show a=m from h); exact h'
 | (p,n) :: l,l',a,m,b,h,h'=>⟨h.1,h.2.1,Ch.join h.2.2 h'⟩
theorem Ch.len:∀ {l:List (Nat × Nat)}{a b:Nat},Ch a l b->a+l.length<=b
 | [],a,b,h=>by cases (show a=b from h); simp
 | (p,n) :: l,a,b,h=>by
  have:=Ch.len h.2.2
  have:=h.2.1
  simp; omega
theorem Ch.mem:∀ {l:List (Nat × Nat)}{a b:Nat}{r:Nat × Nat},Ch a l b->r ∈ l->a<=r.1/\r.1+r.2<=b/\0 < r.2
 | (p,n) :: l,a,b,r,h,hr=>by
  obtain ⟨h1,h2,h3⟩:=h
  have hb:=Ch.len h3
  rcases bh5.mp hr with e | e
  ·subst e
   have h1:p=a:=h1
   refine⟨?_,?_,h2⟩
   ·show a<=p; omega
   ·show p+n<=b; omega
  ·have:=Ch.mem h3 e
   exact⟨by omega,this.2.1,this.2.2⟩
def sk (pd:Array (Nat × Nat × Nat)):List (Nat × Nat):=pd.toList.map fun r=>(r.1,r.2.1)
theorem rA (pd:Array (Nat × Nat × Nat)):(sk pd).length=pd.size:=by simp [sk]
structure Rn (rk:Keyed->Int) (a:Array Keyed) (l:List (Nat × Nat)) (lo:Nat):Prop where
 ch:Ch 0 l lo
 up:∀ r ∈ l,Up rk a r.1 (r.1+r.2)
variable {rk : Keyed → Int} {κ : SortKind} {a0 : Array Keyed} {pd : Array (Nat × Nat × Nat)} {st : SortSt} {prog : Program} {w : World} {A : Around} {E : Value → Shared → Prop} {s : Shared} {Ok : Keyed → Prop}
theorem Rn.same {a b:Array Keyed}{l:List (Nat × Nat)}{lo:Nat} (h:Rn rk a l lo) (e:∀ t,t < lo->Kr rk b t=Kr rk a t):Rn rk b l lo:=⟨h.ch,fun r hr i j hi hij hj=>by
 have:=(h.ch.mem hr).2.1
 rw [e i (by omega),e j (by omega)]
 exact h.up r hr i j hi hij hj⟩
theorem O9 (c:cE prog w A E s κ Ok rk) (o:bK Ok a0) (b:SB κ a0 pd st) {i lo:Nat}{Q:Bool->SortSt->Prop} (hi:i+1 < pd.size) (hz:lo<=a0.size) (rn:Rn rk (arrOf st) (sk pd) lo)
  (h:∀ pd' st',SB κ a0 pd' st'->pd'.size+1=pd.size->Rn rk (arrOf st') (sk pd') lo->(∀ t,lo<=t->Kr rk (arrOf st') t=Kr rk (arrOf st) t)->Q true st'):wpS (model prog w) A E s (mergeAt' i) Q st:=by
 obtain ⟨⟨sa,na,pw⟩,e1⟩:∃ r,pd[i]? = some r:=⟨pd[i],getElem?_pos pd i (by omega)⟩
 obtain ⟨⟨sb,nb,pw'⟩,e2⟩:∃ r,pd[i+1]? = some r:=⟨pd[i+1],getElem?_pos pd (i+1) hi⟩
 have d1:pd.toList=pd.toList.take i ++ (sa,na,pw) :: (sb,nb,pw') :: pd.toList.drop (i+2):=by
  have hl:i < pd.toList.length:=by simp; omega
  have hl2:i+1 < pd.toList.length:=by simpa using hi
  have g1:pd.toList[i]=(sa,na,pw):=by rw [getElem?_pos pd i (by omega)] at e1; simpa using e1
  have g2:pd.toList[i+1]=(sb,nb,pw'):=by rw [getElem?_pos pd (i+1) hi] at e2; simpa using e2
  have:=bk8 i pd.toList
  rw [br5 hl,br5 hl2,g1,g2] at this
  exact this.symm
 have li:(pd.toList.take i).length=i:=by simp; omega
 have d2:((pd.setIfInBounds i (sa,na+nb,pw)).eraseIdxIfInBounds (i+1)).toList=pd.toList.take i ++ (sa,na+nb,pw) :: pd.toList.drop (i+2):=by
  have e:((pd.setIfInBounds i (sa,na+nb,pw)).eraseIdxIfInBounds (i+1)).toList=(pd.toList.set i (sa,na+nb,pw)).eraseIdx (i+1):=by
   unfold Array.eraseIdxIfInBounds
   rw [dif_pos (by rw [Array.size_setIfInBounds]; exact hi),Array.toList_eraseIdx,Array.toList_setIfInBounds]
  rw [e]
  conv=>lhs; rw [d1]
  rw [List.set_append_right _ _ (by omega),li,Nat.sub_self,List.set_cons_zero,List.eraseIdx_append_of_length_le (by omega),li,show i+1 - i=1 by omega]
  rfl
 have k1:sk pd=(pd.toList.take i).map (fun r=>(r.1,r.2.1)) ++ (sa,na) :: (sb,nb) :: (pd.toList.drop (i+2)).map (fun r=>(r.1,r.2.1)):=by
  unfold sk; conv=>lhs; rw [d1]
  simp
 have k2:sk ((pd.setIfInBounds i (sa,na+nb,pw)).eraseIdxIfInBounds (i+1))=(pd.toList.take i).map (fun r=>(r.1,r.2.1)) ++ (sa,na+nb) :: (pd.toList.drop (i+2)).map (fun r=>(r.1,r.2.1)):=by
  unfold sk; rw [d2]
  simp
 have ch:=rn.ch
 rw [k1] at ch
 obtain ⟨m,c1,c2⟩:=ch.split
 obtain ⟨f1,f2,f3,f4,f5⟩:=c2
 have f1:sa=m:=f1
 have f3:sb=m+na:=f3
 have up:=rn.up
 rw [k1] at up
 have lo2:=f5.len
 refine aG1 c o b e1 e2 (by omega) f2 f4 (by omega) (by have:=up (sa,na) (by simp); rw [f3,<- f1]; exact this) (up (sb,nb) (by simp)) fun st' b' u' fr=>h _ st' b' ?_ ⟨?_,?_⟩ fun t ht=>fr t (by omega)
 ·rw [<- rA,<- rA,k1,k2]; simp; omega
 ·rw [k2]
  refine c1.join ⟨f1,by omega,?_⟩
  rw [<- Nat.add_assoc]; exact f5
 ·intro r hr
  rw [k2] at hr
  rcases bj9.mp hr with z | z
  ·intro p q h1 h2 h3
   have:=(c1.mem z).2.1
   rw [fr p (by omega),fr q (by omega)]
   exact up r (bs8 _ z) p q h1 h2 h3
  ·rcases bh5.mp z with z | z
   ·subst z
    show Up rk (arrOf st') sa (sa+(na+nb))
    rw [show sa+(na+nb)=sb+nb by omega]; exact u'
   ·intro p q h1 h2 h3
    have:=(f5.mem z).1
    rw [fr p (by omega),fr q (by omega)]
    exact up r (bl5 _ (bi3 _ (bi3 _ z))) p q h1 h2 h3
abbrev RS:=Option Unit × Nat
def P0 (sz pw:Nat):StateT SortSt Sem (Option Unit × Unit):=forIn [0:sz] ((none,()):Option Unit × Unit) fun _ _=>do
 let z <- get
 match (if (pendingOf z).size > 1 then (pendingOf z)[(pendingOf z).size - 2]? else none) with
 | some (_,_,o)=>if o<=pw then pure (.done (none,())) else do
   let q <- mergeAt' ((pendingOf z).size - 2)
   if (!q)=true then pure (.done (some (),())) else pure (.yield (none,()))
 | _=>pure (.done (none,()))
def jn (sz lo n:Nat):StateT SortSt Sem (ForInStep RS):=do
 let z <- get
 match (pendingOf z).back? with
 | some (s1,n1,_)=>do
  let r <- P0 sz (power' sz (2 * s1+n1) (2 * s1+n1+n1+n) sz)
  match r.1 with
  | some u=>pure (.done (some u,lo))
  | none=>do
   modify fun s=>setPending s ((pendingOf s).modify ((pendingOf s).size - 1) fun x=>(x.1,x.2.1,power' sz (2 * s1+n1) (2 * s1+n1+n1+n) sz))
   modify fun s=>setPending s ((pendingOf s).push (lo,n,0))
   pure (.yield (none,lo+n))
 | _=>do
  modify fun s=>setPending s ((pendingOf s).push (lo,n,0))
  pure (.yield (none,lo+n))
def P3 (sz mr lo:Nat):StateT SortSt Sem (ForInStep RS):=if lo >= sz then pure (.done (none,lo)) else do
 match <- countRun' lo (sz - lo) with
 | some n=>
  if n < mr then
   liftM (rule "list.sort.binary-insertion")
   let q <- binarySort' lo (min (sz - lo) mr) n
   if (!q)=true then pure (.done (some (),lo)) else jn sz lo (min (sz - lo) mr)
  else jn sz lo n
 | _=>pure (.done (some (),lo))
def P4 (sz:Nat):StateT SortSt Sem (Option Unit × Unit):=forIn [0:sz] ((none,()):Option Unit × Unit) fun _ _=>do
 let z <- get
 if (pendingOf z).size<=1 then pure (.done (none,())) else do
  let q <- mergeAt' (if ((if (pendingOf z).size - 2 > 0 then (pendingOf z)[(pendingOf z).size - 2 - 1]?.map (·.2.1) else none).any (· < ((pendingOf z)[(pendingOf z).size - 2+1]?.elim 0 (·.2.1))))=true then (pendingOf z).size - 2 - 1 else (pendingOf z).size - 2)
  if (!q)=true then pure (.done (some (),())) else pure (.yield (none,()))
theorem aG2:sortRuns'=(do
 let z <- get
 let r <- (forIn [0:(arrOf z).size] ((none,0):RS) fun _ r=>P3 (arrOf z).size (minRun' (arrOf z).size (arrOf z).size 0) r.2)
 match r.1 with
 | some u=>pure u
 | none=>do
  let q <- P4 (arrOf z).size
  match q.1 with
  | some u=>pure u
  | none=>pure ()):=by kernel_rfl
theorem P5 {lo nn:Nat} (n1:0 < nn) {pd:Array (Nat × Nat × Nat)}{a:Array Keyed} (r:Rn rk a (sk pd) lo) (u:Up rk a lo (lo+nn)):Rn rk a (sk (pd.push (lo,nn,0))) (lo+nn):=by
 have e:sk (pd.push (lo,nn,0))=sk pd ++ [(lo,nn)]:=by simp [sk]
 refine⟨by rw [e]; exact r.ch.join ⟨rfl,n1,rfl⟩,fun q hq=>?_⟩
 rw [e] at hq
 rcases bj9.mp hq with z | z
 ·exact r.up q z
 ·rw [bh6] at z
  subst z
  exact u
theorem P6 (c:cE prog w A E s κ Ok rk) (o:bK Ok a0) (b:SB κ a0 pd st) {lo n:Nat}{Q:ForInStep RS->SortSt->Prop} (n1:1<=n) (n2:lo+n<=a0.size) (rn:Rn rk (arrOf st) (sk pd) lo) (u:Up rk (arrOf st) lo (lo+n))
  (h:∀ pd' st',SB κ a0 pd' st'->Rn rk (arrOf st') (sk pd') (lo+n)->Q (.yield (none,lo+n)) st'):wpS (model prog w) A E s (jn a0.size lo n) Q st:=by
 unfold jn
 refine bi1 (wpS_get ?_)
 rw [b.pd]
 cases hb:pd.back? with
 | none=>exact bi1 (wpS_modify (bj0 (h (pd.push (lo,n,0)) _ ⟨b.pm,b.kd,b.ok,by show (pendingOf st).push _=_; rw [b.pd]⟩ (P5 n1 rn u))))
 | some q=>
  obtain ⟨s1,m1,q3⟩:=q
  dsimp only
  generalize power' a0.size (2 * s1+m1) (2 * s1+m1+m1+n) a0.size=pw
  unfold P0
  refine bi1 (bx2 (bq0
   (I:=fun _ r st'=>r=(none,())/\∃ pd,SB κ a0 pd st'/\Rn rk (arrOf st') (sk pd) lo/\Up rk (arrOf st') lo (lo+n))
   (Q:=fun r st'=>r=(none,())/\∃ pd,SB κ a0 pd st'/\Rn rk (arrOf st') (sk pd) lo/\Up rk (arrOf st') lo (lo+n)) ?_ (fun _ _ z=>z) ⟨rfl,pd,b,rn,u⟩) ?_)
  ·rintro t r st4 _ ht ⟨rfl,pd4,b4,r4,u4⟩
   refine bi1 (wpS_get ?_)
   rw [b4.pd]
   cases ho:(if pd4.size > 1 then pd4[pd4.size - 2]? else none) with
   | none=>exact bj0 ⟨rfl,pd4,b4,r4,u4⟩
   | some z=>
    obtain ⟨z1,z2,z3⟩:=z
    have h1:pd4.size > 1:=by
     by_cases y:pd4.size > 1
     ·exact y
     ·rw [if_neg y] at ho; cases ho
    dsimp only
    by_cases hp:z3<=pw
    ·rw [if_pos hp]
     exact bj0 ⟨rfl,pd4,b4,r4,u4⟩
    ·rw [if_neg hp]
     refine bi1 (O9 c o b4 (by omega) (by omega) r4 fun pd5 st5 b5 _ r5 f5=>?_)
     exact bj0 ⟨rfl,pd5,b5,r5,fun i j hi hij hj=>by rw [f5 i hi,f5 j (by omega)]; exact u4 i j hi hij hj⟩
  ·rintro r st4 ⟨rfl,pd4,b4,r4,u4⟩
   refine bi1 (wpS_modify (bi1 (wpS_modify (bj0 ?_))))
   have e:sk (pd4.modify (pd4.size - 1) fun x=>(x.1,x.2.1,pw))=sk pd4:=by
    unfold sk
    rw [Array.toList_modify]
    apply List.ext_getElem?
    intro t
    rw [bi4,bi4,List.getElem?_modify]
    cases pd4.toList[t]? with
    | none=>simp
    | some v=>by_cases y:pd4.size - 1=t <;> simp [y]
   refine h ((pd4.modify (pd4.size - 1) fun x=>(x.1,x.2.1,pw)).push (lo,n,0)) _ ⟨b4.pm,b4.kd,b4.ok,?_⟩ (P5 n1 (by rw [e]; exact r4) u4)
   show ((pendingOf st4).modify ((pendingOf st4).size - 1) fun x=>(x.1,x.2.1,pw)).push _=_
   rw [b4.pd]
theorem aG3 (c:cE prog w A E s κ Ok rk) (o:bK Ok a0) (b:SB κ a0 #[] st) {Q:Unit->SortSt->Prop} (h2:1<=a0.size)
  (h:∀ st',(arrOf st').Perm a0->failedOf st'=none->Up rk (arrOf st') 0 a0.size->Q () st'):wpS (model prog w) A E s sortRuns' Q st:=by
 rw [aG2]
 refine bi1 (wpS_get ?_)
 rw [b.sz]
 generalize minRun' a0.size a0.size 0=mr
 refine bi1 (bx2 (bq0
  (I:=fun x r st'=>∃ lo pd,r=(none,lo)/\x<=lo/\lo<=a0.size/\SB κ a0 pd st'/\Rn rk (arrOf st') (sk pd) lo)
  (Q:=fun r st'=>∃ pd,r=(none,a0.size)/\SB κ a0 pd st'/\Rn rk (arrOf st') (sk pd) a0.size) ?_ ?_ ⟨0,#[],rfl,bh1 _,bl6 _,b,⟨rfl,fun r hr=>absurd hr (by simp [sk])⟩⟩) ?_)
 ·rintro x r st1 _ hx ⟨lo,pd,rfl,xl,lz,b1,rn⟩
  unfold P3
  dsimp only
  by_cases hd:lo >= a0.size
  ·rw [if_pos hd]
   have e:lo=a0.size:=by omega
   subst e
   exact bj0 ⟨pd,rfl,b1,rn⟩
  ·rw [if_neg hd]
   refine bi1 (aE6 c o b1 (by omega) (by omega) fun n st2 b2 n1 n2 u2 l2=>?_)
   have rn2:=rn.same l2
   dsimp only
   by_cases hmr:n < mr
   ·rw [if_pos hmr]
    refine bi1 (wpS_lift (bu1 ⟨rfl,?_⟩))
    refine bi1 (aE7 c o b2 (by omega) (by omega) u2 fun st3 b3 u3 l3=>?_)
    rw [if_neg (by decide)]
    exact P6 c o b3 (by omega) (by omega) (rn2.same l3) u3 fun pd' st' b' r'=>⟨_,pd',rfl,by omega,by omega,b',r'⟩
   ·rw [if_neg hmr]
    exact P6 c o b2 n1 (by omega) rn2 u2 fun pd' st' b' r'=>⟨lo+n,pd',rfl,by omega,by omega,b',r'⟩
 ·rintro r st1 ⟨lo,pd,rfl,xl,lz,b1,rn⟩
  have e:lo=a0.size:=by omega
  subst e
  exact⟨pd,rfl,b1,rn⟩
 ·rintro r st1 ⟨pd,rfl,b1,rn⟩
  dsimp only
  unfold P4
  refine bi1 (bx2 (bq0
   (I:=fun t r st'=>r=(none,())/\∃ pd,SB κ a0 pd st'/\Rn rk (arrOf st') (sk pd) a0.size/\(pd.size+t<=a0.size ∨ pd.size<=1))
   (Q:=fun r st'=>r=(none,())/\∃ pd,SB κ a0 pd st'/\Rn rk (arrOf st') (sk pd) a0.size/\pd.size<=1) ?_ ?_ ⟨rfl,pd,b1,rn,.inl (by have:=rn.ch.len; rw [rA] at this; omega)⟩) ?_)
  ·rintro t r st2 _ ht ⟨rfl,pd,b2,rn2,pr⟩
   refine bi1 (wpS_get ?_)
   rw [b2.pd]
   by_cases h1:pd.size<=1
   ·rw [if_pos h1]
    exact bj0 ⟨rfl,pd,b2,rn2,h1⟩
   ·rw [if_neg h1]
    refine bi1 (O9 c o b2 ?_ (bh1 _) rn2 fun pd' st3 b3 sz3 rn3 _=>?_)
    ·split <;> split <;> omega
    ·exact bj0 ⟨rfl,pd',b3,rn3,by omega⟩
  ·rintro r st2 ⟨rfl,pd,b2,rn2,pr⟩
   exact⟨rfl,pd,b2,rn2,by omega⟩
  ·rintro r st2 ⟨rfl,pd,b2,rn2,pr⟩
   refine bj0 (h st2 b2.pm b2.ok ?_)
   have ch:=rn2.ch
   have up:=rn2.up
   rw [<- rA] at pr
   cases e:sk pd with
   | nil=>rw [e] at ch; exact absurd (show 0=a0.size from ch) (by omega)
   | cons r l=>
    rw [e] at ch up pr
    have el:l = []:=bu9 (by have:=pr; rw [bk2] at this; omega)
    subst el
    obtain ⟨p,n⟩:=r
    obtain ⟨q1,q2,q3⟩:=ch
    have q1:p=0:=q1
    have q3:0+n=a0.size:=q3
    subst q1
    have:=up (0,n) (by simp)
    rw [<- q3]; exact this
end SO
namespace L2
open PySem PySem.Spec PyProof.Rows SO
abbrev eD (h:Heap) (a:Addr) (vs:List Value):Heap:=((h.update a (Obj.mapSeq fun _=>#[])).push (seqObj "tuple" vs.toArray 0)).push (seqObj "list" #[] 0)
abbrev eZ (h:Heap) (vs:List Value):Heap:=((h.push (seqObj "list" #[] 0)).update h.objs.size (Obj.mapSeq (· ++ vs.toArray))).push (seqObj "list" vs.toArray 0)
theorem aG4 {h:Heap}{vs:List Value}{b:Addr}{o:Obj} (e:h.get? b=some o):(eZ h vs).get? b=some o:=by
 have l:=bh9 e
 refine bg7 _ ?_
 rw [Heap.get?_update_ne _ _ _ _ (bj5 l)]
 exact bg7 _ e
theorem aG5 {h:Heap}{vs:List Value}{a b:Addr}{o:Obj} (hb:b ≠ a) (e:h.get? b=some o):(eD h a vs).get? b=some o:=by
 refine bg7 _ (bg7 _ ?_)
 rw [Heap.get?_update_ne _ _ _ _ hb]; exact e
theorem aG6 {prog:Program}{w:World}{A:Around}{E:Value->Shared->Prop}{s:Shared}{a:Addr}{vs:List Value}{n:Nat}{P:PySem.Fin->Shared->Prop}{κ:SortKind}{Ok:Keyed->Prop}{rk:Keyed->Int}
  (e:s.heap.get? a=some (seqObj "list" vs.toArray n)) (h2:2<=vs.length) (big:vs.length<=sizeLine)
  (hk:∀ Q:SortKind->Shared->Prop,Q κ { s with heap:=eD s.heap a vs }->wpAny (model prog w) A (keyKind' vs.toArray) Q E { s with heap:=eD s.heap a vs })
  (c:cE prog w A E { s with heap:=eD s.heap a vs } κ Ok rk) (o:∀ v ∈ vs,Ok (v,v))
  (q:∀ out:List Value,out.Perm vs->out.Pairwise (fun u v=>rk (u,u)<=rk (v,v))->P (.done (.ret .none)) { s with heap:=sortedHeap s.heap a vs out.toArray }):wpAny (model prog w) A (Builtin.«list.sort» ⟨[.ref a],[]⟩) P E s:=by
 have la:=bh9 e
 have cc : ¬ vs.toArray.size < 2:=by simpa using h2
 obtain ⟨k,ek⟩:∃ k,(s.heap.update a (Obj.mapSeq fun _=>#[])).get? a=some (seqObj "list" #[] k):=⟨_,get?_update_seq e fun _=>#[]⟩
 have there:(eD s.heap a vs).get? a=some (seqObj "list" #[] k):=bg7 _ (bg7 _ ek)
 rw [list_sort_plain]
 apply bg5
 apply listItems_at e rfl
 apply bg5
 refine listUpdate_at e rfl ?_ (by simpa using big) (bl6 _)
 apply bg5
 apply seqEpoch_at ek rfl
 apply bg5
 refine wpAny_newTuple ?_ big
 apply bg5
 refine wpAny_newList ?_ (bl6 _)
 apply bq4
 simp only [cc,bn2]
 apply bg5
 refine hk _ ?_
 have zl:(vs.toArray.zip vs.toArray).toList=vs.zip vs:=by simp
 apply bg5
 refine bq7 (aG3 (a0:=vs.toArray.zip vs.toArray) (Q:=fun _ st'=>(arrOf st').Perm (vs.toArray.zip vs.toArray)/\failedOf st'=none/\Up rk (arrOf st') 0 (vs.toArray.zip vs.toArray).size) c (fun x hx=>?_) ⟨Array.Perm.refl _,rfl,rfl,rfl⟩ (by simp; omega) fun st' a1 a2 a3=>⟨a1,a2,a3⟩) ?_ fun _ _ z=>z
 ·have hx':x ∈ vs.zip vs:=by rw [<- zl]; exact Array.mem_toList_iff.mpr hx
  obtain ⟨y1,y2⟩:=mem_zip_self hx'
  have:=o x.1 y2
  have ex:x=(x.1,x.1):=Prod.ext rfl y1.symm
  rw [ex]; exact this
 ·rintro ⟨⟨⟩,st'⟩ s' ⟨rfl,pm,ok,up⟩
  have lp:(arrOf st').toList.Perm (vs.zip vs):=by rw [<- zl]; exact Array.perm_iff_toList_perm.mp pm
  have out:(arrOf st').map (·.2)=((arrOf st').toList.map (·.2)).toArray:=by apply Array.toList_inj.mp; rw [Array.toList_map]
  have op:((arrOf st').toList.map (·.2)).Perm vs:=by
   have:=lp.map (·.2)
   rw [pK] at this; exact this
  have sz:(arrOf st').size=vs.length:=by rw [pm.size_eq]; simp
  dsimp only
  apply bg5
  apply seqEpoch_at there rfl
  apply bg5
  refine listUpdate_at there rfl ?_ (bl6 _) (by rw [Array.size_map,sz]; exact Nat.le_succ_of_le big)
  rw [ok]
  simp only [bne_self_eq_false,bj1,bn2]
  refine bg8 ?_
  have hq:=q _ op ?_
  ·rw [<- out] at hq; exact hq
  ·rw [bl7,bm5]
   intro i j hi hj hij
   have hi':i < (arrOf st').size:=by simpa using hi
   have hj':j < (arrOf st').size:=by simpa using hj
   have h1:=up i j (bl6 _) (bn9 hij) (by simp; omega)
   rw [bV hi',bV hj'] at h1
   have dg:∀ x ∈ (arrOf st').toList,(x.2,x.2)=x:=fun x hx=>Prod.ext (mem_zip_self (lp.mem_iff.mp hx)).1.symm rfl
   rw [dg _ (bp6 hi),dg _ (bp6 hj)]
   simpa using h1
theorem aG7 {prog:Program}{w:World}{A:Around}{E:Value->Shared->Prop}{s:Shared}{l:Addr}{vs:List Value}{Q:Value->Shared->Prop}{κ:SortKind}{Ok:Keyed->Prop}{rk:Keyed->Int}
  (hl:s.heap.IsList l vs.toArray) (h2:2<=vs.length) (big:vs.length<=sizeLine)
  (hk:∀ (A:Around) (E:Value->Shared->Prop) (Q:SortKind->Shared->Prop),Q κ { s with heap:=eD (eZ s.heap vs) (s.heap.objs.size+1) vs }->wpAny (model prog w) A (keyKind' vs.toArray) Q E { s with heap:=eD (eZ s.heap vs) (s.heap.objs.size+1) vs })
  (c:∀ (A:Around) (E:Value->Shared->Prop),cE prog w A E { s with heap:=eD (eZ s.heap vs) (s.heap.objs.size+1) vs } κ Ok rk) (o:∀ v ∈ vs,Ok (v,v))
  (q:∀ out:List Value,out.Perm vs->out.Pairwise (fun u v=>rk (u,u)<=rk (v,v))->Q (.ref (s.heap.objs.size+1)) { s with heap:=sortedAll s.heap vs out.toArray }):wpAny (model prog w) A (call (.builtin "sorted") [.ref l]) Q E s:=by
 apply Calls.call_function_entry kind_sorted plain_sorted entry_sorted (args_sorted1 _)
 simp only [Builtin.«sorted»]
 apply bg5 (m:=checkCount "sorted" 1 1 _)
 apply bg8
 apply bg5
 refine collect_list hl ?_ big
 apply bg5
 refine wpAny_newList ?_ big
 have one:((s.heap.push (seqObj "list" #[] 0)).update s.heap.objs.size (Obj.mapSeq (· ++ vs.toArray))).objs.size=s.heap.objs.size+1:=(Heap.size_update _ _ _).trans (size_push' _ _)
 have at1:(eZ s.heap vs).get? (s.heap.objs.size+1)=some (seqObj "list" vs.toArray 0):=one ▸ bh8 _ rfl
 change wpAny _ _ _ _ _ { s with heap:=eZ s.heap vs }
 rw [one]
 apply bg5
 apply bq4
 refine bl0 slot_list_sort ⟨_,at1,rfl⟩ entry_list_sort ?_ (args_list_sort _)
 exact aG6 (s:={ s with heap:=eZ s.heap vs }) at1 h2 big (hk _ _) (c _ _) o fun out a1 a2=>⟨_,rfl,bg8 ⟨_,rfl,q out a1 a2⟩⟩
def rB (h:Heap) (B:Int) (x:Keyed):Int:=match x.1 with
 | .ref b=>match h.get? b with
  | some ob=>match ob.data with
   | .seq us _=>numOf (us.getD 0 .none) * B+numOf (us.getD 1 .none)
   | _=>0
  | none=>0
 | _=>0
structure iO (h:Heap) (M:Int) (v:Value) (p q:Int):Prop where
 at_:∃ b ob us n,v = .ref b/\h.get? b=some ob/\ob.cls = .type "tuple"/\ob.data = .seq (List.toArray us) n/\IntsAre us [p,q]
 lo : -M<=q
 hi:q<=M
theorem iO.rk {h:Heap}{M B:Int}{x:Keyed}{p q:Int} (z:iO h M x.1 p q):rB h B x=p * B+q:=by
 obtain ⟨b,ob,us,n,e1,e2,_,e4,e5⟩:=z.at_
 cases e5 with
 | cons _ t e6=>cases e6 with
  | cons _ u e7=>cases e7; unfold rB; rw [e1]; dsimp only; rw [e2]; dsimp only; rw [e4]; rfl
theorem P7 {p q p' q' M:Int} (h1 : -M<=q) (h2:q<=M) (h3 : -M<=q') (h4:q'<=M):HT.b6 [p,q] [p',q']=decide (p * (2 * M+1)+q < p' * (2 * M+1)+q'):=by
 rw [HT.fF]
 have mm:∀ {a b:Int},a < b->a * (2 * M+1)+(2 * M+1)<=b * (2 * M+1):=fun {a b} z=>by
  have:=Int.mul_le_mul_of_nonneg_right (show a+1<=b by omega) (show 0<=2 * M+1 by omega)
  rw [Int.add_mul,Int.one_mul] at this
  exact this
 by_cases e:p=p'
 ·subst e
  rw [if_pos rfl,HT.fF]
  by_cases e2:q=q'
  ·subst e2
   rw [if_pos rfl,HT.oW,bh3 (by omega)]
  ·rw [if_neg e2]
   by_cases l:q < q'
   ·rw [bi2 l,bi2 (by omega)]
   ·rw [bh3 l,bh3 (by omega)]
 ·rw [if_neg e]
  by_cases l:p < p'
  ·have:=mm l
   rw [bi2 l,bi2 (by omega)]
  ·have:=mm (show p' < p by omega)
   rw [bh3 l,bh3 (by omega)]
theorem aG8 {prog:Program}{w:World}{A:Around}{E:Value->Shared->Prop}{s:Shared}{M:Int}:cE prog w A E s (tuples' true) (fun x=>∃ p q,iO s.heap M x.1 p q) (rB s.heap (2 * M+1)):=by
 rintro x y ⟨p,q,z⟩ ⟨p',q',z'⟩ st Q hk hq
 rw [z.rk,z'.rk] at hq
 rw [<- P7 z.lo z.hi z'.lo z'.hi] at hq
 obtain ⟨b,ob,us,n,e1,e2,e3,e4,e5⟩:=z.at_
 obtain ⟨b',ob',us',n',e1',e2',e3',e4',e5'⟩:=z'.at_
 rw [lt'_eq]
 refine bi1 (wpS_get ?_)
 rw [hk,e1,e1']
 refine bi1 (wpS_lift (bu6 (PySem.W.kat_lt e2 e4 e2' e4' ?_)))
 have:=uT (prog:=prog) (w:=w) (A:=A) (s:=s) (Q:=fun a s'=>s'=s/\wpS (model prog w) A E s (pure (some a)) Q st) 0 e5 e5' ⟨rfl,bj0 hq⟩
 simpa using this
theorem aG9 {vs vs':List Value} (h:vs.Perm vs'):∀ {xs:List V},aH xs vs->∃ xs',xs'.Perm xs/\aH xs' vs':=by
 induction h with
 | nil=>intro xs r; exact⟨xs,bu8 _,r⟩
 | cons v _ ih=>
  intro xs r
  cases r with
  | cons r t=>
   obtain ⟨xs',p,r'⟩:=ih t
   exact⟨_ :: xs',p.cons _,.cons r r'⟩
 | swap u v l=>
  intro xs r
  cases r with
  | cons r t=>cases t with
   | cons r2 t2=>exact⟨_,List.Perm.swap _ _ _,.cons r2 (.cons r t2)⟩
 | trans _ _ ih1 ih2=>
  intro xs r
  obtain ⟨x1,p1,r1⟩:=ih1 r
  obtain ⟨x2,p2,r2⟩:=ih2 r1
  exact⟨x2,p2.trans p1,r2⟩
theorem P8 {α:Type} (f:α->Int):∀ l:List α,∃ M:Int,∀ y ∈ l,-M<=f y/\f y<=M
 | []=>⟨0,fun _ h=>nomatch h⟩
 | x :: l=>by
  obtain ⟨M,h⟩:=P8 f l
  refine⟨max M (max (f x) (- f x)),fun y hy=>?_⟩
  rcases bh5.mp hy with e | e
  ·subst e; omega
  ·have:=h y e; omega
def P9 (K:PySem.W.Frag):List V->Hp->VK->Prop:=fun xs H Q=>∃ (a:Addr) (ys:List V) (key:V->List Int),xs = [.ref a]/\aI K H a ys/\ys.length<=4096/\(∀ y ∈ ys,∃ b,y = .ref b/\aF K H b ((key y).map V.int)/\(key y).length=2)/\
 ∀ l (zs:List V),H l=none->zs.Perm ys->zs.Pairwise (fun u v=>HT.b6 (key v) (key u)=false)->Q (.ref l) (upd H l (.lst zs))
theorem aH0 {X:Cx}:cD X (.builtin "sorted") (P9 X.K):=by
 intro pins s σ H xs us Q I r h
 obtain ⟨a,ys,key,rfl,hs,hz4,hk,q⟩:=h
 obtain ⟨u,rfl,ru⟩:=dW r
 cases ru
 obtain ⟨its,rv,p,hz⟩:=I.list hs
 have hl:=rv.length
 have hn:s.heap.objs.size<=s.heap.objs.size+1:=by5 _
 by_cases h2:its.length < 2
 ·refine C8 p.isList h2 ?_
  obtain ⟨e,he⟩:=sortedAll_at s.heap its its.toArray
  refine⟨.ref (s.heap.objs.size+1),upd H (s.heap.objs.size+1) (.lst ys),I.laid (t':=s.toks) (fun _ _=>sortedAll_old) hn ⟨hz,its,e,rv,he⟩,rfl,q _ ys (I.hok.fresh hn) (bu8 _) ?_⟩
  match ys,hl with
  | [],_=>exact bx1
  | [_],_=>exact bl9 _ _
  | _ :: _ :: _,hl=>simp at hl; omega
 ·obtain ⟨M,hM⟩:=P8 (fun y=>(key y).getD 1 0) ys
  have pv:∀ {y:V}{v:Value},aQ y v->y ∈ ys->∃ pp qq,key y = [pp,qq]/\iO (eD (eZ s.heap its) (s.heap.objs.size+1) its) M v pp qq:=fun {y v} ry hy=>by
   obtain ⟨b,rfl,sq,l2⟩:=hk y hy
   cases ry
   obtain ⟨us,ru,⟨ob,e1,c1,n1,d1⟩,_⟩:=I.tuple sq
   have ia:=i8 ru
   have mm:=hM _ hy
   match hkk:key (V.ref b),l2 with
   | [pp,qq],_=>
    rw [hkk] at ia mm
    exact⟨pp,qq,rfl,⟨b,ob,us,n1,rfl,aG5 (bj5 (bv0 (bh9 e1))) (aG4 e1),c1,d1,ia⟩,mm.1,mm.2⟩
  have pvs:∀ {xs:List V}{vs:List Value},aH xs vs->(∀ y ∈ xs,y ∈ ys)->∀ v ∈ vs,∃ pp qq,iO (eD (eZ s.heap its) (s.heap.objs.size+1) its) M v pp qq:=by
   intro xs vs r
   induction r with
   | nil=>intro _ v hv; cases hv
   | cons rx rt ih=>
    intro hh v hv
    rcases bh5.mp hv with z | z
    ·subst z
     obtain ⟨pp,qq,_,z⟩:=pv rx (hh _ bi0)
     exact⟨pp,qq,z⟩
    ·exact ih (fun y hy=>hh y (bi3 _ hy)) v z
  have firsts:∀ {vs:List Value},(∀ v ∈ vs,∃ pp qq,iO (eD (eZ s.heap its) (s.heap.objs.size+1) its) M v pp qq)->∃ fs:List Value,PySem.W.KatTups (eD (eZ s.heap its) (s.heap.objs.size+1) its) vs fs/\fs.length=vs.length/\∀ v ∈ fs,∃ i t,v=Value.int i t:=by
   intro vs
   induction vs with
   | nil=>intro _; exact⟨[],PySem.W.KatTups.nil,rfl,fun _ z=>nomatch z⟩
   | cons v vs ih=>
    intro hh
    obtain ⟨fs,t1,t2,t3⟩:=ih fun y hy=>hh y (bi3 _ hy)
    obtain ⟨pp,qq,z⟩:=hh v bi0
    obtain ⟨b,ob,us,n,rfl,e2,e3,e4,e5⟩:=z.at_
    cases e5 with
    | cons _ t e6=>exact⟨Value.int pp t :: fs,PySem.W.KatTups.cons e2 e3 e4 (by simp) t1,by simp [t2],fun v hv=>(bh5.mp hv).elim (fun z=>⟨pp,t,z⟩) (t3 v)⟩
  have allp:=pvs rv fun _ h=>h
  obtain ⟨fs,t1,t2,t3⟩:=firsts allp
  refine aG7 (κ:=tuples' true) (Ok:=fun x=>∃ pp qq,iO (eD (eZ s.heap its) (s.heap.objs.size+1) its) M x.1 pp qq) (rk:=rB (eD (eZ s.heap its) (s.heap.objs.size+1) its) (2 * M+1)) p.isList (by omega) (by rw [<- hl]; exact hz)
   (fun A E Q hQ=>?_) (fun A E=>aG8 (s:={ s with heap:=eD (eZ s.heap its) (s.heap.objs.size+1) its })) (fun v hv=>allp v hv) fun out pm so=>?_
  ·refine PySem.W.kat_kind (T:=.type "int") t1 (by omega) (fun v hv=>?_) (by decide) ?_
   ·obtain ⟨i,t,rfl⟩:=t3 v hv
    exact PySem.W.Looks.now
   ·have eT:(Value.type "int" != Value.type "tuple")=true:=by decide
    rw [eT]; exact hQ
  ·obtain ⟨zs,pz,rz⟩:=aG9 pm.symm rv
   obtain ⟨e,he⟩:=sortedAll_at s.heap its out.toArray
   refine⟨.ref (s.heap.objs.size+1),upd H (s.heap.objs.size+1) (.lst zs),I.laid (t':=s.toks) (fun _ _=>sortedAll_old) hn ⟨by rw [pz.length_eq]; exact hz,out,e,rz,he⟩,rfl,q _ zs (I.hok.fresh hn) pz ?_⟩
   have lz:=rz.length
   rw [bm5]
   intro i j hi hj hij
   have s1:=bm5.mp so i j (by omega) (by omega) hij
   have gi:=nE i hi rz
   have gj:=nE j hj rz
   simp only [bh4,bg9 hi,bg9 hj,bg9 (show i < out.length by omega),bg9 (show j < out.length by omega),Option.getD_some] at gi gj
   obtain ⟨pi,qi,ki,vi⟩:=pv gi (pz.mem_iff.mp (bp6 hi))
   obtain ⟨pj,qj,kj,vj⟩:=pv gj (pz.mem_iff.mp (bp6 hj))
   rw [iO.rk (x:=(out[i],out[i])) vi,iO.rk (x:=(out[j],out[j])) vj] at s1
   rw [ki,kj,P7 vj.lo vj.hi vi.lo vi.hi]
   exact bh3 (by omega)
end L2
namespace L2
open PySem PySem.Spec PyProof.Rows
theorem bA.at {P:Program}{w:World}{H:Hp}{h:Heap}{a:Addr}{o:HO} (x:bA P w H h a o):∃ ob,h.get? a=some ob:=by
 cases o with
 | lst xs=>obtain ⟨_,_,_,_,e⟩:=x; exact⟨_,e⟩
 | tup xs=>obtain ⟨_,_,_,_,e,_⟩:=x; exact⟨_,e⟩
 | dK kvs=>obtain ⟨_,_,_,_,_,_,_,e,_⟩:=x; exact⟨_,e⟩
 | dT kvs=>obtain ⟨_,_,_,_,_,_,_,e,_⟩:=x; exact⟨_,e⟩
 | set S n=>obtain ⟨_,_,_,_,e,_⟩:=x; exact⟨_,e⟩
 | ins C dx fs=>obtain ⟨_,_,_,e,_⟩:=x; exact⟨_,e⟩
 | own y=>exact x
 | xd fs=>obtain ⟨_,⟨_,_,_,e,_⟩,_⟩:=x; exact⟨_,e⟩
 | rng lo hi=>obtain ⟨_,_,_,e⟩:=x; exact⟨_,e⟩
 | frz ob u=>obtain ⟨e,_⟩:=x; exact⟨_,e⟩
 | tbl ps=>exact⟨_,x⟩
 | met f y=>exact⟨_,x⟩
 | ext φ=>exact x.2.1
structure wB (P:Program) (w:World) (outer:List Env) (H:Hp) (s:Shared) (H':Hp) (B:Heap) (a C:Addr) (s':Shared):Prop where
 os:s'.os=s.os
 bare:AllBare s'.gens
 un:Un (bS outer) [] H H' s.heap s'.heap
 hok:bO P w H' s'.heap
 fly:∃ a0,Heap.FlyingW B outer a (.ref C) a0 s'.heap
 b0:∀ b o,s.heap.get? b=some o->b ∉ bS outer->∃ o',B.get? b=some o'
 b1:∀ b o,s.heap.get? b=some o->H b=none->b ∉ bS outer->B.get? b=some o
 b2:∀ b u o,H' b=some u->s'.heap.get? b=some o->B.get? b=some o
def dR (P:Program) (w:World):fO:=fun outer H s E e s'=>∃ (H':Hp) (B:Heap) (a C:Addr),e = .ref a/\wB P w outer H s H' B a C s'/\E (.ref C) none H'
section
variable {P : Program} {w : World} {outer : List Env} {H H' : Hp} {s s' : Shared} {B h2 : Heap} {a C : Addr}
theorem wB.hok2 (f:wB P w outer H s H' B a C s') (k:B.StaysIn h2):bO P w H' h2:=fun b u e=>
 (f.hok b u e).stay (fun c v hc q=>by
  rcases hc with z | z
  ·subst z; exact k _ _ (f.b2 _ _ _ e q)
  ·exact k _ _ (f.b2 _ _ _ z q)) (fun _ q=>q) fun _ _ q=>q
end
section
variable {P : Program} {w : World} {K : PySem.W.Frag} {mg : Str → Option Value} {base : Heap} {N : List Str} {qual : Str} {scope : Scope} {f : Addr} {cd : Value} {A : Around} {outer : List Env} {s₀ : Shared} {H₀ : Hp} {E₀ E₁ : XK}
theorem rC {pins:List (Addr × Obj)}{σ:St}{H:Hp}{s:Shared} (I:a6 (cV (dR P w) P w K mg base N qual scope f cd A outer s₀ H₀ E₀) pins σ H s) {b:Addr}{o:Obj} (e:s₀.heap.get? b=some o) (n:b ∉ bS outer) :
  b ∉ bS (envOfC qual scope s₀.heap.objs.size f cd :: outer):=fun z=>by
 rcases bh5.mp (I.stkSub b z) with y | y
 ·have l:=bh9 e
  have y:b=s₀.heap.objs.size:=y
  exact absurd l (by rw [y]; exact bm1 _)
 ·exact n y
theorem aH1 (hE:∀ c d H',E₁ c d H'->E₀ c d H'):mW (dR P w) (cV (dR P w) P w K mg base N qual scope f cd A outer s₀ H₀ E₀) E₁:=by
 intro pins σ H s e s' I hx
 obtain ⟨H',B,a,C,e1,fl,q⟩:=hx
 subst e1
 have I':=I.call' fl.os fl.un fl.hok fl.bare (ch:=[]) (fun b z=>absurd z (by simp))
 obtain ⟨a0,fly⟩:=fl.fly
 refine wpAny_leaves_onW I.ok.frames rfl fly fun h' fly' up=>?_
 have slot:∀ b o,s₀.heap.get? b=some o->b ∈ bS outer->∃ sl,h'.get? b=some { o with slots:=sl }:=fun b o e hb=>by
  obtain ⟨sl,e1⟩:=I'.base.slot b o e (I.ok.frf b hb) hb (fun z=>nomatch z)
  obtain ⟨_,o2,e2,nf⟩:=I.ok.funs.mem hb
  rw [show (cV (dR P w) P w K mg base N qual scope f cd A outer s₀ H₀ E₀).s₀=s₀ from rfl,e] at e2
  cases e2
  obtain ⟨sl',e3⟩:=up b _ e1 nf
  exact⟨sl',e3⟩
 have old:∀ b o,s₀.heap.get? b=some o->H₀ b=none->b ∉ bS outer->B.get? b=some o:=fun b o e n hb=>
  fl.b1 b o (I.base.keep b o e n hb (fun z=>nomatch z)) (I.base.free b o e n (fun z=>nomatch z)) (rC I e hb)
 have old0:∀ b o,s₀.heap.get? b=some o->b ∉ bS outer->∃ o',B.get? b=some o':=fun b o e hb=>by
  obtain ⟨o1,e1⟩:=I.base.there b o e (fun z=>nomatch z)
  exact fl.b0 b o1 e1 (rC I e hb)
 refine⟨H',B,a,C,rfl,⟨I'.os,I'.bare,⟨fun b o e n hb _=>fly'.1 _ _ (old b o e n hb),fun b o e n hb _=>slot b o e hb,fun b o e n hx=>I'.base.free b o e n hx,fun b o e _=>?_,I'.base.tups,I'.base.frzs,I'.base.tbls⟩,fl.hok2 fly'.1,⟨a0,fly'⟩,old0,old,fun b u o e h=>?_⟩,hE _ _ _ q⟩
 ·by_cases hb:b ∈ bS outer
  ·obtain ⟨sl,e1⟩:=slot b o e hb
   exact⟨_,e1⟩
  ·obtain ⟨o',e1⟩:=old0 b o e hb
   exact⟨o',fly'.1 _ _ e1⟩
 ·obtain ⟨ob,e1⟩:=(fl.hok b u e).at
  have e2:=fl.b2 b u ob e e1
  have e3:=fly'.1 _ _ e2
  have h:h'.get? b=some o:=h
  rw [h] at e3; cases e3; exact e2
theorem aH2 {pins:List (Addr × Obj)}{σ:St}{H:Hp}{s:Shared}{h':Heap}{e C:Addr}{args:List Value} (I:a6 (cV (dR P w) P w K mg base N qual scope f cd A outer s₀ H₀ E₀) pins σ H s) (mx:Heap.MadeExcOf s.heap h' e (.ref C) args) (q:E₀ (.ref C) none H) :
  (cV (dR P w) P w K mg base N qual scope f cd A outer s₀ H₀ E₀).xe (.ref e) { s with heap:=h' }:=by
 have tr:∀ b u,H b=some u->b ∉ bS (envOfC qual scope s₀.heap.objs.size f cd :: outer):=fun b u z n=>by
  rw [I.stkFree b n] at z; cases z
 have inB:∀ b o,s.heap.get? b=some o->b ∉ bS (envOfC qual scope s₀.heap.objs.size f cd :: outer)->(PySem.W.hideAll s.heap (bS (envOfC qual scope s₀.heap.objs.size f cd :: outer))).get? b=some o:=fun b o z n=>PySem.W.hideAll_get _ z n
 refine wpAny_leaves_madeW (base:=PySem.W.hideAll s.heap (bS (envOfC qual scope s₀.heap.objs.size f cd :: outer))) I.ok.frames rfl (fun b o z=>PySem.W.of_hideAll _ z) (PySem.W.funFrames_hide I.stack fun env he b hb=>List.mem_filterMap.mpr ⟨env,he,hb⟩) mx fun h'' t fly _ _ up=>?_
 have slot:∀ b o,s₀.heap.get? b=some o->b ∈ bS outer->∃ sl,h''.get? b=some { o with slots:=sl }:=fun b o e hb=>by
  obtain ⟨sl,e1⟩:=I.base.slot b o e (I.ok.frf b hb) hb (fun z=>nomatch z)
  obtain ⟨_,o2,e2,nf⟩:=I.ok.funs.mem hb
  rw [show (cV (dR P w) P w K mg base N qual scope f cd A outer s₀ H₀ E₀).s₀=s₀ from rfl,e] at e2
  cases e2
  obtain ⟨sl',e3⟩:=up b _ (mx.keeps _ _ e1) nf
  exact⟨sl',e3⟩
 have old:∀ b o,s₀.heap.get? b=some o->H₀ b=none->b ∉ bS outer->(PySem.W.hideAll s.heap (bS (envOfC qual scope s₀.heap.objs.size f cd :: outer))).get? b=some o:=fun b o e n hb=>
  inB b o (I.base.keep b o e n hb (fun z=>nomatch z)) (rC I e hb)
 have old0:∀ b o,s₀.heap.get? b=some o->b ∉ bS outer->∃ o',(PySem.W.hideAll s.heap (bS (envOfC qual scope s₀.heap.objs.size f cd :: outer))).get? b=some o':=fun b o e hb=>by
  obtain ⟨o1,e1⟩:=I.base.there b o e (fun z=>nomatch z)
  exact⟨o1,inB b o1 e1 (rC I e hb)⟩
 refine⟨H,_,e,C,rfl,⟨I.os,I.bare,⟨fun b o e n hb _=>fly.1 _ _ (old b o e n hb),fun b o e n hb _=>slot b o e hb,fun b o e n hx=>I.base.free b o e n hx,fun b o e _=>?_,I.base.tups,I.base.frzs,I.base.tbls⟩,fun b u z=>?_,⟨_,fly⟩,old0,old,fun b u o z h=>?_⟩,q⟩
 ·by_cases hb:b ∈ bS outer
  ·obtain ⟨sl,e1⟩:=slot b o e hb
   exact⟨_,e1⟩
  ·obtain ⟨o',e1⟩:=old0 b o e hb
   exact⟨o',fly.1 _ _ e1⟩
 ·refine (I.hok b u z).stay (fun c v hc y=>?_) (fun _ y=>y) fun _ _ y=>y
  rcases hc with z' | z'
  ·subst z'; exact fly.1 _ _ (inB _ _ y (tr _ _ z))
  ·exact fly.1 _ _ (inB _ _ y (tr _ _ z'))
 ·obtain ⟨ob,e1⟩:=(I.hok b u z).at
  have e2:=inB b ob e1 (tr b u z)
  have e3:=fly.1 _ _ e2
  have h:h''.get? b=some o:=h
  rw [h] at e3; cases e3; exact e2
end
structure m6 (X:Cx) (E:XK):Prop where
 pass:mW (dR X.prog X.w) X E
 made:∀ (pins:List (Addr × Obj)) (σ:St) (H:Hp) (s:Shared) (h':Heap) (e C:Addr) (args:List Value),a6 X pins σ H s->Heap.MadeExcOf s.heap h' e (.ref C) args->E (.ref C) none H->X.xe (.ref e) { s with heap:=h' }
 own:PassesOwn (model X.prog X.w) X.A X.env X.xe
theorem aH3 {P:Program}{w:World}{K:PySem.W.Frag}{mg:Str->Option Value}{base:Heap}{N:List Str}{qual:Str}{scope:Scope}{f:Addr}{cd:Value}{A:Around}{outer:List Env}{s₀:Shared}{H₀:Hp}{E₀ E₁:XK} (hE:∀ c d H',E₁ c d H'->E₀ c d H') :
  m6 (cV (dR P w) P w K mg base N qual scope f cd A outer s₀ H₀ E₀) E₁:=
 ⟨aH1 hE,fun _ _ _ _ _ _ _ _ I mx q=>aH2 I mx (hE _ _ _ q),PassesOwn.leaving⟩
def Q0 (E:XK) (C:Addr) (t:TA):TS:=fun _ σ H=>t σ H fun vs H1=>vs.length<=sizeLine/\E (.ref C) none H1
theorem aH4 {X:Cx}{E:XK}{x:Str}{C:Addr}{bm:List Value}{B newId initId:String}{np cpos pos:Pos}{e:Expr}{es:List Expr}{t:TA} (hX:m6 X E) (hc:X.calm=true) (O:OwnCls x C bm newId X.mg X.base) (FB:ExcBaseFacts B newId initId bm) (ha:PA X (e :: es) t) (hg:Gl X x)
  (hd:(x == ("__debug__" : Str))=false:=by decide) (he:starEach (e :: es) X.env=(false,eval e X.env) :: starEach es X.env:=by rfl) (hpl:(backTo cpos (starEach es X.env)).any (·.1)=false:=by rfl) :
  PS X (.Raise (some (.Call (.Name x np) (e :: es) [] cpos)) none pos) (Q0 E C t):=by
 intro pins s σ H D I h
 obtain ⟨tl,Na,nm,qn,bs,hx,sn,sub,ab,col,dd,k0,k1,k2,k3,k5,mN,hC,hN,hni,T⟩:=O.obj
 refine wpAny_Raise_call_subT (nm:=nm) (q:=qn) (N:=Na) (bs:=bs) (bm:=tl) (hdct:=hx) (sn:=sn) (sub:=sub) (ab:=ab) (col:=col) (dd:=dd) (k0:=k0) (k1:=k1) (k2:=k2) (k3:=k3) (k5:=k5) FB (C:=C) (mN:=mN) (T.hasType FB.hasBase) (I.ok.hd hc) (by rw [he]; show (false || (backTo cpos (starEach es X.env)).any (·.1))=false; rw [hpl]; rfl) hni (t6 I hg O.bound ⟨rfl,?_⟩ hd)
 have h1:=ha cpos pins s σ H _ I h
 rw [he] at h1 ⊢
 refine Calls.evalArgs_plain (bq7 h1 (fun us s2 h2=>?_) fun _ _ y=>y)
 obtain ⟨vs,H2,I2,r,hl,q⟩:=h2
 have r:aH vs us:=r
 exact⟨rfl,by show us.length<=sizeLine; rw [<- r.length]; exact hl,I2.bk _ _ hC,hN.keeps I2.bk,T.keeps I2.bk,fun h' e' mx=>hX.made pins σ H2 s2 h' e' C _ I2 mx q⟩
theorem eN.okX {P:Program}{w:World}{K:PySem.W.Frag}{mg:Str->Option Value}{base:Heap}{x qual:Str}{st:Stmt}{f:Addr}{fd:FuncData}{N ps:List Str}{k:Nat}{sp:Sp} (F:eN K x qual st f fd) (S:FnScope N ps (aO st)) (len:∀ vs H Q E,sp vs H Q E->vs.length=ps.length)
  (hbody:∀ (cdv:Value) (A:Around) (outer:List Env) (s:Shared) (H:Hp) (vs:List V) (Q:VK) (E:XK),c9 k (A.deeper (envOfC qual (aO st) s.heap.objs.size f cdv))->sp vs H Q E->
   ∃ t,dG (cV (dR P w) P w K mg base N qual (aO st) f cdv A outer s H E) (dM st) t/\t { nx:=fun _ H'=>Q .non H',rt:=Q } (fP N vs) H):cU P w K mg base (dR P w) (k+1) f fd ps sp:=by
 obtain ⟨oc,od,kV,doc,pm,an,cdv,ct,osl,rfl,lk,hcd⟩:=F.ex
 exact zL lk hcd S len fun A outer s H vs Q E hr hsp=>hbody cdv A outer s H vs Q E hr hsp
section
variable {X : Cx} {pins : List (Addr × Obj)} {σ : St} {H H1 H' : Hp} {s s1 s' : Shared} {B h2 : Heap} {a C : Addr}
abbrev Cx.suite (X:Cx) (a:Addr):Cx:={ X with A:=X.A.mark (some (.ref a)),calm:=false,xe:=fun _ _=>False }
end
abbrev TB:=cN->XK->St->Hp->Prop
end L2
namespace Raw
open PySem PySem.W PySem.Calls PyProof.Rows
theorem kO {α β:Type} (f:α->β):∀ (j:Nat) (l:List α),(l.eraseIdx j).map f=(l.map f).eraseIdx j
 | _,[]=>rfl
 | 0,_ :: _=>rfl
 | j+1,x :: r=>by
  show f x :: (r.eraseIdx j).map f=f x :: (r.map f).eraseIdx j
  rw [kO f j r]
section
variable {prog : Program} {w : World} {K : Type} [DecidableEq K] {knd : HeapKind prog w K} {A : Around} {E : Value → Shared → Prop} {s : Shared} {d a : Addr} {k : K} {xs : List (K × Addr × Value)}
def Q2 (knd:HeapKind prog w K) (h:Heap) (d:Addr) (xs:List (K × Addr × Value)) (j:Nat):Prop:=∃ o es ep,h.get? d=some o/\o.ExactDict/\o.data = .dict es ep/\es.toList=(xs.eraseIdx j).map (entryOfKey knd)
theorem aH5 {Q:Option DictEntry->Shared->Prop} (hu:knd.room A) (hkey:knd.is s.heap k a) (hm:s.heap.DictOfH knd d xs) (hz:xs.length<=sizeLine) (is:∃ (j:Nat) (p:Addr × Value),xs[j]? = some (k,p))
  (q:∀ (j:Nat) (p:Addr × Value) h',xs[j]? = some (k,p)->Q2 knd h' d xs j->Heap.SameBut d s.heap h'->Q (some (entryOfKey knd (k,p))) { s with heap:=h',toks:=s.toks+knd.draws k }):wpAny (model prog w) A (Builtin.Dict.takeOut d (.ref a)) Q E s:=by
 obtain ⟨o,es,ep,e1,e2,e3,e4,e5,e6⟩:=hm
 obtain ⟨j0,p0,h0⟩:=is
 unfold Builtin.Dict.takeOut
 try with_reducible refine bq4 ?_
 apply bg5
 apply knd.pyHash hu hkey
 apply bg5
 refine wpAny_dictFind_heap (s:={ s with toks:=s.toks+knd.draws k }) hu hkey e1 e3 e4 e5 e6 (fun no=>absurd h0 (no j0 p0)) fun j p hj=>?_
 apply bg5
 apply wpAny_dictEntries (s:={ s with toks:=s.toks+knd.draws k }) e1 e3
 rw [entry_at e4 j,hj]
 have sz:=size_of_entries e4
 apply bg5
 refine wpAny_updateDictKeys (hz:=by omega) (s:={ s with toks:=s.toks+knd.draws k }) e1 e3 (bg8 (q j p _ hj ⟨_,_,ep+1,bo4 _ e1 (Obj.isFreed_of_dict (Obj.data_mapDictKeys e3 _)),e2.mapDictKeys _,Obj.data_mapDictKeys e3 _,?_⟩ (bm9 ..)))
 rw [kO,<- e4]
 obtain ⟨l⟩:=es
 simp
end
section
variable {prog : Program} {w : World} {K : Type} [DecidableEq K] (knd : HeapKind prog w K) (d a : Addr)
theorem aH6:MeetsIn prog w (Builtin.«dict.pop» ⟨[.ref d,.ref a],[]⟩) (fun A R s=>knd.room A.in1/\∃ k xs,knd.is s.heap k a/\s.heap.DictOfH knd d xs/\xs.length<=sizeLine/\(∃ (j:Nat) (p:Addr × Value),xs[j]? = some (k,p))/\
  ∀ (j:Nat) (p:Addr × Value) h',xs[j]? = some (k,p)->Q2 knd h' d xs j->Heap.SameBut d s.heap h'->R (.ok (.ret p.2)) { s with heap:=h',toks:=s.toks+knd.draws k }):=
 .of_wp fun A R s h=>by
  obtain ⟨hu,k,xs,hk,hm,hz,is,q⟩:=h
  obtain ⟨o,es,ep,e1,e2,e3,e4,e5,e6⟩:=id hm
  have ne:es.isEmpty=false:=by
   obtain ⟨j,p,hj⟩:=is
   have sz:=size_of_entries e4
   have:=(bh7.mp hj).1
   rw [Array.isEmpty_eq_false_iff,ne_eq,<- Array.size_eq_zero_iff]
   omega
  unfold Builtin.«dict.pop»
  apply bg5
  unfold Builtin.Dict.keyAndDefault
  apply bg5
  apply wpAny_notOrdered_dict hm.typeIs
  change wpAny _ _ (pure (d,Value.ref a,none)) _ _ s
  apply bg8
  have kp:(keyPart (Value.ref a)).isSome=false:=rfl
  simp only [kp,bj1,bn2]
  refine bg5 (wpAny_dictEntries e1 e3 (bg5 (bg8 ?_)))
  simp only [ne,bj1,bn2]
  apply bg5
  refine aH5 hu hk hm hz is fun j p h' hj c sb=>?_
  simp only [Option.isNone_some,bj1,bn2]
  exact bg5 (wpAny_letGo (bg8 ⟨p.2,rfl,q j p h' hj c sb⟩))
end
end Raw
namespace L2
open PySem PySem.Spec PyProof.Rows
theorem Paired.erase {α β:Type}{F:α->β->Prop}:∀ (j:Nat) {l:List α}{m:List β},Paired F l m->Paired F (l.eraseIdx j) (m.eraseIdx j)
 | _,_,_,.nil=>.nil
 | 0,_,_,.cons _ t=>t
 | j+1,_,_,.cons r t=>.cons r (Paired.erase j t)
theorem Q3 {α β:Type}{F:α->β->Prop}:∀ {l:List α}{m:List β}{i:Nat}{y:β},Paired F l m->m[i]? = some y->∃ x,l[i]? = some x/\F x y
 | _,_,_,_,.nil,e=>by simp at e
 | _,_,0,_,.cons r _,e=>by simp at e; subst e; exact⟨_,rfl,r⟩
 | _,_,i+1,y,.cons _ t,e=>by
  rw [bm4] at e
  obtain ⟨x,h1,h2⟩:=Q3 t e
  exact⟨x,by rw [bm4]; exact h1,h2⟩
theorem Q4 {α β:Type}{F:α->β->Prop}:∀ {l:List α}{m:List β}{i:Nat}{x:α},Paired F l m->l[i]? = some x->∃ y,m[i]? = some y/\F x y
 | _,_,_,_,.nil,e=>by simp at e
 | _,_,0,_,.cons r _,e=>by simp at e; subst e; exact⟨_,rfl,r⟩
 | _,_,i+1,x,.cons _ t,e=>by
  rw [bm4] at e
  obtain ⟨y,h1,h2⟩:=Q4 t e
  exact⟨y,by rw [bm4]; exact h1,h2⟩
section
variable {X : Cx} {pins : List (Addr × Obj)} {σ : St} {H : Hp} {s : Shared} {a b : Addr} {kvs : List (List a9 × V)} {k : List a9} {A : Around} {E : Value → Shared → Prop}
theorem aH7 {Q:Value->Shared->Prop} (hu:A.units+1 < cLine) (I:a6 X pins σ H s) (e:H a=some (.dT kvs)) (eb:H b=some (.tup (k.map kV))) (is:∃ j:Nat,(kvs.map (·.1))[j]? = some k)
  (h:∀ (j:Nat) v w' s',(kvs.map (·.1))[j]? = some k->a6 X pins σ (upd H a (.dT (kvs.eraseIdx j))) s'->aQ v w'->Q w' s'):wpAny (model X.prog X.w) A (call (.builtin "dict.pop") [.ref a,.ref b]) Q E s:=by
 obtain ⟨z,hd,xs,rel,dd⟩:=A6 I.hok e
 have hz:xs.length<=sizeLine:=by rw [<- Paired.length rel]; exact z
 refine call_meetsIn PySem.F.slot_dict_pop dd.typeIs PySem.F.entry_dict_pop (PySem.F.args_dict_pop_2 _ _) (Raw.aH6 (tupleKind (dL X.prog X.w)) a b) ⟨tupleKind_room_in1 hu,k,xs,nC I.hok eb,dd,hz,?_,fun j p h' hj c sb=>?_⟩
 ·obtain ⟨j,hj⟩:=is
  rw [bi4] at hj
  cases ej:kvs[j]? with
  | none=>rw [ej] at hj; cases hj
  | some kv=>
   rw [ej] at hj
   cases hj
   obtain ⟨y,hy,r⟩:=Q4 rel ej
   exact⟨j,y.2,by rw [hy]; exact congrArg some (Prod.ext r.1.symm rfl)⟩
 ·obtain ⟨kv,hkv,r⟩:=Q3 rel hj
  obtain ⟨o,es,ep,h1,h2,h3,h4⟩:=c
  have nd:((xs.eraseIdx j).map (·.1)).Nodup:=by
   obtain ⟨_,_,_,_,_,_,_,_,nd⟩:=dd
   exact nd.sublist ((List.eraseIdx_sublist xs j).map _)
  refine h j kv.2 p.2 _ (by rw [bi4,hkv]; exact congrArg some r.1) ?_ r.2.2
  refine p6 I (by rw [e]; exact bx5) sb ⟨o,h1⟩ ⟨bk9 (List.length_eraseIdx_le kvs j) z,hd,_,KT.keeps (Paired.erase j rel) fun c ys ec=>?_,o,es,ep,h1,h2,h3,h4,nd⟩
  rw [aM (xW ec e (fun z=>nomatch z))]
  exact ec
end
section
variable {X : Cx} {o e : Expr} {apos cpos : Pos} {td ty : TE}
def Q5 (td ty:TE):TE:=fun σ H Q=>td σ H fun x H1=>∃ a,x = .ref a/\u9 H1 a/\ty σ H1 fun y H2=>∃ kvs k b,H2 a=some (.dT kvs)/\y = .ref b/\H2 b=some (.tup (k.map kV))/\(∃ j:Nat,(kvs.map (·.1))[j]? = some k)/\∀ (j:Nat) v,(kvs.map (·.1))[j]? = some k->Q v (upd H2 a (.dT (kvs.eraseIdx j)))
theorem aH8 (hu:X.A.units+1 < cLine) (ho:PE X o td) (he:PE X e ty) (m:M1 X o "pop" apos e cpos):PE X (.Call (.Attribute o "pop" apos) [e] [] cpos) (Q5 td ty):=by
 intro pins s σ H Q I h
 refine wpAny_Call_method m.base m.few m.line PySem.F.plainAttrs_dict PySem.F.slot_dict_pop PySem.F.type_dict_pop (aJ (ho pins s σ H _ I h) fun u s1 h1=>?_)
 obtain ⟨x,H1,I1,rx,a,ex,d,q1⟩:=h1
 subst ex
 obtain rfl:u=Value.ref a:=rx
 obtain ⟨t1,t2,_⟩:=B4 I1 d
 refine⟨t1,t2,?_⟩
 rw [m.trees]
 refine Calls.callWith_builtin rfl (Calls.evalArgs_plain (Calls.spliced_cons (aJ (he pins s1 σ H1 _ I1 q1) fun iv s2 h2=>Calls.spliced_nil ?_)))
 obtain ⟨y,H2,I2,ry,kvs,k,b,ea,ey,eb,is,q2⟩:=h2
 subst ey
 obtain rfl:iv=Value.ref b:=ry
 exact aH7 hu I2 ea eb is fun j v w' s3 hj I3 rw'=>⟨v,_,I3,rw',q2 j v hj⟩
end
end L2
namespace Raw
open PySem PySem.W PySem.Calls PyProof.Rows
section
variable {prog : Program} {w : World} {A : Around} {E : Value → Shared → Prop} {s : Shared} {l : Addr} {items : Array Value} {ns : List Int}
abbrev gH (led:Bool):Obj:={ cls:=.type "set",dict:=none,data:=.set #[] 0 (.fresh 0 0 led) }
end
end Raw
namespace Core
open PySem L2 PP
def fT (ns:List Int):Bool:=((ns.zip (ns.drop 1)).map fun p=>decide (p.1 < p.2)).all id
theorem aH9 {α β:Type}{l:List α}{f:α->β}{i:Nat}{x:α} (h:l[i]? = some x):(l.take (i+1)).map f=(l.take i).map f ++ [f x]:=by
 rw [bm8,h]; simp
theorem jM:∀ {ns:List Int},fT ns=true->ns.Pairwise (· < ·)
 | [],_=>.nil
 | [x],_=>bl9 _ _
 | x :: y :: r,h=>by
  have e:fT (x :: y :: r)=(decide (x < y) && fT (y :: r)):=rfl
  rw [e,bk5] at h
  have ih:=jM h.2
  refine List.pairwise_cons.mpr ⟨fun z hz=>?_,ih⟩
  rcases bh5.mp hz with rfl | hz
  ·exact bq9 h.1
  ·exact Int.lt_trans (bq9 h.1) (List.rel_of_pairwise_cons ih hz)
theorem wC:∀ {ns:List Int},ns.Pairwise (· < ·)->fT ns=true
 | [],_=>rfl
 | [x],_=>rfl
 | x :: y :: r,h=>by
  have e:fT (x :: y :: r)=(decide (x < y) && fT (y :: r)):=rfl
  have h':=List.pairwise_cons.mp h
  rw [e,wC h'.2,Bool.and_true]
  exact bi2 (h'.1 y bi0)
def kin (ws:List Int) (ls:List (Int × Int)) (S:List Int) (h:Int):Bool:=!decide (h ∈ S) && decide (ws.getD h.toNat 0<=(((aY ls h).filter fun x=>decide (x ∈ S)).length:Int))
def nextOf (ws:List Int) (ls:List (Int × Int)) (S:List Int):List Int:=((List.range ws.length).map fun (i:Nat)=>(i:Int)).filter (kin ws ls S)
def aW (ws:List Int) (ls:List (Int × Int)) (S:List Int):Nat->List Int
 | 0=>S
 | k+1=>aW ws ls S k ++ nextOf ws ls (aW ws ls S k)
def eF (ws:List Int) (S:List Int):Nat:=(((List.range ws.length).map fun (i:Nat)=>(i:Int)).filter fun x=>!decide (x ∈ S)).length
theorem wD {α:Type} (p q:α->Bool) (h:∀ x,q x=true->p x=false):∀ L:List α,(L.filter fun x=>!p x && !q x).length+(L.filter q).length=(L.filter fun x=>!p x).length
 | []=>rfl
 | x :: r=>by
  have ih:=wD p q h r
  cases e1:p x with
  | true=>
   have e2:q x=false:=by
    cases e:q x with
    | false=>rfl
    | true=>have:=h x e; rw [e1] at this; cases this
   simp only [bw3,e1,e2,Bool.not_true,bx8,bj1,bn2]
   exact ih
  | false=>
   cases e2:q x with
   | true=>
    simp only [bw3,e1,e2,Bool.not_true,Bool.not_false,by0,bj1,bn2,if_true,bk2]
    omega
   | false=>
    simp only [bw3,e1,e2,Bool.not_false,Bool.and_true,bj1,bn2,if_true,bk2]
    omega
theorem wE {ws:List Int}{ls:List (Int × Int)}{S:List Int}{x:Int} (h:kin ws ls S x=true):decide (x ∈ S)=false:=by
 unfold kin at h
 cases e:decide (x ∈ S) with
 | false=>rfl
 | true=>rw [e] at h; cases h
theorem wF (ws:List Int) (ls:List (Int × Int)) (S:List Int):eF ws (S ++ nextOf ws ls S)+(nextOf ws ls S).length=eF ws S:=by
 have e:=wD (fun x=>decide (x ∈ S)) (kin ws ls S) (fun x h=>wE h) ((List.range ws.length).map fun (i:Nat)=>(i:Int))
 unfold eF
 rw [<- e]
 congr 2
 refine List.filter_congr fun x hx=>?_
 have:decide (x ∈ S ++ nextOf ws ls S)=(decide (x ∈ S) || kin ws ls S x):=by
  rw [br0]
  unfold nextOf
  simp only [bj6,bj9,bj8,Bool.or_eq_true]
  exact⟨fun z=>z.elim .inl fun z=>.inr z.2,fun z=>z.elim .inl fun z=>.inr ⟨hx,z⟩⟩
 rw [this]
 cases decide (x ∈ S) <;> cases kin ws ls S x <;> rfl
theorem aI0 (ws:List Int) (S:List Int):eF ws S<=ws.length:=by
 unfold eF
 refine bk9 (bs3 _ _) ?_
 rw [bh2,bo3]; exact bh1 _
theorem aI1 (ws:List Int) (ls:List (Int × Int)) (S:List Int):(nextOf ws ls S).length<=ws.length:=by
 unfold nextOf
 refine bk9 (bs3 _ _) ?_
 rw [bh2,bo3]; exact bh1 _
def after (ws:List Int) (ls:List (Int × Int)) (S:List Int) (m:Nat):List (List Int):=(List.range m).map fun k=>nextOf ws ls (aW ws ls S k)
theorem Q6 (ws:List Int) (ls:List (Int × Int)) (S:List Int) (m:Nat):after ws ls S (m+1)=after ws ls S m ++ [nextOf ws ls (aW ws ls S m)]:=by
 unfold after
 rw [List.range_succ,bj4]; rfl
theorem Q7 (ws:List Int) (ls:List (Int × Int)) (ns:List Int):∀ k,(aW ws ls ns k).length+eF ws (aW ws ls ns k)=ns.length+eF ws ns
 | 0=>rfl
 | k+1=>by
  have ih:=Q7 ws ls ns k
  have cs:=wF ws ls (aW ws ls ns k)
  show (aW ws ls ns k ++ nextOf ws ls (aW ws ls ns k)).length+eF ws (aW ws ls ns k ++ nextOf ws ls (aW ws ls ns k))=_
  rw [bi6]; omega
theorem Q8 {ws ns:List Int} (hu:ns.Pairwise (· < ·)) (hin:∀ x ∈ ns,0<=x/\x < (ws.length:Int)):ns.length+eF ws ns<=ws.length:=by
 have nd:ns.Nodup:=hu.imp fun h=>Int.ne_of_lt h
 have sub:ns ⊆ ((List.range ws.length).map fun (i:Nat)=>(i:Int)).filter fun x=>decide (x ∈ ns):=fun x hx=>by
  refine bj8.mpr ⟨bl4.mpr ⟨x.toNat,bt3.mpr ?_,?_⟩,bi2 hx⟩
  ·have:=hin x hx; omega
  ·have:=hin x hx; omega
 have h1:=nd.length_le_of_subset sub
 have h2:=wD (fun _=>false) (fun x=>decide (x ∈ ns)) (fun _ _=>rfl) ((List.range ws.length).map fun (i:Nat)=>(i:Int))
 have h3:(((List.range ws.length).map fun (i:Nat)=>(i:Int)).filter fun x=>!false && !decide (x ∈ ns)).length=eF ws ns:=rfl
 have h4:(((List.range ws.length).map fun (i:Nat)=>(i:Int)).filter fun x=>!false).length<=ws.length:=by
  refine bk9 (bs3 _ _) ?_
  rw [bh2,bo3]; exact bh1 _
 rw [h3] at h2
 omega
theorem wG (ws:List Int) (ls:List (Int × Int)) (ns:List Int):∀ m,(ns :: after ws ls ns m).flatten=aW ws ls ns m
 | 0=>by simp [after,aW]
 | m+1=>by
  rw [Q6,<- List.cons_append,List.flatten_append,wG ws ls ns m]
  simp [aW]
def cN (ws:List Int) (ls:List (Int × Int)) (ns:List Int) (m:Nat):Prop:=(∀ k < m,nextOf ws ls (aW ws ls ns k) ≠ [])/\nextOf ws ls (aW ws ls ns m) = []
theorem Q9 {ws:List Int}{ls:List (Int × Int)}{ns:List Int}:∀ (m:Nat),(∀ k < m,nextOf ws ls (aW ws ls ns k) ≠ [])->m+eF ws (aW ws ls ns m)<=ws.length
 | 0,_=>by have:=aI0 ws ns; show 0+eF ws ns<=_; omega
 | m+1,h=>by
  have ih:=Q9 m fun k hk=>h k (by omega)
  have cs:=wF ws ls (aW ws ls ns m)
  have:1<=(nextOf ws ls (aW ws ls ns m)).length:=by
   cases e:nextOf ws ls (aW ws ls ns m) with
   | nil=>exact absurd e (h m (by omega))
   | cons _ _=>exact Nat.succ_le_succ (bl6 _)
  show m+1+eF ws (aW ws ls ns m ++ nextOf ws ls (aW ws ls ns m))<=_
  omega
theorem iP {ns:List Int}{i:Nat}{x:PV} (h:(intz ns)[i]? = some x):∃ n,x = .int n/\ns[i]? = some n:=by
 rw [bi4] at h
 cases e:ns[i]? with
 | none=>rw [e] at h; cases h
 | some n=>rw [e] at h; exact⟨n,(bj7 h).symm,rfl⟩
theorem jN {lo:Int}{n i:Nat}{x:PV} (h:(eU lo n)[i]? = some x):x = .int (lo+i)/\i < n:=by
 have hi:i < n:=by
  have:=(bh7.mp h).1
  rwa [e8] at this
 rw [J0 hi] at h
 exact⟨(bj7 h).symm,hi⟩
def rng (n:Nat):List Int:=(List.range n).map fun (i:Nat)=>(i:Int)
theorem fA (n:Nat):(rng n).length=n:=by unfold rng; rw [bh2,bo3]
theorem R3 {n i:Nat} (h:i < n):(rng n)[i]? = some (i:Int):=by unfold rng; rw [bi4,bt7 h]; rfl
theorem fB {n:Nat}{x:Int}:x ∈ rng n ↔ 0<=x/\x < (n:Int):=by
 unfold rng
 rw [bl4]
 constructor
 ·rintro ⟨i,hi,rfl⟩
  have:=bt3.mp hi
  omega
 ·intro h
  exact⟨x.toNat,bt3.mpr (by omega),by omega⟩
theorem o8 {α:Type}{l:List α}{p:α->Bool}{i:Nat}{x:α} (h:l[i]? = some x):(l.take (i+1)).filter p=(l.take i).filter p ++ (if p x=true then [x] else []):=by
 rw [bm8,h,List.filter_append]
 congr 1
 cases e:p x <;> simp [e]
theorem fU (a b:List Int):intz (a ++ b)=intz a ++ intz b:=bj4
theorem bW (a:List Int):(intz a).length=a.length:=bh2 _
def bC (ws:List Int) (ls:List (Int × Int)):PV:=.tup [.tup (intz ws),.tup (ls.map fun l=>.tup [.int l.1,.int l.2])]
structure Wb (ws:List Int) (ls:List (Int × Int)):Prop where
 few:ws.length<=40
 most:ls.length<=1700
 links:∀ l ∈ ls,(0<=l.1/\l.1 < ws.length)/\0<=l.2/\l.2 < ws.length
def cT (x:PV) (ns:List Int):Prop:=x = .tup (intz ns) ∨ x = .lst (intz ns)
theorem cT.seq {x:PV}{ns:List Int} (h:cT x ns):iH x=some (intz ns):=by rcases h with rfl | rfl <;> rfl
theorem cT.seqT {x:PV}{ns:List Int} (h:cT x ns):seqT x=some (intz ns):=by rcases h with rfl | rfl <;> rfl
theorem o9:∀ (ls:List (Int × Int)),flats (ls.map fun l=>PV.tup [.int l.1,.int l.2])=true
 | []=>rfl
 | l :: r=>by
  show (flat (.tup [.int l.1,.int l.2]) && flats (r.map fun l=>PV.tup [.int l.1,.int l.2]))=true
  rw [o9 r]; rfl
theorem wH (ws:List Int) (ls:List (Int × Int)):flat (bC ws ls)=true:=by
 show flats [.tup (intz ws),.tup (ls.map fun l=>PV.tup [.int l.1,.int l.2])]=true
 show (flat (.tup (intz ws)) && (flat (.tup (ls.map fun l=>PV.tup [.int l.1,.int l.2])) && true))=true
 show (flats (intz ws) && (flats (ls.map fun l=>PV.tup [.int l.1,.int l.2]) && true))=true
 rw [cR,o9]; rfl
theorem oA (ns:List Int):flat (.tup (intz ns))=true:=cR ns
def gI:bF:=fun xs Q=>∃ ws ls,xs = [bC ws ls]/\Q (.int ws.length)
def R4:aK:=(b7 (aC fJ (a7 (cJ (a5 0) (qC (.int 0))) aA)))
abbrev cI (t:aK) (N:List Str) (p:bF):Prop:=∀ xs Q,p xs Q->t { nx:=fun _=>Q .non,rt:=Q } (eW N xs)
theorem aI2:cI R4 ["web"] gI:=by
 rintro xs Q ⟨ws,ls,rfl,q⟩
 refine⟨_,rfl,_,_,_,rfl,rfl,rfl,_,_,rfl,rfl,trivial,?_⟩
 rw [bW]; exact q
def R5:bF:=fun xs Q=>∃ x ns,xs = [x]/\cT x ns/\ns.length<=1000/\Q (.bl (fT ns))
def inB (n:Nat) (x:Int):Bool:=decide (0<=x) && decide (x < (n:Int))
def oB:bF:=fun xs Q=>∃ ws ls n,xs = [bC ws ls,.int n]/\Q (.bl (inB ws.length n))
def R6:aK:=(b7 (kA (vL (a5 1) (qC (.int 0))) (kF (a5 1) (aC gI (a7 (a5 0) aA)))))
theorem aI3:cI R6 ["web","number"] oB:=by
 rintro xs Q ⟨ws,ls,n,rfl,q⟩
 refine⟨_,rfl,_,_,rfl,rfl,_,rfl,?_⟩
 unfold inB at q
 by_cases h:(0:Int)<=n
 ·rw [bi2 h] at q ⊢
  refine bB ⟨_,rfl,_,rfl,ws,ls,rfl,_,_,rfl,rfl,trivial,?_⟩
  simpa using q
 ·rw [bh3 h] at q ⊢
  exact aS ⟨trivial,by simpa using q⟩
def b9 (n:Nat) (ns:List Int):Bool:=fT ns && (ns.map (inB n)).all id
def wI:bF:=fun xs Q=>∃ ws ls x ns,xs = [bC ws ls,x]/\cT x ns/\ns.length<=1000/\Q (.bl (b9 ws.length ns))
def aI4:aK:=(b7 (kA (aC R5 (a7 (a5 1) aA)) (aC nK (a7 (cP (dJ (a5 1)) [none,some 0] (bY 0) e9 (aC oB (a7 (a5 1) (a7 (a5 0) aA)))) aA))))
theorem m7 {x:PV}{ns:List Int} (h:cT x ns):(Slot.sh (flat x) x).tag = .rd->flat x=true:=by
 cases flat x <;> intro z <;> cases z
theorem aI5:cI aI4 ["web","numbers"] wI:=by
 rintro xs Q ⟨ws,ls,x,ns,rfl,hx,hl,q⟩
 refine⟨_,rfl,x,ns,rfl,hx,hl,_,rfl,?_⟩
 unfold b9 at q
 cases h:fT ns with
 | false=>rw [h] at q; exact aS ⟨trivial,q⟩
 | true=>
  rw [h] at q
  refine bB ⟨_,rfl,_,hx.seq,m7 hx,by rw [bW]; omega,fun i acc=>acc=(((ns.take i).map (inB ws.length)).map PV.bl),rfl,?_,?_⟩
  ·rintro i y acc hy rfl
   obtain ⟨n,rfl,hn⟩:=iP hy
   have tk:((ns.take (i+1)).map (inB ws.length)).map PV.bl=((ns.take i).map (inB ws.length)).map PV.bl ++ [PV.bl (inB ws.length n)]:=by rw [aH9 hn,bj4]; rfl
   exact⟨_,rfl,_,rfl,ws,ls,n,rfl,trivial,tk.symm⟩
  ·rintro acc rfl
   rw [bW,bo2]
   exact⟨_,rfl,trivial,by simpa using q⟩
theorem cT.noscr {x:PV}{ns:List Int} (h:cT x ns):∀ ms,([x]:List PV) ≠ [.scr ms]:=by
 rcases h with rfl | rfl <;> intro ms z <;> cases z
structure DS (ps:List (a9 × PV)) (S:List Int):Prop where
 has:∀ i:Int,(bU ps (Sum.inl i:a9)).isSome=decide (i ∈ S)
 len:ps.length<=S.length
 fl:flats (ps.map (·.2))=true
theorem DS.nil:DS [] []:=⟨fun i=>rfl,bh1 _,rfl⟩
section
variable {κ : Type} [DecidableEq κ]
theorem aI6 {k:κ}:bU ([]:List (κ × PV)) k=none:=rfl
theorem gV {p:κ × PV}{r:List (κ × PV)}{k:κ} (e:p.1=k):bU (p :: r) k=some p.2:=by simp [bU,bq2,e]
theorem gW {p:κ × PV}{r:List (κ × PV)}{k:κ} (e : ¬ p.1=k):bU (p :: r) k=bU r k:=by simp [bU,bq2,e]
theorem rD (k:κ):∀ kvs:List (κ × PV),(kvs.any fun kv=>decide (kv.1=k))=(bU kvs k).isSome
 | []=>rfl
 | p :: r=>by
  rw [bv9]
  by_cases e:p.1=k
  ·simp only [gV e,bi2 e,Bool.true_or,Option.isSome_some]
  ·rw [gW e,bh3 e,Bool.false_or]; exact rD k r
theorem R7 (k j:κ) (y:PV):∀ kvs:List (κ × PV),bU (kvs.map fun kv=>if kv.1=k then (kv.1,y) else kv) j=(bU kvs j).map fun x=>if j=k then y else x
 | []=>rfl
 | p :: r=>by
  have ih:=R7 k j y r
  rw [bn4]
  by_cases h:p.1=k
  ·rw [if_pos h]
   by_cases e:p.1=j
   ·rw [gV (p:=(p.1,y)) e,gV e,Option.map_some,if_pos (e.symm.trans h)]
   ·rw [gW (p:=(p.1,y)) e,gW e,ih]
  ·rw [if_neg h]
   by_cases e:p.1=j
   ·rw [gV (p:=p) e,gV e,Option.map_some,if_neg (fun z=>h (e.trans z))]
   ·rw [gW (p:=p) e,gW e,ih]
theorem R8 (k j:κ) (y:PV):∀ kvs:List (κ × PV),bU kvs k=none->bU (kvs ++ [(k,y)]) j=if j=k then some y else bU kvs j
 | [],_=>by
  by_cases e:k=j
  ·rw [if_pos e.symm]; exact gV (p:=(k,y)) e
  ·rw [if_neg (fun z=>e z.symm)]; exact gW (p:=(k,y)) e
 | p :: r,hn=>by
  rw [List.cons_append]
  have hk : ¬ p.1=k:=fun z=>by rw [gV z] at hn; cases hn
  rw [gW hk] at hn
  have ih:=R8 k j y r hn
  by_cases e:p.1=j
  ·rw [gV e,gV e,if_neg (fun z=>hk (e.trans z))]
  ·rw [gW e,gW e,ih]
theorem R9 (kvs:List (κ × PV)) (k j:κ) (y:PV):bU (cG kvs k y) j=if j=k then some y else bU kvs j:=by
 unfold cG
 by_cases a:(kvs.any fun kv=>decide (kv.1=k))=true
 ·rw [if_pos a,R7]
  rw [rD] at a
  by_cases e:j=k
  ·obtain ⟨x,hx⟩:=Option.isSome_iff_exists.mp a
   rw [if_pos e,e,hx,Option.map_some,if_pos rfl]
  ·rw [if_neg e]
   cases bU kvs j with
   | none=>rfl
   | some x=>rw [Option.map_some,if_neg e]
 ·rw [if_neg a]
  refine R8 k j y kvs ?_
  rw [rD] at a
  cases q:bU kvs k with
  | none=>rfl
  | some x=>rw [q] at a; exact (a rfl).elim
theorem wJ (kvs:List (κ × PV)) (k:κ) (v:PV):(cG kvs k v).length<=kvs.length+1:=by
 unfold cG
 split
 ·rw [bh2]; omega
 ·rw [bi6,bk2,List.length_nil]; omega
end
theorem S0:∀ (xs:List PV),flats xs=true ↔ ∀ x ∈ xs,flat x=true
 | []=>by simp [flats]
 | x :: r=>by
  unfold flats
  rw [bk5,S0 r]; simp
theorem aI7 {κ:Type} [DecidableEq κ] {ps:List (κ × PV)}{k:κ}{v:PV}{p:κ × PV} (h:p ∈ cG ps k v):p.2=v ∨ p ∈ ps:=by
 unfold cG at h
 split at h
 ·obtain ⟨q,hq,e⟩:=bl4.mp h
  split at e
  ·subst e; exact .inl rfl
  ·subst e; exact .inr hq
 ·rcases bj9.mp h with h | h
  ·exact .inr h
  ·rw [bh6.mp h]; exact .inl rfl
theorem wK {κ:Type} [DecidableEq κ] {ps:List (κ × PV)}{k:κ}{v:PV} (h:flats (ps.map (·.2))=true) (hv:flat v=true):flats ((cG ps k v).map (·.2))=true:=by
 rw [S0] at h ⊢
 intro x hx
 obtain ⟨p,hp,rfl⟩:=bl4.mp hx
 rcases aI7 hp with e | e
 ·rw [e]; exact hv
 ·exact h _ (bl4.mpr ⟨p,e,rfl⟩)
theorem DS.put {ps:List (a9 × PV)}{S:List Int} (h:DS ps S) (x:Int) (v:PV) (hv:flat v=true):DS (cG ps (Sum.inl x:a9) v) (S ++ [x]):=by
 refine⟨fun i=>?_,?_,wK h.fl hv⟩
 ·rw [R9]
  by_cases e:i=x
  ·subst e; rw [if_pos rfl]; simp
  ·rw [if_neg (fun z=>e (Sum.inl.inj z)),h.has]
   simp [e]
 ·have:=wJ ps (Sum.inl x:a9) v
  have:=h.len
  rw [bi6,bp1]; omega
theorem DS.merge {S:List Int}:∀ {mp ps:List (a9 × PV)}{T:List Int},DS ps S->DS mp T->DS (gE ps mp) (S ++ T):=by
 have key:∀ (mp:List (a9 × PV)) {ps:List (a9 × PV)} (i:Int),(bU (gE ps mp) (Sum.inl i:a9)).isSome=((bU ps (Sum.inl i:a9)).isSome || (bU mp (Sum.inl i:a9)).isSome):=fun mp=>by
  induction mp with
  | nil=>intro ps i; show (bU ps (Sum.inl i:a9)).isSome=_; rw [aI6]; simp
  | cons p r ih=>
   intro ps i
   show (bU (gE (cG ps p.1 p.2) r) (Sum.inl i:a9)).isSome=_
   rw [ih,R9]
   by_cases e:(Sum.inl i:a9)=p.1
   ·rw [if_pos e,gV e.symm]; simp
   ·rw [if_neg e,gW (Ne.symm e)]
 have keyl:∀ (mp:List (a9 × PV)) {ps:List (a9 × PV)},(gE ps mp).length<=ps.length+mp.length:=fun mp=>by
  induction mp with
  | nil=>intro ps; exact bh1 _
  | cons p r ih=>
   intro ps
   have h1:=ih (ps:=cG ps p.1 p.2)
   have h2:=wJ ps p.1 p.2
   show (gE (cG ps p.1 p.2) r).length<=_
   rw [bk2]; omega
 have keyf:∀ (mp:List (a9 × PV)) {ps:List (a9 × PV)},flats (ps.map (·.2))=true->flats (mp.map (·.2))=true->flats ((gE ps mp).map (·.2))=true:=fun mp=>by
  induction mp with
  | nil=>intro ps h _; exact h
  | cons p r ih=>
   intro ps h g
   have g:(flat p.2 && flats (r.map (·.2)))=true:=g
   rw [bk5] at g
   exact ih (ps:=cG ps p.1 p.2) (wK h g.1) g.2
 intro mp ps T h g
 refine⟨fun i=>?_,?_,keyf mp h.fl g.fl⟩
 ·rw [key,h.has,g.has,br0]; simp
 ·have:=keyl mp (ps:=ps)
  have:=h.len
  have:=g.len
  rw [bi6]; omega
def iQ:bF:=fun xs Q=>∃ x ns,xs = [x]/\cT x ns/\ns.length<=1000/\∀ ps,DS ps ns->Q (.dK ps)
def S3:aK:=(aR (jC 1 (qC (.dK [])))
 (aR (eV (dJ (a5 0)) (bY 2)
  (qE 1 (a5 2) (qC (.bl true))))
 (jD 1)))
theorem aI8:cI S3 ["hearths","inside","hearth"] iQ:=by
 rintro xs Q ⟨x,ns,rfl,hx,hl,q⟩
 refine⟨rfl,rfl,_,rfl,_,hx.seq,m7 hx,fun i ρ=>∃ y ps,ρ = [some (.sh (flat x) x),some (.own (.dK ps)),y]/\DS ps (ns.take i),⟨none,[],rfl,DS.nil⟩,?_,?_⟩
 ·rintro i y ρ hy ⟨y0,ps,rfl,d⟩
  obtain ⟨n,rfl,hn⟩:=iP hy
  have hlen:=d.len
  rw [br2] at hlen
  refine⟨_,rfl,_,rfl,Sum.inl n,rfl,trivial,by omega,_,_,rfl,?_⟩
  rw [bm8,hn]
  exact d.put n _ rfl
 ·rintro ρ ⟨y,ps,rfl,d⟩
  rw [bW,bo2] at d
  exact⟨_,rfl,trivial,q ps d⟩
def jO:bF:=fun xs Q=>∃ x ns ps S,xs = [x,.dK ps]/\cT x ns/\DS ps S/\ns.length<=10000/\Q (.int ((ns.filter fun x=>decide (x ∈ S)).length:Nat))
def S4:aK:=(b7 (aC fJ (a7 (cP (dJ (a5 0)) [none,some 1] (bY 0) (aV (kC false (a5 0) (a5 1))) (a5 0)) aA)))
theorem aI9:cI S4 ["hearths","inside"] jO:=by
 rintro xs Q ⟨x,ns,ps,S,rfl,hx,d,hl,q⟩
 refine⟨_,rfl,_,hx.seq,m7 hx,by rw [bW]; omega,fun i acc=>acc=intz ((ns.take i).filter fun x=>decide (x ∈ S)),rfl,?_,?_⟩
 ·rintro i y acc hy rfl
  obtain ⟨n,rfl,hn⟩:=iP hy
  have tk:=o8 (p:=fun x=>decide (x ∈ S)) hn
  refine⟨_,rfl,_,rfl,_,.inl ⟨ps,Sum.inl n,rfl,rfl,rfl⟩,_,rfl,?_⟩
  show if (bU ps (Sum.inl n:a9)).isSome=true then _ else _
  rw [d.has n]
  by_cases h:n ∈ S
  ·rw [bi2 h] at tk ⊢
   refine bB ⟨_,rfl,trivial,?_⟩
   rw [if_pos rfl] at tk
   show _=intz (List.filter _ (List.take (i+1) ns))
   rw [tk,fU]; rfl
  ·rw [bh3 h] at tk ⊢
   refine aS ?_
   rw [if_neg (by decide),bk6] at tk
   show _=intz (List.filter _ (List.take (i+1) ns))
   rw [tk]
 ·rintro acc rfl
  rw [bW,bo2]
  refine⟨_,_,rfl,rfl,trivial,?_⟩
  rw [bW]; exact q
def gJ (n:Nat) (ls:List (Int × Int)):List PV:=(List.range n).map fun (k:Nat)=>PV.lst (intz (aY ls k))
def kQ:bF:=fun xs Q=>∃ ws ls,xs = [bC ws ls]/\Wb ws ls/\Q (.lst (gJ ws.length ls))
theorem S5 {n:Nat}{ls:List (Int × Int)}{h:Int} (h0:0<=h) (h1:h < (n:Int)):atI (gJ n ls) h=some (.lst (intz (aY ls h))):=by
 refine pN h0 ?_
 unfold gJ
 rw [bi4,bt7 (by omega)]
 show some (PV.lst (intz (aY ls ((h.toNat:Nat):Int))))=_
 rw [show ((h.toNat:Nat):Int)=h by omega]
def rE:bF:=fun xs Q=>∃ ws ls ps S h,xs = [bC ws ls,.lst (gJ ws.length ls),.dK ps,.int h]/\Wb ws ls/\DS ps S/\0<=h/\h < (ws.length:Int)/\Q (.bl (kin ws ls S h))
def S6:aK:=(b7 (kA (kC true (a5 3) (a5 2)) (vL (aC jO (a7 (cJ (a5 1) (a5 3)) (a7 (a5 2) aA))) (cJ (cJ (a5 0) (qC (.int 0))) (a5 3)))))
theorem wL {ws:List Int}{h:Int} (h0:0<=h) (h1:h < (ws.length:Int)):atI (intz ws) h=some (.int (ws.getD h.toNat 0)):=by
 refine pN h0 ?_
 have:h.toNat < ws.length:=by omega
 rw [bi4,bh4,bg9 this]; rfl
theorem aJ0:cI S6 ["web","around","burning","hearth"] rE:=by
 rintro xs Q ⟨ws,ls,ps,S,h,rfl,wb,d,h0,h1,q⟩
 refine⟨_,rfl,_,rfl,_,.inl ⟨ps,Sum.inl h,rfl,rfl,rfl⟩,_,rfl,?_⟩
 show if (!(bU ps (Sum.inl h:a9)).isSome)=true then _ else _
 rw [d.has h]
 unfold kin at q
 by_cases hm:h ∈ S
 ·rw [bi2 hm] at q ⊢
  exact aS ⟨trivial,by simpa using q⟩
 ·rw [bh3 hm] at q ⊢
  have nl:=pM ls h
  have:=wb.most
  refine bB ⟨_,rfl,_,rfl,_,_,_,rfl,rfl,S5 h0 h1,_,rfl,_,aY ls h,ps,S,rfl,.inr rfl,d,by omega,_,rfl,_,_,_,rfl,rfl,rfl,_,rfl,_,_,_,rfl,rfl,wL h0 h1,_,_,rfl,rfl,trivial,?_⟩
  simpa using q
def oC:bF:=fun xs Q=>∃ ws ls ps S,xs = [bC ws ls,.lst (gJ ws.length ls),.dK ps]/\Wb ws ls/\DS ps S/\Q (.tup (intz (nextOf ws ls S)))
def S7:aK:=(b7 (aC fK (a7 (cP (jF (aC gI (a7 (a5 0) aA))) [none,some 0,some 1,some 2] (bY 0) (aV (aC rE (a7 (a5 1) (a7 (a5 2) (a7 (a5 3) (a7 (a5 0) aA)))))) (a5 0)) aA)))
theorem aJ1:cI S7 ["web","around","burning"] oC:=by
 rintro xs Q ⟨ws,ls,ps,S,rfl,wb,d,q⟩
 have few:=wb.few
 refine⟨_,rfl,ws,ls,rfl,_,rfl,by omega,by omega,by rw [e8]; omega,fun i acc=>acc=intz (((rng ws.length).take i).filter (kin ws ls S)),rfl,?_,?_⟩
 ·rintro i y acc hy rfl
  obtain ⟨rfl,hi⟩:=jN hy
  have hi':i < ws.length:=by omega
  have tk:=o8 (p:=kin ws ls S) (R3 hi')
  have e0:(0:Int)+(i:Int)=(i:Int):=by omega
  refine⟨_,rfl,_,rfl,_,rfl,_,rfl,ws,ls,ps,S,_,rfl,wb,d,by omega,by omega,_,rfl,?_⟩
  show if kin ws ls S ((0:Int)+(i:Int))=true then _ else _
  rw [e0]
  cases h:kin ws ls S (i:Int) with
  | true=>
   refine bB ⟨_,rfl,trivial,?_⟩
   rw [h,if_pos rfl] at tk
   show _=intz (List.filter _ (List.take (i+1) _))
   rw [tk,fU]
   show _ ++ [PV.int _]=_
   rfl
  | false=>
   refine aS ?_
   rw [h,if_neg (by decide),bk6] at tk
   show _=intz (List.filter _ (List.take (i+1) _))
   rw [tk]
 ·rintro acc rfl
  rw [e8,bk3 (by rw [fA]; omega)]
  exact⟨⟨_,_,rfl,rfl,cR _,trivial,q⟩,fun ns z=>by cases z⟩
def tups (rs:List (List Int)):List PV:=rs.map fun r=>PV.tup (intz r)
theorem wM {rs:List (List Int)}{i:Nat}{x:PV} (h:(tups rs)[i]? = some x):∃ r,x = .tup (intz r)/\rs[i]? = some r:=by
 unfold tups at h
 rw [bi4] at h
 cases e:rs[i]? with
 | none=>rw [e] at h; cases h
 | some n=>rw [e] at h; exact⟨n,(bj7 h).symm,rfl⟩
theorem iR (rs:List (List Int)):(tups rs).length=rs.length:=bh2 _
theorem wN:∀ (rs:List (List Int)),flats (tups rs)=true
 | []=>rfl
 | r :: t=>by
  show (flat (.tup (intz r)) && flats (tups t))=true
  rw [oA,wN t]; rfl
theorem eG {n:Nat}{ns:List Int} (h:b9 n ns=true):fT ns=true/\∀ x ∈ ns,0<=x/\x < (n:Int):=by
 unfold b9 at h
 rw [bk5,bp7] at h
 refine⟨h.1,fun x hx=>?_⟩
 have:=h.2 _ (bl4.mpr ⟨x,hx,rfl⟩)
 unfold inB at this
 simpa using this
theorem m8 {n:Nat}{ns:List Int} (h:b9 n ns=true):ns.length<=n:=by
 obtain ⟨h1,h2⟩:=eG h
 have:=Q8 (ws:=List.replicate n (0:Int)) (jM h1) (by rw [bs2]; exact h2)
 rw [bs2] at this
 omega
theorem wO {ws:List Int}{ls:List (Int × Int)}{ns:List Int} (h:b9 ws.length ns=true) (k:Nat):(aW ws ls ns k).length<=ws.length:=by
 have h1:=Q7 ws ls ns k
 have h2:=Q8 (jM (eG h).1) (eG h).2
 omega
end Core
namespace PP
open PySem L2
def S8 (te:aE):aE:=fun ρ Q=>te ρ fun x _=>∃ n:Int,x = .int n/\0<=n/\n<=1000000/\Q (.lst (eU 0 n.toNat)) .fr
def wP:List PV->(PV->Prop)->Prop:=fun xs Q=>∃ ys:List (List Int),xs = [.lst (ys.map fun r=>PV.tup (intz r))]/\ys.length < 64/\(∀ y ∈ ys,y ≠ [])/\∀ zs:List (List Int),zs.Perm ys->zs.Pairwise (fun u v=>HT.b6 v u=false)->Q (.lst (zs.map fun r=>PV.tup (intz r)))
def wQ:List PV->(PV->Prop)->Prop:=fun xs Q=>∃ ps:List (List a9 × PV),xs = [.dT ps]/\Q (.lst (ps.map fun p=>PV.tup (p.1.map kP)))
end PP
namespace Core
open PySem L2 PP
theorem rF (g:Tg) (n:Int):Nw g (.int n):=by cases g <;> first | exact trivial | rfl
def fV (x:PV) (ns:List Int):Prop:=x = .scr ns ∨ x = .lst (intz ns)
theorem fV.seq {x:PV}{ns:List Int} (h:fV x ns):iH x=some (intz ns):=by rcases h with rfl | rfl <;> rfl
theorem fV.len {x:PV}{ns:List Int} (h:fV x ns):vA x=some ns.length:=by
 rcases h with rfl | rfl
 ·rfl
 ·show some (intz ns).length=_
  rw [bW]
def oD:bF:=fun xs Q=>∃ x ns k,xs = [x,.int k]/\fV x ns/\0<=k/\Q (.int (ns.getD k.toNat 0))
def S9:aK:=(aR (cM (aV (kF (a5 1) (aC fJ (a7 (a5 0) aA)))) (b7 (cJ (a5 0) (a5 1))) cO)
 (b7 (qC (.int 0))))
theorem aJ2:cI S9 ["script","k"] oD:=by
 rintro xs Q ⟨x,ns,k,rfl,hx,h0,q⟩
 refine⟨_,rfl,_,rfl,_,_,rfl,hx.len,_,_,rfl,rfl,_,rfl,?_⟩
 by_cases h:k < (ns.length:Int)
 ·rw [bi2 h]
  exact bB ⟨_,rfl,_,rfl,_,_,_,hx.seq,rfl,wL h0 h,rF _ _,q⟩
 ·rw [bh3 h]
  rw [bh4,List.getElem?_eq_none (by omega)] at q
  exact aS ⟨trivial,q⟩
def bG (ls:List (Int × Int)):List PV:=ls.map fun l=>PV.tup [.int l.1,.int l.2]
def dS (l m:Int × Int):Prop:=l.1 < m.1 ∨ (l.1=m.1/\l.2 < m.2)
abbrev si (n:Int):Option Slot:=some (.sh true (.int n))
def oE:bF:=fun xs Q=>∃ i,xs = [.int i]/\Q (.bl true)
def T0 (K:PySem.W.Frag):aK:=(b7 (kA (kD K "int" (a5 0)) (v4 (kD K "bool" (a5 0)))))
theorem cT.len {x:PV}{ns:List Int} (h:cT x ns):vA x=some ns.length:=by
 rcases h with rfl | rfl <;> (show some (intz ns).length=_; rw [bW])
theorem aJ3 {K:PySem.W.Frag} (k1:PySem.W.kitOne K (.type "int") (.type "int")=some true) (k2:PySem.W.kitOne K (.type "int") (.type "bool")=some false):cI (T0 K) ["found"] oE:=by
 rintro xs Q ⟨i,rfl,q⟩
 exact⟨_,rfl,_,_,rfl,k1,_,rfl,bB ⟨_,rfl,_,_,rfl,k2,_,rfl,trivial,q⟩⟩
theorem rG {ls:List (Int × Int)}{i:Nat}{x:PV} (h:(bG ls)[i]? = some x):∃ l,x = .tup [.int l.1,.int l.2]/\ls[i]? = some l:=by
 unfold bG at h
 rw [bi4] at h
 cases e:ls[i]? with
 | none=>rw [e] at h; cases h
 | some n=>rw [e] at h; exact⟨n,(bj7 h).symm,rfl⟩
end Core
namespace PP
open PySem L2 PyProof.Rows
theorem Reps.rep {K:PySem.W.Frag}{M:Addr->Prop}{H:Hp}{us:List V}{xs:List PV} (r:Reps K M H us xs):∀ k:Nat,Reps K M H (List.replicate k us).flatten (List.replicate k xs).flatten
 | 0=>.nil
 | k+1=>by rw [bq6,bq6,br9,br9]; exact r.append (Reps.rep r k)
section
variable {X : Cx} {a b e : Expr} {ta tb te : aE} {tr : cL} {pos p2 p3 pos2 : Pos}
theorem aJ4 {tA:TA} (hg:Gl X "range") (hm:X.mg "range" = none) (ha:PA X [a] tA) (hs:starEach [a] X.env = [(false,eval a X.env)]:=by rfl) :
  PE X (.Call (.Name "range" p2) [a] [] pos) (fun σ H Q=>tA σ H fun vs H1=>∃ j:Int,vs = [.int j]/\∀ r,H1 r=none->Q (.ref r) (upd H1 r (.rng 0 j))):=by
 intro pins s σ H Q I h
 refine Call_ (iZ I hg hm boot_range (bq8 (aJ (ha pos pins s σ H _ I h) fun us s1 ⟨vs,H1,I1,r1,q1⟩=>?_) hs rfl))
 obtain ⟨j,e,q⟩:=q1
 subst e
 cases r1 with
 | cons r rr=>
  cases rr
  obtain ⟨t,rfl⟩:=r
  refine call_range_1 ?_
  exact⟨.ref s1.heap.objs.size,_,I1.laid (o:=.rng 0 j) (fun b ob q=>bg7 _ q) (bh1 _) ⟨_,_,_,bh8 _ rfl⟩,rfl,q _ (I1.hok.fresh (bh1 _))⟩
theorem T1:∀ {xs:List V}{us:List Value},xs.length=us.length->(∀ (i:Nat) x u,xs[i]? = some x->us[i]? = some u->aQ x u)->aH xs us
 | [],[],_,_=>.nil
 | x :: xs,u :: us,hl,h=>.cons (h 0 x u rfl rfl) (T1 (by simpa using hl) fun i y w h1 h2=>h (i+1) y w (by rw [bm4]; exact h1) (by rw [bm4]; exact h2))
theorem aJ5 {n:Nat}{acc:Array Value} (h:ItemsOf (fun i v=>∃ t,v = .int (0+(i:Int) * 1) t) acc n):aH (iD 0 n) acc.toList:=by
 obtain ⟨h1,h2⟩:=h
 refine T1 (by rw [uM]; simp [h1]) fun i x u hx hu=>?_
 have hi:i < n:=by
  have:=(bh7.mp hx).1
  rwa [uM] at this
 unfold iD at hx
 rw [bi4,bt7 hi] at hx
 cases hx
 obtain ⟨t,rfl⟩:=h2 i u (by rw [<- bm7]; exact hu)
 exact⟨t,by congr 1; omega⟩
theorem aJ6 (hc:X.calm=true):cD X (.type "list") (fun xs H Q=>∃ r j,xs = [.ref r]/\H r=some (.rng 0 j)/\0<=j/\j<=1000000/\∀ l,H l=none->Q (.ref l) (upd H l (.lst (iD 0 j.toNat)))):=by
 intro pins s σ H xs us Q I r h
 obtain ⟨p,j,rfl,hq,h0,h1,q⟩:=h
 obtain ⟨u,rfl,rx⟩:=dW r
 cases rx
 obtain ⟨t,u,v,ho⟩:=(show bA X.prog X.w H s.heap p (.rng 0 j) from I.hok p _ hq)
 refine PySem.call_list_range (a:=0) (b:=j) (c:=1) (n:=j.toNat) (I.ok.hd hc) ho (small_one (by decide) (by decide) (by omega) (by omega)) (by rw [rangeSize_one]; split <;> omega) (by omega) fun h' tk acc' c' kp e it=>?_
 have vv:=aJ5 it
 have eq:acc'.toList.toArray=acc':=by simp
 exact⟨.ref s.heap.objs.size,_,I.laid (t':=tk) (o:=.lst (iD 0 j.toNat)) kp (bh1 _) ⟨by rw [uM]; exact lim (by omega),acc'.toList,c',vv,by rw [eq]; exact e⟩,rfl,q _ (I.hok.fresh (bh1 _))⟩
theorem aJ7 {K:PySem.W.Frag}{M:Addr->Prop}{H:Hp} (lo:Int) (n:Nat):Reps K M H (iD lo n) (eU lo n):=by
 unfold iD eU
 generalize List.range n=l
 induction l with
 | nil=>exact .nil
 | cons a r ih=>exact .cons (.int _) ih
theorem aJ8 (B:Bt X.mg) (ha:QE X a ta) (hc:X.calm=true:=by rfl) (hg:Gl X "list":=by rfl) (hgr:Gl X "range":=by rfl) (hs:starEach [a] X.env = [(false,eval a X.env)]:=by rfl)
  (he:starEach [.Call (.Name "range" p3) [a] [] pos2] X.env=(false,eval (.Call (.Name "range" p3) [a] [] pos2) X.env) :: starEach [] X.env:=by rfl) (hpl:(backTo pos (starEach [] X.env)).any (·.1)=false:=by rfl) :
  QE X (.Call (.Name "list" p2) [.Call (.Name "range" p3) [a] [] pos2] [] pos) (S8 ta):=
 bZ (tS (aJ6 hc) hg B.list PyProof.Rows.boot_list (dX (aJ4 hgr B.range (dX ha fE hs) hs) fE he) (he:=he) (hpl:=hpl)) fun σ H Q' h=>by
  obtain ⟨W,ρ,Q,px,q,k⟩:=h
  refine⟨W,ρ,_,px,q,?_⟩
  rintro v H1 x g s r ⟨n,rfl,h0,h1,q⟩
  cases r
  refine⟨n,rfl,fun r hr=>⟨r,n,rfl,b8,h0,h1,fun l hl=>?_⟩⟩
  have S:aD H (upd (upd H1 r (.rng 0 n)) l (.lst (iD 0 n.toNat))):=(s.trans (aZ hr _)).trans (aZ hl _)
  exact k _ _ _ .fr S (.lst (((s.trans (aZ hr _))).free hl) b8 (aJ7 0 n.toNat)) q
theorem aJ9:dO X wQ (fun xs H Q=>∃ a kvs,xs = [.ref a]/\H a=some (.dT kvs)/\∀ l ys,H l=none->Paired (pL H) ys (kvs.map (·.1))->Q (.ref l) (upd H l (.lst ys))):=by
 rintro H vs xs Q Q' r ⟨ps,rfl,q⟩ k
 obtain ⟨v,rfl,r1⟩:=r.one
 cases r1 with
 | @dT a kvs _ m h e r2=>
  refine⟨a,kvs,rfl,h,fun l ys hl pr=>k _ _ _ (aZ hl _) (.lst hl b8 ?_) q⟩
  have kv:∀ (k:List a9),Reps X.K (fun a=>H a=none) H (k.map kV) (k.map kP):=fun k=>by
   induction k with
   | nil=>exact .nil
   | cons a r ih=>exact .cons (by cases a <;> constructor) ih
  have go:∀ {ys:List V}{ks:List (List a9)},Paired (pL H) ys ks->Reps X.K (fun a=>H a=none) H ys (ks.map fun k=>PV.tup (k.map kP)):=fun {ys ks} pr=>by
   induction pr with
   | nil=>exact .nil
   | cons h t ih=>
    obtain ⟨q,rfl,hq⟩:=h
    exact .cons (.tup hq (kv _)) ih
  have e2:(ps.map fun p=>PV.tup (p.1.map kP))=(kvs.map (·.1)).map fun k=>PV.tup (k.map kP):=by rw [e,bv6]; rfl
  rw [e2]
  exact (go pr).same (aZ hl _) fun _ z=>z
theorem aK0 (B:Bt X.mg) (hc:X.calm=true) (ha:QA X [e] tr) (hg:Gl X "list":=by rfl) (he:starEach [e] X.env=(false,eval e X.env) :: starEach [] X.env:=by rfl) (hpl:(backTo pos (starEach [] X.env)).any (·.1)=false:=by rfl):QE X (.Call (.Name "list" p2) [e] [] pos) (aC wQ tr):=
 vN (au4 hc) aJ9 hg B.list PyProof.Rows.boot_list ha (he:=he) (hpl:=hpl)
def wR:V->Int
 | .int i=>i
 | _=>0
def iS (H:Hp):V->List Int
 | .ref a=>match H a with
  | some (.tup us)=>us.map wR
  | _=>[]
 | _=>[]
theorem aK1 {H:Hp}{a:Addr}{ns:List Int} (h:H a=some (.tup (ns.map V.int))):iS H (.ref a)=ns:=by
 show (match H a with | some (.tup us)=>us.map wR | _=>[])=ns
 rw [h]
 show (ns.map V.int).map wR=ns
 rw [bv6]
 exact List.map_id _
theorem wS {K:PySem.W.Frag}{M:Addr->Prop}{H:Hp}:∀ {us:List V}{ys:List (List Int)},Reps K M H us (ys.map fun r=>PV.tup (intz r))->us.map (iS H)=ys/\∀ u ∈ us,∃ b,u = .ref b/\H b=some (.tup ((iS H u).map V.int))
 | _,[],.nil=>⟨rfl,fun u h=>nomatch h⟩
 | _,y :: ys,.cons r t=>by
  obtain ⟨a,us,rfl,h,r1⟩:=r.sqT
  obtain rfl:=r1.ofInts
  obtain ⟨h1,h2⟩:=wS t
  have hk:=aK1 h
  refine⟨by rw [bn4,h1,hk],fun u hu=>?_⟩
  rcases bh5.mp hu with rfl | hu
  ·exact⟨a,rfl,by rw [hk]; exact h⟩
  ·exact h2 u hu
theorem wT {K:PySem.W.Frag}{M:Addr->Prop}{H:Hp}:∀ {us:List V},(∀ u ∈ us,∃ b,u = .ref b/\H b=some (.tup ((iS H u).map V.int)))->Reps K M H us ((us.map (iS H)).map fun r=>PV.tup (intz r))
 | [],_=>.nil
 | u :: us,h=>by
  obtain ⟨b,rfl,hb⟩:=h u bi0
  exact .cons (.tup hb (Reps.intz _)) (wT fun v hv=>h v (bi3 _ hv))
theorem aK2:dO X wP (E4 X.K):=by
 rintro H vs xs Q Q' r ⟨ys,rfl,hl,hne,q⟩ k
 obtain ⟨v,rfl,r1⟩:=r.one
 obtain ⟨a,us,rfl,_,h,r2⟩:=r1.sqL
 obtain ⟨h1,h2⟩:=wS r2
 have lr:=r2.length
 rw [bh2] at lr
 refine⟨a,us,iS H,rfl,aI.of h,by omega,fun y hy=>?_,fun l zs hl' pm so=>?_⟩
 ·obtain ⟨b,rfl,hb⟩:=h2 y hy
  refine⟨b,rfl,aF.of hb,hne _ ?_⟩
  rw [<- h1]; exact bl4.mpr ⟨_,hy,rfl⟩
 ·have hz:∀ u ∈ zs,∃ b,u = .ref b/\H b=some (.tup ((iS H u).map V.int)):=fun u hu=>h2 u (pm.mem_iff.mp hu)
  refine k _ _ _ (aZ hl' _) (.lst hl' b8 ((wT hz).same (aZ hl' _) fun _ z=>z)) (q _ ?_ ?_)
  ·rw [<- h1]; exact pm.map _
  ·rw [bl7]; exact so
theorem aK3 (B:Bt X.mg) (ha:QA X [e] tr) (hg:Gl X "sorted":=by rfl) (he:starEach [e] X.env=(false,eval e X.env) :: starEach [] X.env:=by rfl) (hpl:(backTo pos (starEach [] X.env)).any (·.1)=false:=by rfl):QE X (.Call (.Name "sorted" p2) [e] [] pos) (aC wP tr):=
 gU au0 aK2 hg B.sorted PyProof.Rows.boot_sorted ha (he:=he) (hpl:=hpl)
end
def aK4 (K:PySem.W.Frag):Sp:=fun vs H Q _=>∃ (a:Addr) (ns:List Int),vs = [.ref a]/\(aF K H a (ns.map V.int) ∨ aI K H a (ns.map V.int))/\ns.length<=1000/\∀ H',aD H H'->Q (.bl (Core.fT ns)) H'
def T2:Sp:=fun vs H Q _=>∃ v ws ls,vs = [v]/\E8 H v ws ls/\ws.length<=1000/\ls.length<=2000/\(∀ l ∈ ls,(0<=l.1/\l.1 < ws.length)/\0<=l.2/\l.2 < ws.length)/\
 ∀ (r:Addr) (bs:List Addr) (H':Hp),bs.length=ws.length->iE H H' r bs (fun k=>aY ls k)->Q (.ref r) H'
section
variable {P : Program} {w : World} {K : PySem.W.Frag} {mg : Str → Option Value} {base : Heap} {f : Addr} {fd : FuncData} {k : Nat}
theorem T3 (F:cU P w K mg base dH k f fd ["things"] (aK4 K)) (b:i7 K fd ["things"] []) (kp:PySem.W.keepIn K (.ref f)=true) (m:mg "rises" = some (.ref f)):Df P w K mg base k "rises" ["things"] Core.R5:=by
 refine⟨f,fd,F.imp fun vs H Q E h=>?_,b,kp,m⟩
 obtain ⟨xs,Qp,r,⟨x,ns,rfl,hx,hl,q⟩,k⟩:=h
 obtain ⟨v,rfl,r1⟩:=r.one
 rcases hx with rfl | rfl
 ·obtain ⟨a,us,rfl,h,r2⟩:=r1.sqT
  obtain rfl:=r2.ofInts
  exact⟨a,ns,rfl,.inl (aF.of h),hl,fun H' s=>k _ H' _ s (.bl _) q⟩
 ·obtain ⟨a,us,rfl,_,h,r2⟩:=r1.sqL
  obtain rfl:=r2.ofInts
  exact⟨a,ns,rfl,.inr (aI.of h),hl,fun H' s=>k _ H' _ s (.bl _) q⟩
theorem pO {M:Addr->Prop}{H:Hp}:∀ {us:List V}{ls:List (Int × Int)},Reps K M H us (ls.map fun l=>PV.tup [.int l.1,.int l.2])->l7 H us ls
 | _,[],.nil=>.nil
 | _,l :: ls,.cons r t=>by
  obtain ⟨a,us,rfl,h,r1⟩:=r.sqT
  obtain ⟨u1,u2,rfl,q1,q2⟩:=r1.two
  cases q1; cases q2
  exact .cons ⟨a,rfl,h⟩ (pO t)
theorem aK5 {M:Addr->Prop}{H:Hp}{v:V}{ws:List Int}{ls:List (Int × Int)} (r:aG K M H v (Core.bC ws ls)):E8 H v ws ls:=by
 obtain ⟨a,us,rfl,h,r1⟩:=aG.sqT r
 obtain ⟨u1,u2,rfl,q1,q2⟩:=r1.two
 obtain ⟨p,up,rfl,hp,rp⟩:=q1.sqT
 obtain ⟨q,uq,rfl,hq,rq⟩:=q2.sqT
 obtain rfl:=rp.ofInts
 exact⟨a,p,q,uq,rfl,h,hp,hq,pO rq⟩
theorem T4 {M:Addr->Prop}{H:Hp}:∀ {bs:List Addr}{ls:List (Int × Int)} (off:Nat),(∀ b ∈ bs,M b)->(∀ (k:Nat) b,bs[k]? = some b->H b=some (.lst ((aY ls ((off+k:Nat):Int)).map V.int)))->Reps K M H (bs.map V.ref) ((List.range' off bs.length).map fun (k:Nat)=>PV.lst (intz (aY ls k)))
 | [],_,_,_,_=>.nil
 | b :: bs,ls,off,hm,h=>by
  refine .cons (.lst (hm b bi0) (h 0 b rfl) (Reps.intz _)) (T4 (off+1) (fun c hc=>hm c (bi3 _ hc)) fun k c hk=>?_)
  have:=h (k+1) c (by rw [bm4]; exact hk)
  rw [show off+1+k=off+(k+1) by omega]; exact this
theorem aK6 (F:cU P w K mg base dH k f fd ["web"] T2) (b:i7 K fd ["web"] []) (kp:PySem.W.keepIn K (.ref f)=true) (m:mg "near_lists" = some (.ref f)):Df P w K mg base k "near_lists" ["web"] Core.kQ:=by
 refine⟨f,fd,F.imp fun vs H Q E h=>?_,b,kp,m⟩
 obtain ⟨xs,Qp,r,⟨ws,ls,rfl,wb,q⟩,k⟩:=h
 obtain ⟨v,rfl,r1⟩:=r.one
 have:=wb.few
 have:=wb.most
 refine⟨v,ws,ls,rfl,aK5 r1,by omega,by omega,wb.links,fun t bs H' hb R=>k _ H' _ R.same (.lst R.new R.row ?_) q⟩
 have:=T4 (K:=K) (M:=fun a=>H a=none) (H:=H') (bs:=bs) (ls:=ls) 0 (fun b hb=>(R.news b hb).1) fun k b hk=>by rw [Nat.zero_add]; exact R.rows k b hk
 rw [hb,<- List.range_eq_range'] at this
 exact this
end
end PP
namespace Core
open PySem L2 PP
theorem aK7 (n:Nat):eU 0 n=intz (rng n):=by
 unfold eU rng
 show _=List.map PV.int (List.map (fun (i:Nat)=>(i:Int)) (List.range n))
 rw [bv6]
 refine List.map_congr_left fun i _=>?_
 show PV.int (0+(i:Int))=PV.int (i:Int)
 rw [Int.zero_add]
theorem T5 (n:Nat):(rng n).Nodup:=by
 unfold rng
 rw [List.nodup_iff_pairwise_ne,bl7]
 exact (List.nodup_range (n:=n)).imp fun h e=>h (by omega)
def two (l:Int × Int):List Int:=[l.1,l.2]
def oF (r:List Int):Int × Int:=(r.getD 0 0,r.getD 1 0)
theorem oG (ls:List (Int × Int)):bG ls=(ls.map two).map fun r=>PV.tup (intz r):=by
 unfold bG
 rw [bv6]; rfl
theorem T6 {zs:List (List Int)}{ls:List (Int × Int)} (h:zs.Perm (ls.map two)):∃ ls':List (Int × Int),zs=ls'.map two/\ls'.Perm ls:=by
 refine⟨zs.map oF,?_,?_⟩
 ·rw [bv6]
  have:∀ z ∈ zs,(two ∘ oF) z=z:=fun z hz=>by
   obtain ⟨l,_,rfl⟩:=bl4.mp (h.mem_iff.mp hz)
   rfl
  rw [List.map_congr_left this,List.map_id']
 ·have:=h.map oF
  rw [bv6] at this
  have e:ls.map (oF ∘ two)=ls:=by
   have:∀ l ∈ ls,(oF ∘ two) l=id l:=fun l _=>rfl
   rw [List.map_congr_left this,List.map_id]
  rw [e] at this
  exact this
theorem T7 {ls:List (Int × Int)} (so:(ls.map two).Pairwise fun u v=>HT.b6 v u=false) (nd:ls.Nodup):ls.Pairwise dS:=by
 rw [bl7] at so
 refine (List.pairwise_and_iff.mpr ⟨so,nd⟩).imp fun {a b} h=>?_
 obtain ⟨h1,h2⟩:=h
 unfold two at h1
 rw [HT.fF] at h1
 unfold dS
 by_cases e:b.1=a.1
 ·rw [if_pos e,HT.fF] at h1
  by_cases e2:b.2=a.2
  ·exact absurd (Prod.ext e.symm e2.symm) h2
  ·rw [if_neg e2] at h1
   have:=bs6 h1
   omega
 ·rw [if_neg e] at h1
  have:=bs6 h1
  omega
def fC (l:Int × Int):List a9:=[Sum.inl l.1,Sum.inl l.2]
structure DL (n:Int) (ps:List (List a9 × PV)) (i:Nat):Prop where
 key:∀ p ∈ ps,∃ l:Int × Int,p.1=fC l/\0<=l.1/\l.1 < l.2/\l.2 < n
 len:ps.length<=i
 fl:flats (ps.map (·.2))=true
 nd:(ps.map (·.1)).Nodup
theorem aK8 {κ:Type} [DecidableEq κ] {ps:List (κ × PV)} (k:κ) (v:PV) (h:(ps.map (·.1)).Nodup):((cG ps k v).map (·.1)).Nodup:=by
 unfold cG
 split
 ·rw [bv6]
  have:((fun x:κ × PV=>x.1) ∘ fun kv:κ × PV=>if kv.1=k then (kv.1,v) else kv)=fun x=>x.1:=by
   funext x
   show (if x.1=k then (x.1,v) else x).1=x.1
   split <;> rfl
  rw [this]; exact h
 ·rename_i hn
  rw [bj4]
  refine bs1.mpr ⟨h,bl9 _ _,fun x hx y hy e=>hn ?_⟩
  obtain ⟨p,hp,rfl⟩:=bl4.mp hx
  rw [bh6.mp hy] at e
  exact List.any_eq_true.mpr ⟨p,hp,bi2 e⟩
theorem aK9 {κ:Type} [DecidableEq κ] {ps:List (κ × PV)}{k:κ}{v:PV}{p:κ × PV} (h:p ∈ cG ps k v):p.1=k ∨ ∃ q ∈ ps,q.1=p.1:=by
 unfold cG at h
 split at h
 ·obtain ⟨q,hq,e⟩:=bl4.mp h
  split at e
  ·subst e; exact .inr ⟨q,hq,rfl⟩
  ·subst e; exact .inr ⟨q,hq,rfl⟩
 ·rcases bj9.mp h with h | h
  ·exact .inr ⟨p,h,rfl⟩
  ·rw [bh6.mp h]; exact .inl rfl
theorem DL.put {n:Int}{ps:List (List a9 × PV)}{i:Nat} (h:DL n ps i) (l:Int × Int) (hl:0<=l.1/\l.1 < l.2/\l.2 < n):DL n (cG ps (fC l) (.bl true)) (i+1):=by
 refine⟨fun p hp=>?_,?_,wK h.fl rfl,aK8 _ _ h.nd⟩
 ·rcases aK9 hp with e | ⟨q,hq,e⟩
  ·exact⟨l,e,hl⟩
  ·obtain ⟨l',e',h'⟩:=h.key q hq
   exact⟨l',e ▸ e',h'⟩
 ·have:=wJ ps (fC l) (.bl true)
  have:=h.len
  omega
theorem DL.links {n:Int}:∀ {ps:List (List a9 × PV)},(∀ p ∈ ps,∃ l:Int × Int,p.1=fC l/\0<=l.1/\l.1 < l.2/\l.2 < n)->∃ ls:List (Int × Int),(ps.map fun p=>PV.tup (p.1.map kP))=bG ls/\(∀ l ∈ ls,0<=l.1/\l.1 < l.2/\l.2 < n)/\ls.length=ps.length/\ps.map (·.1)=ls.map fC
 | [],_=>⟨[],rfl,(fun _ h=>nomatch h),rfl,rfl⟩
 | p :: ps,h=>by
  obtain ⟨l,e,hl⟩:=h p bi0
  obtain ⟨ls,h1,h2,h3,h4⟩:=DL.links (ps:=ps) fun q hq=>h q (bi3 _ hq)
  refine⟨l :: ls,?_,fun m hm=>?_,by rw [bk2,bk2,h3],by rw [bn4,bn4,h4,e]⟩
  ·rw [bn4,h1,e]; rfl
  ·rcases bh5.mp hm with rfl | hm
   ·exact hl
   ·exact h2 m hm
theorem aL0 {x:PV}{ns:List Int} (h:fV x ns):(Slot.sh (flat x) x).tag = .rd->flat x=true:=by
 cases flat x <;> intro z <;> cases z
theorem aL1 (ns:List Int) {k:Int} (h:0<=k):eB (intz ns) (some k) none=intz (ns.drop k.toNat):=by
 unfold eB
 have e1:HT.aP (intz ns).length 0 (some k)=min k.toNat (intz ns).length:=by
  have:=HT.an2 (intz ns).length 0 k.toNat
  rw [show ((k.toNat:Nat):Int)=k by omega] at this
  exact this
 have e2:HT.aP (intz ns).length (intz ns).length none=(intz ns).length:=rfl
 rw [e1,e2,bW]
 rw [bk3 (by rw [br3,bW]; omega)]
 show _=List.map PV.int _
 rw [List.map_drop]
 by_cases hk:k.toNat<=ns.length
 ·rw [Nat.min_eq_left hk]
 ·rw [Nat.min_eq_right (by omega),List.drop_of_length_le (by rw [bW]; omega),List.drop_of_length_le (by rw [bW]; omega)]
structure jP (i:Int) (ms:List Int):Prop where
 up:ms.Pairwise (· < ·)
 inn:∀ x ∈ ms,0<=x/\x < i
 len:(ms.length:Int)<=i
theorem jP.set {n:Nat}{ms:List Int} (h:jP (n:Int) ms):b9 n ms=true:=by
 unfold b9
 rw [wC h.up,Bool.true_and,bp7]
 intro b hb
 obtain ⟨x,hx,rfl⟩:=bl4.mp hb
 have:=h.inn x hx
 unfold inB
 simp [this]
theorem aL2:∀ {a b:List Int},a.Perm b->a.Pairwise (· <= ·)->b.Pairwise (· <= ·)->a=b:=by
 intro a b h ha hb
 exact h.eq_of_pairwise (fun x y _ _ h1 h2=>Int.le_antisymm h1 h2) ha hb
def T8:bF:=fun xs Q=>∃ ns:List Int,xs = [.scr ns]/\ns.length<=63/\Q (.bl true)
structure aL3 (K:PySem.W.Frag):Prop where
 ii:PySem.W.kitOne K (.type "int") (.type "int")=some true
 ib:PySem.W.kitOne K (.type "int") (.type "bool")=some false
 tt:PySem.W.kitOne K (.type "tuple") (.type "tuple")=some true
 ll:PySem.W.kitOne K (.type "list") (.type "list")=some true
 bb:PySem.W.kitOne K (.type "bool") (.type "bool")=some true
theorem wU (K:PySem.W.Frag):aL3 K:=by
 have same:∀ n:String,PySem.W.kitMeta n=true->True:=fun _ _=>trivial
 refine⟨?_,?_,?_,?_,?_⟩
 ·unfold PySem.W.kitOne; rw [if_pos (by decide)]
 ·have e:(if PySem.W.kitMeta "bool" = true then (fastBuiltinMro "int").map (·.contains (Value.type "bool")) else none)=some false:=by decide +kernel
  unfold PySem.W.kitOne
  rw [if_neg (by decide)]
  exact e
 ·unfold PySem.W.kitOne; rw [if_pos (by decide)]
 ·unfold PySem.W.kitOne; rw [if_pos (by decide)]
 ·unfold PySem.W.kitOne; rw [if_pos (by decide)]
end Core
namespace PP
open PySem L2 PyProof.Rows
theorem aL4 {P:Program}{w:World}{K:PySem.W.Frag}{mg:Str->Option Value}{base:Heap}{k:Nat}{x:Str}{ps N:List Str}{p:bF}{st:Stmt}{f:Addr}{fd:FuncData} (F:eN K x x st f fd) (S:FnScope N ps (aO st))
  (len:∀ xs Q,p xs Q->xs.length=ps.length)
  (body:∀ (cdv:Value) (A:Around) (outer:List Env) (s:Shared) (H:Hp) (E:XK),c9 k (A.deeper (envOfC x (aO st) s.heap.objs.size f cdv))->
   ∃ t,eC (cV dH P w K mg base N x (aO st) f cdv A outer s H E).nox (dM st) t/\∀ xs Q,p xs Q->t { nx:=fun _=>Q .non,rt:=Q } (eW N xs)):cU P w K mg base dH (k+1) f fd ps (nL K p):=by
 refine F.ok S (fun vs H Q E h=>?_) (fun cdv A outer s H vs Q E hr h=>?_)
 ·obtain ⟨xs,Qp,r,q,_⟩:=h
  rw [r.length]; exact len xs Qp q
 ·obtain ⟨xs,Qp,r,q,k⟩:=h
  obtain ⟨t,ht,hq⟩:=body cdv A outer s H E hr
  refine⟨_,ht,fun _=>False,eW N xs,_,vT r,hq xs Qp q,?_,?_,?_,?_⟩
  ·exact fun W' σ' H' ρ' e px q=>k _ _ _ px.same .non q
  ·exact fun v H' x s r q=>k _ _ _ s r q
  ·exact fun W' σ' H' ρ' e px q=>q
  ·exact fun W' σ' H' ρ' e px q=>q
def rH (K:PySem.W.Frag):Sp:=fun vs H Q _=>∃ (a:Addr) (ns:List Int),vs = [.ref a]/\iF K H a ns/\ns.length<=63/\∀ H',Q (.bl true) H'
theorem aL5 {P:Program}{w:World}{K:PySem.W.Frag}{mg:Str->Option Value}{base:Heap}{k:Nat}{f:Addr}{fd:FuncData} (F:cU P w K mg base dH k f fd ["script"] (nL K Core.T8)):cU P w K mg base dH k f fd ["script"] (rH K):=
 F.imp fun vs H Q E h=>by
  obtain ⟨a,ns,rfl,hs,hl,q⟩:=h
  refine⟨[.scr ns],fun z=>z = .bl true,.cons (.scr hs) .nil,⟨ns,rfl,hl,rfl⟩,?_⟩
  rintro v H' x _ r rfl
  cases r
  exact q H'
theorem aL6 {K:PySem.W.Frag}{H:Hp}{a:Addr}{ns:List Int} (hO:pA H) (h:aI K H a (ns.map V.int)):iF K H a ns:=by
 rcases h with (h | ⟨o,h⟩) | h
 ·rcases hO a with e | ⟨o,xs,e⟩ <;> (rw [h] at e; cases e)
 ·exact .inl ⟨o,h⟩
 ·exact .inr h
end PP
namespace PyProof.Rows
open PySem
end PyProof.Rows
namespace PP
open PySem L2 PyProof.Rows
section
variable {X : Cx} {a b e : Expr} {ta tb te : aE} {tr : cL} {pos p2 : Pos}
def T9:PV->Tg->PV->Tg->PK->Prop:=fun x _ y _ Q=>∃ xs ys,x = .lst xs/\y = .lst ys/\flats xs=true/\flats ys=true/\xs.length+ys.length<=16000000/\Q (.lst (xs ++ ys)) .fr
abbrev wV (ta tb:aE):aE:=q2 T9 ta tb
theorem aL7:dC X T9 A1:=by
 rintro W Hs H u v x y g g' Q Q' s n r1 r2 ⟨xs,ys,rfl,rfl,f1,f2,hl,q⟩ k
 obtain ⟨a,us,rfl,_,h1,q1⟩:=r1.sqL
 obtain ⟨b,ws,rfl,_,h2,q2⟩:=r2.sqL
 have l1:=q1.length
 have l2:=q2.length
 refine⟨a,b,us,ws,rfl,rfl,h1,h2,lim (by omega),fun p hp=>k _ _ _ .fr (aZ hp _) (.lst (s.free hp) b8 (((q1.flat f1).append (q2.flat f2)).same (aZ hp _) fun _ z=>z)) q⟩
theorem U0 (ha:QE X a ta) (hb:QE X b tb):QE X (.BinOp a .Add b pos) (wV ta tb):=gT aq3 aL7 ha hb
end
end PP
namespace L2
open PySem PySem.Spec PyProof.Rows
def wW (K:PySem.W.Frag) (a:Addr):It:=
  ⟨fun i H=>∃ xs x,aI K H a xs/\xs[i]? = some x,
   fun i H v H'=>∃ T x,H T=none/\v = .ref T/\H'=upd H T (.tup [.int i,x])/\∀ xs,aI K H a xs->xs[i]? = some x,
   fun i H=>∃ xs,aI K H a xs/\xs.length<=i⟩
structure aL8 (e it a:Addr) (i:Nat) (h:Heap):Prop where
 ee:∃ old,IsEnum h e it i old
 s1:h.IsListIter it a i
theorem aL9 {P:Program}{w:World}{K:PySem.W.Frag}{elts:List Expr}{k:Nat}{pos:Pos} (a e it:Addr) (d:e ≠ it) :
  gN P w K (.Tuple elts k pos) (wW K a) [e,it] e (aL8 e it a):=by
 refine⟨by simp,fun i h st c hc=>?_,fun i h h' st kp=>?_,?_,?_,fun A i s Q E st q=>?_⟩
 ·simp only [bh5,bi8,bn7] at hc
  obtain ⟨old,ee⟩:=st.ee
  obtain ⟨o1,f1,g1,d1⟩:=st.s1
  rcases hc with rfl | rfl
  ·exact⟨_,ee,fun v q=>by cases q⟩
  ·exact⟨_,f1,fun v q=>by rw [d1] at q; cases q⟩
 ·obtain ⟨old,ee⟩:=st.ee
  exact⟨⟨old,kp e (by simp) _ ee⟩,st.s1.at fun o z=>kp it (by simp) o z⟩
 ·intro X hP hw hK hc i pins s σ H E I hf st hg
  subst hP hw hK
  obtain ⟨xs,x,ha,hx⟩:=hg
  obtain ⟨us,ru,pu,lu⟩:=I.list ha
  obtain ⟨ux,eux,rux⟩:=ru.get hx
  obtain ⟨old,ee⟩:=st.ee
  refine wpAny_pyNext_enum_item ee st.s1 pu.isList (by simpa using eux) d fun h' eo it' pr sz kp=>⟨_,rfl,?_⟩
  refine wpAny_letOwnedTupleGo_enum (s:={ s with heap:=h',toks:=s.toks+1 }) eo fun g zz sb=>?_
  have hzl:e < s.heap.objs.size:=bh9 ee
  have up:∀ c o,c ≠ e->c ≠ it->s.heap.get? c=some o->g.get? c=some o:=fun c o c1 c2 z=>sb.extBut c o c1 (kp c o c1 c2 z)
  have hT:H s.heap.objs.size=none:=I.hok.fresh (bh1 _)
  have prG:g.get? s.heap.objs.size=some { cls:=.type "tuple",data:=.seq #[.int i s.toks,ux] }:=sb.extBut _ _ (bo0 hzl) pr
  have fpn:∀ c u,H c=some u->c ∉ [e,it]:=fun c u z hm=>by rw [(hf c hm).1] at z; cases z
  have upH:∀ c o u,H c=some u->s.heap.get? c=some o->g.get? c=some o:=fun c o u q z=>by
   have:=fpn c u q
   simp only [bh5,bi8,bn7,not_or] at this
   exact up c o this.1 this.2 z
  have ns:∀ m,s.heap.Ns X.env.locals m->g.Ns X.env.locals m:=fun m hm=>by
   obtain ⟨o,es,ep,e1,e2⟩:=hm
   exact⟨o,es,ep,up _ o (Ne.symm (hf e (by simp)).2.1) (Ne.symm (hf it (by simp)).2.1) e1,e2⟩
  have I2:a6 X pins σ (upd H s.heap.objs.size (.tup [.int i,x])) { s with heap:=g,toks:=s.toks+1 }:=by
   refine I.step (g':=s.gens) (d':=s.drawn) (ch:=[e,it]) (fun c hc'=>?_) (fun c o _ _ hc' z _=>?_) (fun c o _ _ hc' z _=>⟨o.slots,?_⟩) (fun c o _ z n=>?_) (fun c o hc' z=>⟨o,?_⟩)
    (fun c zs z=>by rw [aM (bX z hT)]; exact z) (fun c u zs z=>by rw [aM (bX z hT)]; exact z) (fun c ps z=>⟨#[],by rw [aM (bX z hT),z]; simp⟩) ns (fun c u z=>?_) I.bare
   ·exact⟨(hf c hc').2.2.2.1,(hf c hc').2.1,(hf c hc').2.2.2.2.1,(hf c hc').2.2.2.2.2⟩
   ·simp only [bh5,bi8,bn7,not_or] at hc'
    exact up c o hc'.1 hc'.2 z
   ·simp only [bh5,bi8,bn7,not_or] at hc'
    exact up c o hc'.1 hc'.2 z
   ·rw [aM (bj5 (bh9 z))]; exact n
   ·simp only [bh5,bi8,bn7,not_or] at hc'
    exact up c o hc'.1 hc'.2 z
   ·by_cases hcT:c=s.heap.objs.size
    ·subst hcT
     rw [b8] at z; cases z
     exact⟨by show 2<=sizeLine; decide,[.int i s.toks,ux],.cons ⟨_,rfl⟩ (.cons rux .nil),⟨_,prG,rfl,_,rfl⟩⟩
    ·rw [aM hcT] at z
     refine (I.hok c u z).stay (fun c' o' hc2 q'=>?_) (fun c' q'=>by rw [aM (bX q' hT)]; exact q') fun c' zs q'=>by rw [aM (bX q' hT)]; exact q'
     rcases hc2 with rfl | hc2
     ·exact upH _ _ _ z q'
     ·exact upH _ _ _ hc2 q'
  refine⟨.ref s.heap.objs.size,_,I2,rfl,⟨_,x,hT,rfl,rfl,fun xs' ha'=>?_⟩,⟨⟨ux,by push_cast; exact zz⟩,it'.at fun o z=>sb.extBut _ o (Ne.symm d) z⟩,fun c hc'=>?_⟩
  ·rw [I.list_inj ha' ha]; exact hx
  ·obtain ⟨o,z⟩:∃ o,s.heap.get? c=some o:=by
    simp only [bh5,bi8,bn7] at hc'
    obtain ⟨o1,f1,_⟩:=st.s1
    rcases hc' with rfl | rfl
    ·exact⟨_,ee⟩
    ·exact⟨_,f1⟩
   rw [aM (bj5 (bh9 z))]; exact (hf c hc').1
 ·intro X hP hw hK hc i pins s σ H E I hf st hg
  subst hP hw hK
  obtain ⟨xs,ha,hi⟩:=hg
  obtain ⟨us,ru,pu,lu⟩:=I.list ha
  obtain ⟨old,ee⟩:=st.ee
  have hh:X.A.handled=none:=I.ok.hd hc
  have e1:=ru.length
  refine wpAny_pyNext_enum_end hh ee st.s1 pu.isList (by rw [bt6]; simp only [bh0]; omega) fun g kp=>⟨rfl,?_⟩
  have fpn:∀ c u,H c=some u->c ∉ [e,it]:=fun c u z hm=>by rw [(hf c hm).1] at z; cases z
  have upH:∀ c o u,H c=some u->s.heap.get? c=some o->g.get? c=some o:=fun c o u q z=>by
   have:=fpn c u q
   simp only [bh5,bi8,bn7,not_or] at this
   exact kp c o this.2 z
  have ns:∀ m,s.heap.Ns X.env.locals m->g.Ns X.env.locals m:=fun m hm=>by
   obtain ⟨o,es,ep,e1,e2⟩:=hm
   exact⟨o,es,ep,kp _ o (Ne.symm (hf it (by simp)).2.1) e1,e2⟩
  refine I.step (g':=s.gens) (d':=s.drawn) (ch:=[it]) (fun c hc'=>?_) (fun c o _ _ hc' z _=>?_) (fun c o _ _ hc' z _=>⟨o.slots,?_⟩) (fun c o _ z n=>n) (fun c o hc' z=>⟨o,?_⟩)
   (fun c zs z=>z) (fun c u zs z=>z) (fun c ps z=>⟨#[],by rw [z]; simp⟩) ns (fun c u z=>?_) I.bare
  ·have hm:c ∈ [e,it]:=bi3 _ hc'
   exact⟨(hf c hm).2.2.2.1,(hf c hm).2.1,(hf c hm).2.2.2.2.1,(hf c hm).2.2.2.2.2⟩
  ·exact kp c o (fun y=>hc' (by rw [y]; simp)) z
  ·exact kp c o (fun y=>hc' (by rw [y]; simp)) z
  ·exact kp c o (fun y=>hc' (by rw [y]; simp)) z
  ·refine (I.hok c u z).stay (fun c' o' hc2 q'=>?_) (fun _ q'=>q') fun _ _ q'=>q'
   rcases hc2 with rfl | hc2
   ·exact upH _ _ _ z q'
   ·exact upH _ _ _ hc2 q'
 ·obtain ⟨old,ee⟩:=st.ee
  exact wpAny_pyIter_enum ee q
end L2
namespace Zp
open PySem PyProof.Rows
section
variable {prog : Program} {w : World} {A : Around} {E : Value → Shared → Prop} {s : Shared}
theorem aM0 {e it t:Addr}{i:Nat}{items:Array Value}{x old:Value}{Q:Option Value->Shared->Prop} (he:IsEnum s.heap e it i old) (hi:s.heap.IsTupleIter it t i) (ht:s.heap.IsTuple t items) (hx:items[i]? = some x) (ne:e ≠ it)
  (q:∀ h',IsEnumOut h' e it ((i:Int)+1) x s.heap.objs.size->h'.IsTupleIter it t (i+1)->h'.get? s.heap.objs.size=some { cls:=.type "tuple",data:=.seq #[.int i s.toks,x] }->h'.objs.size=s.heap.objs.size+1->
   (∀ b o,b ≠ e->b ≠ it->s.heap.get? b=some o->h'.get? b=some o)->Q (some (.ref s.heap.objs.size)) { s with heap:=h',toks:=s.toks+1 }):wpAny (model prog w) A (pyNext (.ref e)) Q E s:=by
 have T:s.TypeIs (.ref e) "enumerate":=⟨_,he,rfl⟩
 have slot:=PySem.F.slot_enumerate_next
 unfold pyNext
 apply bg5
 apply bu6
 apply bl3 (name:=Str.ofString "__next__") T slot
 apply bl0 slot T PySem.F.entry_enumerate_next _ (PySem.F.args_enumerate_next_1 _)
 change wpAny _ _ (field (.ref e) 2 >>= _) _ _ _
 apply bg5
 refine bo5 he rfl (x:=.ref it) rfl ?_
 apply bg5
 refine E9 hi ht hx fun g1 it1 sb1=>?_
 have e1:IsEnum g1 e it i old:=sb1.extBut _ _ ne he
 change wpAny _ _ (field (.ref e) 3 >>= _) _ _ _
 apply bg5
 refine bo5 e1 rfl (x:=rawInt i) rfl ?_
 change wpAny _ _ (field (.ref e) 4 >>= _) _ _ _
 apply bg5
 refine bo5 e1 rfl (x:=.none) rfl ?_
 change wpAny _ _ (mkInt i >>= _) _ _ _
 apply bg5
 refine wpAny_mkInt ?_
 change wpAny _ _ (setField (.ref e) 3 (rawInt ((i:Int)+1)) >>= _) _ _ _
 apply bg5
 refine bp0 e1 (by simp) fun g2 e2 sb2=>?_
 apply bg5
 refine bp0 e2 (by simp) fun g3 e3 sb3=>?_
 have e3:IsEnum g3 e it ((i:Int)+1) old:=e3
 apply bg5
 refine wpAny_newTuple ?_ (by show 2<=sizeLine; decide)
 have e4:IsEnum (g3.push { cls:=.type "tuple",data:=.seq #[.int i s.toks,x] }) e it ((i:Int)+1) old:=bg7 _ e3
 have size:g3.objs.size=s.heap.objs.size:=by rw [sb3.1,sb2.1,sb1.1]
 change wpAny _ _ (Builtin.SmallTypes.ownedTupleIsFree (.ref e) >>= _) _ _ _
 apply bg5
 unfold Builtin.SmallTypes.ownedTupleIsFree
 apply bg5
 refine bo5 e4 rfl (x:=.none) rfl (bg8 ?_)
 simp only [if_true]
 apply bg5
 apply bu1
 apply bg5
 refine bo5 e4 rfl (x:=old) rfl ?_
 apply bg5
 refine bp0 e4 (by simp) fun g5 e5 sb5=>?_
 apply bg5
 unfold Builtin.SmallTypes.ownedTupleHandOut
 apply bg5
 refine bp0 e5 (by simp) fun g6 e6 sb6=>?_
 refine bp0 e6 (by simp) fun g7 e7 sb7=>?_
 have e7:IsEnumOut g7 e it ((i:Int)+1) x g3.objs.size:=e7
 have elt:e < g3.objs.size:=bh9 e3
 have up:∀ c o,c ≠ e->(g3.push { cls:=.type "tuple",data:=.seq #[.int i s.toks,x] }).get? c=some o->g7.get? c=some o:=fun c o c1 z=>sb7.extBut c o c1 (sb6.extBut c o c1 (sb5.extBut c o c1 z))
 have up3:∀ c o,c ≠ e->g1.get? c=some o->g7.get? c=some o:=fun c o c1 z=>up c o c1 (bg7 _ (sb3.extBut c o c1 (sb2.extBut c o c1 z)))
 have p7:g7.get? g3.objs.size=some { cls:=.type "tuple",data:=.seq #[.int i s.toks,x] }:=up _ _ (bo0 elt) (bh8 _ rfl)
 have s7:g7.objs.size=g3.objs.size+1:=by rw [sb7.1,sb6.1,sb5.1,bq3]
 apply bg5
 apply wpAny_letGo
 apply bg8
 rw [size] at e7 p7 s7
 refine⟨_,rfl,bg8 ?_⟩
 change Q (some (.ref g3.objs.size)) _
 rw [size]
 exact q g7 e7 (it1.at fun o z=>up3 it o (Ne.symm ne) z) p7 s7 fun b o b1 b2 z=>up3 b o b1 (sb1.extBut b o b2 z)
theorem aM1 {e it t:Addr}{i:Nat}{items:Array Value}{old:Value}{Q:Option Value->Shared->Prop} (hh:A.handled=none) (he:IsEnum s.heap e it i old) (hi:s.heap.IsTupleIter it t i) (ht:s.heap.IsTuple t items) (hx:items[i]? = none)
  (q:∀ h',Heap.ExtBut it s.heap h'->Q none { s with heap:=h' }):wpAny (model prog w) A (pyNext (.ref e)) Q E s:=by
 have T:s.TypeIs (.ref e) "enumerate":=⟨_,he,rfl⟩
 have slot:=PySem.F.slot_enumerate_next
 unfold pyNext
 apply bg5
 apply bu6
 apply bl3 (name:=Str.ofString "__next__") T slot
 apply bl0 slot T PySem.F.entry_enumerate_next _ (PySem.F.args_enumerate_next_1 _)
 change wpAny _ _ (field (.ref e) 2 >>= _) _ _ _
 apply bg5
 refine bo5 he rfl (x:=.ref it) rfl ?_
 apply bg5
 refine F0 hh hi ht hx fun g2 ex eb exo=>?_
 obtain ⟨oe,eo,co⟩:=exo
 apply bg5
 refine bw2 (T:="StopIteration") (b:=true) ⟨oe,eo,co⟩ isSubtype_stop ?_
 exact bg8 (q g2 eb)
theorem aM2 {M:Model}{A:Around}{E:Value->Shared->Prop}{s:Shared}{α:Type}{c:Prop} [Decidable c] {m n:Sem α}{Q:α->Shared->Prop} (h1:wpAny M A m Q E s) (h2:wpAny M A n Q E s):wpAny M A (if c then m else n) Q E s:=by
 split
 ·exact h1
 ·exact h2
theorem aM3 (t:Addr) (xs:Array Value):Meets (Builtin.«enumerate.__new__» ⟨[.type "enumerate",.ref t],[]⟩) (fun _ R s=>s.heap.IsTuple t xs/\R (.ok (.ret (.ref (s.heap.objs.size+1)))) { s with heap:=(s.heap.push { cls:=.type "tuple_iterator",data:=.fields #[.ref t,.int 0 0] }).push { cls:=.type "enumerate",data:=.fields #[.none,.bool false,.ref s.heap.objs.size,rawInt 0,.none,.none] } }):=
 .of_wp fun prog w A R s h=>by
  obtain ⟨hp,g,d,tk,os⟩:=s
  obtain ⟨ht,h⟩:=h
  have sub:=sub_enumerate
  have a1:Heap.IsTuple (Shared.heap ⟨hp,g,d,tk,os⟩) t xs:=ht
  wp_walk using bu0 a1
  refine wpAny_stack_any fun st=>bg8 ?_
  refine aM2 ?_ ?_
  all_goals
   apply bg5
   refine wpAny_of_eq (a:=(Value.ref t,none)) rfl ?_
   wp_walk using bu0 a1
   have e:∀ (o:Obj) (k:Heap),(k.push o).objs.size=k.objs.size+1:=fun o k=>bq3 ..
   refine⟨_,rfl,?_⟩
   simp only [e] at h ⊢
   exact h
theorem aM4 {t:Addr}{xs:Array Value}{Q:Value->Shared->Prop} (ht:s.heap.IsTuple t xs)
  (q:∀ h',IsEnum h' (s.heap.objs.size+1) s.heap.objs.size 0 .none->h'.IsTupleIter s.heap.objs.size t 0->h'.objs.size=s.heap.objs.size+2->(∀ c o,s.heap.get? c=some o->h'.get? c=some o)->Q (.ref (s.heap.objs.size+1)) { s with heap:=h' }) :
  wpAny (model prog w) A (call (.type "enumerate") [.ref t]) Q E s:=by
 refine callType_new PySem.F.called_enumerate (by decide) (PySem.F.typeCall_enumerate_1 _) (PySem.F.newCall_enumerate_1 _) (fun obj=>PySem.F.args_object_init_2 obj _) PySem.F.entry_enumerate_new (aM3 t xs) ⟨ht,?_⟩
 have e:∀ (o:Obj) (k:Heap),(k.push o).objs.size=k.objs.size+1:=fun o k=>bq3 ..
 have g0:((s.heap.push { cls:=.type "tuple_iterator",data:=.fields #[.ref t,.int 0 0] }).push { cls:=.type "enumerate",data:=.fields #[.none,.bool false,.ref s.heap.objs.size,rawInt 0,.none,.none] }).get? s.heap.objs.size=some { cls:=.type "tuple_iterator",data:=.fields #[.ref t,.int 0 0] }:=bg7 _ (bh8 _ rfl)
 have g1:((s.heap.push { cls:=.type "tuple_iterator",data:=.fields #[.ref t,.int 0 0] }).push { cls:=.type "enumerate",data:=.fields #[.none,.bool false,.ref s.heap.objs.size,rawInt 0,.none,.none] }).get? (s.heap.objs.size+1)=some { cls:=.type "enumerate",data:=.fields #[.none,.bool false,.ref s.heap.objs.size,rawInt 0,.none,.none] }:=by
  have:=bh8 (h:=s.heap.push { cls:=.type "tuple_iterator",data:=.fields #[.ref t,.int 0 0] }) (o:={ cls:=.type "enumerate",data:=.fields #[.none,.bool false,.ref s.heap.objs.size,rawInt 0,.none,.none] }) rfl
  rw [e] at this; exact this
 exact⟨⟨_,g1,rfl⟩,q _ g1 ⟨_,g0,rfl,rfl⟩ (by rw [e,e]) fun c o z=>bg7 _ (bg7 _ z)⟩
end
end Zp
namespace L2
open PySem PySem.Spec PyProof.Rows
def wX (K:PySem.W.Frag) (a:Addr):It:=
  ⟨fun i H=>∃ xs x,aF K H a xs/\xs[i]? = some x,
   fun i H v H'=>∃ T x,H T=none/\v = .ref T/\H'=upd H T (.tup [.int i,x])/\∀ xs,aF K H a xs->xs[i]? = some x,
   fun i H=>∃ xs,aF K H a xs/\xs.length<=i⟩
structure aM5 (e it a:Addr) (i:Nat) (h:Heap):Prop where
 ee:∃ old,IsEnum h e it i old
 s1:h.IsTupleIter it a i
theorem aM6 {P:Program}{w:World}{K:PySem.W.Frag}{elts:List Expr}{k:Nat}{pos:Pos} (a e it:Addr) (d:e ≠ it) :
  gN P w K (.Tuple elts k pos) (wX K a) [e,it] e (aM5 e it a):=by
 refine⟨by simp,fun i h st c hc=>?_,fun i h h' st kp=>?_,?_,?_,fun A i s Q E st q=>?_⟩
 ·simp only [bh5,bi8,bn7] at hc
  obtain ⟨old,ee⟩:=st.ee
  obtain ⟨o1,f1,g1,d1⟩:=st.s1
  rcases hc with rfl | rfl
  ·exact⟨_,ee,fun v q=>by cases q⟩
  ·exact⟨_,f1,fun v q=>by rw [d1] at q; cases q⟩
 ·obtain ⟨old,ee⟩:=st.ee
  exact⟨⟨old,kp e (by simp) _ ee⟩,st.s1.at fun o z=>kp it (by simp) o z⟩
 ·intro X hP hw hK hc i pins s σ H E I hf st hg
  subst hP hw hK
  obtain ⟨xs,x,ha,hx⟩:=hg
  obtain ⟨us,ru,pu,lu⟩:=I.tuple ha
  obtain ⟨ux,eux,rux⟩:=ru.get hx
  obtain ⟨old,ee⟩:=st.ee
  refine Zp.aM0 ee st.s1 pu (by simpa using eux) d fun h' eo it' pr sz kp=>⟨_,rfl,?_⟩
  refine wpAny_letOwnedTupleGo_enum (s:={ s with heap:=h',toks:=s.toks+1 }) eo fun g zz sb=>?_
  have hzl:e < s.heap.objs.size:=bh9 ee
  have up:∀ c o,c ≠ e->c ≠ it->s.heap.get? c=some o->g.get? c=some o:=fun c o c1 c2 z=>sb.extBut c o c1 (kp c o c1 c2 z)
  have hT:H s.heap.objs.size=none:=I.hok.fresh (bh1 _)
  have prG:g.get? s.heap.objs.size=some { cls:=.type "tuple",data:=.seq #[.int i s.toks,ux] }:=sb.extBut _ _ (bo0 hzl) pr
  have fpn:∀ c u,H c=some u->c ∉ [e,it]:=fun c u z hm=>by rw [(hf c hm).1] at z; cases z
  have upH:∀ c o u,H c=some u->s.heap.get? c=some o->g.get? c=some o:=fun c o u q z=>by
   have:=fpn c u q
   simp only [bh5,bi8,bn7,not_or] at this
   exact up c o this.1 this.2 z
  have ns:∀ m,s.heap.Ns X.env.locals m->g.Ns X.env.locals m:=fun m hm=>by
   obtain ⟨o,es,ep,e1,e2⟩:=hm
   exact⟨o,es,ep,up _ o (Ne.symm (hf e (by simp)).2.1) (Ne.symm (hf it (by simp)).2.1) e1,e2⟩
  have I2:a6 X pins σ (upd H s.heap.objs.size (.tup [.int i,x])) { s with heap:=g,toks:=s.toks+1 }:=by
   refine I.step (g':=s.gens) (d':=s.drawn) (ch:=[e,it]) (fun c hc'=>?_) (fun c o _ _ hc' z _=>?_) (fun c o _ _ hc' z _=>⟨o.slots,?_⟩) (fun c o _ z n=>?_) (fun c o hc' z=>⟨o,?_⟩)
    (fun c zs z=>by rw [aM (bX z hT)]; exact z) (fun c u zs z=>by rw [aM (bX z hT)]; exact z) (fun c ps z=>⟨#[],by rw [aM (bX z hT),z]; simp⟩) ns (fun c u z=>?_) I.bare
   ·exact⟨(hf c hc').2.2.2.1,(hf c hc').2.1,(hf c hc').2.2.2.2.1,(hf c hc').2.2.2.2.2⟩
   ·simp only [bh5,bi8,bn7,not_or] at hc'
    exact up c o hc'.1 hc'.2 z
   ·simp only [bh5,bi8,bn7,not_or] at hc'
    exact up c o hc'.1 hc'.2 z
   ·rw [aM (bj5 (bh9 z))]; exact n
   ·simp only [bh5,bi8,bn7,not_or] at hc'
    exact up c o hc'.1 hc'.2 z
   ·by_cases hcT:c=s.heap.objs.size
    ·subst hcT
     rw [b8] at z; cases z
     exact⟨by show 2<=sizeLine; decide,[.int i s.toks,ux],.cons ⟨_,rfl⟩ (.cons rux .nil),⟨_,prG,rfl,_,rfl⟩⟩
    ·rw [aM hcT] at z
     refine (I.hok c u z).stay (fun c' o' hc2 q'=>?_) (fun c' q'=>by rw [aM (bX q' hT)]; exact q') fun c' zs q'=>by rw [aM (bX q' hT)]; exact q'
     rcases hc2 with rfl | hc2
     ·exact upH _ _ _ z q'
     ·exact upH _ _ _ hc2 q'
  refine⟨.ref s.heap.objs.size,_,I2,rfl,⟨_,x,hT,rfl,rfl,fun xs' ha'=>?_⟩,⟨⟨ux,by push_cast; exact zz⟩,it'.at fun o z=>sb.extBut _ o (Ne.symm d) z⟩,fun c hc'=>?_⟩
  ·rw [I.tuple_inj ha' ha]; exact hx
  ·obtain ⟨o,z⟩:∃ o,s.heap.get? c=some o:=by
    simp only [bh5,bi8,bn7] at hc'
    obtain ⟨o1,f1,_⟩:=st.s1
    rcases hc' with rfl | rfl
    ·exact⟨_,ee⟩
    ·exact⟨_,f1⟩
   rw [aM (bj5 (bh9 z))]; exact (hf c hc').1
 ·intro X hP hw hK hc i pins s σ H E I hf st hg
  subst hP hw hK
  obtain ⟨xs,ha,hi⟩:=hg
  obtain ⟨us,ru,pu,lu⟩:=I.tuple ha
  obtain ⟨old,ee⟩:=st.ee
  have hh:X.A.handled=none:=I.ok.hd hc
  have e1:=ru.length
  refine Zp.aM1 hh ee st.s1 pu (by rw [bt6]; simp only [bh0]; omega) fun g kp=>⟨rfl,?_⟩
  have fpn:∀ c u,H c=some u->c ∉ [e,it]:=fun c u z hm=>by rw [(hf c hm).1] at z; cases z
  have upH:∀ c o u,H c=some u->s.heap.get? c=some o->g.get? c=some o:=fun c o u q z=>by
   have:=fpn c u q
   simp only [bh5,bi8,bn7,not_or] at this
   exact kp c o this.2 z
  have ns:∀ m,s.heap.Ns X.env.locals m->g.Ns X.env.locals m:=fun m hm=>by
   obtain ⟨o,es,ep,e1,e2⟩:=hm
   exact⟨o,es,ep,kp _ o (Ne.symm (hf it (by simp)).2.1) e1,e2⟩
  refine I.step (g':=s.gens) (d':=s.drawn) (ch:=[it]) (fun c hc'=>?_) (fun c o _ _ hc' z _=>?_) (fun c o _ _ hc' z _=>⟨o.slots,?_⟩) (fun c o _ z n=>n) (fun c o hc' z=>⟨o,?_⟩)
   (fun c zs z=>z) (fun c u zs z=>z) (fun c ps z=>⟨#[],by rw [z]; simp⟩) ns (fun c u z=>?_) I.bare
  ·have hm:c ∈ [e,it]:=bi3 _ hc'
   exact⟨(hf c hm).2.2.2.1,(hf c hm).2.1,(hf c hm).2.2.2.2.1,(hf c hm).2.2.2.2.2⟩
  ·exact kp c o (fun y=>hc' (by rw [y]; simp)) z
  ·exact kp c o (fun y=>hc' (by rw [y]; simp)) z
  ·exact kp c o (fun y=>hc' (by rw [y]; simp)) z
  ·refine (I.hok c u z).stay (fun c' o' hc2 q'=>?_) (fun _ q'=>q') fun _ _ q'=>q'
   rcases hc2 with rfl | hc2
   ·exact upH _ _ _ z q'
   ·exact upH _ _ _ hc2 q'
 ·obtain ⟨old,ee⟩:=st.ee
  exact wpAny_pyIter_enum ee q
section
variable {X : Cx}
def U1 (K:PySem.W.Frag) (ta:TA):TI:=fun σ H R=>ta σ H fun vs H1=>∃ a,vs = [.ref a]/\((∃ xs,aI K H1 a xs/\R (wW K a) H1) ∨ (∃ xs,aF K H1 a xs/\R (wX K a) H1))
theorem aM7 {elts:List Expr}{kt:Nat}{pt:Pos}{a:Expr}{ta:TA}{p pos:Pos} (hg:Gl X "enumerate") (hm:X.mg "enumerate" = none) (ha:PA X [a] ta) (hs:starEach [a] X.env = [(false,eval a X.env)]:=by rfl) :
  PI X (.Tuple elts kt pt) (.Call (.Name "enumerate" p) [a] [] pos) (U1 X.K ta):=by
 intro pins s σ H R I h
 refine Call_ (iZ I hg hm PyProof.Rows.boot_enumerate (bq8 (aJ (ha pos pins s σ H _ I h) fun us s1 ⟨vs,H1,I1,r1,q1⟩=>?_) (by rw [hs]; rfl) (by rfl)))
 obtain ⟨a',e,q⟩:=q1
 subst e
 have fresh:∀ k,H1 (s1.heap.objs.size+k)=none:=fun k=>I1.hok.fresh (bu2 _ _)
 cases r1 with
 | cons r rr=>
  cases rr
  cases r
  rcases q with ⟨xs,h1,q⟩ | ⟨xs,h1,q⟩
  ·obtain ⟨us,_,p1,_⟩:=I1.list h1
   refine call_enumerate_list p1.isList fun h' z s1' sz kp=>wpAny_pyIter_enum z ?_
   refine⟨s1.heap.objs.size+1,[s1.heap.objs.size+1,s1.heap.objs.size],_,_,H1,rfl,I1.kept (t':=s1.toks) kp,
    aL9 a' _ _ (Nat.succ_ne_self _),⟨⟨_,z⟩,s1'⟩,fun c hc=>?_,q⟩
   simp only [bh5,bi8,bn7] at hc
   rcases hc with rfl | rfl
   ·exact I1.fpOk (bu2 _ _) (fresh 1)
   ·exact I1.fpOk (bh1 _) (fresh 0)
  ·obtain ⟨us,_,p1,_⟩:=I1.tuple h1
   refine Zp.aM4 p1 fun h' z s1' sz kp=>wpAny_pyIter_enum z ?_
   refine⟨s1.heap.objs.size+1,[s1.heap.objs.size+1,s1.heap.objs.size],_,_,H1,rfl,I1.kept (t':=s1.toks) kp,
    aM6 a' _ _ (Nat.succ_ne_self _),⟨⟨_,z⟩,s1'⟩,fun c hc=>?_,q⟩
   simp only [bh5,bi8,bn7] at hc
   rcases hc with rfl | rfl
   ·exact I1.fpOk (bu2 _ _) (fresh 1)
   ·exact I1.fpOk (bh1 _) (fresh 0)
end
end L2
namespace Zp
open PySem PyProof.Rows
theorem aM8 (t b:Addr) (xs ys:Array Value) (n n2:Nat) (dd dd2:Option Addr) (sl sl2:Array (Option Value)) (hx:xs.isEmpty=true):Meets (Builtin.«tuple.__add__» ⟨[.ref t,.ref b],[]⟩)
  (fun _ R s=>s.heap.get? t=some { cls:=.type "tuple",dict:=dd,data:=.seq xs n,slots:=sl }/\s.heap.get? b=some { cls:=.type "tuple",dict:=dd2,data:=.seq ys n2,slots:=sl2 }/\R (.ok (.ret (.ref b))) s):=
 .of_wp fun prog w A R s h=>by
  obtain ⟨h1,h2,h⟩:=h
  have sub:isSubtype (Value.type "tuple") (Value.type "tuple")=pure true:=rfl
  wp_walk
  exact⟨_,rfl,h⟩
end Zp
namespace L2
open PySem PySem.Spec PyProof.Rows
section
variable {X : Cx}
def U2 (K:PySem.W.Frag):R2:=fun x y H Q=>∃ a b xs ys,x = .ref a/\y = .ref b/\aF K H a xs/\aF K H b ys/\xs.length+ys.length<=sizeLine/\
 (xs = []->Q (.ref b) H)/\(xs ≠ []->ys = []->Q (.ref a) H)/\(xs ≠ []->ys ≠ []->∀ p,H p=none->Q (.ref p) (upd H p (.tup (xs ++ ys))))
theorem aM9:bN X (binaryOp .Add) (U2 X.K):=by
 intro pins s σ H x y v u Q I rx ry h
 obtain ⟨a,b,xs,ys,ex,ey,ha,hb,hz,q0,q1,q2⟩:=h
 by_cases hx:xs = []
 ·subst ex ey
  cases rx
  cases ry
  obtain ⟨its,r1,p1,_⟩:=I.tuple ha
  obtain ⟨its2,r2,p2,_⟩:=I.tuple hb
  have hi:its = []:=r1.nil_iff.mpr hx
  obtain ⟨⟨cls,dd,data,sl⟩,ho,hc,n,hd⟩:=id p1
  obtain ⟨⟨cls2,dd2,data2,sl2⟩,ho2,hc2,n2,hd2⟩:=id p2
  simp only at hc hd hc2 hd2
  subst hc hd hc2 hd2
  exact concat_meets ⟨_,ho,rfl⟩ ⟨_,ho2,rfl⟩ noFill_tuple_add seq_tuple_add PySem.F.slot_tuple_add PySem.F.entry_tuple_add (PySem.F.args_tuple_add_2 _ _)
   (Zp.aM8 a b its.toArray its2.toArray n n2 dd dd2 sl sl2 (by simp [hi])) ⟨ho,ho2,⟨.ref b,H,I,rfl,q0 hx⟩⟩
 ·exact ao7 pins s σ H x y v u Q I rx ry ⟨a,b,xs,ys,ex,ey,ha,hb,hx,hz,q1 hx,q2 hx⟩
end
end L2
namespace PP
open PySem L2 PyProof.Rows
def iT (xs:List PV):List PV:=xs.mapIdx fun i x=>PV.tup [.int (i:Int),x]
theorem kR (xs:List PV):(iT xs).length=xs.length:=by unfold iT; rw [List.length_mapIdx]
theorem U3 {xs:List PV}{i:Nat}{x:PV} (h:xs[i]? = some x):(iT xs)[i]? = some (.tup [.int (i:Int),x]):=by
 unfold iT; rw [List.getElem?_mapIdx,h]; rfl
theorem wY {xs:List PV}{i:Nat}{z:PV} (h:(iT xs)[i]? = some z):∃ x,xs[i]? = some x/\z = .tup [.int (i:Int),x]:=by
 unfold iT at h
 rw [List.getElem?_mapIdx] at h
 cases e:xs[i]? with
 | none=>rw [e] at h; cases h
 | some x=>rw [e] at h; exact⟨x,rfl,(bj7 h).symm⟩
def oH (te:aE):dP:=fun ρ Q=>te ρ fun x g=>∃ xs,(x = .lst xs ∨ x = .tup xs)/\(g = .rd->flat x=true)/\Q (iT xs) (pX g xs)
theorem aN0 {K:PySem.W.Frag}{H0:Hp}{W:Addr->Prop}{g:Bool}{H1:Hp}{a:Addr}{us:List V}{xs:List PV} (tw:∀ a,W a->∃ o,H1 a=some o/\eS o=true) (ha:∀ W' H',Ev W H1 W' H'->aI K H' a us) (r:Reps K (Ms H0 W g) H1 us xs):jE K H0 W g H1 (wW K a) (iT xs):=by
 have lr:=r.length
 have ll:=kR xs
 refine⟨fun W' H' i e hi=>⟨us,us[i]'(by omega),ha W' H' e,by simp⟩,fun W' H' i v H2 e y hi=>?_,fun W' H' e=>⟨us,ha W' H' e,by omega⟩⟩
 obtain ⟨T,x,hT,rfl,rfl,y⟩:=y
 obtain ⟨z,hz,rz⟩:=r.get (y us (ha W' _ e))
 have sm:=aZ hT (HO.tup [.int (i:Int),x])
 exact⟨sm,_,U3 hz,.tup b8 (.cons (.int _) (.cons ((rz.keep (e.keep tw)).same sm fun _ q=>q) .nil))⟩
theorem aN1 {K:PySem.W.Frag}{H0:Hp}{W:Addr->Prop}{g:Bool}{H1:Hp}{a:Addr}{us:List V}{xs:List PV} (tw:∀ a,W a->∃ o,H1 a=some o/\eS o=true) (ha:∀ W' H',Ev W H1 W' H'->aF K H' a us) (r:Reps K (Ms H0 W g) H1 us xs):jE K H0 W g H1 (wX K a) (iT xs):=by
 have lr:=r.length
 have ll:=kR xs
 refine⟨fun W' H' i e hi=>⟨us,us[i]'(by omega),ha W' H' e,by simp⟩,fun W' H' i v H2 e y hi=>?_,fun W' H' e=>⟨us,ha W' H' e,by omega⟩⟩
 obtain ⟨T,x,hT,rfl,rfl,y⟩:=y
 obtain ⟨z,hz,rz⟩:=r.get (y us (ha W' _ e))
 have sm:=aZ hT (HO.tup [.int (i:Int),x])
 exact⟨sm,_,U3 hz,.tup b8 (.cons (.int _) (.cons ((rz.keep (e.keep tw)).same sm fun _ q=>q) .nil))⟩
section
variable {X : Cx} {σ : L2.St} {H : Hp} {te : aE} {R : It → Hp → Prop}
theorem aN2 (h:LI X (oH te) σ H R):U1 X.K (i6 (LE X te) jW) σ H R:=by
 obtain ⟨W,ρ,Q,px,q,k⟩:=h
 refine⟨W,ρ,_,px,q,?_⟩
 rintro v H1 x g s r ⟨xs,hx,hg,q⟩
 have px1:=px.mono s
 have tw:∀ a,W a->∃ o,H1 a=some o/\eS o=true:=fun a z=>(px1.wm a z).2
 rcases hx with rfl | rfl
 ·obtain ⟨a,us,rfl,m,h,r⟩:=r.sqL
  have wa : ¬ W a:=by
   cases g with
   | fr=>exact (px.new m).1
   | nw=>exact m.1
   | sh=>exact m
   | rd=>have:=hg rfl; unfold flat at this; cases this
  exact⟨a,rfl,.inl ⟨us,aI.of h,k _ _ _ _ s (aN0 tw (fun W' H' e=>aI.of (e _ _ h wa).1) (lD px (fun z=>by have:=hg z; unfold flat at this; cases this) r)) q⟩⟩
 ·obtain ⟨a,us,rfl,h,r⟩:=r.sqT
  refine⟨a,rfl,.inr ⟨us,aF.of h,k _ _ _ _ s (aN1 tw (fun W' H' e=>aF.of (e _ _ h fun z=>?_).1) (lD px (fun z=>by have:=hg z; unfold flat at this; exact this) r)) q⟩⟩
  obtain ⟨o,h',mu⟩:=tw _ z; rw [h] at h'; cases h'; cases mu
theorem wZ {elts:List Expr}{kt:Nat}{pt p2 pos:Pos}{a:Expr}{ta:aE} (hg:Gl X "enumerate") (hm:X.mg "enumerate" = none) (ha:QE X a ta) (hs:starEach [a] X.env = [(false,eval a X.env)]:=by rfl):QI X (.Tuple elts kt pt) (.Call (.Name "enumerate" p2) [a] [] pos) (oH ta):=
 nR (aM7 hg hm (dX ha fE hs) hs) fun _ _ _=>aN2
end
section
variable {X : Cx} {e : Expr} {te : aE} {pos p2 : Pos} {scope : Scope} {N : List Str} {fr : List (Option Nat)} {x y : Str} {tp xp yp : Pos} {kt : Nat} {iter elt : Expr} {ti : dP}
abbrev m9 (x y:Str) (xp yp:Pos) (kt:Nat) (tp:Pos):Expr:=.Tuple [.Name x xp,.Name y yp] kt tp
theorem U4 {ifs:List Expr}{tcs:cA} (hc:X.calm=true) (he:∀ (s:Shared) (H:Hp) (C:Addr) (fp:List Addr),QE (bI X scope N s H C fp cH) elt te) (hi:∀ (s:Shared) (H:Hp) (C:Addr) (fp:List Addr),j7 (bI X scope N s H C fp cH) ifs (LT (bI X scope N s H C fp cH) tcs))
  (hN:N.Nodup) (h0:N[0]? = some x) (h1:N[1]? = some y) (hl:∀ (s:Shared) (H:Hp) (C:Addr) (fp:List Addr),(bI X scope N s H C fp cH).env.scope.names.lookup x=some .local) (hl2:∀ (s:Shared) (H:Hp) (C:Addr) (fp:List Addr),(bI X scope N s H C fp cH).env.scope.names.lookup y=some .local) (s:Shared) (H:Hp) :
  l6 X scope N (m9 x y xp yp kt tp) ifs elt s H (mM X.K 2 (i5 (dA 0) (i5 (dA 1) mL))) (LT (X.frm H) tcs) (LE (X.frm H) te):=
 ⟨fun C fp=>tE (X:=bI X scope N s H C fp cH) hc (kY (i4 hN h0 (.inl (hl s H C fp)) (.inr (hl s H C fp))) (kY (i4 hN h1 (.inl (hl2 s H C fp)) (.inr (hl2 s H C fp))) tD)),fun C fp=>hi s H C fp,fun C fp=>he s H C fp⟩
theorem U5 (hi:QI X (m9 x y xp yp kt tp) iter ti) (he:∀ (s:Shared) (H:Hp) (C:Addr) (fp:List Addr),QE (bI X scope N s H C fp cH) elt te)
  (hc:X.calm=true:=by rfl) (S:cZ X scope N fr:=by exact cZ.of rfl rfl) (hN:N.Nodup:=by decide +kernel) (h0:N[0]? = some x:=by rfl) (h1:N[1]? = some y:=by rfl) (hl:∀ (s:Shared) (H:Hp) (C:Addr) (fp:List Addr),(bI X scope N s H C fp cH).env.scope.names.lookup x=some .local:=by intro _ _ _ _; rfl) (hl2:∀ (s:Shared) (H:Hp) (C:Addr) (fp:List Addr),(bI X scope N s H C fp cH).env.scope.names.lookup y=some .local:=by intro _ _ _ _; rfl) (hf:fr[0]? = some none:=by rfl) (hf2:fr[1]? = some none:=by rfl)
  (hs:∀ x,foldedSetIterable iter X.env x=pure x:=by intro _; rfl):QE X (.ListComp elt [⟨m9 x y xp yp kt tp,iter,[],0⟩] scope pos) (cP ti fr (jH 0 1) e9 te):=
 bZ (uL (gh:=fun _=>mM X.K 2 (i5 (dA 0) (i5 (dA 1) mL))) (tch:=fun H=>LT (X.frm H) e9) (teh:=fun H=>LE (X.frm H) te) hc S hi (U4 hc he (fun _ _ _ _=>M9) hN h0 h1 hl hl2) hs) fun _ _ _=>nN (vF _ 0 1) (fun i e=>by rcases e with e | e <;> (subst e; assumption))
theorem aN3 {c:Expr}{tcs:cA}{i:Nat}{z:Str}{zp:Pos} (nd:X.N.Nodup) (hi:QI X (m9 x y xp yp kt tp) iter ti) (ht:∀ (s:Shared) (H:Hp) (C:Addr) (fp:List Addr),QT (bI X scope N s H C fp cH) c tcs) (he:∀ (s:Shared) (H:Hp) (C:Addr) (fp:List Addr),QE (bI X scope N s H C fp cH) elt te)
  (hz:X.N[i]? = some z:=by rfl) (hzl:X.env.scope.names.lookup z=some .local:=by rfl) (hsw:swapsWith (.ListComp elt [⟨m9 x y xp yp kt tp,iter,[c],0⟩] scope p2) (some (.Name z zp)) pos.line X.env=pure true:=by rfl)
  (hc:X.calm=true:=by rfl) (S:cZ X scope N fr:=by exact cZ.of rfl rfl) (hN:N.Nodup:=by decide +kernel) (h0:N[0]? = some x:=by rfl) (h1:N[1]? = some y:=by rfl) (hl:∀ (s:Shared) (H:Hp) (C:Addr) (fp:List Addr),(bI X scope N s H C fp cH).env.scope.names.lookup x=some .local:=by intro _ _ _ _; rfl) (hl2:∀ (s:Shared) (H:Hp) (C:Addr) (fp:List Addr),(bI X scope N s H C fp cH).env.scope.names.lookup y=some .local:=by intro _ _ _ _; rfl) (hf:fr[0]? = some none:=by rfl) (hf2:fr[1]? = some none:=by rfl)
  (hs:∀ x,foldedSetIterable iter X.env x=pure x:=by intro _; rfl):QS X (.Assign [.Name z zp] (.ListComp elt [⟨m9 x y xp yp kt tp,iter,[c],0⟩] scope p2) pos) (bM i (cP ti fr (jH 0 1) tcs te)):=
 dQ (B9 (gh:=fun _=>mM X.K 2 (i5 (dA 0) (i5 (dA 1) mL))) (tch:=fun H=>LT (X.frm H) tcs) (teh:=fun H=>LE (X.frm H) te) hc S hi (U4 hc he (fun s H C fp=>uG (ht s H C fp)) hN h0 h1 hl hl2) nd hz hzl hsw hs) fun D σ H h=>nN (vF _ 0 1) (fun i e=>by rcases e with e | e <;> (subst e; assumption)) (v7 h)
end
section
variable {X : Cx} {a b e o f : Expr} {ta tb te td tk tx : aE} {pos p2 apos cpos : Pos} {σ : L2.St} {H : Hp} {Q' : VK}
def U6:PV->Tg->PV->Tg->PK->Prop:=fun x _ y _ Q=>∃ xs n,x = .lst xs/\y = .int n/\flats xs=true/\-1000000<=n/\n<=1000000/\xs.length<=10/\Q (.lst (List.replicate n.toNat xs).flatten) .fr
abbrev U7 (ta tb:aE):aE:=q2 U6 ta tb
theorem aN4:dC X U6 A2:=by
 rintro W Hs H u v x y g g' Q Q' s n r1 r2 ⟨xs,m,rfl,rfl,f,h1,h2,hl,q⟩ k
 cases r2
 obtain ⟨a,us,rfl,mm,h,r⟩:=r1.sqL
 have lr:=r.length
 refine⟨a,m,us,rfl,rfl,h,by omega,by omega,lim ?_,fun p hp=>k _ _ _ .fr (aZ hp _) (.lst (s.free hp) b8 (((r.flat f).rep m.toNat).same (aZ hp _) fun _ z=>z)) q⟩
 have h3:us.length<=10:=by omega
 have h4:m.toNat<=1000000:=by omega
 calc us.length * m.toNat<=10 * 1000000:=Nat.mul_le_mul h3 h4
  _<=16000000:=by decide
theorem aN5 (ha:QE X a ta) (hb:QE X b tb):QE X (.BinOp a .Mult b pos) (U7 ta tb):=gT aq5 aN4 ha hb
theorem rJ {x:Str}{n:Int}{t:Nat} (hg:Gl X x) (hm:X.mg x=some (.int n t)) (hd:(x == ("__debug__" : Str))=false:=by decide):QE X (.Name x pos) (qC (.int n)):=
 bZ (ah3 (v:=.int n) hg hm ⟨t,rfl⟩ hd) fun _ _ _=>nG fun _=>.int n
end
section
variable {X : Cx} {a b : Expr} {ta tb : aE} {pos : Pos}
def U8:PV->Tg->PV->Tg->PK->Prop:=fun x _ y _ Q=>∃ xs ys,x = .tup xs/\y = .tup ys/\flats xs=true/\flats ys=true/\xs.length+ys.length<=16000000/\Q (.tup (xs ++ ys)) .fr
abbrev U9 (ta tb:aE):aE:=q2 U8 ta tb
theorem aN6:dC X U8 (U2 X.K):=by
 rintro W Hs H u v x y g g' Q Q' s n r1 r2 ⟨xs,ys,rfl,rfl,f1,f2,hl,q⟩ k
 obtain ⟨a,us,rfl,h1,q1⟩:=r1.sqT
 obtain ⟨b,ws,rfl,h2,q2⟩:=r2.sqT
 have l1:=q1.length
 have l2:=q2.length
 refine⟨a,b,us,ws,rfl,rfl,aF.of h1,aF.of h2,lim (by omega),fun z=>?_,fun _ z=>?_,fun _ _ p hp=>k _ _ _ .fr (aZ hp _) (.tup b8 (((q1.flat f1).append (q2.flat f2)).same (aZ hp _) fun _ z=>z)) q⟩
 ·obtain rfl:xs = []:=by cases xs with
   | nil=>rfl
   | cons _ _=>rw [z] at l1; cases l1
  exact k _ _ _ .fr (aD.refl _) (.tup h2 (q2.flat f2)) q
 ·obtain rfl:ys = []:=by cases ys with
   | nil=>rfl
   | cons _ _=>rw [z] at l2; cases l2
  rw [bk6] at q
  exact k _ _ _ .fr (aD.refl _) (.tup h1 (q1.flat f1)) q
theorem aN7 (ha:QE X a ta) (hb:QE X b tb):QE X (.BinOp a .Add b pos) (U9 ta tb):=gT aM9 aN6 ha hb
end
end PP
namespace Core
open PySem L2 PP
section
variable (ws : List Int) (ls : List (Int × Int)) (os ns : List Int)
def fL:Nat->List Int
 | 0=>[]
 | k+1=>fL k ++ (os.find? (kin ws ls (ns ++ fL k))).toList
def oI (k:Nat):Option Int:=os.find? (kin ws ls (ns ++ fL ws ls os ns k))
end
section
variable {ws : List Int} {ls : List (Int × Int)} {os ns : List Int}
theorem aN8 {k:Nat}{h:Int} (e:oI ws ls os ns k=some h):fL ws ls os ns (k+1)=fL ws ls os ns k ++ [h]:=by
 show fL ws ls os ns k ++ (oI ws ls os ns k).toList=_
 rw [e]; rfl
theorem aN9 {S T:List Int}{h:Int} (hk:kin ws ls S h=true) (st:∀ x ∈ S,x ∈ T) (hn:h ∉ T):kin ws ls T h=true:=by
 unfold kin at hk ⊢
 rw [bk5] at hk ⊢
 refine⟨by rw [bh3 hn]; rfl,bi2 ?_⟩
 have h1:=bq9 hk.2
 have h2:((aY ls h).filter fun x=>decide (x ∈ S)).length<=((aY ls h).filter fun x=>decide (x ∈ T)).length:=by
  rw [<- List.countP_eq_length_filter,<- List.countP_eq_length_filter]
  exact List.countP_mono_left fun x _ hx=>bi2 (st x (bq9 hx))
 omega
def kS (ws:List Int) (ls:List (Int × Int)) (T:List Int):Prop:=∀ h ∈ rng ws.length,kin ws ls T h=false
theorem V0 {T:List Int} (sh:kS ws ls T) (st:∀ x ∈ ns,x ∈ T):∀ k,∀ x ∈ aW ws ls ns k,x ∈ T
 | 0,x,hx=>st x hx
 | k+1,x,hx=>by
  have ih:=V0 sh st k
  rcases bj9.mp (show x ∈ aW ws ls ns k ++ nextOf ws ls (aW ws ls ns k) from hx) with hx | hx
  ·exact ih x hx
  ·have hx:=bj8.mp hx
   by_cases e:x ∈ T
   ·exact e
   ·have:=aN9 hx.2 ih e
    rw [sh x hx.1] at this; cases this
theorem aO0 (n:Nat):(rng n).Nodup:=T5 n
theorem aO1 {k:Nat}{h:Int} (e:oI ws ls os ns k=some h):h ∈ os/\h ∉ ns ++ fL ws ls os ns k:=
 ⟨List.mem_of_find?_eq_some e,bs6 (wE (List.find?_some e))⟩
theorem aO2 (po:os.Perm (rng ws.length)) (hs:b9 ws.length ns=true):∀ k,(ns ++ fL ws ls os ns k).Nodup/\∀ x ∈ ns ++ fL ws ls os ns k,x ∈ rng ws.length
 | 0=>by
  rw [show fL ws ls os ns 0 = [] from rfl,bk6]
  exact⟨(jM (eG hs).1).imp fun h=>Int.ne_of_lt h,fun x hx=>fB.mpr ((eG hs).2 x hx)⟩
 | k+1=>by
  obtain ⟨i1,i2⟩:=aO2 po hs k
  cases e:oI ws ls os ns k with
  | none=>
   have:fL ws ls os ns (k+1)=fL ws ls os ns k:=by
    show fL ws ls os ns k ++ (oI ws ls os ns k).toList=_
    rw [e]; exact bk6 _
   rw [this]; exact⟨i1,i2⟩
  | some h=>
   obtain ⟨n1,n2⟩:=aO1 e
   rw [aN8 e,<- bj2]
   refine⟨bs1.mpr ⟨i1,bl9 _ _,fun x hx y hy=>?_⟩,fun x hx=>?_⟩
   ·rw [bh6.mp hy]; intro z; subst z; exact n2 hx
   ·rcases bj9.mp hx with hx | hx
    ·exact i2 x hx
    ·rw [bh6.mp hx]; exact po.mem_iff.mp n1
theorem x3 (hs:b9 ws.length ns=true):∀ k,(aW ws ls ns k).Nodup
 | 0=>(jM (eG hs).1).imp fun h=>Int.ne_of_lt h
 | k+1=>by
  show (aW ws ls ns k ++ nextOf ws ls (aW ws ls ns k)).Nodup
  refine bs1.mpr ⟨x3 hs k,(T5 ws.length).filter _,fun x hx y hy=>?_⟩
  intro z; subst z
  exact bs6 (wE (bj8.mp hy).2) hx
end
theorem mB {i:Nat}{h:Int}{g:Bool}{ρ:bE}{Q:bE->Prop} (q:Q (ρ.set i (some (.sh true (.int h))))):bY i (.int h) g ρ Q:=by
 show Q (ρ.set i (some (.sh (g || true) (.int h))))
 rw [Bool.or_true]; exact q
def mC (ns S:List Int):Int:=(ns.length:Int) - (((ns.filter fun x=>decide (x ∈ S)).length:Nat):Int)
def rK:bF:=fun xs Q=>∃ x ns ps S,xs = [x,.dK ps]/\cT x ns/\DS ps S/\ns.length<=10000/\Q (.int (mC ns S))
def V1:aK:=(b7 (qK (aC fJ (a7 (a5 0) aA)) (aC jO (a7 (a5 0) (a7 (a5 1) aA)))))
theorem aO3:cI V1 ["hearths","inside"] rK:=by
 rintro xs Q ⟨x,ns,ps,S,rfl,hx,d,hl,q⟩
 exact⟨_,rfl,_,_,rfl,hx.len,_,rfl,_,rfl,x,ns,ps,S,rfl,hx,d,hl,_,_,rfl,rfl,trivial,q⟩
def jQ (ws:List Int) (ls:List (Int × Int)) (S:List Int) (h:Int):Bool:=decide (mC (aY ls h) S < ws.getD h.toNat 0)
def stay (ws:List Int) (ls:List (Int × Int)) (S:List Int):List Int:=S.filter (jQ ws ls S)
theorem aO4 {n:Nat}{S:List Int} (h:b9 n S=true) (p:Int->Bool):b9 n (S.filter p)=true:=by
 obtain ⟨h1,h2⟩:=eG h
 have u:jP (n:Int) (S.filter p):=⟨(jM h1).filter p,fun x hx=>h2 x (bj8.mp hx).1,by
  have:=m8 h
  have:=bs3 p S
  omega⟩
 exact u.set
def rL:bF:=fun xs Q=>∃ ws ls x S,xs = [bC ws ls,.lst (gJ ws.length ls),x]/\Wb ws ls/\cT x S/\b9 ws.length S=true/\Q (.tup (intz (stay ws ls S)))
def V2:aK:=(aR (bM 3 (aC iQ (a7 (a5 2) aA)))
 (b7 (aC fK (a7 (cP (dJ (a5 2)) [none,some 3,some 1,some 0] (bY 0) (aV (kF (aC rK (a7 (cJ (a5 2) (a5 0)) (a7 (a5 1) aA))) (cJ (cJ (a5 3) (qC (.int 0))) (a5 0)))) (a5 0)) aA))))
theorem aO5:cI V2 ["web","around","block","inside"] rL:=by
 rintro xs Q ⟨ws,ls,x,S,rfl,wb,hx,hs,q⟩
 have few:=wb.few
 have ln:=m8 hs
 have most:=wb.most
 refine⟨_,rfl,x,S,rfl,hx,by omega,fun ps d=>⟨trivial,?_⟩⟩
 refine⟨_,rfl,_,hx.seq,m7 hx,by rw [bW]; omega,fun i acc=>acc=intz ((S.take i).filter (jQ ws ls S)),rfl,?_,?_⟩
 ·rintro i z acc hz rfl
  obtain ⟨h,rfl,hh⟩:=iP hz
  have hm:=(eG hs).2 h (bm3 hh)
  have nl:=pM ls h
  have tk:=o8 (p:=jQ ws ls S) hh
  refine⟨_,rfl,_,rfl,_,_,_,rfl,rfl,S5 hm.1 hm.2,_,rfl,_,aY ls h,ps,S,rfl,.inr rfl,d,by omega,_,rfl,_,_,_,rfl,rfl,rfl,_,rfl,_,_,_,rfl,rfl,wL hm.1 hm.2,_,_,rfl,rfl,_,rfl,?_⟩
  show if jQ ws ls S h=true then _ else _
  cases hk:jQ ws ls S h with
  | true=>
   rw [hk,if_pos rfl] at tk
   refine bB ⟨_,rfl,trivial,?_⟩
   show _=intz (List.filter _ (List.take (i+1) S))
   rw [tk,fU]; rfl
  | false=>
   rw [hk,if_neg (by decide),bk6] at tk
   refine aS ?_
   show _=intz (List.filter _ (List.take (i+1) S))
   rw [tk]
 ·rintro acc rfl
  rw [bW,bo2]
  exact⟨⟨_,_,rfl,rfl,cR _,trivial,q⟩,fun ns z=>by cases z⟩
section
variable {ws : List Int} {ls : List (Int × Int)} {S T : List Int}
theorem V3 {n:Nat}{A B:List Int} (ha:b9 n A=true) (hb:b9 n B=true) (h:∀ x,x ∈ A ↔ x ∈ B):A=B:=by
 have ua:=jM (eG ha).1
 have ub:=jM (eG hb).1
 have p:A.Perm B:=(List.perm_ext_iff_of_nodup (ua.imp fun z=>Int.ne_of_lt z) (ub.imp fun z=>Int.ne_of_lt z)).mpr h
 exact aL2 p (ua.imp fun z=>Int.le_of_lt z) (ub.imp fun z=>Int.le_of_lt z)
end
section
variable {ws : List Int} {ls : List (Int × Int)} {ns : List Int}
def oJ (n:Nat) (S:List Int):List Int:=(rng n).filter fun x=>!decide (x ∈ S)
theorem aO6 {n:Nat}{S:List Int}{x:Int}:x ∈ oJ n S ↔ x ∈ rng n/\x ∉ S:=by
 unfold oJ; rw [bj8]; simp
theorem aO7 (n:Nat) (S:List Int):b9 n (oJ n S)=true:=by
 have u:jP (n:Int) (oJ n S):=⟨by
   refine List.Pairwise.filter _ ?_
   unfold rng
   rw [bl7]
   exact bv7.imp fun h=>by omega,fun x hx=>fB.mp (aO6.mp hx).1,by
   have:=bs3 (fun x=>!decide (x ∈ S)) (rng n)
   rw [fA] at this
   show ((List.filter (fun x=>!decide (x ∈ S)) (rng n)).length:Int)<=_
   omega⟩
 exact u.set
end
end Core
namespace Raw
open PySem PySem.W PyProof.Rows
section
variable {prog : Program} {w : World} {A : Around} {E : Value → Shared → Prop} {s : Shared} {T : String} {r d : Addr} {n : Nat} {P : Nat → Value → Prop} {OK : Heap → Prop}
theorem aO8 {R:Result->Shared->Prop} (K:KdlSrc prog w T r d n P OK) (hh:A.handled=none) (hok:OK s.heap) (hn:n<=sizeLine)
  (hR:∀ h' tk acc c,(∀ b o,b ≠ s.heap.objs.size->(s.heap.push { cls:=.type "list",data:=.seq ([]:List Value).toArray }).get? b=some o->h'.get? b=some o)->h'.get? s.heap.objs.size=some { cls:=.type "list",dict:=none,data:=.seq acc c,slots:=#[] }->ItemsOf P acc n->R (.ok (.ret (.ref s.heap.objs.size))) { s with heap:=h',toks:=tk }) :
  codeAny (model prog w) A (.builtin "proto.collect" ⟨[.ref r],[]⟩) R s:=by
 have lt:=K.there _ hok
 refine bv2 PySem.F.entry_proto_collect ?_
 rw [bt0 PySem.F.plain_proto_collect _]
 show wpAny _ A.in1 (newList [] >>= fun l=>again (.builtin "list.__iadd__" ⟨[l,.ref r],[]⟩)) _ _ s
 refine bg5 (bk7 ?_)
 refine bg8 ⟨plainId_quiet PySem.F.plain_list_iadd _,bv2 PySem.F.entry_list_iadd ?_⟩
 rw [bt0 PySem.F.plain_list_iadd _]
 show wpAny _ A.in1 (Builtin.List.listExtendWith (.ref s.heap.objs.size) (.ref r) (.ref s.heap.objs.size)) _ _ _
 exact kdl_extend (s:={ s with heap:=s.heap.push { cls:=.type "list",data:=.seq ([]:List Value).toArray } }) (R:=R) K hh (K.keep _ _ hok fun b _ o e=>bg7 _ e) s.heap.objs.size (bo0 lt.1) (bo0 lt.2) _ 0 (bh8 _ rfl) hR hn
theorem aO9 {Q:List Value->Shared->Prop} (K:KdlSrc prog w T r d n P OK) (hh:A.handled=none) (hok:OK s.heap) (hn:n<=sizeLine)
  (hQ:∀ h' tk acc,(∀ b o,s.heap.get? b=some o->h'.get? b=some o)->s.heap.objs.size<=h'.objs.size->ItemsOf P acc n->Q acc.toList { s with heap:=h',toks:=tk }) :
  wpAny (model prog w) A (collect (.ref r)) Q E s:=by
 unfold collect
 refine bg5 (wpAny_runValue (aO8 (s:=s) K hh hok hn fun h' tk acc c kp at1 it=>?_))
 show wpAny _ A (load s.heap.objs.size >>= _) _ _ _
 refine bg5 (wpAny_load at1 ?_)
 exact bg8 (hQ h' tk acc (fun b o e=>kp b o (bj5 (bh9 e)) (bg7 _ e)) (bn9 (bh9 at1)) it)
theorem aP0 {Q:Value->Shared->Prop}{G:List Int->Prop} (K:KdlSrc prog w T r d n P OK) (hh:A.handled=none) (hok:OK s.heap) (hn:n < 64)
  (hI:∀ acc,ItemsOf P acc n->∃ ns,IntsAre acc.toList ns/\G ns)
  (h:∀ h' tk a (out:Array Value) (ns ns':List Int) e,(∀ b o,s.heap.get? b=some o->h'.get? b=some o)->s.heap.objs.size<=a->h'.get? a=some (seqObj "list" out e)->IntsAre out.toList ns'->G ns->ns'.Perm ns->ns'.Pairwise (· <= ·)->Q (.ref a) { s with heap:=h',toks:=tk }) :
  wpAny (model prog w) A (call (.builtin "sorted") [.ref r]) Q E s:=by
 have hsl:n<=sizeLine:=bk9 (bn9 hn) (by decide)
 refine Calls.call_function_entry kind_sorted plain_sorted entry_sorted (args_sorted1 _) ?_
 unfold Builtin.«sorted»
 refine bg5 (m:=checkCount "sorted" 1 1 _) (bg8 ?_)
 refine bg5 (aO9 (s:=s) K hh hok hsl fun h' tk acc kp hs it=>?_)
 obtain ⟨ns,hi,g⟩:=hI acc it
 have hz:acc.toList.length < 64:=by rw [bj3,it.1]; exact hn
 refine bg5 (wpAny_newList ?_ (bk9 (bn9 hz) (by decide)))
 have hoL:(h'.push (seqObj "list" acc.toList.toArray 0)).get? h'.objs.size=some (seqObj "list" acc.toList.toArray 0):=bh8 _ rfl
 show wpAny _ _ _ _ _ { s with heap:=h'.push (seqObj "list" acc.toList.toArray 0),toks:=tk }
 refine bg5 (bq4 (bl0 slot_list_sort ⟨_,hoL,rfl⟩ entry_list_sort (list_sort_tree hoL hi hz fun out ns' a1 a2 a3=>⟨_,rfl,?_⟩) (args_list_sort _)))
 obtain ⟨e,he⟩:=sortedHeap_at (vs:=acc.toList) (out:=out) hoL
 refine bg8 ⟨_,rfl,h _ tk h'.objs.size out ns ns' e (fun b o hb=>?_) hs he a1 g a2 a3⟩
 have lt:=bh9 (kp b o hb)
 rw [sortedHeap_old (bj5 lt) (by rw [size_push']; exact bv0 lt)]
 exact bg7 _ (kp b o hb)
end
end Raw
namespace L2
open PySem PySem.Spec PyProof.Rows
section
variable {X : Cx}
theorem aP1 (hc:X.calm=true):cD X (.builtin "sorted") (fun xs H Q=>∃ a kvs ns,xs = [.ref a]/\H a=some (.dK kvs)/\kvs.map (·.1)=ns.map Sum.inl/\ns.length < 64/\∀ l (ms:List Int),H l=none->ms.Perm ns->ms.Pairwise (· <= ·)->Q (.ref l) (upd H l (.lst (ms.map V.int)))):=by
 intro pins s σ H xs us Q I r h
 obtain ⟨a,kvs,ns,rfl,ha,hk,h64,q⟩:=h
 obtain ⟨u,rfl,ru⟩:=dW r
 cases ru
 obtain ⟨es,ep,rd,far,vk,z⟩:=au2 I ha
 have hl:=vk.length
 have hl2:=congrArg List.length hk
 rw [bh2,bh2] at hl hl2
 have hsz:es.toList.length=es.size:=bj3
 have e1:(kvs.map fun p=>kV p.1)=ns.map V.int:=by
  have:(kvs.map fun p=>kV p.1)=(kvs.map (·.1)).map kV:=by rw [bv6]; rfl
  rw [this,hk,bv6]; rfl
 rw [e1] at vk
 refine Raw.aP0 (G:=fun ms=>ms=ns) (Raw.E5 far) (I.ok.hd hc) rd (by omega) (fun acc it=>⟨ns,by rw [E6 it]; exact i8 vk,rfl⟩) fun h' tk l out ns1 ns' e kp hn he a1 g a2 a3=>?_
 subst g
 have hlen:ns'.length=ns1.length:=a2.length_eq
 refine⟨.ref l,upd H l (.lst (ns'.map V.int)),I.laid (t':=tk) kp hn ⟨?_,out.toList,e,p9 a1,by simpa using he⟩,rfl,q _ ns' (I.hok.fresh hn) a2 a3⟩
 rw [bh2,hlen]
 exact bn9 (pB (by omega))
end
end L2
namespace PP
open PySem L2 PyProof.Rows
section
variable {X : Cx} {a b e : Expr} {ta tb te : aE} {tr : cL} {pos p2 : Pos}
def x4:List PV->(PV->Prop)->Prop:=fun xs Q=>∃ (ps:List (a9 × PV)) (ns:List Int),xs = [.dK ps]/\ps.map (·.1)=ns.map Sum.inl/\ns.length < 64/\∀ ms:List Int,ms.Perm ns->ms.Pairwise (· <= ·)->Q (.lst (intz ms))
theorem aP2:dO X x4 (fun xs H Q=>∃ a kvs ns,xs = [.ref a]/\H a=some (.dK kvs)/\kvs.map (·.1)=ns.map Sum.inl/\ns.length < 64/\∀ l (ms:List Int),H l=none->ms.Perm ns->ms.Pairwise (· <= ·)->Q (.ref l) (upd H l (.lst (ms.map V.int)))):=by
 rintro H vs xs Q Q' r ⟨ps,ns,rfl,e,hl,q⟩ k
 obtain ⟨v,rfl,r1⟩:=r.one
 cases r1 with
 | @dK a kvs _ m h e2 r2=>
  exact⟨a,kvs,ns,rfl,h,e2.trans e,hl,fun l ms hl' p o=>k _ _ _ (aZ hl' _) (.lst hl' b8 (Reps.intz ms)) (q ms p o)⟩
theorem aP3 (B:Bt X.mg) (hc:X.calm=true) (ha:QA X [e] tr) (hg:Gl X "sorted":=by rfl) (he:starEach [e] X.env=(false,eval e X.env) :: starEach [] X.env:=by rfl) (hpl:(backTo pos (starEach [] X.env)).any (·.1)=false:=by rfl):QE X (.Call (.Name "sorted" p2) [e] [] pos) (aC x4 tr):=
 gU (aP1 hc) aP2 hg B.sorted PyProof.Rows.boot_sorted ha (he:=he) (hpl:=hpl)
end
end PP
namespace Core
open PySem L2 PP
def fW (k:Nat) (r:List Int):List (a9 × PV):=r.map fun h=>((Sum.inl h:a9),PV.int (k:Int))
def iU (rs:List (List Int)):List (a9 × PV):=(rs.mapIdx fW).flatten
theorem aP4 (rs:List (List Int)) (r:List Int):iU (rs ++ [r])=iU rs ++ fW rs.length r:=by
 unfold iU
 rw [List.mapIdx_append,List.flatten_append]
 simp
theorem V4 (k:Nat) (r:List Int):(fW k r).map (·.1)=r.map Sum.inl:=by
 unfold fW; rw [bv6]; rfl
theorem V5:∀ (rs:List (List Int)) (g:Nat->Nat),((rs.mapIdx fun i r=>fW (g i) r).flatten).map (·.1)=rs.flatten.map (Sum.inl:Int->a9)
 | [],_=>rfl
 | r :: t,g=>by
  rw [List.mapIdx_cons,br9,br9,bj4,bj4,V4,V5 t fun i=>g (i+1)]
theorem V6 (rs:List (List Int)):(iU rs).map (·.1)=rs.flatten.map (Sum.inl:Int->a9):=V5 rs fun i=>i
theorem aP5 {ps:List (a9 × PV)}{h:Int}{v:PV}{S:List Int} (e:ps.map (·.1)=S.map Sum.inl) (hn:h ∉ S):cG ps (Sum.inl h:a9) v=ps ++ [(Sum.inl h,v)]:=by
 unfold cG
 rw [if_neg]
 intro z
 rw [List.any_eq_true] at z
 obtain ⟨p,hp,hq⟩:=z
 have:p.1 ∈ ps.map (·.1):=bl4.mpr ⟨p,hp,rfl⟩
 rw [e,bq9 hq] at this
 obtain ⟨y,hy,e2⟩:=bl4.mp this
 exact hn (Sum.inl.inj e2 ▸ hy)
theorem aP6 {k:Nat}{r:List Int}{i:Nat}{n:Int} (h:r[i]? = some n):fW k (r.take (i+1))=fW k (r.take i) ++ [(Sum.inl n,PV.int (k:Int))]:=by
 unfold fW
 rw [bm8,h,bj4]; rfl
end Core
namespace L2
open PySem PySem.Spec PyProof.Rows
section
variable {X : Cx}
theorem aP7 (hc:X.calm=true):cD X (.builtin "any") (fun xs H Q=>∃ (a:Addr) (bs:List Bool),xs = [.ref a]/\aI X.K H a (bs.map V.bl)/\Q (.bl (bs.any id)) H):=by
 intro pins s σ H xs us Q I r h
 obtain ⟨a,bs,rfl,hq,q⟩:=h
 obtain ⟨u,rfl,ru⟩:=dW r
 cases ru
 obtain ⟨its,rv,p,hz⟩:=I.list hq
 have hl:=rv.length
 rw [bh2] at hl
 have hlt:a < s.heap.objs.size:=by obtain ⟨o,e,_⟩:=p.isList; exact bh9 e
 refine call_any_walk (wpAny_pyIter_list p.isList ?_)
 have hh:X.A.in1.handled=none:=I.ok.hd hc
 refine⟨s.heap.objs.size,_,_,_,_,_,fun i=>bs.getD i false,rfl,Walks.list hh s.heap.objs.size a (bj5 hlt) its.toArray,⟨⟨_,bh8 _ rfl,rfl,rfl⟩,p.isList.push _⟩,?_,fun h' tk kp=>?_⟩
 ·intro i v s' Q' E' hP hQ'
  have hi:its[i]? = some v:=by simpa using hP
  have hil:i < bs.length:=by rw [hl]; exact (bh7.mp hi).1
  obtain ⟨u,e1,e2⟩:=rv.get (i:=i) (x:=.bl bs[i]) (by simp [hil])
  rw [hi] at e1; cases e1
  cases e2
  have:bs.getD i false=bs[i]:=by rw [bh4,bg9 hil]; rfl
  have hQ2:Q' (bs.getD i false) s':=hQ'
  rw [this] at hQ2
  exact br7 hQ2
 ·have any_eq:(List.range its.toArray.size).any (fun i=>bs.getD i false)=bs.any id:=by
   rw [bh0,<- hl]
   clear q rv hz hl hq hlt p hh kp
   induction bs with
   | nil=>rfl
   | cons b r ih=>
    rw [bk2,List.range_succ_eq_map,bv9,List.any_map,bv9,<- ih]
    rfl
  rw [any_eq]
  refine⟨.bl (bs.any id),H,I.kept (t':=tk) (h':=h') fun b o e=>kp b o (fun z=>?_) (bg7 _ e),rfl,q⟩
  rw [bh6.mp z] at e
  exact absurd (bh9 e) (bm1 _)
end
end L2
namespace PP
open PySem L2 PyProof.Rows
section
variable {X : Cx} {a b e : Expr} {ta tb te : aE} {tr : cL} {pos p2 : Pos}
def x5:List PV->(PV->Prop)->Prop:=fun xs Q=>∃ bs:List Bool,xs = [.lst (bs.map PV.bl)]/\Q (.bl (bs.any id))
theorem aP8:dO X x5 (fun xs H Q=>∃ (a:Addr) (bs:List Bool),xs = [.ref a]/\aI X.K H a (bs.map V.bl)/\Q (.bl (bs.any id)) H):=by
 rintro H vs xs Q Q' r ⟨bs,rfl,q⟩ k
 obtain ⟨v,rfl,r1⟩:=r.one
 obtain ⟨a,us,rfl,_,h,r2⟩:=r1.sqL
 obtain rfl:=r2.ofBls
 exact⟨a,bs,rfl,aI.of h,k _ _ _ (aD.refl _) (.bl _) q⟩
theorem aP9 (B:Bt X.mg) (hc:X.calm=true) (ha:QA X [e] tr) (hg:Gl X "any":=by rfl) (he:starEach [e] X.env=(false,eval e X.env) :: starEach [] X.env:=by rfl) (hpl:(backTo pos (starEach [] X.env)).any (·.1)=false:=by rfl):QE X (.Call (.Name "any" p2) [e] [] pos) (aC x5 tr):=
 gU (aP7 hc) aP8 hg B.any PyProof.Rows.boot_any ha (he:=he) (hpl:=hpl)
end
def gX (xs ys:List PV):List PV:=List.zipWith (fun x y=>PV.tup [x,y]) xs ys
theorem x6 (xs ys:List PV):(gX xs ys).length=min xs.length ys.length:=by unfold gX; rw [List.length_zipWith]
theorem V7 {xs ys:List PV}{i:Nat}{x y:PV} (h:xs[i]? = some x) (h':ys[i]? = some y):(gX xs ys)[i]? = some (.tup [x,y]):=by
 unfold gX; rw [List.getElem?_zipWith,h,h']
theorem aQ0 {xs ys:List PV}{i:Nat}{z:PV} (h:(gX xs ys)[i]? = some z):∃ x y,xs[i]? = some x/\ys[i]? = some y/\z = .tup [x,y]:=by
 unfold gX at h
 rw [List.getElem?_zipWith] at h
 cases e:xs[i]? with
 | none=>rw [e] at h; cases h
 | some x=>
  cases e':ys[i]? with
  | none=>rw [e,e'] at h; cases h
  | some y=>rw [e,e'] at h; exact⟨x,y,rfl,rfl,(bj7 h).symm⟩
theorem aQ1 {K:PySem.W.Frag}{H0:Hp}{W:Addr->Prop}{g:Bool}{H1:Hp}{a b:Addr}{us vs:List V}{xs ys:List PV} (tw:∀ a,W a->∃ o,H1 a=some o/\eS o=true) (ha:∀ W' H',Ev W H1 W' H'->aF K H' a us) (hb:∀ W' H',Ev W H1 W' H'->aF K H' b vs)
  (r:Reps K (Ms H0 W g) H1 us xs) (r':Reps K (Ms H0 W g) H1 vs ys):jE K H0 W g H1 (uX K a b) (gX xs ys):=by
 have lr:=r.length
 have lr':=r'.length
 have ll:=x6 xs ys
 refine⟨fun W' H' i e hi=>⟨us,vs,us[i]'(by omega),vs[i]'(by omega),ha W' H' e,hb W' H' e,by simp,by simp⟩,fun W' H' i v H2 e y hi=>?_,fun W' H' e=>⟨us,vs,ha W' H' e,hb W' H' e,by omega⟩⟩
 obtain ⟨T,x,y',hT,rfl,rfl,y⟩:=y
 obtain ⟨h1,h2⟩:=y us vs (ha W' _ e) (hb W' _ e)
 obtain ⟨z,hz,rz⟩:=r.get h1
 obtain ⟨z',hz',rz'⟩:=r'.get h2
 have sm:=aZ hT (HO.tup [x,y'])
 exact⟨sm,_,V7 hz hz',.tup b8 (.cons ((rz.keep (e.keep tw)).same sm fun _ q=>q) (.cons ((rz'.keep (e.keep tw)).same sm fun _ q=>q) .nil))⟩
end PP
namespace Core
open PySem L2 PP
theorem pK {ls:List (Int × Int)}{wts:List Int} (e:wts.length=ls.length):(ls.zip wts).map (·.2)=wts:=by
 rw [List.map_snd_zip]; omega
theorem aQ2 (n:Nat):(rng n).Pairwise (· < ·):=by
 unfold rng
 rw [bl7]
 exact (bv7 (n:=n)).imp fun h=>by omega
theorem aQ3 (n:Nat) (p:Int->Bool):b9 n ((rng n).filter p)=true:=by
 refine jP.set ⟨(aQ2 n).sublist List.filter_sublist,fun x hx=>?_,?_⟩
 ·have:=fB.mp (bj8.mp hx).1
  exact this
 ·have:=bs3 p (rng n)
  rw [fA] at this
  omega
section
variable {ws : List Int} {ls : List (Int × Int)} {ns wts : List Int} {m : Nat}
def loose (ls:List (Int × Int)) (wts ns:List Int):List ((Int × Int) × Int):=(ls.zip wts).filter fun z=>!(decide (z.1.1 ∈ ns) && decide (z.1.2 ∈ ns))
end
end Core
set_option maxHeartbeats 1000000
set_option maxHeartbeats 1000000
set_option maxHeartbeats 1000000
set_option maxHeartbeats 1000000
namespace PP
open PySem L2 PyProof.Rows
abbrev cY:=(Str->Prop)->bF
def EX (K:PySem.W.Frag) (H0:Hp) (Ep:Str->Prop):XK:=fun c d H'=>d=none/\aD H0 H'/\∃ n C,c = .ref C/\PySem.W.nsIn K mainGlobals n=some (some (.ref C))/\Ep n
def V8 (K:PySem.W.Frag) (p:cY):Sp:=fun vs H Q E=>∃ xs Qp Ep,Reps K (fun _=>True) H vs xs/\p Ep xs Qp/\(∀ v H' x,aD H H'->aG K (fun a=>H a=none) H' v x->Qp x->Q v H')/\
 ∀ n C H',aD H H'->PySem.W.nsIn K mainGlobals n=some (some (.ref C))->Ep n->E (.ref C) none H'
structure bD (P:Program) (w:World) (K:PySem.W.Frag) (mg:Str->Option Value) (base:Heap) (k:Nat) (x:Str) (ps:List Str) (p:cY):Prop where
 ex:∃ f fd,cU P w K mg base (dR P w) k f fd ps (V8 K p)/\i7 K fd ps []/\PySem.W.keepIn K (.ref f)=true/\mg x=some (.ref f)
section
variable {X : Cx} {σ : L2.St} {H : Hp} {D : cN} {tr : cL} {Q' : VK} {a b c e : Expr} {es : List Expr} {pos p2 cp np hp : Pos} {t : aK} {te : aE} {tc : cA}
def gK (Ep:Str->Prop) (p:cY) (t:cL):aE:=aC (p Ep) t
theorem V9 {p:cY}{Ep:Str->Prop} (h:LE X (gK Ep p tr) σ H Q'):tO (V8 X.K p) [] (EX X.K X.H₀ Ep) (LA X tr) σ H Q':=by
 obtain ⟨W,ρ,Q,px,q,k⟩:=h
 refine⟨W,ρ,_,px,q,fun vs H1 xs s1 r1 q1=>⟨_,_,Ep,by rw [bk6]; exact r1.any,q1,fun v H' x s2 r2 q2=>k v H' x .fr (s1.trans s2) (r2.same (aD.refl _) fun _ z=>s1.free z) q2,fun n C H' s2 z1 z2=>⟨rfl,(px.same.trans s1).trans s2,n,C,rfl,z1,z2⟩⟩⟩
theorem iV {Ep:Str->Prop}{k j:Nat}{x:Str}{ps:List Str}{p:cY} (hX:m6 X (EX X.K X.H₀ Ep)) (d:bD X.prog X.w X.K X.mg X.base k x ps p) (hr:c9 j X.A) (ha:QA X (e :: es) tr) (hkj:k<=j:=by decide) (hg:Gl X x:=by rfl) (hdb:(x == ("__debug__" : Str))=false:=by decide)
  (he:starEach (e :: es) X.env=(false,eval e X.env) :: starEach es X.env:=by rfl) (hpl:(backTo pos (starEach es X.env)).any (·.1)=false:=by rfl):QE X (.Call (.Name x p2) (e :: es) [] pos) (gK Ep p tr):=by
 obtain ⟨f,fd,F,b,kp,m⟩:=d.ex
 exact bZ (tP F (hr.mono hkj) hg m kp b .nil hX.pass ha hdb he hpl) fun _ _ _=>V9
theorem rM {k j:Nat}{x:Str}{ps:List Str}{p:cY} (d:bD X.prog X.w X.K X.mg X.base k x ps p) (hr:c9 j X.A) (ha:QA X (e :: es) tr) (hkj:k<=j:=by decide) (hg:Gl X x:=by rfl) (hdb:(x == ("__debug__" : Str))=false:=by decide)
  (he:starEach (e :: es) X.env=(false,eval e X.env) :: starEach es X.env:=by rfl) (hpl:(backTo pos (starEach es X.env)).any (·.1)=false:=by rfl):QE X (.Call (.Name x p2) (e :: es) [] pos) (aC (p fun _=>False) tr):=by
 obtain ⟨f,fd,F,b,kp,m⟩:=d.ex
 refine bZ (tP F (E:=EX X.K X.H₀ fun _=>False) (hr.mono hkj) hg m kp b .nil (fun _ _ _ _ _ _ _ h=>?_) ha hdb he hpl) fun _ _ _ h=>V9 (Ep:=fun _=>False) h
 obtain ⟨_,_,_,_,_,_,_,_,_,_,_,_,z⟩:=h
 exact z.elim
def rN (Ep:Str->Prop) (n:Str) (t:cL):aK:=fun _ ρ=>t ρ fun xs=>xs.length<=1000/\Ep n
theorem aQ4 {Ep:Str->Prop}{n:Str}{C:Addr} (hn:PySem.W.nsIn X.K mainGlobals n=some (some (.ref C))) (h:LS X (rN Ep n tr) D σ H):Q0 (EX X.K X.H₀ Ep) C (LA X tr) D σ H:=by
 obtain ⟨W,ρ,D',px,q,k⟩:=h
 exact⟨W,ρ,_,px,q,fun vs H1 xs s1 r z=>⟨by rw [r.length]; exact v5 z.1,rfl,px.same.trans s1,n,C,rfl,hn,z.2⟩⟩
structure Xc (K:PySem.W.Frag) (mg:Str->Option Value) (base:Heap) (n:Str):Prop where
 ex:∃ C B newId initId bm,OwnCls n C bm newId mg base/\ExcBaseFacts B newId initId bm/\PySem.W.nsIn K mainGlobals n=some (some (.ref C))
theorem W0 {Ep:Str->Prop}{n:Str} (hX:m6 X (EX X.K X.H₀ Ep)) (x:Xc X.K X.mg X.base n) (ha:QA X (e :: es) tr) (hc:X.calm=true:=by rfl) (hg:Gl X n:=by rfl) (hd:(n == ("__debug__" : Str))=false:=by decide)
  (he:starEach (e :: es) X.env=(false,eval e X.env) :: starEach es X.env:=by rfl) (hpl:(backTo cp (starEach es X.env)).any (·.1)=false:=by rfl):QS X (.Raise (some (.Call (.Name n np) (e :: es) [] cp)) none pos) (rN Ep n tr):=by
 obtain ⟨C,B,newId,initId,bm,O,FB,hn⟩:=x.ex
 exact dQ (aH4 hX hc O FB ha hg hd he hpl) fun _ _ _=>aQ4 hn
def oX:V->Value
 | .ref a=>.ref a
 | .ty n=>.type n
 | _=>.none
end
structure rO (K:PySem.W.Frag) (C:Addr):Prop where
 cls:PySem.W.isClsIn K C=true
 ty:PySem.W.typeIn K (.ref C)=some (.type "type")
 ga:PySem.W.findIn K (.ref C) "__getattribute__" = some (some (.builtin "BaseException.__getattribute__"))
 gt:PySem.W.findIn K (.ref C) "__getattr__" = some none
 fc:PySem.W.findIn K (.ref C) "__class__" = some (some (.builtin "object.__class__"))
 fg:PySem.W.specialIn K (.builtin "object.__class__") "__get__" = some (some (.builtin "getset_descriptor.__get__"))
 ft:PySem.W.takesIn K (.builtin "object.__class__")=some true
 ob:PySem.W.mroIn K C (.type "object")=some true
 be:PySem.W.mroIn K C (.type "BaseException")=some true
theorem W5 {K:PySem.W.Frag}{h₀:Heap}{mg:Str->Option Value}{x:Str}{C:Addr}{bmB:List Value}{newId:String} (X:K.In h₀) (m:mg x=some (.ref C)) (q:PySem.W.excIn K C bmB newId=true):OwnCls x C bmB newId mg h₀:=by
 refine⟨m,?_⟩
 unfold PySem.W.excIn at q
 split at q
 case h_2=>cases q
 rename_i dd cd sl ho
 split at q
 case h_2=>cases q
 rename_i C' bm k0 k1 k2 k3 n k5 hm hs
 simp only [bk5,beq_iff_eq,Bool.not_eq_true'] at q
 obtain ⟨⟨⟨⟨⟨rfl,rfl⟩,dl⟩,ht⟩,hok⟩,hni⟩:=q
 obtain ⟨nm,bs,mro,ns,qn,hd,sn,sub,ab,col,del⟩:=cd
 dsimp only at hm dl hok hni
 subst hm dl
 obtain rfl:sl = #[k0,k1,k2,k3,some (.builtin n),k5]:=by
  obtain ⟨l⟩:=sl
  exact congrArg Array.mk hs
 exact⟨bm,ns,nm,qn,bs,hd,sn,sub,ab,col,dd,k0,k1,k2,k3,k5,_,X _ _ ho,.of_isNs (PySem.W.isNs_of_in X hok),PySem.W.nsMap_none_of_in X hok hni,PySem.W.tail_of_in X ht⟩
theorem bD.of {P:Program}{w:World}{K:PySem.W.Frag}{mg:Str->Option Value}{base:Heap}{k:Nat}{x:Str}{ps N:List Str}{p:cY}{st:Stmt}{f:Addr}{fd:FuncData} (F:eN K x x st f fd) (m:mg x=some (.ref f)) (S:FnScope N ps (aO st))
  (hb:∀ (kV doc pm:Value) (an:Option Addr) (cdv ct:Value) (us:List Value),us.length=ps.length->bindArgs (PySem.W.fnOf x x (iB st) (dM st) (aO st) .none kV doc pm an cdv ct) ⟨us,[]⟩=pure (ps.zip us))
  (t:(Str->Prop)->aK) (len:∀ Ep xs Q,p Ep xs Q->xs.length=ps.length) (rd:∀ Ep xs Q,p Ep xs Q->t Ep { nx:=fun _=>Q .non,rt:=Q } (eW N xs))
  (body:∀ (cdv:Value) (A:Around) (outer:List Env) (s:Shared) (H:Hp) (E:XK) (Ep:Str->Prop),c9 k (A.deeper (envOfC x (aO st) s.heap.objs.size f cdv))->m6 (cV (dR P w) P w K mg base N x (aO st) f cdv A outer s H E) (EX K H Ep)->
   eC (cV (dR P w) P w K mg base N x (aO st) f cdv A outer s H E) (dM st) (t Ep)):bD P w K mg base (k+1) x ps p:=by
 refine⟨f,fd,F.okX S (fun vs H Q E h=>?_) (fun cdv A outer s H vs Q E hr h=>?_),F.binds hb,F.kp,m⟩
 ·obtain ⟨xs,Qp,Ep,r,q,_⟩:=h
  rw [r.length]; exact len Ep xs Qp q
 ·obtain ⟨xs,Qp,Ep,r,q,k,ke⟩:=h
  have ht:=body cdv A outer s H E Ep hr (aH3 fun c d H' z=>?_)
  ·refine⟨_,ht,fun _=>False,eW N xs,_,vT r,rd Ep xs Qp q,?_,?_,?_,?_⟩
   ·exact fun W' σ' H' ρ' e px q=>k _ _ _ px.same .non q
   ·exact fun v H' x s r q=>k _ _ _ s r q
   ·exact fun W' σ' H' ρ' e px q=>q
   ·exact fun W' σ' H' ρ' e px q=>q
  ·obtain ⟨rfl,s1,n,C,rfl,z1,z2⟩:=z
   exact ke n C H' s1 z1 z2
end PP
namespace Core
open PySem L2 PP
abbrev gY (t:(Str->Prop)->aK) (N:List Str) (p:cY):Prop:=∀ Ep xs Q,p Ep xs Q->t Ep { nx:=fun _=>Q .non,rt:=Q } (eW N xs)
def jR:cY:=fun Ep xs Q=>∃ ws ls x ns,xs = [bC ws ls,x]/\cT x ns/\ns.length<=1000/\(b9 ws.length ns=true->Q (.tup (intz ns)))/\(b9 ws.length ns=false->Ep "BadSet")
def W6 (Ep:Str->Prop):aK:=(aR (cM (jB (aV (aC wI (a7 (a5 0) (a7 (a5 1) aA))))) (rN Ep "BadSet" (a7 (qC (.str "a set is of rising hearths of the web")) aA)) cO)
 (b7 (aC fK (a7 (a5 1) aA))))
theorem aQ5:gY W6 ["web","hearths"] jR:=by
 rintro Ep xs Q ⟨ws,ls,x,ns,rfl,hx,hl,q1,q2⟩
 refine⟨_,rfl,_,rfl,ws,ls,x,ns,rfl,hx,hl,_,rfl,?_⟩
 cases h:b9 ws.length ns with
 | true=>exact aS ⟨_,rfl,⟨_,_,rfl,hx.seqT,cR _,trivial,q1 h⟩,hx.noscr⟩
 | false=>exact bB ⟨by decide,q2 h⟩
end Core
namespace PP
open PySem L2
theorem rP {us:List Value} (h:us.length=1):∃ a,us = [a]:=List.length_eq_one_iff.mp h
theorem x8 {us:List Value} (h:us.length=2):∃ a b,us = [a,b]:=by
 cases us with
 | nil=>cases h
 | cons a r=>
  obtain ⟨b,rfl⟩:=rP (us:=r) (by simpa using h)
  exact⟨a,b,rfl⟩
theorem x9 {us:List Value} (h:us.length=3):∃ a b c,us = [a,b,c]:=by
 cases us with
 | nil=>cases h
 | cons a r=>
  obtain ⟨b,c,rfl⟩:=x8 (us:=r) (by simpa using h)
  exact⟨a,b,c,rfl⟩
theorem W7 {us:List Value} (h:us.length=4):∃ a b c d,us = [a,b,c,d]:=by
 cases us with
 | nil=>cases h
 | cons a r=>
  obtain ⟨b,c,d,rfl⟩:=x9 (us:=r) (by simpa using h)
  exact⟨a,b,c,d,rfl⟩
section
variable {X : Cx} {e : Expr} {tk : aE} {D : cN} {σ : St} {H : Hp} {pos : Pos}
def xA (i:Nat) (tk:aE):aK:=fun D ρ=>∃ ps,ρ[i]? = some (some (.own (.dT ps)))/\tk ρ fun y _=>∃ k,y = .tup (k.map kP)/\(∃ j:Nat,(ps.map (·.1))[j]? = some k)/\∀ j:Nat,(ps.map (·.1))[j]? = some k->D.nx (ρ.set i (some (.own (.dT (ps.eraseIdx j)))))
theorem aQ6 {i:Nat} (h:LS X (xA i tk) D σ H):oQ (Q5 (hZ i) (LE X tk)) D σ H:=by
 obtain ⟨W,ρ,D',px,⟨ps,hi,q⟩,k⟩:=h
 obtain ⟨v,ev,a,rfl,wa,kvs,ea,e1,r⟩:=px.sl i _ hi
 refine⟨_,ev,a,rfl,.inr ⟨kvs,.inl ea⟩,W,ρ,_,px,q,?_⟩
 rintro kv H2 y g s ry ⟨kk,rfl,is,q⟩
 obtain ⟨b,us,rfl,hb,rb⟩:=ry.sqT
 obtain rfl:=qB rb
 have ea2:=s _ _ ea
 refine⟨kvs,kk,b,ea2,rfl,hb,by rw [e1]; exact is,fun j v hj=>?_⟩
 rw [e1] at hj
 refine k.nx W σ _ _ ((Ev.same s).trans (Ev.upd wa)) ((px.mono s).updT hi ev wa ⟨?_,?_⟩) (q j hj)
 ·rw [Raw.kO,Raw.kO,e1]
 ·rw [Raw.kO,Raw.kO]
  exact ((r.same s fun _ z=>z).eraseIdx j).keep (.upd ea2 rfl fun b m=>⟨lC wa m,m⟩)
theorem aQ7 (i:Nat) {x:Str}{apos cpos xpos:Pos} (hu:X.A.units+1 < cLine) (he:QE X e tk) (hm:M1 X (.Name x xpos) "pop" apos e cpos:=by exact⟨rfl,rfl,rfl,rfl⟩) (hN:X.N[i]? = some x:=by rfl) (hv:fZ X.env.scope x:=by first | exact Or.inl rfl | exact Or.inr (Or.inl rfl) | exact Or.inr (Or.inr rfl)) (hd:(x == ("__debug__" : Str))=false:=by decide) (hcd:(x == ("__classdict__" : Str))=false:=by decide)
  (hsw:swapsWith (.Call (.Attribute (.Name x xpos) "pop" apos) [e] [] cpos) none pos.line X.env=pure false:=by rfl):QS X (.Expr (.Call (.Attribute (.Name x xpos) "pop" apos) [e] [] cpos) pos) (xA i tk):=
 dQ (mK (aH8 hu (iY hN hv hd hcd) he hm) hsw) fun _ _ _=>aQ6
end
end PP
namespace Core
open PySem L2 PP
def gZ:bF:=fun xs Q=>∃ c k:Int,xs = [.int c,.int k]/\0<=k/\k<=1000/\∀ z:Int,0<=z->Q (.int z)
def W8:aK:=(aR (bM 2 (dD (vK (kE (kE (dD (a5 0) (qC (.int 1000000007))) (vK (a5 1) (a5 1))) (qC (.int 1))) (qC (.int 48271))) (qC (.int 2147483647))))
 (b7 (iI (dD (vK (a5 2) (a5 2)) (qC (.int 2147483647))) (qC (.int 8)))))
theorem aQ8:cI W8 ["cell","k","turn"] gZ:=by
 rintro xs Q ⟨c,k,rfl,k0,k1,q⟩
 refine⟨_,rfl,_,_,rfl,rfl,(by show (0:Int) < 1000000007; decide),_,rfl,_,rfl,_,_,rfl,rfl,.inl ⟨by show -(2 ^ 64) < k; omega,by show k < 2 ^ 64; omega⟩,_,_,rfl,rfl,_,_,rfl,rfl,_,_,rfl,rfl,.inr ⟨by decide,by decide⟩,_,_,rfl,rfl,(by show (0:Int) < 2147483647; decide),trivial,?_⟩
 dsimp only
 have t0:0<=(c % 1000000007+k * k+1) * 48271 % 2147483647:=bv3 _ (by decide)
 have t1:(c % 1000000007+k * k+1) * 48271 % 2147483647 < 2147483647:=bu3 _ (by decide)
 generalize (c % 1000000007+k * k+1) * 48271 % 2147483647=t at t0 t1
 refine⟨_,rfl,_,rfl,_,_,rfl,rfl,.inl ⟨by show -(2 ^ 64) < t; omega,by show t < 2 ^ 64; omega⟩,_,_,rfl,rfl,(by show (0:Int) < 2147483647; decide),_,_,rfl,rfl,⟨by decide,by decide⟩,trivial,q _ ?_⟩
 have:=bv3 (t * t) (show (2147483647:Int) ≠ 0 by decide)
 omega
abbrev DK (n:Int) (ps:List (List a9 × PV)):Prop:=DL n ps ps.length
theorem DL.dk {n:Int}{ps:List (List a9 × PV)}{i:Nat} (h:DL n ps i):DK n ps:=⟨h.key,bh1 _,h.fl,h.nd⟩
theorem DK.nil (n:Int):DK n []:=⟨(fun _ h=>nomatch h),bh1 _,rfl,.nil⟩
theorem rQ:∀ (m:Nat) (l:List Nat),l.Nodup->(∀ x ∈ l,x < m)->l.length<=m
 | 0,[],_,_=>bh1 _
 | 0,x :: _,_,h=>absurd (h x bi0) (bx0 _)
 | m+1,l,nd,h=>by
  by_cases hm:m ∈ l
  ·have h1:=rQ m (l.erase m) (nd.erase m) fun x hx=>by
    obtain ⟨h2,h3⟩:=(nd.mem_erase_iff).mp hx
    have:=h x h3
    omega
   rw [List.length_erase_of_mem hm] at h1
   omega
  ·have h1:=rQ m l nd fun x hx=>by
    have:=h x hx
    have:x ≠ m:=fun z=>hm (z ▸ hx)
    omega
   omega
theorem fV.seqTF {x:PV}{ns:List Int} (h:fV x ns):seqT x=some (intz ns):=by rcases h with rfl | rfl <;> rfl
theorem DK.put {n:Int}{ps:List (List a9 × PV)} (h:DK n ps) (l:Int × Int) (hl:0<=l.1/\l.1 < l.2/\l.2 < n):DK n (cG ps (fC l) (.bl true)):=(DL.put h l hl).dk
theorem DK.cut {n:Int}{ps:List (List a9 × PV)} (h:DK n ps) (j:Nat):DK n (ps.eraseIdx j):=
 ⟨fun p hp=>h.key p (List.mem_of_mem_eraseIdx hp),bh1 _,by
  rw [Raw.kO]
  have:∀ (j:Nat) {xs:List PV},flats xs=true->flats (xs.eraseIdx j)=true:=by
   intro j
   induction j with
   | zero=>
    intro xs h
    cases xs with
    | nil=>rfl
    | cons x r=>unfold flats at h; rw [bk5] at h; exact h.2
   | succ j ih=>
    intro xs h
    cases xs with
    | nil=>rfl
    | cons x r=>
     unfold flats at h
     rw [bk5] at h
     show (flat x && flats (r.eraseIdx j))=true
     rw [h.1,ih h.2]; rfl
  exact this j h.fl,(h.nd).sublist ((List.eraseIdx_sublist ps j).map _)⟩
def rR:bF:=fun xs Q=>∃ c n:Int,xs = [.int c,.int n]/\0<=n/\n<=40/\∀ S,b9 n.toNat S=true->Q (.tup (intz S))
def W9:aK:=(aR (cM (aV (gS (dD (a5 0) (qC (.int 2))) (qC (.int 1)))) (b7 (aC fK (a7 (cP (jF (a5 1)) [none,some 0] (bY 0) (aV (gS (dD (aB7 (a5 1) (kE (a5 0) (qC (.int 1)))) (qC (.int 2))) (qC (.int 1)))) (a5 0)) aA))) cO)
 (b7 (aC fK (a7 (cP (jF (a5 1)) [none,some 0] (bY 0) (aV (kF (dD (aC gZ (a7 (a5 1) (a7 (a5 0) aA))) (qC (.int 8))) (kE (qC (.int 1)) (dD (iI (a5 1) (qC (.int 2))) (qC (.int 7)))))) (a5 0)) aA))))
def hG (i:Nat) (S:List Int):Prop:=S.Pairwise (· < ·)/\∀ x ∈ S,0<=x/\x < (i:Int)
theorem hG.more {i:Nat}{S:List Int} (h:hG i S):hG (i+1) S:=⟨h.1,fun x hx=>by have:=h.2 x hx; omega⟩
theorem hG.app {i:Nat}{S:List Int} (h:hG i S):hG (i+1) (S ++ [(0:Int)+(i:Int)]):=by
 refine⟨bn1.mpr ⟨h.1,bl9 _ _,fun a ha b hb=>?_⟩,fun x hx=>?_⟩
 ·rw [bh6.mp hb]
  have:=h.2 a ha
  omega
 ·rcases bj9.mp hx with hx | hx
  ·have:=h.2 x hx; omega
  ·rw [bh6.mp hx]; omega
theorem hG.set {i:Nat}{S:List Int} (h:hG i S):b9 i S=true:=by
 unfold b9
 rw [wC h.1,Bool.true_and,bp7]
 intro b hb
 obtain ⟨x,hx,rfl⟩:=bl4.mp hb
 have:=h.2 x hx
 unfold inB
 simp only [id,bk5,bj6]
 exact this
theorem aQ9:cI W9 ["cell","many"] rR:=by
 rintro xs Q ⟨c,n,rfl,n0,n1,q⟩
 refine⟨_,rfl,_,_,rfl,rfl,(by show (0:Int) < 2; decide),.inl ⟨_,_,rfl,rfl,_,rfl,?_⟩⟩
 cases h1:(if false=true then !decide (c % 2=1) else decide (c % 2=1)) with
 | true=>
  refine bB ⟨_,rfl,n,rfl,by omega,by omega,by rw [e8]; omega,fun i acc=>∃ S,acc=intz S/\hG i S,⟨[],rfl,.nil,fun _ h=>nomatch h⟩,?_,?_⟩
  ·rintro i y acc hy ⟨S,rfl,hS⟩
   obtain ⟨rfl,hi⟩:=jN hy
   refine⟨_,rfl,_,rfl,_,_,rfl,rfl,_,_,rfl,rfl,(by show (0:Int)<=0+(i:Int)+1; omega),_,_,rfl,rfl,(by show (0:Int) < 2; decide),.inl ⟨_,_,rfl,rfl,_,rfl,?_⟩⟩
   dsimp only
   generalize (if false=true then _ else _)=b
   cases b with
   | true=>exact bB ⟨_,rfl,trivial,S ++ [(0:Int)+(i:Int)],by rw [fU]; rfl,hS.app⟩
   | false=>exact aS ⟨S,rfl,hS.more⟩
  ·rintro acc ⟨S,rfl,hS⟩
   rw [e8] at hS
   exact⟨⟨_,_,rfl,rfl,cR _,trivial,q S hS.set⟩,fun ns z=>by cases z⟩
 | false=>
  refine aS ⟨_,rfl,n,rfl,by omega,by omega,by rw [e8]; omega,fun i acc=>∃ S,acc=intz S/\hG i S,⟨[],rfl,.nil,fun _ h=>nomatch h⟩,?_,?_⟩
  ·rintro i y acc hy ⟨S,rfl,hS⟩
   obtain ⟨rfl,hi⟩:=jN hy
   refine⟨_,rfl,_,rfl,c,_,rfl,by omega,by omega,fun z z0=>⟨_,_,rfl,rfl,(by show (0:Int) < 8; decide),_,rfl,_,_,rfl,rfl,⟨by decide,by decide⟩,_,_,rfl,rfl,(by show (0:Int) < 7; decide),_,_,rfl,rfl,_,_,rfl,rfl,_,rfl,?_⟩⟩
   dsimp only
   generalize decide ((_:Int) < _)=b
   cases b with
   | true=>exact bB ⟨_,rfl,trivial,S ++ [(0:Int)+(i:Int)],by rw [fU]; rfl,hS.app⟩
   | false=>exact aS ⟨S,rfl,hS.more⟩
  ·rintro acc ⟨S,rfl,hS⟩
   rw [e8] at hS
   exact⟨⟨_,_,rfl,rfl,cR _,trivial,q S hS.set⟩,fun ns z=>by cases z⟩
end Core
namespace PP
open PySem L2
section
variable {X : Cx} {e : Expr} {tr : cL} {pos p2 : Pos}
def rT:List PV->(PV->Prop)->Prop:=fun xs Q=>∃ ys:List (List Int),xs = [.lst (ys.map fun r=>PV.tup (intz r))]/\ys.length<=4096/\(∀ y ∈ ys,y.length=2)/\∀ zs:List (List Int),zs.Perm ys->zs.Pairwise (fun u v=>HT.b6 v u=false)->Q (.lst (zs.map fun r=>PV.tup (intz r)))
theorem aR0:dO X rT (P9 X.K):=by
 rintro H vs xs Q Q' r ⟨ys,rfl,hl,hne,q⟩ k
 obtain ⟨v,rfl,r1⟩:=r.one
 obtain ⟨a,us,rfl,_,h,r2⟩:=r1.sqL
 obtain ⟨h1,h2⟩:=wS r2
 have lr:=r2.length
 rw [bh2] at lr
 refine⟨a,us,iS H,rfl,aI.of h,by omega,fun y hy=>?_,fun l zs hl' pm so=>?_⟩
 ·obtain ⟨b,rfl,hb⟩:=h2 y hy
  refine⟨b,rfl,aF.of hb,hne _ ?_⟩
  rw [<- h1]; exact bl4.mpr ⟨_,hy,rfl⟩
 ·have hz:∀ u ∈ zs,∃ b,u = .ref b/\H b=some (.tup ((iS H u).map V.int)):=fun u hu=>h2 u (pm.mem_iff.mp hu)
  refine k _ _ _ (aZ hl' _) (.lst hl' b8 ((wT hz).same (aZ hl' _) fun _ z=>z)) (q _ ?_ ?_)
  ·rw [<- h1]; exact pm.map _
  ·rw [bl7]; exact so
theorem X0 (B:Bt X.mg) (ha:QA X [e] tr) (hg:Gl X "sorted":=by rfl) (he:starEach [e] X.env=(false,eval e X.env) :: starEach [] X.env:=by rfl) (hpl:(backTo pos (starEach [] X.env)).any (·.1)=false:=by rfl):QE X (.Call (.Name "sorted" p2) [e] [] pos) (aC rT tr):=
 gU aH0 aR0 hg B.sorted PyProof.Rows.boot_sorted ha (he:=he) (hpl:=hpl)
end
end PP
namespace Core
open PySem L2 PP
structure WL (n:Int) (ws:List Int) (ls:List (Int × Int)):Prop where
 many:(ws.length:Int)=n
 inn:∀ l ∈ ls,0<=l.1/\l.1 < l.2/\l.2 < n
 most:ls.length<=1700
 ord:ls.Pairwise dS
 pos:∀ w ∈ ws,0<=w
theorem WL.perm {n:Int}{ws:List Int}{ls ls':List (Int × Int)} (h1:(ws.length:Int)=n) (h2:∀ l ∈ ls,0<=l.1/\l.1 < l.2/\l.2 < n) (h3:ls.length<=1700) (nd:ls.Nodup) (h4:∀ w ∈ ws,0<=w) (p:ls'.Perm ls) (so:(ls'.map two).Pairwise fun u v=>HT.b6 v u=false):WL n ws ls':=
 ⟨h1,fun l hl=>h2 l (p.mem_iff.mp hl),by rw [p.length_eq]; exact h3,T7 so (p.nodup_iff.mpr nd),h4⟩
theorem DK.few40 {n:Int}{ps:List (List a9 × PV)} (h:DK n ps) (hn:n<=40):ps.length<=1600:=by
 obtain ⟨ls,_,e2,e3,e4⟩:=DL.links h.key
 have nd:ls.Nodup:=by
  have:=h.nd
  rw [e4] at this
  exact (bl7.mp this).imp fun h e=>h (congrArg fC e)
 have:=rQ 1600 (ls.map fun l=>(l.1 * 40+l.2).toNat) (by
  refine bl7.mpr (nd.imp_of_mem fun {a b} ha hb hab e=>hab ?_)
  have:=e2 a ha
  have:=e2 b hb
  exact Prod.ext (by omega) (by omega)) fun x hx=>by
   obtain ⟨l,hl,rfl⟩:=bl4.mp hx
   have:=e2 l hl
   omega
 rw [bh2,e3] at this
 omega
def rU:cY:=fun Ep xs Q=>∃ ws ls x S,xs = [bC ws ls,x]/\Wb ws ls/\cT x S/\S.length<=1000/\(b9 ws.length S=true->Q (.bl (decide (stay ws ls S=S))))/\(b9 ws.length S=false->Ep "BadSet")
def X1 (Ep:Str->Prop):aK:=(aR (bM 2 (gK Ep jR (a7 (a5 0) (a7 (a5 1) aA))))
 (b7 (q2 (fR 2 false) (aC rL (a7 (a5 0) (a7 (aC kQ (a7 (a5 0) aA)) (a7 (a5 2) aA)))) (a5 2))))
theorem aR1:gY X1 ["web","block","chosen"] rU:=by
 rintro Ep xs Q ⟨ws,ls,x,S,rfl,wb,hx,hl,q,qe⟩
 refine⟨_,rfl,_,rfl,ws,ls,x,S,rfl,hx,hl,fun hs=>⟨trivial,?_⟩,qe⟩
 have q:=q hs
 refine⟨_,rfl,_,rfl,ws,ls,rfl,wb,_,rfl,ws,ls,_,S,rfl,wb,.inl rfl,hs,_,rfl,.inl ⟨_,_,rfl,rfl⟩,qG 2 _ _,trivial,?_⟩
 show Q (.bl (bJ 3 (.tup (intz (stay ws ls S))) (.tup (intz S))))
 rw [qF]; exact q
def rV:bF:=fun xs Q=>∃ c:Int,xs = [.int c]/\∀ z:Int,0<=z->z<=40->Q (.int z)
def X2:aK:=(aR (cM (aV (gS (dD (iI (a5 0) (qC (.int 8))) (qC (.int 3))) (qC (.int 1)))) (b7 (dD (iI (a5 0) (qC (.int 24))) (qC (.int 41)))) cO)
 (b7 (dD (a5 0) (qC (.int 8)))))
theorem aR2:cI X2 ["cell"] rV:=by
 rintro xs Q ⟨c,rfl,q⟩
 refine⟨_,rfl,_,_,rfl,rfl,⟨by decide,by decide⟩,_,_,rfl,rfl,(by show (0:Int) < 3; decide),.inl ⟨_,_,rfl,rfl,_,rfl,?_⟩⟩
 cases h:(if false=true then !decide (c / 8 % 3=1) else decide (c / 8 % 3=1)) with
 | true=>exact bB ⟨_,rfl,_,_,rfl,rfl,⟨by decide,by decide⟩,_,_,rfl,rfl,(by show (0:Int) < 41; decide),trivial,q _ (bv3 _ (by decide)) (by have:=bu3 (c / 24) (show (0:Int) < 41 by decide); omega)⟩
 | false=>exact aS ⟨_,rfl,_,_,rfl,rfl,(by show (0:Int) < 8; decide),trivial,q _ (bv3 _ (by decide)) (by have:=bu3 c (show (0:Int) < 8 by decide); omega)⟩
def rW (f:List Int->List (Int × Int)->List Int->(PV->Prop)->Prop):cY:=fun Ep xs Q=>∃ ws ls x ns,xs = [bC ws ls,x]/\Wb ws ls/\cT x ns/\ns.length<=1000/\(b9 ws.length ns=true->f ws ls ns Q)/\(b9 ws.length ns=false->Ep "BadSet")
def rX:cY:=rW fun ws ls ns Q=>∀ m,cN ws ls ns m->Q (.lst (tups (ns :: after ws ls ns m)))
def rY:cY:=rW fun ws ls ns Q=>∀ m,cN ws ls ns m->Q (.dK (iU (ns :: after ws ls ns m)))
def rZ:cY:=rW fun ws ls ns Q=>∀ ms m,cN ws ls ns m->ms.Perm (aW ws ls ns m)->ms.Pairwise (· <= ·)->Q (.tup (intz ms))
def sA:cY:=rW fun ws ls ns Q=>∀ m,cN ws ls ns m->Q (.bl (decide (((aW ws ls ns m).length:Int)=(ws.length:Int))))
def X3 (Ep:Str->Prop):aK:=(aR (jC 2 (iG (a7 (gK Ep jR (a7 (a5 0) (a7 (a5 1) aA))) aA)))
 (aR (jC 3 (aC iQ (a7 (cJ (a5 2) (qC (.int 0))) aA)))
 (aR (bM 4 (aC kQ (a7 (a5 0) aA)))
 (aR (bM 5 (aC oC (a7 (a5 0) (a7 (a5 4) (a7 (a5 3) aA)))))
 (aR (v8 (pW (a5 5))
  (aR (pT 2 (a5 5))
  (aR (vI 3 (aC iQ (a7 (a5 5) aA)))
  (bM 5 (aC oC (a7 (a5 0) (a7 (a5 4) (a7 (a5 3) aA))))))))
 (jD 2))))))
theorem aR3:gY X3 ["web","seeds","told","burning","around","lit"] rX:=by
 rintro Ep xs Q ⟨ws,ls,x,ns,rfl,wb,hx,hl,q,qe⟩
 have few:=wb.few
 refine⟨_,rfl,_,rfl,ws,ls,x,ns,rfl,hx,hl,fun hs=>?_,qe⟩
 have q:=q hs
 have ln:=m8 hs
 refine⟨by show 1<=1000; decide,?_,rfl,?_,?_⟩
 ·show (flat (.tup (intz ns)) && true)=true
  rw [oA]; rfl
 ·show (flat (.tup (intz ns)) && true)=true
  rw [oA]; rfl
 refine⟨_,rfl,_,_,_,rfl,rfl,rfl,_,ns,rfl,.inl rfl,by omega,fun ps d=>⟨rfl,d.fl,?_⟩⟩
 refine⟨_,rfl,ws,ls,rfl,wb,trivial,?_⟩
 refine⟨_,rfl,_,rfl,_,rfl,ws,ls,ps,ns,rfl,wb,d,trivial,?_⟩
 refine⟨fun n ρ=>∃ k ps,ρ = [some (.sh (flat (bC ws ls)) (bC ws ls)),some (.sh (flat x) x),some (.own (.lst (tups (ns :: after ws ls ns k)))),some (.own (.dK ps)),some (.sh true (.lst (gJ ws.length ls))),some (.sh true (.tup (intz (nextOf ws ls (aW ws ls ns k)))))]/\
   n=eF ws (aW ws ls ns k)/\DS ps (aW ws ls ns k)/\∀ j < k,nextOf ws ls (aW ws ls ns j) ≠ [],⟨_,0,ps,rfl,rfl,d,fun _ z=>absurd z (bx0 _)⟩,?_⟩
 rintro n ρ ⟨k,ps,rfl,rfl,d,ne⟩
 refine⟨_,rfl,_,rfl,?_⟩
 cases hn:nextOf ws ls (aW ws ls ns k) with
 | nil=>exact aS ⟨_,rfl,trivial,q k ⟨ne,hn⟩⟩
 | cons y yr=>
  refine bB ?_
  rw [<- hn]
  have cs:=wF ws ls (aW ws ls ns k)
  have nl:1<=(nextOf ws ls (aW ws ls ns k)).length:=by rw [hn]; exact Nat.succ_le_succ (bl6 _)
  have nle:=aI1 ws ls (aW ws ls ns k)
  have sl:=wO (ls:=ls) hs k
  have dl:=d.len
  have ke:=Q9 k ne
  refine⟨_,rfl,_,rfl,trivial,?_,?_⟩
  ·rw [iR,bk2]
   unfold after
   rw [bh2,bo3]; omega
  refine⟨_,rfl,_,rfl,_,_,rfl,.inl rfl,by omega,fun mp dm=>⟨mp,rfl,.inl rfl,?_,?_⟩⟩
  ·have:=dm.len; omega
  have D7:DS (gE ps mp) (aW ws ls ns (k+1)):=d.merge dm
  refine⟨_,rfl,_,rfl,_,rfl,ws,ls,_,_,rfl,wb,D7,trivial,?_⟩
  refine⟨_,?_,k+1,gE ps mp,?_,rfl,D7,fun j hj=>?_⟩
  ·show eF ws (aW ws ls ns k ++ nextOf ws ls (aW ws ls ns k)) < _
   omega
  ·rw [Q6,<- List.cons_append]
   unfold tups
   rw [bj4]; rfl
  ·by_cases e:j=k
   ·rw [e,hn]; exact fun z=>nomatch z
   ·exact ne j (by omega)
def X4 (Ep:Str->Prop):aK:=(aR (jC 2 (qC (.dK [])))
 (aR (eV (oH (gK Ep rX (a7 (a5 0) (a7 (a5 1) aA)))) (jH 3 4)
  (eV (dJ (a5 4)) (bY 5)
   (qE 2 (a5 5) (a5 3))))
 (jD 2)))
theorem aR4:gY X4 ["web","seeds","ranks","rank","lit","hearth"] rY:=by
 rintro Ep xs Q ⟨ws,ls,x,ns,rfl,wb,hx,hl,q,qe⟩
 have few:=wb.few
 refine⟨rfl,rfl,_,rfl,_,rfl,ws,ls,x,ns,rfl,wb,hx,hl,fun hs m en=>⟨_,.inl rfl,fun z=>(by cases z),?_⟩,qe⟩
 have q:=q hs
 have fl:=wG ws ls ns m
 have sl:=wO (ls:=ls) hs m
 have nd:=x3 (ls:=ls) hs m
 generalize hrs:ns :: after ws ls ns m=rs at fl
 rw [<- fl] at sl nd
 refine⟨fun i ρ=>∃ y z u,ρ = [some (.sh (flat (bC ws ls)) (bC ws ls)),some (.sh (flat x) x),some (.own (.dK (iU (rs.take i)))),y,z,u],⟨none,none,none,rfl⟩,?_,?_⟩
 ·rintro i y ρ hy ⟨y0,z0,u0,rfl⟩
  obtain ⟨y,hy2,rfl⟩:=wY hy
  obtain ⟨r,rfl,hr⟩:=wM hy2
  have tk:rs.take (i+1)=rs.take i ++ [r]:=by rw [bm8,hr]; rfl
  have il:(rs.take i).length=i:=by
   have:=(bh7.mp hr).1
   rw [br2]; omega
  have nd2:((rs.take i).flatten ++ r).Nodup/\((rs.take i).flatten ++ r).length<=rs.flatten.length:=by
   have e:rs.flatten=((rs.take i).flatten ++ r) ++ (rs.drop (i+1)).flatten:=by
    rw [<- List.flatten_singleton (l:=r),<- List.flatten_append,<- tk,<- List.flatten_append,bk8]
   rw [e] at nd ⊢
   exact⟨(bs1.mp nd).1,by rw [bi6 (as:=(rs.take i).flatten ++ r)]; omega⟩
  refine⟨_,_,rfl,_,rfl,_,rfl,fun z=>(by cases z),fun j ρ=>∃ u,ρ = [some (.sh (flat (bC ws ls)) (bC ws ls)),some (.sh (flat x) x),some (.own (.dK (iU (rs.take i) ++ fW i (r.take j)))),some (.sh true (.int (i:Int))),some (.sh true (.tup (intz r))),u],⟨u0,?_⟩,?_,?_⟩
  ·rw [show fW i (r.take 0) = [] from rfl,bk6]
   rfl
  ·rintro j y ρ hy ⟨u1,rfl⟩
   obtain ⟨n,rfl,hn⟩:=iP hy
   have ke:(iU (rs.take i) ++ fW i (r.take j)).map (·.1)=((rs.take i).flatten ++ r.take j).map (Sum.inl:Int->a9):=by
    rw [bj4,bj4,V6,V4]
   have nn:n ∉ (rs.take i).flatten ++ r.take j:=by
    have:=nd2.1
    rw [<- bk8 j r,br5 (bh7.mp hn).1,(bh7.mp hn).2,<- bj2] at this
    exact fun z=>(bs1.mp this).2.2 n z n bi0 rfl
   have le:(iU (rs.take i) ++ fW i (r.take j)).length<=40:=by
    have e1:=congrArg List.length ke
    have e2:=nd2.2
    rw [bh2,bh2,bi6,bi6,br2] at e1
    rw [bi6] at e2
    rw [bi6]
    omega
   refine⟨_,rfl,_,rfl,_,rfl,Sum.inl n,rfl,trivial,by omega,si n,?_⟩
   rw [aP5 ke nn,aP6 hn,bj2]
   rfl
  ·rintro ρ ⟨u,rfl⟩
   refine⟨some (.sh true (.int i)),some (.sh true (.tup (intz r))),u,?_⟩
   rw [bW,bo2,tk,aP4,il]
 ·rintro ρ ⟨y,z,u,rfl⟩
  rw [kR,iR,bo2,<- hrs]
  exact⟨_,rfl,trivial,q m en⟩
def X5 (Ep:Str->Prop):aK:=(b7 (aC fK (a7 (aC x4 (a7 (gK Ep rY (a7 (a5 0) (a7 (a5 1) aA))) aA)) aA)))
theorem aR5:gY X5 ["web","seeds"] rZ:=by
 rintro Ep xs Q ⟨ws,ls,x,ns,rfl,wb,hx,hl,q,qe⟩
 have few:=wb.few
 refine⟨_,rfl,_,rfl,ws,ls,x,ns,rfl,wb,hx,hl,fun hs m en=>?_,qe⟩
 have sl:=wO (ls:=ls) hs m
 refine⟨_,aW ws ls ns m,rfl,?_,by omega,fun ms hp ho=>⟨⟨_,_,rfl,rfl,cR _,trivial,q hs ms m en hp ho⟩,fun ns z=>by cases z⟩⟩
 rw [V6,wG]
def X6 (Ep:Str->Prop):aK:=(b7 (gS (aC fJ (a7 (gK Ep rZ (a7 (a5 0) (a7 (a5 1) aA))) aA)) (aC gI (a7 (a5 0) aA))))
theorem aR6:gY X6 ["web","seeds"] sA:=by
 rintro Ep xs Q ⟨ws,ls,x,ns,rfl,wb,hx,hl,q,qe⟩
 refine⟨_,rfl,_,rfl,ws,ls,x,ns,rfl,wb,hx,hl,fun hs ms m en hp ho=>⟨_,_,rfl,rfl,_,rfl,ws,ls,rfl,.inl ⟨_,_,rfl,rfl,trivial,?_⟩⟩,qe⟩
 rw [bW,hp.length_eq]
 exact q hs m en
def sB (ws:List Int) (ls:List (Int × Int)) (S:List Int):Prop:=S ≠ []/\stay ws ls S=S/\∀ U,stay ws ls U=U->U ≠ []->(∀ x ∈ U,x ∈ S)->∀ x ∈ S,x ∈ U
theorem aR7 {A B:List Int}:∀ ns:List Int,(∀ y ∈ ns,y ∈ A ↔ y ∈ B)->mC ns A=mC ns B:=fun ns h=>by
 unfold mC
 rw [List.filter_congr fun x hx=>show decide (x ∈ A)=decide (x ∈ B) by rw [decide_eq_decide]; exact h x hx]
theorem X7 (n:Nat):∀ (a b:List (List Int)),((((tups a).zip (tups b)).all fun p=>bJ (n+1) p.1 p.2) && (tups a).length == (tups b).length)=decide (a=b)
 | [],[]=>rfl
 | [],_ :: _=>by simp [tups]
 | _ :: _,[]=>by simp [tups]
 | x :: a,y :: b=>by
  have ih:=X7 n a b
  have e:∀ (z:List Int) (c:List (List Int)),tups (z :: c)=PV.tup (intz z) :: tups c:=fun _ _=>rfl
  rw [e,e]
  simp only [bs5,bt2,bk2,qF] at ih ⊢
  by_cases h:x=y
  ·subst h
   have:((tups a).length+1 == (tups b).length+1)=((tups a).length == (tups b).length):=by simp
   rw [this,bi2 rfl,Bool.true_and,ih]
   simp
  ·rw [bh3 h,bx8,bx8]
   simp [h]
theorem X8 (n:Nat) (a b:List (List Int)):bJ (n+2) (.lst (tups a)) (.lst (tups b))=decide (a=b):=X7 n a b
theorem xB (n:Nat):∀ (a b:List (List Int)),cW (n+2) (.lst (tups a)) (.lst (tups b))=true
 | [],_=>by unfold cW tups; simp
 | _ :: _,[]=>by unfold cW tups; simp
 | x :: a,y :: b=>by
  have ih:=xB n a b
  show (((PV.tup (intz x) :: tups a).zip (PV.tup (intz y) :: tups b)).all fun p=>cW (n+1) p.1 p.2)=true
  rw [bs5,bt2,qG,Bool.true_and]
  exact ih
theorem X9:∀ (g:Bool) {x:PV},flat x=true->Nw (Slot.sh g x).tag x
 | true,_,_=>trivial
 | false,_,h=>h
def bL (hs:List Int):List (List Int):=hs.foldl (fun acc h=>acc ++ acc.map fun p=>p ++ [h]) [[]]
theorem iW (hs:List Int) (h:Int):bL (hs ++ [h])=bL hs ++ (bL hs).map fun p=>p ++ [h]:=by
 unfold bL; rw [List.foldl_append]; rfl
theorem mD (n:Nat):rng (n+1)=rng n ++ [(n:Int)]:=by
 unfold rng; rw [List.range_succ,bj4]; rfl
theorem Y0:∀ hs:List Int,∀ k,(bL (hs.take k)).length=2 ^ min k hs.length:=by
 intro hs k
 induction k with
 | zero=>simp [bL]
 | succ k ih=>
  by_cases h:k < hs.length
  ·have tk:hs.take (k+1)=hs.take k ++ [hs[k]]:=by rw [bm8,bg9 h]; rfl
   rw [tk,iW,bi6,bh2,ih,show min (k+1) hs.length=min k hs.length+1 by omega,Nat.pow_succ]
   omega
  ·rw [bk3 (by omega),show min (k+1) hs.length=min k hs.length by omega,<- ih,bk3 (by omega)]
theorem sC (n:Nat):(bL (rng n)).length=2 ^ n:=by
 have:=Y0 (rng n) n
 rw [bk3 (by rw [fA]; exact bh1 _),fA,Nat.min_self] at this
 exact this
theorem oK (n:Nat):∀ (p:Nat) (S:List Int),(bL (rng n))[p]? = some S->(∀ x ∈ S,0<=x/\x < (n:Int))/\(p=0 ↔ S = [])/\∀ h ∈ S,2 ^ h.toNat<=p/\(bL (rng n))[p - 2 ^ h.toNat]? = some (S.filter fun z=>!decide (z=h)):=by
 induction n with
 | zero=>
  intro p S e
  have e0:bL (rng 0) = [[]]:=rfl
  rw [e0] at e
  cases p with
  | zero=>cases e; exact⟨(fun _ h=>by cases h),⟨fun _=>rfl,fun _=>rfl⟩,(fun _ h=>by cases h)⟩
  | succ p=>cases e
 | succ n ih=>
  intro p S e
  rw [mD,iW] at e
  have ln:=sC n
  rcases bm6 p (2 ^ n) with hp | hp
  ·rw [bn5 (by omega)] at e
   obtain ⟨h1,h2,h3⟩:=ih p S e
   refine⟨fun x hx=>by have:=h1 x hx; omega,h2,fun h hh=>⟨(h3 h hh).1,?_⟩⟩
   rw [mD,iW,bn5 (by rw [ln]; exact bw4 (Nat.sub_le _ _) hp)]
   exact (h3 h hh).2
  ·rw [bp5 (by omega),ln,bi4] at e
   cases e2:(bL (rng n))[p - 2 ^ n]? with
   | none=>rw [e2] at e; cases e
   | some T=>
    rw [e2] at e
    have e:T ++ [(n:Int)]=S:=bj7 e
    subst e
    obtain ⟨h1,h2,h3⟩:=ih _ T e2
    have nT:(n:Int) ∉ T:=fun z=>by have:=h1 _ z; omega
    have p0:0 < 2 ^ n:=Nat.pow_pos (by decide)
    refine⟨fun x hx=>?_,⟨fun z=>absurd z (by omega),fun z=>by simp at z⟩,fun h hh=>?_⟩
    ·rcases bj9.mp hx with z | z
     ·have:=h1 x z; omega
     ·rw [bh6.mp z]; omega
    ·rcases bj9.mp hh with z | z
     ·have hb:=h1 h z
      obtain ⟨a1,a2⟩:=h3 h z
      refine⟨by omega,?_⟩
      rw [mD,iW,bp5 (by omega),ln,bi4,show p - 2 ^ h.toNat - 2 ^ n=p - 2 ^ n - 2 ^ h.toNat by omega,a2,List.filter_append]
      have:([(n:Int)]:List Int).filter (fun z=>!decide (z=h)) = [(n:Int)]:=by
       rw [bw3,bh3 (by omega : ¬ (n:Int)=h)]; rfl
      rw [this]; rfl
     ·have hn:h=(n:Int):=bh6.mp z
      subst hn
      rw [show ((n:Int)).toNat=n from rfl]
      refine⟨hp,?_⟩
      have lt:p - 2 ^ n < 2 ^ n:=by
       have:=(bh7.mp e2).1
       omega
      rw [mD,iW,bn5 (by omega),e2,List.filter_append]
      have a1:T.filter (fun z=>!decide (z=(n:Int)))=T:=br6.mpr fun x hx=>by
       rw [bh3 (fun z:x=(n:Int)=>nT (by rw [<- z]; exact hx))]; rfl
      have a2:([(n:Int)]:List Int).filter (fun z=>!decide (z=(n:Int))) = []:=by
       rw [bw3,bi2 rfl]; rfl
      rw [a1,a2,bk6]
theorem oM (n:Nat):∀ S:List Int,S ∈ bL (rng n) ↔ S.Sublist (rng n):=by
 induction n with
 | zero=>
  intro S
  show S ∈ [[]] ↔ S.Sublist []
  rw [bh6,List.sublist_nil]
 | succ n ih=>
  intro S
  rw [mD,iW,bj9]
  refine⟨fun h=>?_,fun h=>?_⟩
  ·rcases h with h | h
   ·exact ((ih S).mp h).trans (List.sublist_append_left _ _)
   ·obtain ⟨T,hT,rfl⟩:=bl4.mp h
    exact ((ih T).mp hT).append (List.Sublist.refl _)
  ·obtain ⟨p1,p2,rfl,s1,s2⟩:=List.sublist_append_iff.mp h
   cases s2 with
   | cons _ s3=>rw [List.sublist_nil.mp s3,bk6]; exact .inl ((ih p1).mpr s1)
   | cons_cons _ s3=>rw [List.sublist_nil.mp s3]; exact .inr (bl4.mpr ⟨p1,(ih p1).mpr s1,rfl⟩)
theorem Y1 (n:Nat):(bL (rng n)).Nodup:=by
 induction n with
 | zero=>exact bl9 _ _
 | succ n ih=>
  rw [mD,iW]
  refine bs1.mpr ⟨ih,bl7.mpr (ih.imp fun z e=>z (List.append_cancel_right e)),fun a ha b hb e=>?_⟩
  obtain ⟨p1,h1,rfl⟩:=bl4.mp hb
  have:=((oM n a).mp ha).subset (show (n:Int) ∈ a by rw [e]; simp)
  have:=fB.mp this
  omega
theorem Y2 {n:Nat}{S:List Int}:S.Sublist (rng n) ↔ b9 n S=true:=by
 refine⟨fun h=>?_,fun h=>?_⟩
 ·have up:(rng n).Pairwise (· < ·):=by
   unfold rng
   rw [bl7]
   exact bv7.imp fun h=>by omega
  have u:jP (n:Int) S:=⟨up.sublist h,fun x hx=>fB.mp (h.subset hx),by have:=h.length_le; rw [fA] at this; omega⟩
  exact u.set
 ·have e:S=(rng n).filter fun x=>decide (x ∈ S):=by
   refine V3 h ?_ fun x=>?_
   ·exact aO4 (show b9 n (rng n)=true by have:=aO7 n []; unfold oJ at this; rwa [br6.mpr fun x _=>by simp] at this) _
   ·rw [bj8,bj6]
    exact⟨fun z=>⟨fB.mpr ((eG h).2 x z),z⟩,fun z=>z.2⟩
  rw [e]; exact List.filter_sublist
section
variable {ws : List Int} {ls : List (Int × Int)}
def HC (ws:List Int) (ls:List (Int × Int)) (S:List Int):Prop:=∃ U,stay ws ls U=U/\U ≠ []/\∀ x ∈ U,x ∈ S
theorem aR8 {U S:List Int} (hU:stay ws ls U=U) (h:∀ x,x ∈ S ↔ x ∈ U):stay ws ls S=S:=by
 refine br6.mpr fun y hy=>?_
 have:=br6.mp hU y ((h y).mp hy)
 unfold jQ at this ⊢
 rw [aR7 (aY ls y) fun z _=>h z]
 exact this
theorem Y3 (S:List Int):HC ws ls S ↔ (S ≠ []/\stay ws ls S=S) ∨ ∃ h ∈ S,HC ws ls (S.filter fun z=>!decide (z=h)):=by
 refine⟨fun ⟨U,hU,nU,sub⟩=>?_,fun h=>?_⟩
 ·by_cases all:∀ x ∈ S,x ∈ U
  ·refine .inl ⟨fun z=>?_,aR8 hU fun x=>⟨all x,sub x⟩⟩
   cases hu:U with
   | nil=>exact nU hu
   | cons u r=>
    have:=sub u (by rw [hu]; exact bi0)
    rw [z] at this; cases this
  ·obtain ⟨h,hh⟩:=Classical.not_forall.mp all
   have hS:h ∈ S:=bt9 fun z=>hh fun y=>absurd y z
   have hU2:h ∉ U:=fun z=>hh fun _=>z
   refine .inr ⟨h,hS,U,hU,nU,fun x hx=>bj8.mpr ⟨sub x hx,?_⟩⟩
   rw [bh3 (fun z:x=h=>hU2 (by rw [<- z]; exact hx))]; rfl
 ·rcases h with h | ⟨h,hh,U,hU,nU,sub⟩
  ·exact⟨S,h.2,h.1,fun _ z=>z⟩
  ·exact⟨U,hU,nU,fun x hx=>(bj8.mp (sub x hx)).1⟩
theorem aR9 (S:List Int):(HC ws ls S/\¬ ∃ h ∈ S,HC ws ls (S.filter fun z=>!decide (z=h))) ↔ sB ws ls S:=by
 refine⟨fun ⟨h1,h2⟩=>?_,fun lb=>⟨⟨S,lb.2.1,lb.1,fun _ z=>z⟩,fun ⟨h,hh,U,hU,nU,sub⟩=>?_⟩⟩
 ·rcases (Y3 S).mp h1 with z | z
  ·refine⟨z.1,z.2,fun U hU nU sub x hx=>bt9 fun y=>h2 ⟨x,hx,U,hU,nU,fun u hu=>bj8.mpr ⟨sub u hu,?_⟩⟩⟩
   rw [bh3 (fun z:u=x=>y (by rw [<- z]; exact hu))]; rfl
  ·exact absurd z h2
 ·have:=sub h (lb.2.2 U hU nU (fun x hx=>(bj8.mp (sub x hx)).1) h hh)
  have:=(bj8.mp this).2
  rw [bi2 rfl] at this; cases this
end
def sD:bF:=fun xs Q=>∃ x hs,xs = [x]/\cT x hs/\hs.length<=12/\Q (.lst (tups (bL hs)))
def Y4:aK:=(aR (bM 1 (iG (a7 (gQ aA) aA)))
 (aR (eV (dJ (a5 0)) (bY 2)
  (bM 1 (wV (a5 1) (cP (dJ (a5 1)) [none,some 2] (bY 0) e9 (U9 (a5 0) (gQ (a7 (a5 1) aA)))))))
 (jD 1)))
theorem aS0:cI Y4 ["hearths","chosen","hearth"] sD:=by
 rintro xs Q ⟨x,S,rfl,hx,hl,q⟩
 refine⟨by decide,rfl,by show 1<=1000; decide,rfl,trivial,?_⟩
 refine⟨_,rfl,_,hx.seq,m7 hx,fun i ρ=>∃ (y:Option Slot),ρ = [some (.sh (flat x) x),some (.sh true (.lst (tups (bL (S.take i))))),y],⟨none,rfl⟩,?_,?_⟩
 ·rintro i y ρ hy ⟨y0,rfl⟩
  obtain ⟨h,rfl,hi⟩:=iP hy
  have il:i < S.length:=(bh7.mp hi).1
  have sl:=Y0 S i
  have p8:(bL (S.take i)).length<=4096:=by
   rw [sl]
   exact bk9 (Nat.pow_le_pow_right (by decide) (show min i S.length<=12 by omega)) (by decide)
  have shr:∀ p ∈ bL (S.take i),p.length<=12:=by
   have gen:∀ hs:List Int,∀ p ∈ bL hs,p.length<=hs.length:=by
    intro hs
    have:∀ (n:Nat) (hs:List Int),hs.length=n->∀ p ∈ bL hs,p.length<=hs.length:=by
     intro n
     induction n with
     | zero=>intro hs e p hp; rw [bu9 e] at hp ⊢; rw [bh6.mp (show p ∈ [[]] from hp)]; exact bh1 _
     | succ n ih=>
      intro hs e p hp
      rcases List.eq_nil_or_concat hs with z | ⟨l,a,z⟩
      ·rw [z] at e; cases e
      ·have z:hs=l ++ [a]:=by rw [z]; simp
       subst z
       have le:l.length=n:=by simpa using e
       rw [iW] at hp
       rw [bi6,bp1]
       rcases bj9.mp hp with z | z
       ·have:=ih l le p z; omega
       ·obtain ⟨r,hr,rfl⟩:=bl4.mp z
        have:=ih l le r hr
        rw [bi6,bp1]; omega
    exact this hs.length hs rfl
   intro p hp
   have:=gen _ p hp
   rw [br2] at this
   omega
  have tk:S.take (i+1)=S.take i ++ [h]:=by rw [bm8,hi]; rfl
  refine mB ?_
  refine⟨_,rfl,_,rfl,_,rfl,(fun z=>by cases z),by rw [iR]; omega,fun j acc=>acc=tups (((bL (S.take i)).take j).map fun p=>p ++ [h]),rfl,?_,?_⟩
  ·rintro j z acc hz rfl
   obtain ⟨p,rfl,hj⟩:=wM hz
   refine⟨_,rfl,_,rfl,by show 1<=1000; decide,rfl,_,_,rfl,rfl,cR _,rfl,?_,trivial,?_⟩
   ·have:=shr p (bm3 hj)
    rw [bW]
    show p.length+1<=16000000
    omega
   ·show tups _ ++ [PV.tup (intz p ++ intz [h])]=tups (((bL (S.take i)).take (j+1)).map fun p=>p ++ [h])
    rw [bm8,hj,<- fU]
    unfold tups
    rw [bj4,bj4]
    rfl
  ·rintro acc rfl
   rw [iR,bo2]
   refine⟨_,_,rfl,rfl,wN _,wN _,?_,trivial,some (.sh true (.int h)),?_⟩
   ·rw [iR,iR,bh2]; omega
   ·rw [tk,iW]
    unfold tups
    rw [bj4]; rfl
 ·rintro ρ ⟨y,rfl⟩
  rw [bW,bo2]
  exact⟨_,rfl,trivial,q⟩
abbrev eI (bs:List Bool):List PV:=bs.map PV.bl
def kT (bs:List Bool) (p:Nat) (S:List Int):Bool:=S.any fun h=>bs.getD (p - 2 ^ h.toNat) false
def mE:bF:=fun xs Q=>∃ (bs:List Bool) (p:Nat) (S:List Int),xs = [.lst (eI bs),.int p,.tup (intz S)]/\S.length<=1000/\(∀ h ∈ S,0<=h/\h<=12/\2 ^ h.toNat<=p/\p - 2 ^ h.toNat < bs.length)/\Q (.bl (kT bs p S))
def Y5:aK:=(b7 (aC x5 (a7 (cP (dJ (a5 2)) [none,some 0,some 1] (bY 0) e9 (cJ (a5 1) (qK (a5 2) (aB6 (qC (.int 1)) (a5 0))))) aA)))
theorem aS1:cI Y5 ["holds","place","some"] mE:=by
 rintro xs Q ⟨bs,p,S,rfl,hl,hb,q⟩
 refine⟨_,rfl,_,rfl,(fun _=>oA S),by rw [bW]; omega,fun i acc=>acc=eI ((S.take i).map fun h=>bs.getD (p - 2 ^ h.toNat) false),rfl,?_,?_⟩
 ·rintro i z acc hz rfl
  obtain ⟨h,rfl,hh⟩:=iP hz
  obtain ⟨b1,b2,b3,b4⟩:=hb h (bm3 hh)
  have ix:L2.atI (eI bs) ((p:Int) - 1 * 2 ^ h.toNat)=some (.bl (bs.getD (p - 2 ^ h.toNat) false)):=by
   have e:((p:Int) - 1 * 2 ^ h.toNat)=((p - 2 ^ h.toNat:Nat):Int):=by
    rw [Int.ofNat_sub b3]; simp
   rw [e]
   exact l4 (by rw [bi4,bh4,bg9 b4]; rfl)
  refine⟨_,rfl,_,rfl,_,rfl,_,_,rfl,rfl,⟨b1,by omega,by decide⟩,_,_,rfl,rfl,_,_,_,rfl,rfl,ix,rfl,?_⟩
  dsimp only
  rw [bm8,hh,bj4]
  show _=List.map PV.bl (_ ++ _)
  rw [bj4]; rfl
 ·rintro acc rfl
  rw [bW,bo2]
  refine⟨_,rfl,trivial,?_⟩
  have e:(S.map fun h=>bs.getD (p - 2 ^ h.toNat) false).any id=kT bs p S:=by
   unfold kT; rw [List.any_map]; rfl
  rw [e]; exact q
def sE:cY:=fun Ep xs Q=>∃ ws ls,xs = [bC ws ls]/\ws.length<=40/\(ws.length<=12->Q (.lst (tups (bL (rng ws.length)))))/\(12 < ws.length->Ep "TooMany")
def Y6 (Ep:Str->Prop):aK:=(aR (cM (aV (jI (aC gI (a7 (a5 0) aA)) (qC (.int 12)))) (rN Ep "TooMany" (a7 (qC (.str "webs of at most 12 hearths are searched through")) aA)) cO)
 (b7 (aC sD (a7 (S8 (aC gI (a7 (a5 0) aA))) aA))))
theorem aS2:gY Y6 ["web"] sE:=by
 rintro Ep xs Q ⟨ws,ls,rfl,few,q,qe⟩
 refine⟨_,rfl,ws,ls,rfl,_,_,rfl,rfl,_,rfl,?_⟩
 by_cases h:(12:Int) < (ws.length:Int)
 ·dsimp only
  rw [bi2 h]
  exact bB ⟨by decide,qe (by omega)⟩
 ·dsimp only
  rw [bh3 h]
  refine aS ⟨_,rfl,ws,ls,rfl,_,rfl,by omega,by omega,?_⟩
  rw [aK7]
  exact⟨_,rng ws.length,rfl,.inr rfl,by rw [fA]; omega,trivial,q (by omega)⟩
def sF:cY:=fun Ep xs Q=>∃ ws ls,xs = [bC ws ls,.lst (tups (bL (rng ws.length)))]/\Wb ws ls/\ws.length<=12/\∀ bs:List Bool,bs.length=2 ^ ws.length->(∀ p S,(bL (rng ws.length))[p]? = some S->(bs.getD p false=true ↔ HC ws ls S))->Q (.lst (eI bs))
def Y7 (Ep:Str->Prop):aK:=(aR (jC 2 (iG (a7 (qC (.bl false)) aA)))
 (aR (eV (pY (qC (.int 1)) (aC fJ (a7 (a5 1) aA))) (bY 3)
  (pT 2 (nI (aC mE (a7 (a5 2) (a7 (a5 3) (a7 (cJ (a5 1) (a5 3)) aA)))) (gK Ep rU (a7 (a5 0) (a7 (cJ (a5 1) (a5 3)) aA))))))
 (jD 2)))
theorem Y8 {ws:List Int}{ls:List (Int × Int)}{bs:List Bool}{p:Nat}{S:List Int} (at_:(bL (rng ws.length))[p]? = some S) (hb:∀ q S,q < p->(bL (rng ws.length))[q]? = some S->(bs.getD q false=true ↔ HC ws ls S)) :
  kT bs p S=true ↔ ∃ h ∈ S,HC ws ls (S.filter fun z=>!decide (z=h)):=by
 obtain ⟨h1,h2,h3⟩:=oK _ p S at_
 unfold kT
 rw [List.any_eq_true]
 refine⟨fun ⟨h,hh,e⟩=>⟨h,hh,?_⟩,fun ⟨h,hh,e⟩=>⟨h,hh,?_⟩⟩
 ·have:=Nat.pow_pos (n:=h.toNat) (show 0 < 2 by decide)
  exact (hb _ _ (by have:=(h3 h hh).1; omega) (h3 h hh).2).mp e
 ·have:=Nat.pow_pos (n:=h.toNat) (show 0 < 2 by decide)
  exact (hb _ _ (by have:=(h3 h hh).1; omega) (h3 h hh).2).mpr e
theorem Y9 {n:Nat}{bs:List Bool}{p:Nat}{S:List Int} (hn:n<=12) (at_:(bL (rng n))[p]? = some S) (hb:p<=bs.length):S.length<=1000/\∀ h ∈ S,0<=h/\h<=12/\2 ^ h.toNat<=p/\p - 2 ^ h.toNat < bs.length:=by
 obtain ⟨h1,h2,h3⟩:=oK _ p S at_
 have sl:=((oM n S).mp (bm3 at_)).length_le
 rw [fA] at sl
 refine⟨by omega,fun h hh=>?_⟩
 have:=Nat.pow_pos (n:=h.toNat) (show 0 < 2 by decide)
 have a:=(h3 h hh).1
 have b:=h1 h hh
 exact⟨b.1,by omega,a,by omega⟩
theorem aS3:gY Y7 ["web","chosen","holds","place"] sF:=by
 rintro Ep xs Q ⟨ws,ls,rfl,wb,few,q⟩
 have ln:=sC ws.length
 have l0:0 < 2 ^ ws.length:=Nat.pow_pos (by decide)
 have l12:2 ^ ws.length<=4096:=bk9 (Nat.pow_le_pow_right (by decide) few) (by decide)
 generalize hC:bL (rng ws.length)=C at ln q
 have cat:∀ {p:Nat}{S:List Int},C[p]? = some S->(bL (rng ws.length))[p]? = some S:=fun {p S} e=>by rw [hC]; exact e
 have tac:∀ {p:Nat}{S:List Int},(bL (rng ws.length))[p]? = some S->C[p]? = some S:=fun {p S} e=>by rw [<- hC]; exact e
 refine⟨by decide,rfl,rfl,rfl,?_⟩
 refine⟨_,rfl,_,_,rfl,rfl,1,(C.length:Int),rfl,by rw [iR],⟨by omega,by omega,by omega,by omega⟩,fun i ρ=>∃ (bs:List Bool) (y:Option Slot),ρ = [some (.sh (flat (bC ws ls)) (bC ws ls)),some (.sh (flat (.lst (tups C))) (.lst (tups C))),some (.own (.lst (eI bs))),y]/\bs.length=i+1/\∀ p S,p < i+1->C[p]? = some S->(bs.getD p false=true ↔ HC ws ls S),⟨[false],none,rfl,rfl,fun p S hp hS=>?_⟩,?_,?_⟩
 ·have e:p=0:=by omega
  subst e
  obtain ⟨_,h2,_⟩:=oK _ 0 S (cat hS)
  rw [h2.mp rfl]
  refine⟨fun z=>(by cases z),fun ⟨U,_,nU,sub⟩=>?_⟩
  cases hu:U with
  | nil=>exact absurd hu nU
  | cons u r=>
   have:=sub u (by rw [hu]; exact bi0)
   cases this
 ·rintro i y ρ hy ⟨bs,y0,rfl,bl,hb⟩
  obtain ⟨rfl,hi⟩:=jN hy
  have hp:i+1 < C.length:=by omega
  obtain ⟨S,hS⟩:∃ S,C[i+1]? = some S:=⟨C[i+1],bg9 hp⟩
  have ix:L2.atI (tups C) (1+(i:Int))=some (.tup (intz S)):=by
   have:=l4 (xs:=tups C) (j:=i+1) (by unfold tups; rw [bi4,hS]; rfl)
   rwa [show (((i+1:Nat)):Int)=1+(i:Int) by omega] at this
  obtain ⟨k1,k2⟩:=Y9 (bs:=bs) few (cat hS) (by omega)
  have sub:=(oM _ S).mp (bm3 (cat hS))
  have sS:=Y2.mp sub
  have ne:S ≠ []:=fun z=>by have:=(oK _ _ S (cat hS)).2.1.mpr z; omega
  have hi2:=Y8 (bs:=bs) (cat hS) fun p S hp e=>hb p S hp (tac e)
  have st:=Y3 (ws:=ws) (ls:=ls) S
  refine mB ?_
  have fin:∀ v:Bool,(v=true ↔ HC ws ls S)->∃ (bs':List Bool) (y:Option Slot),[some (.sh (flat (bC ws ls)) (bC ws ls)),some (.sh (flat (.lst (tups C))) (.lst (tups C))),some (.own (.lst (eI bs ++ [.bl v]))),si (1+(i:Int))] = [some (.sh (flat (bC ws ls)) (bC ws ls)),some (.sh (flat (.lst (tups C))) (.lst (tups C))),some (.own (.lst (eI bs'))),y]/\bs'.length=i+1+1/\∀ p S,p < i+1+1->C[p]? = some S->(bs'.getD p false=true ↔ HC ws ls S):=fun v hv=>by
   refine⟨bs ++ [v],si (1+(i:Int)),by rw [show eI (bs ++ [v])=eI bs ++ [.bl v] from bj4],by rw [bi6,bl]; rfl,fun p T hp hT=>?_⟩
   rcases bm6 p (i+1) with z | z
   ·rw [bh4,bn5 (by omega),<- bh4]
    exact hb p T z hT
   ·have e:p=i+1:=by omega
    subst e
    rw [hS] at hT
    cases hT
    rw [bh4,bp5 (by omega),bl,Nat.sub_self]
    exact hv
  refine⟨_,rfl,_,rfl,_,rfl,_,rfl,_,rfl,_,_,_,rfl,rfl,ix,bs,i+1,S,?_,k1,k2,_,rfl,?_⟩
  ·show [PV.lst (eI bs),PV.int (1+(i:Int)),PV.tup (intz S)] = [PV.lst (eI bs),PV.int (((i+1:Nat)):Int),PV.tup (intz S)]
   rw [show (((i+1:Nat)):Int)=1+(i:Int) by omega]
  have bl2:(eI bs).length < 16000000:=by show (List.map PV.bl bs).length < _; rw [bh2]; omega
  cases hw:kT bs (i+1) S with
  | true=>exact bB ⟨trivial,bl2,fin true ⟨fun _=>st.mpr (.inr (hi2.mp hw)),fun _=>rfl⟩⟩
  | false=>
   refine aS ⟨_,rfl,_,rfl,_,rfl,_,_,_,rfl,rfl,ix,ws,ls,_,S,rfl,wb,.inl rfl,k1,fun _=>⟨trivial,bl2,fin _ ?_⟩,fun z=>by rw [sS] at z; cases z⟩
   rw [bj6]
   refine⟨fun z=>st.mpr (.inl ⟨ne,z⟩),fun z=>?_⟩
   rcases st.mp z with z | z
   ·exact z.2
   ·rw [hi2.mpr z] at hw; cases hw
 ·rintro ρ ⟨bs,y,rfl,bl,hb⟩
  rw [e8] at bl hb
  refine⟨_,rfl,trivial,q bs (by omega) fun p S hS=>hb p S ?_ hS⟩
  have:=(bh7.mp hS).1
  omega
open Classical in
noncomputable def fM (ws:List Int) (ls:List (Int × Int)) (S:List Int):Bool:=decide (sB ws ls S)
theorem mF {ws:List Int}{ls:List (Int × Int)}{S:List Int}:fM ws ls S=true ↔ sB ws ls S:=by unfold fM; exact @decide_eq_true_iff _ (Classical.propDecidable _)
noncomputable def kU (ws:List Int) (ls:List (Int × Int)):List (List Int):=(bL (rng ws.length)).filter (fM ws ls)
def xC:cY:=fun Ep xs Q=>∃ ws ls,xs = [bC ws ls]/\Wb ws ls/\(ws.length<=12->(kU ws ls).length < 64/\∀ Z:List (List Int),Z.Perm (kU ws ls)->Z.Pairwise (fun u v=>HT.b6 v u=false)->Q (.lst (tups Z)))/\(12 < ws.length->Ep "TooMany")
section
variable {ws : List Int} {ls : List (Int × Int)}
def cne (ws:List Int) (ls:List (Int × Int)) (S:List Int):Bool:=!decide (S = []) && decide (stay ws ls S=S)
theorem aS4 {a b:List (List Int)} (h:a.Perm b) (ha:a.Pairwise fun u v=>HT.b6 v u=false) (hb:b.Pairwise fun u v=>HT.b6 v u=false):a=b:=
 h.eq_of_pairwise (fun x y _ _ h1 h2=>E2 h2 h1) ha hb
theorem aS5 (h:ws.length<=6):(kU ws ls).length < 64:=by
 have nd:(kU ws ls ++ [[]]).Nodup:=bs1.mpr ⟨(Y1 ws.length).filter _,bl9 _ _,fun a ha b hb e=>by
  rw [bh6.mp hb] at e
  exact (mF.mp (bj8.mp ha).2).1 e⟩
 have sub:∀ S ∈ kU ws ls ++ [[]],S ∈ bL (rng ws.length):=fun S hS=>by
  rcases bj9.mp hS with z | z
  ·exact (bj8.mp z).1
  ·rw [bh6.mp z]; exact (oM _ _).mpr (List.nil_sublist _)
 have:=nd.length_le_of_subset sub
 rw [sC,bi6,bp1] at this
 have:2 ^ ws.length<=2 ^ 6:=Nat.pow_le_pow_right (by decide) h
 omega
theorem kW {x y:Int}:y ∈ aY ls x ↔ (x,y) ∈ ls ∨ (y,x) ∈ ls:=by
 unfold aY
 rw [List.mem_flatMap]
 refine⟨fun ⟨l,hl,h⟩=>?_,fun h=>?_⟩
 ·rcases bj9.mp h with h | h
  ·split at h
   ·rename_i e
    rw [bh6.mp h,<- e]; exact .inl hl
   ·cases h
  ·split at h
   ·rename_i e
    rw [bh6.mp h,<- e]; exact .inr hl
   ·cases h
 ·rcases h with h | h
  ·exact⟨_,h,bs8 _ (by rw [if_pos rfl]; simp)⟩
  ·exact⟨_,h,bl5 _ (by rw [if_pos rfl]; simp)⟩
theorem aS6 {a b:Int × Int} (e:two a=two b):a=b:=by
 unfold two at e
 injection e with e1 e2
 injection e2 with e2 _
 exact Prod.ext e1 e2
end
def far (ns S:List Int):Bool:=decide (((S.filter fun x=>decide (x ∈ ns)).length:Int)=0)
def Z0 (ws:List Int) (ls:List (Int × Int)):List Int->List Int->Bool
 | _,[]=>true
 | B,h :: R=>inB ws.length h && (kin ws ls B h && Z0 ws ls (B ++ [h]) R)
end Core
namespace Raw
open PySem PySem.W PySem.Calls PyProof.Rows
theorem xD {xs:List Nat} (a:xs.Pairwise (· < ·)) {i k:Nat} (hk:k < xs.length) (h:i<=k):xs.getD i 0<=xs.getD k 0:=by
 rcases bm6 i k with z | z
 ·have:=bm5.mp a i k (by omega) hk z
  rw [bh4,bh4,bg9 (by omega),bg9 hk]
  exact bn9 this
 ·rw [Nat.le_antisymm h z]; exact bh1 _
theorem aS7 {xs:Array Nat}{i j:Nat} (h:i < xs.size):xs.getD i j=xs.toList.getD i 0:=by
 rw [bh4,bm7,bt1,bl1 h]; rfl
theorem xE {xs:Array Nat}{j:Nat} (a:xs.toList.Pairwise (· < ·)):∀ (fuel lo hi:Nat),lo<=hi->hi<=xs.size->hi - lo<=fuel->(∀ i,i < lo->xs.toList.getD i 0 < j)->(∀ i,hi<=i->i < xs.size->j<=xs.toList.getD i 0)->
  SetTable.below.go xs j fuel lo hi<=xs.size/\(∀ i,i < SetTable.below.go xs j fuel lo hi->xs.toList.getD i 0 < j)/\∀ i,SetTable.below.go xs j fuel lo hi<=i->i < xs.size->j<=xs.toList.getD i 0
 | 0,lo,hi,h1,h2,h3,h4,h5=>by
  have e:lo=hi:=by omega
  subst e
  exact⟨h2,h4,h5⟩
 | fuel+1,lo,hi,h1,h2,h3,h4,h5=>by
  have sz:xs.toList.length=xs.size:=bj3
  unfold SetTable.below.go
  by_cases lt:lo < hi
  ·rw [if_pos lt]
   dsimp only
   have m1:lo<=(lo+hi) / 2:=by omega
   have m2:(lo+hi) / 2 < hi:=by omega
   rw [aS7 (by omega)]
   by_cases c:xs.toList.getD ((lo+hi) / 2) 0 < j
   ·rw [if_pos c]
    exact xE a fuel _ _ (by omega) h2 (by omega) (fun i hi'=>bw4 (xD a (by omega) (by omega)) c) h5
   ·rw [if_neg c]
    exact xE a fuel _ _ (by omega) (by omega) (by omega) h4 fun i h6 h7=>bk9 (bw1 c) (xD a (by omega) h6)
  ·rw [if_neg lt]
   have e:lo=hi:=by omega
   subst e
   exact⟨h2,h4,h5⟩
theorem xF {xs:Array Nat}{j:Nat} (a:xs.toList.Pairwise (· < ·)):SetTable.below xs j<=xs.size/\(∀ i,i < SetTable.below xs j->xs.toList.getD i 0 < j)/\∀ i,SetTable.below xs j<=i->i < xs.size->j<=xs.toList.getD i 0:=
 xE a xs.size 0 xs.size (bl6 _) (bh1 _) (by omega) (fun i h=>absurd h (bx0 _)) fun i h1 h2=>absurd h2 (by omega)
theorem aS8 {α:Type} (xs:Array α) (p:Nat) (x:α):(SetTable.insertAt xs p x).toList=xs.toList.take p ++ x :: xs.toList.drop p:=by
 unfold SetTable.insertAt
 simp
 exact bk3 (by simp)
theorem aS9 {xs:Array Nat}{j:Nat} (a:xs.toList.Pairwise (· < ·)) (ne:xs[SetTable.below xs j]? ≠ some j):(SetTable.insertAt xs (SetTable.below xs j) j).toList.Pairwise (· < ·):=by
 obtain ⟨b1,b2,b3⟩:=xF (j:=j) a
 have sz:xs.toList.length=xs.size:=bj3
 rw [aS8]
 refine bn1.mpr ⟨a.sublist (List.take_sublist _ _),List.pairwise_cons.mpr ⟨fun x hx=>?_,a.sublist (List.drop_sublist _ _)⟩,fun x hx y hy=>?_⟩
 ·obtain ⟨i,hi,e⟩:=bp2 hx
  rw [br3] at hi
  rw [List.getElem_drop] at e
  have h1:=b3 (SetTable.below xs j) (bh1 _) (by omega)
  have h2:=xD a (i:=SetTable.below xs j) (k:=SetTable.below xs j+i) (by omega) (by omega)
  have h3:xs.toList.getD (SetTable.below xs j+i) 0=x:=by rw [bh4,bg9 (by omega),e]; rfl
  rcases bm6 j x with z | z
  ·exact z
  ·exfalso
   have h4:xs.toList.getD (SetTable.below xs j) 0=j:=by omega
   rw [bh4,bg9 (by omega)] at h4
   refine ne ?_
   rw [<- bm7,bg9 (by omega)]
   exact congrArg some h4
 ·have hx':x < j:=by
   obtain ⟨i,hi,e⟩:=bp2 hx
   rw [br2] at hi
   rw [List.getElem_take] at e
   have:=b2 i (by omega)
   rw [bh4,bg9 (by omega),e] at this
   exact this
  rcases bh5.mp hy with e | hy
  ·rw [e]; exact hx'
  ·obtain ⟨i,hi,e⟩:=bp2 hy
   rw [br3] at hi
   rw [List.getElem_drop] at e
   have:=b3 (SetTable.below xs j+i) (by omega) (by omega)
   rw [bh4,bg9 (by omega),e] at this
   exact bi5 hx' this
structure fX (b:Bool) (t:SetTable):Prop where
 asc:t.place.toList.Pairwise (· < ·)
 dm:t.dummies = #[]
 led:t.led=b
theorem Z1 (j:Nat):SetTable.has #[] j=false:=by
 unfold SetTable.has
 simp
theorem Z2 {t:SetTable} (dm:t.dummies = #[]) {h:Int}{j:Nat}{d:Option Nat}:∀ (fuel:Nat) (p:SetTable.Probe),p.dummy=none->SetTable.probe.go t (fun _=>h+1) h fuel p=some (.empty j d)->d=none/\t.slot j = .empty
 | 0,p,_,e=>by cases e
 | fuel+1,p,hp,e=>by
  unfold SetTable.probe.go at e
  have adv:∀ p:SetTable.Probe,p.dummy=none->(t.advance p).dummy=none:=fun p hp=>by
   unfold SetTable.advance
   split <;> exact hp
  cases hs:t.slot p.j with
  | empty=>
   rw [hs] at e
   cases e
   exact⟨hp,hs⟩
  | dummy=>
   exfalso
   unfold SetTable.slot at hs
   dsimp only at hs
   rw [dm,Z1] at hs
   split at hs <;> cases hs
  | live i=>
   rw [hs] at e
   dsimp only at e
   rw [if_neg (by simp; omega)] at e
   exact Z2 dm fuel _ (adv p hp) e
theorem aT0 {t:SetTable} (dm:t.dummies = #[]) {h:Int}{sl:Nat}{d:Bool} (e:t.freeSlot h=some (sl,d)):t.slot sl = .empty:=by
 unfold SetTable.freeSlot at e
 split at e
 ·rename_i j dummy hm
  obtain ⟨e1,e2⟩:=Z2 dm _ _ rfl hm
  subst e1
  cases e
  exact e2
 ·cases e
theorem sG {b:Bool}{t:SetTable} (h:fX b t) (n:Nat):fX b (t.standIn n):=⟨by
 show (Array.range n).toList.Pairwise (· < ·)
 rw [Array.toList_range]; exact bv7,rfl,h.led⟩
theorem aT1 {b:Bool}{t:SetTable} (h:fX b t) {j:Nat} (hs:t.slot j = .empty):fX b (t.put j).1:=by
 refine⟨?_,?_,h.led⟩
 ·refine aS9 h.asc fun e=>?_
  unfold SetTable.slot at hs
  dsimp only at hs
  rw [if_pos (by rw [e]; exact bq5 _)] at hs
  cases hs
 ·show (if SetTable.has t.dummies j then SetTable.eraseAt t.dummies (SetTable.below t.dummies j) else t.dummies) = #[]
  rw [h.dm,Z1]; rfl
theorem aT2 {b:Bool}{t:SetTable} (h:fX b t) (es:Array (Int × Value)) (k:Int) (x:Value):fX b (layNew t es k x).2.1:=by
 unfold layNew
 split
 ·rename_i sl wd e
  have p:=aT1 h (aT0 h.dm e)
  show fX b (SetTable.orStandIn _ _)
  unfold SetTable.orStandIn
  split
  ·exact p
  ·exact sG p _
 ·exact sG h _
theorem aT3 {b:Bool}{t:SetTable} (h:fX b t) (es:Array (Int × Value)) (n:Nat):fX b (relayAll t es n).2.1:=by
 unfold relayAll
 split
 ·rename_i t' order e
  dsimp only
  split
  ·show fX b t'
   unfold SetTable.relaid SetTable.laid at e
   cases hc:SetTable.layClean (SetTable.sizeAbove n - 1) (es.map (·.1)) with
   | none=>rw [hc] at e; cases e
   | some owner=>
    rw [hc] at e
    cases e
    refine⟨?_,rfl,h.led⟩
    show (List.map _ _).Pairwise (· < ·)
    refine bl7.mpr (List.Pairwise.filterMap _ (R:=(· < ·)) ?_ bv7)
    intro i i' hlt x hx y hy
    cases ho:owner.getD i none with
    | none=>rw [ho] at hx; cases hx
    | some v=>
     rw [ho] at hx
     cases ho2:owner.getD i' none with
     | none=>rw [ho2] at hy; cases hy
     | some v2=>
      rw [ho2] at hy
      cases hx; cases hy
      exact hlt
  ·exact sG h _
 ·exact sG h _
theorem xG {us vs:List Value} (p:us.Perm vs):∀ {ns:List Int},IntsAre vs ns->∃ ms,IntsAre us ms/\ms.Perm ns:=by
 induction p with
 | nil=>intro ns h; exact⟨ns,h,bu8 _⟩
 | cons x _ ih=>
  intro ns h
  cases h with
  | cons n t r=>
   obtain ⟨ms,h1,h2⟩:=ih r
   exact⟨n :: ms,.cons n t h1,h2.cons n⟩
 | swap x y l=>
  intro ns h
  cases h with
  | cons n t r=>
   cases r with
   | cons n' t' r=>
    exact⟨n' :: n :: _,.cons n' t' (.cons n t r),List.Perm.swap _ _ _⟩
 | trans _ _ ih1 ih2=>
  intro ns h
  obtain ⟨ms,h1,h2⟩:=ih2 h
  obtain ⟨ms',h3,h4⟩:=ih1 h1
  exact⟨ms',h3,h4.trans h2⟩
theorem Z3:∀ {us:List Value}{ns:List Int},IntsAre us ns->∀ (k:Int) (t:Nat),IntsAre (us ++ [.int k t]) (ns ++ [k])
 | _,_,.nil,k,t=>.cons k t .nil
 | _,_,.cons n u r,k,t=>.cons n u (Z3 r k t)
theorem sH:∀ {us:List Value}{ns:List Int},IntsAre us ns->∀ k:Int,k ∈ ns ↔ ∃ t,Value.int k t ∈ us
 | _,_,.nil,k=>⟨(fun h=>nomatch h),(fun ⟨_,h⟩=>nomatch h)⟩
 | _,_,.cons n u r,k=>by
  constructor
  ·intro h
   rcases bh5.mp h with e | h
   ·exact⟨u,by rw [e]; exact bi0⟩
   ·obtain ⟨t,ht⟩:=(sH r k).mp h
    exact⟨t,bi3 _ ht⟩
  ·rintro ⟨t,h⟩
   rcases bh5.mp h with e | h
   ·cases e; exact bi0
   ·exact bi3 _ ((sH r k).mpr ⟨t,h⟩)
abbrev cF (es:Array (Int × Value)) (ep:Nat) (t:SetTable):Obj:={ cls:=.type "set",dict:=none,data:=.set es ep t,slots:=#[] }
section
variable {prog : Program} {w : World} {A : Around} {E : Value → Shared → Prop} {s : Shared}
def mG (prog:Program) (w:World) (es:Array (Int × Value)) (t:SetTable) (ms:List Int):Prop:=ElemsOf (intKind prog w) es.toList/\IntsAre (es.toList.map (·.2)) ms/\es.size < scanBound/\t.fits es.size=true/\fX (!w.params.followText "set-order") t
def iX (prog:Program) (w:World) (h:Heap) (a:Addr) (ms:List Int):Prop:=∃ es ep t,h.get? a=some (cF es ep t)/\mG prog w es t ms
theorem Z4 {h:Heap}{a:Addr}{es es':Array (Int × Value)}{ep:Nat}{t t':SetTable} (ho:h.get? a=some (cF es ep t)):(h.update a (Obj.putSet es' t')).get? a=some (cF es' (ep+1) t'):=by
 have:=bo4 (Obj.putSet es' t') ho (by rw [putSet_of es' t' (rfl:(cF es ep t).data=_)]; rfl)
 rw [putSet_of es' t' (rfl:(cF es ep t).data=_)] at this
 exact this
theorem add_int {a:Addr}{ms:List Int}{k:Int}{u:Nat}{Q:Bool->Shared->Prop} (hS:iX prog w s.heap a ms) (room:ms.length+1 < scanBound)
  (h:∀ b h' ms',Heap.SameBut a s.heap h'->iX prog w h' a ms'->(k ∈ ms->ms'.Perm ms)->(k ∉ ms->ms'.Perm (ms ++ [k]))->Q b { s with heap:=h' }) :
  wpAny (model prog w) A (setAddHashed a (.int k u) ((intKind prog w).hash k)) Q E s:=by
 obtain ⟨es,ep,t,ho,hel,hi,hb,hf,tk⟩:=hS
 have key:(intKind prog w).is k (.int k u)=true:=intKind_is _ _ _ _
 have ln:ms.length=es.size:=by
  have:=IntsAre.length hi
  rw [bh2,bj3] at this
  exact this.symm
 have isk:∀ v,(intKind prog w).is k v=true->∃ u,v = .int k u:=fun v hv=>Value.isInt_shape hv
 unfold setAddHashed setAddHashedIn
 refine bq4 (bg5 (bx3 ho rfl hf ?_))
 dsimp only
 rw [byScan_of (knd:=intKind prog w) (x:=.int k u) rfl hb hel,if_pos rfl]
 unfold setAddByScan
 refine bg5 (bg5 (bu1 ?_))
 refine bg5 (wpAny_setScan_of key ho rfl hf hel ?_)
 cases hr:List.findIdx? (fun e=>(intKind prog w).is k e.2) es.toList with
 | some j=>
  dsimp only
  obtain ⟨hj,hp,_⟩:=List.findIdx?_eq_some_iff_getElem.mp hr
  have km:k ∈ ms:=by
   obtain ⟨u',e⟩:=isk _ hp
   exact (sH hi k).mpr ⟨u',by rw [<- e]; exact bl4.mpr ⟨_,bp6 hj,rfl⟩⟩
  have e:s={ s with heap:=s.heap }:=by cases s; rfl
  rw [e]
  exact bg8 (bg8 (h _ s.heap ms (Heap.SameBut.refl a s.heap) ⟨es,ep,t,ho,hel,hi,hb,hf,tk⟩ (fun _=>bu8 _) fun n=>absurd km n))
 | none=>
  dsimp only
  have km:k ∉ ms:=fun z=>by
   obtain ⟨u',hm⟩:=(sH hi k).mp z
   obtain ⟨e,he,e2⟩:=bl4.mp hm
   have:=List.findIdx?_eq_none_iff.mp hr e he
   rw [e2,intKind_is _ _ _ _] at this; cases this
  have lp:=layNew_perm t es ((intKind prog w).hash k) (.int k u)
  have lf:=layNew_fits t es ((intKind prog w).hash k) (.int k u)
  have lk:=aT2 tk es ((intKind prog w).hash k) (.int k u)
  generalize hL:layNew t es ((intKind prog w).hash k) (.int k u)=L at lp lf lk ⊢
  obtain ⟨es1,t1,wd,gave⟩:=L
  dsimp only at lp lf lk ⊢
  rw [Array.toList_push] at lp
  have el1:ElemsOf (intKind prog w) es1.toList:=(hel.push key rfl).perm lp
  have sz1:es1.size=es.size+1:=by rw [<- bj3,lp.length_eq,bi6,bj3]; rfl
  obtain ⟨ms1,i1,p1⟩:∃ ms1,IntsAre (es1.toList.map (·.2)) ms1/\ms1.Perm (ms ++ [k]):=xG (lp.map (·.2)) (by rw [bj4]; exact Z3 hi k u)
  have hb1:es1.size < scanBound:=by omega
  have gw:∀ (b:Bool) (s₁:Shared) (Q':Unit->Shared->Prop),Q' () s₁->wpAny (model prog w) A (match b with | true=>rule "set.scan.the-table-gave-way" | false=>pure ()) Q' E s₁:=fun b s₁ Q' hq=>by
   cases b
   ·exact bg8 hq
   ·exact bu1 hq
  refine bg5 (gw _ _ _ ?_)
  split <;> (
   show wpAny _ _ (storeSet a es1 t1 >>= _) _ _ _
   simp only [↓reduceIte]
   refine bg5 (wpAny_storeSet_of ho rfl ?_ (fits_of_scanBound hb1))
   have ho1:=Z4 (es':=es1) (t':=t1) ho
   have sb1:=bm9 s.heap a (Obj.putSet es1 t1)
   split
   ·have rp:=relayAll_perm t1 es1 (SetTable.grown es1.size)
    have rf:=relayAll_fits t1 es1 (SetTable.grown es1.size)
    have rk:=aT3 lk es1 (SetTable.grown es1.size)
    generalize relayAll t1 es1 (SetTable.grown es1.size)=L at rp rf rk ⊢
    obtain ⟨es2,t2,gave2⟩:=L
    dsimp only at rp rf rk ⊢
    have sz2:es2.size=es1.size:=by rw [<- bj3,rp.length_eq,bj3]
    obtain ⟨ms2,i2,p2⟩:=xG (rp.map (·.2)) i1
    refine bg5 (gw _ _ _ ?_)
    refine bg5 (wpAny_storeSet_of ho1 rfl ?_ (fits_of_scanBound (by omega)))
    exact bg8 (bg8 (h _ _ ms2 (sb1.trans (bm9 _ a _)) ⟨es2,_,t2,Z4 ho1,el1.perm rp,i2,by omega,rf,rk⟩ (fun z=>absurd z km) fun _=>p2.trans p1))
   ·exact bg8 (bg8 (h _ _ ms1 sb1 ⟨es1,_,t1,ho1,el1,i1,hb1,lf,lk⟩ (fun z=>absurd z km) fun _=>p1)))
end
section
variable {prog : Program} {w : World} {A : Around} {R : Result → Shared → Prop} {I : Addr} {fp wr : List Addr} {G : Array GenState → Array GenState → Prop} {n : Nat} {P : Nat → Value → Prop} {St : Nat → Shared → Prop}
theorem iX.at' {h h':Heap}{a:Addr}{ms:List Int} (x:iX prog w h a ms) (k:∀ o,h.get? a=some o->h'.get? a=some o):iX prog w h' a ms:=by
 obtain ⟨es,ep,t,ho,r⟩:=x
 exact⟨es,ep,t,k _ ho,r⟩
theorem aT4 (W:WalksS prog w A.in1 I fp wr G n P St) (a:Addr) (af:a ∉ fp) (val:Nat->Int) (hval:∀ i v,P i v->∃ t,v = .int (val i) t) (hb:n+1 < scanBound) :
  ∀ (k i:Nat) (s:Shared) (ms:List Int),n - i=k->i<=n->St i s->iX prog w s.heap a ms->ms.Nodup->ms.length<=i->(∀ x,x ∈ ms ↔ ∃ j,j < i/\val j=x)->
   (∀ s' ms',Moved (a :: wr) G s s'->iX prog w s'.heap a ms'->ms'.Nodup->(∀ x,x ∈ ms' ↔ ∃ j,j < n/\val j=x)->R (.ok (.ret .none)) s')->
   codeAny (model prog w) A (.builtin "set.update.loop" ⟨[.ref a,.ref I],[]⟩) R s:=by
 have aw:a ∉ wr:=fun h=>af (W.sub _ h)
 have up:∀ b ∈ wr,b ∈ a :: wr:=fun b hb=>bi3 _ hb
 intro k
 induction k with
 | zero=>
  intro i s ms hk hi st hS nd _ mem hR
  obtain rfl:i=n:=by omega
  refine bv2 F.entry_set_update_loop ?_
  rw [bt0 F.plain_set_update_loop _]
  show wpAny _ A.in1 (pyNext (.ref I) >>= _) _ _ s
  refine bg5 (W.done s _ _ st fun s' hm=>?_)
  show wpAny _ A.in1 (ret Value.none) _ _ s'
  exact bg8 (hR s' ms (hm.mono up) (hS.at' fun o e=>hm.heap a _ aw e) nd mem)
 | succ k ih=>
  intro i s ms hk hi st hS nd ln mem hR
  have lt:i < n:=by omega
  refine bv2 F.entry_set_update_loop ?_
  rw [bt0 F.plain_set_update_loop _]
  show wpAny _ A.in1 (pyNext (.ref I) >>= _) _ _ s
  refine bg5 (W.item i s _ _ lt st fun v s' hP st' hm=>?_)
  obtain ⟨t,rfl⟩:=hval i v hP
  have hS':iX prog w s'.heap a ms:=hS.at' fun o e=>hm.heap a _ aw e
  show wpAny _ A.in1 (holding [Value.int (val i) t] (setAdd a (.int (val i) t)) >>= _) _ _ s'
  refine bg5 (bq4 ?_)
  unfold setAdd
  refine bq4 (bg5 ((intKind prog w).pyHash (k:=val i) (intKind_is _ _ _ _) ?_))
  refine add_int (s:={ s' with toks:=s'.toks+1 }) hS' (by omega) fun b h' ms' sb S2 p1 p2=>?_
  have nd':ms'.Nodup:=by
   by_cases z:val i ∈ ms
   ·exact (p1 z).nodup_iff.mpr nd
   ·exact (p2 z).nodup_iff.mpr (bs1.mpr ⟨nd,bl9 _ _,fun x hx y hy e=>z (by rw [bh6.mp hy] at e; rw [<- e]; exact hx)⟩)
  have ln':ms'.length<=i+1:=by
   by_cases z:val i ∈ ms
   ·rw [(p1 z).length_eq]; omega
   ·rw [(p2 z).length_eq,bi6,bp1]; omega
  have mem':∀ x,x ∈ ms' ↔ ∃ j,j < i+1/\val j=x:=fun x=>by
   have:x ∈ ms' ↔ x ∈ ms ∨ x=val i:=by
    by_cases z:val i ∈ ms
    ·rw [(p1 z).mem_iff]
     exact⟨.inl,fun h=>h.elim id fun e=>by rw [e]; exact z⟩
    ·rw [(p2 z).mem_iff,bj9,bh6]
   rw [this,mem x]
   constructor
   ·rintro (⟨j,hj,e⟩ | e)
    ·exact⟨j,by omega,e⟩
    ·exact⟨i,by omega,e.symm⟩
   ·rintro ⟨j,hj,e⟩
    by_cases z:j=i
    ·exact .inr (by rw [<- e,z])
    ·exact .inl ⟨j,by omega,e⟩
  refine bg8 ⟨plainId_quiet F.plain_set_update_loop _,ih (i+1) _ ms' (by omega) lt (W.frame _ s' _ _ st' (by5 _) fun b hb o e=>?_) S2 nd' ln' mem' fun s2 ms2 m2 hS2 n2 me2=>?_⟩
  ·rw [sb.2 b fun z:b=a=>af (by rw [<- z]; exact hb)]; exact e
  ·refine hR s2 ms2 (Moved.trans W.gtrans ((hm.mono up).then_heap (by5 _) fun b o hb e=>?_) m2) hS2 n2 me2
   rw [sb.2 b fun z:b=a=>hb (by rw [z]; exact bi0)]; exact e
end
section
variable {prog : Program} {w : World} {A : Around} {E : Value → Shared → Prop} {s : Shared} {l : Addr} {items : Array Value} {ns : List Int}
def sI (prog:Program) (w:World) (ns:List Int) (h h':Heap):Prop:=(∃ ms,iX prog w h' h.objs.size ms/\ms.Nodup/\∀ x,x ∈ ms ↔ x ∈ ns)/\∀ b o,b < h.objs.size->h.get? b=some o->h'.get? b=some o
theorem aT5 (a:Value) {Q₁:Value->Shared->Prop} (h:Q₁ (.ref s.heap.objs.size) { s with heap:=s.heap.push (gH (!w.params.followText "set-order")) }) :
  codeAny (model prog w) A (.call (.builtin "set.__new__") ⟨[.type "set",a],[]⟩) (wants Q₁ E) s:=by
 refine codeAny_of_tree ?_
 show wpAny _ A.in1 (do checkBuiltinCall "set.__new__" ⟨[.type "set",a],[]⟩; again (.builtin "set.__new__" ⟨[.type "set",a],[]⟩)) _ _ s
 refine bg5 (wpAny_of_eq (F.newCall_set_1 a) (bg8 ⟨plainId_quiet F.plain_set_new _,bv2 F.entry_set_new ?_⟩))
 rw [bt0 F.plain_set_new _]
 unfold Builtin.«set.__new__» Builtin.Frozenset.newClass
 have hsub:=sub_set_self
 obtain ⟨hp,g,d,tk,os⟩:=s
 dsimp only
 wp_walk
 refine wpAny_askSetting (bg8 ?_)
 dsimp only
 simp only [newObj]
 refine bg5 (wpAny_alloc (bg8 ?_))
 exact bg8 h
end
theorem aT6:entryFor table "set.__iter__" = some Builtin.«frozenset.__iter__»:=entryFor_alias (id':="frozenset.__iter__") (by kernel_rfl) rfl (by decide +kernel) (by kernel_rfl)
theorem gL:Slot "set_iterator" "__next__" "set_iterator.__next__":=
 .of (owner:="set_iterator") (n:="__next__") (by rw [typeLookup_type,builtinLookup_eq_fast]; kernel_rfl) (by decide +kernel) (by decide +kernel) (by decide +kernel) (by first | exact .inl (by decide +kernel) | exact .inr (by decide +kernel)) (by rw [isSubtype_type]; kernel_rfl)
theorem sJ:entryFor table "set_iterator.__next__" = some Builtin.«set_iterator.__next__»:=entryFor_of_tree (by kernel_rfl)
theorem Z5:Manifest.owners.lookup (String.ofList ['r','o','t','a','r','e','t','i','_','t','e','s'].reverse)=some Manifest.sig_set_iterator:=by kernel_rfl
theorem sK (a:Value):argsOk "set_iterator.__next__" ⟨[a],[]⟩:=by
 unfold argsOk; rw [signature?_of (id:="set_iterator.__next__") (n:=['_','_','t','x','e','n','_','_']) (o:=['r','o','t','a','r','e','t','i','_','t','e','s']) (by kernel_rfl) Z5]; kernel_rfl
theorem aT7:entryFor table "set_iterator.__iter__" = some Builtin.«dict_keyiterator.__iter__»:=
 entryFor_alias (id':="dict_keyiterator.__iter__") (by kernel_rfl) (by first | rfl | decide +kernel | (unfold String.splitOn; simp +decide [String.splitOnAux])) (by decide +kernel) (by kernel_rfl)
theorem Z6:Slot "set_iterator" "__iter__" "set_iterator.__iter__":=
 .of (owner:="set_iterator") (n:="__iter__") (by rw [typeLookup_type,builtinLookup_eq_fast]; kernel_rfl) (by decide +kernel) (by decide +kernel) (by decide +kernel) (by first | exact .inl (by decide +kernel) | exact .inr (by decide +kernel)) (by rw [isSubtype_type]; kernel_rfl)
theorem aT8 (a:Value):argsOk "set_iterator.__iter__" ⟨[a],[]⟩:=by
 unfold argsOk; rw [signature?_of (id:="set_iterator.__iter__") (n:=['_','_','r','e','t','i','_','_']) (o:=['r','o','t','a','r','e','t','i','_','t','e','s']) (by kernel_rfl) Z5]; kernel_rfl
section
variable {prog : Program} {w : World} {A : Around} {E : Value → Shared → Prop} {s : Shared} {I a : Addr} {es : Array (Int × Value)} {ep : Nat} {t : SetTable}
abbrev fN (f:Value) (i:Nat) (a:Addr) (n ep:Nat):Obj:={ cls:=.type "set_iterator",data:=.fields #[f,.int i 0,.ref a,.int n 0,.int ep 0] }
theorem aT9 {f:Value}{i:Nat}{Q:Option Value->Shared->Prop} (hi:s.heap.get? I=some (fN f i a es.size ep)) (ha:s.heap.get? a=some (cF es ep t)) (hf:t.fits es.size=true) (ne:I ≠ a) {sl sl':Nat}{x:Value} (ef:f = .int sl 0)
  (hn:∀ (s:Shared) (Q:Option (Value × Nat)->Shared->Prop) (E:Value->Shared->Prop) (A:Around),s.heap.get? a=some (cF es ep t)->Q (some (x,sl')) s->wpAny (model prog w) A (setNext a sl i ep) Q E s)
  (hQ:∀ h',h'.get? I=some (fN (.int sl' 0) (i+1) a es.size ep)->Heap.SameBut I s.heap h'->Q (some x) { s with heap:=h' }):wpAny (model prog w) A (pyNext (.ref I)) Q E s:=by
 have hT:s.TypeIs (.ref I) "set_iterator":=⟨_,hi,rfl⟩
 subst ef
 unfold pyNext
 refine bg5 (bu6 (bl3 (name:=Str.ofString "__next__") hT gL (bl0 gL hT sJ ?_ (sK _))))
 unfold Builtin.«set_iterator.__next__»
 refine bg5 (bg8 ?_)
 refine bg5 (wpAny_fieldsOf hi rfl ?_)
 dsimp only
 refine bg5 (wpAny_setEntries_of ha rfl hf ?_)
 rw [if_neg (by simp)]
 refine bg5 (hn _ _ _ _ ha ?_)
 dsimp only
 refine bg5 (bt5 hi rfl (by simp) ?_)
 have h1:(s.heap.update I (Obj.mapFields (·.setIfInBounds 0 (rawInt sl')))).get? I=some (fN (.int sl' 0) i a es.size ep):=by
  have:=bo4 (Obj.mapFields (·.setIfInBounds 0 (rawInt sl'))) hi rfl
  exact this
 refine bg5 (bt5 h1 rfl (by simp) ?_)
 have h2:=bo4 (Obj.mapFields (·.setIfInBounds 1 (rawInt ((i:Int)+1)))) h1 rfl
 exact bg8 ⟨_,rfl,bg8 (hQ _ h2 ((bm9 ..).trans (bm9 ..)))⟩
theorem aU0 {f:Value}{i:Nat}{Q:Option Value->Shared->Prop} (hh:A.handled=none) (hi:s.heap.get? I=some (fN f i a es.size ep)) (ha:s.heap.get? a=some (cF es ep t)) (hf:t.fits es.size=true) {sl:Nat} (ef:f = .int sl 0)
  (hn:∀ (s:Shared) (Q:Option (Value × Nat)->Shared->Prop) (E:Value->Shared->Prop) (A:Around),s.heap.get? a=some (cF es ep t)->Q none s->wpAny (model prog w) A (setNext a sl i ep) Q E s)
  (hQ:∀ h',Heap.ExtBut I s.heap h'->Q none { s with heap:=h' }):wpAny (model prog w) A (pyNext (.ref I)) Q E s:=by
 have hT:s.TypeIs (.ref I) "set_iterator":=⟨_,hi,rfl⟩
 subst ef
 unfold pyNext
 refine bg5 (bu6 (bl3 (name:=Str.ofString "__next__") hT gL (bl0 gL hT sJ ?_ (sK _))))
 unfold Builtin.«set_iterator.__next__»
 refine bg5 (bg8 ?_)
 refine bg5 (wpAny_fieldsOf hi rfl ?_)
 dsimp only
 refine bg5 (wpAny_setEntries_of ha rfl hf ?_)
 rw [if_neg (by simp)]
 refine bg5 (hn _ _ _ _ ha ?_)
 dsimp only
 refine bg5 (bt5 hi rfl (by simp) ?_)
 refine bg5 ?_
 simp only [newExc,newTuple]
 refine bg5 (bk7 ?_ (by size_fits))
 refine bg5 (m:=firstArgMember _ _) (wpAny_of_eq (a:=Value.none) (by first | rfl | (simp only [firstArgMember]; rfl)) ?_)
 refine bk7 ?_ (by size_fits)
 simp only [raiseNew]
 refine bg5 (wpAny_handled ?_)
 rw [show A.in1.handled=none from hh]
 refine bg5 (bg8 (wpAny_throw ?_))
 refine bg5 (bw2 (T:="StopIteration") (b:=true) ⟨_,bh8 _ rfl,rfl⟩ isSubtype_stop ?_)
 exact bg8 (hQ _ (((bm9 ..).extBut.push _).push _))
end
section
variable {prog : Program} {w : World} {A : Around} {E : Value → Shared → Prop} {s : Shared} {I a : Addr} {es : Array (Int × Value)} {ep : Nat} {t : SetTable}
theorem Z7 {f:Value}{i n:Nat}{Q:Value->Shared->Prop} (hi:s.heap.get? I=some (fN f i a n ep)) (h:Q (.ref I) s):wpAny (model prog w) A (pyIter (.ref I)) Q E s:=by
 have hT:s.TypeIs (.ref I) "set_iterator":=⟨_,hi,rfl⟩
 refine wpAny_pyIter_slot hT Z6 (bl0 Z6 hT aT7 ?_ (aT8 _))
 show wpAny _ _ (ret (.ref I)) _ _ s
 exact bg8 ⟨_,rfl,"set_iterator",_,hT,gL.lookup,h⟩
theorem aU1 (hh:A.handled=none) (ne:I ≠ a) (hf:t.fits es.size=true) (O:List Value) (len:O.length=es.size) (sl:Nat->Nat)
  (hn:∀ i x,O[i]? = some x->∀ (s:Shared) (Q:Option (Value × Nat)->Shared->Prop) (E:Value->Shared->Prop) (A:Around),s.heap.get? a=some (cF es ep t)->Q (some (x,sl (i+1))) s->wpAny (model prog w) A (setNext a (sl i) i ep) Q E s)
  (he:∀ (s:Shared) (Q:Option (Value × Nat)->Shared->Prop) (E:Value->Shared->Prop) (A:Around),s.heap.get? a=some (cF es ep t)->Q none s->wpAny (model prog w) A (setNext a (sl es.size) es.size ep) Q E s) :
  Walks prog w A I [I,a] [I] es.size (fun i v=>O[i]? = some v) (fun i h=>h.get? I=some (fN (.int (sl i) 0) i a es.size ep)/\h.get? a=some (cF es ep t)) where
 sub:=fun b hb=>by rw [bh6.mp hb]; exact bi0
 frame:=fun _ _ _ st hk=>⟨hk I bi0 _ st.1,hk a (bi3 _ bi0) _ st.2⟩
 item:=fun i s Q E hi st hQ=>by
  have ho:O[i]? = some O[i]:=bg9 (by omega)
  refine aT9 st.1 st.2 hf ne rfl (hn i _ ho) fun h' g sb=>?_
  have e:s={ s with heap:=s.heap }:=by cases s; rfl
  exact hQ _ h' s.toks ho ⟨g,by rw [sb.2 a (Ne.symm ne)]; exact st.2⟩ fun b o hb e=>by rw [sb.2 b fun z=>hb (by rw [z]; exact List.mem_singleton_self _)]; exact e
 done:=fun s Q E st hQ=>aU0 hh st.1 st.2 hf rfl he fun h' eb=>hQ h' s.toks fun b o hb e=>eb b o (fun z=>hb (by rw [z]; exact List.mem_singleton_self _)) e
 self:=fun i s Q E st hQ=>Z7 st.1 hQ
theorem Z8 (bt:w.params.followText "set-order" = true) (hf:t.fits es.size=true) {i:Nat}{sl:Nat}{Q:Option (Value × Nat)->Shared->Prop} (ha:s.heap.get? a=some (cF es ep t))
  (h:Q (((pickOrder (w.params.setOrder a ep) es)[i]?).map fun e=>(e.2,sl)) s):wpAny (model prog w) A (setNext a sl i ep) Q E s:=by
 unfold setNext setsByText
 refine bg5 (bx3 ha rfl hf ?_)
 refine bg5 (bg5 (wpAny_askSetting (bg8 ?_)))
 rw [show ((⟨(model prog w).prog,(model prog w).w.params⟩:Setting).params.followText "set-order")=true from bt,if_pos rfl,if_neg (by simp)]
 refine bg5 ?_
 unfold setWalk setsByText
 refine bg5 (bx3 ha rfl hf ?_)
 refine bg5 (bg5 (wpAny_askSetting (bg8 ?_)))
 rw [show ((⟨(model prog w).prog,(model prog w).w.params⟩:Setting).params.followText "set-order")=true from bt,if_pos rfl]
 refine bg5 (wpAny_askSetting (bg8 ?_))
 exact bg8 h
theorem Z9 (bt:w.params.followText "set-order" = false) (hf:t.fits es.size=true) (tk:fX (!w.params.followText "set-order") t) (pl:(!t.plain && decide (es.size > 1))=false) {i sl:Nat}{Q:Option (Value × Nat)->Shared->Prop} (ha:s.heap.get? a=some (cF es ep t))
  (h:Q (match es[SetTable.below t.place sl]?,t.place[SetTable.below t.place sl]? with | some (_,x),some j=>some (x,j+1) | _,_=>none) s):wpAny (model prog w) A (setNext a sl i ep) Q E s:=by
 unfold setNext setsByText
 refine bg5 (bx3 ha rfl hf ?_)
 refine bg5 (bg5 (wpAny_askSetting (bg8 ?_)))
 rw [show ((⟨(model prog w).prog,(model prog w).w.params⟩:Setting).params.followText "set-order")=false from bt,if_neg (by decide)]
 have ld:t.led=true:=by rw [tk.led,bt]; rfl
 show wpAny _ _ (if (!t.plain && decide (es.size > 1))=true then _ else _) _ _ _
 rw [pl,if_neg (by decide)]
 refine bg5 ?_
 show wpAny _ _ (if (!t.led && !es.isEmpty)=true then _ else _) _ _ _
 rw [ld,if_neg (by simp)]
 exact bg8 (bg8 h)
end
theorem aa0 {α:Type}{l:List α}{i:Nat} (h:i < l.length):(l[i] :: l.eraseIdx i).Perm l:=by
 have e:l=l.take i ++ l[i] :: l.drop (i+1):=by rw [<- br5 h,bk8]
 rw [List.eraseIdx_eq_take_drop_succ]
 exact List.perm_middle.symm.trans (by rw [<- e])
theorem aa1 {prog:Program}{w:World}{A:Around}{E:Value->Shared->Prop}{s:Shared}{p:Addr}{o:Obj}{xs:Array Value}{n:Nat}{Q:Option (Array Value)->Shared->Prop} (ho:s.heap.get? p=some o) (hd:o.data = .seq xs n) (h:Q (some xs) s):wpAny (model prog w) A (seqItems? (.ref p)) Q E s:=by
 unfold seqItems?
 refine bg5 (wpAny_load ho ?_)
 rw [hd]
 exact bg8 h
theorem aa2 {α:Type}{next:Nat->Nat}:∀ (fuel k:Nat) (left:List α) (out:Array α),left.length<=fuel->(pickOrder.go next fuel k left out).toList.Perm (out.toList ++ left)
 | 0,k,left,out,h=>by
  have:left = []:=bu9 (by omega)
  subst this
  rw [bk6]; exact bu8 _
 | fuel+1,k,left,out,h=>by
  unfold pickOrder.go
  cases hx:left[next k % left.length]? with
  | none=>
   have:left = []:=by
    cases left with
    | nil=>rfl
    | cons a r=>
     have:=List.getElem?_eq_none_iff.mp hx
     have:=Nat.mod_lt (next k) (show 0 < (a :: r).length from Nat.zero_lt_succ _)
     omega
   subst this
   rw [bk6]
  | some x=>
   obtain ⟨hi,e⟩:=bh7.mp hx
   have p:=aa0 hi
   rw [e] at p
   have lp:=p.length_eq
   rw [bk2] at lp
   refine (aa2 fuel (k+1) _ _ (by omega)).trans ?_
   rw [Array.toList_push,bj2]
   exact p.append_left _
theorem aa3 {α:Type} (next:Nat->Nat) (xs:Array α):(pickOrder next xs).toList.Perm xs.toList:=aa2 xs.size 0 xs.toList #[] (by rw [bj3]; exact bh1 _)
def jS (xs:List Nat):Nat->Nat
 | 0=>0
 | i+1=>xs.getD i 0+1
theorem aa4 {xs:Array Nat} (a:xs.toList.Pairwise (· < ·)):∀ i,i<=xs.size->SetTable.below xs (jS xs.toList i)=i
 | 0,_=>by
  obtain ⟨_,b2,_⟩:=xF (j:=jS xs.toList 0) a
  rcases Nat.eq_zero_or_pos (SetTable.below xs (jS xs.toList 0)) with z | z
  ·exact z
  ·exact absurd (b2 0 z) (bx0 _)
 | i+1,hi=>by
  obtain ⟨b1,b2,b3⟩:=xF (j:=jS xs.toList (i+1)) a
  have sz:xs.toList.length=xs.size:=bj3
  have e:jS xs.toList (i+1)=xs.toList.getD i 0+1:=rfl
  rcases Nat.lt_trichotomy (SetTable.below xs (jS xs.toList (i+1))) (i+1) with z | z | z
  ·have:=b3 i (by omega) (by omega)
   omega
  ·exact z
  ·have h1:=b2 (i+1) z
   have h2:=bm5.mp a i (i+1) (by omega) (by omega) (by omega)
   rw [e,bh4,bh4,bg9 (by omega),bg9 (by omega)] at h1
   exact absurd h1 (by show ¬ xs.toList[i+1] < xs.toList[i]+1; omega)
theorem aU2 {prog:Program}{w:World}{A:Around}{E:Value->Shared->Prop}{s:Shared}{src:Source}{n:Nat}{Q:Nat->Shared->Prop} (hn:n ≠ 0) (h:∀ i d,i < n->Q i { s with drawn:=d }):wpAny (model prog w) A (choose src n) Q E s:=
 fun _ _ _=>⟨hn,h _ _ (Nat.mod_lt _ (Nat.pos_of_ne_zero hn))⟩
section
variable {prog : Program} {w : World} {A : Around} {E : Value → Shared → Prop}
theorem aa5 {α:Type}:∀ (n:Nat) (xs:List α) (s:Shared) {Q:List α->Shared->Prop},xs.length<=n->(∀ ys d,ys.Perm xs->Q ys { s with drawn:=d })->wpAny (model prog w) A (drawOrder n xs) Q E s
 | 0,xs,s,Q,hl,h=>by
  have:xs = []:=bu9 (by omega)
  subst this
  exact bg8 (h [] s.drawn (bu8 _))
 | n+1,[],s,Q,hl,h=>bg8 (h [] s.drawn (bu8 _))
 | n+1,x :: r,s,Q,hl,h=>by
  unfold drawOrder
  refine bg5 (aU2 (Nat.succ_ne_zero _) fun i d hi=>?_)
  rw [bg9 hi]
  have p:=aa0 hi
  have lp:=p.length_eq
  rw [bk2] at lp
  refine bg5 (aa5 n _ _ (by omega) fun ys d' py=>bg8 ?_)
  exact h _ d' ((py.cons _).trans p)
end
section
variable {prog : Program} {w : World} {A : Around} {E : Value → Shared → Prop} {s : Shared} {I a p : Addr} {es : Array (Int × Value)} {ep : Nat} {t : SetTable}
theorem aU3 {i j:Nat}{ps:Array Value}{x:Int × Value}{Q:Option Value->Shared->Prop} (hi:s.heap.get? I=some (fN (.ref p) i a es.size ep)) (ha:s.heap.get? a=some (cF es ep t)) (hf:t.fits es.size=true) (hp:s.heap.IsTuple p ps) (hj:ps[i]? = some (.int j 0)) (hx:es[j]? = some x)
  (hQ:∀ h',h'.get? I=some (fN (.ref p) (i+1) a es.size ep)->Heap.SameBut I s.heap h'->Q (some x.2) { s with heap:=h' }):wpAny (model prog w) A (pyNext (.ref I)) Q E s:=by
 have hT:s.TypeIs (.ref I) "set_iterator":=⟨_,hi,rfl⟩
 obtain ⟨op,hop,hc,nl,hd⟩:=hp
 unfold pyNext
 refine bg5 (bu6 (bl3 (name:=Str.ofString "__next__") hT gL (bl0 gL hT sJ ?_ (sK _))))
 unfold Builtin.«set_iterator.__next__»
 refine bg5 (bg8 ?_)
 refine bg5 (wpAny_fieldsOf hi rfl ?_)
 dsimp only
 refine bg5 (wpAny_setEntries_of ha rfl hf ?_)
 rw [if_neg (by simp)]
 refine bg5 (aa1 hop hd ?_)
 dsimp only
 rw [br8,hj]
 dsimp only
 unfold setNextDrawn
 refine bg5 (bg5 (bx3 ha rfl hf ?_))
 dsimp only
 rw [if_neg (by simp),br8,hx]
 refine bg8 ?_
 refine bg5 (bt5 hi rfl (by simp) ?_)
 have h2:=bo4 (Obj.mapFields (·.setIfInBounds 1 (rawInt ((i:Int)+1)))) hi rfl
 exact bg8 ⟨_,rfl,bg8 (hQ _ h2 (bm9 ..))⟩
theorem aU4 {i:Nat}{ps:Array Value}{Q:Option Value->Shared->Prop} (hh:A.handled=none) (hi:s.heap.get? I=some (fN (.ref p) i a es.size ep)) (ha:s.heap.get? a=some (cF es ep t)) (hf:t.fits es.size=true) (hp:s.heap.IsTuple p ps) (hj:ps[i]? = none)
  (hQ:∀ h',Heap.ExtBut I s.heap h'->Q none { s with heap:=h' }):wpAny (model prog w) A (pyNext (.ref I)) Q E s:=by
 have hT:s.TypeIs (.ref I) "set_iterator":=⟨_,hi,rfl⟩
 obtain ⟨op,hop,hc,nl,hd⟩:=hp
 unfold pyNext
 refine bg5 (bu6 (bl3 (name:=Str.ofString "__next__") hT gL (bl0 gL hT sJ ?_ (sK _))))
 unfold Builtin.«set_iterator.__next__»
 refine bg5 (bg8 ?_)
 refine bg5 (wpAny_fieldsOf hi rfl ?_)
 dsimp only
 refine bg5 (wpAny_setEntries_of ha rfl hf ?_)
 rw [if_neg (by simp)]
 refine bg5 (aa1 hop hd ?_)
 dsimp only
 rw [br8,hj]
 dsimp only
 refine bg5 (bt5 hi rfl (by simp) ?_)
 have h1:(s.heap.update I (Obj.mapFields (·.setIfInBounds 0 (rawInt 0)))).get? I=some (fN (.int 0 0) i a es.size ep):=bo4 (Obj.mapFields (·.setIfInBounds 0 (rawInt 0))) hi rfl
 refine bg5 (bt5 h1 rfl (by simp) ?_)
 refine bg5 ?_
 simp only [newExc,newTuple]
 refine bg5 (bk7 ?_ (by size_fits))
 refine bg5 (m:=firstArgMember _ _) (wpAny_of_eq (a:=Value.none) (by first | rfl | (simp only [firstArgMember]; rfl)) ?_)
 refine bk7 ?_ (by size_fits)
 simp only [raiseNew]
 refine bg5 (wpAny_handled ?_)
 rw [show A.in1.handled=none from hh]
 refine bg5 (bg8 (wpAny_throw ?_))
 refine bg5 (bw2 (T:="StopIteration") (b:=true) ⟨_,bh8 _ rfl,rfl⟩ isSubtype_stop ?_)
 exact bg8 (hQ _ ((((bm9 ..).trans (bm9 ..)).extBut.push _).push _))
theorem aU5 (hh:A.handled=none) (ne:I ≠ a) (nep:I ≠ p) (hf:t.fits es.size=true) {ps:Array Value}{js:List Nat} (hps:ps=(js.map fun j:Nat=>Value.int j 0).toArray) (len:js.length=es.size) (inn:∀ j ∈ js,j < es.size) :
  Walks prog w A I [I,a,p] [I] es.size (fun i v=>(js.map fun j=>(es.toList.map (·.2)).getD j .none)[i]? = some v) (fun i h=>h.get? I=some (fN (.ref p) i a es.size ep)/\h.get? a=some (cF es ep t)/\h.IsTuple p ps) where
 sub:=fun b hb=>by rw [bh6.mp hb]; exact bi0
 frame:=fun _ _ _ st hk=>⟨hk I bi0 _ st.1,hk a (bi3 _ bi0) _ st.2.1,st.2.2.at fun o e=>hk p (bi3 _ (bi3 _ bi0)) o e⟩
 item:=fun i s Q E hi st hQ=>by
  have hl:i < js.length:=by omega
  have hj:=inn js[i] (bp6 hl)
  have h1:ps[i]? = some (.int js[i] 0):=by rw [hps]; simp [hl]
  have h2:es[js[i]]? = some es[js[i]]:=bl1 hj
  refine aU3 st.1 st.2.1 hf st.2.2 h1 h2 fun h' g sb=>?_
  refine hQ _ h' s.toks ?_ ⟨g,by rw [sb.2 a (Ne.symm ne)]; exact st.2.1,st.2.2.at fun o e=>by rw [sb.2 p (Ne.symm nep)]; exact e⟩ fun b o hb e=>by rw [sb.2 b fun z=>hb (by rw [z]; exact List.mem_singleton_self _)]; exact e
  simp [hl,hj]
 done:=fun s Q E st hQ=>aU4 hh st.1 st.2.1 hf st.2.2 (by rw [hps]; simp [len]) fun h' eb=>hQ h' s.toks fun b o hb e=>eb b o (fun z=>hb (by rw [z]; exact List.mem_singleton_self _)) e
 self:=fun i s Q E st hQ=>Z7 st.1 hQ
end
section
variable {prog : Program} {w : World} {A : Around} {E : Value → Shared → Prop} {s : Shared} {a : Addr} {es : Array (Int × Value)} {ep : Nat} {t : SetTable} {ms : List Int}
theorem aU6 (hh:A.handled=none) (ha:s.heap.get? a=some (cF es ep t)) (ok:mG prog w es t ms) {Q:Value->Shared->Prop}
  (h:∀ (I:Addr) (h1:Heap) (d1:Drawn) (O:List Value) (fp:List Addr) (St:Nat->Heap->Prop),(∀ b o,s.heap.get? b=some o->h1.get? b=some o)->s.heap.objs.size<=I->(∀ b ∈ fp,b=a ∨ s.heap.objs.size<=b)->O.Perm (es.toList.map (·.2))->
   Walks prog w A I fp [I] es.size (fun i v=>O[i]? = some v) St->St 0 h1->Q (.ref I) { s with heap:=h1,drawn:=d1 }):wpAny (model prog w) A (pyIter (.ref a)) Q E s:=by
 obtain ⟨hel,hi,hb,hf,tk⟩:=ok
 have hT:s.TypeIs (.ref a) "set":=⟨_,ha,rfl⟩
 have lt:=bh9 ha
 have sz:es.toList.length=es.size:=bj3
 refine wpAny_pyIter_slot hT F.slot_set_iter (bl0 F.slot_set_iter hT aT6 ?_ (F.args_set_iter_1 _))
 unfold Builtin.«frozenset.__iter__» Builtin.Frozenset.slot0 Builtin.Frozenset.sizeOf
 refine bg5 (bg5 (bg8 (bg8 ?_)))
 refine bg5 (bg5 (wpAny_setEntries_of ha rfl hf (bg8 ?_)))
 refine bg5 ?_
 unfold setDrawn setsByText
 refine bg5 (bx3 ha rfl hf ?_)
 refine bg5 (bg5 (wpAny_askSetting (bg8 ?_)))
 refine bg8 ?_
 show wpAny _ _ (if (!w.params.followText "set-order" && (!t.plain && decide (es.size > 1)))=true then _ else _) _ _ _
 have fin:∀ (d1:Drawn) (sl:Nat->Nat) (O:List Value),O.Perm (es.toList.map (·.2))->sl 0=0->
   (∀ i x,O[i]? = some x->∀ (s:Shared) (Q:Option (Value × Nat)->Shared->Prop) (E:Value->Shared->Prop) (A:Around),s.heap.get? a=some (cF es ep t)->Q (some (x,sl (i+1))) s->wpAny (model prog w) A (setNext a (sl i) i ep) Q E s)->
   (∀ (s:Shared) (Q:Option (Value × Nat)->Shared->Prop) (E:Value->Shared->Prop) (A:Around),s.heap.get? a=some (cF es ep t)->Q none s->wpAny (model prog w) A (setNext a (sl es.size) es.size ep) Q E s)->
   Q (.ref s.heap.objs.size) { s with heap:=s.heap.push (fN (.int 0 0) 0 a es.size ep),drawn:=d1 }:=fun d1 sl O po s0 hn he=>
  h s.heap.objs.size _ d1 O [s.heap.objs.size,a] _ (fun b o e=>bg7 _ e) (bh1 _) (fun b hb=>by
   rcases bh5.mp hb with e | hb
   ·exact .inr (Nat.le_of_eq e.symm)
   ·exact .inl (bh6.mp hb)) po (aU1 (I:=s.heap.objs.size) hh (bo0 lt) hf O (by rw [po.length_eq,bh2,sz]) sl hn he) ⟨by rw [s0]; exact bh8 _ rfl,bg7 _ ha⟩
 have last:∀ q:Q (.ref s.heap.objs.size) { s with heap:=s.heap.push (fN (.int 0 0) 0 a es.size ep) },wpAny (model prog w) A.in1 (do
   let first <- pure (rawInt 0)
   (fun first=>do
    let e <- setEpoch a
    let o <- newFields "set_iterator" [first,rawInt 0,Value.ref a,rawInt es.size,rawInt e]
    ret o) first) (fun fin s'=>∃ v,fin = .done (.ret v)/\∃ T' r,s'.TypeIs v T'/\typeLookup (.type T') (Str.ofString "__next__")=pure (some r)/\Q v s') E s:=fun q=>by
  refine bg5 (bg8 ?_)
  refine bg5 (wpAny_setEpoch_of ha rfl hf ?_)
  exact bg5 (bk7 (bg8 ⟨_,rfl,"set_iterator",_,⟨_,bh8 _ rfl,rfl⟩,gL.lookup,q⟩))
 cases bt:w.params.followText "set-order" with
 | true=>
  rw [if_neg (by simp)]
  refine last (fin s.drawn (fun _=>0) ((pickOrder (w.params.setOrder a ep) es).toList.map (·.2)) ((aa3 _ _).map _) rfl (fun i x hx s Q E A ha q=>Z8 bt hf ha ?_) fun s Q E A ha q=>Z8 bt hf ha ?_)
  ·rw [bi4,bm7] at hx
   cases hp:(pickOrder (w.params.setOrder a ep) es)[i]? with
   | none=>rw [hp] at hx; cases hx
   | some e=>rw [hp] at hx; cases hx; exact q
  ·have:=(aa3 (w.params.setOrder a ep) es).length_eq
   rw [bj3,bj3] at this
   rw [bt6 (by omega)]; exact q
 | false=>
  have ps:t.place.size=es.size:=by
   unfold SetTable.fits at hf
   rw [bk5] at hf
   exact eq_of_beq hf.1
  cases pl:(!t.plain && decide (es.size > 1)) with
  | false=>
   rw [if_neg (by simp)]
   refine last (fin s.drawn (jS t.place.toList) (es.toList.map (·.2)) (bu8 _) rfl (fun i x hx s Q E A ha q=>Z9 bt hf tk pl ha ?_) fun s Q E A ha q=>Z9 bt hf tk pl ha ?_)
   ·have il:i < es.size:=by
     have:=(bh7.mp hx).1
     rw [bh2,sz] at this; exact this
    rw [aa4 tk.asc i (by omega),bl1 il,bl1 (by omega)]
    rw [bi4,bm7,bl1 il] at hx
    cases hx
    have e:jS t.place.toList (i+1)=t.place[i]+1:=by
     show t.place.toList.getD i 0+1=_
     rw [bh4,bm7,bl1 (by omega)]; rfl
    rw [e] at q; exact q
   ·rw [aa4 tk.asc es.size (by omega),bt6 (bh1 _)]; exact q
  | true=>
   rw [if_pos (by simp)]
   refine bg5 (aa5 es.size (List.range es.size) s (by rw [bo3]; exact bh1 _) fun js d pj=>?_)
   have jl:js.length=es.size:=by rw [pj.length_eq,bo3]
   simp only [newTuple]
   refine bg5 (bk7 ?_ (by show (List.map _ js).toArray.size<=sizeLine; rw [bh0,bh2,jl]; exact fits_of_scanBound hb))
   have ha1:=bg7 { cls:=.type "tuple",data:=.seq (js.map fun (i:Nat)=>rawInt i).toArray } ha
   refine bg5 (wpAny_setEpoch_of ha1 rfl hf ?_)
   refine bg5 (bk7 (bg8 ⟨_,rfl,"set_iterator",_,⟨_,bh8 _ rfl,rfl⟩,gL.lookup,?_⟩))
   have sp:(s.heap.push { cls:=.type "tuple",data:=.seq (js.map fun (i:Nat)=>rawInt i).toArray }).objs.size=s.heap.objs.size+1:=bq3 ..
   have hp1:=bh8 s.heap (o:={ cls:=.type "tuple",data:=.seq (js.map fun (i:Nat)=>rawInt i).toArray }) rfl
   have inn:∀ j ∈ js,j < es.size:=fun j hj=>bt3.mp (pj.mem_iff.mp hj)
   refine h _ _ d (js.map fun j=>(es.toList.map (·.2)).getD j .none) [_,a,s.heap.objs.size] _ (fun b o e=>bg7 _ (bg7 _ e)) (by show _<=(s.heap.push _).objs.size; rw [sp]; exact by5 _) (fun b hb=>?_) ?_ (aU5 (p:=s.heap.objs.size) hh (by show (s.heap.push _).objs.size ≠ a; rw [sp]; exact bo0 (bv0 lt)) (by show (s.heap.push _).objs.size ≠ s.heap.objs.size; rw [sp]; exact Nat.succ_ne_self _) hf rfl jl inn) ⟨bh8 _ rfl,bg7 _ ha1,_,bg7 _ hp1,rfl,_,rfl⟩
   ·rcases bh5.mp hb with e | hb
    ·rw [e]; exact .inr (by show _<=(s.heap.push _).objs.size; rw [sp]; exact by5 _)
    ·rcases bh5.mp hb with e | hb
     ·exact .inl e
     ·exact .inr (Nat.le_of_eq (bh6.mp hb).symm)
   ·refine (pj.map _).trans ?_
    have e:(List.range es.size).map (fun j=>(es.toList.map (·.2)).getD j .none)=es.toList.map (·.2):=by
     refine List.ext_getElem (by simp) fun i h1 h2=>?_
     simp at h1 h2 ⊢
     simp [h2]
    rw [e]
end
end Raw
namespace Raw
open PySem PySem.W PyProof.Rows
section
variable {prog : Program} {w : World} {A : Around} {E : Value → Shared → Prop} {s : Shared} {a : Addr} {es : Array (Int × Value)} {ep : Nat} {t : SetTable} {ms : List Int}
theorem aU7 {Q:Bool->Shared->Prop} (hT:s.TypeIs (.ref a) "set") (h:Q false s):wpAny (model prog w) A (Builtin.List.listLengthHint (.ref a)) Q E s:=by
 unfold Builtin.List.listLengthHint
 refine bg5 (wpAny_specialOf hT PySem.F.slot_set_len.lookup ?_)
 generalize hid:("set.__len__" : String)=id0
 wp_delta
 rw [show splitId id0=some ("set","__len__") from by subst hid; decide +kernel]
 subst hid
 refine bg5 (bw2 (T:="set") (b:=true) hT (by rw [isSubtype_type]; kernel_rfl) ?_)
 refine wpAny_ite_split (fun hab=>absurd hab (by decide)) (fun _=>?_)
 refine wpAny_ite_split (fun _=>?_) (fun hab=>absurd (by decide +kernel) hab)
 refine bg5 (wpAny_typeOf hT ?_)
 exact bg8 h
theorem aU8 {O:List Value}{acc:Array Value}{n:Nat} (h:ItemsOf (fun i v=>O[i]? = some v) acc n) (hn:O.length=n):acc.toList=O:=by
 refine List.ext_getElem (by rw [bj3,h.1,hn]) fun i h1 h2=>?_
 rw [bj3] at h1
 have this:O[i]? = some acc[i]:=h.2 i acc[i] (bl1 h1)
 rw [bg9 h2] at this
 rw [Array.getElem_toList]
 exact (bj7 this).symm
theorem aU9 {R:Result->Shared->Prop} (hh:A.handled=none) (ha:s.heap.get? a=some (cF es ep t)) (ok:mG prog w es t ms) (S:Addr) (nSa:S ≠ a) (res:Value) (c0:Nat) (hS:s.heap.get? S=some { cls:=.type "list",data:=.seq #[] c0 })
  (hR:∀ h' tk d acc c,(∀ b o,b ≠ S->s.heap.get? b=some o->h'.get? b=some o)->h'.get? S=some { cls:=.type "list",dict:=none,data:=.seq acc c,slots:=#[] }->acc.toList.Perm (es.toList.map (·.2))->R (.ok (.ret res)) { s with heap:=h',toks:=tk,drawn:=d }) :
  wpAny (model prog w) A.in1 (Builtin.List.listExtendWith (.ref S) (.ref a) res)
   (fun fin s'=>match fin with | .done f=>R (.ok f) s' | .again c'=>c'.quiet=true/\codeAny (model prog w) A c' R s') (fun e s'=>R (.error e) s') s:=by
 have hT:s.TypeIs (.ref a) "set":=⟨_,ha,rfl⟩
 have lS:=bh9 hS
 have hn:es.size<=sizeLine:=fits_of_scanBound ok.2.2.1
 unfold Builtin.List.listExtendWith
 refine bg5 (wpAny_typeOf (T:="set") hT ?_)
 have e1:Builtin.List.listSameRef (.ref S) (.ref a)=false:=by simp [Builtin.List.listSameRef,nSa]
 simp only [e1,show (Value.type "set" == Value.type "list")=false by decide,show (Value.type "set" == Value.type "tuple")=false by decide,Bool.or_false,bj1,bn2]
 refine bg5 (aU6 (A:=A.in1) hh ha ok fun I h1 d1 O fp St kp lI fpo po W st=>?_)
 have nSf:S ∉ fp:=fun z=>(fpo S z).elim nSa fun z=>absurd (bi5 lS z) (bm1 _)
 have ol:O.length=es.size:=by rw [po.length_eq,bh2,bj3]
 have key:∀ (h:Heap) (c1 tk:Nat),St 0 h->(∀ b o,b ≠ S->s.heap.get? b=some o->h.get? b=some o)->h.get? S=some { cls:=.type "list",data:=.seq #[] c1 }->codeAny (model prog w) A (.builtin "list.extend.loop" ⟨[.ref S,.ref I,res],[]⟩) R { s with heap:=h,toks:=tk,drawn:=d1 }:=by
  intro h c1 tk hst hk hS1
  refine codeAny_extend_loopS W.toS hn S nSf res es.size 0 _ #[] c1 rfl (bl6 _) hst hS1 (ItemsOf.nil _) fun s' acc c hm hS' it=>?_
  rw [Moved.eq_with hm]
  refine hR s'.heap s'.toks d1 acc c (fun b o hb e=>hm.heap b o (fun z=>?_) (hk b o hb e)) hS' (by rw [aU8 it ol]; exact po)
  rcases bh5.mp z with z | z
  ·exact hb z
  ·rw [bh6.mp z] at e
   exact absurd (bi5 (bh9 e) lI) (bm1 _)
 have hS1:=kp _ _ hS
 refine bg5 (bq4 (aU7 ⟨_,kp _ _ ha,rfl⟩ ?_))
 refine wpAny_ite_split (fun _=>?_) (fun _=>bg8 ⟨plainId_quiet PySem.F.plain_extend_loop _,key _ c0 _ st (fun b o _ e=>kp _ _ e) hS1⟩)
 refine bg5 (bu1 ?_)
 refine bg5 ?_
 show wpAny _ _ (updateSeq S (·.push .none) >>= fun _=>updateSeq S (·.pop)) _ _ _
 refine bg5 (wpAny_updateSeq hS1 rfl ?_)
 have hS2:=bo4 (Obj.mapSeq (·.push Value.none)) hS1 rfl
 refine wpAny_updateSeq (hz:=by seq_fits) hS2 rfl ?_
 have hS3:=bo4 (Obj.mapSeq (·.pop)) hS2 rfl
 refine bg8 ⟨plainId_quiet PySem.F.plain_extend_loop _,key _ _ _ ?_ (fun b o hb e=>?_) hS3⟩
 ·refine W.frame 0 _ _ st fun b hb o e=>?_
  have hbS:b ≠ S:=fun z=>nSf (z ▸ hb)
  exact (bv5 _ _ (Ne.symm hbS)).trans ((bv5 _ _ (Ne.symm hbS)).trans e)
 ·exact (bv5 _ _ (Ne.symm hb)).trans ((bv5 _ _ (Ne.symm hb)).trans (kp _ _ e))
theorem aV0 {R:Result->Shared->Prop} (hh:A.handled=none) (ha:s.heap.get? a=some (cF es ep t)) (ok:mG prog w es t ms)
  (hR:∀ h' tk d acc c,(∀ b o,b ≠ s.heap.objs.size->(s.heap.push { cls:=.type "list",data:=.seq ([]:List Value).toArray }).get? b=some o->h'.get? b=some o)->h'.get? s.heap.objs.size=some { cls:=.type "list",dict:=none,data:=.seq acc c,slots:=#[] }->acc.toList.Perm (es.toList.map (·.2))->R (.ok (.ret (.ref s.heap.objs.size))) { s with heap:=h',toks:=tk,drawn:=d }) :
  codeAny (model prog w) A (.builtin "proto.collect" ⟨[.ref a],[]⟩) R s:=by
 refine bv2 PySem.F.entry_proto_collect ?_
 rw [bt0 PySem.F.plain_proto_collect _]
 show wpAny _ A.in1 (newList [] >>= fun l=>again (.builtin "list.__iadd__" ⟨[l,.ref a],[]⟩)) _ _ s
 refine bg5 (bk7 ?_)
 refine bg8 ⟨plainId_quiet PySem.F.plain_list_iadd _,bv2 PySem.F.entry_list_iadd ?_⟩
 rw [bt0 PySem.F.plain_list_iadd _]
 show wpAny _ A.in1 (Builtin.List.listExtendWith (.ref s.heap.objs.size) (.ref a) (.ref s.heap.objs.size)) _ _ _
 exact aU9 (s:={ s with heap:=s.heap.push { cls:=.type "list",data:=.seq ([]:List Value).toArray } }) (R:=R) hh (bg7 _ ha) ok s.heap.objs.size (bo0 (bh9 ha)) _ 0 (bh8 _ rfl) hR
theorem aV1 {Q:Value->Shared->Prop} (hh:A.handled=none) (ha:s.heap.get? a=some (cF es ep t)) (ok:mG prog w es t ms) (hn:ms.length < 64)
  (h:∀ h' tk d l (out:Array Value) (ms':List Int) e,(∀ b o,s.heap.get? b=some o->h'.get? b=some o)->s.heap.objs.size<=l->h'.get? l=some (seqObj "list" out e)->IntsAre out.toList ms'->ms'.Perm ms->ms'.Pairwise (· <= ·)->Q (.ref l) { s with heap:=h',toks:=tk,drawn:=d }) :
  wpAny (model prog w) A (call (.builtin "sorted") [.ref a]) Q E s:=by
 refine Calls.call_function_entry kind_sorted plain_sorted entry_sorted (args_sorted1 _) ?_
 unfold Builtin.«sorted»
 refine bg5 (m:=checkCount "sorted" 1 1 _) (bg8 ?_)
 unfold collect
 refine bg5 (bg5 (wpAny_runValue (aV0 (s:=s) hh ha ok fun h' tk d acc c kp at1 pa=>?_)))
 show wpAny _ _ (load s.heap.objs.size >>= _) _ _ _
 refine bg5 (wpAny_load at1 ?_)
 refine bg8 ?_
 obtain ⟨ks,hi,pk⟩:=xG pa ok.2.1
 have hz:acc.toList.length < 64:=by rw [IntsAre.length hi,pk.length_eq]; exact hn
 refine bg5 (wpAny_newList ?_ (bk9 (bn9 hz) (by decide)))
 have hoL:(h'.push (seqObj "list" acc.toList.toArray 0)).get? h'.objs.size=some (seqObj "list" acc.toList.toArray 0):=bh8 _ rfl
 show wpAny _ _ _ _ _ { s with heap:=h'.push (seqObj "list" acc.toList.toArray 0),toks:=tk,drawn:=d }
 refine bg5 (bq4 (bl0 slot_list_sort ⟨_,hoL,rfl⟩ entry_list_sort (list_sort_tree hoL hi hz fun out ns' a1 a2 a3=>⟨_,rfl,?_⟩) (args_list_sort _)))
 obtain ⟨e,he⟩:=sortedHeap_at (vs:=acc.toList) (out:=out) hoL
 have kq:∀ b o,s.heap.get? b=some o->h'.get? b=some o:=fun b o e=>kp b o (bj5 (bh9 e)) (bg7 _ e)
 refine bg8 ⟨_,rfl,h _ tk d h'.objs.size out ns' e (fun b o hb=>?_) (bn9 (bh9 at1)) he a1 (a2.trans pk) a3⟩
 have lt:=bh9 (kq b o hb)
 rw [sortedHeap_old (bj5 lt) (by rw [size_push']; exact bv0 lt)]
 exact bg7 _ (kq b o hb)
end
end Raw
namespace L2
open PySem PySem.Spec PyProof.Rows
section
variable {X : Cx}
def aa6 (X:Cx) (o:Obj) (ms:List Int):Prop:=∃ es ep t,o=Raw.cF es ep t/\Raw.mG X.prog X.w es t ms
theorem a6.drew {pins:List (Addr × Obj)}{σ:St}{H:Hp}{s:Shared} (I:a6 X pins σ H s) (d:Drawn):a6 X pins σ H { s with drawn:=d }:=
 ⟨I.ok,I.os,I.bare,I.base,I.loc,I.cell,I.free,I.freeC,I.pin,I.hok,I.len⟩
theorem aV2 (hc:X.calm=true):cD X (.builtin "sorted") (fun xs H Q=>∃ (a:Addr) (o:Obj) (ms:List Int),xs = [.ref a]/\H a=some (.frz o (.own a))/\aa6 X o ms/\ms.length < 64/\∀ l (ks:List Int),H l=none->ks.Perm ms->ks.Pairwise (· <= ·)->Q (.ref l) (upd H l (.lst (ks.map V.int)))):=by
 intro pins s σ H xs us Q I r h
 obtain ⟨a,o,ms,rfl,ha,⟨es,ep,t,rfl,ok⟩,h64,q⟩:=h
 obtain ⟨u,rfl,rx⟩:=dW r
 obtain rfl:u=Value.ref a:=rx
 have ho:s.heap.get? a=some (Raw.cF es ep t):=(show bA X.prog X.w H s.heap a (.frz (Raw.cF es ep t) (.own a)) from I.hok a _ ha).1
 refine Raw.aV1 (I.ok.hd hc) ho ok h64 fun h' tk d l out ks e kp hn he a1 p so=>?_
 have hlen:ks.length=ms.length:=p.length_eq
 refine⟨.ref l,upd H l (.lst (ks.map V.int)),(I.drew d).laid (s:={ s with drawn:=d }) (t':=tk) kp hn ⟨?_,out.toList,e,p9 a1,by simpa using he⟩,rfl,q _ ks (I.hok.fresh hn) p so⟩
 rw [bh2,hlen]
 exact bn9 (pB (by omega))
end
end L2
namespace Core
open PySem L2 PP
section
variable {ws : List Int} {ls : List (Int × Int)} {A T : List Int} {m : Nat}
theorem aV3:∀ m,∀ y ∈ A,y ∈ aW ws ls A m:=fun m y hy=>by
 induction m with
 | zero=>exact hy
 | succ m ih=>exact bs8 _ ih
theorem aV4 (en:cN ws ls A m):kS ws ls (aW ws ls A m):=fun h hh=>by
 have:=List.filter_eq_nil_iff.mp (show (rng ws.length).filter (kin ws ls (aW ws ls A m)) = [] from en.2) h hh
 simpa using this
end
theorem aV5 {n:Nat}{ks:List Int} (up:ks.Pairwise (· < ·)) (inn:∀ x ∈ ks,0<=x/\x < (n:Int)):b9 n ks=true:=by
 have nd:ks.Nodup:=up.imp fun h=>Int.ne_of_lt h
 have:=nd.length_le_of_subset fun x hx=>fB.mpr (inn x hx)
 rw [fA] at this
 have u:jP (n:Int) ks:=⟨up,inn,by omega⟩
 exact u.set
noncomputable def sL (ws:List Int) (ls:List (Int × Int)) (C:List Int):Bool:=@decide (∀ U:List Int,kS ws ls U->(∀ x ∈ C,x ∈ U)->∀ h ∈ rng ws.length,h ∈ U) (Classical.propDecidable _)
section
variable {ws : List Int} {ls : List (Int × Int)} {C D : List Int}
theorem xH:sL ws ls C=true ↔ ∀ U:List Int,kS ws ls U->(∀ x ∈ C,x ∈ U)->∀ h ∈ rng ws.length,h ∈ U:=
 ⟨fun z=>@bq9 _ (Classical.propDecidable _) z,fun z=>@bi2 _ (Classical.propDecidable _) z⟩
theorem aV6 {T:List Int} (sh:kS ws ls T) (sub:∀ x ∈ C,x ∈ T) (le:∀ U,kS ws ls U->(∀ x ∈ C,x ∈ U)->∀ x ∈ T,x ∈ U):sL ws ls C=true ↔ ∀ h ∈ rng ws.length,h ∈ T:=
 ⟨fun f=>xH.mp f T sh sub,fun a=>xH.mpr fun U sU hU h hh=>le U sU hU h (a h hh)⟩
theorem aV7 {m:Nat} (hs:b9 ws.length C=true) (en:cN ws ls C m):sL ws ls C=decide (((aW ws ls C m).length:Int)=(ws.length:Int)):=by
 have st:∀ m,∀ x ∈ aW ws ls C m,x ∈ rng ws.length:=fun m=>by
  induction m with
  | zero=>exact fun x hx=>fB.mpr ((eG hs).2 x hx)
  | succ m ih=>
   intro x hx
   rcases bj9.mp (show x ∈ aW ws ls C m ++ nextOf ws ls (aW ws ls C m) from hx) with hx | hx
   ·exact ih x hx
   ·exact (bj8.mp hx).1
 have nd:=x3 (ls:=ls) hs m
 have le:=nd.length_le_of_subset (st m)
 rw [fA] at le
 rw [br0,bj6,aV6 (aV4 en) (aV3 m) fun U sU hU x hx=>V0 sU hU m x hx]
 constructor
 ·intro a
  have:=(aO0 ws.length).length_le_of_subset a
  rw [fA] at this
  omega
 ·intro e
  refine fun h hh=>bt9 fun hn=>?_
  have:=(List.nodup_cons.mpr ⟨hn,nd⟩).length_le_of_subset fun x hx=>(bh5.mp hx).elim (fun e=>by rw [e]; exact hh) (st m x)
  rw [fA,bk2] at this
  omega
end
end Core
namespace PP
open PySem L2
section
variable {X : Cx} {a b : Expr} {cC : List Expr} {ta tb : aE} {pos : Pos} {σ : St} {H : Hp} {Q' : VK}
def xI:PV->Tg->PV->Tg->PK->Prop:=fun x g y g' Q=>(x = .non/\y = .non/\Q (.bl false) .fr) ∨ fR 2 true x g y g' Q
theorem F5 (hu:X.A.units+3 < cLine):bN X (compareOp .NotEq) (fun x y H Q=>oT x y H Q ∨ nW X.K 2 true x y H Q):=by
 intro pins s σ H x y v u Q I rx ry h
 rcases h with h | h
 ·exact z9 pins s σ H x y v u Q I rx ry h
 ·exact M7 2 hu pins s σ H x y v u Q I rx ry h
theorem aV8:dC X xI (fun x y H Q=>oT x y H Q ∨ nW X.K 2 true x y H Q):=by
 rintro W Hs H u v x y g g' Q Q' s n r1 r2 h k
 rcases h with ⟨rfl,rfl,q⟩ | h
 ·cases r1; cases r2
  exact .inl ⟨rfl,k _ _ _ .fr (aD.refl _) (.bl false) q⟩
 ·exact .inr (qO W Hs H u v x y g g' Q Q' s n r1 r2 h k)
theorem aV9 (hu:X.A.units+3 < cLine) (ha:QE X a ta) (hb:QE X b tb):QT X (.Compare a [.NotEq] [b] pos) (aV (q2 xI ta tb)):=gF (F5 hu) aV8 ha hb (dU _)
end
end PP
namespace Core
open PySem L2 PP
def uP (ws:List Int) (ls:List (Int × Int)) (ns R:List Int):Prop:=Z0 ws ls ns R=true/\kS ws ls (ns ++ R)
end Core
namespace PP
open PySem L2
section
variable {X : Cx} {a b : Expr} {ta tb : aE} {pos : Pos}
def aa7:PV->Tg->PV->Tg->PK->Prop:=fun x _ y _ Q=>∃ ns ms:List Int,x = .tup (intz ns)/\y = .tup (intz ms)/\Q (.bl (HT.b6 ns ms)) .fr
theorem aW0:dC X aa7 (tT X.K):=by
 rintro W Hs H u v x y g g' Q Q' s n r1 r2 ⟨ns,ms,rfl,rfl,q⟩ k
 obtain ⟨p1,us,rfl,h1,r1⟩:=r1.sqT
 obtain ⟨p2,vs,rfl,h2,r2⟩:=r2.sqT
 obtain rfl:=r1.ofInts
 obtain rfl:=r2.ofInts
 exact⟨p1,p2,ns,ms,rfl,rfl,aF.of h1,aF.of h2,k _ _ _ _ (aD.refl _) (.bl _) q⟩
end
end PP
namespace L2
open PySem PySem.Spec PyProof.Rows PP
section
variable {prog : Program} {w : World} {A : Around} {R : Result → Shared → Prop} {I S : Addr} {n : Nat} {l : Addr} {its : Array Value} {s0 : Shared} {bt : Nat → Nat → Bool}
abbrev at_ (s:Shared) (h:Heap) (k:Nat):Shared:={ s with heap:=h,toks:=k }
abbrev aW1 (g h:Heap):Prop:=∀ b o,g.get? b=some o->h.get? b=some o
def cE (prog:Program) (w:World) (A:Around) (s0:Shared) (its:Array Value) (bt:Nat->Nat->Bool):Prop:=
 ∀ (i j:Nat) (v u:Value) (h:Heap) (k:Nat) (Q E:Value->Shared->Prop),its[i]? = some v->its[j]? = some u->aW1 s0.heap h->Q (.bool (bt i j)) (at_ s0 h k)->wpAny (model prog w) A (richCompare .Lt v u) Q E (at_ s0 h k)
end
end L2
namespace Core
open PySem L2 PP
theorem aa8 (ps:List Int):eB (intz ps) (some 1) none=intz (ps.drop 1):=by
 unfold eB
 have e1:HT.aP (intz ps).length 0 (some 1)=min 1 ps.length:=by
  rw [bW]
  show (if (1:Int) < 0 then ((1:Int)+(ps.length:Int)).toNat else min (1:Int).toNat ps.length)=_
  rw [if_neg (by decide)]; rfl
 rw [e1]
 show ((intz ps).drop (min 1 ps.length)).take ((intz ps).length - min 1 ps.length)=_
 rw [bk3 (by rw [br3]; exact bh1 _)]
 show (List.map PV.int ps).drop _=List.map PV.int _
 cases ps with
 | nil=>rfl
 | cons x xs=>rw [show min 1 (x :: xs).length=1 by simp]; rfl
end Core
namespace HT
open PySem PyProof.Rows
section
open PySem.SeqAt
open PySem.AutoSeq1 (wpAny_loadPart')
open PySem.MeetsSeq PySem.MeetsSeq2 PySem.MeetsSeq3
theorem int_at {its:List Value}{ns:List Int} (h:IntsAre its ns) {i:Nat} (hi:i < its.length):∃ a t,its[i]? = some (.int a t)/\ns[i]? = some a:=by
 induction h generalizing i with
 | nil=>exact absurd hi (bx0 _)
 | cons a t h ih=>
  cases i with
  | zero=>exact⟨a,t,rfl,rfl⟩
  | succ i=>exact ih (by simpa using hi)
end
end HT
namespace Core
open PySem L2 PP
def FB (L:List (List Int)) (f:List Int->Int) (r:List Int):Prop:=∃ i,L[i]? = some r/\(∀ (j:Nat) (s:List Int),j < i->L[j]? = some s->f s < f r)/\∀ s ∈ L,f s<=f r
end Core
namespace L2
open PySem PySem.Spec PyProof.Rows
section
variable {prog : Program} {w : World} {A : Around} {E : Value → Shared → Prop} {s : Shared} {l : Addr} {xs : Array (Int × Tok)}
theorem aa9 {Q:Value->Shared->Prop} (hl:s.heap.IsTuple l (intItems xs))
  (h:∀ h2:Heap,(h2.IsTupleIter s.heap.objs.size l 0/\h2.IsTuple l (intItems xs))->(∀ b ∈ [s.heap.objs.size,l],b < h2.objs.size)->l ≠ s.heap.objs.size->(∀ b o,s.heap.get? b=some o->b ∉ [s.heap.objs.size]/\h2.get? b=some o)->Q (.ref s.heap.objs.size) { s with heap:=h2 }):wpAny (model prog w) A (pyIter (.ref l)) Q E s:=by
 have lb:l < s.heap.objs.size:=by obtain ⟨_,e,_⟩:=hl; exact bh9 e
 refine bu0 hl (h _ ⟨⟨_,bh8 _ rfl,rfl,rfl⟩,hl.push _⟩ (fun b hb=>?_) (bj5 lb) fun b o e=>⟨fun hm=>?_,bg7 _ e⟩)
 ·rw [bq3]
  rcases bh5.mp hb with rfl | hb
  ·exact Nat.lt_succ_self _
  ·rw [bh6.mp hb]; exact bv0 lb
 ·rw [bh6.mp hm] at e
  exact absurd (bh9 e) (bm1 _)
theorem aW2 {Q:Value->Shared->Prop} (hh:A.handled=none) (hl:s.heap.IsTuple l (intItems xs)) (hne:0 < xs.size)
  (h:∀ v h' tk,(intItems xs)[argBest (fun i j=>decide (numAt xs i > numAt xs j)) (xs.size - 1)]? = some v->(∀ b o,s.heap.get? b=some o->h'.get? b=some o)->Q v { s with heap:=h',toks:=tk }):wpAny (model prog w) A (call (.builtin "max") [.ref l]) Q E s:=by
 refine call_max_walk (aa9 hl fun h2 st hfp ne old=>?_)
 exact⟨_,_,_,_,_,_,_,rfl,Walks.tuple (A:=A.in1) hh _ l ne (intItems xs),st,hfp,by simpa [intItems] using hne,CmpOf.ints_gt (numAt xs) (fun _ _=>intItems_at),fun v h' tk hP hk=>h v h' tk (by simpa [intItems] using hP) fun b o e=>hk b o (old b o e).1 (old b o e).2⟩
theorem aW3 {Q:Value->Shared->Prop} (hh:A.handled=none) (hl:s.heap.IsTuple l (intItems xs)) (hne:0 < xs.size)
  (h:∀ v h' tk,(intItems xs)[argBest (fun i j=>decide (numAt xs i < numAt xs j)) (xs.size - 1)]? = some v->(∀ b o,s.heap.get? b=some o->h'.get? b=some o)->Q v { s with heap:=h',toks:=tk }):wpAny (model prog w) A (call (.builtin "min") [.ref l]) Q E s:=by
 refine call_min_walk (aa9 hl fun h2 st hfp ne old=>?_)
 exact⟨_,_,_,_,_,_,_,rfl,Walks.tuple (A:=A.in1) hh _ l ne (intItems xs),st,hfp,by simpa [intItems] using hne,CmpOf.ints_lt (numAt xs) (fun _ _=>intItems_at),fun v h' tk hP hk=>h v h' tk (by simpa [intItems] using hP) fun b o e=>hk b o (old b o e).1 (old b o e).2⟩
end
section
variable {X : Cx}
theorem aW4 (hc:X.calm=true):cD X (.builtin "max") (fun xs H Q=>∃ (a:Addr) (ns:List Int),xs = [.ref a]/\aF X.K H a (ns.map V.int)/\ns ≠ []/\∀ M:Int,M ∈ ns->(∀ x ∈ ns,x<=M)->Q (.int M) H):=by
 intro pins s σ H xs us Q I r h
 obtain ⟨a,ns,rfl,hq,ne,q⟩:=h
 obtain ⟨u,rfl,ru⟩:=dW r
 cases ru
 obtain ⟨its,rv,p,hz⟩:=I.tuple hq
 have ia:=i8 rv
 obtain ⟨ys,ey⟩:=ia.allInts.items
 have en:ns=ys.toList.map (·.1):=by
  have e1:=nums_intItems ys
  rw [<- ey] at e1
  exact ia.numsOf.symm.trans e1
 have pos:0 < ys.size:=Nat.pos_of_ne_zero fun z=>ne (by rw [en,Array.eq_empty_of_size_eq_zero z]; rfl)
 have hl:s.heap.IsTuple a (intItems ys):=by rw [<- ey]; exact p
 refine aW2 (I.ok.hd hc) hl pos fun v h' tk ev old=>?_
 obtain ⟨t,rfl⟩:=intItems_at ev
 have best:=argBest_gt (numAt ys) (ys.size - 1)
 have mem:∀ x:Int,x ∈ ns ↔ ∃ j,j < ys.size/\numAt ys j=x:=fun x=>by
  rw [en]
  constructor
  ·intro z
   obtain ⟨j,hj,e⟩:=mem_getD z
   exact⟨j,by simpa using hj,by rw [numAt_eq]; exact e⟩
  ·rintro ⟨j,hj,rfl⟩
   rw [numAt_eq]
   exact getD_mem (by simpa using hj)
 refine⟨.int _,H,I.kept (t':=tk) (h':=h') old,⟨t,rfl⟩,q _ ?_ fun x hx=>?_⟩
 ·exact (mem _).mpr ⟨_,by have:=best.1; omega,rfl⟩
 ·obtain ⟨j,hj,rfl⟩:=(mem x).mp hx
  exact best.2 j (by omega)
theorem aW5 (hc:X.calm=true):cD X (.builtin "min") (fun xs H Q=>∃ (a:Addr) (ns:List Int),xs = [.ref a]/\aF X.K H a (ns.map V.int)/\ns ≠ []/\∀ M:Int,M ∈ ns->(∀ x ∈ ns,M<=x)->Q (.int M) H):=by
 intro pins s σ H xs us Q I r h
 obtain ⟨a,ns,rfl,hq,ne,q⟩:=h
 obtain ⟨u,rfl,ru⟩:=dW r
 cases ru
 obtain ⟨its,rv,p,hz⟩:=I.tuple hq
 have ia:=i8 rv
 obtain ⟨ys,ey⟩:=ia.allInts.items
 have en:ns=ys.toList.map (·.1):=by
  have e1:=nums_intItems ys
  rw [<- ey] at e1
  exact ia.numsOf.symm.trans e1
 have pos:0 < ys.size:=Nat.pos_of_ne_zero fun z=>ne (by rw [en,Array.eq_empty_of_size_eq_zero z]; rfl)
 have hl:s.heap.IsTuple a (intItems ys):=by rw [<- ey]; exact p
 refine aW3 (I.ok.hd hc) hl pos fun v h' tk ev old=>?_
 obtain ⟨t,rfl⟩:=intItems_at ev
 have best:=argBest_lt (numAt ys) (ys.size - 1)
 have mem:∀ x:Int,x ∈ ns ↔ ∃ j,j < ys.size/\numAt ys j=x:=fun x=>by
  rw [en]
  constructor
  ·intro z
   obtain ⟨j,hj,e⟩:=mem_getD z
   exact⟨j,by simpa using hj,by rw [numAt_eq]; exact e⟩
  ·rintro ⟨j,hj,rfl⟩
   rw [numAt_eq]
   exact getD_mem (by simpa using hj)
 refine⟨.int _,H,I.kept (t':=tk) (h':=h') old,⟨t,rfl⟩,q _ ?_ fun x hx=>?_⟩
 ·exact (mem _).mpr ⟨_,by have:=best.1; omega,rfl⟩
 ·obtain ⟨j,hj,rfl⟩:=(mem x).mp hx
  exact best.2 j (by omega)
end
end L2
namespace PP
open PySem L2
section
variable {X : Cx} {a b e : Expr} {ta tb : aE} {tr : cL} {pos p2 : Pos}
def xJ:List PV->(PV->Prop)->Prop:=fun xs Q=>∃ ns:List Int,xs = [.tup (intz ns)]/\ns ≠ []/\∀ M:Int,M ∈ ns->(∀ x ∈ ns,x<=M)->Q (.int M)
def xK:List PV->(PV->Prop)->Prop:=fun xs Q=>∃ ns:List Int,xs = [.tup (intz ns)]/\ns ≠ []/\∀ M:Int,M ∈ ns->(∀ x ∈ ns,M<=x)->Q (.int M)
theorem aW6:dO X xJ (fun xs H Q=>∃ (a:Addr) (ns:List Int),xs = [.ref a]/\aF X.K H a (ns.map V.int)/\ns ≠ []/\∀ M:Int,M ∈ ns->(∀ x ∈ ns,x<=M)->Q (.int M) H):=by
 rintro H vs xs Q Q' r ⟨ns,rfl,ne,q⟩ k
 obtain ⟨v,rfl,r1⟩:=r.one
 obtain ⟨a,us,rfl,h,r2⟩:=r1.sqT
 rw [r2.ofInts] at h
 exact⟨a,ns,rfl,aF.of h,ne,fun M m1 m2=>k _ _ _ (aD.refl _) (.int M) (q M m1 m2)⟩
theorem aW7:dO X xK (fun xs H Q=>∃ (a:Addr) (ns:List Int),xs = [.ref a]/\aF X.K H a (ns.map V.int)/\ns ≠ []/\∀ M:Int,M ∈ ns->(∀ x ∈ ns,M<=x)->Q (.int M) H):=by
 rintro H vs xs Q Q' r ⟨ns,rfl,ne,q⟩ k
 obtain ⟨v,rfl,r1⟩:=r.one
 obtain ⟨a,us,rfl,h,r2⟩:=r1.sqT
 rw [r2.ofInts] at h
 exact⟨a,ns,rfl,aF.of h,ne,fun M m1 m2=>k _ _ _ (aD.refl _) (.int M) (q M m1 m2)⟩
theorem aW8 (B:Bt X.mg) (hc:X.calm=true) (ha:QA X [e] tr) (hg:Gl X "max":=by rfl) (he:starEach [e] X.env=(false,eval e X.env) :: starEach [] X.env:=by rfl) (hpl:(backTo pos (starEach [] X.env)).any (·.1)=false:=by rfl):QE X (.Call (.Name "max" p2) [e] [] pos) (aC xJ tr):=
 gU (aW4 hc) aW6 hg B.max PyProof.Rows.boot_max ha (he:=he) (hpl:=hpl)
theorem aW9 (B:Bt X.mg) (hc:X.calm=true) (ha:QA X [e] tr) (hg:Gl X "min":=by rfl) (he:starEach [e] X.env=(false,eval e X.env) :: starEach [] X.env:=by rfl) (hpl:(backTo pos (starEach [] X.env)).any (·.1)=false:=by rfl):QE X (.Call (.Name "min" p2) [e] [] pos) (aC xK tr):=
 gU (aW5 hc) aW7 hg B.min PyProof.Rows.boot_min ha (he:=he) (hpl:=hpl)
def ab0 (K:PySem.W.Frag):R2:=fun x y H Q=>gO (fun i j=>.bl (decide (i < j))) x y H Q ∨ tT K x y H Q
theorem aX0 (hu:X.A.units < cLine):bN X (compareOp .Lt) (ab0 X.K):=by
 intro pins s σ H x y v u Q I rx ry h
 rcases h with h | h
 ·exact tK pins s σ H x y v u Q I rx ry h
 ·exact ao5 hu pins s σ H x y v u Q I rx ry h
def sM:PV->Tg->PV->Tg->PK->Prop:=fun x g y g' Q=>dN (fun i j=>.bl (decide (i < j))) x g y g' Q ∨ aa7 x g y g' Q
theorem aX1:dC X sM (ab0 X.K):=by
 intro W Hs H u v x y g g' Q Q' s n r1 r2 h k
 rcases h with h | h
 ·exact .inl (k7 W Hs H u v x y g g' Q Q' s n r1 r2 h k)
 ·exact .inr (aW0 W Hs H u v x y g g' Q Q' s n r1 r2 h k)
theorem aX2 (hu:X.A.units+1 < cLine) (ha:QE X a ta) (hb:QE X b tb):QE X (.Compare a [.Lt] [b] pos) (q2 sM ta tb):=lH (aX0 (by omega)) aX1 ha hb (dU _)
end
end PP
namespace L2
open PySem PySem.Spec PyProof.Rows
section
variable {X : Cx}
def ab1 (K:PySem.W.Frag) (ta:TA):TI:=fun σ H R=>ta σ H fun vs H1=>∃ a b,vs = [.ref a,.ref b]/\((∃ xs ys,aF K H1 a xs/\aF K H1 b ys/\R (uX K a b) H1) ∨ ∃ xs ys,aI K H1 a xs/\aI K H1 b ys/\R (uZ K a b) H1)
theorem aX3 {elts:List Expr}{kt:Nat}{pt:Pos}{a b:Expr}{ta:TA}{p pos:Pos} (hg:Gl X "zip") (hm:X.mg "zip" = none) (ha:PA X [a,b] ta) (hs:starEach [a,b] X.env = [(false,eval a X.env),(false,eval b X.env)]:=by rfl) (hs2:starEach [b] X.env = [(false,eval b X.env)]:=by rfl) :
  PI X (.Tuple elts kt pt) (.Call (.Name "zip" p) [a,b] [] pos) (ab1 X.K ta):=by
 intro pins s σ H R I h
 refine Call_ (iZ I hg hm PyProof.Rows.boot_zip (bq8 (aJ (ha pos pins s σ H _ I h) fun us s1 ⟨vs,H1,I1,r1,q1⟩=>?_) (by rw [hs,hs2]) (by rw [hs2]; rfl)))
 obtain ⟨a',b',e,q1⟩:=q1
 subst e
 obtain ⟨u1,u2,rfl,r,r'⟩:=aH.two r1
 cases r
 cases r'
 have fresh:∀ k,H1 (s1.heap.objs.size+k)=none:=fun k=>I1.hok.fresh (bu2 _ _)
 have fp:∀ c ∈ [s1.heap.objs.size+4,s1.heap.objs.size+2,s1.heap.objs.size+3,s1.heap.objs.size,s1.heap.objs.size+1],fD X pins H1 c:=fun c hc=>by
  simp only [bh5,bi8,bn7] at hc
  rcases hc with rfl | rfl | rfl | rfl | rfl
  ·exact I1.fpOk (bu2 _ _) (fresh 4)
  ·exact I1.fpOk (bu2 _ _) (fresh 2)
  ·exact I1.fpOk (bu2 _ _) (fresh 3)
  ·exact I1.fpOk (bh1 _) (fresh 0)
  ·exact I1.fpOk (bu2 _ _) (fresh 1)
 rcases q1 with ⟨xs,ys,h1,h2,q⟩ | ⟨xs,ys,h1,h2,q⟩
 ·obtain ⟨us,_,p1,_⟩:=I1.tuple h1
  obtain ⟨ws,_,p2,_⟩:=I1.tuple h2
  refine Zp.av3 p1 p2 fun h' z ti to s1' s2' kp=>wpAny_pyIter_zip z ?_
  exact⟨s1.heap.objs.size+4,[s1.heap.objs.size+4,s1.heap.objs.size+2,s1.heap.objs.size+3,s1.heap.objs.size,s1.heap.objs.size+1],_,_,H1,rfl,I1.kept (t':=s1.toks) kp,av6 a' b' _ _ _ _ _ (by simp),⟨z,ti,⟨_,_,to⟩,s1',s2'⟩,fp,q⟩
 ·obtain ⟨us,_,p1,_⟩:=I1.list h1
  obtain ⟨ws,_,p2,_⟩:=I1.list h2
  refine call_zip_2 p1.isList p2.isList fun h' z ti to s1' s2' _ kp=>wpAny_pyIter_zip z ?_
  exact⟨s1.heap.objs.size+4,[s1.heap.objs.size+4,s1.heap.objs.size+2,s1.heap.objs.size+3,s1.heap.objs.size,s1.heap.objs.size+1],_,_,H1,rfl,I1.kept (t':=s1.toks) kp,aw2 a' b' _ _ _ _ _ (by simp),⟨z,ti,⟨_,_,to⟩,s1',s2'⟩,fp,q⟩
end
end L2
namespace PP
open PySem L2
theorem aX4 {K:PySem.W.Frag}{H0:Hp}{W:Addr->Prop}{g:Bool}{H1:Hp}{a b:Addr}{us vs:List V}{xs ys:List PV} (tw:∀ a,W a->∃ o,H1 a=some o/\eS o=true) (ha:∀ W' H',Ev W H1 W' H'->aI K H' a us) (hb:∀ W' H',Ev W H1 W' H'->aI K H' b vs)
  (r:Reps K (Ms H0 W g) H1 us xs) (r':Reps K (Ms H0 W g) H1 vs ys):jE K H0 W g H1 (uZ K a b) (gX xs ys):=by
 have lr:=r.length
 have lr':=r'.length
 have ll:=x6 xs ys
 refine⟨fun W' H' i e hi=>⟨us,vs,us[i]'(by omega),vs[i]'(by omega),ha W' H' e,hb W' H' e,by simp,by simp⟩,fun W' H' i v H2 e y hi=>?_,fun W' H' e=>⟨us,vs,ha W' H' e,hb W' H' e,by omega⟩⟩
 obtain ⟨T,x,y',hT,rfl,rfl,y⟩:=y
 obtain ⟨h1,h2⟩:=y us vs (ha W' _ e) (hb W' _ e)
 obtain ⟨z,hz,rz⟩:=r.get h1
 obtain ⟨z',hz',rz'⟩:=r'.get h2
 have sm:=aZ hT (HO.tup [x,y'])
 exact⟨sm,_,V7 hz hz',.tup b8 (.cons ((rz.keep (e.keep tw)).same sm fun _ q=>q) (.cons ((rz'.keep (e.keep tw)).same sm fun _ q=>q) .nil))⟩
section
variable {X : Cx} {σ : L2.St} {H : Hp} {ta tb : aE} {R : It → Hp → Prop}
def xL (ta tb:aE):dP:=fun ρ Q=>ta ρ fun x g0=>tb ρ fun y g=>∃ xs ys,((x = .tup xs/\y = .tup ys) ∨ (x = .lst xs/\y = .lst ys/\g0 ≠ .rd/\g ≠ .rd))/\flats xs=true/\flats ys=true/\Q (gX xs ys) true
theorem ab2 {K:PySem.W.Frag}{H0 Hs:Hp}{W:Addr->Prop}{σ:L2.St}{ρ:bE}{g:Tg}{b:Addr} (px:PX K H0 W σ ρ Hs) (ng:g ≠ .rd) (m:Mg H0 W Hs g b) : ¬ W b:=by
 cases g with
 | fr=>exact (px.new m).1
 | nw=>exact m.1
 | sh=>exact m
 | rd=>exact absurd rfl ng
theorem aX5 (h:LI X (xL ta tb) σ H R):ab1 X.K (i6 (LE X ta) (i6 (LE X tb) jW)) σ H R:=by
 obtain ⟨W,ρ,Q,px,q,k⟩:=h
 refine⟨W,ρ,_,px,q,fun v0 H0 x0 g0 s0 r0 q0=>⟨W,ρ,_,px.mono s0,q0,?_⟩⟩
 rintro v H1 x g s r ⟨xs,ys,c,fx,fy,q⟩
 have S:=s0.trans s
 have px1:=px.mono S
 have tw:∀ a,W a->∃ o,H1 a=some o/\eS o=true:=fun a z=>(px1.wm a z).2
 rcases c with ⟨rfl,rfl⟩ | ⟨rfl,rfl,n0,n1⟩
 ·obtain ⟨a,us,rfl,h1,ra⟩:=(r0.same (M':=fun _=>True) s fun _ _=>trivial).sqT
  obtain ⟨b,vs,rfl,h2,rb⟩:=r.sqT
  have sta:∀ {c us},H1 c=some (.tup us)->∀ W' H',Ev W H1 W' H'->aF X.K H' c us:=fun {c us} hc W' H' e=>aF.of (e _ _ hc fun z=>by obtain ⟨o,h',mu⟩:=tw _ z; rw [hc] at h'; cases h'; cases mu).1
  exact⟨a,b,rfl,.inl ⟨us,vs,aF.of h1,aF.of h2,k _ _ _ _ S (aQ1 tw (sta h1) (sta h2) (ra.flat fx) (rb.flat fy)) q⟩⟩
 ·obtain ⟨a,us,rfl,m0,h1,ra⟩:=(r0.same s fun _ z=>z).sqL
  obtain ⟨b,vs,rfl,m1,h2,rb⟩:=r.sqL
  have w0:=ab2 px n0 m0
  have w1:=ab2 (px.mono s0) n1 m1
  exact⟨a,b,rfl,.inr ⟨us,vs,aI.of h1,aI.of h2,k _ _ _ _ S (aX4 tw (fun W' H' e=>aI.of (e _ _ h1 w0).1) (fun W' H' e=>aI.of (e _ _ h2 w1).1) (ra.flat fx) (rb.flat fy)) q⟩⟩
theorem aX6 {elts:List Expr}{kt:Nat}{pt p2 pos:Pos}{a b:Expr} (B:Bt X.mg) (ha:QE X a ta) (hb:QE X b tb) (hg:Gl X "zip":=by rfl) (hs:starEach [a,b] X.env = [(false,eval a X.env),(false,eval b X.env)]:=by rfl) (hs2:starEach [b] X.env = [(false,eval b X.env)]:=by rfl):QI X (.Tuple elts kt pt) (.Call (.Name "zip" p2) [a,b] [] pos) (xL ta tb):=
 nR (aX3 hg B.zip (dX ha (dX hb fE hs2) (by rw [hs,hs2])) hs hs2) fun _ _ _=>aX5
end
end PP
namespace Core
open PySem L2 PP
theorem aX7 (xs:List PV):eB xs (some 1) none=xs.drop 1:=by
 unfold eB
 have e1:HT.aP xs.length 0 (some 1)=min 1 xs.length:=by
  show (if (1:Int) < 0 then ((1:Int)+(xs.length:Int)).toNat else min (1:Int).toNat xs.length)=_
  rw [if_neg (by decide)]; rfl
 rw [e1]
 show (xs.drop (min 1 xs.length)).take (xs.length - min 1 xs.length)=_
 rw [bk3 (by rw [br3]; exact bh1 _)]
 cases xs with
 | nil=>rfl
 | cons x xs=>rw [show min 1 (x :: xs).length=1 by simp]
def sN {α:Type} (lt:α->α->Bool) (A:List α):Bool:=((A.zip (A.drop 1)).map fun p=>lt p.1 p.2).all id
def mH:bF:=fun xs Q=>∃ x,xs = [x]/\((∃ ns,cT x ns/\ns.length<=1000/\Q (.bl (fT ns))) ∨ ∃ ls:List (Int × Int),x = .lst (bG ls)/\ls.length<=4096/\∀ b:Bool,(b=true ↔ ls.Pairwise dS)->Q (.bl b))
def xM:aK:=(b7 (aC nK (a7 (cP (xL (a5 0) (qJ (a5 0) (qI (qC (.int 1))) qH)) [none,none] (jH 0 1) e9 (q2 sM (a5 0) (a5 1))) aA)))
theorem ab3 {α:Type} (f:α->PV) (lt:α->α->Bool) (fl:∀ a,flat (f a)=true) (hlt:∀ (a b:α) (g g':Tg) (K:PK),K (.bl (lt a b)) .fr->sM (f a) g (f b) g' K) (A:List α) (la:A.length<=10000) (x:PV) (hx:x = .tup (A.map f) ∨ x = .lst (A.map f)) {Q:PV->Prop} (q:Q (.bl (sN lt A))) :
  xM { nx:=fun _=>Q .non,rt:=Q } [some (.sh (flat x) x)]:=by
 have fls:∀ B:List α,flats (B.map f)=true:=fun B=>by
  induction B with
  | nil=>rfl
  | cons b B ih=>show (flat (f b) && flats (B.map f))=true; rw [fl,ih]; rfl
 have sx:seqT x=some (A.map f):=by rcases hx with rfl | rfl <;> rfl
 have cut:eB (A.map f) (some 1) none=(A.drop 1).map f:=by rw [aX7,List.map_drop]
 refine⟨_,rfl,_,rfl,_,rfl,_,sx,fls A,?_⟩
 rw [cut]
 refine⟨A.map f,(A.drop 1).map f,?_,fls A,fls _,?_⟩
 ·rcases hx with rfl | rfl
  ·exact .inl ⟨rfl,rfl⟩
  ·refine .inr ⟨rfl,rfl,?_,fun z=>by cases z⟩
   cases flat (.lst (A.map f)) <;> intro z <;> cases z
 have zl:(gX (A.map f) ((A.drop 1).map f)).length=A.length - 1:=by rw [x6,bh2,bh2,br3]; omega
 refine⟨by rw [zl]; omega,fun i acc=>acc=eI (((A.zip (A.drop 1)).take i).map fun p=>lt p.1 p.2),rfl,?_,?_⟩
 ·rintro i y acc hy rfl
  obtain ⟨u,v,h1,h2,rfl⟩:=aQ0 hy
  rw [bi4] at h1 h2
  cases ha:A[i]? with
  | none=>rw [ha] at h1; cases h1
  | some a=>
   cases hb:(A.drop 1)[i]? with
   | none=>rw [hb] at h2; cases h2
   | some b=>
    rw [ha] at h1
    rw [hb] at h2
    cases h1
    cases h2
    have hz:(A.zip (A.drop 1))[i]? = some (a,b):=List.getElem?_zip_eq_some.mpr ⟨ha,hb⟩
    refine⟨_,_,rfl,_,rfl,_,rfl,hlt a b _ _ _ ⟨trivial,?_⟩⟩
    dsimp only
    rw [bm8,hz,bj4]
    unfold eI
    rw [bj4]; rfl
 ·rintro acc rfl
  rw [bk3 (by rw [zl,List.length_zip,br3]; omega)]
  exact⟨_,rfl,trivial,q⟩
theorem aX8 (ls:List (Int × Int)):sN (fun a b=>HT.b6 [a.1,a.2] [b.1,b.2]) ls=true ↔ ls.Pairwise dS:=by
 have lt2:∀ a b:Int × Int,HT.b6 [a.1,a.2] [b.1,b.2]=true ↔ dS a b:=fun a b=>by
  unfold dS
  rw [HT.fF,HT.fF,HT.oW]
  by_cases h1:a.1=b.1
  ·rw [if_pos h1]
   by_cases h2:a.2=b.2
   ·rw [if_pos h2]
    exact⟨fun z=>(by cases z),fun z=>(by omega)⟩
   ·rw [if_neg h2,bj6]; omega
  ·rw [if_neg h1,bj6]; omega
 induction ls with
 | nil=>exact⟨fun _=>.nil,fun _=>rfl⟩
 | cons a r ih=>
  cases r with
  | nil=>exact⟨fun _=>bl9 _ _,fun _=>rfl⟩
  | cons b r=>
   have e:sN (fun a b:Int × Int=>HT.b6 [a.1,a.2] [b.1,b.2]) (a :: b :: r)=(HT.b6 [a.1,a.2] [b.1,b.2] && sN (fun a b:Int × Int=>HT.b6 [a.1,a.2] [b.1,b.2]) (b :: r)):=rfl
   rw [e,bk5,lt2,List.pairwise_cons]
   refine⟨fun ⟨h1,h2⟩=>⟨fun c hc=>?_,ih.mp h2⟩,fun ⟨h1,h2⟩=>⟨h1 b bi0,ih.mpr h2⟩⟩
   rcases bh5.mp hc with rfl | hc
   ·exact h1
   ·have:=(List.pairwise_cons.mp (ih.mp h2)).1 c hc
    unfold dS at *; omega
theorem aX9:cI xM ["things"] mH:=by
 rintro xs Q ⟨x,rfl,⟨ns,hx,hl,q⟩ | ⟨ls,rfl,hl,q⟩⟩
 ·exact ab3 PV.int (fun a b=>decide (a < b)) (fun _=>rfl) (fun a b g g' K h=>.inl ⟨_,_,rfl,rfl,h⟩) ns (by omega) x hx q
 ·exact ab3 (fun l:Int × Int=>PV.tup [.int l.1,.int l.2]) (fun a b=>HT.b6 [a.1,a.2] [b.1,b.2]) (fun _=>rfl) (fun a b g g' K h=>.inr ⟨_,_,rfl,rfl,h⟩) ls (by omega) _ (.inr rfl) (q _ (aX8 ls))
abbrev xN:bF:=wI
def ab4:aK:=(b7 (kA (aC mH (a7 (a5 1) aA)) (aC nK (a7 (cP (dJ (a5 1)) [none,some 0] (bY 0) e9 (aC oB (a7 (a5 1) (a7 (a5 0) aA)))) aA))))
theorem aY0:cI ab4 ["web","numbers"] xN:=by
 intro xs Q h
 have h2:=aI5 xs Q h
 obtain ⟨m,e,x,ns,r1,r2,r3,r4⟩:=h2
 exact⟨m,e,x,r1,.inl ⟨ns,r2,r3,r4⟩⟩
def eJ (l:Int × Int):Int × Int:=(min l.1 l.2,max l.1 l.2)
def sO:bF:=fun xs Q=>∃ (n:Nat) (l:Int × Int),xs = [.int n,.tup [.int l.1,.int l.2]]/\0<=l.1/\l.1 < (n:Int)/\0<=l.2/\l.2 < (n:Int)/\l.1 ≠ l.2/\Q (.tup [.int (eJ l).1,.int (eJ l).2])
def ab5:aK:=(aR (bM 2 (aC xK (a7 (a5 1) aA)))
 (aR (bM 3 (aC xJ (a7 (a5 1) aA)))
 (aR (cM (jA (aV (kF (a5 2) (qC (.int 0)))) (aV (vL (a5 3) (a5 0)))) kG cO)
 (aR (cM (aV (gS (a5 2) (a5 3))) kG cO)
 (b7 (gQ (a7 (a5 2) (a7 (a5 3) aA))))))))
theorem aY1:cI ab5 ["many","link","one","other"] sO:=by
 rintro xs Q ⟨n,l,rfl,a0,a1,b0,b1,ne,q⟩
 refine⟨_,rfl,[l.1,l.2],rfl,(fun z=>by cases z),fun m m1 m2=>⟨trivial,?_⟩⟩
 refine⟨_,rfl,[l.1,l.2],rfl,(fun z=>by cases z),fun M M1 M2=>⟨trivial,?_⟩⟩
 have hm:m=(eJ l).1:=by
  have h1:=m2 l.1 (by simp)
  have h2:=m2 l.2 (by simp)
  show m=min l.1 l.2
  rcases bh5.mp m1 with z | z
  ·omega
  ·have:=bh6.mp z; omega
 have hM:M=(eJ l).2:=by
  have h1:=M2 l.1 (by simp)
  have h2:=M2 l.2 (by simp)
  show M=max l.1 l.2
  rcases bh5.mp M1 with z | z
  ·omega
  ·have:=bh6.mp z; omega
 have e1:(eJ l).1=min l.1 l.2:=rfl
 have e2:(eJ l).2=max l.1 l.2:=rfl
 subst hm hM
 refine⟨_,rfl,_,_,rfl,rfl,_,rfl,?_⟩
 dsimp only
 rw [bh3 (by omega)]
 refine aS ⟨_,rfl,_,rfl,_,_,rfl,rfl,_,rfl,?_⟩
 dsimp only
 rw [bh3 (by omega)]
 refine aS ⟨_,rfl,_,rfl,.inl ⟨_,_,rfl,rfl,_,rfl,?_⟩⟩
 show if decide ((eJ l).1=(eJ l).2)=true then _ else _
 rw [bh3 (by omega)]
 exact aS ⟨_,rfl,_,rfl,by show 2<=1000; decide,rfl,trivial,q⟩
def sP:bF:=fun xs Q=>∃ x y ws ls,xs = [x,y]/\cT x ws/\ws.length<=40/\(∀ w ∈ ws,0<=w/\w<=60)/\(y = .tup (bG ls) ∨ y = .lst (bG ls))/\ls.length<=1700/\(∀ l ∈ ls,0<=l.1/\l.1 < (ws.length:Int)/\0<=l.2/\l.2 < (ws.length:Int)/\l.1 ≠ l.2)/\(ls.map eJ).Nodup/\∀ ls',ls'.Perm (ls.map eJ)->WL (ws.length:Int) ws ls'->Q (bC ws ls')
def ab6:aK:=(aR (cM (aV (jI (aC fJ (a7 (a5 0) aA)) (qC (.int 40)))) kG cO)
 (aR (eV (dJ (a5 0)) (bY 2)
  (cM (jA (aV (kF (a5 2) (qC (.int 0)))) (aV (jI (a5 2) (qC (.int 60))))) kG cO))
 (aR (bM 3 (aC rT (a7 (cP (dJ (a5 1)) [none,some 0] (bY 0) e9 (aC sO (a7 (aC fJ (a7 (a5 1) aA)) (a7 (a5 0) aA)))) aA)))
 (aR (cM (jB (aV (aC mH (a7 (a5 3) aA)))) kG cO)
 (b7 (gQ (a7 (aC fK (a7 (a5 0) aA)) (a7 (aC fK (a7 (a5 3) aA)) aA))))))))
theorem aY2:cI ab6 ["wants","links","want","pairs"] sP:=by
 rintro xs Q ⟨x,y,ws,ls,rfl,hx,few,hw,hy,l17,inn,nd,q⟩
 have sy:iH y=some (bG ls):=by rcases hy with rfl | rfl <;> rfl
 have fy:flats (bG ls)=true:=o9 ls
 have pl:(bG ls).length=ls.length:=bh2 _
 refine⟨_,rfl,_,_,rfl,hx.len,_,_,rfl,rfl,_,rfl,?_⟩
 dsimp only
 rw [bh3 (by omega)]
 refine aS ?_
 refine⟨_,rfl,_,hx.seq,m7 hx,fun i ρ=>∃ y2,ρ = [some (.sh (flat x) x),some (.sh (flat y) y),y2,none],⟨none,rfl⟩,?_,?_⟩
 ·rintro i z ρ hz ⟨y2,rfl⟩
  obtain ⟨n,rfl,hn⟩:=iP hz
  have:=hw n (bm3 hn)
  refine mB ?_
  refine⟨_,rfl,_,_,rfl,rfl,_,rfl,?_⟩
  dsimp only
  rw [bh3 (by omega)]
  refine aS ⟨_,rfl,_,_,rfl,rfl,_,rfl,?_⟩
  dsimp only
  rw [bh3 (by omega)]
  exact aS ⟨_,rfl⟩
 rintro ρ ⟨y2,rfl⟩
 refine⟨_,rfl,_,sy,(fun z=>?_),by rw [pl]; omega,fun i acc=>acc=bG ((ls.take i).map eJ),rfl,?_,?_⟩
 ·cases h:flat y with
  | true=>exact h
  | false=>rw [h] at z; cases z
 ·rintro i z acc hz rfl
  obtain ⟨l,rfl,hl⟩:=rG hz
  obtain ⟨a0,a1,b0,b1,ne⟩:=inn l (bm3 hl)
  refine⟨_,rfl,_,_,rfl,hx.len,_,rfl,ws.length,l,rfl,a0,a1,b0,b1,ne,trivial,?_⟩
  dsimp only
  rw [bm8,hl,bj4]
  unfold bG
  rw [bj4]; rfl
 rintro acc rfl
 rw [pl,bo2]
 refine⟨(ls.map eJ).map two,by rw [oG]; rfl,by rw [bh2,bh2]; omega,fun r hr=>by obtain ⟨l,_,rfl⟩:=bl4.mp hr; rfl,fun Z pz so=>⟨trivial,?_⟩⟩
 obtain ⟨ls',rfl,pp⟩:=T6 pz
 have wl:WL (ws.length:Int) ws ls':=WL.perm rfl (fun l hl=>by
  obtain ⟨m,hm,rfl⟩:=bl4.mp hl
  obtain ⟨a0,a1,b0,b1,ne⟩:=inn m hm
  show 0<=min m.1 m.2/\min m.1 m.2 < max m.1 m.2/\max m.1 m.2 < (ws.length:Int)
  omega) (by rw [bh2]; exact l17) nd (fun w h=>(hw w h).1) pp so
 have ll:=pp.length_eq
 rw [bh2] at ll
 rw [show ((ls'.map two).map fun r=>PV.tup (intz r))=bG ls' from (oG ls').symm]
 refine⟨_,rfl,_,rfl,.inr ⟨ls',rfl,by omega,fun b hb=>?_⟩⟩
 refine⟨_,rfl,?_⟩
 rw [hb.mpr wl.ord]
 refine aS ?_
 refine⟨_,rfl,⟨_,_,rfl,hx.seqT,cR _,?_⟩,hx.noscr⟩
 refine⟨_,rfl,⟨_,_,rfl,rfl,o9 _,?_⟩,fun _ z=>by cases z⟩
 exact⟨by show 2<=1000; decide,wH ws ls',trivial,q ls' pp wl⟩
def cB (n:Nat) (ls:List (Int × Int)):List Int:=(List.range n).map fun (k:Nat)=>((aY ls (k:Int)).length:Int)
section
variable {n : Nat} {ls : List (Int × Int)} {S : List Int}
theorem eL:(cB n ls).length=n:=by unfold cB; rw [bh2,bo3]
theorem ab7 {x:Int} (h0:0<=x) (h1:x < (n:Int)):(cB n ls).getD x.toNat 0=((aY ls x).length:Int):=by
 unfold cB
 rw [bh4,bi4,bt7 (by omega)]
 show ((aY ls ((x.toNat:Nat):Int)).length:Int)=_
 rw [Int.toNat_of_nonneg h0]
theorem sQ {x:Int} (h0:0<=x) (h1:x < (n:Int)):jQ (cB n ls) ls S x=true ↔ ∃ y ∈ aY ls x,y ∈ S:=by
 unfold jQ mC
 rw [bj6,ab7 h0 h1]
 refine⟨fun z=>?_,fun ⟨y,hy,hS⟩=>?_⟩
 ·cases hf:(aY ls x).filter fun z=>decide (z ∈ S) with
  | nil=>rw [hf] at z; simp at z
  | cons y r=>
   have:y ∈ (aY ls x).filter fun z=>decide (z ∈ S):=by rw [hf]; exact bi0
   exact⟨y,(bj8.mp this).1,bq9 (bj8.mp this).2⟩
 ·have:y ∈ (aY ls x).filter fun z=>decide (z ∈ S):=bj8.mpr ⟨hy,bi2 hS⟩
  have:=List.length_pos_of_mem this
  omega
theorem ab8 (inn:∀ l ∈ ls,0<=l.1/\l.1 < l.2/\l.2 < (n:Int)) {l:Int × Int} (hl:l ∈ ls):b9 n (two l)=true:=by
 have i:=inn l hl
 have u:jP (n:Int) (two l):=⟨by unfold two; simp; omega,fun x hx=>by unfold two at hx; simp at hx; omega,by show ((2:Nat):Int)<=_; omega⟩
 exact u.set
theorem fY {l:Int × Int}{x:Int}:x ∈ two l ↔ x=l.1 ∨ x=l.2:=by unfold two; simp
theorem ab9 (inn:∀ l ∈ ls,0<=l.1/\l.1 < l.2/\l.2 < (n:Int)) {l:Int × Int} (hl:l ∈ ls):sB (cB n ls) ls (two l):=by
 have i:=inn l hl
 have n1:l.2 ∈ aY ls l.1:=kW.mpr (.inl hl)
 have n2:l.1 ∈ aY ls l.2:=kW.mpr (.inr hl)
 refine⟨(fun z=>by unfold two at z; cases z),br6.mpr fun x hx=>?_,fun U hU nU sub x hx=>?_⟩
 ·rcases fY.mp hx with rfl | rfl
  ·exact (sQ i.1 (by omega)).mpr ⟨l.2,n1,fY.mpr (.inr rfl)⟩
  ·exact (sQ (by omega) i.2.2).mpr ⟨l.1,n2,fY.mpr (.inl rfl)⟩
 ·have both:l.1 ∈ U/\l.2 ∈ U:=by
   obtain ⟨u,uU⟩:=List.exists_mem_of_ne_nil _ nU
   have us:=fY.mp (sub u uU)
   have ub:0<=u/\u < (n:Int):=by omega
   obtain ⟨y,hy,yU⟩:=(sQ ub.1 ub.2).mp (br6.mp hU u uU)
   have ys:=fY.mp (sub y yU)
   have ne:y ≠ u:=fun e=>by
    subst e
    rcases kW.mp hy with z | z <;> (have:=inn _ z; omega)
   rcases us with e | e <;> rcases ys with f | f
   ·exact absurd (f.trans e.symm) ne
   ·exact⟨e ▸ uU,f ▸ yU⟩
   ·exact⟨f ▸ yU,e ▸ uU⟩
   ·exact absurd (f.trans e.symm) ne
  rcases fY.mp hx with rfl | rfl
  ·exact both.1
  ·exact both.2
theorem aY3 (inn:∀ l ∈ ls,0<=l.1/\l.1 < l.2/\l.2 < (n:Int)) (nd:ls.Nodup):(kU (cB n ls) ls).Perm (ls.map two):=by
 refine (List.perm_ext_iff_of_nodup ((Y1 _).filter _) (bl7.mpr (nd.imp (fun {a b} h e=>h (aS6 e))))).mpr fun S=>?_
 rw [bj8,oM,Y2,mF,eL,bl4]
 refine⟨fun ⟨hs,lb⟩=>?_,fun ⟨l,hl,e⟩=>by rw [<- e]; exact⟨ab8 inn hl,ab9 inn hl⟩⟩
 obtain ⟨x,xS⟩:=List.exists_mem_of_ne_nil _ lb.1
 have xb:=(eG hs).2 x xS
 obtain ⟨y,hy,yS⟩:=(sQ xb.1 xb.2).mp (br6.mp lb.2.1 x xS)
 have fin:∀ l ∈ ls,l.1 ∈ S->l.2 ∈ S->∃ l,l ∈ ls/\two l=S:=fun l hl h1 h2=>by
  have lk:=ab9 inn hl
  have sub:∀ z ∈ two l,z ∈ S:=fun z hz=>by
   rcases fY.mp hz with rfl | rfl
   ·exact h1
   ·exact h2
  exact⟨l,hl,V3 (ab8 inn hl) hs fun z=>⟨sub z,lb.2.2 _ lk.2.1 lk.1 sub z⟩⟩
 rcases kW.mp hy with z | z
 ·exact fin _ z xS yS
 ·exact fin _ z yS xS
theorem ac0 {x:Int} (h0:0<=x) (h1:x < (n:Int)):kin (cB n ls) ls S x=true ↔ x ∉ S/\∀ y ∈ aY ls x,y ∈ S:=by
 unfold kin
 rw [bk5,bj6,ab7 h0 h1]
 have:(!decide (x ∈ S))=true ↔ x ∉ S:=by simp
 rw [this]
 refine⟨fun ⟨a,b⟩=>⟨a,?_⟩,fun ⟨a,b⟩=>⟨a,?_⟩⟩
 ·have le:=bs3 (fun z=>decide (z ∈ S)) (aY ls x)
  have:((aY ls x).filter fun z=>decide (z ∈ S)).length=(aY ls x).length:=by omega
  have:=List.length_filter_eq_length_iff.mp this
  exact fun y hy=>bq9 (this y hy)
 ·rw [br6.mpr fun y hy=>bi2 (b y hy)]; exact bw0 _
theorem ac1 (inn:∀ l ∈ ls,0<=l.1/\l.1 < l.2/\l.2 < (n:Int)) (hs:b9 n S=true):sL (cB n ls) ls S=true ↔ ∀ l ∈ ls,l.1 ∈ S ∨ l.2 ∈ S:=by
 rw [xH,eL]
 refine⟨fun h l hl=>?_,fun h U sh sub x hx=>?_⟩
 ·by_cases c:l.1 ∈ S ∨ l.2 ∈ S
  ·exact c
  ·exfalso
   have c1:l.1 ∉ S:=fun z=>c (.inl z)
   have c2:l.2 ∉ S:=fun z=>c (.inr z)
   have i:=inn l hl
   have mU:∀ z,z ∈ (rng n).filter (fun z=>!decide (z ∈ two l)) ↔ z ∈ rng n/\z ∉ two l:=fun z=>by rw [bj8]; simp
   have:=h ((rng n).filter fun z=>!decide (z ∈ two l)) (fun x hx=>?_) (fun x hx=>(mU x).mpr ⟨fB.mpr ((eG hs).2 x hx),fun z=>?_⟩) l.1 (fB.mpr ⟨i.1,by omega⟩)
   ·exact ((mU l.1).mp this).2 (fY.mpr (.inl rfl))
   ·rw [eL] at hx
    have xb:=fB.mp hx
    rw [bs0]
    intro k
    obtain ⟨k1,k2⟩:=(ac0 xb.1 xb.2).mp k
    have xt:x ∈ two l:=bt9 fun z=>k1 ((mU x).mpr ⟨hx,z⟩)
    rcases fY.mp xt with rfl | rfl
    ·exact ((mU _).mp (k2 l.2 (kW.mpr (.inl hl)))).2 (fY.mpr (.inr rfl))
    ·exact ((mU _).mp (k2 l.1 (kW.mpr (.inr hl)))).2 (fY.mpr (.inl rfl))
   ·rcases fY.mp z with rfl | rfl
    ·exact c1 hx
    ·exact c2 hx
 ·have xb:=fB.mp hx
  by_cases xU:x ∈ U
  ·exact xU
  ·exfalso
   have xS:x ∉ S:=fun z=>xU (sub x z)
   have:=sh x (by rw [eL]; exact hx)
   rw [(ac0 xb.1 xb.2).mpr ⟨xU,fun y hy=>?_⟩] at this
   ·cases this
   ·rcases kW.mp hy with z | z
    ·rcases h _ z with w | w
     ·exact absurd w xS
     ·exact sub y w
    ·rcases h _ z with w | w
     ·exact sub y w
     ·exact absurd w xS
end
end Core
namespace Raw
open PySem PySem.W PySem.Calls PyProof.Rows
section
variable {prog : Program} {w : World} {A : Around} {E : Value → Shared → Prop} {s : Shared} {l : Addr} {items : Array Value} {ns : List Int}
theorem aY4:isSubtype (.type "list") (.type "set")=pure false:=by rw [isSubtype_type]; kernel_rfl
theorem aY5:isSubtype (.type "list") (.type "frozenset")=pure false:=by rw [isSubtype_type]; kernel_rfl
theorem aY6 {Q:Value->Shared->Prop} (hh:A.handled=none) (hl:s.heap.IsList l items) (hi:IntsAre items.toList ns) (hb:items.size+1 < scanBound) (h:∀ h' tk,sI prog w ns s.heap h'->Q .none { s with heap:=h',toks:=tk }) :
  wpAny (model prog w) A (Builtin.«set.__init__» ⟨[.ref s.heap.objs.size,.ref l],[]⟩) (fun fin s'=>∃ r,fin = .done (.ret r)/\Q r s') E { s with heap:=s.heap.push (gH (!w.params.followText "set-order")) }:=by
 generalize hled:(!w.params.followText "set-order")=led
 have hS:(s.heap.push (gH led)).get? s.heap.objs.size=some (gH led):=bh8 _ rfl
 have hT:Shared.TypeIs { s with heap:=s.heap.push (gH led) } (.ref s.heap.objs.size) "set":=⟨_,hS,rfl⟩
 obtain ⟨ol,m5,hcl,nl,hdl⟩:=hl
 have lt:l < s.heap.objs.size:=bh9 m5
 obtain ⟨ocls,odict,odata,oslots⟩:=ol
 dsimp only at hcl hdl
 subst hcl hdl
 have hol1:=bg7 (gH led) m5
 have tu:(s.heap.push (gH led)).IsList l items:=⟨_,hol1,rfl,nl,rfl⟩
 have t1:=aY4
 have t2:=aY5
 have t3:(Value.type "list" == Value.type "dict")=false:=by decide
 unfold Builtin.«set.__init__» noKeywords Builtin.Frozenset.updateFrom
 generalize pi:pyIter=PI
 wp_walk
 subst pi
 apply wpAny_pyIter_list tu
 apply bg5
 apply wpAny_runValue
 have sz:(s.heap.push (gH led)).objs.size=s.heap.objs.size+1:=bq3 ..
 have il:=IntsAre.length hi
 rw [bj3] at il
 refine aT4 (Walks.list (by simp [hh]) (s.heap.push (gH led)).objs.size l (by rw [sz]; exact bj5 (bv0 lt)) items).toS s.heap.objs.size (fun z=>?_) (fun i=>ns.getD i 0) (fun i v hv=>IntsAre.int_at hi i v (by rw [bm7]; exact hv)) hb items.size 0 _ [] (Nat.sub_zero _) (bl6 _) ⟨⟨_,bh8 _ rfl,rfl,rfl⟩,tu.push _⟩ ⟨#[],0,.fresh 0 0 led,bg7 _ hS,(fun e he=>by simp at he),.nil,by decide,rfl,⟨bx1,rfl,hled.symm⟩⟩ .nil (bh1 _) (fun x=>⟨(fun z=>nomatch z),(fun ⟨_,z,_⟩=>absurd z (bx0 _))⟩) ?_
 ·simp only [bh5,bi8,bn7] at z
  rcases z with z | z
  ·rw [sz] at z
   exact bj5 (Nat.lt_succ_self _) z
  ·exact bo0 lt z
 ·rintro ⟨h',g',d',tk',os'⟩ ms hm hS' nd mem
  obtain rfl:g'=s.gens:=hm.gens
  obtain rfl:d'=s.drawn:=hm.drawn
  obtain rfl:os'=s.os:=hm.os
  change wpAny _ _ _ _ _ _
  apply bg8
  change wpAny _ _ (ret Value.none) _ _ _
  refine bg8 ⟨_,rfl,h h' tk' ⟨⟨ms,hS',nd,fun x=>?_⟩,fun b o lb e=>hm.heap b o (fun z=>?_) (bg7 _ (bg7 _ e))⟩⟩
  ·rw [mem x]
   constructor
   ·rintro ⟨j,hj,e⟩
    rw [<- e,bh4,bg9 (by omega)]
    exact bp6 _
   ·intro hx
    obtain ⟨j,hj,e⟩:=bp2 hx
    exact⟨j,by omega,by rw [bh4,bg9 hj,e]; rfl⟩
  simp only [bh5,bi8,bn7] at z
  rcases z with z | z
  ·exact bj5 lb z
  ·rw [sz] at z
   exact bj5 (bv0 lb) z
theorem aY7 {Q:Value->Shared->Prop} (hh:A.handled=none) (hl:s.heap.IsList l items) (hi:IntsAre items.toList ns) (hb:items.size+1 < scanBound) (h:∀ h' tk,sI prog w ns s.heap h'->Q (.ref s.heap.objs.size) { s with heap:=h',toks:=tk }) :
  wpAny (model prog w) A (call (.type "set") [.ref l]) Q E s:=by
 have C:=F.called_set
 obtain ⟨c,tl,hmro⟩:=C.mro
 have c1:=C.made
 have c2:=C.sub
 have c3:=C.notType
 have c4:=C.canCreate
 have c5:=F.typeCall_set_1 (.ref l)
 have c6:=C.init.lookup
 have c7:=C.init.bind (.ref s.heap.objs.size)
 apply wpAny_call
 apply codeAny_of_tree
 change wpAny _ _ (callAny (.type "set") _) _ _ _
 refine bg8 ⟨Code.quiet_builtin _ (by decide +kernel),bv2 F.entry_type_call ?_⟩
 rw [Around.under_plain (weight_type_call_type "set" [.ref l] []) rfl]
 repeat (any_goals first | assumption | wp_step | fail)
 refine codeAny_mono (aT5 (.ref l) (E:=E) (Q₁:=fun obj s₁=>obj = .ref s.heap.objs.size/\s₁={ s with heap:=s.heap.push (gH (!w.params.followText "set-order")) }) ⟨rfl,rfl⟩) fun r s₁ hr=>?_
 match r,hr with
 | .error _,hr=>exact hr
 | .ok (.ret obj),hr=>
  obtain ⟨rfl,rfl⟩:=hr
  have hT:Shared.TypeIs { s with heap:=s.heap.push (gH (!w.params.followText "set-order")) } (.ref s.heap.objs.size) "set":=⟨_,bh8 _ rfl,rfl⟩
  repeat (any_goals first | assumption | wp_step | fail)
  refine codeAny_mono (codeAny_call_builtin (R:=wants (fun r s₂=>r = .none/\∃ h' tk,s₂={ s with heap:=h',toks:=tk }/\sI prog w ns s.heap h') E) C.init.plain F.entry_set_init (check_set_init_1 hT ?_)) fun r₂ s₂ hr₂=>?_
  ·refine bq7 (aY6 (E:=fun _ _=>False) (Q:=fun r s₂=>r = .none/\∃ h' tk,s₂={ s with heap:=h',toks:=tk }/\sI prog w ns s.heap h') (by simp [hh]) hl hi hb fun h' tk f=>⟨rfl,h',tk,rfl,f⟩) ?_ ?_
   ·rintro fin s' ⟨r,rfl,q⟩
    exact q
   ·exact fun _ _ h=>h.elim
  match r₂,hr₂ with
  | .error _,hr₂=>exact hr₂
  | .ok (.ret _),hr₂=>
   obtain ⟨rfl,h',tk,rfl,f⟩:=hr₂
   repeat (any_goals first | assumption | wp_step | fail)
   exact h _ _ f
end
end Raw
namespace L2
open PySem PySem.Spec PyProof.Rows
section
variable {X : Cx}
theorem aY8 (hc:X.calm=true):cD X (.type "set") (fun xs H Q=>∃ (p:Addr) (ns:List Int),xs = [.ref p]/\aI X.K H p (ns.map V.int)/\ns.length<=1000/\∀ l o ms,H l=none->aa6 X o ms->ms.Nodup->(∀ x,x ∈ ms ↔ x ∈ ns)->Q (.ref l) (upd H l (.frz o (.own l)))):=by
 intro pins s σ H xs us Q I r h
 obtain ⟨p,ns,rfl,hq,hl,q⟩:=h
 obtain ⟨u,rfl,rx⟩:=dW r
 obtain rfl:u=Value.ref p:=rx
 obtain ⟨its,r',pl,hz⟩:=I.list hq
 have ia:=i8 r'
 have len:its.length=ns.length:=by rw [<- r'.length,bh2]
 refine Raw.aY7 (items:=its.toArray) (ns:=ns) (I.ok.hd hc) pl.isList ia (by rw [bh0,len]; exact bw4 (Nat.add_le_add_right hl 1) (by decide)) fun h' tk f=>?_
 obtain ⟨⟨ms,⟨es,ep,t,ho,ok⟩,nd,mem⟩,f2⟩:=f
 exact⟨.ref s.heap.objs.size,_,I.laid (t':=tk) (fun b o e=>f2 b o (bh9 e) e) (bh1 _) (show bA X.prog X.w _ _ _ (.frz (Raw.cF es ep t) (.own _)) from ⟨ho,_,ho⟩),rfl,q _ _ ms (I.hok.fresh (bh1 _)) ⟨es,ep,t,rfl,ok⟩ nd mem⟩
end
end L2
namespace PP
open PySem L2
section
variable {X : Cx} {e : Expr} {tr : cL} {pos p2 p3 p4 : Pos}
def ac2:List PV->(PV->Prop)->Prop:=fun xs Q=>∃ ns:List Int,xs = [.lst (intz ns)]/\ns.length<=1000/\(∀ ms:List Int,ms.Nodup->(∀ x,x ∈ ms ↔ x ∈ ns)->ms.length < 64)/\∀ ks:List Int,ks.Pairwise (· < ·)->(∀ x,x ∈ ks ↔ x ∈ ns)->Q (.lst (intz ks))
theorem aY9 (B:Bt X.mg) (bs:X.mg "set" = none) (hc:X.calm=true) (ha:QA X [e] tr) (hg:Gl X "sorted":=by rfl) (hg2:Gl X "set":=by rfl) (he:starEach [e] X.env=(false,eval e X.env) :: starEach [] X.env:=by rfl) (hpl:∀ p:Pos,(backTo p (starEach [] X.env)).any (·.1)=false:=by intro _; rfl)
  (he2:starEach [.Call (.Name "set" p3) [e] [] p4] X.env=(false,eval (.Call (.Name "set" p3) [e] [] p4) X.env) :: starEach [] X.env:=by rfl):QE X (.Call (.Name "sorted" p2) [.Call (.Name "set" p3) [e] [] p4] [] pos) (aC ac2 tr):=
 bZ (tR (aV2 hc) hg B.sorted PyProof.Rows.boot_sorted (dX (tS (aY8 hc) hg2 bs PyProof.Rows.boot_set ha (by decide) (by decide) he (hpl _)) fE he2) (by decide) (by decide) he2 (hpl _)) fun σ H Q' h=>by
  obtain ⟨W,ρ,Q,px,q,k⟩:=h
  refine⟨W,ρ,_,px,q,fun vs H1 xs s1 r1 q1=>?_⟩
  obtain ⟨ns,e1,hl,few,q⟩:=q1
  have r2:=r1.any
  rw [e1] at r2
  obtain ⟨v,rfl,r3⟩:=r2.one
  obtain ⟨p,us,rfl,_,hp,r4⟩:=r3.sqL
  obtain rfl:=r4.ofInts
  refine⟨p,ns,rfl,aI.of hp,hl,fun l o ms hf sv nd mem=>⟨l,o,ms,rfl,b8,sv,few ms nd mem,fun l2 ks hf2 pk so=>?_⟩⟩
  have nk:ks.Nodup:=pk.nodup_iff.mpr nd
  have up:ks.Pairwise (· < ·):=(List.Pairwise.and so nk).imp fun z=>Int.lt_iff_le_and_ne.mpr ⟨z.1,z.2⟩
  refine k _ _ _ .fr ((s1.trans (aZ hf _)).trans (aZ hf2 _)) ?_ (q ks up fun x=>(pk.mem_iff).trans (mem x))
  have n2:H l2=none:=by
   cases z:H l2 with
   | none=>rfl
   | some u=>
    have:=(s1.trans (aZ hf (.frz o (.own l)))) _ _ z
    rw [hf2] at this; cases this
  exact .lst n2 b8 (Reps.intz ks)
end
end PP
namespace Core
open PySem L2 PP
def jT (n:Nat) (ls:List (Int × Int)):Prop:=(∀ l ∈ ls,0<=l.1/\l.1 < l.2/\l.2 < (n:Int))/\ls.length<=1700/\ls.Pairwise dS
theorem aZ0 {l:Int × Int} (h:l.1 < l.2):eJ l=l:=by
 unfold eJ
 rw [show min l.1 l.2=l.1 by omega,show max l.1 l.2=l.2 by omega]
theorem aZ1 {a b:List (Int × Int)} (p:a.Perm b) (ha:a.Pairwise dS) (hb:b.Pairwise dS):a=b:=
 p.eq_of_pairwise (fun x y _ _ h1 h2=>by unfold dS at h1 h2; omega) ha hb
theorem ac3:∀ n:Nat,(List.replicate n [PV.int 0]).flatten=intz (List.replicate n 0)
 | 0=>rfl
 | n+1=>by rw [bq6,br9,bq6]; show PV.int 0 :: _=PV.int 0 :: _; rw [ac3 n]; rfl
def sR:bF:=fun xs Q=>∃ (n:Nat) (ls:List (Int × Int)),xs = [.int n,.lst (bG ls)]/\n<=40/\jT n ls/\Q (bC (List.replicate n 0) ls)
def ac4:aK:=(aR (cM (jA (aV (kF (a5 0) (qC (.int 0)))) (aV (jI (a5 0) (qC (.int 40))))) kG cO)
 (b7 (aC sP (a7 (U7 (iG (a7 (qC (.int 0)) aA)) (a5 0)) (a7 (a5 1) aA)))))
theorem aZ2:cI ac4 ["many","links"] sR:=by
 rintro xs Q ⟨n,ls,rfl,n40,⟨inn,l17,ord⟩,q⟩
 refine⟨_,rfl,_,_,rfl,rfl,_,rfl,?_⟩
 dsimp only
 rw [bh3 (by omega)]
 refine aS ⟨_,rfl,_,_,rfl,rfl,_,rfl,?_⟩
 dsimp only
 rw [bh3 (by omega)]
 refine aS ?_
 have nl:ls.map eJ=ls:=by
  conv=>rhs; rw [<- List.map_id ls]
  exact List.map_congr_left fun l hl=>aZ0 (inn l hl).2.1
 have nd:ls.Nodup:=ord.imp fun {a b} h e=>by rw [e] at h; unfold dS at h; omega
 have rp:(List.replicate (n:Int).toNat [PV.int 0]).flatten=intz (List.replicate n 0):=by rw [br8]; exact ac3 n
 refine⟨by show 1<=1000; decide,rfl,_,rfl,_,_,rfl,rfl,rfl,by omega,by omega,by decide,_,rfl,?_⟩
 have rl:(List.replicate n (0:Int)).length=n:=bs2
 refine⟨_,_,List.replicate n 0,ls,rfl,.inr (by show PV.lst (List.replicate (n:Int).toNat [PV.int 0]).flatten=_; rw [rp]),by omega,fun w hw=>by rw [List.eq_of_mem_replicate hw]; decide,.inr rfl,l17,fun l hl=>by rw [rl]; have:=inn l hl; omega,by rw [nl]; exact nd,fun ls' pp wl=>⟨trivial,?_⟩⟩
 rw [nl] at pp
 rw [aZ1 pp wl.ord ord]
 exact q
def sT:bF:=fun xs Q=>∃ ws ls,xs = [bC ws ls,.int 0]/\Wb ws ls/\Q (bC (cB ws.length ls) ls)
def ac5:aK:=(b7 (gQ (a7 (aC fK (a7 (cP (dJ (aC kQ (a7 (a5 0) aA))) [none,some 1] (bY 0) e9 (aC pV (a7 (qC (.int 0)) (a7 (qK (aC fJ (a7 (a5 0) aA)) (a5 1)) aA)))) aA)) (a7 (cJ (a5 0) (qC (.int 1))) aA))))
theorem aZ3:cI ac5 ["web","few"] sT:=by
 rintro xs Q ⟨ws,ls,rfl,wb,q⟩
 have few:=wb.few
 have nl:(gJ ws.length ls).length=ws.length:=by unfold gJ; rw [bh2,bo3]
 have get:∀ i y,(gJ ws.length ls)[i]? = some y->i < ws.length/\y = .lst (intz (aY ls (i:Int))):=fun i y h=>by
  unfold gJ at h
  rw [bi4] at h
  by_cases hi:i < ws.length
  ·rw [bt7 hi] at h; cases h; exact⟨hi,rfl⟩
  ·rw [List.getElem?_eq_none (by rw [bo3]; omega)] at h; cases h
 refine⟨_,rfl,ws,ls,rfl,wb,_,rfl,(fun z=>by cases z),by rw [nl]; omega,fun i acc=>acc=intz ((cB ws.length ls).take i),rfl,?_,?_⟩
 ·rintro i y acc hy rfl
  obtain ⟨hi,rfl⟩:=get i y hy
  have dg:(cB ws.length ls)[i]? = some ((aY ls (i:Int)).length:Int):=by unfold cB; rw [bi4,bt7 hi]; rfl
  refine⟨_,rfl,_,_,rfl,rfl,_,rfl,_,_,rfl,rfl,_,_,rfl,trivial,?_⟩
  dsimp only
  rw [bW,bm8,dg,fU,Int.sub_zero,show (if ((aY ls (i:Int)).length:Int) > 0 then ((aY ls (i:Int)).length:Int) else 0)=((aY ls (i:Int)).length:Int) by split <;> omega]
  rfl
 rintro acc rfl
 rw [nl,bk3 (by rw [eL]; exact bh1 _)]
 exact⟨⟨_,_,rfl,rfl,cR _,_,rfl,_,_,_,rfl,rfl,rfl,by show 2<=1000; decide,wH (cB ws.length ls) ls,trivial,q⟩,fun ns z=>by cases z⟩
def sV:bF:=fun xs Q=>∃ (n:Nat) (ls:List (Int × Int)),xs = [.int n,.lst (bG ls)]/\n<=40/\jT n ls/\Q (bC (cB n ls) ls)
def ac6:aK:=(b7 (aC sT (a7 (aC sR (a7 (a5 0) (a7 (a5 1) aA))) (a7 (qC (.int 0)) aA))))
theorem aZ4:cI ac6 ["many","links"] sV:=by
 rintro xs Q ⟨n,ls,rfl,n40,lk,q⟩
 refine⟨_,rfl,_,rfl,n,ls,rfl,n40,lk,List.replicate n 0,ls,rfl,?_,trivial,?_⟩
 ·exact⟨by rw [bs2]; omega,by have:=lk.2.1; omega,fun l hl=>by rw [bs2]; have:=lk.1 l hl; omega⟩
 ·rw [bs2]; exact q
def bR (S:List Int) (l:Int × Int):Bool:=decide (l.1 ∈ S) && decide (l.2 ∈ S)
def xO:Option (Int × Int)->PV
 | none=>.non
 | some l=>.tup [.int l.1,.int l.2]
def oN:cY:=fun Ep xs Q=>∃ ws ls x S,xs = [bC ws ls,x]/\cT x S/\S.length<=1000/\b9 ws.length S=true/\Q (xO (ls.find? (bR S)))
def ac7 (Ep:Str->Prop):aK:=(aR (bM 2 (aC iQ (a7 (gK Ep jR (a7 (a5 0) (a7 (a5 1) aA))) aA)))
 (aR (eV (dJ (cJ (a5 0) (qC (.int 1)))) (bY 3)
  (cM (aV (gS (aC jO (a7 (a5 3) (a7 (a5 2) aA))) (qC (.int 2)))) (jD 3) cO))
 (b7 (qC .non))))
theorem aZ5:gY ac7 ["web","some","inside","link"] oN:=by
 rintro Ep xs Q ⟨ws,ls,x,S,rfl,hx,hl,hs,q⟩
 refine⟨_,rfl,_,rfl,ws,ls,x,S,rfl,hx,hl,fun _=>?_,fun z=>by rw [hs] at z; cases z⟩
 refine⟨_,S,rfl,.inl rfl,hl,fun ps ds=>⟨trivial,?_⟩⟩
 refine⟨_,rfl,_,_,_,rfl,rfl,rfl,_,rfl,(fun z=>o9 ls),fun i ρ=>∃ y,ρ = [some (.sh (flat (bC ws ls)) (bC ws ls)),some (.sh (flat x) x),some (.sh true (.dK ps)),y]/\(ls.take i).find? (bR S)=none,⟨none,rfl,rfl⟩,?_,?_⟩
 ·rintro i y ρ hy ⟨y3,rfl,hn⟩
  obtain ⟨l,rfl,hi⟩:=rG hy
  generalize pX _ _=gg
  have tk:(ls.take (i+1)).find? (bR S)=((ls.take i).find? (bR S)).or ([l].find? (bR S)):=by rw [bm8,hi,List.find?_append]; rfl
  rw [hn] at tk
  refine⟨_,rfl,_,rfl,_,[l.1,l.2],ps,S,rfl,.inl rfl,ds,by show 2<=10000; decide,.inl ⟨_,_,rfl,rfl,_,rfl,?_⟩⟩
  have ct:decide ((([l.1,l.2].filter fun x=>decide (x ∈ S)).length:Int)=2)=bR S l:=by
   unfold bR
   by_cases h1:l.1 ∈ S <;> by_cases h2:l.2 ∈ S <;> simp [bw3,h1,h2]
  show if decide ((([l.1,l.2].filter fun x=>decide (x ∈ S)).length:Int)=2)=true then _ else _
  rw [ct]
  cases hb:bR S l with
  | true=>
   refine bB ⟨_,rfl,?_,?_⟩
   ·show Slot.nw (.sh (gg || true) (.tup [.int l.1,.int l.2]))
    cases gg <;> exact trivial
   ·have:ls.find? (bR S)=some l:=by
     rw [<- bk8 i ls,List.find?_append,hn,br5 (bh7.mp hi).1,(bh7.mp hi).2,bq2,hb]; rfl
    rw [this] at q
    exact q
  | false=>
   refine aS ⟨_,rfl,?_⟩
   rw [tk,bq2,hb]; rfl
 ·rintro ρ ⟨y,rfl,hn⟩
  rw [show (ls.map fun l=>PV.tup [PV.int l.1,PV.int l.2]).length=ls.length from bh2 _,bo2] at hn
  rw [hn] at q
  exact⟨trivial,q⟩
def sW:bF:=fun xs Q=>∃ ws ls c,xs = [bC ws ls,.int c]/\ws.length<=40/\∀ ws',ws'.length=ws.length->Q (bC ws' ls)
def ac8:aK:=(b7 (gQ (a7 (aC fK (a7 (cP (jF (aC fJ (a7 (cJ (a5 0) (qC (.int 0))) aA))) [none,some 1] (bY 0) e9 (dD (aC gZ (a7 (a5 1) (a7 (a5 0) aA))) (qC (.int 5)))) aA)) (a7 (cJ (a5 0) (qC (.int 1))) aA))))
theorem aZ6:cI ac8 ["web","cell"] sW:=by
 rintro xs Q ⟨ws,ls,c,rfl,few,q⟩
 refine⟨_,rfl,_,_,_,rfl,rfl,rfl,_,_,rfl,rfl,_,rfl,by rw [bW]; omega,by rw [bW]; omega,by rw [e8,bW]; omega,fun i acc=>∃ ds:List Int,acc=intz ds/\ds.length=i,⟨[],rfl,rfl⟩,?_,?_⟩
 ·rintro i y acc hy ⟨ds,rfl,dl⟩
  obtain ⟨rfl,hi⟩:=jN hy
  rw [bW] at hi
  refine⟨_,rfl,_,rfl,c,0+(i:Int),rfl,by omega,by omega,fun z _=>?_⟩
  exact⟨_,_,rfl,rfl,(by show (0:Int) < 5; decide),trivial,ds ++ [z % 5],by rw [fU]; rfl,by rw [bi6,dl]; rfl⟩
 rintro acc ⟨ds,rfl,dl⟩
 rw [e8,bW,br8] at dl
 exact⟨⟨_,_,rfl,rfl,cR _,_,rfl,_,_,_,rfl,rfl,rfl,by show 2<=1000; decide,wH ds ls,trivial,q ds dl⟩,fun ns z=>by cases z⟩
def sX:bF:=fun xs Q=>∃ x ns,∃ n:Nat,xs = [x,.int n]/\fV x ns/\ns.length<=63/\n<=40/\∀ ls,jT n ls->Q (.lst (bG ls))
def xP:aK:=(aR (eV (dJ (a5 0)) (bY 3)
  (cM (aV (jI (a5 1) (qC (.int 1)))) (aR (bM 6 (aC gZ (a7 (a5 3) (a7 (qC (.int 0)) aA))))
   (aR (bM 4 (dD (a5 6) (a5 1)))
   (aR (bM 5 (dD (kE (kE (a5 4) (qC (.int 1))) (dD (iI (a5 6) (qC (.int 64))) (qK (a5 1) (qC (.int 1))))) (a5 1)))
   (aR (bM 7 (gQ (a7 (aC vB (a7 (a5 4) (a7 (a5 5) aA))) (a7 (aC pV (a7 (a5 4) (a7 (a5 5) aA))) aA))))
   (cM (k9 (aV (kC false (a5 7) (a5 2))) (aV (gS (dD (iI (a5 6) (qC (.int 4096))) (qC (.int 2))) (qC (.int 0))))) (xA 2 (a5 7)) (nP 2 (a5 7) (qC (.bl true)))))))) cO))
 (b7 (aC rT (a7 (aC wQ (a7 (a5 2) aA)) aA))))
def ac9:aK:=(aR (jC 2 (qC (.dT [])))
 (aR (cM (k9 (aV (jI (aC fJ (a7 (a5 0) aA)) (qC (.int 0)))) (aV (gS (dD (cJ (a5 0) (qC (.int 0))) (qC (.int 2))) (qC (.int 1))))) (aR (bM 3 (iI (cJ (a5 0) (qC (.int 0))) (qC (.int 2))))
  (aR (eV (jF (a5 1)) (bY 4)
   (eV (pY (kE (a5 4) (qC (.int 1))) (a5 1)) (bY 5)
    (aR (cM (aV (gS (dD (a5 3) (qC (.int 2))) (qC (.int 1)))) (nP 2 (gQ (a7 (a5 4) (a7 (a5 5) aA))) (qC (.bl true))) cO)
    (bM 3 (iI (a5 3) (qC (.int 2)))))))
  (bM 0 (qJ (a5 0) (qI (qC (.int 1))) qH)))) cO)
 xP))
theorem aZ7 {n one t:Int} (h:1 < n) (o0:0<=one) (o1:one < n) (t0:0<=t):(one+1+t % (n - 1)) % n ≠ one:=by
 have r0:0<=t % (n - 1):=bv3 _ (by omega)
 have r1:t % (n - 1) < n - 1:=bu3 _ (by omega)
 generalize t % (n - 1)=r at r0 r1
 by_cases c:one+1+r < n
 ·rw [Int.emod_eq_of_lt (by omega) c]; omega
 ·rw [show one+1+r=(one+1+r - n)+n by omega,Int.add_emod_right,Int.emod_eq_of_lt (by omega) (by omega)]; omega
theorem ad0 {x:PV}{ns:List Int}{n:Nat}{g:Bool}{ps:List (List a9 × PV)}{y3 y4 y5:Option Slot}{Q:PV->Prop} (hx:fV x ns) (hg:(Slot.sh g x).tag = .rd->flat x=true) (n1:n<=40) (dk:DK (n:Int) ps) (q:∀ ls,jT n ls->Q (.lst (bG ls))) :
  xP { nx:=fun _=>Q .non,rt:=Q } [some (.sh g x),si (n:Nat),some (.own (.dT ps)),y3,y4,y5,none,none]:=by
 refine⟨_,rfl,_,hx.seq,hg,fun i ρ=>∃ (a b c d e:Option Slot) (ps:List (List a9 × PV)),ρ = [some (.sh g x),si (n:Nat),some (.own (.dT ps)),a,b,c,d,e]/\DK (n:Int) ps,⟨y3,y4,y5,none,none,ps,rfl,dk⟩,?_,?_⟩
 ·rintro i y ρ hy ⟨a,b,c,d,e,ps,rfl,dk⟩
  obtain ⟨cell,rfl,hc⟩:=iP hy
  have few:=dk.few40 (by omega)
  refine mB ?_
  refine⟨_,rfl,_,_,rfl,rfl,_,rfl,?_⟩
  by_cases h1:(n:Int) > 1
  ·dsimp only
   rw [bi2 h1]
   refine bB ⟨_,rfl,cell,0,rfl,by decide,by decide,fun t t0=>⟨trivial,?_⟩⟩
   refine⟨_,rfl,_,rfl,_,_,rfl,rfl,(by show (0:Int) < (n:Int); omega),trivial,?_⟩
   dsimp only
   generalize hone:t % (n:Int)=one
   have o1:0<=one/\one < n:=by rw [<- hone]; exact⟨bv3 _ (by omega),bu3 _ (by omega)⟩
   refine⟨_,rfl,_,_,rfl,rfl,_,rfl,_,_,rfl,rfl,⟨by decide,by decide⟩,_,rfl,_,_,rfl,rfl,_,_,rfl,rfl,(by show (0:Int) < (n:Int) - 1; omega),_,_,rfl,rfl,_,rfl,_,_,rfl,rfl,(by show (0:Int) < (n:Int); omega),trivial,?_⟩
   dsimp only
   have ne:=aZ7 h1 o1.1 o1.2 (Int.ediv_nonneg t0 (by decide:(0:Int)<=64))
   generalize hoth:(one+1+t / 64 % ((n:Int) - 1)) % (n:Int)=oth
   have o2:0<=oth/\oth < n:=by rw [<- hoth]; exact⟨bv3 _ (by omega),bu3 _ (by omega)⟩
   rw [hoth] at ne
   have lk:0<=(if oth < one then oth else one)/\(if oth < one then oth else one) < (if oth > one then oth else one)/\(if oth > one then oth else one) < (n:Int):=by
    split <;> split <;> omega
   refine⟨_,rfl,_,rfl,_,_,rfl,_,rfl,_,rfl,_,_,rfl,by show 2<=1000; decide,rfl,trivial,?_⟩
   dsimp only
   revert lk
   generalize (if oth < one then oth else one)=mn
   generalize (if oth > one then oth else one)=mx
   intro lk
   have put:∀ D:nJ,(∀ ρ,(∃ (a b c d e:Option Slot) (ps:List (List a9 × PV)),ρ = [some (.sh g x),si (n:Nat),some (.own (.dT ps)),a,b,c,d,e]/\DK (n:Int) ps)->D.nx ρ)->(nP 2 (a5 7) (qC (.bl true))) D [some (.sh g x),si (n:Nat),some (.own (.dT ps)),si cell,si one,si oth,si t,some (.sh true (.tup [.int mn,.int mx]))]:=fun D hD=>
    ⟨ps,rfl,_,rfl,fC (mn,mx),rfl,trivial,by omega,hD _ ⟨_,_,_,_,_,_,rfl,dk.put (mn,mx) lk⟩⟩
   refine⟨_,rfl,_,rfl,_,.inr ⟨ps,fC (mn,mx),rfl,rfl,rfl⟩,_,rfl,?_⟩
   cases hv:(bU ps (fC (mn,mx))).isSome with
   | false=>exact aS (aS (put _ fun ρ h=>h))
   | true=>
    have is:∃ j:Nat,(ps.map (·.1))[j]? = some (fC (mn,mx)):=by
     rw [<- rD] at hv
     obtain ⟨p,hp,e⟩:=List.any_eq_true.mp hv
     have e:=bq9 e
     obtain ⟨j,hj,ej⟩:=bp2 hp
     exact⟨j,by rw [bi4,bg9 hj,ej]; exact congrArg some e⟩
    refine bB ⟨_,rfl,_,_,rfl,rfl,⟨by decide,by decide⟩,_,_,rfl,rfl,(by show (0:Int) < 2; decide),.inl ⟨_,_,rfl,rfl,_,rfl,?_⟩⟩
    dsimp only
    cases (if false=true then !decide (t / 4096 % 2=0) else decide (t / 4096 % 2=0)) with
    | true=>exact bB ⟨ps,rfl,_,rfl,fC (mn,mx),rfl,is,fun j hj=>⟨_,_,_,_,_,_,rfl,dk.cut j⟩⟩
    | false=>exact aS (put _ fun ρ h=>h)
  ·dsimp only
   rw [bh3 h1]
   exact aS ⟨_,_,_,_,_,ps,rfl,dk⟩
 rintro ρ ⟨a,b,c,d,e,ps,rfl,dk⟩
 have few:=dk.few40 (by omega)
 obtain ⟨ls,e1,e2,e3,e4⟩:=DL.links dk.key
 have lnd:ls.Nodup:=by
  have:=dk.nd
  rw [e4] at this
  exact (bl7.mp this).imp fun h e=>h (congrArg fC e)
 refine⟨_,rfl,ps,rfl,ls.map two,?_,by rw [bh2]; omega,?_,fun us pz so=>?_⟩
 ·show [PV.lst (ps.map fun p=>PV.tup (p.1.map kP))]=_
  rw [e1,oG]
 ·intro y hy
  obtain ⟨l,_,rfl⟩:=bl4.mp hy
  rfl
 obtain ⟨ls',rfl,pl⟩:=T6 pz
 rw [<- oG]
 exact⟨trivial,q ls' ⟨fun l hl=>e2 l (pl.mem_iff.mp hl),by rw [pl.length_eq]; omega,T7 so (pl.nodup_iff.mpr lnd)⟩⟩
theorem aZ8:cI ac9 ["flow","many","links","cell","one","other","turn","pair"] sX:=by
 rintro xs Q ⟨x,ns,n,rfl,hx,hns,n1,q⟩
 refine⟨rfl,rfl,?_⟩
 have last:xP { nx:=fun _=>Q .non,rt:=Q } [some (.sh (flat x) x),si (n:Nat),some (.own (.dT [])),none,none,none,none,none]:=ad0 hx (aL0 hx) n1 (DK.nil n) q
 refine⟨_,rfl,_,_,rfl,hx.len,_,_,rfl,rfl,_,rfl,?_⟩
 by_cases h1:(0:Int) < (ns.length:Int)
 ·dsimp only
  rw [bi2 h1]
  have g0:ns[0]? = some (ns[0]'(by omega)):=bg9 (by omega)
  have i0:L2.atI (intz ns) (0:Int)=some (.int (ns[0]'(by omega))):=l4 (xs:=intz ns) (j:=0) (by rw [bi4,g0]; rfl)
  refine bB ⟨_,rfl,_,_,_,hx.seq,rfl,i0,_,_,rfl,rfl,(by show (0:Int) < 2; decide),.inl ⟨_,_,rfl,rfl,_,rfl,?_⟩⟩
  cases h2:(if false=true then !decide (ns[0]'(by omega) % 2=1) else decide (ns[0]'(by omega) % 2=1)) with
  | false=>exact aS last
  | true=>
   refine bB ⟨_,rfl,_,_,_,hx.seq,rfl,i0,_,_,rfl,rfl,⟨by decide,by decide⟩,trivial,?_⟩
   refine⟨_,rfl,(n:Int),rfl,by omega,by omega,fun i ρ=>∃ (c:Int) (y z:Option Slot) (ps:List (List a9 × PV)),ρ = [some (.sh (flat x) x),si (n:Nat),some (.own (.dT ps)),si c,y,z,none,none]/\DK (n:Int) ps,⟨_,none,none,[],rfl,DK.nil n⟩,?_,?_⟩
   ·rintro i y ρ hy ⟨c,y1,z1,ps,rfl,dl⟩
    obtain ⟨rfl,hi⟩:=jN hy
    refine mB ?_
    refine⟨_,rfl,_,_,rfl,rfl,_,rfl,_,(n:Int),rfl,rfl,⟨by omega,by omega,by omega,by omega⟩,fun j ρ=>∃ (c:Int) (z:Option Slot) (ps:List (List a9 × PV)),ρ = [some (.sh (flat x) x),si (n:Nat),some (.own (.dT ps)),si c,si (0+(i:Int)),z,none,none]/\DK (n:Int) ps,⟨c,z1,ps,rfl,dl⟩,?_,?_⟩
    ·rintro j y ρ hy ⟨c,z2,ps,rfl,dl⟩
     obtain ⟨rfl,hj⟩:=jN hy
     have few:=dl.few40 (by omega)
     refine mB ?_
     refine⟨_,rfl,_,_,rfl,rfl,(by show (0:Int) < 2; decide),.inl ⟨_,_,rfl,rfl,_,rfl,?_⟩⟩
     cases h:(if false=true then !decide (c % 2=1) else decide (c % 2=1)) with
     | true=>
      refine bB ⟨_,rfl,_,rfl,_,rfl,by show 2<=1000; decide,rfl,fC (0+(i:Int),0+(i:Int)+1+(j:Int)),rfl,trivial,by omega,?_⟩
      refine⟨_,rfl,_,_,rfl,rfl,⟨by decide,by decide⟩,trivial,c / 2,si (0+(i:Int)+1+(j:Int)),_,rfl,?_⟩
      exact dl.put _ ⟨by show (0:Int)<=0+(i:Int); omega,by show (0:Int)+(i:Int) < 0+(i:Int)+1+(j:Int); omega,by show (0:Int)+(i:Int)+1+(j:Int) < n; omega⟩
     | false=>exact aS ⟨_,rfl,_,_,rfl,rfl,⟨by decide,by decide⟩,trivial,c / 2,si (0+(i:Int)+1+(j:Int)),ps,rfl,dl⟩
    ·rintro ρ ⟨c,z2,ps,rfl,dl⟩
     exact⟨c,si (0+(i:Int)),z2,ps,rfl,dl⟩
   ·rintro ρ ⟨c,y1,z1,ps,rfl,dl⟩
    refine⟨_,rfl,_,rfl,_,hx.seqTF,cR _,trivial,?_⟩
    have hc:fV (vJ x (eB (intz ns) (some 1) none)) (ns.drop 1):=by
     rcases hx with rfl | rfl
     ·exact .inr (by show PV.lst (eB (intz ns) (some 1) none)=_; rw [aa8])
     ·exact .inr (by show PV.lst (eB (intz ns) (some 1) none)=_; rw [aa8])
    exact ad0 (g:=true) hc (fun z=>by cases z) n1 dl q
 ·dsimp only
  rw [bh3 h1]
  exact aS (aS last)
def xQ:bF:=T8
theorem xR (ls:List (Int × Int)):tups (ls.map two)=bG ls:=(oG ls).symm
def ad1 (K:PySem.W.Frag):aK:=(aR (cM (k9 (aV (q2 (fR 2 false) (a5 7) (iG aA))) (aV (aB8 (a5 8) (qC .non)))) (b7 (qC (.bl false))) cO)
 (aR (cM (aV (q2 (fR 2 true) (a5 7) (iG aA))) (cM (jA (jB (aV (kD K "tuple" (a5 8)))) (jA (aV (q2 (fR 2 true) (a5 8) (cJ (a5 7) (qC (.int 0))))) (jA (jB (aV (aC oE (a7 (cJ (a5 8) (qC (.int 0))) aA)))) (jB (aV (aC oE (a7 (cJ (a5 8) (qC (.int 1))) aA))))))) (b7 (qC (.bl false))) cO) cO)
 (b7 (nI (jI (a5 1) (qC (.int 6))) (q2 (fR 2 false) (aC (xC fun _=>False) (a7 (a5 4) aA)) (a5 3))))))
def ad2 (K:PySem.W.Frag):aK:=(aR (cM (aV (qNe (aC (sA fun _=>False) (a7 (a5 4) (a7 (aC fK (a7 (a5 5) aA)) aA))) (q2 (fR 2 false) (a5 7) (iG aA)))) (b7 (qC (.bl false))) cO)
 (aR (bM 8 (aC (oN fun _=>False) (a7 (aC sW (a7 (a5 4) (a7 (a5 2) aA))) (a7 (aC pU (a7 (a5 6) aA)) aA))))
 (aR (cM (aV (q2 xI (aC (oN fun _=>False) (a7 (a5 4) (a7 (a5 6) aA))) (a5 8))) (b7 (qC (.bl false))) cO)
 (ad1 K))))
def ad3 (K:PySem.W.Frag):aK:=(aR (bM 6 (aC fK (a7 (cP (jF (a5 1)) [none,some 5] (bY 0) (aV (q2 (lF true) (a5 0) (a5 1))) (a5 0)) aA)))
 (aR (bM 7 (cP (dJ (a5 3)) [none,some 6] (bY 0) (k9 (aV (q2 (lF false) (cJ (a5 0) (qC (.int 0))) (a5 1))) (aV (q2 (lF false) (cJ (a5 0) (qC (.int 1))) (a5 1)))) (a5 0)))
 (ad2 K)))
def ad4 (K:PySem.W.Frag):aK:=(aR (bM 1 (aC rV (a7 (aC oD (a7 (a5 0) (a7 (qC (.int 0)) aA))) aA)))
 (aR (bM 2 (aC oD (a7 (a5 0) (a7 (qC (.int 1)) aA))))
 (aR (bM 3 (aC sX (a7 (qJ (a5 0) (qI (qC (.int 3))) qH) (a7 (a5 1) aA))))
 (aR (bM 4 (aC sV (a7 (a5 1) (a7 (a5 3) aA))))
 (aR (bM 5 (aC pU (a7 (aC rR (a7 (iI (a5 2) (qC (.int 7))) (a7 (a5 1) aA))) aA)))
 (aR (cM (aV (gS (dD (a5 2) (qC (.int 2))) (qC (.int 1)))) (bM 5 (aC ac2 (a7 (wV (a5 5) (cP (oH (a5 3)) [none,none,some 2] (jH 0 1) e9 (cJ (a5 1) (dD (aC gZ (a7 (a5 2) (a7 (a5 0) aA))) (qC (.int 2)))))) aA))) cO)
 (ad3 K)))))))
section
variable {K : PySem.W.Frag} {n : Nat} {ls : List (Int × Int)} {S R L : List Int} {c : Int} {y0 : Option Slot} {Q : PV → Prop}
abbrev xT (y0:Option Slot) (n:Nat) (c:Int) (ls:List (Int × Int)) (S R:List Int) (D:List (Int × Int)) (y8:Option Slot):bE:=[y0,si (n:Nat),si c,some (.sh true (.lst (bG ls))),some (.sh true (bC (cB n ls) ls)),some (.sh true (.lst (intz S))),some (.sh true (.tup (intz R))),some (.sh true (.lst (bG D))),y8]
theorem ad5 (D:List (Int × Int)):cW 3 (.lst (bG D)) (.lst [])=true/\bJ 3 (.lst (bG D)) (.lst [])=decide (D = []):=by
 have h1:=xB 1 (D.map two) []
 have h2:=X8 1 (D.map two) []
 rw [xR] at h1 h2
 refine⟨h1,h2.trans ?_⟩
 cases D <;> simp
theorem aZ9 (kt:PySem.W.kitOne K (.type "tuple") (.type "tuple")=some true) (lk:jT n ls) (n40:n<=40) (q:Q (.bl true)) :
  ad1 K { nx:=fun _=>Q .non,rt:=Q } (xT y0 n c ls S R (ls.filter (bR R)) (some (.sh true (xO (ls.find? (bR R)))))):=by
 have hd:(ls.filter (bR R)).head? = ls.find? (bR R):=List.head?_filter ..
 have wb:Wb (cB n ls) ls:=⟨by rw [eL]; omega,by have:=lk.2.1; omega,fun l hl=>by rw [eL]; have:=lk.1 l hl; omega⟩
 have nd:ls.Nodup:=lk.2.2.imp fun {a b} h e=>by rw [e] at h; unfold dS at h; omega
 have end1:∀ ρ,ρ=xT y0 n c ls S R (ls.filter (bR R)) (some (.sh true (xO (ls.find? (bR R)))))->(b7 (nI (jI (a5 1) (qC (.int 6))) (q2 (fR 2 false) (aC (xC fun _=>False) (a7 (a5 4) aA)) (a5 3)))) { nx:=fun _=>Q .non,rt:=Q } ρ:=by
  rintro ρ rfl
  refine⟨_,rfl,_,_,rfl,rfl,_,rfl,?_⟩
  show if decide (6 < (n:Int))=true then _ else _
  by_cases g6:6 < (n:Int)
  ·rw [bi2 g6]; exact bB ⟨trivial,q⟩
  ·rw [bh3 g6]
   refine aS ⟨_,rfl,cB n ls,ls,rfl,wb,fun _=>⟨aS5 (by rw [eL]; omega),fun Z pz so=>?_⟩,fun z=>absurd z (by rw [eL]; omega)⟩
   have ez:Z=ls.map two:=aS4 (pz.trans (aY3 lk.1 nd)) so (bl7.mpr (lk.2.2.imp fun {a b} h=>?_))
   ·rw [ez,xR]
    have h1:=xB 1 (ls.map two) (ls.map two)
    have h2:=X8 1 (ls.map two) (ls.map two)
    rw [xR] at h1 h2
    refine⟨_,rfl,.inr ⟨_,_,rfl,rfl⟩,h1,trivial,?_⟩
    show Q (.bl (bJ 3 (.lst (bG ls)) (.lst (bG ls))))
    rw [show bJ 3 (.lst (bG ls)) (.lst (bG ls))=_ from h2,bi2 rfl]; exact q
   ·show HT.b6 [b.1,b.2] [a.1,a.2]=false
    unfold dS at h
    rw [HT.fF,HT.fF,HT.oW]
    split
    ·split
     ·rfl
     ·exact bh3 (by omega)
    ·exact bh3 (by omega)
 cases hf:ls.find? (bR R) with
 | none=>
  rw [hf] at hd
  have e0:ls.filter (bR R) = []:=List.head?_eq_none_iff.mp hd
  rw [hf,e0] at end1
  rw [e0]
  refine⟨_,rfl,by decide,rfl,.inr ⟨_,_,rfl,rfl⟩,by decide,_,rfl,bB ?_⟩
  refine⟨_,rfl,rfl,_,rfl,aS ?_⟩
  refine⟨_,rfl,by decide,rfl,.inr ⟨_,_,rfl,rfl⟩,by decide,_,rfl,aS ?_⟩
  exact end1 _ rfl
 | some l=>
  rw [hf] at hd
  obtain ⟨r,er⟩:∃ r,ls.filter (bR R)=l :: r:=by
   cases h:ls.filter (bR R) with
   | nil=>rw [h] at hd; cases hd
   | cons a r=>rw [h] at hd; cases hd; exact⟨r,rfl⟩
  rw [hf,er] at end1
  rw [er]
  obtain ⟨o1,o2⟩:=ad5 (l :: r)
  refine⟨_,rfl,by decide,rfl,.inr ⟨_,_,rfl,rfl⟩,o1,_,rfl,?_⟩
  show if bJ 3 (.lst (bG (l :: r))) (.lst [])=true then _ else _
  rw [o2,bh3 (by simp)]
  refine aS (aS ?_)
  refine⟨_,rfl,by decide,rfl,.inr ⟨_,_,rfl,rfl⟩,o1,_,rfl,?_⟩
  show if (!bJ 3 (.lst (bG (l :: r))) (.lst []))=true then _ else _
  rw [o2,bh3 (by simp)]
  refine bB ?_
  refine⟨_,rfl,_,_,rfl,kt,_,rfl,aS ?_⟩
  have ix0:L2.atI (bG (l :: r)) 0=some (.tup [.int l.1,.int l.2]):=l4 (xs:=bG (l :: r)) (j:=0) rfl
  refine⟨_,rfl,_,rfl,_,_,_,rfl,rfl,ix0,.inl ⟨_,_,rfl,rfl⟩,qG 2 [l.1,l.2] [l.1,l.2],_,rfl,?_⟩
  show if (!bJ 3 (.tup (intz [l.1,l.2])) (.tup (intz [l.1,l.2])))=true then _ else _
  rw [qF 2,bi2 rfl]
  refine aS ?_
  refine⟨_,rfl,_,_,_,rfl,rfl,rfl,_,rfl,_,rfl,aS ?_⟩
  refine⟨_,rfl,_,_,_,rfl,rfl,rfl,_,rfl,_,rfl,aS ?_⟩
  exact end1 _ rfl
theorem ad6 (hs:b9 n S=true) {l:Int × Int} (i:0<=l.1/\l.1 < l.2/\l.2 < (n:Int)):bR ((rng n).filter fun h=>!decide (h ∈ S)) l=true ↔ ¬ (l.1 ∈ S ∨ l.2 ∈ S):=by
 have m:∀ x:Int,0<=x->x < (n:Int)->(x ∈ (rng n).filter (fun h=>!decide (h ∈ S)) ↔ x ∉ S):=fun x h0 h1=>by
  rw [bj8]
  simp [fB,h0,h1]
 unfold bR
 rw [bk5,bj6,bj6,m _ i.1 (by omega),m _ (by omega) i.2.2]
 exact⟨fun z w=>w.elim z.1 z.2,fun z=>⟨fun w=>z (.inl w),fun w=>z (.inr w)⟩⟩
theorem ba0 (kt:PySem.W.kitOne K (.type "tuple") (.type "tuple")=some true) (lk:jT n ls) (n40:n<=40) (hS:b9 n S=true) (eR:R=(rng n).filter fun h=>!decide (h ∈ S)) (q:Q (.bl true)) :
  ad2 K { nx:=fun _=>Q .non,rt:=Q } (xT y0 n c ls S R (ls.filter (bR R)) none):=by
 have wb:Wb (cB n ls) ls:=⟨by rw [eL]; omega,by have:=lk.2.1; omega,fun l hl=>by rw [eL]; have:=lk.1 l hl; omega⟩
 have sl:=m8 hS
 have hSd:b9 (cB n ls).length S=true:=by rw [eL]; exact hS
 have rS:b9 n R=true:=by rw [eR]; exact aQ3 n _
 have rl:=m8 rS
 have eqf:ls.filter (bR R) = [] ↔ ∀ l ∈ ls,l.1 ∈ S ∨ l.2 ∈ S:=by
  rw [List.filter_eq_nil_iff]
  refine⟨fun z l hl=>bt9 fun w=>z l hl (by rw [eR]; exact (ad6 hS (lk.1 l hl)).mpr w),fun z l hl w=>?_⟩
  rw [eR] at w
  exact (ad6 hS (lk.1 l hl)).mp w (z l hl)
 obtain ⟨o1,o2⟩:=ad5 (ls.filter (bR R))
 refine⟨_,rfl,_,rfl,⟨_,_,rfl,rfl,cR _,?_⟩,fun _ z=>by cases z⟩
 refine⟨cB n ls,ls,_,S,rfl,wb,.inl rfl,by omega,fun _ m en=>?_,fun z=>by rw [hSd] at z; cases z⟩
 refine⟨_,rfl,by decide,rfl,.inr ⟨_,_,rfl,rfl⟩,o1,.inr ⟨_,_,rfl,rfl,_,rfl,?_⟩⟩
 have both:decide (((aW (cB n ls) ls S m).length:Int)=((cB n ls).length:Int))=bJ 3 (.lst (bG (ls.filter (bR R)))) (.lst []):=by
  rw [o2,<- aV7 hSd en]
  by_cases z:ls.filter (bR R) = []
  ·rw [bi2 z]; exact (ac1 lk.1 hS).mpr (eqf.mp z)
  ·rw [bh3 z,bs0]
   exact fun w=>z (eqf.mpr ((ac1 lk.1 hS).mp w))
 show if (!decide (decide (((aW (cB n ls) ls S m).length:Int)=((cB n ls).length:Int))=bJ 3 (.lst (bG (ls.filter (bR R)))) (.lst [])))=true then _ else _
 rw [bi2 both]
 refine aS ?_
 refine⟨_,rfl,_,rfl,cB n ls,ls,c,rfl,by rw [eL]; exact n40,fun ws' wl=>?_⟩
 rw [eL] at wl
 refine⟨_,rfl,_,_,rfl,rfl,cR _,ws',ls,_,R,rfl,.inr rfl,by omega,by rw [wl]; exact rS,trivial,?_⟩
 refine⟨_,rfl,_,rfl,cB n ls,ls,_,R,rfl,.inl rfl,by omega,by rw [eL]; exact rS,?_⟩
 have fin:=aZ9 (K:=K) (S:=S) (R:=R) (c:=c) (y0:=y0) kt lk n40 q
 refine⟨_,rfl,?_⟩
 cases hf:ls.find? (bR R) with
 | none=>
  rw [hf] at fin
  exact .inl ⟨rfl,rfl,_,rfl,aS fin⟩
 | some l=>
  rw [hf] at fin
  refine .inr ⟨.inl ⟨_,_,rfl,rfl⟩,qG 2 [l.1,l.2] [l.1,l.2],_,rfl,?_⟩
  show if (!bJ 3 (.tup (intz [l.1,l.2])) (.tup (intz [l.1,l.2])))=true then _ else _
  rw [qF 2,bi2 rfl]
  exact aS fin
theorem ad7 (kt:PySem.W.kitOne K (.type "tuple") (.type "tuple")=some true) (lk:jT n ls) (n40:n<=40) (hS:b9 n S=true) (q:Q (.bl true)) :
  ad3 K { nx:=fun _=>Q .non,rt:=Q } [y0,si (n:Nat),si c,some (.sh true (.lst (bG ls))),some (.sh true (bC (cB n ls) ls)),some (.sh true (.lst (intz S))),none,none,none]:=by
 refine⟨_,rfl,(n:Int),rfl,by omega,by omega,by rw [e8]; omega,fun i acc=>acc=intz (((rng n).take i).filter fun z=>!decide (z ∈ S)),rfl,?_,?_⟩
 ·rintro i y acc hy rfl
  obtain ⟨rfl,hi⟩:=jN hy
  have hi':i < n:=by omega
  have tk:=o8 (p:=fun z=>!decide (z ∈ S)) (R3 hi')
  have e0:(0:Int)+(i:Int)=(i:Int):=by omega
  rw [e0]
  refine⟨_,rfl,_,rfl,(i:Int),S,rfl,rfl,_,rfl,?_⟩
  show if (!decide ((i:Int) ∈ S))=true then _ else _
  by_cases h2:(i:Int) ∈ S
  ·rw [bi2 h2] at tk ⊢
   rw [if_neg (by decide),bk6] at tk
   refine aS ?_
   show _=_
   rw [tk]
  ·rw [bh3 h2] at tk ⊢
   rw [if_pos (by decide)] at tk
   refine bB ⟨_,rfl,rF _ _,?_⟩
   show _=_
   rw [tk,fU]; rfl
 rintro acc rfl
 rw [e8,bk3 (by rw [fA]; omega)]
 refine⟨⟨_,_,rfl,rfl,cR _,trivial,?_⟩,fun ns z=>by cases z⟩
 have pl:(bG ls).length=ls.length:=bh2 _
 have l17:=lk.2.1
 generalize eR:(rng n).filter (fun z=>!decide (z ∈ S))=R
 refine⟨_,rfl,_,rfl,(fun z=>by cases z),by rw [pl]; omega,fun i acc=>acc=bG ((ls.take i).filter (bR R)),rfl,?_,?_⟩
 ·rintro i y acc hy rfl
  obtain ⟨l,rfl,hl⟩:=rG hy
  have tk:=o8 (p:=bR R) hl
  refine⟨_,rfl,_,_,_,rfl,rfl,rfl,_,rfl,l.1,R,rfl,rfl,_,rfl,?_⟩
  show if decide (l.1 ∈ R)=true then _ else _
  unfold bR at tk ⊢
  by_cases h1:l.1 ∈ R
  ·rw [bi2 h1]
   refine bB ⟨_,rfl,_,_,_,rfl,rfl,rfl,_,rfl,l.2,R,rfl,rfl,_,rfl,?_⟩
   show if decide (l.2 ∈ R)=true then _ else _
   by_cases h2:l.2 ∈ R
   ·rw [bi2 h2]
    rw [bi2 h1,bi2 h2,if_pos (by decide)] at tk
    refine bB ⟨_,rfl,X9 _ rfl,?_⟩
    dsimp only
    rw [tk]
    unfold bG
    rw [bj4]; rfl
   ·rw [bh3 h2]
    rw [bh3 h2,by0,if_neg (by decide),bk6] at tk
    refine aS ?_
    dsimp only
    rw [tk]
  ·rw [bh3 h1]
   rw [bh3 h1,bx8,if_neg (by decide),bk6] at tk
   refine aS (aS ?_)
   dsimp only
   rw [tk]
 rintro acc rfl
 rw [pl,bo2]
 exact⟨trivial,ba0 kt lk n40 hS eR.symm q⟩
end
theorem ba1 {n:Nat}{ls:List (Int × Int)} (lk:jT n ls) (n40:n<=40):ls.length<=800:=by
 have nd:ls.Nodup:=lk.2.2.imp fun {a b} h e=>by rw [e] at h; unfold dS at h; omega
 have:=rQ 800 (ls.map fun l=>if l.1 < 20 then (l.1 * 40+l.2).toNat else ((39 - l.1) * 40+(39 - l.2)).toNat) (by
  refine bl7.mpr (nd.imp_of_mem fun {a b} ha hb hab e=>hab ?_)
  have i1:=lk.1 a ha
  have i2:=lk.1 b hb
  have:a.1=b.1/\a.2=b.2:=by
   split at e <;> split at e <;> omega
  exact Prod.ext this.1 this.2) fun x hx=>by
   obtain ⟨l,hl,rfl⟩:=bl4.mp hx
   have:=lk.1 l hl
   split <;> omega
 rwa [bh2] at this
theorem ba2 {K:PySem.W.Frag} (kt:PySem.W.kitOne K (.type "tuple") (.type "tuple")=some true):cI (ad4 K) ["script","many","cell","links","web","seeds","rest","left","found"] xQ:=by
 rintro xs Q ⟨ns,rfl,hl,q⟩
 refine⟨_,rfl,_,ns,0,rfl,.inl rfl,by decide,_,rfl,fun M m0 m1=>⟨trivial,?_⟩⟩
 obtain ⟨n,rfl⟩:∃ n:Nat,M=n:=⟨M.toNat,by omega⟩
 refine⟨_,rfl,_,ns,1,rfl,.inl rfl,by decide,trivial,?_⟩
 generalize ns.getD (1:Int).toNat 0=c
 have hc:fV (vJ (.scr ns) (eB (intz ns) (some 3) none)) (ns.drop 3):=.inr (by show PV.lst (eB (intz ns) (some 3) none)=_; rw [aL1 ns (by decide)]; rfl)
 refine⟨_,rfl,_,rfl,_,rfl,cR _,_,rfl,_,_,n,rfl,hc,by rw [br3]; omega,by omega,fun ls lk=>⟨trivial,?_⟩⟩
 refine⟨_,rfl,_,rfl,n,ls,rfl,by omega,lk,trivial,?_⟩
 refine⟨_,rfl,_,_,rfl,rfl,⟨by decide,by decide⟩,_,rfl,_,n,rfl,by omega,by omega,fun S hS=>?_⟩
 have hS:b9 n S=true:=hS
 have sl:=m8 hS
 refine⟨_,_,rfl,rfl,cR _,trivial,?_⟩
 refine⟨_,rfl,_,_,rfl,rfl,(by show (0:Int) < 2; decide),.inl ⟨_,_,rfl,rfl,_,rfl,?_⟩⟩
 dsimp only
 cases (if false=true then !decide (c % 2=1) else decide (c % 2=1)) with
 | false=>exact aS (ad7 kt lk (by omega) hS q)
 | true=>
  refine bB ?_
  have l8:=ba1 lk (by omega)
  have pl:(bG ls).length=ls.length:=bh2 _
  refine⟨_,rfl,_,rfl,_,.inl rfl,(fun z=>by cases z),by rw [kR,pl]; omega,fun i acc=>∃ T:List Int,acc=intz T/\T.length=i/\∀ x ∈ T,0<=x/\x < (n:Int),⟨[],rfl,rfl,fun _ h=>nomatch h⟩,?_,?_⟩
  ·rintro i y acc hy ⟨T,rfl,tl,ti⟩
   obtain ⟨y,hy2,rfl⟩:=wY hy
   obtain ⟨l,rfl,hl2⟩:=rG hy2
   have il:=(bh7.mp hl2).1
   have inn:=lk.1 l (bm3 hl2)
   refine⟨_,_,rfl,_,rfl,_,rfl,_,rfl,c,(i:Int),rfl,by omega,by omega,fun z z0=>?_⟩
   have j0:0<=z % 2:=bv3 _ (by decide)
   have j1:z % 2 < 2:=bu3 _ (by decide)
   refine⟨_,_,rfl,rfl,(by show (0:Int) < 2; decide),?_⟩
   rcases (show z % 2=0 ∨ z % 2=1 by omega) with h | h
   ·refine⟨_,_,_,rfl,rfl,(by rw [h]; rfl:L2.atI [PV.int l.1,PV.int l.2] (z % 2)=some (.int l.1)),rF _ _,T ++ [l.1],by rw [fU]; rfl,by rw [bi6,tl]; rfl,fun x hx=>?_⟩
    rcases bj9.mp hx with hx | hx
    ·exact ti x hx
    ·rw [bh6.mp hx]; omega
   ·refine⟨_,_,_,rfl,rfl,(by rw [h]; rfl:L2.atI [PV.int l.1,PV.int l.2] (z % 2)=some (.int l.2)),rF _ _,T ++ [l.2],by rw [fU]; rfl,by rw [bi6,tl]; rfl,fun x hx=>?_⟩
    rcases bj9.mp hx with hx | hx
    ·exact ti x hx
    ·rw [bh6.mp hx]; omega
  rintro acc ⟨T,rfl,tl,ti⟩
  rw [kR,pl] at tl
  refine⟨_,_,rfl,rfl,cR _,cR _,by rw [bW,bW]; omega,?_⟩
  have inn:∀ x ∈ S ++ T,0<=x/\x < (n:Int):=fun x hx=>by
   rcases bj9.mp hx with hx | hx
   ·exact (eG hS).2 x hx
   ·exact ti x hx
  refine⟨S ++ T,by rw [<- fU]; rfl,by rw [bi6]; omega,fun ms nd mem=>?_,fun ks up mem=>⟨trivial,?_⟩⟩
  ·have:=nd.length_le_of_subset (l₂:=rng n) fun x hx=>fB.mpr (inn x ((mem x).mp hx))
   rw [fA] at this
   omega
  ·exact ad7 kt lk (by omega) (aV5 up fun x hx=>inn x ((mem x).mp hx)) q
abbrev xV:cY:=xC
def ad8 (Ep:Str->Prop):aK:=(aR (bM 1 (gK Ep sE (a7 (a5 0) aA)))
 (aR (bM 2 (gK Ep sF (a7 (a5 0) (a7 (a5 1) aA))))
 (aR (bM 3 (cP (oH (a5 1)) [none,none,some 2] (jH 0 1) (k9 (pW (cJ (a5 2) (a5 0))) (jB (aV (aC mE (a7 (a5 2) (a7 (a5 0) (a7 (a5 1) aA))))))) (a5 1)))
 (b7 (aC wP (a7 (a5 3) aA))))))
theorem ba3:gY ad8 ["web","chosen","holds","found"] xV:=by
 rintro Ep xs Q ⟨ws,ls,rfl,wb,q,qe⟩
 refine⟨_,rfl,ws,ls,rfl,wb.few,fun few=>⟨trivial,?_⟩,qe⟩
 obtain ⟨q1,q⟩:=q few
 have ln:=sC ws.length
 have l12:2 ^ ws.length<=4096:=bk9 (Nat.pow_le_pow_right (by decide) few) (by decide)
 refine⟨_,rfl,_,rfl,ws,ls,rfl,wb,few,fun bs bl hb=>⟨trivial,?_⟩⟩
 unfold kU at q1 q
 have cat:∀ {p:Nat}{S:List Int},(bL (rng ws.length))[p]? = some S->(bs.getD p false=true ↔ HC ws ls S):=fun {p S} e=>hb p S e
 have sat:=fun p S=>oK ws.length p S
 have hok:=fun (p:Nat) (S:List Int) (e:(bL (rng ws.length))[p]? = some S) (h:p<=bs.length)=>Y9 (bs:=bs) few e h
 have hif:=fun (p:Nat) (S:List Int) (e:(bL (rng ws.length))[p]? = some S)=>Y8 (bs:=bs) (ls:=ls) e fun q T _ e=>hb q T e
 generalize bL (rng ws.length)=C at *
 refine⟨_,rfl,_,.inl rfl,(fun z=>by cases z),by rw [kR,iR]; omega,fun i acc=>acc=tups ((C.take i).filter (fM ws ls)),rfl,?_,?_⟩
 ·rintro i y acc hy rfl
  obtain ⟨y,hy2,rfl⟩:=wY hy
  obtain ⟨S,rfl,hS⟩:=wM hy2
  have il:=(bh7.mp hS).1
  have tk:(C.take (i+1)).filter (fM ws ls)=(C.take i).filter (fM ws ls) ++ (if fM ws ls S=true then [S] else []):=by
   rw [bm8,hS,List.filter_append]
   congr 1
   show List.filter _ [S]=_
   simp only [bw3,List.filter_nil]
  have ix:L2.atI (eI bs) (i:Int)=some (.bl (bs.getD i false)):=l4 (by show (List.map PV.bl bs)[i]? = _; rw [bi4,bh4,bg9 (by omega)]; rfl)
  obtain ⟨k1,k2⟩:=hok i S hS (by omega)
  have hw:=hif i S hS
  have le:=aR9 (ws:=ws) (ls:=ls) S
  refine⟨_,_,rfl,_,rfl,_,rfl,_,_,_,rfl,rfl,ix,_,rfl,?_⟩
  cases hbi:bs.getD i false with
  | false=>
   have:fM ws ls S=false:=by
    cases z:fM ws ls S with
    | false=>rfl
    | true=>
     have:=(cat hS).mpr (le.mpr (mF.mp z)).1
     rw [hbi] at this; cases this
   rw [this] at tk
   refine aS (aS ?_)
   dsimp only
   rw [tk]; simp
  | true=>
   refine bB ⟨_,rfl,_,rfl,_,rfl,bs,i,S,rfl,k1,k2,_,rfl,?_⟩
   cases hwb:kT bs i S with
   | true=>
    have:fM ws ls S=false:=by
     cases z:fM ws ls S with
     | false=>rfl
     | true=>exact absurd (hw.mp hwb) (le.mpr (mF.mp z)).2
    rw [this] at tk
    refine aS ?_
    dsimp only
    rw [tk]; simp
   | false=>
    have:fM ws ls S=true:=mF.mpr (le.mp ⟨(cat hS).mp hbi,fun z=>by rw [hw.mpr z] at hwb; cases hwb⟩)
    rw [this] at tk
    refine bB ⟨_,rfl,X9 _ (oA S),?_⟩
    dsimp only
    rw [tk]
    unfold tups
    rw [bj4]; rfl
 rintro acc rfl
 rw [kR,iR,bo2]
 refine⟨trivial,?_⟩
 refine⟨_,rfl,C.filter (fM ws ls),rfl,q1,fun y hy=>(mF.mp (bj8.mp hy).2).1,fun Z pz so=>⟨trivial,q Z pz so⟩⟩
end Core
namespace K_k76
open PySem PySem.W L2 PP Core
theorem _root_.L2.FnScope.au {N P:List Str}{s:Scope} (a:s.kind=.function:=by rfl) (b:s.isCoroutine=false:=by rfl) (c:s.isGenerator=false:=by rfl) (d:N.Nodup:=by decide +kernel) (e:N.take P.length=P:=by rfl) (f:∀ x∈P,s.names.lookup x=some .local∨s.names.lookup x=some .cell:=by decide +kernel) (g:∀ y∈s.names,y.2≠.free:=by decide +kernel):FnScope N P s:=⟨a,b,c,d,e,f,g⟩
def aU (i:Nat):Stmt:=PySem.Challenge.pw_kindleweb_k76_whole_links_left.main.body.getD i (.Pass ⟨0,0,0,0⟩)
structure FK (K:Frag) (n:Str) (i:Nat) (f:Addr) (d:FuncData):Prop where
 a:nsIn K mainGlobals n=some (some (.ref f))
 F:eN K n n (aU i) f d
structure FM (K:Frag) (mg:Str->Option Value) (n:Str) (i:Nat) (f:Addr) (d:FuncData):Prop where
 F:eN K n n (aU i) f d
 m:mg n=some (.ref f)
theorem FK.M {K:Frag}{mg:Str->Option Value}{n:Str}{i:Nat}{f:Addr}{d:FuncData}{h:Heap} (z:FK K n i f d) (X:K.In h) (G:h.Ns mainGlobals mg):FM K mg n i f d:=⟨z.F,mg_of X G z.a⟩
abbrev Hb (x:Str) (ps:List Str) (i:Nat):Prop:=∀ (kV doc pm:Value) (an:Option Addr) (cdv ct:Value) (us:List Value),us.length=ps.length->bindArgs (fnOf x x (iB (aU i)) (dM (aU i)) (aO (aU i)) .none kV doc pm an cdv ct) ⟨us,[]⟩=pure (ps.zip us)
theorem ad9 {A:Around}{k:Nat} (hr:c9 k A):A.units+3 < cLine:=by have:=hr.units; omega
section
variable {P : Program} {w : World} {K : Frag} {mg : Str → Option Value} {base : Heap} {f : Addr} {fd : FuncData} {k i : Nat} {x : Str} {ps N : List Str}
theorem Df.au {p:bF} (F:FM K mg x i f fd) (S:FnScope N ps (aO (aU i))) (body:∀ (cdv:Value) (A:Around) (outer:List Env) (s:Shared) (H:Hp) (E:XK),c9 k (A.deeper (PyProof.Rows.envOfC x (aO (aU i)) s.heap.objs.size f cdv))->∃ t,eC (cV dH P w K mg base N x (aO (aU i)) f cdv A outer s H E).nox (dM (aU i)) t/\∀ xs Q,p xs Q->t { nx:=fun _=>Q .non,rt:=Q } (eW N xs)) (hb:Hb x ps i:=by intro _ _ _ _ _ _ us hl; first | (obtain ⟨_,rfl⟩:=rP hl; rfl) | (obtain ⟨_,_,rfl⟩:=x8 hl; rfl) | (obtain ⟨_,_,_,rfl⟩:=x9 hl; rfl) | (obtain ⟨_,_,_,_,rfl⟩:=W7 hl; rfl) | (obtain ⟨_,_,_,_,_,rfl⟩:=us5 hl; rfl)) (len:∀ xs Q,p xs Q->xs.length=ps.length:=by intro xs Q h; repeat (first | (obtain ⟨rfl,_⟩:=h; rfl) | (obtain ⟨_,h⟩:=h))):Df P w K mg base (k+1) x ps p:=
 Df.of F.F F.m S hb len body
theorem bD.au {p:cY} (F:FM K mg x i f fd) (S:FnScope N ps (aO (aU i))) (t:(Str->Prop)->aK) (rd:∀ Ep xs Q,p Ep xs Q->t Ep { nx:=fun _=>Q .non,rt:=Q } (eW N xs)) (body:∀ (cdv:Value) (A:Around) (outer:List Env) (s:Shared) (H:Hp) (E:XK) (Ep:Str->Prop),c9 k (A.deeper (PyProof.Rows.envOfC x (aO (aU i)) s.heap.objs.size f cdv))->m6 (cV (dR P w) P w K mg base N x (aO (aU i)) f cdv A outer s H E) (EX K H Ep)->eC (cV (dR P w) P w K mg base N x (aO (aU i)) f cdv A outer s H E) (dM (aU i)) (t Ep)) (hb:Hb x ps i:=by intro _ _ _ _ _ _ us hl; first | (obtain ⟨_,rfl⟩:=rP hl; rfl) | (obtain ⟨_,_,rfl⟩:=x8 hl; rfl) | (obtain ⟨_,_,_,rfl⟩:=x9 hl; rfl) | (obtain ⟨_,_,_,_,rfl⟩:=W7 hl; rfl) | (obtain ⟨_,_,_,_,_,rfl⟩:=us5 hl; rfl)) (len:∀ Ep xs Q,p Ep xs Q->xs.length=ps.length:=by intro Ep xs Q h; repeat (first | (obtain ⟨rfl,_⟩:=h; rfl) | (obtain ⟨_,h⟩:=h))):bD P w K mg base (k+1) x ps p:=
 bD.of F.F F.m S hb t len rd body
end
section
variable {P : Program} {w : World} {K : Frag} {mg : Str → Option Value} {base : Heap} {f : Addr} {fd : FuncData}
abbrev ae0:Stmt:=aU 12
theorem sY:FnScope ["web","around","one","other"] ["web"] (aO ae0):=.au
theorem ba4 (F:eN K "near_lists" "near_lists" ae0 f fd):cU P w K mg base dH 1 f fd ["web"] T2:=by
 refine F.ok sY (fun vs H Q E h=>?_) (fun cdv A outer s H vs Q E hr h=>?_)
 ·obtain ⟨v,ws,ls,rfl,_⟩:=h
  rfl
 obtain ⟨v,ws,ls,rfl,W,hn,hm,hin,q⟩:=h
 refine⟨_,oP (as9 (i:=1) (N:=["want"]) (fr:=[none]) rfl (cZ.of rfl rfl) (yK (mX tW (pv 0) t5 (fun _ _=>rfl)))
   ⟨fun _ _ _ _=>i4 (i:=0) (bl9 _ _) rfl (Or.inl rfl) (.inr rfl),fun _ _ _ _=>B8,fun _ _ _ _=>zF fE⟩ sY.nd rfl rfl rfl)
  (oP (yP PassesOwn.never rfl (yK (mX tW (pv 0) t5 (fun _ _=>rfl))) (tE (n:=2) rfl (kY (i4 (i:=2) sY.nd rfl (Or.inl rfl) (.inr rfl)) (kY (i4 (i:=3) sY.nd rfl (Or.inl rfl) (.inr rfl)) tD)) )
   (oP (mK (tY PySem.F.plainAttrs_list PySem.F.slot_list_append PySem.F.type_list_append oY (mX tV (pv 1) (pv 2) (fun _ _=>rfl)) (dX (pv 3) fE)))
   (t7 (mK (tY PySem.F.plainAttrs_list PySem.F.slot_list_append PySem.F.type_list_append oY (mX tV (pv 1) (pv 3) (fun _ _=>rfl)) (dX (pv 2) fE))))))
  (t7 (t9 (pv 1)))),?_⟩
 obtain ⟨a,p,q',ys,rfl,ha,hp,hq,hL⟩:=W.at_
 have lw:(ws.map V.int).length=ws.length:=bh2 _
 refine⟨_,rfl,a,_,_,_,rfl,rfl,aF.of ha,rfl,p,rfl,⟨_,aF.of hp⟩,at2 (at0 (aF.of hp)) (fun i acc H'=>∃ bs:List Addr,acc=bs.map V.ref/\bs.length=i/\bs.Nodup/\∀ b ∈ bs,H b=none/\H' b=some (.lst [])) (by rw [lw]; exact bn9 (pB hn))
  (fun D hD=>⟨[],rfl,rfl,List.nodup_nil,fun _ z=>nomatch z⟩) (fun i x acc D H' hx c hPv=>?_) (fun D acc H' hD sm hDa hlen hPv=>?_)⟩
 ·obtain ⟨bs,rfl,hbl,nd,hb⟩:=hPv
  refine⟨wk0 (n:=none),av0 ⟨bl6 _,fun r hr'=>?_⟩⟩
  have hrD:r ≠ D:=fun z=>by rw [z,c.acc] at hr'; cases hr'
  have hrH:H r=none:=c.same.free hr'
  refine c.yes (aZ hr' _) ⟨bs ++ [r],by simp,by simp [hbl],?_,fun b hm=>?_⟩
  ·refine bs1.mpr ⟨nd,bl9 _ _,fun b hb1 b' hb2 e=>?_⟩
   rw [bh6.mp hb2] at e
   rw [e] at hb1
   rw [(hb r hb1).2] at hr'; cases hr'
  ·rcases bj9.mp hm with hm | hm
   ·have hbD:b ≠ D:=fun z=>by
     rw [z] at hm
     have:=(hb D hm).2
     rw [c.acc] at this
     have:bs.map V.ref = []:=by injection this with e1; injection e1
     have:bs = []:=List.map_eq_nil_iff.mp this
     rw [this] at hm; simp at hm
    refine⟨(hb b hm).1,?_⟩
    rw [aM hbD,aM (bX (hb b hm).2 hr')]
    exact (hb b hm).2
   ·rw [bh6.mp hm]
    exact⟨hrH,by rw [aM hrD,b8]⟩
 ·obtain ⟨bs,rfl,hbl,nd,hb⟩:=hPv
  rw [lw] at hbl
  have R0:iE H H' D bs (fun k=>aY (ls.take 0) k):=by
   refine⟨hD,fun b hm=>⟨(hb b hm).1,fun z=>?_⟩,nd,hDa,fun k b hk=>(hb b (bm3 hk)).2,sm⟩
   rw [z] at hm
   have:=(hb D hm).2
   rw [hDa] at this
   have:bs.map V.ref = []:=by injection this with e1; injection e1
   have:bs = []:=List.map_eq_nil_iff.mp this
   rw [this] at hm; simp at hm
  have lL:=hL.length
  refine⟨_,rfl,a,_,_,_,rfl,rfl,aF.of (sm _ _ ha),rfl,q',rfl,⟨_,aF.of (sm _ _ hq)⟩,aj9 (K:=K) (a:=q') (xs:=ys) (fun i σ H2=>∃ x y:Option V,σ = [some (.ref a),some (.ref D),x,y]/\iE H H2 D bs (fun k=>aY (ls.take i) k))
   ⟨none,none,rfl,R0⟩ (fun i σ H2 _ ⟨_,_,_,R⟩=>aF.of (R.same _ _ hq)) ?_ ?_⟩
  ·rintro i y σ H2 hi ⟨x1,x2,rfl,R⟩
   obtain ⟨l,b,hl,rfl,hbt⟩:=hL.get hi
   have hlm:l ∈ ls:=bm3 hl
   obtain ⟨⟨h1,h2⟩,h3,h4⟩:=hin l hlm
   have k1:l.1.toNat < bs.length:=by omega
   have k2:l.2.toNat < bs.length:=by omega
   have e1:bs[l.1.toNat]? = some (bs[l.1.toNat]):=bg9 k1
   have e2:bs[l.2.toNat]? = some (bs[l.2.toNat]):=bg9 k2
   refine⟨b,_,rfl,aF.of (R.same _ _ hbt),rfl,_,_,rfl,_,_,rfl,rfl,?_⟩
   refine⟨_,rfl,_,rfl,D,_,_,.ref bs[l.1.toNat],rfl,rfl,aI.of R.row,pN h1 (by rw [bi4,e1]; rfl),uV (aI.of (R.rows _ _ e1)),_,rfl,_,_,_,rfl,rfl,R.rows _ _ e1,?_,?_⟩
   ·rw [bh2]
    have:=pM (ls.take i) (l.1.toNat:Nat)
    rw [br2] at this
    exact j9 (by omega)
   ·have R1:=R.app e1 l.2
    refine⟨_,rfl,_,rfl,D,_,_,.ref bs[l.2.toNat],rfl,rfl,aI.of R1.row,pN h3 (by rw [bi4,e2]; rfl),uV (aI.of (R1.rows _ _ e2)),_,rfl,_,_,_,rfl,rfl,R1.rows _ _ e2,?_,?_⟩
    ·rw [bh2]
     have:=pM (ls.take i) (l.2.toNat:Nat)
     rw [br2] at this
     split
     ·rw [bi6,bp1]; exact j9 (by omega)
     ·exact j9 (by omega)
    ·have R2:=R1.app e2 l.1
     refine⟨_,_,rfl,R2.congr fun k hk=>?_⟩
     rw [au9 hl]
     have c1:(k=l.1.toNat) ↔ l.1=(k:Int):=by omega
     have c2:(k=l.2.toNat) ↔ l.2=(k:Int):=by omega
     by_cases d1:k=l.1.toNat
     ·by_cases d2:k=l.2.toNat
      ·rw [if_pos d2,if_pos d1,if_pos (c1.mp d1),if_pos (c2.mp d2)]; simp
      ·rw [if_neg d2,if_pos d1,if_pos (c1.mp d1),if_neg (fun z=>d2 (c2.mpr z))]; simp
     ·by_cases d2:k=l.2.toNat
      ·rw [if_pos d2,if_neg d1,if_neg (fun z=>d1 (c1.mpr z)),if_pos (c2.mp d2)]; simp
      ·rw [if_neg d2,if_neg d1,if_neg (fun z=>d1 (c1.mpr z)),if_neg (fun z=>d2 (c2.mpr z))]; simp
  ·
   rintro σ H2 ⟨x1,x2,rfl,R⟩
   refine⟨_,rfl,q D bs H2 hbl ?_⟩
   rw [lL,bo2] at R
   exact R
theorem ae1:FnScope ["many","link","one","other"] ["many","link"] (aO (aU 9)):=.au
theorem ba5 (B:Bt mg) (F:FM K mg "lesser_first" 9 f fd)  : Df P w K mg base 1 "lesser_first" ["many","link"] sO:=
 Df.au F ae1 (fun cdv A outer s H E hr=>by
  have nd:=ae1.nd
  exact⟨(ab5),(aT (c8 (i:=2) nd (aW9 B rfl (a8 (qv 1) aB)))
   (aT (c8 (i:=3) nd (aW8 B rfl (a8 (qv 1) aB)))
   (aT (cS (iL (lM (lJ (qv 2) aL) (qM (aC4 (qv 3) (qv 0))))) (aN lP) cX)
   (aT (cS (iK (qv 2) (qv 3)) (aN lP) cX)
   (aN (bH (jK (a8 (qv 2) (a8 (qv 3) aB))))))))),aY1⟩)
theorem ba6:FnScope ["things"] ["things"] (aO (aU 10)):=.au
theorem T3 (B:Bt mg) (F:FM K mg "rises" 10 f fd)  : Df P w K mg base 1 "rises" ["things"] mH:=
 Df.au F ba6 (fun cdv A outer s H E hr=>by
  have hu:=l5 hr
  exact⟨(xM),(aN (bH (L7 B rfl (a8 (U5 (N:=["ahead","behind"]) (fr:=[none,none]) (aX6 B (qv 0) (vS (qv 0) (vR aL) vQ)) (fun _ _ _ _=>(aX2 hu (qv 0) (qv 1)))) aB)))),aX9⟩)
theorem ba7:FnScope ["web"] ["web"] (aO (aU 11)):=.au
theorem ba8 (B:Bt mg) (F:FM K mg "hearths_in" 11 f fd)  : Df P w K mg base 1 "hearths_in" ["web"] gI:=
 Df.au F ba7 (fun cdv A outer s H E hr=>by
  exact⟨(R4),(aN (bH (gG B (a8 (cK (qv 0) aL) aB)))),aI2⟩)
theorem ae2:FnScope ["hearths","chosen","hearth"] ["hearths"] (aO (aU 16)):=.au
theorem ba9 (B:Bt mg) (F:FM K mg "sets_among" 16 f fd)  : Df P w K mg base 1 "sets_among" ["hearths"] sD:=
 Df.au F ae2 (fun cdv A outer s H E hr=>by
  have nd:=ae2.nd
  exact⟨(Y4),(aT (c8 (i:=1) nd (kJ (a8 (jK aB) aB)))
   (aT (iN 2 nd (eY (qv 0))
    (aN (c8 (i:=1) nd (U0 (qv 1) (lV (N:=["some","hearth"]) (fr:=[none,some 2]) (eY (qv 1)) (fun _ _ _ _=>(aN7 (qv 0) (jK (a8 (qv 1) aB)))))))))
   (aN (lR 1)))),aS0⟩)
theorem ae3:FnScope ["hearths","inside","hearth"] ["hearths"] (aO (aU 17)):=.au
theorem bb0 (B:Bt mg) (F:FM K mg "marked" 17 f fd)  : Df P w K mg base 1 "marked" ["hearths"] iQ:=
 Df.au F ae3 (fun cdv A outer s H E hr=>by
  have nd:=ae3.nd
  have hu:=l5 hr
  exact⟨(S3),(aT (lQ (i:=1) nd K9)
   (aT (iN 2 nd (eY (qv 0))
    (aN (L1 hu (i:=1) (qv 2) jJ)))
   (aN (lR 1)))),aI8⟩)
theorem bb1:FnScope ["hearths","inside"] ["hearths","inside"] (aO (aU 18)):=.au
theorem bb2 (B:Bt mg) (F:FM K mg "count_inside" 18 f fd)  : Df P w K mg base 1 "count_inside" ["hearths","inside"] jO:=
 Df.au F bb1 (fun cdv A outer s H E hr=>by
  have hu:=l5 hr
  exact⟨(S4),(aN (bH (gG B (a8 (lW (N:=["hearth","inside"]) (fr:=[none,some 1]) (eY (qv 0)) (fun _ _ _ _=>(K6 hu (qv 0) (qv 1))) (fun _ _ _ _=>(qv 0))) aB)))),aI9⟩)
theorem bb3:FnScope ["holds","place","some"] ["holds","place","some"] (aO (aU 35)):=.au
theorem bb4 (B:Bt mg) (F:FM K mg "holds_without_one" 35 f fd)  : Df P w K mg base 1 "holds_without_one" ["holds","place","some"] mE:=
 Df.au F bb3 (fun cdv A outer s H E hr=>by
  exact⟨(Y5),(aN (bH (aP9 B rfl (a8 (lV (N:=["hearth","holds","place"]) (fr:=[none,some 0,some 1]) (eY (qv 2)) (fun _ _ _ _=>(cK (qv 1) (qL (qv 2) (aB9 aL (qv 0)))))) aB)))),aS1⟩)
theorem bb5:FnScope ["script","k"] ["script","k"] (aO (aU 42)):=.au
theorem bb6 (B:Bt mg) (F:FM K mg "_law_cell_at" 42 f fd)  : Df P w K mg base 1 "_law_cell_at" ["script","k"] oD:=
 Df.au F bb5 (fun cdv A outer s H E hr=>by
  exact⟨(S9),(aT (cS (lJ (qv 1) (gG B (a8 (qv 0) aB))) (aN (bH (cK (qv 0) (qv 1)))) cX)
   (aN (bH aL))),aJ2⟩)
theorem bb7:FnScope ["found"] ["found"] (aO (aU 43)):=.au
theorem bb8 (B:Bt mg) (F:FM K mg "_law_whole" 43 f fd)  : Df P w K mg base 1 "_law_whole" ["found"] oE:=
 Df.au F bb7 (fun cdv A outer s H E hr=>by
  exact⟨(T0 K),(aN (bH (qN (aD7 B (qv 0)) (lO (aC8 (aD8 B (qv 0))))))),aJ3 (wU K).ii (wU K).ib⟩)
theorem ae4:FnScope ["cell","k","turn"] ["cell","k"] (aO (aU 44)):=.au
theorem bb9 (B:Bt mg) (F:FM K mg "_law_stir" 44 f fd)  : Df P w K mg base 1 "_law_stir" ["cell","k"] gZ:=
 Df.au F ae4 (fun cdv A outer s H E hr=>by
  have nd:=ae4.nd
  exact⟨(W8),(aT (c8 (i:=2) nd (dE (vM (kH (kH (dE (qv 0) aL) (vM (qv 1) (qv 1))) aL) aL) aL))
   (aN (bH (iJ (dE (vM (qv 2) (qv 2)) aL) aL)))),aQ8⟩)
theorem bc0:FnScope ["cell"] ["cell"] (aO (aU 46)):=.au
theorem bc1 (B:Bt mg) (F:FM K mg "_law_many" 46 f fd)  : Df P w K mg base 1 "_law_many" ["cell"] rV:=
 Df.au F bc0 (fun cdv A outer s H E hr=>by
  exact⟨(X2),(aT (cS (iK (dE (iJ (qv 0) aL) aL) aL) (aN (bH (dE (iJ (qv 0) aL) aL))) cX)
   (aN (bH (dE (qv 0) aL)))),aR2⟩)
theorem ae5:FnScope ["wants","links","want","pairs"] ["wants","links"] (aO (aU 8)):=.au
theorem bc2 (B:Bt mg) (F:FM K mg "made_web" 8 f fd) (d_rises:Df P w K mg base 1 "rises" ["things"] mH) (d_lesser_first:Df P w K mg base 1 "lesser_first" ["many","link"] sO) {u_MOST_HEARTHS:Nat} (m_MOST_HEARTHS:mg "MOST_HEARTHS" = some (.int 40 u_MOST_HEARTHS)) {u_MOST_WANTED:Nat} (m_MOST_WANTED:mg "MOST_WANTED" = some (.int 60 u_MOST_WANTED)):Df P w K mg base 2 "made_web" ["wants","links"] sP:=
 Df.au F ae5 (fun cdv A outer s H E hr=>by
  have nd:=ae5.nd
  exact⟨(ab6),(aT (cS (lK (gG B (a8 (qv 0) aB)) (rJ rfl m_MOST_HEARTHS)) (aN lP) cX)
   (aT (iN 2 nd (eY (qv 0))
    (aN (cS (iL (lM (lJ (qv 2) aL) (qM (lK (qv 2) (rJ rfl m_MOST_WANTED))))) (aN lP) cX)))
   (aT (c8 (i:=3) nd (X0 B (a8 (lV (N:=["link","wants"]) (fr:=[none,some 0]) (eY (qv 1)) (fun _ _ _ _=>(aX d_lesser_first hr (a8 (gG B (a8 (qv 1) aB)) (a8 (qv 0) aB))))) aB)))
   (aT (cS (lN (kI (aX d_rises hr (a8 (qv 3) aB)))) (aN lP) cX)
   (aN (bH (jK (a8 (fS B (a8 (qv 0) aB)) (a8 (fS B (a8 (qv 3) aB)) aB))))))))),aY2⟩)
theorem bc3:FnScope ["web","number"] ["web","number"] (aO (aU 13)):=.au
theorem bc4 (B:Bt mg) (F:FM K mg "is_hearth" 13 f fd) (d_hearths_in:Df P w K mg base 1 "hearths_in" ["web"] gI):Df P w K mg base 2 "is_hearth" ["web","number"] oB:=
 Df.au F bc3 (fun cdv A outer s H E hr=>by
  exact⟨(R6),(aN (bH (qN (K5 (qv 1) aL) (lO (aC1 (qv 1) (aX d_hearths_in hr (a8 (qv 0) aB))))))),aI3⟩)
theorem bc5:FnScope ["hearths","inside"] ["hearths","inside"] (aO (aU 19)):=.au
theorem bc6 (B:Bt mg) (F:FM K mg "count_outside" 19 f fd) (d_count_inside:Df P w K mg base 1 "count_inside" ["hearths","inside"] jO):Df P w K mg base 2 "count_outside" ["hearths","inside"] rK:=
 Df.au F bc5 (fun cdv A outer s H E hr=>by
  exact⟨(V1),(aN (bH (qL (gG B (a8 (qv 0) aB)) (aX d_count_inside hr (a8 (qv 0) (a8 (qv 1) aB)))))),aO3⟩)
theorem bc7:FnScope ["web","around","burning","hearth"] ["web","around","burning","hearth"] (aO (aU 23)):=.au
theorem bc8 (B:Bt mg) (F:FM K mg "can_kindle" 23 f fd) (d_count_inside:Df P w K mg base 1 "count_inside" ["hearths","inside"] jO):Df P w K mg base 2 "can_kindle" ["web","around","burning","hearth"] rE:=
 Df.au F bc7 (fun cdv A outer s H E hr=>by
  have hu:=l5 hr
  exact⟨(S6),(aN (bH (qN (aC7 hu (qv 3) (qv 2)) (lO (K5 (aX d_count_inside hr (a8 (cK (qv 1) (qv 3)) (a8 (qv 2) aB))) (cK (cK (qv 0) aL) (qv 3))))))),aJ0⟩)
theorem bc9:FnScope ["web"] ["web"] (aO (aU 33)):=.au
theorem bd0 (B:Bt mg) (F:FM K mg "searched_sets" 33 f fd) (d_sets_among:Df P w K mg base 1 "sets_among" ["hearths"] sD) (d_hearths_in:Df P w K mg base 1 "hearths_in" ["web"] gI) (x_TooMany:Xc K mg base "TooMany") {u_MOST_SEARCHED:Nat} (m_MOST_SEARCHED:mg "MOST_SEARCHED" = some (.int 12 u_MOST_SEARCHED)):bD P w K mg base 2 "searched_sets" ["web"] sE:=
 bD.au F bc9 Y6 aS2 (fun cdv A outer s H E Ep hr hX=>by
  exact (aT (cS (lK (aX d_hearths_in hr (a8 (qv 0) aB)) (rJ rfl m_MOST_SEARCHED)) (aN (W0 hX x_TooMany (a8 K4 aB))) cX)
   (aN (bH (aX d_sets_among hr (a8 (aJ8 B (aX d_hearths_in hr (a8 (qv 0) aB))) aB))))))
theorem bd1:FnScope ["web","few"] ["web","few"] (aO (aU 39)):=.au
theorem bd2 (B:Bt mg) (F:FM K mg "wanting_all_but" 39 f fd) (d_near_lists:Df P w K mg base 1 "near_lists" ["web"] kQ):Df P w K mg base 2 "wanting_all_but" ["web","few"] sT:=
 Df.au F bd1 (fun cdv A outer s H E hr=>by
  exact⟨(ac5),(aN (bH (jK (a8 (fS B (a8 (lV (N:=["beside","few"]) (fr:=[none,some 1]) (eY (aX d_near_lists hr (a8 (qv 0) aB))) (fun _ _ _ _=>(L8 B rfl (a8 aL (a8 (qL (gG B (a8 (qv 0) aB)) (qv 1)) aB))))) aB)) (a8 (cK (qv 0) aL) aB))))),aZ3⟩)
theorem bd3:FnScope ["cell","many"] ["cell","many"] (aO (aU 45)):=.au
theorem bd4 (B:Bt mg) (F:FM K mg "_law_some" 45 f fd) (d__law_stir:Df P w K mg base 1 "_law_stir" ["cell","k"] gZ):Df P w K mg base 2 "_law_some" ["cell","many"] rR:=
 Df.au F bd3 (fun cdv A outer s H E hr=>by
  exact⟨(W9),(aT (cS (iK (dE (qv 0) aL) aL) (aN (bH (fS B (a8 (lW (N:=["k","cell"]) (fr:=[none,some 0]) (lT rfl B.range (qv 1)) (fun _ _ _ _=>(iK (dE (aC0 (qv 1) (kH (qv 0) aL)) aL) aL)) (fun _ _ _ _=>(qv 0))) aB)))) cX)
   (aN (bH (fS B (a8 (lW (N:=["k","cell"]) (fr:=[none,some 0]) (lT rfl B.range (qv 1)) (fun _ _ _ _=>(lJ (dE (aX d__law_stir hr (a8 (qv 1) (a8 (qv 0) aB))) aL) (kH aL (dE (iJ (qv 1) aL) aL)))) (fun _ _ _ _=>(qv 0))) aB))))),aQ9⟩)
theorem ae6:FnScope ["flow","many","links","cell","one","other","turn","pair"] ["flow","many"] (aO (aU 47)):=.au
theorem bd5 (B:Bt mg) (F:FM K mg "_law_links" 47 f fd) (d__law_stir:Df P w K mg base 1 "_law_stir" ["cell","k"] gZ):Df P w K mg base 2 "_law_links" ["flow","many"] sX:=
 Df.au F ae6 (fun cdv A outer s H E hr=>by
  have nd:=ae6.nd
  have hu:=l5 hr
  exact⟨(ac9),(aT (lQ (i:=2) nd aC9)
   (aT (cS (iL (nV (lK (gG B (a8 (qv 0) aB)) aL) (nS (iK (dE (cK (qv 0) aL) aL) aL)))) (aT (c8 (i:=3) nd (iJ (cK (qv 0) aL) aL))
    (aT (iN 4 nd (lT rfl B.range (qv 1))
     (aN (iN 5 nd (L4 rfl B.range (kH (qv 4) aL) (qv 1))
      (aT (cS (iK (dE (qv 3) aL) aL) (aN (L3 hu (i:=2) (jK (a8 (qv 4) (a8 (qv 5) aB))) jJ)) cX)
      (aN (c8 (i:=3) nd (iJ (qv 3) aL)))))))
    (aN (c8 (i:=0) nd (vS (qv 0) (vR aL) vQ))))) cX)
   (aT (iN 3 nd (eY (qv 0))
    (aN (cS (lK (qv 1) aL) (aT (c8 (i:=6) nd (aX d__law_stir hr (a8 (qv 3) (a8 aL aB))))
     (aT (c8 (i:=4) nd (dE (qv 6) (qv 1)))
     (aT (c8 (i:=5) nd (dE (kH (kH (qv 4) aL) (dE (iJ (qv 6) aL) (qL (qv 1) aL))) (qv 1)))
     (aT (c8 (i:=7) nd (jK (a8 (aD3 B rfl (a8 (qv 4) (a8 (qv 5) aB))) (a8 (L8 B rfl (a8 (qv 4) (a8 (qv 5) aB))) aB))))
     (aN (cS (iL (nV (K6 hu (qv 7) (qv 2)) (nS (iK (dE (iJ (qv 6) aL) aL) aL)))) (aN (aQ7 2 hu (qv 7))) (aN (L3 hu (i:=2) (qv 7) jJ)))))))) cX)))
   (aN (bH (X0 B (a8 (aK0 B rfl (a8 (qv 2) aB)) aB))))))),aZ8⟩)
theorem bd6:FnScope ["web","cell"] ["web","cell"] (aO (aU 48)):=.au
theorem bd7 (B:Bt mg) (F:FM K mg "_law_drawn" 48 f fd) (d__law_stir:Df P w K mg base 1 "_law_stir" ["cell","k"] gZ):Df P w K mg base 2 "_law_drawn" ["web","cell"] sW:=
 Df.au F bd6 (fun cdv A outer s H E hr=>by
  exact⟨(ac8),(aN (bH (jK (a8 (fS B (a8 (lV (N:=["k","cell"]) (fr:=[none,some 1]) (lT rfl B.range (gG B (a8 (cK (qv 0) aL) aB))) (fun _ _ _ _=>(dE (aX d__law_stir hr (a8 (qv 1) (a8 (qv 0) aB))) aL))) aB)) (a8 (cK (qv 0) aL) aB))))),aZ6⟩)
theorem bd8:FnScope ["web","numbers"] ["web","numbers"] (aO (aU 14)):=.au
theorem bd9 (B:Bt mg) (F:FM K mg "is_set" 14 f fd) (d_rises:Df P w K mg base 1 "rises" ["things"] mH) (d_is_hearth:Df P w K mg base 2 "is_hearth" ["web","number"] oB):Df P w K mg base 3 "is_set" ["web","numbers"] xN:=
 Df.au F bd8 (fun cdv A outer s H E hr=>by
  exact⟨(ab4),(aN (bH (qN (aX d_rises hr (a8 (qv 1) aB)) (lO (L7 B rfl (a8 (lV (N:=["number","web"]) (fr:=[none,some 0]) (eY (qv 1)) (fun _ _ _ _=>(aX d_is_hearth hr (a8 (qv 1) (a8 (qv 0) aB))))) aB)))))),aY0⟩)
theorem be0:FnScope ["web","around","burning"] ["web","around","burning"] (aO (aU 22)):=.au
theorem be1 (B:Bt mg) (F:FM K mg "kindling" 22 f fd) (d_can_kindle:Df P w K mg base 2 "can_kindle" ["web","around","burning","hearth"] rE) (d_hearths_in:Df P w K mg base 1 "hearths_in" ["web"] gI):Df P w K mg base 3 "kindling" ["web","around","burning"] oC:=
 Df.au F be0 (fun cdv A outer s H E hr=>by
  exact⟨(S7),(aN (bH (fS B (a8 (lW (N:=["hearth","web","around","burning"]) (fr:=[none,some 0,some 1,some 2]) (lT rfl B.range (aX d_hearths_in hr (a8 (qv 0) aB))) (fun _ _ _ _=>(kI (aX d_can_kindle hr (a8 (qv 1) (a8 (qv 2) (a8 (qv 3) (a8 (qv 0) aB))))))) (fun _ _ _ _=>(qv 0))) aB)))),aJ1⟩)
theorem ae7:FnScope ["web","around","block","inside"] ["web","around","block"] (aO (aU 29)):=.au
theorem be2 (B:Bt mg) (F:FM K mg "staying" 29 f fd) (d_marked:Df P w K mg base 1 "marked" ["hearths"] iQ) (d_count_outside:Df P w K mg base 2 "count_outside" ["hearths","inside"] rK):Df P w K mg base 3 "staying" ["web","around","block"] rL:=
 Df.au F ae7 (fun cdv A outer s H E hr=>by
  have nd:=ae7.nd
  exact⟨(V2),(aT (c8 (i:=3) nd (aX d_marked hr (a8 (qv 2) aB)))
   (aN (bH (fS B (a8 (lW (N:=["hearth","inside","around","web"]) (fr:=[none,some 3,some 1,some 0]) (eY (qv 2)) (fun _ _ _ _=>(lJ (aX d_count_outside hr (a8 (cK (qv 2) (qv 0)) (a8 (qv 1) aB))) (cK (cK (qv 3) aL) (qv 0)))) (fun _ _ _ _=>(qv 0))) aB))))),aO5⟩)
theorem be3:FnScope ["many","links"] ["many","links"] (aO (aU 38)):=.au
theorem be4 (B:Bt mg) (F:FM K mg "linked_web" 38 f fd) (d_made_web:Df P w K mg base 2 "made_web" ["wants","links"] sP) {u_MOST_HEARTHS:Nat} (m_MOST_HEARTHS:mg "MOST_HEARTHS" = some (.int 40 u_MOST_HEARTHS)):Df P w K mg base 3 "linked_web" ["many","links"] sR:=
 Df.au F be3 (fun cdv A outer s H E hr=>by
  exact⟨(ac4),(aT (cS (iL (lM (lJ (qv 0) aL) (qM (lK (qv 0) (rJ rfl m_MOST_HEARTHS))))) (aN lP) cX)
   (aN (bH (aX d_made_web hr (a8 (aN5 (kJ (a8 aL aB)) (qv 0)) (a8 (qv 1) aB)))))),aZ2⟩)
theorem be5:FnScope ["web","hearths"] ["web","hearths"] (aO (aU 15)):=.au
theorem be6 (B:Bt mg) (F:FM K mg "made_set" 15 f fd) (d_is_set:Df P w K mg base 3 "is_set" ["web","numbers"] xN) (x_BadSet:Xc K mg base "BadSet"):bD P w K mg base 4 "made_set" ["web","hearths"] jR:=
 bD.au F be5 W6 aQ5 (fun cdv A outer s H E Ep hr hX=>by
  exact (aT (cS (lN (kI (aX d_is_set hr (a8 (qv 0) (a8 (qv 1) aB))))) (aN (W0 hX x_BadSet (a8 K4 aB))) cX)
   (aN (bH (fS B (a8 (qv 1) aB))))))
theorem be7:FnScope ["many","links"] ["many","links"] (aO (aU 37)):=.au
theorem be8 (B:Bt mg) (F:FM K mg "full_web" 37 f fd) (d_wanting_all_but:Df P w K mg base 2 "wanting_all_but" ["web","few"] sT) (d_linked_web:Df P w K mg base 3 "linked_web" ["many","links"] sR):Df P w K mg base 4 "full_web" ["many","links"] sV:=
 Df.au F be7 (fun cdv A outer s H E hr=>by
  exact⟨(ac6),(aN (bH (aX d_wanting_all_but hr (a8 (aX d_linked_web hr (a8 (qv 0) (a8 (qv 1) aB))) (a8 aL aB))))),aZ4⟩)
theorem ae8:FnScope ["web","seeds","told","burning","around","lit"] ["web","seeds"] (aO (aU 21)):=.au
theorem be9 (B:Bt mg) (F:FM K mg "rounds" 21 f fd) (d_marked:Df P w K mg base 1 "marked" ["hearths"] iQ) (d_near_lists:Df P w K mg base 1 "near_lists" ["web"] kQ) (d_kindling:Df P w K mg base 3 "kindling" ["web","around","burning"] oC) (d_made_set:bD P w K mg base 4 "made_set" ["web","hearths"] jR):bD P w K mg base 5 "rounds" ["web","seeds"] rX:=
 bD.au F ae8 X3 aR3 (fun cdv A outer s H E Ep hr hX=>by
  have nd:=ae8.nd
  exact (aT (lQ (i:=2) nd (kJ (a8 (iV hX d_made_set hr (a8 (qv 0) (a8 (qv 1) aB))) aB)))
   (aT (lQ (i:=3) nd (aX d_marked hr (a8 (cK (qv 2) aL) aB)))
   (aT (c8 (i:=4) nd (aX d_near_lists hr (a8 (qv 0) aB)))
   (aT (c8 (i:=5) nd (aX d_kindling hr (a8 (qv 0) (a8 (qv 4) (a8 (qv 3) aB)))))
   (aT (aD0 hX.own (K7 (qv 5))
    (aT (L0 2 (qv 5))
    (aT (aE3 3 (aX d_marked hr (a8 (qv 5) aB)))
    (aN (c8 (i:=5) nd (aX d_kindling hr (a8 (qv 0) (a8 (qv 4) (a8 (qv 3) aB)))))))))
   (aN (lR 2))))))))
theorem ae9:FnScope ["web","block","chosen"] ["web","block"] (aO (aU 28)):=.au
theorem bf0 (B:Bt mg) (F:FM K mg "is_cold" 28 f fd) (d_made_set:bD P w K mg base 4 "made_set" ["web","hearths"] jR) (d_staying:Df P w K mg base 3 "staying" ["web","around","block"] rL) (d_near_lists:Df P w K mg base 1 "near_lists" ["web"] kQ):bD P w K mg base 5 "is_cold" ["web","block"] rU:=
 bD.au F ae9 X1 aR1 (fun cdv A outer s H E Ep hr hX=>by
  have nd:=ae9.nd
  have hu3:=ad9 hr
  exact (aT (c8 (i:=2) nd (iV hX d_made_set hr (a8 (qv 0) (a8 (qv 1) aB))))
   (aN (bH (vP hu3 (aX d_staying hr (a8 (qv 0) (a8 (aX d_near_lists hr (a8 (qv 0) aB)) (a8 (qv 2) aB)))) (qv 2))))))
theorem af0:FnScope ["web","some","inside","link"] ["web","some"] (aO (aU 40)):=.au
theorem bf1 (B:Bt mg) (F:FM K mg "link_in" 40 f fd) (d_marked:Df P w K mg base 1 "marked" ["hearths"] iQ) (d_made_set:bD P w K mg base 4 "made_set" ["web","hearths"] jR) (d_count_inside:Df P w K mg base 1 "count_inside" ["hearths","inside"] jO):bD P w K mg base 5 "link_in" ["web","some"] oN:=
 bD.au F af0 ac7 aZ5 (fun cdv A outer s H E Ep hr hX=>by
  have nd:=af0.nd
  exact (aT (c8 (i:=2) nd (aX d_marked hr (a8 (iV hX d_made_set hr (a8 (qv 0) (a8 (qv 1) aB))) aB)))
   (aT (iN 3 (hp:=hX.own) nd (eY (cK (qv 0) aL))
    (aN (cS (iK (aX d_count_inside hr (a8 (qv 3) (a8 (qv 2) aB))) aL) (aN (lR 3)) cX)))
   (aN (bH K3)))))
theorem af1:FnScope ["web","seeds","ranks","rank","lit","hearth"] ["web","seeds"] (aO (aU 24)):=.au
theorem bf2 (B:Bt mg) (F:FM K mg "ranks_of" 24 f fd) (d_rounds:bD P w K mg base 5 "rounds" ["web","seeds"] rX):bD P w K mg base 6 "ranks_of" ["web","seeds"] rY:=
 bD.au F af1 X4 aR4 (fun cdv A outer s H E Ep hr hX=>by
  have nd:=af1.nd
  have hu:=l5 hr
  exact (aT (lQ (i:=2) nd K9)
   (aT (aE1 3 4 (hp:=hX.own) nd (wZ rfl B.enum (iV hX d_rounds hr (a8 (qv 0) (a8 (qv 1) aB))))
    (aN (iN 5 (hp:=hX.own) nd (eY (qv 4))
     (aN (L1 hu (i:=2) (qv 5) (qv 3))))))
   (aN (lR 2)))))
theorem af2:FnScope ["web","chosen","holds","place"] ["web","chosen"] (aO (aU 34)):=.au
theorem bf3 (B:Bt mg) (F:FM K mg "holding_cold" 34 f fd) (d_holds_without_one:Df P w K mg base 1 "holds_without_one" ["holds","place","some"] mE) (d_is_cold:bD P w K mg base 5 "is_cold" ["web","block"] rU):bD P w K mg base 6 "holding_cold" ["web","chosen"] sF:=
 bD.au F af2 Y7 aS3 (fun cdv A outer s H E Ep hr hX=>by
  have nd:=af2.nd
  exact (aT (lQ (i:=2) nd (kJ (a8 jJ aB)))
   (aT (iN 3 (hp:=hX.own) nd (L4 rfl B.range aL (gG B (a8 (qv 1) aB)))
    (aN (L0 2 (K8 (aX d_holds_without_one hr (a8 (qv 2) (a8 (qv 3) (a8 (cK (qv 1) (qv 3)) aB)))) (lO (iV hX d_is_cold hr (a8 (qv 0) (a8 (cK (qv 1) (qv 3)) aB))))))))
   (aN (lR 2)))))
theorem bf4:FnScope ["web","seeds"] ["web","seeds"] (aO (aU 25)):=.au
theorem bf5 (B:Bt mg) (F:FM K mg "burnt" 25 f fd) (d_ranks_of:bD P w K mg base 6 "ranks_of" ["web","seeds"] rY):bD P w K mg base 7 "burnt" ["web","seeds"] rZ:=
 bD.au F bf4 X5 aR5 (fun cdv A outer s H E Ep hr hX=>by
  exact (aN (bH (fS B (a8 (aP3 B rfl (a8 (iV hX d_ranks_of hr (a8 (qv 0) (a8 (qv 1) aB))) aB)) aB)))))
theorem af3:FnScope ["web","chosen","holds","found"] ["web"] (aO (aU 32)):=.au
theorem bf6 (B:Bt mg) (F:FM K mg "least_colds" 32 f fd) (d_searched_sets:bD P w K mg base 2 "searched_sets" ["web"] sE) (d_holding_cold:bD P w K mg base 6 "holding_cold" ["web","chosen"] sF) (d_holds_without_one:Df P w K mg base 1 "holds_without_one" ["holds","place","some"] mE):bD P w K mg base 7 "least_colds" ["web"] xV:=
 bD.au F af3 ad8 ba3 (fun cdv A outer s H E Ep hr hX=>by
  have nd:=af3.nd
  exact (aT (c8 (i:=1) nd (iV hX d_searched_sets hr (a8 (qv 0) aB)))
   (aT (c8 (i:=2) nd (iV hX d_holding_cold hr (a8 (qv 0) (a8 (qv 1) aB))))
   (aT (aN3 (i:=3) nd (N:=["place","some","holds"]) (fr:=[none,none,some 2]) (wZ rfl B.enum (qv 1)) (fun _ _ _ _=>(iL (nV (K7 (cK (qv 2) (qv 0))) (nS (lN (kI (aX d_holds_without_one hr (a8 (qv 2) (a8 (qv 0) (a8 (qv 1) aB)))))))))) (fun _ _ _ _=>(qv 1)))
   (aN (bH (aK3 B (a8 (qv 3) aB))))))))
theorem bf7:FnScope ["web","seeds"] ["web","seeds"] (aO (aU 26)):=.au
theorem bf8 (B:Bt mg) (F:FM K mg "lights_all" 26 f fd) (d_hearths_in:Df P w K mg base 1 "hearths_in" ["web"] gI) (d_burnt:bD P w K mg base 7 "burnt" ["web","seeds"] rZ):bD P w K mg base 8 "lights_all" ["web","seeds"] sA:=
 bD.au F bf7 X6 aR6 (fun cdv A outer s H E Ep hr hX=>by
  exact (aN (bH (aC3 (gG B (a8 (iV hX d_burnt hr (a8 (qv 0) (a8 (qv 1) aB))) aB)) (aX d_hearths_in hr (a8 (qv 0) aB))))))
theorem af4:FnScope ["script","many","cell","links","web","seeds","rest","left","found"] ["script"] (aO (aU 49)):=.au
theorem bf9 (B:Bt mg) (F:eN K "law" "law" (aU 49) f fd) (d__law_many:Df P w K mg base 1 "_law_many" ["cell"] rV) (d__law_cell_at:Df P w K mg base 1 "_law_cell_at" ["script","k"] oD) (d__law_links:Df P w K mg base 2 "_law_links" ["flow","many"] sX) (d_full_web:Df P w K mg base 4 "full_web" ["many","links"] sV) (d_link_in:bD P w K mg base 5 "link_in" ["web","some"] oN) (d__law_some:Df P w K mg base 2 "_law_some" ["cell","many"] rR) (d_lights_all:bD P w K mg base 8 "lights_all" ["web","seeds"] sA) (d__law_drawn:Df P w K mg base 2 "_law_drawn" ["web","cell"] sW) (d_least_colds:bD P w K mg base 7 "least_colds" ["web"] xV) (d__law_whole:Df P w K mg base 1 "_law_whole" ["found"] oE) (d__law_stir:Df P w K mg base 1 "_law_stir" ["cell","k"] gZ) (bs:mg "set" = none):cU P w K mg base dH 9 f fd ["script"] (nL K xQ):=
 aL4 F af4 (fun xs Q h=>by unfold xQ at h; repeat (first | (obtain ⟨rfl,_⟩:=h; rfl) | (obtain ⟨_,h⟩:=h))) (fun cdv A outer s H E hr=>by
  have nd:=af4.nd
  have hu3:=ad9 hr
  exact⟨(ad4 K),(aT (c8 (i:=1) nd (aX d__law_many hr (a8 (aX d__law_cell_at hr (a8 (qv 0) (a8 aL aB))) aB)))
   (aT (c8 (i:=2) nd (aX d__law_cell_at hr (a8 (qv 0) (a8 aL aB))))
   (aT (c8 (i:=3) nd (aX d__law_links hr (a8 (vS (qv 0) (vR aL) vQ) (a8 (qv 1) aB))))
   (aT (c8 (i:=4) nd (aX d_full_web hr (a8 (qv 1) (a8 (qv 3) aB))))
   (aT (c8 (i:=5) nd (L6 B (a8 (aX d__law_some hr (a8 (iJ (qv 2) aL) (a8 (qv 1) aB))) aB)))
   (aT (cS (iK (dE (qv 2) aL) aL) (aN (c8 (i:=5) nd (aY9 B bs rfl (a8 (U0 (qv 5) (U5 (N:=["k","pair","cell"]) (fr:=[none,none,some 2]) (wZ rfl B.enum (qv 3)) (fun _ _ _ _=>(cK (qv 1) (dE (aX d__law_stir hr (a8 (qv 2) (a8 (qv 0) aB))) aL))))) aB)))) cX)
   (aT (c8 (i:=6) nd (fS B (a8 (lW (N:=["hearth","seeds"]) (fr:=[none,some 5]) (lT rfl B.range (qv 1)) (fun _ _ _ _=>(aD4 (qv 0) (qv 1))) (fun _ _ _ _=>(qv 0))) aB)))
   (aT (aE2 (i:=7) nd (N:=["pair","rest"]) (fr:=[none,some 6]) (eY (qv 3)) (fun _ _ _ _=>(iL (nV (M4 (cK (qv 0) aL) (qv 1)) (nS (M4 (cK (qv 0) aL) (qv 1)))))) (fun _ _ _ _=>(qv 0)))
   (aT (cS (aC5 (rM d_lights_all hr (a8 (qv 4) (a8 (fS B (a8 (qv 5) aB)) aB))) (vP hu3 (qv 7) (kJ aB))) (aN (bH jJ)) cX)
   (aT (c8 (i:=8) nd (rM d_link_in hr (a8 (aX d__law_drawn hr (a8 (qv 4) (a8 (qv 2) aB))) (a8 (L6 B (a8 (qv 6) aB)) aB))))
   (aT (cS (aV9 hu3 (rM d_link_in hr (a8 (qv 4) (a8 (qv 6) aB))) (qv 8)) (aN (bH jJ)) cX)
   (aT (cS (iL (nV (aE0 hu3 (qv 7) (kJ aB)) (nS (aC6 (qv 8) K3)))) (aN (bH jJ)) cX)
   (aT (cS (M8 hu3 (qv 7) (kJ aB)) (aN (cS (iL (lM (lN (kI (aD9 B (qv 8)))) (lM (M8 hu3 (qv 8) (cK (qv 7) aL)) (lM (lN (kI (aX d__law_whole hr (a8 (cK (qv 8) aL) aB)))) (qM (lN (kI (aX d__law_whole hr (a8 (cK (qv 8) aL) aB))))))))) (aN (bH jJ)) cX)) cX)
   (aN (bH (K8 (aC2 (qv 1) aL) (lO (vP hu3 (rM d_least_colds hr (a8 (qv 4) aB)) (qv 3))))))))))))))))))),ba2 (wU K).tt⟩)
end
set_option autoImplicit true in
theorem bg0 {l:OpenLaw}{w:World}{K:Frag}{h:Heap}{mg:Str->Option Value} (X:K.In h) (G:h.Ns mainGlobals mg) (hfa:mg "law" = some (.ref fa))
  (h0:FK K "lesser_first" 9 f0 d0)
  (h1:FK K "rises" 10 f1 d1)
  (h2:FK K "hearths_in" 11 f2 d2)
  (h3:FK K "near_lists" 12 f3 d3)
  (h4:FK K "sets_among" 16 f4 d4)
  (h5:FK K "marked" 17 f5 d5)
  (h6:FK K "count_inside" 18 f6 d6)
  (h7:FK K "holds_without_one" 35 f7 d7)
  (h8:FK K "_law_cell_at" 42 f8 d8)
  (h9:FK K "_law_whole" 43 f9 d9)
  (h10:FK K "_law_stir" 44 f10 d10)
  (h11:FK K "_law_many" 46 f11 d11)
  (h12:FK K "made_web" 8 f12 d12)
  (h13:FK K "is_hearth" 13 f13 d13)
  (h14:FK K "count_outside" 19 f14 d14)
  (h15:FK K "can_kindle" 23 f15 d15)
  (h16:FK K "searched_sets" 33 f16 d16)
  (h17:FK K "wanting_all_but" 39 f17 d17)
  (h18:FK K "_law_some" 45 f18 d18)
  (h19:FK K "_law_links" 47 f19 d19)
  (h20:FK K "_law_drawn" 48 f20 d20)
  (h21:FK K "is_set" 14 f21 d21)
  (h22:FK K "kindling" 22 f22 d22)
  (h23:FK K "staying" 29 f23 d23)
  (h24:FK K "linked_web" 38 f24 d24)
  (h25:FK K "made_set" 15 f25 d25)
  (h26:FK K "full_web" 37 f26 d26)
  (h27:FK K "rounds" 21 f27 d27)
  (h28:FK K "is_cold" 28 f28 d28)
  (h29:FK K "link_in" 40 f29 d29)
  (h30:FK K "ranks_of" 24 f30 d30)
  (h31:FK K "holding_cold" 34 f31 d31)
  (h32:FK K "burnt" 25 f32 d32)
  (h33:FK K "least_colds" 32 f33 d33)
  (h34:FK K "lights_all" 26 f34 d34)
  (a35:nsIn K mainGlobals "law" = some (some (.ref f35))) (l35:K.lookup f35=some ⟨oc35,od35,.func (fnOf "law" "law" (iB (aU 49)) (dM (aU 49)) (aO (aU 49)) .none kV35 dc35 pm35 an35 cd35 ct35),sl35⟩) (c35:codeIn K cd35 "law" = true) (k35:keepIn K (.ref f35)=true)
  (z_len:nsIn K mainGlobals "len" = some none)
  (z_range:nsIn K mainGlobals "range" = some none)
  (z_tuple:nsIn K mainGlobals "tuple" = some none)
  (z_list:nsIn K mainGlobals "list" = some none)
  (z_sorted:nsIn K mainGlobals "sorted" = some none)
  (z_all:nsIn K mainGlobals "all" = some none)
  (z_any:nsIn K mainGlobals "any" = some none)
  (z_zip:nsIn K mainGlobals "zip" = some none)
  (z_min:nsIn K mainGlobals "min" = some none)
  (z_max:nsIn K mainGlobals "max" = some none)
  (z_sum:nsIn K mainGlobals "sum" = some none)
  (z_isinstance:nsIn K mainGlobals "isinstance" = some none)
  (z_int:nsIn K mainGlobals "int" = some none)
  (z_bool:nsIn K mainGlobals "bool" = some none)
  (z_enumerate:nsIn K mainGlobals "enumerate" = some none)
  (z_set:nsIn K mainGlobals "set" = some none)
  {u_MOST_HEARTHS:Nat} (z_MOST_HEARTHSx:nsIn K mainGlobals "MOST_HEARTHS" = some (some (.int 40 u_MOST_HEARTHS)))
  {u_MOST_SEARCHED:Nat} (z_MOST_SEARCHEDx:nsIn K mainGlobals "MOST_SEARCHED" = some (some (.int 12 u_MOST_SEARCHED)))
  {u_MOST_WANTED:Nat} (z_MOST_WANTEDx:nsIn K mainGlobals "MOST_WANTED" = some (some (.int 60 u_MOST_WANTED)))
  {C_HearthError C_BadWeb C_BadSet C_TooMany:Addr}
  (aX_HE:nsIn K mainGlobals "HearthError" = some (some (.ref C_HearthError)))
  (aX_BW:nsIn K mainGlobals "BadWeb" = some (some (.ref C_BadWeb)))
  (aX_BS:nsIn K mainGlobals "BadSet" = some (some (.ref C_BadSet)))
  (aX_TM:nsIn K mainGlobals "TooMany" = some (some (.ref C_TooMany)))
  (zX_BO:nsIn K mainGlobals "BadOrder" = some none)
  (zX_BP:nsIn K mainGlobals "BadPrices" = some none)
  (zX_BB:nsIn K mainGlobals "BadBoard" = some none)
  (zX_BD:nsIn K mainGlobals "BadDeed" = some none)
  (zX_NW:nsIn K mainGlobals "NotWood" = some none)
  (zX_NP:nsIn K mainGlobals "NoPaper" = some none)
  (zX_NS:nsIn K mainGlobals "NoSuch" = some none)
  (zX_NT:nsIn K mainGlobals "NoText" = some none)
  (zX_OR:nsIn K mainGlobals "OddRound" = some none)
  (y_fg:specialIn K (.builtin "object.__class__") "__get__" = some (some (.builtin "getset_descriptor.__get__")))
  (y_ft:takesIn K (.builtin "object.__class__")=some true)
  (z_VE:nsIn K mainGlobals "ValueError" = some none)
  (y1_HE:isClsIn K C_HearthError=true)
  (y2_HE:typeIn K (.ref C_HearthError)=some (.type "type"))
  (y3_HE:findIn K (.ref C_HearthError) "__getattribute__" = some (some (.builtin "BaseException.__getattribute__")))
  (y4_HE:findIn K (.ref C_HearthError) "__getattr__" = some none)
  (y5_HE:findIn K (.ref C_HearthError) "__class__" = some (some (.builtin "object.__class__")))
  (y6_HE:mroIn K C_HearthError (.type "object")=some true)
  (y7_HE:mroIn K C_HearthError (.type "BaseException")=some true)
  (y1_BW:isClsIn K C_BadWeb=true)
  (y2_BW:typeIn K (.ref C_BadWeb)=some (.type "type"))
  (y3_BW:findIn K (.ref C_BadWeb) "__getattribute__" = some (some (.builtin "BaseException.__getattribute__")))
  (y4_BW:findIn K (.ref C_BadWeb) "__getattr__" = some none)
  (y5_BW:findIn K (.ref C_BadWeb) "__class__" = some (some (.builtin "object.__class__")))
  (y6_BW:mroIn K C_BadWeb (.type "object")=some true)
  (y7_BW:mroIn K C_BadWeb (.type "BaseException")=some true)
  (y1_BS:isClsIn K C_BadSet=true)
  (y2_BS:typeIn K (.ref C_BadSet)=some (.type "type"))
  (y3_BS:findIn K (.ref C_BadSet) "__getattribute__" = some (some (.builtin "BaseException.__getattribute__")))
  (y4_BS:findIn K (.ref C_BadSet) "__getattr__" = some none)
  (y5_BS:findIn K (.ref C_BadSet) "__class__" = some (some (.builtin "object.__class__")))
  (y6_BS:mroIn K C_BadSet (.type "object")=some true)
  (y7_BS:mroIn K C_BadSet (.type "BaseException")=some true)
  (y1_TM:isClsIn K C_TooMany=true)
  (y2_TM:typeIn K (.ref C_TooMany)=some (.type "type"))
  (y3_TM:findIn K (.ref C_TooMany) "__getattribute__" = some (some (.builtin "BaseException.__getattribute__")))
  (y4_TM:findIn K (.ref C_TooMany) "__getattr__" = some none)
  (y5_TM:findIn K (.ref C_TooMany) "__class__" = some (some (.builtin "object.__class__")))
  (y6_TM:mroIn K C_TooMany (.type "object")=some true)
  (y7_TM:mroIn K C_TooMany (.type "BaseException")=some true)
  (q_BS:excIn K C_BadSet [.type "ValueError",.type "Exception",.type "BaseException",.type "object"] "ValueError.__new__" = true)
  (q_TM:excIn K C_TooMany [.type "ValueError",.type "Exception",.type "BaseException",.type "object"] "ValueError.__new__" = true)
  : ∃ fd:FuncData,(∀ (s:Shared) (v:Value),BindsTo s fd ⟨[v],[]⟩ [("script",v)])/\∀ base:Heap,K.In base->base.Ns mainGlobals mg->cU l.prog w K mg base dH 9 fa fd ["script"] (rH K):=by
 have e:=hfa.symm.trans (mg_of X G a35)
 cases e
 have F35:=as1 (st:=aU 49) l35 c35 k35
 have m35:=mg_of X G a35
 have B:Bt mg:=⟨mg_none_of X G z_len,mg_none_of X G z_range,mg_none_of X G z_tuple,mg_none_of X G z_list,mg_none_of X G z_sorted,mg_none_of X G z_all,mg_none_of X G z_any,mg_none_of X G z_zip,mg_none_of X G z_min,mg_none_of X G z_max,mg_none_of X G z_sum,mg_none_of X G z_isinstance,mg_none_of X G z_int,mg_none_of X G z_bool,mg_none_of X G z_enumerate⟩
 have bs:=mg_none_of X G z_set
 have m_MOST_HEARTHS:=mg_of X G z_MOST_HEARTHSx
 have m_MOST_SEARCHED:=mg_of X G z_MOST_SEARCHEDx
 have m_MOST_WANTED:=mg_of X G z_MOST_WANTEDx
 refine⟨fnOf "law" "law" (iB (aU 49)) (dM (aU 49)) (aO (aU 49)) .none kV35 dc35 pm35 an35 cd35 ct35,fun s v=>.of_eq rfl,fun base KB _=>?_⟩
 have XK_HearthError:rO K C_HearthError:=⟨y1_HE,y2_HE,y3_HE,y4_HE,y5_HE,y_fg,y_ft,y6_HE,y7_HE⟩
 have XK_BadWeb:rO K C_BadWeb:=⟨y1_BW,y2_BW,y3_BW,y4_BW,y5_BW,y_fg,y_ft,y6_BW,y7_BW⟩
 have XK_BadSet:rO K C_BadSet:=⟨y1_BS,y2_BS,y3_BS,y4_BS,y5_BS,y_fg,y_ft,y6_BS,y7_BS⟩
 have XK_TooMany:rO K C_TooMany:=⟨y1_TM,y2_TM,y3_TM,y4_TM,y5_TM,y_fg,y_ft,y6_TM,y7_TM⟩
 have x_BadSet:Xc K mg base "BadSet":=⟨C_BadSet,_,_,_,_,W5 KB (mg_of X G aX_BS) q_BS,PySem.F.excBase_ValueError,aX_BS⟩
 have x_TooMany:Xc K mg base "TooMany":=⟨C_TooMany,_,_,_,_,W5 KB (mg_of X G aX_TM) q_TM,PySem.F.excBase_ValueError,aX_TM⟩
 have D0:=ba5 (P:=l.prog) (w:=w) (base:=base) B (h0.M X G)
 have D1:=T3 (P:=l.prog) (w:=w) (base:=base) B (h1.M X G)
 have D2:=ba8 (P:=l.prog) (w:=w) (base:=base) B (h2.M X G)
 have D3:=aK6 (ba4 (P:=l.prog) (w:=w) (mg:=mg) (base:=base) h3.F) (h3.F.binds (ps:=["web"]) fun _ _ _ _ _ _ us hl=>by obtain ⟨_,rfl⟩:=rP hl; rfl) h3.F.kp (mg_of X G h3.a)
 have D4:=ba9 (P:=l.prog) (w:=w) (base:=base) B (h4.M X G)
 have D5:=bb0 (P:=l.prog) (w:=w) (base:=base) B (h5.M X G)
 have D6:=bb2 (P:=l.prog) (w:=w) (base:=base) B (h6.M X G)
 have D7:=bb4 (P:=l.prog) (w:=w) (base:=base) B (h7.M X G)
 have D8:=bb6 (P:=l.prog) (w:=w) (base:=base) B (h8.M X G)
 have D9:=bb8 (P:=l.prog) (w:=w) (base:=base) B (h9.M X G)
 have D10:=bb9 (P:=l.prog) (w:=w) (base:=base) B (h10.M X G)
 have D11:=bc1 (P:=l.prog) (w:=w) (base:=base) B (h11.M X G)
 have D12:=bc2 (P:=l.prog) (w:=w) (base:=base) B (h12.M X G) D1 D0 m_MOST_HEARTHS m_MOST_WANTED
 have D13:=bc4 (P:=l.prog) (w:=w) (base:=base) B (h13.M X G) D2
 have D14:=bc6 (P:=l.prog) (w:=w) (base:=base) B (h14.M X G) D6
 have D15:=bc8 (P:=l.prog) (w:=w) (base:=base) B (h15.M X G) D6
 have D16:=bd0 (P:=l.prog) (w:=w) (base:=base) B (h16.M X G) D4 D2 x_TooMany m_MOST_SEARCHED
 have D17:=bd2 (P:=l.prog) (w:=w) (base:=base) B (h17.M X G) D3
 have D18:=bd4 (P:=l.prog) (w:=w) (base:=base) B (h18.M X G) D10
 have D19:=bd5 (P:=l.prog) (w:=w) (base:=base) B (h19.M X G) D10
 have D20:=bd7 (P:=l.prog) (w:=w) (base:=base) B (h20.M X G) D10
 have D21:=bd9 (P:=l.prog) (w:=w) (base:=base) B (h21.M X G) D1 D13
 have D22:=be1 (P:=l.prog) (w:=w) (base:=base) B (h22.M X G) D15 D2
 have D23:=be2 (P:=l.prog) (w:=w) (base:=base) B (h23.M X G) D5 D14
 have D24:=be4 (P:=l.prog) (w:=w) (base:=base) B (h24.M X G) D12 m_MOST_HEARTHS
 have D25:=be6 (P:=l.prog) (w:=w) (base:=base) B (h25.M X G) D21 x_BadSet
 have D26:=be8 (P:=l.prog) (w:=w) (base:=base) B (h26.M X G) D17 D24
 have D27:=be9 (P:=l.prog) (w:=w) (base:=base) B (h27.M X G) D5 D3 D22 D25
 have D28:=bf0 (P:=l.prog) (w:=w) (base:=base) B (h28.M X G) D25 D23 D3
 have D29:=bf1 (P:=l.prog) (w:=w) (base:=base) B (h29.M X G) D5 D25 D6
 have D30:=bf2 (P:=l.prog) (w:=w) (base:=base) B (h30.M X G) D27
 have D31:=bf3 (P:=l.prog) (w:=w) (base:=base) B (h31.M X G) D7 D28
 have D32:=bf5 (P:=l.prog) (w:=w) (base:=base) B (h32.M X G) D30
 have D33:=bf6 (P:=l.prog) (w:=w) (base:=base) B (h33.M X G) D16 D31 D7
 have D34:=bf8 (P:=l.prog) (w:=w) (base:=base) B (h34.M X G) D2 D32
 exact aL5 (bf9 B F35 D11 D8 D19 D26 D29 D18 D34 D20 D33 D9 D10 bs)
theorem bg1 {l:OpenLaw}{q:Program}{loose:List Str}{XP:(Str->Option Value)->Heap->Prop}{YP:World->Heap->Prop}{d:DefRec}{K:Params->Frag} (hn:l.most=some 63) (hdf:d.params.defaults = [])
  (hY:∀ (w:World) (h:Heap),YP w h->(K w.params).In h)
  (F:∀ (w:World) (mg:Str->Option Value) (fa:Addr) (h:Heap),(K w.params).In h->h.Ns mainGlobals mg->mg d.name=some (.ref fa)->
   ∃ fd:FuncData,(∀ (s:Shared) (u:Value),BindsTo s fd ⟨[u],[]⟩ [("script",u)])/\∀ base:Heap,(K w.params).In base->base.Ns mainGlobals mg->cU l.prog w (K w.params) mg base dH 9 fa fd ["script"] (rH (K w.params))) :
  WalkO q loose XP YP l.row.toRowW d [] (fun f vs=>PySem.call f vs):=
 L2.ar9 (n:=63) (k:=9) (x:="script") (CX:=fun _=>dH) (sp:=fun w=>rH (K w.params)) hn (by decide) hdf ⟨rfl,by decide,by decide⟩ hY F (fun _ _ a ns hl hO hS=>⟨a,ns,rfl,aL6 hO hS,hl,fun _=>rfl⟩) fun _ _ _ _ _ z=>z
end K_k76
open PySem PySem.W PyProof.Rows
theorem PySem.W.Fast.te13052408679150730464 : True := trivial
theorem PySem.W.Fast.te16555476440528808052 : True := trivial
theorem PySem.W.Fast.te5369427470323729400 : True := trivial
set_option maxRecDepth 100000 in
set_option maxHeartbeats 0 in
theorem PySem.Challenge.cw_kindleweb_k76_whole_links_left_holds : PySem.Challenge.rw_kindleweb_k76_whole_links_left.Holds := by
 w_on; o_law; k_head; (case hw => w_witness2)
 k_fill
 refine K_k76.bg1 (l := PySem.Challenge.rw_kindleweb_k76_whole_links_left) rfl rfl (fun w h Y => PySem.W.kIn_of Y) ?F
 case F =>
  intro w mg fa h KX G hmg
  refine' K_k76.bg0 KX G hmg ?h0 ?h1 ?h2 ?h3 ?h4 ?h5 ?h6 ?h7 ?h8 ?h9 ?h10 ?h11 ?h12 ?h13 ?h14 ?h15 ?h16 ?h17 ?h18 ?h19 ?h20 ?h21 ?h22 ?h23 ?h24 ?h25 ?h26 ?h27 ?h28 ?h29 ?h30 ?h31 ?h32 ?h33 ?h34 ?a35 ?l35 ?c35 ?k35 ?z_len ?z_range ?z_tuple ?z_list ?z_sorted ?z_all ?z_any ?z_zip ?z_min ?z_max ?z_sum ?z_isinstance ?z_int ?z_bool ?z_enumerate ?z_set ?z_MOST_HEARTHSx ?z_MOST_SEARCHEDx ?z_MOST_WANTEDx ?aX_HE ?aX_BW ?aX_BS ?aX_TM ?zX_BO ?zX_BP ?zX_BB ?zX_BD ?zX_NW ?zX_NP ?zX_NS ?zX_NT ?zX_OR ?y_fg ?y_ft ?z_VE ?y1_HE ?y2_HE ?y3_HE ?y4_HE ?y5_HE ?y6_HE ?y7_HE ?y1_BW ?y2_BW ?y3_BW ?y4_BW ?y5_BW ?y6_BW ?y7_BW ?y1_BS ?y2_BS ?y3_BS ?y4_BS ?y5_BS ?y6_BS ?y7_BS ?y1_TM ?y2_TM ?y3_TM ?y4_TM ?y5_TM ?y6_TM ?y7_TM ?q_BS ?q_TM
  (case h0 | h1 | h2 | h3 | h4 | h5 | h6 | h7 | h8 | h9 | h10 | h11 | h12 | h13 | h14 | h15 | h16 | h17 | h18 | h19 | h20 | h21 | h22 | h23 | h24 | h25 | h26 | h27 | h28 | h29 | h30 | h31 | h32 | h33 | h34 => exact ⟨by k_is, ⟨⟨_, _, _, _, _, _, _, _, _, rfl, by k_is, by k_is⟩, by k_is⟩⟩)
  (case a35|l35|c35|k35|z_len|z_range|z_tuple|z_list|z_sorted|z_all|z_any|z_zip|z_min|z_max|z_sum|z_isinstance|z_int|z_bool|z_enumerate|z_set|z_MOST_HEARTHSx|z_MOST_SEARCHEDx|z_MOST_WANTEDx|aX_HE|aX_BW|aX_BS|aX_TM|zX_BO|zX_BP|zX_BB|zX_BD|zX_NW|zX_NP|zX_NS|zX_NT|zX_OR|y_fg|y_ft|z_VE|y1_HE|y2_HE|y3_HE|y4_HE|y5_HE|y6_HE|y7_HE|y1_BW|y2_BW|y3_BW|y4_BW|y5_BW|y6_BW|y7_BW|y1_BS|y2_BS|y3_BS|y4_BS|y5_BS|y6_BS|y7_BS|y1_TM|y2_TM|y3_TM|y4_TM|y5_TM|y6_TM|y7_TM => k_is)
  (case q_BS|q_TM => k_exc)


