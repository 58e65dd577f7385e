import PyProof.Rows.All
import Wide.All
import OpenK.AllK
import Wide.FinOn
import Lean
import PyProof.EqAt
import PyProof.EqKinds
import PyProof.TupleCall
import PyProof.NeKinds
import PyProof.Draws
import PyProof.ZipIter
import PyProof.DictUpdate
import PyProof.AutoSeq1
import PyProof.ListRange
import PyProof.ListMulRoad
import PyProof.FactsAll.tuple_2
import PyProof.Rows.SortShell
import PyProof.EnumFor
import PyProof.EnumMake
import PyProof.EnumStmt
import PyProof.Rows.SortWalk
import KE.KDictList
import PyProof.SumAny
import PyProof.ConsumeWalk
import PyProof.WalksMore
import PyProof.Rows.TupAssign
import PyProof.ExcArgsOwn
import PySem.Challenge.RW_kindleweb_k28_cold_papers
set_option Elab.async false
set_option linter.all false
set_option maxRecDepth 100000
set_option maxHeartbeats 4000000
section
open PySem PySem.Spec PyProof.Rows
def bf5:=@wpAny_bind
def bf7:=@Heap.get?_push_of_some
def bf8:=@wpAny_pure
def bf9:=@List.getElem?_eq_getElem
def bg0:=@List.size_toArray
def bg1:=@Nat.le_refl
def bg2:=@decide_eq_false
def bg3:=@decide_eq_true
def bg4:=@List.mem_cons
def bg5:=@List.length_map
def bg6:=@Heap.get?_push_size
def bg7:=@List.mem_cons_self
def bg8:=@Heap.lt_size
def bg9:=@wpS_bind
def bh0:=@Nat.lt_of_lt_of_le
def bh1:=@List.getElem?_map
def bh2:=@List.getD_eq_getElem?_getD
def bh3:=@List.not_mem_nil
def bh4:=@List.getElem?_eq_some_iff
def bh5:=@List.mem_cons_of_mem
def bh6:=@List.mem_singleton
def bh7:=@wpS_pure
def bh8:=@Bool.false_ne_true
def bh9:=@List.length_append
def bi0:=@Bool.false_eq_true
def bi1:=@List.getElem?_set_ne
def bi3:=@Array.length_toList
def bi4:=@List.append_assoc
def bi5:=@Option.some.inj
def bi6:=@Nat.ne_of_lt
def bi9:=@List.append_nil
def bj0:=@List.length_cons
def bj2:=@wpAny_newObj_type
def bj3:=@List.take_append_drop
def bj4:=@wpAny_call_entry
def bj5:=@Bool.and_eq_true
def bj6:=@Array.getElem?_eq_getElem
def bj7:=@wpAny_callSpecial?_slot
def bj8:=@List.getElem?_cons_succ
def bj9:=@decide_eq_true_eq
def bk0:=@Nat.le_trans
def bk1:=@List.mem_append
def bk2:=@List.mem_append_right
def bk3:=@Array.getElem?_toList
def bk4:=@List.getElem?_set_self
def bk5:=@Nat.zero_le
def bk6:=@List.mem_of_getElem?
def bk7:=@or_false
def bk8:=@List.pairwise_append
def bk9:=@List.take_length
def bl0:=@List.length_set
def bl1:=@Heap.SameBut.update
def bl2:=@List.map_append
def bl3:=@Nat.lt_or_ge
def bl5:=@Array.getElem_mem
def bl6:=@wpAny_holding
def bl7:=@List.map_cons
def bl8:=@Heap.get?_update_self
def bl9:=@List.pairwise_iff_getElem
def bm0:=@PySem.mem_of_lookup
def bm3:=@Nat.le_of_lt
def bm4:=@Nat.ne_of_gt
def bm5:=@Nat.lt_irrefl
def bm6:=@if_false
def bm8:=@List.mem_map
def bm9:=@wpAny_field
def bn0:=@Array.toList_append
def bn2:=@List.mem_filter
def bn3:=@PySem.W.kia_one
def bn4:=@List.length_drop
def bn6:=@List.lookup_cons
def bn7:=@Nat.le_add_right
def bn8:=@List.take_of_length_le
def bn9:=@wpAny_setField_rec
def bo0:=@PyProof.Rows.callWith_type1
def bo1:=@List.getElem_of_mem
def bo3:=@Int.emod_nonneg
def bo4:=@wpAny_mono
def bo5:=@beq_self_eq_true
def bo6:=@List.all_eq_true
def bo7:=@List.pairwise_singleton
def bo8:=@List.eq_nil_of_length_eq_zero
def bo9:=@wpS_forRange
def bp0:=@List.length_take
def bp3:=@Heap.size_push
def bp4:=@Bool.eq_iff_iff
def bp7:=@List.getElem_mem
def bp8:=@List.drop_eq_getElem_cons
def bp9:=@List.length_range
def bq0:=@List.pairwise_map
def bq1:=@of_decide_eq_true
def bq2:=@List.length_singleton
def bq3:=@List.find?_cons
def bq4:=@List.map_map
def bq6:=@Int.emod_lt_of_pos
def bq8:=@decide_eq_false_iff_not
def bq9:=@Around.under_plainId
def br0:=@wpAny_attempt
def br2:=@Heap.get?_update_other
def br3:=@wpAny_setField
def br4:=@Array.getElem?_eq_none
def br5:=@codeAny_builtin
def br6:=@PyProof.Rows.slot_tuple_getitem
def br7:=@List.getElem?_append_left
def br9:=@List.length_filter_le
def bs1:=@wpAny_pyIter_tuple
def bs2:=@wpAny_rule
def bs6:=@List.mem_append_left
def bs8:=@wpAny_truthy_bool
def bs9:=@Int.toNat_natCast
def bt0:=@List.take_add_one
def bt1:=@PySem.F.plainAttrs_list
def bt2:=@List.nodup_append
def bt7:=@List.all_cons
def bt9:=@Nat.le_of_not_lt
def bu0:=@wpAny_isInstance
def bu1:=@List.filter_cons
def bu3:=@List.getElem?_append_right
def bu4:=@wpAny_seqItems
def bu5:=@Bool.and_false
def bu6:=@Nat.eq_or_lt_of_le
def bu7:=@List.Perm.refl
def bv0:=@wpAny_execs_nil
def bv1:=@wpAny_passesOwn
def bv3:=@Int.le_refl
def bv4:=@wpS_mono
def bv5:=@Nat.lt_succ_of_lt
def bv6:=@wpAny_setState_of
def bv8:=@True.intro
def bw2:=@List.mem_range
def bw4:=@List.drop_take
end
namespace L2
open PySem PySem.Spec PyProof.Rows
abbrev aA:=Sum Int Str
def lB:aA->Value->Bool
 | .inl k,v=>Value.isInt k v
 | .inr x,v=>Value.isStrOf x v
def af9 (w:World):aA->Int
 | .inl k=>hashInt k
 | .inr x=>hashStr w x
theorem i7:∀ {k:aA}{v:Value},lB k v=true->(∃ i t,k=Sum.inl i/\v=Value.int i t) ∨ (∃ x t,k=Sum.inr x/\v=Value.str x t)
 | .inl i,v,h=>by
  obtain ⟨t,e⟩:=Value.isInt_shape (k:=i) (v:=v) h
  exact .inl ⟨i,t,rfl,e⟩
 | .inr x,v,h=>by
  obtain ⟨t,e⟩:=Value.isStrOf_shape (x:=x) (v:=v) h
  exact .inr ⟨x,t,rfl,e⟩
theorem ag0 (i:Int) (t:Tok):lB (.inl i) (.int i t)=true:=by simp [lB,Value.isInt]
theorem ag1 (x:Str) (t:Tok):lB (.inr x) (.str x t)=true:=by simp [lB,Value.isStrOf]
theorem ag2 (a b:Int):decide ((Sum.inl a:aA)=Sum.inl b)=(a == b):=by
 by_cases e:a=b
 ·subst e; simp
 ·have h : ¬ (Sum.inl a:aA)=Sum.inl b:=fun q=>e (Sum.inl.inj q)
  rw [bg2 h]
  exact (beq_eq_false_iff_ne.mpr e).symm
theorem ag3 (a b:Str):decide ((Sum.inr a:aA)=Sum.inr b)=decide (a=b):=by
 by_cases e:a=b
 ·subst e; simp
 ·have h : ¬ (Sum.inr a:aA)=Sum.inr b:=fun q=>e (Sum.inr.inj q)
  rw [bg2 h,bg2 e]
theorem ag4 (a:Int) (b:Str):decide ((Sum.inl a:aA)=Sum.inr b)=false:=bg2 (fun q=>nomatch q)
theorem ag5 (a:Str) (b:Int):decide ((Sum.inr a:aA)=Sum.inl b)=false:=bg2 (fun q=>nomatch q)
def e9 (prog:Program) (w:World):PySem.KeyKind prog w aA where
 is:=lB
 hash:=af9 w
 inj:=fun v a b ha hb=>by
  rcases i7 ha with ⟨i,t,rfl,rfl⟩ | ⟨x,t,rfl,rfl⟩
  ·rcases i7 hb with ⟨j,u,rfl,e⟩ | ⟨y,u,rfl,e⟩
   ·injection e with e1 _; rw [e1]
   ·exact nomatch e
  ·rcases i7 hb with ⟨j,u,rfl,e⟩ | ⟨y,u,rfl,e⟩
   ·exact nomatch e
   ·injection e with e1 _; rw [e1]
 byValue:=fun k v h=>by
  rcases i7 h with ⟨i,t,rfl,rfl⟩ | ⟨x,t,rfl,rfl⟩ <;> rfl
 pyHash:=fun hv h=>by
  rcases i7 hv with ⟨i,t,rfl,rfl⟩ | ⟨x,t,rfl,rfl⟩
  ·exact wpAny_pyHash_int h
  ·exact wpAny_pyHash_str h
 eqBool:=fun hu hv h=>by
  rcases i7 hu with ⟨i,t,rfl,rfl⟩ | ⟨x,t,rfl,rfl⟩
  ·rcases i7 hv with ⟨j,u,rfl,rfl⟩ | ⟨y,u,rfl,rfl⟩
   ·rw [ag2] at h; exact wpAny_eqBool_int h
   ·rw [ag4] at h; exact SeqAt.EqAt.int_str i t y u _ _ _ _ h
  ·rcases i7 hv with ⟨j,u,rfl,rfl⟩ | ⟨y,u,rfl,rfl⟩
   ·rw [ag5] at h; exact SeqAt.EqAt.str_int x t j u _ _ _ _ h
   ·rw [ag3] at h; exact wpAny_eqBool_str h
 «strs»:=fun k x t v h=>by
  rcases i7 h with ⟨i,u,rfl,e⟩ | ⟨y,u,rfl,e⟩
  ·exact nomatch e
  ·injection e with e1 _
   subst e1
   cases v <;> rfl
theorem ag6 (prog:Program) (w:World) (i:Int) (t:Tok):(e9 prog w).is (.inl i) (.int i t)=true:=ag0 i t
theorem ag7 (prog:Program) (w:World) (x:Str) (t:Tok):(e9 prog w).is (.inr x) (.str x t)=true:=ag1 x t
inductive V where
 | non | bl (b:Bool) | int (i:Int) | str (x:Str) | byt (b:Array UInt8) | flt (b:UInt64) | ref (a:Addr) | ty (n:String)
 deriving DecidableEq
def aU:V->Value->Prop
 | .non,u=>u=Value.none
 | .bl b,u=>u=Value.bool b
 | .int i,u=>∃ t,u=Value.int i t
 | .str x,u=>∃ t,u=Value.str x t
 | .byt b,u=>∃ t,u=Value.bytes b t
 | .flt b,u=>∃ t,u=Value.float b t
 | .ref a,u=>u=Value.ref a
 | .ty n,u=>u=Value.type n
abbrev aI:List V->List Value->Prop:=Paired aU
theorem aI.length {xs:List V}{us:List Value} (r:aI xs us):xs.length=us.length:=Paired.length r
theorem aI.get:∀ {xs:List V}{us:List Value}{i:Nat}{x:V},aI xs us->xs[i]? = some x->∃ u,us[i]? = some u/\aU x u
 | _,_,_,_,.nil,e=>by simp at e
 | _,_,0,_,.cons r _,e=>by simp at e; subst e; exact⟨_,rfl,r⟩
 | _,_,i+1,x,.cons _ t,e=>by
  obtain ⟨u,h1,h2⟩:=aI.get (i:=i) (x:=x) t (by simpa using e)
  exact⟨u,by simpa using h1,h2⟩
theorem aI.set {x:V}{u:Value} (r:aU x u):∀ {xs:List V}{us:List Value} (i:Nat),aI xs us->aI (xs.set i x) (us.set i u)
 | _,_,_,.nil=>.nil
 | _,_,0,.cons _ t=>.cons r t
 | _,_,i+1,.cons q t=>.cons q (aI.set r i t)
theorem aI.append:∀ {xs ys:List V}{us ws:List Value},aI xs us->aI ys ws->aI (xs ++ ys) (us ++ ws)
 | _,_,_,_,.nil,s=>s
 | _,_,_,_,.cons r t,s=>.cons r (aI.append t s)
theorem aI.take:∀ {xs:List V}{us:List Value} (n:Nat),aI xs us->aI (xs.take n) (us.take n)
 | _,_,0,_=>.nil
 | _,_,_+1,.nil=>.nil
 | _,_,n+1,.cons r t=>.cons r (aI.take n t)
theorem aI.drop:∀ {xs:List V}{us:List Value} (n:Nat),aI xs us->aI (xs.drop n) (us.drop n)
 | _,_,0,r=>r
 | _,_,_+1,.nil=>.nil
 | _,_,n+1,.cons _ t=>aI.drop n t
def k9:Option V->Option Value->Prop
 | some v,some u=>aU v u
 | none,none=>True
 | _,_=>False
def KV {κ:Type}:List (κ × V)->List (κ × Value)->Prop:=Paired fun (p:κ × V) (q:κ × Value)=>p.1=q.1/\aU p.2 q.2
def kV:aA->V
 | .inl i=>.int i
 | .inr x=>.str x
inductive HO where
 | lst (xs:List V)
 | tup (xs:List V)
 | dK (kvs:List (aA × V)) | dT (kvs:List (List aA × V))
 | set (S:Int->Bool) (n:Nat)
 | ins (C dx:Addr) (fs:List (Str × V))
 | own (x:Addr)
 | xd (fs:List (Str × V))
 | met (f x:Addr)
 | rng (lo hi:Int)
 | frz (o:Obj) (u:HO)
 | tbl (ps:Array Value)
 | ext (φ:Heap->Prop)
abbrev Hp:=Addr->Option HO
def upd (H:Hp) (a:Addr) (o:HO):Hp:=fun b=>if b=a then some o else H b
theorem b8 {H:Hp}{a:Addr}{o:HO}:upd H a o a=some o:=by unfold upd; rw [if_pos rfl]
theorem aH {H:Hp}{a b:Addr}{o:HO} (h:b ≠ a):upd H a o b=H b:=by unfold upd; rw [if_neg h]
theorem y8 {H:Hp}{a b:Addr}{o u:HO} (h:H a=some o) (h':H b=some u) (d:o ≠ u):a ≠ b:=by
 intro e; subst e; rw [h] at h'; exact d (bi5 h')
theorem cR {H:Hp}{a b:Addr}{o:HO} (h:H a=some o) (h':H b=none):a ≠ b:=by
 intro e; subst e; rw [h] at h'; cases h'
section
variable (P : Program) (w : World)
def bH (H:Hp) (h:Heap) (a:Addr):HO->Prop
 | .lst xs=>xs.length<=sizeLine/\∃ (its:List Value) (n:Nat),aI xs its/\h.get? a=some { cls:=.type "list",data:=.seq its.toArray n }
 | .tup xs=>xs.length<=sizeLine/\∃ its:List Value,aI xs its/\IsTup h a its.toArray
 | .dK kvs=>kvs.length<=sizeLine/\(a == sysModules)=false/\∃ vs,KV kvs vs/\h.DictOf (e9 P w) a vs
 | .dT kvs=>kvs.length<=sizeLine/\(a == sysModules)=false/\∃ xs:List (List aA × Addr × Value),
   Paired (fun (p:List aA × V) (q:List aA × Addr × Value)=>p.1=q.1/\H q.2.1=some (.tup (p.1.map kV))/\aU p.2 q.2.2) kvs xs/\
   ∃ o es ep,h.get? a=some o/\o.ExactDict/\o.data = .dict es ep/\es.toList=xs.map (entryOfKey (tupleKind (e9 P w)))/\(xs.map (·.1)).Nodup
 | .set S n=>h.SetOf (intKind P w) a S n
 | .ins C dx fs=>H dx=some (.own a)/\fs.length<=1000/\dx ≠ a/\h.get? a=some (PySem.W.instObj C dx)/\
   ∃ mA,h.Ns1 dx mA/\(∀ f,k9 (fs.lookup f) (mA f))/\PySem.Within mA (fs.map (·.1))
 | .own _=>∃ o,h.get? a=some o
 | .xd fs=>∃ mA,h.Ns1 a mA/\∀ f,k9 (fs.lookup f) (mA f)
 | .rng lo hi=>∃ t u v,h.get? a=some { cls:=.type "range",data:=.fields #[.int lo t,.int hi u,.int 1 v] }
 | .frz o u=>h.get? a=some o/\bH H h a u
 | .tbl ps=>h.get? a=some { cls:=.none,data:=.fields ps }
 | .met f x=>h.get? a=some (PySem.W.methodObj (.ref f) (.ref x))
 | .ext φ=>φ h/\(∃ o,h.get? a=some o)/\∀ h1 h2:Heap,φ h1->(∀ o,h1.get? a=some o->h2.get? a=some o)->φ h2
def bN (H:Hp) (h:Heap):Prop:=∀ a o,H a=some o->bH P w H h a o
end
section
variable {P : Program} {w : World} {H H' : Hp} {h h' : Heap} {a : Addr} {o : HO}
theorem bH.lt (x:bH P w H h a o):a < h.objs.size:=by
 cases o with
 | lst xs=>obtain ⟨_,_,_,_,e⟩:=x; exact bg8 e
 | tup xs=>obtain ⟨_,_,_,p⟩:=x; exact p.lt
 | dK kvs=>obtain ⟨_,_,_,_,o,_,_,e,_⟩:=x; exact bg8 e
 | dT kvs=>obtain ⟨_,_,_,_,o,_,_,e,_⟩:=x; exact bg8 e
 | set S n=>obtain ⟨o,_,_,_,e,_⟩:=x; exact bg8 e
 | ins C dx fs=>obtain ⟨_,_,_,e,_⟩:=x; exact bg8 e
 | own y=>obtain ⟨_,e⟩:=x; exact bg8 e
 | xd fs=>obtain ⟨_,⟨_,_,_,e,_⟩,_⟩:=x; exact bg8 e
 | rng lo hi=>obtain ⟨_,_,_,e⟩:=x; exact bg8 e
 | frz ob u=>obtain ⟨e,_⟩:=x; exact bg8 e
 | tbl ps=>exact bg8 (show h.get? a=some _ from x)
 | met f y=>exact bg8 (show h.get? a=some _ from x)
 | ext φ=>obtain ⟨_,⟨_,e⟩,_⟩:=x; exact bg8 e
theorem Paired.mapP {α β:Type}{F G:α->β->Prop}:∀ {l₁:List α}{l₂:List β},Paired F l₁ l₂->(∀ a b,F a b->G a b)->Paired G l₁ l₂
 | _,_,.nil,_=>.nil
 | _,_,.cons r t,f=>.cons (f _ _ r) (Paired.mapP t f)
theorem bH.stay (x:bH P w H h a o) (k:∀ b u,(b=a ∨ H b=some (.own a))->h.get? b=some u->h'.get? b=some u)
  (ho:∀ b,H b=some (.own a)->H' b=some (.own a)) (ht:∀ b xs,H b=some (.tup xs)->H' b=some (.tup xs)):bH P w H' h' a o:=by
 induction o with
 | lst xs=>obtain ⟨z,its,n,r,e⟩:=x; exact⟨z,its,n,r,k _ _ (.inl rfl) e⟩
 | tup xs=>obtain ⟨z,its,r,ob,e,c⟩:=x; exact⟨z,its,r,ob,k _ _ (.inl rfl) e,c⟩
 | dK kvs=>obtain ⟨z,y,vs,r,ob,es,ep,e,c⟩:=x; exact⟨z,y,vs,r,ob,es,ep,k _ _ (.inl rfl) e,c⟩
 | dT kvs=>
  obtain ⟨z,y,xs,r,ob,es,ep,e,c⟩:=x
  exact⟨z,y,xs,Paired.mapP r fun p q z=>⟨z.1,ht _ _ z.2.1,z.2.2⟩,ob,es,ep,k _ _ (.inl rfl) e,c⟩
 | set S n=>obtain ⟨ob,es,ep,t,e,c⟩:=x; exact⟨ob,es,ep,t,k _ _ (.inl rfl) e,c⟩
 | ins C dx fs=>
  obtain ⟨d,z,ne,e,mA,⟨od,es,ep,e2,c⟩,r⟩:=x
  exact⟨ho _ d,z,ne,k _ _ (.inl rfl) e,mA,⟨od,es,ep,k _ _ (.inr d) e2,c⟩,r⟩
 | own y=>obtain ⟨ob,e⟩:=x; exact⟨ob,k _ _ (.inl rfl) e⟩
 | xd fs=>obtain ⟨mA,⟨od,es,ep,e,c⟩,r⟩:=x; exact⟨mA,⟨od,es,ep,k _ _ (.inl rfl) e,c⟩,r⟩
 | rng lo hi=>obtain ⟨t,u,v,e⟩:=x; exact⟨t,u,v,k _ _ (.inl rfl) e⟩
 | frz ob u ih=>obtain ⟨e,q⟩:=x; exact⟨k _ _ (.inl rfl) e,ih q⟩
 | tbl ps=>
  have e:h.get? a=some { cls:=.none,data:=.fields ps }:=x
  show h'.get? a=some { cls:=.none,data:=.fields ps }
  exact k a _ (.inl rfl) e
 | met f y=>
  have e:h.get? a=some (PySem.W.methodObj (.ref f) (.ref y)):=x
  show h'.get? a=some (PySem.W.methodObj (.ref f) (.ref y))
  exact k a _ (.inl rfl) e
 | ext φ=>obtain ⟨p,⟨o,e⟩,st⟩:=x; exact⟨st _ _ p fun o q=>k _ _ (.inl rfl) q,⟨o,k _ _ (.inl rfl) e⟩,st⟩
theorem bN.lt (x:bN P w H h) (e:H a=some o):a < h.objs.size:=(x a o e).lt
theorem bN.fresh (x:bN P w H h) (e:h.objs.size<=a):H a=none:=by
 cases q:H a with
 | none=>rfl
 | some u=>exact absurd (bh0 (x.lt q) e) (bm5 _)
theorem bN.kept (x:bN P w H h) (k:∀ b u,h.get? b=some u->h'.get? b=some u):bN P w H h':=fun a o e=>
 (x a o e).stay (fun b u _ q=>k b u q) (fun _ q=>q) fun _ _ q=>q
theorem bN.laid (x:bN P w H h) (k:∀ b u,h.get? b=some u->h'.get? b=some u) (hp:h.objs.size<=a) (new:bH P w (upd H a o) h' a o):bN P w (upd H a o) h':=fun b u e=>by
 have hn:=x.fresh hp
 by_cases hb:b=a
 ·subst hb; rw [b8] at e; cases e; exact new
 ·rw [aH hb] at e
  exact (x b u e).stay (fun c v _ q=>k c v q) (fun c q=>by rw [aH (cR q hn)]; exact q) fun c xs q=>by rw [aH (cR q hn)]; exact q
end
def Rd (H:Hp) (a:Addr) (u:HO):Prop:=H a=some u ∨ ∃ o,H a=some (.frz o u)
theorem Rd.ok {P:Program}{w:World}{H:Hp}{h:Heap}{a:Addr}{u:HO} (r:Rd H a u) (x:bN P w H h):bH P w H h a u:=by
 rcases r with r | ⟨o,r⟩
 ·exact x a u r
 ·obtain ⟨_,q⟩:=x a _ r
  exact q
def nH:Option HO->Prop
 | some (.lst _)=>True
 | some (.dK _)=>True
 | some (.dT _)=>True
 | some (.set _ _)=>True
 | some (.ins _ _ _)=>True
 | some (.ext _)=>True
 | _=>False
section
variable {P : Program} {w : World} {H : Hp} {h h' : Heap} {x e : Addr} {o' : HO}
theorem bN.write (ok:bN P w H h) (mu:nH (H x)) (he:e=x ∨ H e=some (.own x)) (k:∀ b u,b ≠ e->h.get? b=some u->h'.get? b=some u) (heo:∃ u,h'.get? e=some u)
  (new:bH P w (upd H x o') h' x o'):bN P w (upd H x o') h':=fun b u q=>by
 have nown:∀ c y,H c=some (.own y)->c ≠ x:=fun c y r z=>by subst z; rw [r] at mu; exact mu
 have ntup:∀ c xs,H c=some (.tup xs)->c ≠ x:=fun c xs r z=>by subst z; rw [r] at mu; exact mu
 by_cases hb:b=x
 ·subst hb; rw [b8] at q; cases q; exact new
 ·rw [aH hb] at q
  by_cases hbe:b=e
  ·have q':H b=some (.own x):=by
    rcases he with z | z
    ·exact absurd (hbe.trans z) hb
    ·rw [hbe]; exact z
   rw [q] at q'; cases q'
   obtain ⟨v,hv⟩:=heo
   exact⟨v,by rw [hbe]; exact hv⟩
  ·refine (ok b u q).stay (fun c v hc r=>k c v ?_ r) (fun c r=>by rw [aH (nown c b r)]; exact r) fun c xs r=>by rw [aH (ntup c xs r)]; exact r
   rcases hc with rfl | hc
   ·exact hbe
   ·rintro rfl
    rcases he with z | z
    ·exact nown c b hc z
    ·rw [hc] at z; cases z; exact hb rfl
end
structure Un (fs ex:List Addr) (H H':Hp) (h h':Heap):Prop where
 keep:∀ b o,h.get? b=some o->H b=none->b ∉ fs->b ∉ ex->h'.get? b=some o
 slot:∀ b o,h.get? b=some o->H b=none->b ∈ fs->b ∉ ex->∃ sl,h'.get? b=some { o with slots:=sl }
 free:∀ b o,h.get? b=some o->H b=none->b ∉ ex->H' b=none
 there:∀ b o,h.get? b=some o->b ∉ ex->∃ o',h'.get? b=some o'
 tups:∀ b xs,H b=some (.tup xs)->H' b=some (.tup xs)
 frzs:∀ b o u,H b=some (.frz o u)->H' b=some (.frz o u)
 tbls:∀ b ps,H b=some (.tbl ps)->∃ more,H' b=some (.tbl (ps ++ more))
section
variable {fs fs' ex ex' : List Addr} {H H1 H2 : Hp} {h h1 h2 h' : Heap} {a x e : Addr} {o : HO}
theorem Un.any (u:Un fs ex H H1 h h1) {b:Addr}{ob:Obj} (q:h.get? b=some ob) (n:H b=none) (hx:b ∉ ex):∃ sl,h1.get? b=some { ob with slots:=sl }:=by
 by_cases hb:b ∈ fs
 ·exact u.slot b ob q n hb hx
 ·exact⟨ob.slots,u.keep b ob q n hb hx⟩
theorem Un.kept (k:∀ b u,h.get? b=some u->h'.get? b=some u):Un fs ex H H h h':=
 ⟨fun b ob q _ _ _=>k b ob q,fun b ob q _ _ _=>⟨ob.slots,k b ob q⟩,fun _ _ _ n _=>n,fun b ob q _=>⟨ob,k b ob q⟩,fun _ _ q=>q,fun _ _ _ q=>q,fun _ ps q=>⟨#[],by rw [q]; simp⟩⟩
theorem Un.refl:Un fs ex H H h h:=Un.kept fun _ _ q=>q
theorem Un.laid (k:∀ b u,h.get? b=some u->h'.get? b=some u) (hp:h.objs.size<=a) (hn:H a=none):Un fs ex H (upd H a o) h h' where
 keep:=fun b u q _ _ _=>k b u q
 slot:=fun b u q _ _ _=>⟨u.slots,k b u q⟩
 free:=fun b u q n _=>by rw [aH (bi6 (bh0 (bg8 q) hp))]; exact n
 there:=fun b u q _=>⟨u,k b u q⟩
 tups:=fun b xs q=>by rw [aH (cR q hn)]; exact q
 frzs:=fun b u xs q=>by rw [aH (cR q hn)]; exact q
 tbls:=fun b ps q=>⟨#[],by rw [aH (cR q hn),q]; simp⟩
theorem Un.write (mu:nH (H x)) (he:e=x ∨ H e=some (.own x)) (k:∀ b u,b ≠ e->h.get? b=some u->h'.get? b=some u) (heo:∃ u,h'.get? e=some u):Un fs ex H (upd H x o) h h':=by
 have hx:∀ b,H b=none->b ≠ x:=fun b n z=>by subst z; rw [n] at mu; exact mu
 have hb:∀ b,H b=none->b ≠ e:=fun b n z=>by
  subst z
  rcases he with r | r
  ·exact hx b n r
  ·rw [n] at r; cases r
 have hm:∀ b u,H b=some u->¬ nH (some u)->b ≠ x:=fun b u q nm z=>by subst z; rw [q] at mu; exact nm mu
 refine⟨fun b u q n _ _=>k b u (hb b n) q,fun b u q n _ _=>⟨u.slots,k b u (hb b n) q⟩,fun b u q n _=>by rw [aH (hx b n)]; exact n,fun b u q _=>?_,
  fun b xs q=>by rw [aH (hm b _ q fun z=>z)]; exact q,fun b u xs q=>by rw [aH (hm b _ q fun z=>z)]; exact q,fun b ps q=>⟨#[],by rw [aH (hm b _ q fun z=>z),q]; simp⟩⟩
 by_cases hbe:b=e
 ·subst hbe; exact heo
 ·exact⟨u,k b u hbe q⟩
end
def pG (h:Heap) (H:Hp):List Addr:=(List.range h.objs.size).filter fun a=>(H a).isSome
def iM (h:Heap) (H:Hp):Heap:=PySem.W.hideAll h (pG h H)
theorem ag8 (h:Heap) (H:Hp):(iM h H).objs.size=h.objs.size:=PySem.W.hideAll_size _ _
theorem ag9 {h:Heap}{H:Hp}{b:Addr}{o:Obj} (e:h.get? b=some o) (n:H b=none):(iM h H).get? b=some o:=
 PySem.W.hideAll_get _ e fun hm=>by
  have q:(H b).isSome=true:=(bn2.mp hm).2
  rw [n] at q; simp at q
theorem ah0 {h:Heap}{H:Hp}{b:Addr}{o:Obj} (e:(iM h H).get? b=some o):h.get? b=some o/\H b=none:=by
 have e':h.get? b=some o:=PySem.W.of_hideAll (pG h H) e
 refine⟨e',?_⟩
 cases q:H b with
 | none=>rfl
 | some x=>
  have hm:b ∈ pG h H:=bn2.mpr ⟨bw2.mpr (bg8 e'),by simp [q]⟩
  have z:(iM h H).get? b=none:=PySem.W.hideAll_none (pG h H) hm
  rw [z] at e; cases e
def ah1 (g h:Heap) (L:Addr):List (Addr × Obj):=(List.range h.objs.size).filterMap fun a=>if a=L ∨ (g.get? a).isSome=true then none else (h.get? a).map fun o=>(a,o)
def cH (g h:Heap) (L d:Addr):List (Addr × Obj):=(ah1 g h L).filter fun p=>decide (p.1 ≠ d)
structure Mod (K:PySem.W.Frag) (mg:Str->Option Value) (base:Heap):Prop where
 kin:K.In base
 glob:base.Ns mainGlobals mg
 blt:∃ mb,base.Ns builtinsNs mb/\∀ x:Str,x ≠ "__name__"->mb x=bootBuiltins x
 nolimit:base.NoLimit
structure Cx where
 prog:Program
 w:World
 K:PySem.W.Frag
 mg:Str->Option Value
 base:Heap
 A:Around
 N:List Str
 s₀:Shared
 H₀:Hp
 env:Env
 outer:List Env
 stack:List Env
 ex:List Addr
 fn:Str->Bool
 calm:Bool
 pn:List (Addr × Obj)
 xe:Value->Shared->Prop
def bL (l:List Env):List Addr:=l.filterMap (·.frame)
abbrev Cx.fs (X:Cx):List Addr:=bL X.outer
def eM (sc:Scope) (x:Str):Prop:=sc.names.lookup x=some .local ∨ sc.names.lookup x=some .cell ∨ sc.names.lookup x=some .free
def gN (sc:Scope) (x:Str):Prop:=sc.names.lookup x=some .local ∨ sc.names.lookup x=some .cell
def ah2 (env:Env) (h:Heap) (m:Str->Option Value) (x:Str) (u:Value):Prop:=
 (env.kindOf x=some .local/\m x=some u) ∨ ((env.kindOf x=some .cell ∨ env.kindOf x=some .free)/\∃ c,env.cells.lookup x=some c/\h.IsCell c (some u))
structure Cx.Ok (X:Cx):Prop where
 mod:Mod X.K X.mg X.base
 kind:X.env.scope.kind = .function
 glob:X.env.globals=mainGlobals
 blt:X.env.builtins=builtinsNs
 above:X.s₀.heap.objs.size<=X.env.locals
 inj:∀ x y c,X.env.cells.lookup x=some c->X.env.cells.lookup y=some c->x=y
 has:∀ x,(X.env.kindOf x=some .cell ∨ X.env.kindOf x=some .free)->∃ c,X.env.cells.lookup x=some c
 cab:∀ x c,X.fn x=true->X.env.cells.lookup x=some c->X.s₀.heap.objs.size<=c
 hd:X.calm=true->X.A.handled=none
 frames:X.A.frames=some X.stack
 stk:X.stack=X.outer ∨ (X.stack=X.env :: X.outer/\X.env.frame=some X.env.locals)
 exf:∀ b ∈ X.ex,b ≠ X.env.locals/\∀ x c,X.env.cells.lookup x=some c->c ≠ b
 bs:∀ b o,X.base.get? b=some o->X.s₀.heap.get? b=some o/\X.H₀ b=none
 bsz:X.base.objs.size<=X.s₀.heap.objs.size
 noex:∀ b o,X.base.get? b=some o->b ∉ X.ex
 exfs:∀ b ∈ X.ex,b ∉ X.fs
 funs:X.s₀.heap.FunFrames X.base X.outer
 frf:∀ b ∈ X.fs,X.H₀ b=none
structure a7 (X:Cx) (pins:List (Addr × Obj)) (σ:List (Option V)) (H:Hp) (s:Shared):Prop where
 ok:X.Ok
 os:s.os=X.s₀.os
 bare:AllBare s.gens
 base:Un X.fs X.ex X.H₀ H X.s₀.heap s.heap
 loc:∃ m,s.heap.Ns X.env.locals m/\∀ (i:Nat) (x:Str) (v:V),X.N[i]? = some x->σ[i]? = some (some v)->eM X.env.scope x->∃ u,aU v u/\ah2 X.env s.heap m x u
 cell:∀ x c,X.env.cells.lookup x=some c->∃ v,s.heap.IsCell c v
 free:H X.env.locals=none
 freeC:∀ x c,X.env.cells.lookup x=some c->H c=none
 pin:∀ p ∈ X.pn ++ pins,s.heap.get? p.1=some p.2/\H p.1=none/\p.1 ≠ X.env.locals/\p.1 ∉ X.fs/\∀ v,p.2.data ≠ .cell v
 hok:bN X.prog X.w H s.heap
 len:σ.length=X.N.length
section
variable {X : Cx} {pins : List (Addr × Obj)} {σ : List (Option V)} {H H' : Hp} {s : Shared} {h' : Heap}
theorem Cx.Ok.nofr (ok:X.Ok) {b:Addr}{o:Obj} (e:X.base.get? b=some o):b ∉ X.fs:=fun hb=>by
 have:=(ok.funs.mem hb).1
 rw [e] at this; cases this
theorem a7.bs (I:a7 X pins σ H s):∀ b o,X.base.get? b=some o->s.heap.get? b=some o/\H b=none:=fun b o e=>
 ⟨I.base.keep b o (I.ok.bs b o e).1 (I.ok.bs b o e).2 (I.ok.nofr e) (I.ok.noex b o e),I.base.free b o (I.ok.bs b o e).1 (I.ok.bs b o e).2 (I.ok.noex b o e)⟩
theorem a7.bk (I:a7 X pins σ H s):∀ b o,X.base.get? b=some o->s.heap.get? b=some o:=fun b o e=>(I.bs b o e).1
theorem a7.mod (I:a7 X pins σ H s):Mod X.K X.mg X.base:=I.ok.mod
theorem a7.kIn (I:a7 X pins σ H s):X.K.In s.heap:=I.ok.mod.kin.keeps I.bk
theorem a7.fr (I:a7 X pins σ H s):∃ m,Fr X.base X.env.locals s.heap m:=
 let ⟨m,hn,_⟩:=I.loc
 ⟨m,hn,I.bk,bk0 I.ok.bsz I.ok.above⟩
theorem a7.lt (I:a7 X pins σ H s):X.env.locals < s.heap.objs.size:=let ⟨_,hn,_⟩:=I.loc; hn.lt
theorem a7.sz (I:a7 X pins σ H s):X.s₀.heap.objs.size<=s.heap.objs.size:=bk0 I.ok.above (bm3 I.lt)
theorem a7.nofs (I:a7 X pins σ H s) {a:Addr} (h:s.heap.objs.size<=a):a ∉ X.fs:=fun hb=>by
 obtain ⟨_,o,ho,_⟩:=I.ok.funs.mem hb
 exact absurd (bh0 (bg8 ho) (bk0 I.sz h)) (bm5 _)
theorem a7.cne (I:a7 X pins σ H s):∀ x c,X.env.cells.lookup x=some c->c ≠ X.env.locals:=fun x c e z=>by
 obtain ⟨v,o,ho,hd⟩:=I.cell x c e
 obtain ⟨m,⟨o',es,ep,ho',hd',_⟩,_⟩:=I.loc
 rw [z,ho'] at ho; cases ho; rw [hd'] at hd; cases hd
theorem a7.funs (I:a7 X pins σ H s):s.heap.FunFrames X.base X.outer:=by
 have all:∀ (l:List Env),(∀ b ∈ bL l,b ∈ X.fs)->X.s₀.heap.FunFrames X.base l->s.heap.FunFrames X.base l:=by
  intro l
  induction l with
  | nil=>intro _ _; trivial
  | cons env r ih=>
   intro hs hl
   obtain ⟨hk,⟨L,o,hf,hn,ho,hd⟩,hr⟩:=hl
   have hL:L ∈ X.fs:=hs L (by unfold bL; rw [List.filterMap_cons,hf]; exact bg7)
   obtain ⟨sl,e⟩:=I.base.slot L o ho (I.ok.frf L hL) hL fun z=>I.ok.exfs L z hL
   exact⟨hk,⟨L,_,hf,hn,e,hd⟩,ih (fun b hb=>hs b (by unfold bL; rw [List.filterMap_cons,hf]; exact bh5 _ hb)) hr⟩
 exact all X.outer (fun _ hb=>hb) I.ok.funs
theorem a7.stack (I:a7 X pins σ H s):s.heap.FunFrames X.base X.stack:=by
 rcases I.ok.stk with e | ⟨e,hf⟩
 ·rw [e]; exact I.funs
 ·rw [e]
  obtain ⟨m,hn,_⟩:=I.loc
  refine .cons (by rw [I.ok.kind]; decide) hf hn ?_ I.funs
  exact Heap.get?_none_of_le (bk0 I.ok.bsz I.ok.above)
theorem a7.stkSub (I:a7 X pins σ H s):∀ b ∈ bL X.stack,b ∈ X.env.locals :: X.fs:=fun b hb=>by
 rcases I.ok.stk with e | ⟨e,hf⟩
 ·rw [e] at hb; exact bh5 _ hb
 ·rw [e] at hb
  unfold bL at hb
  rw [List.filterMap_cons,hf] at hb
  exact hb
theorem a7.stkFree (I:a7 X pins σ H s):∀ b ∈ bL X.stack,H b=none:=fun b hb=>by
 rcases bg4.mp (I.stkSub b hb) with e | hb
 ·rw [e]; exact I.free
 ·obtain ⟨_,o,ho,_⟩:=I.ok.funs.mem hb
  exact I.base.free b o ho (I.ok.frf b hb) fun z=>I.ok.exfs b z hb
theorem a7.step {g':Array GenState}{t':Nat}{d':Drawn}{ch:List Addr} (I:a7 X pins σ H s)
  (hch:∀ b ∈ ch,(b ∈ X.ex ∨ X.s₀.heap.objs.size<=b)/\b ≠ X.env.locals/\(∀ x c,X.env.cells.lookup x=some c->c ≠ b)/\∀ p ∈ X.pn ++ pins,p.1 ≠ b)
  (keep:∀ b o,b ≠ X.env.locals->b ∉ X.fs->b ∉ ch->s.heap.get? b=some o->H b=none->h'.get? b=some o)
  (slot:∀ b o,b ≠ X.env.locals->b ∈ X.fs->b ∉ ch->s.heap.get? b=some o->H b=none->∃ sl,h'.get? b=some { o with slots:=sl }) (free:∀ b o,b ∉ ch->s.heap.get? b=some o->H b=none->H' b=none)
  (there:∀ b o,b ∉ ch->s.heap.get? b=some o->∃ o',h'.get? b=some o')
  (tups:∀ b xs,H b=some (.tup xs)->H' b=some (.tup xs)) (frzs:∀ b o u,H b=some (.frz o u)->H' b=some (.frz o u)) (tbls:∀ b ps,H b=some (.tbl ps)->∃ more,H' b=some (.tbl (ps ++ more)))
  (ns:∀ m,s.heap.Ns X.env.locals m->h'.Ns X.env.locals m) (hok:bN X.prog X.w H' h') (hg:AllBare g') :
  a7 X pins σ H' { s with heap:=h',gens:=g',drawn:=d',toks:=t' }:=by
 have neL:∀ b o,X.s₀.heap.get? b=some o->b ≠ X.env.locals:=fun b o e=>bi6 (bh0 (bg8 e) I.ok.above)
 have neC:∀ b o,X.s₀.heap.get? b=some o->b ∉ X.ex->b ∉ ch:=fun b o e hx hb=>by
  rcases (hch b hb).1 with z | z
  ·exact hx z
  ·exact absurd (bh0 (bg8 e) z) (bm5 _)
 have cellK:∀ x c,X.env.cells.lookup x=some c->∀ v,s.heap.IsCell c v->h'.IsCell c v:=fun x c e v ⟨o,ho,hd⟩=>by
  have nch:c ∉ ch:=fun z=>(hch c z).2.2.1 x c e rfl
  by_cases hc:c ∈ X.fs
  ·obtain ⟨sl,q⟩:=slot c o (I.cne x c e) hc nch ho (I.freeC x c e)
   exact⟨_,q,hd⟩
  ·exact⟨o,keep c o (I.cne x c e) hc nch ho (I.freeC x c e),hd⟩
 refine⟨I.ok,I.os,hg,⟨fun b o e n hb hx=>?_,fun b o e n hb hx=>?_,fun b o e n hx=>?_,fun b o e hx=>?_,fun b xs e=>tups b xs (I.base.tups b xs e),fun b o xs e=>frzs b o xs (I.base.frzs b o xs e),fun b ps e=>?_⟩,?_,fun x c e=>?_,?_,fun x c e=>?_,fun p hp=>?_,hok,I.len⟩
 ·exact keep b o (neL b o e) hb (neC b o e hx) (I.base.keep b o e n hb hx) (I.base.free b o e n hx)
 ·obtain ⟨sl,e1⟩:=I.base.slot b o e n hb hx
  obtain ⟨sl',e2⟩:=slot b _ (neL b o e) hb (neC b o e hx) e1 (I.base.free b o e n hx)
  exact⟨sl',e2⟩
 ·obtain ⟨o',e1⟩:=I.base.there b o e hx
  exact free b o' (neC b o e hx) e1 (I.base.free b o e n hx)
 ·obtain ⟨o',e1⟩:=I.base.there b o e hx
  exact there b o' (neC b o e hx) e1
 ·obtain ⟨m1,e1⟩:=I.base.tbls b ps e
  obtain ⟨m2,e2⟩:=tbls b _ e1
  exact⟨m1 ++ m2,by rw [e2,Array.append_assoc]⟩
 ·obtain ⟨m,hn,hl⟩:=I.loc
  refine⟨m,ns m hn,fun i x v e1 e2 e3=>?_⟩
  obtain ⟨u,r,l⟩:=hl i x v e1 e2 e3
  refine⟨u,r,?_⟩
  rcases l with l | ⟨k,c,e,z⟩
  ·exact .inl l
  ·exact .inr ⟨k,c,e,cellK x c e _ z⟩
 ·obtain ⟨v,z⟩:=I.cell x c e
  exact⟨v,cellK x c e v z⟩
 ·obtain ⟨m,⟨o,_,_,ho,_⟩,_⟩:=I.loc
  exact free _ o (fun z=>(hch _ z).2.1 rfl) ho I.free
 ·obtain ⟨v,o,ho,hd⟩:=I.cell x c e
  exact free c o (fun z=>(hch c z).2.2.1 x c e rfl) ho (I.freeC x c e)
 ·obtain ⟨e,n,ne,nf,d⟩:=I.pin p hp
  have nch:p.1 ∉ ch:=fun z=>(hch p.1 z).2.2.2 p hp rfl
  exact⟨keep p.1 p.2 ne nf nch e n,free p.1 p.2 nch e n,ne,nf,d⟩
theorem a7.un {t':Nat} (I:a7 X pins σ H s) (u:Un X.fs [] H H' s.heap h') (hok:bN X.prog X.w H' h'):a7 X pins σ H' { s with heap:=h',toks:=t' }:=by
 obtain ⟨m,⟨o,es,ep,ho,r⟩,_⟩:=id I.loc
 obtain ⟨sl,hL⟩:=u.any ho I.free (by simp)
 exact I.step (g':=s.gens) (d':=s.drawn) (ch:=[]) (fun _ z=>nomatch z) (fun b o _ hb _ e n=>u.keep b o e n hb (by simp)) (fun b o _ hb _ e n=>u.slot b o e n hb (by simp)) (fun b o _ e n=>u.free b o e n (by simp)) (fun b o _ e=>u.there b o e (by simp)) u.tups u.frzs u.tbls (fun m' hm=>by
  obtain ⟨o',es',ep',ho',r'⟩:=hm
  rw [ho] at ho'; cases ho'
  exact⟨_,es',ep',hL,r'⟩) hok I.bare
theorem a7.call {g':Array GenState}{t':Nat}{d':Drawn}{ch:List Addr} (I:a7 X pins σ H s) (u:Un (bL X.stack) ch H H' s.heap h') (hok:bN X.prog X.w H' h') (hg:AllBare g')
  (hch:∀ b ∈ ch,(b ∈ X.ex ∨ X.s₀.heap.objs.size<=b)/\b ≠ X.env.locals/\(∀ x c,X.env.cells.lookup x=some c->c ≠ b)/\∀ p ∈ X.pn ++ pins,p.1 ≠ b) :
  a7 X pins σ H' { s with heap:=h',gens:=g',drawn:=d',toks:=t' }:=by
 obtain ⟨m,⟨o,es,ep,ho,r⟩,_⟩:=id I.loc
 obtain ⟨sl,hL⟩:=u.any ho I.free fun z=>(hch _ z).2.1 rfl
 exact I.step (ch:=ch) hch (fun b o hL hb hc e n=>u.keep b o e n (fun z=>(bg4.mp (I.stkSub b z)).elim hL hb) hc) (fun b o _ _ hc e n=>u.any e n hc) (fun b o hc e n=>u.free b o e n hc) (fun b o hc e=>u.there b o e hc) u.tups u.frzs u.tbls (fun m' hm=>by
  obtain ⟨o',es',ep',ho',r'⟩:=hm
  rw [ho] at ho'; cases ho'
  exact⟨_,es',ep',hL,r'⟩) hok hg
theorem a7.turned {t':Nat}{it:Addr} (I:a7 X pins σ H s) (k:∀ b o,b ≠ it->s.heap.get? b=some o->h'.get? b=some o) (hn:H it=none) (hL:it ≠ X.env.locals)
  (h1:it ∈ X.ex ∨ X.s₀.heap.objs.size<=it) (h2:∀ x c,X.env.cells.lookup x=some c->c ≠ it) (h3:∀ p ∈ X.pn ++ pins,p.1 ≠ it):a7 X pins σ H { s with heap:=h',toks:=t' }:=by
 have nit:∀ b u,H b=some u->b ≠ it:=fun b u e z=>by rw [z,hn] at e; cases e
 refine I.step (g':=s.gens) (d':=s.drawn) (ch:=[it]) (fun b hb=>?_) (fun b o _ _ hc e _=>k b o (fun z=>hc (by simp [z])) e) (fun b o _ _ hc e _=>⟨o.slots,k b o (fun z=>hc (by simp [z])) e⟩) (fun _ _ _ _ n=>n)
  (fun b o hc e=>⟨o,k b o (fun z=>hc (by simp [z])) e⟩) (fun _ _ e=>e) (fun _ _ _ e=>e) (fun b ps e=>⟨#[],by rw [e]; simp⟩) (fun m hm=>?_) (fun b u e=>?_) I.bare
 ·have e:b=it:=by simpa using hb
  subst e
  exact⟨h1,hL,h2,h3⟩
 ·obtain ⟨o,es,ep,ho,r⟩:=hm
  exact⟨o,es,ep,k _ o (Ne.symm hL) ho,r⟩
 ·refine (I.hok b u e).stay (fun c v hc q=>k c v ?_ q) (fun _ q=>q) fun _ _ q=>q
  rcases hc with z | z
  ·rw [z]; exact nit b u e
  ·exact nit c _ z
theorem a7.tok (I:a7 X pins σ H s) (t:Nat):a7 X pins σ H { s with toks:=t }:=I.un (h':=s.heap) (t':=t) Un.refl I.hok
theorem a7.kept {t':Nat} (I:a7 X pins σ H s) (k:∀ b u,s.heap.get? b=some u->h'.get? b=some u):a7 X pins σ H { s with heap:=h',toks:=t' }:=I.un (Un.kept k) (I.hok.kept k)
theorem a7.laid {a:Addr}{o:HO}{t':Nat} (I:a7 X pins σ H s) (k:∀ b u,s.heap.get? b=some u->h'.get? b=some u) (hp:s.heap.objs.size<=a) (new:bH X.prog X.w (upd H a o) h' a o) :
  a7 X pins σ (upd H a o) { s with heap:=h',toks:=t' }:=I.un (Un.laid k hp (I.hok.fresh hp)) (I.hok.laid k hp new)
theorem a7.write {x e:Addr}{o:HO}{t':Nat} (I:a7 X pins σ H s) (mu:nH (H x)) (he:e=x ∨ H e=some (.own x)) (k:∀ b u,b ≠ e->s.heap.get? b=some u->h'.get? b=some u) (heo:∃ u,h'.get? e=some u)
  (new:bH X.prog X.w (upd H x o) h' x o):a7 X pins σ (upd H x o) { s with heap:=h',toks:=t' }:=I.un (Un.write mu he k heo) (I.hok.write mu he k heo new)
theorem a7.weak {σ':List (Option V)} (I:a7 X pins σ H s) (hl:σ'.length=σ.length) (w:∀ (i:Nat) v,σ'[i]? = some (some v)->σ[i]? = some (some v)):a7 X pins σ' H s:=
 ⟨I.ok,I.os,I.bare,I.base,let ⟨m,hn,hl'⟩:=I.loc; ⟨m,hn,fun i x v e1 e2 e3=>hl' i x v e1 (w i v e2) e3⟩,I.cell,I.free,I.freeC,I.pin,I.hok,hl.trans I.len⟩
theorem a7.pins_of {pins':List (Addr × Obj)} (I:a7 X pins σ H s) (h:∀ p ∈ pins',s.heap.get? p.1=some p.2/\H p.1=none/\p.1 ≠ X.env.locals/\p.1 ∉ X.fs/\∀ v,p.2.data ≠ .cell v):a7 X pins' σ H s:=
 ⟨I.ok,I.os,I.bare,I.base,I.loc,I.cell,I.free,I.freeC,fun p hp=>(bk1.mp hp).elim (fun z=>I.pin p (bs6 _ z)) (h p),I.hok,I.len⟩
theorem tN {N:List Str} (hN:N.Nodup) {i j:Nat}{x:Str} (a:N[i]? = some x) (b:N[j]? = some x):i=j:=by
 obtain ⟨h1,e1⟩:=bh4.mp a
 obtain ⟨h2,e2⟩:=bh4.mp b
 exact (List.getElem_inj hN).mp (e1.trans e2.symm)
theorem tO {M:Model}{A:Around}{E:Value->Shared->Prop}{i:Nat}{x:Str}{v:V}{u:Value}{Q:Unit->Shared->Prop} (I:a7 X pins σ H s) (hN:X.N.Nodup) (hi:X.N[i]? = some x) (hx:gN X.env.scope x) (r:aU v u)
  (h:∀ s',a7 X pins (σ.set i (some v)) H s'->(∃ a,Heap.SameBut a s.heap s'.heap/\(a=X.env.locals ∨ X.env.cells.lookup x=some a))->Q () s') (hf:X.fn x=true ∨ X.env.scope.names.lookup x=some .local:=by first | exact .inl rfl | exact .inr rfl | assumption):wpAny M A (storeName X.env x u) Q E s:=by
 obtain ⟨m,hn,hl⟩:=id I.loc
 have hcls:(X.env.scope.kind == .class || (X.env.scope.kind == .module && X.env.locals != X.env.globals))=false:=by rw [I.ok.kind]; rfl
 have hiσ:i < σ.length:=by rw [I.len]; exact (bh4.mp hi).1
 have cne:=I.cne
 have tracked:∀ {a:Addr}{h':Heap},(∃ o,s.heap.get? a=some o/\H a=none)->Heap.SameBut a s.heap h'->bN X.prog X.w H h':=fun {a h'} ha hs b ob e=>by
  obtain ⟨_,_,hfree⟩:=ha
  refine (I.hok b ob e).stay (fun c w' hc q=>(hs.2 c ?_).trans q) (fun _ q=>q) fun _ _ q=>q
  rintro rfl
  rcases hc with rfl | hc
  ·rw [hfree] at e; cases e
  ·rw [hfree] at hc; cases hc
 rcases hx with hk | hk
 ·refine wpAny_storeName_local hk hn (fun h' hn' hs=>?_) hcls
  obtain ⟨oL,_,_,hoL,_⟩:=id hn
  refine h _ ⟨I.ok,I.os,I.bare,⟨fun b o e n hb hx=>?_,fun b o e n hb hx=>?_,I.base.free,fun b o e hx=>?_,I.base.tups,I.base.frzs,I.base.tbls⟩,⟨_,hn',fun j y v' e1 e2 e3=>?_⟩,fun y c e=>?_,I.free,I.freeC,fun p hp=>?_,tracked ⟨oL,hoL,I.free⟩ hs,by simpa using I.len⟩ ⟨_,hs,.inl rfl⟩
  ·exact (hs.2 b (bi6 (bh0 (bg8 e) I.ok.above))).trans (I.base.keep b o e n hb hx)
  ·obtain ⟨sl,e1⟩:=I.base.slot b o e n hb hx
   exact⟨sl,(hs.2 b (bi6 (bh0 (bg8 e) I.ok.above))).trans e1⟩
  ·obtain ⟨o',e1⟩:=I.base.there b o e hx
   exact⟨o',(hs.2 b (bi6 (bh0 (bg8 e) I.ok.above))).trans e1⟩
  ·by_cases hj:j=i
   ·subst hj
    rw [hi] at e1; cases e1
    rw [bk4 hiσ] at e2
    cases e2
    exact⟨u,r,.inl ⟨hk,by simp⟩⟩
   ·rw [bi1 (Ne.symm hj)] at e2
    obtain ⟨u',r',q⟩:=hl j y v' e1 e2 e3
    refine⟨u',r',?_⟩
    rcases q with ⟨k,e⟩ | ⟨k,c,e,z⟩
    ·refine .inl ⟨k,?_⟩
     have:y ≠ x:=fun e=>hj (tN hN e1 (e ▸ hi))
     simp [this,e]
    ·exact .inr ⟨k,c,e,z.sameBut hs (cne y c e)⟩
  ·obtain ⟨w',z⟩:=I.cell y c e
   exact⟨w',z.sameBut hs (cne y c e)⟩
  ·obtain ⟨e,n,ne,nf,d⟩:=I.pin p hp
   exact⟨(hs.2 p.1 ne).trans e,n,ne,nf,d⟩
 ·have hfn:X.fn x=true:=by
   rcases hf with z | z
   ·exact z
   ·rw [z] at hk; cases hk
  obtain ⟨c,hc⟩:=I.ok.has x (.inl hk)
  obtain ⟨w',z⟩:=I.cell x c hc
  refine wpAny_storeName_cell I.ok.kind hk hc z (fun h' hc' hs=>?_)
  obtain ⟨oc,hoc,hocd⟩:=id z
  refine h { s with heap:=h' } ⟨I.ok,I.os,I.bare,⟨fun b o e n hb hx=>?_,fun b o e n hb hx=>?_,I.base.free,fun b o e hx=>?_,I.base.tups,I.base.frzs,I.base.tbls⟩,⟨m,hn.sameBut hs (Ne.symm (cne x c hc)),fun j y v' e1 e2 e3=>?_⟩,fun y c' e=>?_,I.free,I.freeC,fun p hp=>?_,tracked ⟨oc,hoc,I.freeC x c hc⟩ hs,by simpa using I.len⟩ ⟨c,hs,.inr hc⟩
  ·exact (hs.2 b (bi6 (bh0 (bg8 e) (I.ok.cab x c hfn hc)))).trans (I.base.keep b o e n hb hx)
  ·obtain ⟨sl,e1⟩:=I.base.slot b o e n hb hx
   exact⟨sl,(hs.2 b (bi6 (bh0 (bg8 e) (I.ok.cab x c hfn hc)))).trans e1⟩
  ·obtain ⟨o',e1⟩:=I.base.there b o e hx
   exact⟨o',(hs.2 b (bi6 (bh0 (bg8 e) (I.ok.cab x c hfn hc)))).trans e1⟩
  ·by_cases hj:j=i
   ·subst hj
    rw [hi] at e1; cases e1
    rw [bk4 hiσ] at e2
    cases e2
    exact⟨u,r,.inr ⟨.inl hk,c,hc,hc'⟩⟩
   ·rw [bi1 (Ne.symm hj)] at e2
    obtain ⟨u',r',q⟩:=hl j y v' e1 e2 e3
    refine⟨u',r',?_⟩
    rcases q with q | ⟨k,c',e,z'⟩
    ·exact .inl q
    ·refine .inr ⟨k,c',e,z'.sameBut hs ?_⟩
     rintro rfl
     exact hj (tN hN e1 (I.ok.inj _ _ _ e hc ▸ hi))
  ·by_cases hcc:c'=c
   ·subst hcc; exact⟨_,hc'⟩
   ·obtain ⟨w2,z2⟩:=I.cell y c' e
    exact⟨w2,z2.sameBut hs hcc⟩
  ·obtain ⟨e,n,ne,nf,d⟩:=I.pin p hp
   refine⟨(hs.2 p.1 ?_).trans e,n,ne,nf,d⟩
   intro q
   rw [q,hoc] at e
   have q':oc=p.2:=bi5 e
   exact d w' (by rw [<- q']; exact hocd)
theorem tP {M:Model}{A:Around}{E:Value->Shared->Prop}{i:Nat}{x:Str}{v:V}{u:Value}{Q:Unit->Shared->Prop} (I:a7 X pins σ H s) (hN:X.N.Nodup) (hi:X.N[i]? = some x) (hx:gN X.env.scope x) (r:aU v u)
  (h:∀ s',a7 X pins (σ.set i (some v)) H s'->Q () s') (hf:X.fn x=true ∨ X.env.scope.names.lookup x=some .local:=by first | exact .inl rfl | exact .inr rfl | assumption):wpAny M A (storeName X.env x u) Q E s:=
 tO I hN hi hx r (fun s' I' _=>h s' I') hf
theorem a7.call' {s':Shared}{ch:List Addr} (I:a7 X pins σ H s) (ho:s'.os=s.os) (u:Un (bL X.stack) ch H H' s.heap s'.heap) (hok:bN X.prog X.w H' s'.heap) (hg:AllBare s'.gens)
  (hch:∀ b ∈ ch,(b ∈ X.ex ∨ X.s₀.heap.objs.size<=b)/\b ≠ X.env.locals/\(∀ x c,X.env.cells.lookup x=some c->c ≠ b)/\∀ p ∈ X.pn ++ pins,p.1 ≠ b):a7 X pins σ H' s':=by
 obtain ⟨h',g',d',t',o'⟩:=s'
 have e:o'=s.os:=ho
 subst e
 exact I.call (g':=g') (t':=t') (d':=d') u hok hg hch
end
abbrev XK:=Value->Option Addr->Hp->Prop
abbrev St:=List (Option V)
abbrev VK:=V->Hp->Prop
abbrev TE:=St->Hp->VK->Prop
abbrev TT:=St->Hp->(Bool->Hp->Prop)->Prop
abbrev TA:=St->Hp->(List V->Hp->Prop)->Prop
structure c9 where
 nx:St->Hp->Prop
 rt:VK
 bk:St->Hp->Prop:=fun _ _=>False
 ct:St->Hp->Prop:=fun _ _=>False
abbrev TS:=c9->St->Hp->Prop
def EP (X:Cx) (pins:List (Addr × Obj)) (σ:St) (Q:VK) (u:Value) (s':Shared):Prop:=∃ v H',a7 X pins σ H' s'/\aU v u/\Q v H'
def TP (X:Cx) (pins:List (Addr × Obj)) (σ:St) (Q:Bool->Hp->Prop) (b:Bool) (s':Shared):Prop:=∃ H',a7 X pins σ H' s'/\Q b H'
def AP (X:Cx) (pins:List (Addr × Obj)) (σ:St) (Q:List V->Hp->Prop) (us:List Value) (s':Shared):Prop:=∃ vs H',a7 X pins σ H' s'/\aI vs us/\Q vs H'
def SP (X:Cx) (pins:List (Addr × Obj)) (D:c9) (f:Flow) (s':Shared):Prop:=
 match f with
 | .next=>∃ σ' H',a7 X pins σ' H' s'/\D.nx σ' H'
 | .brk=>∃ σ' H',a7 X pins σ' H' s'/\D.bk σ' H'
 | .cont=>∃ σ' H',a7 X pins σ' H' s'/\D.ct σ' H'
 | .ret u=>∃ v σ' H',a7 X pins σ' H' s'/\aU v u/\D.rt v H'
def PE (X:Cx) (e:Expr) (t:TE):Prop:=
 ∀ (pins:List (Addr × Obj)) (s:Shared) (σ:St) (H:Hp) (Q:VK),a7 X pins σ H s->t σ H Q->wpAny (model X.prog X.w) X.A (eval e X.env) (EP X pins σ Q) X.xe s
def PT (X:Cx) (e:Expr) (t:TT):Prop:=
 ∀ (pins:List (Addr × Obj)) (s:Shared) (σ:St) (H:Hp) (Q:Bool->Hp->Prop),a7 X pins σ H s->t σ H Q->wpAny (model X.prog X.w) X.A (isTrue e X.env (eval e X.env)) (TP X pins σ Q) X.xe s
def PW (X:Cx) (e:Expr) (t:TT):Prop:=
 ∀ (whole:Sem Value) (pins:List (Addr × Obj)) (s:Shared) (σ:St) (H:Hp) (Q:Bool->Hp->Prop),a7 X pins σ H s->t σ H Q->wpAny (model X.prog X.w) X.A (isTrue e X.env whole) (TP X pins σ Q) X.xe s
theorem PW.pt {X:Cx}{e:Expr}{t:TT} (h:PW X e t):PT X e t:=h _
def PA (X:Cx) (es:List Expr) (t:TA):Prop:=
 ∀ (pos:Pos) (pins:List (Addr × Obj)) (s:Shared) (σ:St) (H:Hp) (Q:List V->Hp->Prop),a7 X pins σ H s->t σ H Q->wpAny (model X.prog X.w) X.A (spliced (backTo pos (starEach es X.env))) (AP X pins σ Q) X.xe s
def PS (X:Cx) (st:Stmt) (t:TS):Prop:=
 ∀ (pins:List (Addr × Obj)) (s:Shared) (σ:St) (H:Hp) (D:c9),a7 X pins σ H s->t D σ H->wpAny (model X.prog X.w) X.A (exec st X.env) (SP X pins D) X.xe s
def cU (X:Cx) (st:List Stmt) (t:TS):Prop:=
 ∀ (pins:List (Addr × Obj)) (s:Shared) (σ:St) (H:Hp) (D:c9),a7 X pins σ H s->t D σ H->wpAny (model X.prog X.w) X.A (execs st X.env) (SP X pins D) X.xe s
theorem aJ {α:Type}{t:Sem α}{Q Q':α->Shared->Prop}{M:Model}{A:Around}{E:Value->Shared->Prop}{s:Shared} (h:wpAny M A t Q E s) (hQ:∀ a s,Q a s->Q' a s):wpAny M A t Q' E s:=bo4 h hQ fun _ _ x=>x
section
variable {X : Cx}
theorem bin {a b:Expr}{ta tb:TE} (ha:PE X a ta) (hb:PE X b tb) {pins:List (Addr × Obj)}{s:Shared}{σ:St}{H:Hp}{R:V->V->Hp->Prop} (I:a7 X pins σ H s) (h:ta σ H fun x H1=>tb σ H1 fun y H2=>R x y H2)
  {α:Type}{Q:α->Shared->Prop}{f:Value->Value->Sem α}
  (hf:∀ v u s2 x y H2,a7 X pins σ H2 s2->aU x v->aU y u->R x y H2->wpAny (model X.prog X.w) X.A (f v u) Q X.xe s2) :
  wpAny (model X.prog X.w) X.A (eval a X.env) (fun v s₁=>wpAny (model X.prog X.w) X.A (eval b X.env) (fun u s₂=>wpAny (model X.prog X.w) X.A (f v u) Q X.xe s₂) X.xe s₁) X.xe s:=by
 refine aJ (ha pins s σ H _ I h) fun v s1 ⟨x,H1,I1,r1,q1⟩=>?_
 refine aJ (hb pins s1 σ H1 _ I1 q1) fun u s2 ⟨y,H2,I2,r2,q2⟩=>?_
 exact hf v u s2 x y H2 I2 r1 r2 q2
def eN (i:Nat):TE:=fun σ H Q=>∃ v,σ[i]? = some (some v)/\Q v H
def tC (v:V):TE:=fun _ H Q=>Q v H
theorem fS {i:Nat}{x:Str}{pos:Pos} (hN:X.N[i]? = some x) (hv:eM X.env.scope x) (hd:(x == ("__debug__" : Str))=false:=by decide) (hcd:(x == ("__classdict__" : Str))=false:=by decide):PE X (.Name x pos) (eN i):=by
 intro pins s σ H Q I h
 obtain ⟨v,e,h⟩:=h
 obtain ⟨m,hn,hl⟩:=I.loc
 obtain ⟨u,r,l⟩:=hl i x v hN e hv
 have fin:EP X pins σ Q u s:=⟨v,H,I,r,h⟩
 rcases l with ⟨hk,hm⟩ | ⟨hk,c,hc,hcell⟩
 ·exact wpAny_Name (wpAny_loadName_local I.ok.kind hk hn hm fin) hd
 ·rcases hk with hk | hk
  ·exact wpAny_Name (wpAny_loadName_cell I.ok.kind hk hc hcell fin) hd
  ·exact wpAny_Name (wpAny_loadName_free I.ok.kind hk hc hcell fin hcd) hd
theorem nI {i j pos}:PE X (.Constant (.int i) j pos) (tC (.int i)):=fun _ _ _ H _ I h=>wpAny_Constant_int ⟨.int i,H,I.tok _,⟨_,rfl⟩,h⟩
theorem ah3 {b j pos}:PE X (.Constant (.bool b) j pos) (tC (.bl b)):=fun _ _ _ H _ I h=>Constant_bool ⟨.bl b,H,I,rfl,h⟩
theorem ah4 {j pos}:PE X (.Constant .none j pos) (tC .non):=fun _ _ _ H _ I h=>Constant_none ⟨.non,H,I,rfl,h⟩
theorem ah5 {x j pos}:PE X (.Constant (.str x) j pos) (tC (.str x)):=fun _ _ _ H _ I h=>Calls.Constant_str ⟨.str x,H,I.tok _,⟨_,rfl⟩,h⟩
def Gl (X:Cx) (x:Str):Prop:=X.env.kindOf x=some .globalImplicit
theorem nJ {E:Value->Shared->Prop}{pins:List (Addr × Obj)}{s:Shared}{σ:St}{H:Hp}{x:Str}{u:Value}{pos:Pos}{Q:Value->Shared->Prop} (I:a7 X pins σ H s) (hg:Gl X x) (hm:X.mg x=some u) (h:Q u s)
  (hd:(x == ("__debug__" : Str))=false:=by decide):wpAny (model X.prog X.w) X.A (eval (.Name x pos) X.env) Q E s:=
 Calls.Name_function_global I.ok.kind hg (Calls.loadGlobal_global (by rw [I.ok.glob]; exact I.mod.glob.keeps I.bk) hm h) hd
theorem iN {E:Value->Shared->Prop}{pins:List (Addr × Obj)}{s:Shared}{σ:St}{H:Hp}{x:Str}{u:Value}{pos:Pos}{Q:Value->Shared->Prop} (I:a7 X pins σ H s) (hg:Gl X x) (hm:X.mg x=none) (hv:bootBuiltins x=some u) (h:Q u s)
  (hn:x ≠ "__name__":=by decide) (hd:(x == ("__debug__" : Str))=false:=by decide):wpAny (model X.prog X.w) X.A (eval (.Name x pos) X.env) Q E s:=by
 obtain ⟨mb,h1,h2⟩:=I.mod.blt
 exact Calls.Name_function_global I.ok.kind hg (Calls.loadGlobal_builtin (by rw [I.ok.glob]; exact I.mod.glob.keeps I.bk) hm (by rw [I.ok.blt]; exact h1.keeps I.bk) ((h2 x hn).trans hv) h) hd
theorem ah6 {x:Str}{v:V}{u:Value}{pos:Pos} (hg:Gl X x) (hm:X.mg x=some u) (r:aU v u) (hd:(x == ("__debug__" : Str))=false:=by decide):PE X (.Name x pos) (tC v):=
 fun _ _ _ H _ I h=>nJ I hg hm ⟨v,H,I,r,h⟩ hd
theorem ah7 {x:Str}{v:V}{u:Value}{pos:Pos} (hg:Gl X x) (hm:X.mg x=none) (hv:bootBuiltins x=some u) (r:aU v u) (hn:x ≠ "__name__":=by decide) (hd:(x == ("__debug__" : Str))=false:=by decide):PE X (.Name x pos) (tC v):=
 fun _ _ _ H _ I h=>iN I hg hm hv ⟨v,H,I,r,h⟩ hn hd
variable {a b : Expr} {ta tb : TE} {pos : Pos}
def PC (X:Cx) (op:CmpOp) (a b:Expr) (t:TE):Prop:=
 ∀ (pins:List (Addr × Obj)) (s:Shared) (σ:St) (H:Hp) (Q:VK),a7 X pins σ H s->t σ H Q->
  wpAny (model X.prog X.w) X.A (eval a X.env) (fun v s₁=>wpAny (model X.prog X.w) X.A (eval b X.env) (fun u s₂=>wpAny (model X.prog X.w) X.A (compareOp op v u) (EP X pins σ Q) X.xe s₂) X.xe s₁) X.xe s
def tB (t:TE):TT:=fun σ H Q=>t σ H fun x H1=>∃ c,x = .bl c/\Q c H1
theorem ah8 {op:CmpOp}{t:TE} (h:PC X op a b t) (h1:behindInMarks op b=false:=by first | exact nobehind _ (by decide) (by decide) | rfl):PE X (.Compare a [op] [b] pos) t:=fun pins s σ H Q I hw=>wpAny_Compare1 (h pins s σ H Q I hw) h1
theorem y9 {op:CmpOp}{t:TE} (h:PC X op a b t) (h1:behindInMarks op b=false:=by first | exact nobehind _ (by decide) (by decide) | rfl):PT X (.Compare a [op] [b] pos) (tB t):=by
 intro pins s σ H Q I hw
 refine wpAny_isTrue_Compare1 (aJ (h pins s σ H _ I hw) fun v s1 h1=>aJ h1 fun u s2 h2=>aJ h2 fun c s3 ⟨x,H1,I1,r1,q1⟩=>?_) h1
 obtain ⟨d,rfl,q⟩:=q1
 cases r1
 exact bs8 ⟨H1,I1,q⟩
theorem ah9 {e:Expr}{t:TE} (h:PE X e t) (he:∀ whole,isTrue e X.env whole=(do let v <- whole; standAt e.pos; holding [v] (truthy v)):=by intro _; rfl):PT X e (tB t):=by
 intro pins s σ H Q I hw
 refine isTrue_plain (aJ (h pins s σ H _ I hw) fun v s1 ⟨x,H1,I1,r1,q1⟩=>?_) (he _)
 obtain ⟨d,rfl,q⟩:=q1
 cases r1
 exact bs8 ⟨H1,I1,q⟩
variable {tA tB' : TT} {cH : List Expr}
def yA (t u:TT):TT:=fun σ H Q=>t σ H fun c H1=>if c=true then u σ H1 Q else Q false H1
def yB (t u:TT):TT:=fun σ H Q=>t σ H fun c H1=>if c=true then Q true H1 else u σ H1 Q
def yC (t:TT):TT:=fun σ H Q=>t σ H fun c H1=>Q (!c) H1
theorem ai0 (ha:PT X a tA):PW X (.BoolOp .And [a] pos) tA:=by
 intro wh pins s σ H Q I h
 refine isTrue_and (aJ (ha pins s σ H Q I h) fun c s1 e=>?_)
 cases c with
 | true=>exact isTrue_and_nil e
 | false=>exact e
theorem ai1 (ha:PT X a tA):PW X (.BoolOp .Or [a] pos) tA:=by
 intro wh pins s σ H Q I h
 refine isTrue_or (aJ (ha pins s σ H Q I h) fun c s1 e=>?_)
 cases c with
 | false=>exact isTrue_or_nil e
 | true=>exact e
theorem ai2 (ha:PT X a tA) (hb:PW X (.BoolOp .And (b :: cH) pos) tB'):PW X (.BoolOp .And (a :: b :: cH) pos) (yA tA tB'):=by
 intro wh pins s σ H Q I h
 refine isTrue_and (aJ (ha pins s σ H _ I h) fun c s1 ⟨H1,I1,q1⟩=>?_)
 cases c with
 | true=>exact hb wh pins s1 σ H1 Q I1 q1
 | false=>exact⟨H1,I1,q1⟩
theorem ai3 (ha:PT X a tA) (hb:PW X (.BoolOp .Or (b :: cH) pos) tB'):PW X (.BoolOp .Or (a :: b :: cH) pos) (yB tA tB'):=by
 intro wh pins s σ H Q I h
 refine isTrue_or (aJ (ha pins s σ H _ I h) fun c s1 ⟨H1,I1,q1⟩=>?_)
 cases c with
 | true=>exact⟨H1,I1,q1⟩
 | false=>exact hb wh pins s1 σ H1 Q I1 q1
theorem ai4 (ha:PT X a tA):PT X (.UnaryOp .Not a pos) (yC tA):=by
 intro pins s σ H Q I h
 exact isTrue_not (ha pins s σ H (fun c H1=>Q (!c) H1) I h)
def yD (ta tb:TE):TE:=fun σ H Q=>ta σ H fun x H1=>∃ c,x = .bl c/\if c=true then tb σ H1 Q else Q (.bl false) H1
def yE (ta:TE):TE:=fun σ H Q=>ta σ H fun x H1=>∃ c,x = .bl c/\Q (.bl (!c)) H1
theorem ai5 {op}{t:TE} (h:PE X a t):PE X (.BoolOp op [a] pos) t:=fun pins s σ H Q I hw=>BoolOp_one (h pins s σ H Q I hw)
theorem ai6 (ha:PE X a ta) (hb:PE X (.BoolOp .And (b :: cH) pos) tb):PE X (.BoolOp .And (a :: b :: cH) pos) (yD ta tb):=by
 intro pins s σ H Q I h
 refine BoolOp_and (aJ (ha pins s σ H _ I h) fun v s1 ⟨x,H1,I1,r1,q1⟩=>?_)
 obtain ⟨c,rfl,q1⟩:=q1
 cases r1
 refine bs8 ?_
 cases c with
 | true=>exact hb pins s1 σ H1 Q I1 q1
 | false=>exact⟨.bl false,H1,I1,rfl,q1⟩
theorem ai7 (ha:PE X a ta):PE X (.UnaryOp .Not a pos) (yE ta):=by
 intro pins s σ H Q I h
 refine UnaryOp_ (aJ (ha pins s σ H _ I h) fun v s1 ⟨x,H1,I1,r1,q1⟩=>?_)
 obtain ⟨c,rfl,q1⟩:=q1
 cases r1
 exact not_of (bs8 ⟨.bl (!c),H1,I1,rfl,q1⟩)
end
def aN (K:PySem.W.Frag) (H:Hp) (a:Addr) (xs:List V):Prop:=
 Rd H a (.lst xs) ∨
  ∃ (o:Obj) (its:Array Value) (n:Nat),K.lookup a=some o/\o.cls = .type "list"/\o.dict=none/\o.data = .seq its n/\its.size<=sizeLine/\aI xs its.toList
def aL (K:PySem.W.Frag) (H:Hp) (a:Addr) (xs:List V):Prop:=
 Rd H a (.tup xs) ∨
  ∃ (o:Obj) (its:Array Value) (n:Nat),K.lookup a=some o/\o.cls = .type "tuple"/\o.data = .seq its n/\its.size<=sizeLine/\aI xs its.toList
def ai8:Value->Option V
 | .none=>some .non
 | .bool b=>some (.bl b)
 | .int i _=>some (.int i)
 | .str x _=>some (.str x)
 | .bytes b _=>some (.byt b)
 | .float b _=>some (.flt b)
 | .ref a=>some (.ref a)
 | .type n=>some (.ty n)
 | _=>none
theorem aU.abs {x:V}{u:Value} (r:aU x u):ai8 u=some x:=by
 cases x with
 | non=>cases r; rfl
 | bl _=>cases r; rfl
 | int _=>obtain ⟨t,rfl⟩:=r; rfl
 | str _=>obtain ⟨t,rfl⟩:=r; rfl
 | byt _=>obtain ⟨t,rfl⟩:=r; rfl
 | flt _=>obtain ⟨t,rfl⟩:=r; rfl
 | ref _=>cases r; rfl
 | ty _=>cases r; rfl
theorem aU.inj {x y:V}{u:Value} (r:aU x u) (q:aU y u):x=y:=bi5 (r.abs.symm.trans q.abs)
theorem aI.inj:∀ {xs ys:List V}{us:List Value},aI xs us->aI ys us->xs=ys
 | _,_,_,.nil,.nil=>rfl
 | _,_,_,.cons r t,.cons r' t'=>by rw [r.inj r',aI.inj t t']
section
variable {X : Cx} {pins : List (Addr × Obj)} {σ : St} {H : Hp} {s : Shared} {a : Addr} {xs ys : List V}
theorem aN.of {K:PySem.W.Frag} (h:H a=some (.lst xs)):aN K H a xs:=.inl (.inl h)
theorem aL.of {K:PySem.W.Frag} (h:H a=some (.tup xs)):aL K H a xs:=.inl (.inl h)
theorem a7.list (I:a7 X pins σ H s) (h:aN X.K H a xs):∃ its:List Value,aI xs its/\PlainL s.heap a its.toArray/\xs.length<=sizeLine:=by
 rcases h with h | ⟨o,its,n,hk,hc,hd,hs,hz,r⟩
 ·obtain ⟨z,its,n,r,e⟩:=h.ok I.hok
  exact⟨its,r,⟨_,n,e,rfl,rfl,rfl⟩,z⟩
 ·refine⟨its.toList,r,⟨o,n,I.kIn a o hk,hc,hd,by simpa using hs⟩,?_⟩
  have e:=r.length
  simp only [bi3] at e
  omega
theorem a7.tuple (I:a7 X pins σ H s) (h:aL X.K H a xs):∃ its:List Value,aI xs its/\IsTup s.heap a its.toArray/\xs.length<=sizeLine:=by
 rcases h with h | ⟨o,its,n,hk,hc,hs,hz,r⟩
 ·obtain ⟨z,its,r,p⟩:=h.ok I.hok
  exact⟨its,r,p,z⟩
 ·refine⟨its.toList,r,⟨o,I.kIn a o hk,hc,n,by simpa using hs⟩,?_⟩
  have e:=r.length
  simp only [bi3] at e
  omega
theorem a7.list_inj (I:a7 X pins σ H s) (h:aN X.K H a xs) (h':aN X.K H a ys):xs=ys:=by
 obtain ⟨its,r,⟨o,n,e,_,_,d⟩,_⟩:=I.list h
 obtain ⟨its',r',⟨o',n',e',_,_,d'⟩,_⟩:=I.list h'
 rw [e] at e'; cases e'
 rw [d] at d'
 injection d' with d1 _
 have:its=its':=by simpa using congrArg Array.toList d1
 subst this
 exact r.inj r'
theorem a7.tuple_inj (I:a7 X pins σ H s) (h:aL X.K H a xs) (h':aL X.K H a ys):xs=ys:=by
 obtain ⟨its,r,⟨o,e,_,n,d⟩,_⟩:=I.tuple h
 obtain ⟨its',r',⟨o',e',_,n',d'⟩,_⟩:=I.tuple h'
 rw [e] at e'; cases e'
 rw [d] at d'
 injection d' with d1 _
 have:its=its':=by simpa using congrArg Array.toList d1
 subst this
 exact r.inj r'
end
abbrev Cx.wish (X:Cx) (E:Value->Shared->Prop):Cx:={ X with xe:=E }
abbrev Cx.nox (X:Cx):Cx:=X.wish fun _ _=>False
theorem Cx.Ok.wish {X:Cx} (ok:X.Ok) (E:Value->Shared->Prop):(X.wish E).Ok:=
 ⟨ok.mod,ok.kind,ok.glob,ok.blt,ok.above,ok.inj,ok.has,ok.cab,ok.hd,ok.frames,ok.stk,ok.exf,ok.bs,ok.bsz,ok.noex,ok.exfs,ok.funs,ok.frf⟩
theorem Cx.Ok.unwish {X:Cx}{E:Value->Shared->Prop} (ok:(X.wish E).Ok):X.Ok:=
 ⟨ok.mod,ok.kind,ok.glob,ok.blt,ok.above,ok.inj,ok.has,ok.cab,ok.hd,ok.frames,ok.stk,ok.exf,ok.bs,ok.bsz,ok.noex,ok.exfs,ok.funs,ok.frf⟩
section
variable {X : Cx} {pins : List (Addr × Obj)} {σ : St} {H : Hp} {s : Shared} {E : Value → Shared → Prop}
theorem a7.wish (I:a7 X pins σ H s) (E:Value->Shared->Prop):a7 (X.wish E) pins σ H s:=⟨I.ok.wish E,I.os,I.bare,I.base,I.loc,I.cell,I.free,I.freeC,I.pin,I.hok,I.len⟩
theorem a7.unwish (I:a7 (X.wish E) pins σ H s):a7 X pins σ H s:=⟨I.ok.unwish,I.os,I.bare,I.base,I.loc,I.cell,I.free,I.freeC,I.pin,I.hok,I.len⟩
theorem SP.unwish {D:c9}{f:Flow}{s':Shared} (h:SP (X.wish E) pins D f s'):SP X pins D f s':=by
 cases f with
 | next=>obtain ⟨σ',H',I,q⟩:=h; exact⟨σ',H',I.unwish,q⟩
 | brk=>obtain ⟨σ',H',I,q⟩:=h; exact⟨σ',H',I.unwish,q⟩
 | cont=>obtain ⟨σ',H',I,q⟩:=h; exact⟨σ',H',I.unwish,q⟩
 | ret u=>obtain ⟨v,σ',H',I,r,q⟩:=h; exact⟨v,σ',H',I.unwish,r,q⟩
theorem cU.nox {st:List Stmt}{t:TS} (h:cU X.nox st t):cU X st t:=fun pins s σ H D I hw=>
 bo4 (h pins s σ H D (I.wish _) hw) (fun _ _ q=>q.unwish) fun _ _ z=>False.elim z
end
section
variable {X : Cx} {st : Stmt} {cH : List Stmt} {t u : TS} {e : Expr} {te : TE} {pos : Pos}
def yF:TS:=fun D σ H=>D.nx σ H
def tQ (t u:TS):TS:=fun D σ H=>t { D with nx:=u D } σ H
theorem ai9:cU X [] yF:=fun _ _ σ H _ I h=>bv0 ⟨σ,H,I,h⟩
theorem nK (h1:PS X st t) (h2:cU X cH u):cU X (st :: cH) (tQ t u):=by
 intro pins s σ H D I h
 refine wpAny_execs_cons (aJ (h1 pins s σ H { D with nx:=u D } I h) fun f s1 q=>?_)
 cases f with
 | next=>
  obtain ⟨σ',H',I',q⟩:=q
  exact h2 pins s1 σ' H' D I' q
 | ret v=>exact q
 | brk=>exact q
 | cont=>exact q
theorem lC (h1:PS X st t):cU X [st] t:=by
 intro pins s σ H D I h
 refine wpAny_execs_cons (aJ (h1 pins s σ H D I h) fun f s1 q=>?_)
 cases f with
 | next=>exact bv0 q
 | ret v=>exact q
 | brk=>exact q
 | cont=>exact q
theorem a7.quiet {pins:List (Addr × Obj)}{σ:St}{H:Hp}{s:Shared} (I:a7 X pins σ H s):interactive X.env=false:=by simp [interactive,I.ok.kind]
def lD (te:TE):TS:=fun D σ H=>te σ H fun _ H1=>D.nx σ H1
theorem kA (he:PE X e te) (hs:swapsWith e none pos.line X.env=pure false:=by rfl):PS X (.Expr e pos) (lD te):=by
 intro pins s σ H D I h
 exact wpAny_Expr_any (aJ (he pins s σ H _ I h) fun v s1 ⟨x,H1,I1,r1,q1⟩=>⟨σ,H1,I1,q1⟩) I.quiet hs
def lE (te:TE):TS:=fun D σ H=>te σ H D.rt
theorem lF (he:PE X e te):PS X (.Return (some e) pos) (lE te):=by
 intro pins s σ H D I h
 exact wpAny_Return_some (aJ (he pins s σ H _ I h) fun v s1 ⟨x,H1,I1,r1,q1⟩=>⟨x,σ,H1,I1,r1,q1⟩)
def yG (c:TT) (t u:TS):TS:=fun D σ H=>c σ H fun b H1=>if b=true then t D σ H1 else u D σ H1
theorem aj0 {c:Expr}{a b:List Stmt}{tc:TT} (hc:PT X c tc) (ha:cU X a t) (hb:cU X b u):PS X (.If c a b pos) (yG tc t u):=by
 intro pins s σ H D I h
 refine wpAny_If (aJ (hc pins s σ H _ I h) fun d s1 ⟨H1,I1,q1⟩=>?_)
 cases d with
 | true=>exact ha pins s1 σ H1 D I1 q1
 | false=>exact hb pins s1 σ H1 D I1 q1
end
abbrev TG:=V->St->Hp->(St->Hp->Prop)->Prop
abbrev kB:=List V->St->Hp->(St->Hp->Prop)->Prop
def PG (X:Cx) (target:Expr) (t:TG):Prop:=
 ∀ (pins:List (Addr × Obj)) (s:Shared) (σ:St) (H:Hp) (v:V) (u:Value) (Q:St->Hp->Prop),a7 X pins σ H s->aU v u->t v σ H Q->
  wpAny (model X.prog X.w) X.A (assign target X.env u) (fun _ s'=>∃ σ' H',a7 X pins σ' H' s'/\Q σ' H') X.xe s
def pH (X:Cx) (ts:List Expr) (t:kB):Prop:=
 ∀ (pins:List (Addr × Obj)) (s:Shared) (σ:St) (H:Hp) (vs:List V) (us:List Value) (Q:St->Hp->Prop),a7 X pins σ H s->aI vs us->t vs σ H Q->
  wpAny (model X.prog X.w) X.A (assignInOrder ((assignEach ts X.env).map (·.2)) us) (fun _ s'=>∃ σ' H',a7 X pins σ' H' s'/\Q σ' H') X.xe s
abbrev tR:=V->V->V->Hp->(Hp->Prop)->Prop
def yH (X:Cx) (t:tR):Prop:=
 ∀ (pins:List (Addr × Obj)) (s:Shared) (σ:St) (H:Hp) (o i v:V) (ov iv u:Value) (Q:Hp->Prop),a7 X pins σ H s->aU o ov->aU i iv->aU v u->t o i v H Q->
  wpAny (model X.prog X.w) X.A (setItem ov iv u) (fun _ s'=>∃ H',a7 X pins σ H' s'/\Q H') X.xe s
section
variable {X : Cx} {pos : Pos}
def cF (i:Nat):TG:=fun v σ H Q=>Q (σ.set i (some v)) H
theorem eB {i:Nat}{x:Str} (hN:X.N.Nodup) (hi:X.N[i]? = some x) (hx:gN X.env.scope x) (hf:X.fn x=true ∨ X.env.scope.names.lookup x=some .local:=by first | exact .inl rfl | exact .inr rfl | assumption):PG X (.Name x pos) (cF i):=by
 intro pins s σ H v u Q I r h
 exact wpAny_assign_Name (tP I hN hi hx r (fun s' I'=>⟨_,H,I',h⟩) hf)
def jF:kB:=fun vs σ H Q=>vs = []/\Q σ H
def eO (t:TG) (u:kB):kB:=fun vs σ H Q=>∃ v r,vs=v :: r/\t v σ H fun σ' H'=>u r σ' H' Q
theorem lG:pH X [] jF:=by
 intro pins s σ H vs us Q I r h
 obtain ⟨e,h⟩:=h
 subst e
 cases r
 exact assignInOrder_nil ⟨σ,H,I,h⟩
theorem fT {e:Expr}{es:List Expr}{t:TG}{u:kB} (h1:PG X e t) (h2:pH X es u)
  (hs:(assignEach (e :: es) X.env).map (·.2)=assign e X.env :: (assignEach es X.env).map (·.2):=by rfl):pH X (e :: es) (eO t u):=by
 intro pins s σ H vs us Q I r h
 obtain ⟨v,vr,e1,h⟩:=h
 subst e1
 cases r with
 | cons r rr=>
  rw [hs]
  refine assignInOrder_cons (aJ (h1 pins s σ H _ _ _ I r h) fun _ s1 ⟨σ1,H1,I1,q1⟩=>?_)
  exact h2 pins s1 σ1 H1 _ _ Q I1 rr q1
def jG (K:PySem.W.Frag) (n:Nat) (t:kB):TG:=fun v σ H Q=>∃ a xs,v = .ref a/\aL K H a xs/\xs.length=n/\t xs σ H Q
theorem lH {es:List Expr}{k:Nat}{t:kB}{n:Nat} (hc:X.calm=true) (h:pH X es t)
  (hn:(assignEach es X.env).length=n:=by rfl) (hst:(assignEach es X.env).findIdx? (·.1)=none:=by rfl):PG X (.Tuple es k pos) (jG X.K n t):=by
 intro pins s σ H v u Q I r hw
 obtain ⟨a,xs,e1,hq,hl,hw⟩:=hw
 subst e1
 cases r
 obtain ⟨its,rv,ht,hz⟩:=I.tuple hq
 refine assign_Tuple_tuple (I.ok.hd hc) ht (by simp [hn,<- hl,rv.length]) hst fun h' hx=>?_
 have I1:a7 X pins σ H { s with heap:=h' }:=I.kept (t':=s.toks) fun b o e=>hx b o (bi6 (bg8 e)) e
 exact h pins _ σ H xs _ Q I1 (by simpa using rv) hw
def tS (to ti:TE) (t:tR):TG:=fun v σ H Q=>to σ H fun o H1=>ti σ H1 fun i H2=>t o i v H2 fun H3=>Q σ H3
theorem aj1 {o i:Expr}{to ti:TE}{t:tR} (ho:PE X o to) (hi:PE X i ti) (hs:yH X t)
  (ha:∀ v,assign (.Subscript o i pos) X.env v=(do
   let ov <- holding [v] (eval o X.env)
   let iv <- holding [v,ov] (eval i X.env)
   standAt pos
   holding [v,ov,iv] (setItem ov iv v)
   release [v,ov,iv] []):=by intro _; rfl):PG X (.Subscript o i pos) (tS to ti t):=by
 intro pins s σ H v u Q I r h
 rw [ha]
 refine bf5 (bl6 (aJ (ho pins s σ H _ I h) fun ov s1 ⟨x,H1,I1,r1,q1⟩=>?_))
 refine bf5 (bl6 (aJ (hi pins s1 σ H1 _ I1 q1) fun iv s2 ⟨y,H2,I2,r2,q2⟩=>?_))
 refine bf5 (wpAny_standAt (bf5 (bl6 (aJ (hs pins s2 σ H2 x y v ov iv u _ I2 r1 r2 r q2) fun _ s3 ⟨H3,I3,q3⟩=>?_))))
 exact wpAny_release ⟨σ,H3,I3,q3⟩
def jH (te:TE) (g:TG):TS:=fun D σ H=>te σ H fun x H1=>g x σ H1 D.nx
theorem yI {tg e:Expr}{te:TE}{g:TG} (he:PE X e te) (hg:PG X tg g) (hs:swapsWithSole [tg] e pos.line X.env=pure false:=by rfl) (hw:swappedStores [tg] e X.env=pure none:=by rfl)
  (h1:(assignEach [tg] X.env).map (·.2) = [assign tg X.env]:=by rfl):PS X (.Assign [tg] e pos) (jH te g):=by
 intro pins s σ H D I h
 refine wpAny_Assign_stores (aJ (he pins s σ H _ I h) fun v s1 ⟨x,H1,I1,r1,q1⟩=>?_) hs hw
 rw [h1]
 exact aJ (hg pins s1 σ H1 x v _ I1 r1 q1) fun _ s2 q=>q
theorem yJ {i:Nat}{x:Str}{e:Expr}{te:TE}{pos':Pos} (hN:X.N.Nodup) (hi:X.N[i]? = some x) (hx:gN X.env.scope x) (he:PE X e te) (hs:swapsWith e (some (.Name x pos')) pos.line X.env=pure false:=by rfl) (hf:X.fn x=true ∨ X.env.scope.names.lookup x=some .local:=by first | exact .inl rfl | exact .inr rfl | assumption) :
  PS X (.Assign [.Name x pos'] e pos) (jH te (cF i)):=by
 intro pins s σ H D I h
 refine wpAny_Assign_Name (aJ (he pins s σ H _ I h) fun v s1 ⟨y,H1,I1,r1,q1⟩=>?_) hs
 exact tP I1 hN hi hx r1 (fun s2 I2=>⟨_,H1,I2,q1⟩) hf
end
section
variable {X : Cx} {pos : Pos}
def yK (c:TT) (tb:TS):TS:=fun D σ H=>∃ W:Nat->St->Hp->Prop,(∃ m,W m σ H)/\∀ m σ H,W m σ H->
 c σ H fun b H1=>if b=true then ∃ N:St->Hp->Prop,(∀ σ' H',N σ' H'->∃ m',m' < m/\W m' σ' H')/\tb { D with nx:=N,ct:=N,bk:=D.nx } σ H1 else D.nx σ H1
theorem aj2 {c:Expr}{body:List Stmt}{tc:TT}{tb:TS} (hp:PassesOwn (model X.prog X.w) X.A X.env X.xe) (hc:PT X c tc) (hb:cU X body tb):PS X (.While c body [] pos) (yK tc tb):=by
 intro pins s σ H D I h
 obtain ⟨W,⟨m0,w0⟩,turn⟩:=h
 refine wpAny_While (codeAny_whileLoop (fun n s'=>∃ σ' H',a7 X pins σ' H' s'/\W n σ' H') ?_ m0 ⟨σ,H,I,w0⟩)
 rintro n s1 ⟨σ1,H1,I1,w1⟩
 refine bv1 hp (aJ (hc pins s1 σ1 H1 _ I1 (turn n σ1 H1 w1)) fun b s2 ⟨H2,I2,q2⟩=>?_)
 cases b with
 | true=>
  obtain ⟨N,hN,q2⟩:=q2
  rw [if_pos rfl]
  refine bv1 hp (aJ (hb pins s2 σ1 H2 _ I2 q2) fun f s3 q3=>?_)
  cases f with
  | next=>
   obtain ⟨σ3,H3,I3,n3⟩:=q3
   obtain ⟨m',hm,w3⟩:=hN σ3 H3 n3
   exact⟨m',hm,σ3,H3,I3,w3⟩
  | cont=>
   obtain ⟨σ3,H3,I3,n3⟩:=q3
   obtain ⟨m',hm,w3⟩:=hN σ3 H3 n3
   exact⟨m',hm,σ3,H3,I3,w3⟩
  | brk=>exact q3
  | ret v=>exact q3
 | false=>
  rw [if_neg bh8]
  exact bv0 ⟨σ1,H2,I2,q2⟩
end
structure It where
 go:Nat->Hp->Prop
 yld:Nat->Hp->V->Hp->Prop
 stop:Nat->Hp->Prop
def fU (X:Cx) (pins:List (Addr × Obj)) (H:Hp) (b:Addr):Prop:=
 H b=none/\b ≠ X.env.locals/\b ∉ X.fs/\(b ∈ X.ex ∨ X.s₀.heap.objs.size<=b)/\(∀ x c,X.env.cells.lookup x=some c->c ≠ b)/\∀ p ∈ X.pn ++ pins,p.1 ≠ b
theorem a7.fpOk {X:Cx}{pins:List (Addr × Obj)}{σ:St}{H H':Hp}{s:Shared}{b:Addr} (I:a7 X pins σ H s) (hb:s.heap.objs.size<=b) (hn:H' b=none):fU X pins H' b:=by
 refine⟨hn,bm4 (bh0 I.lt hb),I.nofs hb,.inr (bk0 I.sz hb),fun x c e z=>?_,fun p hp z=>?_⟩
 ·obtain ⟨v,q⟩:=I.cell x c e
  exact absurd (bh0 q.lt (by rw [z]; exact hb)) (bm5 _)
 ·exact absurd (bh0 (bg8 (I.pin p hp).1) (by rw [z]; exact hb)) (bm5 _)
structure gO (P:Program) (w:World) (K:PySem.W.Frag) (tg:Expr) (J:It) (fp:List Addr) (it:Addr) (tn:Nat->Heap->Prop):Prop where
 mem:it ∈ fp
 obj:∀ i h,tn i h->∀ b ∈ fp,∃ o,h.get? b=some o/\∀ v,o.data ≠ .cell v
 keep:∀ i h h',tn i h->(∀ b ∈ fp,∀ o,h.get? b=some o->h'.get? b=some o)->tn i h'
 item:∀ (X:Cx),X.prog=P->X.w=w->X.K=K->X.calm=true->∀ (i:Nat) (pins:List (Addr × Obj)) (s:Shared) (σ:St) (H:Hp) (E:Value->Shared->Prop),a7 X pins σ H s->(∀ b ∈ fp,fU X pins H b)->tn i s.heap->J.go i H->
  wpAny (model P w) X.A (pyNext (.ref it)) (fun r s1=>∃ u,r=some u/\
   wpAny (model P w) X.A (letOwnedTupleGo tg (.ref it) u) (fun _ s2=>∃ x H',a7 X pins σ H' s2/\aU x u/\J.yld i H x H'/\tn (i+1) s2.heap/\∀ b ∈ fp,H' b=none) E s1) E s
 done:∀ (X:Cx),X.prog=P->X.w=w->X.K=K->X.calm=true->∀ (i:Nat) (pins:List (Addr × Obj)) (s:Shared) (σ:St) (H:Hp) (E:Value->Shared->Prop),a7 X pins σ H s->(∀ b ∈ fp,fU X pins H b)->tn i s.heap->J.stop i H->
  wpAny (model P w) X.A (pyNext (.ref it)) (fun r s1=>r=none/\a7 X pins σ H s1) E s
 self:∀ (A:Around) (i:Nat) (s:Shared) (Q:Value->Shared->Prop) (E:Value->Shared->Prop),tn i s.heap->Q (.ref it) s->wpAny (model P w) A (pyIter (.ref it)) Q E s
abbrev TI:=St->Hp->(It->Hp->Prop)->Prop
def yL (X:Cx) (pins:List (Addr × Obj)) (σ:St) (tg:Expr) (R:It->Hp->Prop) (itv:Value) (s2:Shared):Prop:=
 ∃ (it:Addr) (fp:List Addr) (tn:Nat->Heap->Prop) (J:It) (H':Hp),itv = .ref it/\a7 X pins σ H' s2/\gO X.prog X.w X.K tg J fp it tn/\tn 0 s2.heap/\(∀ b ∈ fp,fU X pins H' b)/\R J H'
def PI (X:Cx) (tg iter:Expr) (wi:TI):Prop:=
 ∀ (pins:List (Addr × Obj)) (s:Shared) (σ:St) (H:Hp) (R:It->Hp->Prop),a7 X pins σ H s->wi σ H R->
  wpAny (model X.prog X.w) X.A (eval iter X.env) (fun v s1=>wpAny (model X.prog X.w) X.A (pyIter v) (yL X pins σ tg R) X.xe s1) X.xe s
theorem pI {M:Model}{A:Around}{E:Value->Shared->Prop}{s:Shared}{tg:Expr}{it:Addr}{u:Value}{o:Obj}{n:String}{vs:Array Value}{Q:Unit->Shared->Prop} (ho:s.heap.get? it=some o) (hc:o.cls = .type n) (hd:o.data = .fields vs)
    (hn : ["enumerate","zip","dict_itemiterator","dict_reverseitemiterator","odict_iterator","itertools.zip_longest","itertools.pairwise"].contains n=false) (hQ:Q () s):wpAny M A (letOwnedTupleGo tg (.ref it) u) Q E s:=by
  unfold letOwnedTupleGo
  cases tg <;> first
    | exact bf8 hQ
    | (cases u <;> first
        | exact bf8 hQ
        | (refine bf5 (wpAny_load ho ?_)
           rw [hc,hd]
           show wpAny M A (if (["enumerate","zip","dict_itemiterator","dict_reverseitemiterator","odict_iterator","itertools.zip_longest","itertools.pairwise"].contains n && vs[0]? == some (rawInt _))=true then _ else _) Q E s
           rw [if_neg (by intro h; rw [hn,Bool.false_and] at h; cases h)]
           exact bf8 hQ))
def lJ (K:PySem.W.Frag) (a:Addr):It:=
 ⟨fun i H=>∃ xs x,aN K H a xs/\xs[i]? = some x,fun i H x H'=>H'=H/\∀ xs,aN K H a xs->xs[i]? = some x,fun i H=>∃ xs,aN K H a xs/\xs.length<=i⟩
def jI (K:PySem.W.Frag) (a:Addr):It:=
 ⟨fun i H=>∃ xs x,aL K H a xs/\xs[i]? = some x,fun i H x H'=>H'=H/\∀ xs,aL K H a xs->xs[i]? = some x,fun i H=>∃ xs,aL K H a xs/\xs.length<=i⟩
def nL (lo:Int) (n:Nat):It:=⟨fun i _=>i < n,fun i H x H'=>H'=H/\x = .int (lo+i),fun i _=>n<=i⟩
theorem aj3 {P:Program}{w:World}{K:PySem.W.Frag}{tg:Expr} (a it:Addr):gO P w K tg (lJ K a) [it] it (fun i h=>h.IsListIter it a i) where
 mem:=by simp
 obj:=fun i h st b hb=>by
  have e:b=it:=by simpa using hb
  subst e
  obtain ⟨o,e,c,d⟩:=st
  exact⟨o,e,fun v z=>by rw [d] at z; cases z⟩
 keep:=fun i h h' st k=>st.at fun o e=>k it (by simp) o e
 item:=by
  intro X hP hw hK hc i pins s σ H E I hf st hg
  subst hP hw hK
  obtain ⟨xs,x,hq,hx⟩:=hg
  obtain ⟨its,rv,p,hz⟩:=I.list hq
  obtain ⟨u,hu,ru⟩:=rv.get hx
  obtain ⟨f0,f1,f2,f3,f4,f5⟩:=hf it (by simp)
  refine wpAny_pyNext_list_item st p.isList (x:=u) (by simpa using hu) fun h' st' sb=>?_
  have I1:a7 X pins σ H { s with heap:=h' }:=I.turned (t':=s.toks) (fun b o hb e=>(sb.2 b hb).trans e) f0 f1 f3 f4 f5
  obtain ⟨o,e,c,d⟩:=id st'
  exact⟨u,rfl,pI (s:={ s with heap:=h' }) e c d (by decide) ⟨x,H,I1,ru,⟨rfl,fun ys hy=>by rw [I.list_inj hy hq]; exact hx⟩,st',fun b hb=>(hf b hb).1⟩⟩
 done:=by
  intro X hP hw hK hc i pins s σ H E I hf st hg
  subst hP hw hK
  obtain ⟨xs,hq,hx⟩:=hg
  obtain ⟨its,rv,p,hz⟩:=I.list hq
  obtain ⟨f0,f1,f2,f3,f4,f5⟩:=hf it (by simp)
  have hl:=rv.length
  exact wpAny_pyNext_list_end (I.ok.hd hc) st p.isList (by simp; omega) fun h' eb=>⟨rfl,I.turned (t':=s.toks) (fun b o hb e=>eb b o hb e) f0 f1 f3 f4 f5⟩
 self:=fun _ _ _ _ _ st h=>wpAny_pyIter_listiter st h
theorem yM {P:Program}{w:World}{K:PySem.W.Frag}{tg:Expr} (a it:Addr):gO P w K tg (jI K a) [it] it (fun i h=>h.IsTupleIter it a i) where
 mem:=by simp
 obj:=fun i h st b hb=>by
  have e:b=it:=by simpa using hb
  subst e
  obtain ⟨o,e,c,d⟩:=st
  exact⟨o,e,fun v z=>by rw [d] at z; cases z⟩
 keep:=fun i h h' st k=>st.at fun o e=>k it (by simp) o e
 item:=by
  intro X hP hw hK hc i pins s σ H E I hf st hg
  subst hP hw hK
  obtain ⟨xs,x,hq,hx⟩:=hg
  obtain ⟨its,rv,p,hz⟩:=I.tuple hq
  obtain ⟨u,hu,ru⟩:=rv.get hx
  obtain ⟨f0,f1,f2,f3,f4,f5⟩:=hf it (by simp)
  refine wpAny_pyNext_tuple_item st (show s.heap.IsTuple a its.toArray from p) (x:=u) (by simpa using hu) fun h' st' sb=>?_
  have I1:a7 X pins σ H { s with heap:=h' }:=I.turned (t':=s.toks) (fun b o hb e=>(sb.2 b hb).trans e) f0 f1 f3 f4 f5
  obtain ⟨o,e,c,d⟩:=id st'
  exact⟨u,rfl,pI (s:={ s with heap:=h' }) e c d (by decide) ⟨x,H,I1,ru,⟨rfl,fun ys hy=>by rw [I.tuple_inj hy hq]; exact hx⟩,st',fun b hb=>(hf b hb).1⟩⟩
 done:=by
  intro X hP hw hK hc i pins s σ H E I hf st hg
  subst hP hw hK
  obtain ⟨xs,hq,hx⟩:=hg
  obtain ⟨its,rv,p,hz⟩:=I.tuple hq
  obtain ⟨f0,f1,f2,f3,f4,f5⟩:=hf it (by simp)
  have hl:=rv.length
  exact wpAny_pyNext_tuple_end (I.ok.hd hc) st (show s.heap.IsTuple a its.toArray from p) (by simp; omega) fun h' eb=>⟨rfl,I.turned (t':=s.toks) (fun b o hb e=>eb b o hb e) f0 f1 f3 f4 f5⟩
 self:=fun _ _ _ _ _ st h=>wpAny_pyIter_tupleiter st h
theorem aj4 {P:Program}{w:World}{K:PySem.W.Frag}{tg:Expr} (it:Addr) (lo:Int) (n:Nat):gO P w K tg (nL lo n) [it] it (fun i h=>IsRangeIter h it (lo+(i:Nat) * 1) ((n:Int) - (i:Nat)) 1) where
 mem:=by simp
 obj:=fun i h st b hb=>by
  have e:b=it:=by simpa using hb
  subst e
  exact⟨_,st,fun v z=>by
   have z':Data.fields _=Data.cell v:=z
   cases z'⟩
 keep:=fun i h h' st k=>k it (by simp) _ st
 item:=by
  intro X hP hw hK hc i pins s σ H E I hf st hg
  subst hP hw hK
  obtain ⟨f0,f1,f2,f3,f4,f5⟩:=hf it (by simp)
  have W:=Walks.range (prog:=X.prog) (w:=X.w) (I.ok.hd hc) it lo 1 n
  refine W.item i s _ _ hg st fun v h' tk hv st' kk=>?_
  obtain ⟨t,rfl⟩:=hv
  have I1:a7 X pins σ H { s with heap:=h',toks:=tk }:=I.turned (fun b o hb e=>kk b o (by simpa using hb) e) f0 f1 f3 f4 f5
  refine⟨_,rfl,pI (s:={ s with heap:=h',toks:=tk }) (n:="range_iterator") st' rfl rfl (by decide) ⟨.int (lo+i),H,I1,⟨t,?_⟩,⟨rfl,rfl⟩,st',fun b hb=>(hf b hb).1⟩⟩
  rw [Int.mul_one]
 done:=by
  intro X hP hw hK hc i pins s σ H E I hf st hg
  subst hP hw hK
  obtain ⟨f0,f1,f2,f3,f4,f5⟩:=hf it (by simp)
  exact wpAny_pyNext_range_end (I.ok.hd hc) st (by have:n<=i:=hg; omega) fun h' eb=>⟨rfl,I.turned (t':=s.toks) (fun b o hb e=>eb b o hb e) f0 f1 f3 f4 f5⟩
 self:=fun _ _ _ _ _ st h=>wpAny_pyIter_rangeiter st h
section
variable {X : Cx} {tg : Expr}
def aj5 (K:PySem.W.Frag) (tl:TE):TI:=fun σ H R=>tl σ H fun x H1=>∃ a,x = .ref a/\(∃ xs,aL K H1 a xs)/\R (jI K a) H1
theorem yN {l:Expr}{tl:TE} (hl:PE X l tl):PI X tg l (aj5 X.K tl):=by
 intro pins s σ H R I h
 refine aJ (hl pins s σ H _ I h) fun v s1 ⟨x,H1,I1,r1,q1⟩=>?_
 obtain ⟨a,e,⟨xs,hq⟩,q⟩:=q1
 subst e
 cases r1
 obtain ⟨its,rv,p,hz⟩:=I1.tuple hq
 refine bs1 (show s1.heap.IsTuple a its.toArray from p) ?_
 refine⟨s1.heap.objs.size,[s1.heap.objs.size],_,_,H1,rfl,I1.kept (t':=s1.toks) fun b o e=>bf7 _ e,yM a _,⟨_,bg6 _ rfl,rfl,rfl⟩,fun b hb=>?_,q⟩
 have e:b=s1.heap.objs.size:=by simpa using hb
 subst e
 exact I1.fpOk (bg1 _) (I1.hok.fresh (bg1 _))
theorem yO {pins:List (Addr × Obj)}{σ:St}{H:Hp}{s:Shared}{R:It->Hp->Prop}{E:Value->Shared->Prop}{lo hi:Int}{t u v:Tok}{tk:Nat} (I:a7 X pins σ H s) (h1 : -(2 ^ 62)<=lo) (h2:lo < 2 ^ 62) (h3 : -(2 ^ 62)<=hi) (h4:hi < 2 ^ 62)
  (q:R (nL lo (hi - lo).toNat) H):wpAny (model X.prog X.w) X.A (pyIter (.ref s.heap.objs.size)) (yL X pins σ tg R) E { s with heap:=s.heap.push { cls:=.type "range",data:=.fields #[.int lo t,.int hi u,.int 1 v] },toks:=tk }:=by
 refine wpAny_pyIter_range (IsRange.new ..) (small_one h1 h2 h3 h4) ?_
 have I1:a7 X pins σ H { s with heap:=s.heap.push { cls:=.type "range",data:=.fields #[.int lo t,.int hi u,.int 1 v] },toks:=tk }:=I.kept fun b o e=>bf7 _ e
 refine⟨(s.heap.push { cls:=.type "range",data:=.fields #[.int lo t,.int hi u,.int 1 v] }).objs.size,[(s.heap.push { cls:=.type "range",data:=.fields #[.int lo t,.int hi u,.int 1 v] }).objs.size],_,_,H,rfl,
  I1.kept (t':=tk) fun b o e=>bf7 _ e,aj4 _ lo (hi - lo).toNat,?_,fun b hb=>?_,q⟩
 ·have e1:lo+((0:Nat):Int) * 1=lo:=by simp
  have e2:(((hi - lo).toNat:Nat):Int) - ((0:Nat):Int)=Builtin.Range.rangeSize lo hi 1:=by rw [rangeSize_one]; split <;> omega
  show IsRangeIter _ _ (lo+((0:Nat):Int) * 1) ((((hi - lo).toNat:Nat):Int) - ((0:Nat):Int)) 1
  rw [e1,e2]
  exact bg6 _ rfl
 ·have e:b=(s.heap.push { cls:=.type "range",data:=.fields #[.int lo t,.int hi u,.int 1 v] }).objs.size:=by simpa using hb
  subst e
  exact I1.fpOk (bg1 _) (I1.hok.fresh (bg1 _))
def yP (ta:TA):TI:=fun σ H R=>ta σ H fun vs H1=>∃ j:Int,vs = [.int j]/\-(2 ^ 62)<=j/\j < 2 ^ 62/\R (nL 0 j.toNat) H1
def yQ (ta:TA):TI:=fun σ H R=>ta σ H fun vs H1=>∃ i j:Int,vs = [.int i,.int j]/\(-(2 ^ 62)<=i/\i < 2 ^ 62/\-(2 ^ 62)<=j/\j < 2 ^ 62)/\R (nL i (j - i).toNat) H1
theorem aj6 {a:Expr}{ta:TA}{p pos:Pos} (hg:Gl X "range") (hm:X.mg "range" = none) (ha:PA X [a] ta) (hs:starEach [a] X.env = [(false,eval a X.env)]:=by rfl):PI X tg (.Call (.Name "range" p) [a] [] pos) (yP ta):=by
 intro pins s σ H R I h
 refine Call_ (iN I hg hm boot_range (bo0 (aJ (ha pos pins s σ H _ I h) fun us s1 ⟨vs,H1,I1,r1,q1⟩=>?_) hs rfl))
 obtain ⟨j,e,q1,q2,q⟩:=q1
 subst e
 cases r1 with
 | cons r rr=>
  cases rr
  obtain ⟨t,rfl⟩:=r
  exact call_range_1 (yO I1 (by omega) (by omega) q1 q2 (by simpa using q))
theorem aj7 {a b:Expr}{ta:TA}{p pos:Pos} (hg:Gl X "range") (hm:X.mg "range" = none) (ha:PA X [a,b] ta) (hs:starEach [a,b] X.env = [(false,eval a X.env),(false,eval b X.env)]:=by rfl) (hs2:starEach [b] X.env = [(false,eval b X.env)]:=by rfl) :
  PI X tg (.Call (.Name "range" p) [a,b] [] pos) (yQ ta):=by
 intro pins s σ H R I h
 refine Call_ (iN I hg hm boot_range (bo0 (aJ (ha pos pins s σ H _ I h) fun us s1 ⟨vs,H1,I1,r1,q1⟩=>?_) (by rw [hs,hs2]) (by rw [hs2]; rfl)))
 obtain ⟨i,j,e,⟨q1,q2,q3,q4⟩,q⟩:=q1
 subst e
 cases r1 with
 | cons r rr=>
  cases rr with
  | cons r' rr=>
   cases rr
   obtain ⟨t,rfl⟩:=r
   obtain ⟨t',rfl⟩:=r'
   exact call_range_2 (yO I1 q1 q2 q3 q4 q)
def yR (wi:TI) (g:TG) (tb:TS):TS:=fun D σ H=>wi σ H fun J H1=>∃ W:Nat->Nat->St->Hp->Prop,(∃ m,W 0 m σ H1)/\∀ i m σ H,W i m σ H->
 (J.stop i H/\D.nx σ H) ∨ (J.go i H/\∃ N:St->Hp->Prop,(∀ σ' H',N σ' H'->∃ m',m' < m/\W (i+1) m' σ' H')/\∀ x H',J.yld i H x H'->g x σ H' fun σ2 H2=>tb { D with nx:=N,ct:=N,bk:=D.nx } σ2 H2)
def nM (fp:List Addr) (h:Heap):List (Addr × Obj):=fp.filterMap fun b=>(h.get? b).map fun o=>(b,o)
theorem pJ {fp:List Addr}{h:Heap}{b:Addr}{o:Obj} (hb:b ∈ fp) (e:h.get? b=some o):(b,o) ∈ nM fp h:=List.mem_filterMap.mpr ⟨b,hb,by rw [e]; rfl⟩
theorem aj8 {fp:List Addr}{h:Heap}{p:Addr × Obj} (hp:p ∈ nM fp h):p.1 ∈ fp/\h.get? p.1=some p.2:=by
 obtain ⟨b,hb,e⟩:=List.mem_filterMap.mp hp
 cases q:h.get? b with
 | none=>rw [q] at e; cases e
 | some o=>
  rw [q] at e
  have e':(b,o)=p:=bi5 e
  subst e'
  exact⟨hb,q⟩
theorem a7.pinned {pins:List (Addr × Obj)}{σ:St}{H:Hp}{s:Shared}{fp:List Addr} (I:a7 X pins σ H s) (hf:∀ b ∈ fp,fU X pins H b) (ho:∀ b ∈ fp,∃ o,s.heap.get? b=some o/\∀ v,o.data ≠ .cell v):a7 X (pins ++ nM fp s.heap) σ H s:=
 I.pins_of fun p hp=>(bk1.mp hp).elim (fun z=>I.pin p (bk2 _ z)) fun z=>by
  obtain ⟨hb,e⟩:=aj8 z
  obtain ⟨f0,f1,f2,_⟩:=hf p.1 hb
  obtain ⟨o,e',d⟩:=ho p.1 hb
  rw [e] at e'; cases e'
  exact⟨e,f0,f1,f2,d⟩
theorem a7.unpinned {pins pl:List (Addr × Obj)}{σ:St}{H:Hp}{s:Shared} (I:a7 X (pins ++ pl) σ H s):a7 X pins σ H s:=I.pins_of fun p hp=>I.pin p (bk2 _ (bs6 _ hp))
theorem yS {iter:Expr}{body:List Stmt}{wi:TI}{g:TG}{tb:TS}{pos:Pos} (hp:PassesOwn (model X.prog X.w) X.A X.env X.xe) (hc:X.calm=true) (hi:PI X tg iter wi) (hg:PG X tg g) (hb:cU X body tb)
  (hs:∀ x,foldedSetIterable iter X.env x=pure x:=by intro _; rfl):PS X (.For tg iter body [] pos) (yR wi g tb):=by
 intro pins s σ H D I h
 refine wpAny_For (aJ (hi pins s σ H _ I h) fun v s1 h1=>aJ h1 fun itv s2 h2=>?_) hs
 obtain ⟨it,fp,tn,J,H2,e,I2,T,st2,f2,W,⟨m0,w0⟩,turn⟩:=h2
 subst e
 have stat:∀ {H':Hp},(∀ b ∈ fp,H' b=none)->∀ b ∈ fp,fU X pins H' b:=fun hn b hb=>⟨hn b hb,(f2 b hb).2⟩
 refine codeAny_forLoop_any (fun n s'=>∃ i σ' H',a7 X pins σ' H' s'/\tn i s'.heap/\(∀ b ∈ fp,H' b=none)/\W i n σ' H') ?_ m0 ⟨0,σ,H2,I2,st2,fun b hb=>(f2 b hb).1,w0⟩
 rintro n s3 ⟨i,σ3,H3,I3,st3,fr3,w3⟩
 rcases turn i n σ3 H3 w3 with ⟨stop,qn⟩ | ⟨go,N,hN,step⟩
 ·refine bv1 hp (aJ (T.done X rfl rfl rfl hc i pins s3 σ3 H3 X.xe I3 (stat fr3) st3 stop) fun r s4 ⟨hr,I4⟩=>?_)
  subst hr
  exact bv0 ⟨σ3,H3,I4,qn⟩
 ·refine bv1 hp (aJ (T.item X rfl rfl rfl hc i pins s3 σ3 H3 X.xe I3 (stat fr3) st3 go) fun r s4 ⟨u,hr,h4⟩=>?_)
  subst hr
  refine bv1 hp (aJ h4 fun _ s5 ⟨x,H5,I5,r5,y5,st5,fr5⟩=>?_)
  have I5':=I5.pinned (stat fr5) (T.obj _ _ st5)
  refine bv1 hp (aJ (hg _ s5 σ3 H5 x u _ I5' r5 (step x H5 y5)) fun _ s6 ⟨σ6,H6,I6,q6⟩=>?_)
  refine bv1 hp (aJ (hb _ s6 σ6 H6 _ I6 q6) fun f s7 q7=>?_)
  have again:∀ {σ7:St}{H7:Hp},a7 X (pins ++ nM fp s5.heap) σ7 H7 s7->N σ7 H7->∃ m,m < n/\∃ i σ' H',a7 X pins σ' H' s7/\tn i s7.heap/\(∀ b ∈ fp,H' b=none)/\W i m σ' H':=fun {σ7 H7} I7 n7=>by
   obtain ⟨m',hm,w7⟩:=hN σ7 H7 n7
   refine⟨m',hm,i+1,σ7,H7,I7.unpinned,T.keep _ _ _ st5 fun b hb o e=>(I7.pin (b,o) (bk2 _ (bk2 _ (pJ hb e)))).1,fun b hb=>?_,w7⟩
   obtain ⟨o,e,d⟩:=T.obj _ _ st5 b hb
   exact (I7.pin (b,o) (bk2 _ (bk2 _ (pJ hb e)))).2.1
  cases f with
  | next=>obtain ⟨σ7,H7,I7,n7⟩:=q7; exact again I7 n7
  | cont=>obtain ⟨σ7,H7,I7,n7⟩:=q7; exact again I7 n7
  | brk=>obtain ⟨σ7,H7,I7,q7⟩:=q7; exact⟨σ7,H7,I7.unpinned,q7⟩
  | ret v=>obtain ⟨x7,σ7,H7,I7,r7,q7⟩:=q7; exact⟨x7,σ7,H7,I7.unpinned,r7,q7⟩
end
theorem bf2 {K:PySem.W.Frag}{a:Addr}{xs:List V}{g:TG}{tb:TS}{D:c9}{σ:St}{H:Hp} (Pv:Nat->St->Hp->Prop) (h0:Pv 0 σ H) (hl:∀ i σ H,i<=xs.length->Pv i σ H->aN K H a xs)
  (hs:∀ i x σ H,xs[i]? = some x->Pv i σ H->g x σ H fun σ2 H2=>tb { D with nx:=Pv (i+1),ct:=Pv (i+1),bk:=D.nx } σ2 H2) (hd:∀ σ H,Pv xs.length σ H->D.nx σ H) :
  ∃ W:Nat->Nat->St->Hp->Prop,(∃ m,W 0 m σ H)/\∀ i m σ H,W i m σ H->
   ((lJ K a).stop i H/\D.nx σ H) ∨ ((lJ K a).go i H/\∃ N:St->Hp->Prop,(∀ σ' H',N σ' H'->∃ m',m' < m/\W (i+1) m' σ' H')/\∀ x H',(lJ K a).yld i H x H'->g x σ H' fun σ2 H2=>tb { D with nx:=N,ct:=N,bk:=D.nx } σ2 H2):=by
 refine⟨fun i m σ H=>m=xs.length - i/\i<=xs.length/\Pv i σ H,⟨xs.length,by simp,bk5 _,h0⟩,?_⟩
 rintro i m σ H ⟨rfl,hi,p⟩
 have q:=hl i σ H hi p
 by_cases hlt:i < xs.length
 ·refine .inr ⟨⟨xs,xs[i],q,by simp [hlt]⟩,Pv (i+1),fun σ' H' p'=>⟨xs.length - (i+1),by omega,rfl,hlt,p'⟩,fun x H' y=>?_⟩
  obtain ⟨e,y⟩:=y
  subst e
  exact hs i x σ _ (y xs q) p
 ·have e:i=xs.length:=by omega
  subst e
  exact .inl ⟨⟨xs,q,bg1 _⟩,hd σ H p⟩
theorem aj9 {K:PySem.W.Frag}{a:Addr}{xs:List V}{g:TG}{tb:TS}{D:c9}{σ:St}{H:Hp} (Pv:Nat->St->Hp->Prop) (h0:Pv 0 σ H) (hl:∀ i σ H,i<=xs.length->Pv i σ H->aL K H a xs)
  (hs:∀ i x σ H,xs[i]? = some x->Pv i σ H->g x σ H fun σ2 H2=>tb { D with nx:=Pv (i+1),ct:=Pv (i+1),bk:=D.nx } σ2 H2) (hd:∀ σ H,Pv xs.length σ H->D.nx σ H) :
  ∃ W:Nat->Nat->St->Hp->Prop,(∃ m,W 0 m σ H)/\∀ i m σ H,W i m σ H->
   ((jI K a).stop i H/\D.nx σ H) ∨ ((jI K a).go i H/\∃ N:St->Hp->Prop,(∀ σ' H',N σ' H'->∃ m',m' < m/\W (i+1) m' σ' H')/\∀ x H',(jI K a).yld i H x H'->g x σ H' fun σ2 H2=>tb { D with nx:=N,ct:=N,bk:=D.nx } σ2 H2):=by
 refine⟨fun i m σ H=>m=xs.length - i/\i<=xs.length/\Pv i σ H,⟨xs.length,by simp,bk5 _,h0⟩,?_⟩
 rintro i m σ H ⟨rfl,hi,p⟩
 have q:=hl i σ H hi p
 by_cases hlt:i < xs.length
 ·refine .inr ⟨⟨xs,xs[i],q,by simp [hlt]⟩,Pv (i+1),fun σ' H' p'=>⟨xs.length - (i+1),by omega,rfl,hlt,p'⟩,fun x H' y=>?_⟩
  obtain ⟨e,y⟩:=y
  subst e
  exact hs i x σ _ (y xs q) p
 ·have e:i=xs.length:=by omega
  subst e
  exact .inl ⟨⟨xs,q,bg1 _⟩,hd σ H p⟩
abbrev R2:=V->V->Hp->VK->Prop
def cD (X:Cx) (f:Value->Value->Sem Value) (r:R2):Prop:=
 ∀ (pins:List (Addr × Obj)) (s:Shared) (σ:St) (H:Hp) (x y:V) (v u:Value) (Q:VK),a7 X pins σ H s->aU x v->aU y u->r x y H Q->
  wpAny (model X.prog X.w) X.A (f v u) (EP X pins σ Q) X.xe s
def tT (X:Cx) (f:Value->Sem Value) (r:V->Hp->VK->Prop):Prop:=
 ∀ (pins:List (Addr × Obj)) (s:Shared) (σ:St) (H:Hp) (x:V) (v:Value) (Q:VK),a7 X pins σ H s->aU x v->r x H Q->
  wpAny (model X.prog X.w) X.A (f v) (EP X pins σ Q) X.xe s
def cS (X:Cx) (f:Value) (r:List V->Hp->VK->Prop):Prop:=
 ∀ (pins:List (Addr × Obj)) (s:Shared) (σ:St) (H:Hp) (xs:List V) (us:List Value) (Q:VK),a7 X pins σ H s->aI xs us->r xs H Q->
  wpAny (model X.prog X.w) X.A (call f us) (EP X pins σ Q) X.xe s
def ak0 (X:Cx) (r:V->Hp->(Bool->Hp->Prop)->Prop):Prop:=
 ∀ (pins:List (Addr × Obj)) (s:Shared) (σ:St) (H:Hp) (x:V) (v:Value) (Q:Bool->Hp->Prop),a7 X pins σ H s->aU x v->r x H Q->
  wpAny (model X.prog X.w) X.A (truthy v) (TP X pins σ Q) X.xe s
def nN (r:R2) (ta tb:TE):TE:=fun σ H Q=>ta σ H fun x H1=>tb σ H1 fun y H2=>r x y H2 Q
def tUn (r:V->Hp->VK->Prop) (ta:TE):TE:=fun σ H Q=>ta σ H fun x H1=>r x H1 Q
def rI (C:Int->Int->Prop) (g:Int->Int->V):R2:=fun x y H Q=>∃ i j,x = .int i/\y = .int j/\C i j/\Q (g i j) H
def iO (g:Int->Int->V):R2:=fun x y H Q=>∃ i j,x = .int i/\y = .int j/\Q (g i j) H
def rU (g:Int->V):V->Hp->VK->Prop:=fun x H Q=>∃ i,x = .int i/\Q (g i) H
section
variable {X : Cx} {a b c : Expr} {ta tb tc : TE} {pos : Pos}
theorem tU (ha:PE X a ta) (hb:PE X b tb) {pins:List (Addr × Obj)}{s:Shared}{σ:St}{H:Hp}{R:V->V->Hp->Prop} (I:a7 X pins σ H s)
  (h:ta σ H fun x H1=>tb σ H1 fun y H2=>R x y H2) {Q:Value->Shared->Prop}{f:Value->Value->Sem Value}
  (hf:∀ v u s2 x y H2,a7 X pins σ H2 s2->aU x v->aU y u->R x y H2->wpAny (model X.prog X.w) X.A (f v u) Q X.xe s2) :
  wpAny (model X.prog X.w) X.A (eval a X.env) (fun v s₁=>wpAny (model X.prog X.w) X.A (eval b X.env) (fun u s₂=>wpAny (model X.prog X.w) X.A (f v u) Q X.xe s₂) X.xe s₁) X.xe s:=by
 refine aJ (ha pins s σ H _ I h) fun v s1 ⟨x,H1,I1,r1,q1⟩=>?_
 refine aJ (hb pins s1 σ H1 _ I1 q1) fun u s2 ⟨y,H2,I2,r2,q2⟩=>?_
 exact hf v u s2 x y H2 I2 r1 r2 q2
theorem ak1 {op:Operator}{r:R2} (ho:cD X (binaryOp op) r) (ha:PE X a ta) (hb:PE X b tb):PE X (.BinOp a op b pos) (nN r ta tb):=by
 intro pins s σ H Q I h
 exact wpAny_BinOp (tU ha hb I h fun v u s2 x y H2 I2 rx ry q=>ho pins s2 σ H2 x y v u Q I2 rx ry q)
theorem ak2 {op:UnaryOp}{r:V->Hp->VK->Prop} (ho:tT X (unaryOp op) r) (ha:PE X a ta):PE X (.UnaryOp op a pos) (tUn r ta):=by
 intro pins s σ H Q I h
 exact UnaryOp_ (aJ (ha pins s σ H _ I h) fun v s1 ⟨x,H1,I1,r1,q1⟩=>ho pins s1 σ H1 x v Q I1 r1 q1)
theorem nO {f:Value->Value->Sem Value}{C:Int->Int->Prop}{g:Int->Int->Int}
  (rule:∀ (i j:Int) (t u:Tok) (s:Shared) (Q:Value->Shared->Prop) (E:Value->Shared->Prop),C i j->Q (.int (g i j) s.toks) { s with toks:=s.toks+1 }->wpAny (model X.prog X.w) X.A (f (.int i t) (.int j u)) Q E s) :
  cD X f (rI C fun i j=>.int (g i j)):=by
 intro pins s σ H x y v u Q I rx ry h
 obtain ⟨i,j,rfl,rfl,hc,q⟩:=h
 obtain ⟨t,rfl⟩:=rx
 obtain ⟨t',rfl⟩:=ry
 exact rule i j t t' s _ _ hc ⟨.int (g i j),H,I.tok _,⟨_,rfl⟩,q⟩
theorem yT {f:Value->Value->Sem Value}{g:Int->Int->Int}
  (rule:∀ (i j:Int) (t u:Tok) (s:Shared) (Q:Value->Shared->Prop) (E:Value->Shared->Prop),Q (.int (g i j) s.toks) { s with toks:=s.toks+1 }->wpAny (model X.prog X.w) X.A (f (.int i t) (.int j u)) Q E s) :
  cD X f (iO fun i j=>.int (g i j)):=by
 intro pins s σ H x y v u Q I rx ry h
 obtain ⟨i,j,rfl,rfl,q⟩:=h
 obtain ⟨t,rfl⟩:=rx
 obtain ⟨t',rfl⟩:=ry
 exact rule i j t t' s _ _ ⟨.int (g i j),H,I.tok _,⟨_,rfl⟩,q⟩
theorem tV {f:Value->Value->Sem Value}{g:Int->Int->Bool}
  (rule:∀ (i j:Int) (t u:Tok) (s:Shared) (Q:Value->Shared->Prop) (E:Value->Shared->Prop),Q (.bool (g i j)) s->wpAny (model X.prog X.w) X.A (f (.int i t) (.int j u)) Q E s) :
  cD X f (iO fun i j=>.bl (g i j)):=by
 intro pins s σ H x y v u Q I rx ry h
 obtain ⟨i,j,rfl,rfl,q⟩:=h
 obtain ⟨t,rfl⟩:=rx
 obtain ⟨t',rfl⟩:=ry
 exact rule i j t t' s _ _ ⟨.bl (g i j),H,I,rfl,q⟩
def tW (i j:Int):Prop:=0 < j/\j < 1073741824
def tX (i j:Int):Prop:=0<=j/\j<=1000000/\i.natAbs < 2 ^ 64
def nP (i j:Int):Prop:=(-(2 ^ 64) < i/\i < 2 ^ 64) ∨ (-(2 ^ 64) < j/\j < 2 ^ 64)
theorem nP.ok {i j:Int} (h:nP i j):IntMulOk i j:=by
 rcases h with ⟨h1,h2⟩ | ⟨h1,h2⟩
 ·exact .of_left (intBits_le_64 h1 h2)
 ·exact .of_right (intBits_le_64 h1 h2)
theorem ak3 (k:Nat):(0:Int)<=2 ^ k:=by
 rw [two_pow_cast]
 exact Int.natCast_nonneg _
theorem ak4:cD X (binaryOp .Add) (iO fun i j=>.int (i+j)):=yT fun _ _ _ _ _ _ _ q=>add_int q
theorem ak5:cD X (binaryOp .Sub) (iO fun i j=>.int (i - j)):=yT fun _ _ _ _ _ _ _ q=>sub_int q
theorem ak6:cD X (binaryOp .Mult) (rI nP fun i j=>.int (i * j)):=nO fun _ _ _ _ _ _ _ hc q=>mul_int q hc.ok
theorem ak7:cD X (binaryOp .FloorDiv) (rI tW fun i j=>.int (i / j)):=nO fun i j _ _ _ _ _ hc q=>by
 have h1:(0:Int) < j:=hc.1
 have h2:j < 1073741824:=hc.2
 exact floordiv_int (by omega) (by rw [Int.fdiv_eq_ediv_of_nonneg i (by omega)]; exact q) (.inl (PyProof.noPylong_small (by omega)))
theorem ak8:cD X (binaryOp .Mod) (rI (fun _ j=>0 < j) fun i j=>.int (i % j)):=nO fun i j _ _ _ _ _ hc q=>by
 have h1:(0:Int) < j:=hc
 exact mod_int' (by omega) (by rw [Int.fmod_eq_emod_of_nonneg i (by omega)]; exact q)
theorem ak9:cD X (binaryOp .Pow) (rI tX fun i j=>.int (i ^ j.toNat)):=nO fun _ _ _ _ _ _ _ hc q=>pow_int_small hc.1 hc.2.1 hc.2.2 q
theorem al0:cD X (binaryOp .RShift) (rI (fun _ j=>0<=j) fun i j=>.int (i / 2 ^ j.toNat)):=nO fun i j _ _ _ _ _ hc q=>
 rshift_int hc (by rw [Int.fdiv_eq_ediv_of_nonneg i (ak3 _)]; exact q)
theorem unI {f:Value->Sem Value}{g:Int->Int}
  (rule:∀ (i:Int) (t:Tok) (s:Shared) (Q:Value->Shared->Prop) (E:Value->Shared->Prop),Q (.int (g i) s.toks) { s with toks:=s.toks+1 }->wpAny (model X.prog X.w) X.A (f (.int i t)) Q E s) :
  tT X f (rU fun i=>.int (g i)):=by
 intro pins s σ H x v Q I rx h
 obtain ⟨i,rfl,q⟩:=h
 obtain ⟨t,rfl⟩:=rx
 exact rule i t s _ _ ⟨.int (g i),H,I.tok _,⟨_,rfl⟩,q⟩
theorem al1:tT X (unaryOp .USub) (rU fun i=>.int (-i)):=unI fun _ _ _ _ _ q=>neg_int q
end
def yU:V->V->Bool
 | .non,.non=>true | .non,.int _=>true | .int _,.non=>true | .non,.bl _=>true | .bl _,.non=>true | .non,.str _=>true | .str _,.non=>true
 | .int _,.int _=>true | .bl _,.bl _=>true | .str _,.str _=>true | .byt _,.byt _=>true
 | .int _,.str _=>true | .str _,.int _=>true | .bl _,.str _=>true | .str _,.bl _=>true
 | _,_=>false
def yV:R2:=fun x y H Q=>yU x y=true/\Q (.bl (decide (x=y))) H
def pK:R2:=fun x y H Q=>yU x y=true/\Q (.bl (!decide (x=y))) H
theorem yW {i j:Int}:decide (V.int i=V.int j)=(i == j):=by
 rw [bp4]
 simp
theorem yX {i j:Bool}:decide (V.bl i=V.bl j)=(i == j):=by
 rw [bp4]
 simp
theorem yY {i j:Str}:decide (V.str i=V.str j)=(i == j):=by
 rw [bp4]
 simp
theorem yZ {i j:Array UInt8}:decide (V.byt i=V.byt j)=(i.toList == j.toList):=by
 rw [bp4]
 cases i
 cases j
 simp
section
variable {X : Cx} {a b c : Expr} {ta tb tc : TE} {pos : Pos}
theorem bR {pins:List (Addr × Obj)}{σ:St}{H:Hp}{s:Shared}{Q:VK}{k k':Bool} (I:a7 X pins σ H s) (q:Q (.bl k) H) (e:k=k'):EP X pins σ Q (.bool k') s:=by
 subst e
 exact⟨.bl k,H,I,rfl,q⟩
theorem z9:cD X (compareOp .Eq) yV:=by
 intro pins s σ H x y v u Q I rx ry h
 obtain ⟨hs,q⟩:=h
 cases x with
 | non=>
  cases rx
  cases y with
  | non=>cases ry; exact PySem.EqNone.eq_none_none (bR I q (by simp))
  | bl j=>cases ry; exact PySem.EqNone.eq_none_bool (bR I q (by simp))
  | int j=>obtain ⟨t',rfl⟩:=ry; exact PySem.EqNone.eq_none_int (bR I q (by simp))
  | str j=>obtain ⟨t',rfl⟩:=ry; exact PySem.EqNone.eq_none_str (bR I q (by simp))
  | _=>exact absurd (show false=true from hs) bh8
 | bl i=>
  cases rx
  cases y with
  | non=>cases ry; exact PySem.EqNone.eq_bool_none (bR I q (by simp))
  | bl j=>cases ry; exact eq_bool (bR I q yX)
  | str j=>obtain ⟨t',rfl⟩:=ry; exact PySem.EqMixed.eq_bool_str (bR I q (by simp))
  | _=>exact absurd (show false=true from hs) bh8
 | int i=>
  obtain ⟨t,rfl⟩:=rx
  cases y with
  | non=>cases ry; exact PySem.EqNone.eq_int_none (bR I q (by simp))
  | int j=>obtain ⟨t',rfl⟩:=ry; exact eq_int (bR I q yW)
  | str j=>obtain ⟨t',rfl⟩:=ry; exact PySem.EqMixed.eq_int_str (bR I q (by simp))
  | _=>exact absurd (show false=true from hs) bh8
 | str i=>
  obtain ⟨t,rfl⟩:=rx
  cases y with
  | non=>cases ry; exact PySem.EqNone.eq_str_none (bR I q (by simp))
  | bl j=>cases ry; exact PySem.EqMixed.eq_str_bool (bR I q (by simp))
  | int j=>obtain ⟨t',rfl⟩:=ry; exact PySem.EqMixed.eq_str_int (bR I q (by simp))
  | str j=>obtain ⟨t',rfl⟩:=ry; exact eq_str (bR I q yY)
  | _=>exact absurd (show false=true from hs) bh8
 | byt i=>
  obtain ⟨t,rfl⟩:=rx
  cases y with
  | byt j=>obtain ⟨t',rfl⟩:=ry; exact PySem.W.eq_bytes (bR I q yZ)
  | _=>exact absurd (show false=true from hs) bh8
 | _=>cases y <;> exact absurd (show false=true from hs) bh8
theorem zA:cD X (compareOp .NotEq) pK:=by
 intro pins s σ H x y v u Q I rx ry h
 obtain ⟨hs,q⟩:=h
 cases x with
 | non=>
  cases rx
  cases y with
  | non=>cases ry; exact PySem.EqNone.ne_none_none (bR I q (by simp))
  | bl j=>cases ry; exact PySem.EqNone.ne_none_bool (bR I q (by simp))
  | int j=>obtain ⟨t',rfl⟩:=ry; exact PySem.EqNone.ne_none_int (bR I q (by simp))
  | str j=>obtain ⟨t',rfl⟩:=ry; exact PySem.EqNone.ne_none_str (bR I q (by simp))
  | _=>exact absurd (show false=true from hs) bh8
 | bl i=>
  cases rx
  cases y with
  | non=>cases ry; exact PySem.EqNone.ne_bool_none (bR I q (by simp))
  | bl j=>cases ry; exact ne_bool (bR I q (congrArg not yX))
  | str j=>obtain ⟨t',rfl⟩:=ry; exact PySem.EqMixed.ne_bool_str (bR I q (by simp))
  | _=>exact absurd (show false=true from hs) bh8
 | int i=>
  obtain ⟨t,rfl⟩:=rx
  cases y with
  | non=>cases ry; exact PySem.EqNone.ne_int_none (bR I q (by simp))
  | int j=>obtain ⟨t',rfl⟩:=ry; exact ne_int (bR I q (congrArg not yW))
  | str j=>obtain ⟨t',rfl⟩:=ry; exact PySem.EqMixed.ne_int_str (bR I q (by simp))
  | _=>exact absurd (show false=true from hs) bh8
 | str i=>
  obtain ⟨t,rfl⟩:=rx
  cases y with
  | non=>cases ry; exact PySem.EqNone.ne_str_none (bR I q (by simp))
  | bl j=>cases ry; exact PySem.EqMixed.ne_str_bool (bR I q (by simp))
  | int j=>obtain ⟨t',rfl⟩:=ry; exact PySem.EqMixed.ne_str_int (bR I q (by simp))
  | str j=>obtain ⟨t',rfl⟩:=ry; exact ne_str (bR I q (congrArg not yY))
  | _=>exact absurd (show false=true from hs) bh8
 | byt i=>
  obtain ⟨t,rfl⟩:=rx
  cases y with
  | byt j=>obtain ⟨t',rfl⟩:=ry; exact PySem.W.ne_bytes (bR I q (congrArg not yZ))
  | _=>exact absurd (show false=true from hs) bh8
 | _=>cases y <;> exact absurd (show false=true from hs) bh8
theorem pL:cD X (compareOp .Lt) (iO fun i j=>.bl (decide (i < j))):=tV fun _ _ _ _ _ _ _ q=>lt_int q
theorem zB:cD X (compareOp .Gt) (iO fun i j=>.bl (decide (j < i))):=tV fun _ _ _ _ _ _ _ q=>gt_int q
theorem zC:cD X (compareOp .GtE) (iO fun i j=>.bl (decide (j<=i))):=tV fun _ _ _ _ _ _ _ q=>ge_int q
theorem zD:cD X (compareOp .Is) (fun x y H Q=>y = .non/\Q (.bl (decide (x = .non))) H):=by
 intro pins s σ H x y v u Q I rx ry h
 obtain ⟨rfl,q⟩:=h
 cases ry
 refine is_none_gen (bR I q ?_)
 cases x <;> first
  | (cases rx; rfl)
  | (obtain ⟨t,rfl⟩:=rx; rfl)
theorem al2:cD X (compareOp .IsNot) (fun x y H Q=>y = .non/\Q (.bl (!decide (x = .non))) H):=by
 intro pins s σ H x y v u Q I rx ry h
 obtain ⟨rfl,q⟩:=h
 cases ry
 refine isnot_none_gen (bR I q ?_)
 cases x <;> first
  | (cases rx; rfl)
  | (obtain ⟨t,rfl⟩:=rx; rfl)
theorem dL (b:Expr) {op:CmpOp} (h:op ≠ .In:=by decide) (h2:op ≠ .NotIn:=by decide):behindInMarks op b=false:=by
 have e1:(op == CmpOp.In)=false:=by cases op <;> first | rfl | exact absurd rfl h
 have e2:(op == CmpOp.NotIn)=false:=by cases op <;> first | rfl | exact absurd rfl h2
 cases b <;> simp [behindInMarks,e1,e2]
theorem tY {op:CmpOp}{r:R2} (ho:cD X (compareOp op) r) (ha:PE X a ta) (hb:PE X b tb) (hm:behindInMarks op b=false):PE X (.Compare a [op] [b] pos) (nN r ta tb):=by
 intro pins s σ H Q I h
 exact wpAny_Compare1 (tU ha hb I h fun v u s2 x y H2 I2 rx ry q=>ho pins s2 σ H2 x y v u Q I2 rx ry q) hm
def al3 (t:TE):TT:=fun σ H Q=>t σ H fun x H'=>∃ k,x = .bl k/\Q k H'
theorem al4 {op:CmpOp}{r:R2} (ho:cD X (compareOp op) r) (ha:PE X a ta) (hb:PE X b tb) (hm:behindInMarks op b=false):PT X (.Compare a [op] [b] pos) (al3 (nN r ta tb)):=by
 intro pins s σ H Q I h
 refine wpAny_isTrue_Compare1 (aJ (ha pins s σ H _ I h) fun v s1 ⟨x,H1,I1,r1,q1⟩=>aJ (hb pins s1 σ H1 _ I1 q1) fun u s2 ⟨y,H2,I2,r2,q2⟩=>
  aJ (ho pins s2 σ H2 x y v u _ I2 r1 r2 q2) fun c s3 ⟨z,H3,I3,r3,k,e,q3⟩=>?_) hm
 subst e
 cases r3
 exact bs8 ⟨H3,I3,q3⟩
def nQ (K:PySem.W.Frag) (x:V) (H:Hp) (k:Bool):Prop:=
 match x with
 | .non=>k=false
 | .bl b=>k=b
 | .int i=>k=(i != 0)
 | .str y=>y.length<=sizeLine/\k=((y.length:Int) != 0)
 | .byt y=>y.size<=sizeLine/\k=((y.size:Int) != 0)
 | .ref p=>(∃ xs,aN K H p xs/\k = !xs.isEmpty) ∨ (∃ xs,aL K H p xs/\k = !xs.isEmpty) ∨ ∃ kvs,H p=some (.dK kvs)/\k = !kvs.isEmpty
 | _=>False
theorem al5 {κ:Type}{kvs:List (κ × V)}{vs:List (κ × Value)} (r:KV kvs vs):(!vs.isEmpty) = !kvs.isEmpty:=by
 cases r <;> rfl
theorem zE {xs:List V}{its:List Value} (r:aI xs its):(!its.toArray.isEmpty) = !xs.isEmpty:=by
 cases r <;> simp
theorem lK:(sizeLine:Nat) < 2 ^ 63:=by rw [sizeLine_eq]; decide
theorem zF:ak0 X (fun x H Q=>∃ k,nQ X.K x H k/\Q k H):=by
 intro pins s σ H x v Q I rx h
 obtain ⟨k,e,q⟩:=h
 have hl:=lK
 have hs:sizeLine=16777216:=sizeLine_eq
 cases x with
 | non=>
  cases rx
  have e':k=false:=e
  subst e'
  exact truthy_none ⟨H,I,q⟩
 | bl b=>
  cases rx
  have e':k=b:=e
  subst e'
  exact bs8 ⟨H,I,q⟩
 | int i=>
  obtain ⟨t,rfl⟩:=rx
  have e':k=(i != 0):=e
  subst e'
  exact PySem.P.truthy_int ⟨H,I,q⟩
 | str y=>
  obtain ⟨t,rfl⟩:=rx
  obtain ⟨hy,e'⟩:y.length<=sizeLine/\k=((y.length:Int) != 0):=e
  subst e'
  exact PySem.P.truthy_str (by omega) ⟨H,I.tok _,q⟩
 | byt y=>
  obtain ⟨t,rfl⟩:=rx
  obtain ⟨hy,e'⟩:y.size<=sizeLine/\k=((y.size:Int) != 0):=e
  subst e'
  exact PySem.W.truthy_bytes (by omega) ⟨H,I.tok _,q⟩
 | ref p=>
  cases rx
  have e':(∃ xs,aN X.K H p xs/\k = !xs.isEmpty) ∨ (∃ xs,aL X.K H p xs/\k = !xs.isEmpty) ∨ ∃ kvs,H p=some (.dK kvs)/\k = !kvs.isEmpty:=e
  rcases e' with ⟨xs,hx,e'⟩ | ⟨xs,hx,e'⟩ | ⟨kvs,hx,e'⟩
  ·subst e'
   obtain ⟨its,r,pl,hz⟩:=I.list hx
   have hlen:=r.length
   exact wpAny_truthy_list pl.isList (by simp only [bg0]; omega) ⟨H,I.tok _,by rw [zE r]; exact q⟩
  ·subst e'
   obtain ⟨its,r,pl,hz⟩:=I.tuple hx
   have hlen:=r.length
   exact truthy_tuple pl (by simp only [bg0]; omega) ⟨H,I.tok _,by rw [zE r]; exact q⟩
  ·subst e'
   obtain ⟨hz,hS,vs,r,m⟩:kvs.length<=sizeLine/\(p == sysModules)=false/\∃ vs,KV kvs vs/\s.heap.DictOf (e9 X.prog X.w) p vs:=I.hok p _ hx
   have hlen:kvs.length=vs.length:=Paired.length r
   exact wpAny_truthy_dict hS m (by omega) ⟨H,I.tok _,by rw [al5 r]; exact q⟩
 | _=>exact (show False from e).elim
theorem al6 (ha:PE X a ta) (he:∀ whole,isTrue a X.env whole=(do let v <- whole; standAt a.pos; holding [v] (truthy v))) :
  PT X a (fun σ H Q=>ta σ H fun x H'=>∃ k,nQ X.K x H' k/\Q k H'):=by
 intro pins s σ H Q I h
 exact isTrue_plain (aJ (ha pins s σ H _ I h) fun v s1 ⟨x,H1,I1,r1,q1⟩=>zF pins s1 σ H1 x v Q I1 r1 q1) (he _)
theorem gP {x:V}{us:List Value} (r:aI [x] us):∃ u,us = [u]/\aU x u:=by
 cases r with
 | cons r1 r2=>cases r2; exact⟨_,rfl,r1⟩
theorem nR {x y:V}{us:List Value} (r:aI [x,y] us):∃ u w',us = [u,w']/\aU x u/\aU y w':=by
 cases r with
 | cons r1 r2=>
  cases r2 with
  | cons r3 r4=>cases r4; exact⟨_,_,rfl,r1,r3⟩
theorem al7 (hc:X.calm=true):cS X (.builtin "max") (fun xs H Q=>∃ i j,xs = [.int i,.int j]/\Q (.int (if j > i then j else i)) H):=by
 intro pins s σ H xs us Q I r h
 obtain ⟨i,j,rfl,q⟩:=h
 obtain ⟨u,w',rfl,⟨t,rfl⟩,⟨t',rfl⟩⟩:=nR r
 refine max_two_ints (I.ok.hd hc) fun h' tk k=>⟨_,H,I.kept k,?_,q⟩
 by_cases hj:j > i
 ·rw [if_pos hj,if_pos hj]; exact⟨_,rfl⟩
 ·rw [if_neg hj,if_neg hj]; exact⟨_,rfl⟩
theorem al8 (hc:X.calm=true):cS X (.builtin "min") (fun xs H Q=>∃ i j,xs = [.int i,.int j]/\Q (.int (if j < i then j else i)) H):=by
 intro pins s σ H xs us Q I r h
 obtain ⟨i,j,rfl,q⟩:=h
 obtain ⟨u,w',rfl,⟨t,rfl⟩,⟨t',rfl⟩⟩:=nR r
 refine min_two_ints (I.ok.hd hc) fun h' tk k=>⟨_,H,I.kept k,?_,q⟩
 by_cases hj:j < i
 ·rw [if_pos hj,if_pos hj]; exact⟨_,rfl⟩
 ·rw [if_neg hj,if_neg hj]; exact⟨_,rfl⟩
end
structure tZ (h:Heap) (x dx C:Addr) (mA:Str->Option Value):Prop where
 obj:h.get? x=some (PySem.W.instObj C dx)
 ns:h.Ns1 dx mA
 ne:dx ≠ x
theorem al9 {h:Heap}{dx:Addr}{mA:Str->Option Value} (n:h.Ns1 dx mA):∃ od,h.get? dx=some od/\∀ name,PySem.W.lookIn name od=some (mA name):=by
 obtain ⟨o,es,ep,ho,hd,hk,_,hm⟩:=n
 refine⟨o,ho,fun name=>?_⟩
 have e:=hm name
 unfold nsFind findBy at e
 rw [<- Array.find?_toList] at e
 unfold PySem.W.lookIn
 rw [hd]
 dsimp only
 split
 ·rename_i y q
  rw [q] at e
  exact congrArg some e
 ·rename_i q
  rw [q] at e
  have a:es.toList.any (·.refKey)=false:=by
   rw [List.any_eq_false]
   intro y hy
   obtain ⟨z,t,hkey⟩:=hk y (Array.mem_toList_iff.mp hy)
   simp [DictEntry.refKey,hkey]
  have a' : ¬ es.toList.any (·.refKey)=true:=by rw [a]; exact bh8
  rw [if_neg a']
  exact congrArg some e
theorem tZ.look {h:Heap}{x dx C:Addr}{mA:Str->Option Value} (I:tZ h x dx C mA):∃ od,PySem.W.InstAt h x (PySem.W.instObj C dx) C (some od)/\∀ name,PySem.W.lookIn name od=some (mA name):=
 let ⟨od,ho,hl⟩:=al9 I.ns
 ⟨od,⟨I.obj,rfl,rfl,ho⟩,hl⟩
section
variable {P : Program} {w : World} {H H' : Hp} {h h' : Heap} {a C dx : Addr} {fs fs' : List (Str × V)}
theorem am0 (hok:bN P w H h) (e:H a=some (.ins C dx fs)):∃ mA,tZ h a dx C mA/\(∀ f,k9 (fs.lookup f) (mA f))/\PySem.Within mA (fs.map (·.1))/\fs.length<=1000/\H dx=some (.own a):=by
 obtain ⟨d,z,ne,ob,mA,n,r,q⟩:=(show bH P w H h a (.ins C dx fs) from hok a _ e)
 exact⟨mA,⟨ob,n,ne⟩,r,q,z,d⟩
end
structure u5 (K:PySem.W.Frag) (C:Addr):Prop where
 pg:PySem.W.plainGet K C Str.empty=true
 hd:PySem.W.hasDictIn K C=true
 po:PySem.W.plainOver K C=true
 sa:PySem.W.findIn K (.ref C) "__setattr__" = some (some (.builtin "object.__setattr__"))
theorem u5.get {K:PySem.W.Frag}{C:Addr} (c:u5 K C) (f:Str):PySem.W.plainGet K C f=true:=c.pg
section
variable {X : Cx} {pins : List (Addr × Obj)} {σ : St} {H : Hp} {s : Shared} {A : Around} {E : Value → Shared → Prop} {Q : Value → Shared → Prop} {c : Value} {b : Bool}
inductive fA (K:PySem.W.Frag) (H:Hp):V->Value->Prop where
 | non:fA K H .non (.type "NoneType")
 | bl (x:Bool):fA K H (.bl x) (.type "bool")
 | int (i:Int):fA K H (.int i) (.type "int")
 | str (x:Str):fA K H (.str x) (.type "str")
 | flt (x:UInt64):fA K H (.flt x) (.type "float")
 | lst {a:Addr}{xs:List V} (e:H a=some (.lst xs)):fA K H (.ref a) (.type "list")
 | frz {a:Addr}{o:Obj}{xs:List V} (e:H a=some (.frz o (.lst xs))):fA K H (.ref a) (.type "list")
 | tup {a:Addr}{xs:List V} (e:H a=some (.tup xs)):fA K H (.ref a) (.type "tuple")
 | dK {a:Addr}{kvs:List (aA × V)} (e:H a=some (.dK kvs)):fA K H (.ref a) (.type "dict")
 | dT {a:Addr}{kvs:List (List aA × V)} (e:H a=some (.dT kvs)):fA K H (.ref a) (.type "dict")
 | ins {a C dx:Addr}{fs:List (Str × V)} (e:H a=some (.ins C dx fs)) (cl:u5 K C) (ha:PySem.W.findIn K (.ref C) "__class__" = some (some (.builtin "object.__class__")))
   (hn:PySem.W.specialIn K (.builtin "object.__class__") "__get__" = some (some (.builtin "getset_descriptor.__get__"))) (htk:PySem.W.takesIn K (.builtin "object.__class__")=some true)
   (hm:PySem.W.mroIn K C (.type "object")=some true):fA K H (.ref a) (.ref C)
theorem am1 {x:V}{u t:Value} (I:a7 X pins σ H s) (rx:aU x u) (ty:fA X.K H x t) (e:PySem.W.kitOne X.K t c=some b) (h:∀ tk,Q (.bool b) { s with toks:=tk }) :
  wpAny (model X.prog X.w) A (call (.builtin "isinstance") [u,c]) Q E s:=by
 cases ty with
 | non=>cases (show u=Value.none from rx); exact bn3 PySem.W.kitx_none I.kIn bv8 e (fun z=>nomatch z) h
 | bl y=>cases (show u=Value.bool y from rx); exact bn3 PySem.W.kitx_bool I.kIn bv8 e (fun z=>nomatch z) h
 | int i=>obtain ⟨t,q⟩:=(show ∃ t,u=Value.int i t from rx); cases q; exact bn3 PySem.W.kitx_int I.kIn bv8 e (fun z=>nomatch z) h
 | str y=>obtain ⟨t,q⟩:=(show ∃ t,u=Value.str y t from rx); cases q; exact bn3 PySem.W.kitx_str I.kIn bv8 e (fun z=>nomatch z) h
 | flt y=>obtain ⟨t,q⟩:=(show ∃ t,u=Value.float y t from rx); cases q; exact bn3 PySem.W.kitx_float I.kIn bv8 e (fun z=>nomatch z) h
 | @lst a xs ea=>
  cases (show u=Value.ref a from rx)
  obtain ⟨_,_,n,_,h1⟩:=(show bH X.prog X.w H s.heap a (.lst xs) from I.hok a _ ea)
  exact bn3 PySem.W.kitx_list I.kIn ⟨_,h1,rfl⟩ e (fun z=>nomatch z) h
 | @frz a ob xs ea=>
  cases (show u=Value.ref a from rx)
  obtain ⟨_,_,_,n,_,h1⟩:=(show bH X.prog X.w H s.heap a (.frz ob (.lst xs)) from I.hok a _ ea)
  exact bn3 PySem.W.kitx_list I.kIn ⟨_,h1,rfl⟩ e (fun z=>nomatch z) h
 | @tup a xs ea=>
  cases (show u=Value.ref a from rx)
  obtain ⟨_,_,_,p⟩:=(show bH X.prog X.w H s.heap a (.tup xs) from I.hok a _ ea)
  obtain ⟨o,h1,h2,_⟩:=p
  exact bn3 PySem.W.kitx_tuple I.kIn ⟨o,h1,h2⟩ e (fun z=>nomatch z) h
 | @dK a kvs ea=>
  cases (show u=Value.ref a from rx)
  obtain ⟨_,_,vs,_,p⟩:=(show bH X.prog X.w H s.heap a (.dK kvs) from I.hok a _ ea)
  obtain ⟨o,es,ep,h1,h2,_⟩:=p
  exact bn3 PySem.W.kitx_dict I.kIn ⟨o,h1,h2.1⟩ e (fun z=>nomatch z) h
 | @dT a kvs ea=>
  cases (show u=Value.ref a from rx)
  obtain ⟨_,_,xs,_,o,es,ep,h1,h2,_⟩:=(show bH X.prog X.w H s.heap a (.dT kvs) from I.hok a _ ea)
  exact bn3 PySem.W.kitx_dict I.kIn ⟨o,h1,h2.1⟩ e (fun z=>nomatch z) h
 | @ins a C dx fs ea cl ha hn htk hm=>
  cases (show u=Value.ref a from rx)
  obtain ⟨mA,O,_⟩:=am0 I.hok ea
  obtain ⟨od,J,_⟩:=O.look
  exact bn3 (PySem.W.kitx_own (cl.get _) cl.hd ha hn htk hm) I.kIn J e (fun z=>nomatch z) h
end
structure bS (k:Nat) (A:Around):Prop where
 hd:A.handled=none
 dp:A.depth+3 * k+5 < recursionLimit
 un:A.units+16 * k+200 < cLine
theorem bS.mono {j k:Nat}{A:Around} (r:bS k A) (h:j<=k):bS j A:=⟨r.hd,by have:=r.dp; omega,by have:=r.un; omega⟩
theorem bS.deeper {k:Nat}{A:Around} (r:bS (k+1) A) (env:Env):bS k (A.deeper env):=
 ⟨r.hd,by have:=r.dp; show A.depth+1+3 * k+5 < _; omega,by have:=r.un; show A.units+3+16 * k+200 < _; omega⟩
theorem bS.depth {k:Nat}{A:Around} (r:bS k A):A.depth < recursionLimit:=by have:=r.dp; omega
theorem bS.units {k:Nat}{A:Around} (r:bS k A):A.units+64 < cLine:=by have:=r.un; omega
def kC:TA:=fun _ H Q=>Q [] H
def iP (ta:TE) (tr:TA):TA:=fun σ H Q=>ta σ H fun x H1=>tr σ H1 fun xs H2=>Q (x :: xs) H2
section
variable {X : Cx} {e : Expr} {es : List Expr} {te : TE} {t : TA} {pos : Pos}
theorem dM:PA X [] kC:=fun _ _ _ _ H Q I h=>Calls.spliced_nil ⟨[],H,I,.nil,h⟩
theorem cV (ha:PE X e te) (hr:PA X es t) (hs:starEach (e :: es) X.env=(false,eval e X.env) :: starEach es X.env:=by rfl):PA X (e :: es) (iP te t):=by
 intro pos pins s σ H Q I h
 rw [hs]
 show wpAny _ _ (spliced ((false,eval e X.env) :: backTo pos (starEach es X.env))) _ _ s
 refine Calls.spliced_cons (aJ (ha pins s σ H _ I h) fun u s1 ⟨x,H1,I1,r1,q1⟩=>?_)
 exact aJ (hr pos pins s1 σ H1 _ I1 q1) fun us s2 ⟨xs,H2,I2,r2,q2⟩=>⟨x :: xs,H2,I2,.cons r1 r2,q2⟩
def u6 (t:TA):TE:=fun σ H Q=>t σ H fun xs H1=>xs.length<=sizeLine/\∀ p,H1 p=none->Q (.ref p) (upd H1 p (.tup xs))
def zG (t:TA):TE:=fun σ H Q=>t σ H fun xs H1=>xs.length<=sizeLine/\∀ p,H1 p=none->Q (.ref p) (upd H1 p (.lst xs))
theorem zH {x1} (h:PA X es t):PE X (.Tuple es x1 pos) (u6 t):=by
 intro pins s σ H Q I hq
 refine wpAny_Tuple_spliced (aJ (h pos pins s σ H _ I hq) fun us s1 ⟨xs,H1,I1,r,z,q⟩=>⟨by rw [<- r.length]; exact z,?_⟩)
 have hf:H1 s1.heap.objs.size=none:=I1.hok.fresh (bg1 _)
 refine⟨.ref s1.heap.objs.size,upd H1 s1.heap.objs.size (.tup xs),I1.laid (t':=s1.toks) (fun b u e=>bf7 _ e) (bg1 _) ?_,rfl,q _ hf⟩
 exact⟨z,us,r,⟨_,bg6 _ rfl,rfl,_,rfl⟩⟩
theorem zI (h:PA X es t):PE X (.List es pos) (zG t):=by
 intro pins s σ H Q I hq
 refine wpAny_List_spliced (aJ (h pos pins s σ H _ I hq) fun us s1 ⟨xs,H1,I1,r,z,q⟩=>⟨by rw [<- r.length]; exact z,?_⟩)
 have hf:H1 s1.heap.objs.size=none:=I1.hok.fresh (bg1 _)
 refine⟨.ref s1.heap.objs.size,upd H1 s1.heap.objs.size (.lst xs),I1.laid (t':=s1.toks) (fun b u e=>bf7 _ e) (bg1 _) ?_,rfl,q _ hf⟩
 exact⟨z,us,0,r,bg6 _ rfl⟩
end
abbrev Sp:=List V->Hp->VK->XK->Prop
abbrev fV:=List Env->Hp->Shared->XK->Value->Shared->Prop
structure pM (P:Program) (w:World) (K:PySem.W.Frag) (mg:Str->Option Value) (base:Heap) (A:Around) (outer:List Env) (s:Shared) (H:Hp):Prop where
 frames:A.frames=some outer
 mod:Mod K mg base
 bs:∀ b o,base.get? b=some o->s.heap.get? b=some o/\H b=none
 bsz:base.objs.size<=s.heap.objs.size
 funs:s.heap.FunFrames base outer
 frf:∀ b ∈ bL outer,H b=none
 hok:bN P w H s.heap
 bare:AllBare s.gens
def CE (outer:List Env) (P:Program) (w:World) (H:Hp) (s:Shared) (Q:VK) (u:Value) (s':Shared):Prop:=
 ∃ v H',s'.os=s.os/\AllBare s'.gens/\Un (bL outer) [] H H' s.heap s'.heap/\bN P w H' s'.heap/\aU v u/\Q v H'
def CR (CX:fV) (outer:List Env) (P:Program) (w:World) (H:Hp) (s:Shared) (Q:VK) (E:XK) (r:Result) (s':Shared):Prop:=
 match r with
 | .ok (.ret u)=>CE outer P w H s Q u s'
 | .ok _=>False
 | .error e=>CX outer H s E e s'
structure cT (P:Program) (w:World) (K:PySem.W.Frag) (mg:Str->Option Value) (base:Heap) (CX:fV) (k:Nat) (f:Addr) (fd:FuncData) (ps:List Str) (sp:Sp):Prop where
 len:∀ vs H Q E,sp vs H Q E->vs.length=ps.length
 run:∀ (A:Around) (outer:List Env) (s:Shared) (H:Hp) (args:Args) (us:List Value) (vs:List V) (Q:VK) (E:XK),bS k A->pM P w K mg base A outer s H->BindsTo s fd args (ps.zip us)->aI vs us->sp vs H Q E->
  codeAny (model P w) A (.call (.ref f) args) (CR CX outer P w H s Q E) s
theorem cT.imp {P:Program}{w:World}{K:PySem.W.Frag}{mg:Str->Option Value}{base:Heap}{CX:fV}{k:Nat}{f:Addr}{fd:FuncData}{ps:List Str}{sp sp':Sp} (F:cT P w K mg base CX k f fd ps sp)
  (h:∀ vs H Q E,sp' vs H Q E->sp vs H Q E):cT P w K mg base CX k f fd ps sp':=
 ⟨fun vs H Q E q=>F.len vs H Q E (h _ _ _ _ q),fun A outer s H args us vs Q E hr he hb hv hs=>F.run A outer s H args us vs Q E hr he hb hv (h _ _ _ _ hs)⟩
section
variable {X : Cx} {pins : List (Addr × Obj)} {σ : St} {H : Hp} {s s' : Shared}
theorem a7.env0 (I:a7 X pins σ H s):pM X.prog X.w X.K X.mg X.base X.A X.stack s H:=
 ⟨I.ok.frames,I.ok.mod,I.bs,bk0 I.ok.bsz I.sz,I.stack,I.stkFree,I.hok,I.bare⟩
theorem a7.after {Q:VK}{u:Value} (I:a7 X pins σ H s) (h:CE X.stack X.prog X.w H s Q u s'):EP X pins σ Q u s':=by
 obtain ⟨v,H',os,bare,un,hok,r,q⟩:=h
 obtain ⟨hh,g,d,t,os'⟩:=s'
 obtain rfl:os'=s.os:=os
 exact⟨v,H',I.call (h':=hh) (g':=g) (d':=d) (t':=t) (ch:=[]) un hok bare (fun b z=>absurd z (by simp)),r,q⟩
end
def u7 (sp:Sp) (dvs:List V) (E:XK) (t:TA):TE:=fun σ H Q=>t σ H fun vs H1=>sp (vs ++ dvs) H1 Q E
def gQ (K:PySem.W.Frag) (fd:FuncData) (ps:List Str) (ds:List Value):Prop:=
 ∀ (s:Shared) (us:List Value),K.In s.heap->(us ++ ds).length=ps.length->BindsTo s fd ⟨us,[]⟩ (ps.zip (us ++ ds))
theorem gQ.all {K:PySem.W.Frag}{fd:FuncData}{ps:List Str} (h:∀ us:List Value,us.length=ps.length->bindArgs fd ⟨us,[]⟩=pure (ps.zip us)):gQ K fd ps []:=fun s us _ hl=>by
 rw [bi9] at hl ⊢
 exact .of_eq (h us hl)
def nS (CX:fV) (X:Cx) (E:XK):Prop:=∀ (pins:List (Addr × Obj)) (σ:St) (H:Hp) (s:Shared) (e:Value) (s':Shared),a7 X pins σ H s->CX X.stack H s E e s'->X.xe e s'
section
variable {X : Cx} {CX : fV} {k : Nat} {f C : Addr} {fd : FuncData} {ps : List Str} {sp : Sp} {dvs : List V} {ds : List Value} {E : XK} {x m : Str} {p pos apos : Pos} {e o : Expr} {es : List Expr} {ta : TE} {t : TA}
theorem am2 {pins:List (Addr × Obj)}{σ:St}{H:Hp}{s:Shared}{Q:VK}{us:List Value}{vs:List V} (F:cT X.prog X.w X.K X.mg X.base CX k f fd ps sp) (hr:bS k X.A) (hb:gQ X.K fd ps ds) (hd:aI dvs ds) (hx:nS CX X E)
  (I:a7 X pins σ H s) (r:aI vs us) (h:sp (vs ++ dvs) H Q E):wpAny (model X.prog X.w) X.A (call (.ref f) us) (EP X pins σ Q) X.xe s:=by
 have r2:aI (vs ++ dvs) (us ++ ds):=r.append hd
 have hl:(us ++ ds).length=ps.length:=by rw [<- r2.length]; exact F.len _ _ _ _ h
 refine wpAny_call (codeAny_mono (F.run X.A X.stack s H ⟨us,[]⟩ (us ++ ds) (vs ++ dvs) Q E hr I.env0 (hb s us I.kIn hl) r2 h) fun r s' hq=>?_)
 cases r with
 | error e=>exact hx pins σ H s e s' I hq
 | ok fl=>
  cases fl with
  | ret u=>exact I.after hq
  | next=>exact False.elim hq
  | brk=>exact False.elim hq
  | cont=>exact False.elim hq
theorem pN (F:cT X.prog X.w X.K X.mg X.base CX k f fd ps sp) (hr:bS k X.A) (hg:Gl X x) (hm:X.mg x=some (.ref f)) (hk:PySem.W.keepIn X.K (.ref f)=true) (hb:gQ X.K fd ps ds) (hd:aI dvs ds) (hx:nS CX X E)
  (ha:PA X (e :: es) t) (hdb:(x == ("__debug__" : Str))=false:=by decide) (he:starEach (e :: es) X.env=(false,eval e X.env) :: starEach es X.env:=by rfl) (hpl:(backTo pos (starEach es X.env)).any (·.1)=false:=by rfl) :
  PE X (.Call (.Name x p) (e :: es) [] pos) (u7 sp dvs E t):=by
 intro pins s σ H Q I h
 refine wpAny_Call_Name_kw (nJ I hg hm ?_ hdb)
 refine PySem.W.callWith_K (h₀:=X.base) I.ok.mod.kin hk (aJ (ha pos pins s σ H _ I h) fun us s1 ⟨vs,H1,I1,r,q⟩=>⟨I1.kIn,?_⟩) he hpl
 exact am2 F hr hb hd hx I1 r q
end
def PK (X:Cx) (kws:List Keyword) (t:TA):Prop:=
 ∀ (pos:Pos) (pins:List (Addr × Obj)) (s:Shared) (σ:St) (H:Hp) (Q:List V->Hp->Prop),a7 X pins σ H s->t σ H Q->wpAny (model X.prog X.w) X.A (evalAll ((backToKw pos (keywordEach kws X.env)).map (·.2))) (AP X pins σ Q) X.xe s
structure FnScope (N P:List Str) (sc:Scope):Prop where
 kind:sc.kind = .function
 co:sc.isCoroutine=false
 gen:sc.isGenerator=false
 nd:N.Nodup
 pre:N.take P.length=P
 par:∀ x ∈ P,sc.names.lookup x=some .local ∨ sc.names.lookup x=some .cell
 nofree:∀ y ∈ sc.names,y.2 ≠ .free
theorem zJ {kindOf:Str->Option NameKind}{x:Str}:∀ {binds:List (Str × Value)}{m:Str->Option Value},(∀ v,(x,v) ∉ binds)->bindL kindOf binds m x=m x
 | [],_,_=>rfl
 | (n,v) :: r,m,h=>by
  unfold bindL
  rw [zJ fun w hw=>h w (bh5 _ hw)]
  split
  ·have:x ≠ n:=by rintro rfl; exact h v bg7
   simp [this]
  ·rfl
theorem zK {kindOf:Str->Option NameKind}{x:Str}:∀ {binds:List (Str × Value)}{m:Str->Option Value},(∀ v,(x,v) ∉ binds)->bindC kindOf binds m x=m x
 | [],_,_=>rfl
 | (n,v) :: r,m,h=>by
  unfold bindC
  rw [zK fun w hw=>h w (bh5 _ hw)]
  split
  ·rfl
  ·have:x ≠ n:=by rintro rfl; exact h v bg7
   simp [this]
theorem zL {kindOf:Str->Option NameKind}{x:Str}{v:Value}:∀ {P:List Str}{vs:List Value}{i:Nat}{m:Str->Option Value},P.Nodup->P[i]? = some x->vs[i]? = some v->kindOf x=some .local->
  bindL kindOf (P.zip vs) m x=some v
 | [],_,_,_,_,h,_,_=>by simp at h
 | _ :: _,[],_,_,_,_,h,_=>by simp at h
 | p :: P,w :: vs,0,m,nd,h1,h2,hk=>by
  simp at h1 h2; subst h1; subst h2
  show bindL kindOf ((p,w) :: P.zip vs) m p=_
  unfold bindL
  rw [zJ fun v hv=>(List.nodup_cons.mp nd).1 (List.of_mem_zip hv).1,if_pos hk]
  simp
 | p :: P,w :: vs,i+1,m,nd,h1,h2,hk=>by
  show bindL kindOf ((p,w) :: P.zip vs) m x=_
  unfold bindL
  exact zL (i:=i) (List.nodup_cons.mp nd).2 (by simpa using h1) (by simpa using h2) hk
theorem zM {kindOf:Str->Option NameKind}{x:Str}{v:Value}:∀ {P:List Str}{vs:List Value}{i:Nat}{m:Str->Option Value},P.Nodup->P[i]? = some x->vs[i]? = some v->kindOf x ≠ some .local->
  bindC kindOf (P.zip vs) m x=some v
 | [],_,_,_,_,h,_,_=>by simp at h
 | _ :: _,[],_,_,_,_,h,_=>by simp at h
 | p :: P,w :: vs,0,m,nd,h1,h2,hk=>by
  simp at h1 h2; subst h1; subst h2
  show bindC kindOf ((p,w) :: P.zip vs) m p=_
  unfold bindC
  rw [zK fun v hv=>(List.nodup_cons.mp nd).1 (List.of_mem_zip hv).1,if_neg hk]
  simp
 | p :: P,w :: vs,i+1,m,nd,h1,h2,hk=>by
  show bindC kindOf ((p,w) :: P.zip vs) m x=_
  unfold bindC
  exact zM (i:=i) (List.nodup_cons.mp nd).2 (by simpa using h1) (by simpa using h2) hk
def fW (N:List Str) (vs:List V):St:=vs.map some ++ List.replicate (N.length - vs.length) none
def cW (CX:fV) (P:Program) (w:World) (K:PySem.W.Frag) (mg:Str->Option Value) (base:Heap) (N:List Str) (qual:Str) (scope:Scope) (f:Addr) (cd:Value) (A:Around) (outer:List Env) (s:Shared) (H:Hp) (E:XK):Cx where
 prog:=P
 w:=w
 K:=K
 mg:=mg
 base:=base
 A:=A.deeper (envOfC qual scope s.heap.objs.size f cd)
 N:=N
 s₀:=s
 H₀:=H
 env:=envOfC qual scope s.heap.objs.size f cd
 outer:=outer
 stack:=envOfC qual scope s.heap.objs.size f cd :: outer
 ex:=[]
 calm:=true
 fn:=fun _=>true
 pn:=[]
 xe:=fun e s'=>wpAny (model P w) (A.deeper (envOfC qual scope s.heap.objs.size f cd)) (leaving (envOfC qual scope s.heap.objs.size f cd) e) (fun _ s''=>CX outer H s E e s'') (fun e' s''=>CX outer H s E e' s'') s'
theorem zN {sc:Scope}{n:Nat}{x:Str} (h:sc.names.lookup x=some .cell):∃ c,(cellsFrom n sc.names []).lookup x=some c:=by
 have q:=PySem.W.cellsFrom_some sc.names n [] (.inl h)
 exact Option.isSome_iff_exists.mp q
theorem am3 {CX:fV}{P:Program}{w:World}{K:PySem.W.Frag}{mg:Str->Option Value}{base:Heap}{N ps:List Str}{qual:Str}{scope:Scope}{f:Addr}{cd:Value}{A:Around}{outer:List Env}{s s1:Shared}{H:Hp}{E:XK}{us:List Value}{vs:List V}
  (S:FnScope N ps scope) (hd:A.handled=none) (e0:pM P w K mg base A outer s H) (hl:vs.length=ps.length) (r:aI vs us)
  (x:InCallC s s.heap.objs.size (bindL (envOfC qual scope s.heap.objs.size f cd).kindOf (ps.zip us) fun _=>none) (cellsFrom (s.heap.objs.size+1) scope.names []) (bindC (envOfC qual scope s.heap.objs.size f cd).kindOf (ps.zip us) fun _=>none) s1) :
  a7 (cW CX P w K mg base N qual scope f cd A outer s H E) [] (fW N vs) H s1:=by
 have hpl:ps.length<=N.length:=by have:=congrArg List.length S.pre; rw [bp0] at this; omega
 obtain ⟨h1,tk,rfl,hk⟩:=x.done
 have noA:∀ b:Addr,b ∉ (cW CX P w K mg base N qual scope f cd A outer s H E).ex:=fun b z=>absurd (show b ∈ ([]:List Addr) from z) (by simp)
 refine⟨⟨e0.mod,S.kind,rfl,rfl,bg1 _,fun y z c h1 h2=>?_,fun y hy=>?_,fun y c _ h=>?_,fun _=>hd,Around.frames_deeper e0.frames,.inr ⟨rfl,rfl⟩,fun b z=>absurd z (noA b),e0.bs,e0.bsz,fun b _ _=>noA b,fun b z=>absurd z (noA b),e0.funs,e0.frf⟩,
  rfl,e0.bare,Un.kept hk,⟨_,x.toInCall.ns,fun i y v h1 h2 h3=>?_⟩,fun y c h=>⟨_,x.cell y c h⟩,e0.hok.fresh (bg1 _),fun y c h=>?_,fun p hp=>absurd (show p ∈ ([]:List (Addr × Obj)) from hp) (by simp),e0.hok.kept hk,?_⟩
 ·exact name_of_addr x.apart (bm0 h1) (bm0 h2)
 ·have hy:scope.names.lookup y=some .cell ∨ scope.names.lookup y=some .free:=hy
  rcases hy with hy | hy
  ·exact zN hy
  ·exact absurd rfl (S.nofree _ (bm0 hy))
 ·exact bm3 (x.above y c (bm0 h))
 ·have hi:i < vs.length:=by
   unfold fW at h2
   by_cases hi:i < vs.length
   ·exact hi
   ·rw [bu3 (by simpa using hi)] at h2
    rw [List.getElem?_replicate] at h2
    split at h2 <;> cases h2
  have ha:vs[i]? = some v:=by
   unfold fW at h2
   rw [br7 (by simpa using hi),bh1] at h2
   cases e:vs[i]? with
   | none=>rw [e] at h2; cases h2
   | some a=>rw [e] at h2; cases h2; rfl
  obtain ⟨u,hu,rv⟩:=r.get ha
  have hp:ps[i]? = some y:=by
   rw [<- S.pre,List.getElem?_take_of_lt (by omega)]; exact h1
  have ndP:ps.Nodup:=by rw [<- S.pre]; exact S.nd.sublist (List.take_sublist _ _)
  refine⟨u,rv,?_⟩
  rcases S.par y (bk6 hp) with k | k
  ·exact .inl ⟨k,zL ndP hp hu k⟩
  ·obtain ⟨c,e⟩:=zN (n:=s.heap.objs.size+1) k
   refine .inr ⟨.inl k,c,e,?_⟩
   have q:=x.cell y c e
   rw [zM ndP hp hu (by show scope.names.lookup y ≠ _; rw [k]; decide)] at q
   exact q
 ·exact e0.hok.fresh (bm3 (x.above y c (bm0 h)))
 ·unfold fW
  show _=N.length
  rw [bh9,bg5,List.length_replicate]
  omega
theorem zO {CX:fV}{P:Program}{w:World}{K:PySem.W.Frag}{mg:Str->Option Value}{base:Heap}{k:Nat}{f:Addr}{name qual:Str}{params:Arguments}{body:List Stmt}{scope:Scope}{dV kV doc pm cdv ct oc:Value}{an od:Option Addr}
  {osl:Array (Option Value)}{N ps:List Str}{sp:Sp} (lk:K.lookup f=some ⟨oc,od,.func (PySem.W.fnOf name qual params body scope dV kV doc pm an cdv ct),osl⟩) (hcd:PySem.W.codeIn K cdv qual=true) (S:FnScope N ps scope)
  (len:∀ vs H Q E,sp vs H Q E->vs.length=ps.length)
  (hbody:∀ (A:Around) (outer:List Env) (s:Shared) (H:Hp) (vs:List V) (Q:VK) (E:XK),bS k (A.deeper (envOfC qual scope s.heap.objs.size f cdv))->sp vs H Q E->
   ∃ t,cU (cW CX P w K mg base N qual scope f cdv A outer s H E) body t/\t { nx:=fun _ H'=>Q .non H',rt:=Q } (fW N vs) H) :
  cT P w K mg base CX (k+1) f (PySem.W.fnOf name qual params body scope dV kV doc pm an cdv ct) ps sp:=by
 refine⟨len,fun A outer s H args us vs Q E hr e0 hb r hsp=>?_⟩
 have hl:=len _ _ _ _ hsp
 have KX:K.In s.heap:=e0.mod.kin.keeps fun b o e=>(e0.bs b o e).1
 have lim:s.heap.NoLimit:=e0.mod.nolimit.keeps fun b o e=>(e0.bs b o e).1
 have hkind:∀ y ∈ ps.zip us,scope.names.lookup y.1=some .local ∨ (scope.names.lookup y.1=some .cell/\((cellsFrom (s.heap.objs.size+1) scope.names []).lookup y.1).isSome=true):=fun ⟨n,v⟩ hy=>by
  rcases S.par n (List.of_mem_zip hy).1 with q | q
  ·exact .inl q
  ·exact .inr ⟨q,PySem.W.cellsFrom_some _ _ _ (.inl q)⟩
 refine codeAny_call_function hr.depth (KX _ _ lk) rfl S.co S.gen rfl (PySem.W.codeRec_of KX hcd) (hb _ _ _ _ ?_)
 refine wpAny_newFunctionEnv_cells S.kind hkind fun env he s1 x=>?_
 subst he
 refine⟨lim.keeps x.toInCall.keep,codeAny_func ?_⟩
 obtain ⟨t,ht,hq⟩:=hbody A outer s H vs Q E (hr.deeper _) hsp
 have I:a7 (cW CX P w K mg base N qual scope f cdv A outer s H E) [] (fW N vs) H s1:=am3 S hr.hd e0 hl r x
 refine bo4 (ht [] s1 (fW N vs) H _ I hq) (fun fl s' hs=>?_) fun e s' hs=>hs
 have fin:∀ {σ':St}{H':Hp}{v:V}{u:Value},a7 (cW CX P w K mg base N qual scope f cdv A outer s H E) [] σ' H' s'->aU v u->Q v H'->CE outer P w H s Q u s':=
  fun {σ' H' v u} J rv q=>⟨v,H',J.os,J.bare,J.base,J.hok,rv,q⟩
 cases fl with
 | ret u=>
  obtain ⟨v,σ',H',J,rv,q⟩:=hs
  exact fin J rv q
 | next=>
  obtain ⟨σ',H',J,q⟩:=hs
  exact fin (v:=V.non) (u:=Value.none) J rfl q
 | brk=>
  obtain ⟨_,_,_,q⟩:=hs
  exact False.elim q
 | cont=>
  obtain ⟨_,_,_,q⟩:=hs
  exact False.elim q
section
variable {X : Cx} {x : Str} {p pos : Pos} {e : Expr} {es : List Expr} {t : TA} {id T : String} {r : List V → Hp → VK → Prop}
def u8 (r:List V->Hp->VK->Prop) (t:TA):TE:=fun σ H Q=>t σ H fun vs H1=>r vs H1 Q
theorem lM (hc:cS X (.builtin id) r) (hg:Gl X x) (hm:X.mg x=none) (hv:bootBuiltins x=some (.builtin id)) (ha:PA X (e :: es) t) (hn:x ≠ "__name__":=by decide) (hdb:(x == ("__debug__" : Str))=false:=by decide)
  (he:starEach (e :: es) X.env=(false,eval e X.env) :: starEach es X.env:=by rfl) (hpl:(backTo pos (starEach es X.env)).any (·.1)=false:=by rfl):PE X (.Call (.Name x p) (e :: es) [] pos) (u8 r t):=by
 intro pins s σ H Q I h
 refine wpAny_Call_Name_kw (iN I hg hm hv ?_ hn hdb)
 exact PyProof.Rows.callWith_builtin1 (aJ (ha pos pins s σ H _ I h) fun us s1 ⟨vs,H1,I1,r1,q1⟩=>hc pins s1 σ H1 vs us Q I1 r1 q1) he hpl
theorem u9 (hc:cS X (.type T) r) (hg:Gl X x) (hm:X.mg x=none) (hv:bootBuiltins x=some (.type T)) (ha:PA X (e :: es) t) (hn:x ≠ "__name__":=by decide) (hdb:(x == ("__debug__" : Str))=false:=by decide)
  (he:starEach (e :: es) X.env=(false,eval e X.env) :: starEach es X.env:=by rfl) (hpl:(backTo pos (starEach es X.env)).any (·.1)=false:=by rfl):PE X (.Call (.Name x p) (e :: es) [] pos) (u8 r t):=by
 intro pins s σ H Q I h
 refine wpAny_Call_Name_kw (iN I hg hm hv ?_ hn hdb)
 exact bo0 (aJ (ha pos pins s σ H _ I h) fun us s1 ⟨vs,H1,I1,r1,q1⟩=>hc pins s1 σ H1 vs us Q I1 r1 q1) he hpl
end
end L2
namespace HT
open PySem PyProof.Rows
def i8:List Int->List Int->Bool
 | [],[]=>false
 | [],_ :: _=>true
 | _ :: _,[]=>false
 | x :: xs,y :: ys=>if x=y then i8 xs ys else decide (x < y)
theorem nT (x y:Int) (xs ys:List Int):i8 (x :: xs) (y :: ys)=if x=y then i8 xs ys else decide (x < y):=rfl
theorem am4:i8 [] []=false:=rfl
section
variable {prog : Program} {w : World} {A : Around} {E : Value → Shared → Prop} {s : Shared}
def aV (n d:Nat):Option Int->Nat
 | none=>d
 | some v=>if v < 0 then (v+(n:Int)).toNat else min v.toNat n
theorem zP (n d k:Nat):aV n d (some (k:Int))=min k n:=by
 show (if (k:Int) < 0 then ((k:Int)+(n:Int)).toNat else min (k:Int).toNat n)=min k n
 rw [if_neg (by omega),bs9]
theorem am5 (n d:Nat) (hd:d<=n) (o:Option Int):aV n d o<=n:=by
 cases o with
 | none=>exact hd
 | some v=>
  show (if v < 0 then (v+(n:Int)).toNat else min v.toNat n)<=n
  by_cases hv:v < 0
  ·rw [if_pos hv]; omega
  ·rw [if_neg hv]; exact Nat.min_le_right _ _
theorem zQ (v:Int) (n d:Nat):(if v < 0 then max (v+(n:Int)) 0 else min v (n:Int))=((aV n d (some v):Nat):Int):=by
 show (if v < 0 then max (v+(n:Int)) 0 else min v (n:Int))=(((if v < 0 then (v+(n:Int)).toNat else min v.toNat n):Nat):Int)
 by_cases hv:v < 0
 ·simp only [if_pos hv]; omega
 ·simp only [if_neg hv]; omega
theorem am6 (lo hi:Option Int) (n:Nat):Builtin.Slice.sliceAdjust lo hi 1 (n:Int)=(((aV n 0 lo:Nat):Int),((aV n n hi:Nat):Int)):=by
 have h1 : ¬ ((1:Int) < 0):=by omega
 unfold Builtin.Slice.sliceAdjust
 simp only [h1,bm6]
 refine Prod.ext ?_ ?_
 ·cases lo with
  | none=>rfl
  | some v=>exact zQ v n 0
 ·cases hi with
  | none=>rfl
  | some v=>exact zQ v n n
theorem am7 (i j:Nat):Builtin.Slice.slicePlaces (i:Int) (j:Int) 1=j - i:=by
 unfold Builtin.Slice.slicePlaces
 have h1:(1:Int) > 0:=by omega
 simp only [h1,if_true,Int.ediv_one]
 split <;> omega
theorem zR {v:Value}{o:Option Int}{Q:Option Int->Shared->Prop} (p:IsPart v o) (h:Q o s):wpAny (model prog w) A (Builtin.Slice.slicePartIndex v) Q E s:=by
 cases p with
 | none=>exact slicePart_none h
 | int i t=>exact slicePart_int h
theorem zS {sl:Addr}{vl vu:Value}{lo hi:Option Int}{n:Nat}{Q:Int × Int × Nat->Shared->Prop} (hs:s.heap.IsSliceOf sl vl vu .none) (pl:IsPart vl lo) (pu:IsPart vu hi)
  (h:Q (((aV n 0 lo:Nat):Int),1,aV n n hi - aV n 0 lo) s):wpAny (model prog w) A (Builtin.Slice.sliceApplied (.ref sl) (pure (n:Int))) Q E s:=by
 obtain ⟨os,hos,hcs,hds⟩:=id hs
 unfold Builtin.Slice.sliceApplied Builtin.Slice.sliceFields
 refine bf5 (bf5 (bm9 hos hds (x:=vl) rfl (bf5 (bm9 hos hds (x:=vu) rfl (bf5 (bm9 hos hds (x:=.none) rfl (bf8 ?_)))))))
 refine bf5 (slicePart_none ?_)
 show wpAny _ _ (if ((1:Int) == 0)=true then _ else _) _ _ s
 rw [if_neg (by decide)]
 refine bf5 (zR pl (bf5 (zR pu (bf5 (bf8 ?_)))))
 show wpAny _ _ (match Builtin.Slice.sliceAdjust lo hi 1 (n:Int) with | (lo,hi)=>pure (lo,(1:Int),Builtin.Slice.slicePlaces lo hi 1)) _ _ s
 rw [am6 lo hi n]
 show wpAny _ _ (pure (((aV n 0 lo:Nat):Int),(1:Int),Builtin.Slice.slicePlaces ((aV n 0 lo:Nat):Int) ((aV n n hi:Nat):Int) 1)) _ _ s
 rw [am7]
 exact bf8 h
theorem am8 (xs:Array Value) (i k:Nat):((List.range k).filterMap fun (m:Nat)=>xs[((i:Int)+(m:Int) * 1).toNat]?).toArray=((xs.toList.drop i).take k).toArray:=by
 have e:(fun (m:Nat)=>xs[((i:Int)+(m:Int) * 1).toNat]?)=fun m=>xs[i+m]?:=by
  funext m
  have:((i:Int)+(m:Int) * 1).toNat=i+m:=by omega
  rw [this]
 rw [e]
 have:=pick_run xs i k
 rw [List.filterMap_map] at this
 have e2:((fun x=>xs[x]?) ∘ fun x=>i+x)=fun m=>xs[i+m]?:=rfl
 rw [e2] at this
 rw [this]
theorem am9 {t sl:Addr}{items:Array Value}{vl vu:Value}{lo hi:Option Int}{Q:Value->Shared->Prop} (ht:IsTup s.heap t items) (hs:s.heap.IsSliceOf sl vl vu .none) (pl:IsPart vl lo) (pu:IsPart vu hi)
  (hw : ¬ (aV items.size 0 lo=0/\aV items.size items.size hi=items.size))
  (h:Q (.ref s.heap.objs.size) { s with heap:=s.heap.push { cls:=.type "tuple",data:=.seq ((items.toList.drop (aV items.size 0 lo)).take (aV items.size items.size hi - aV items.size 0 lo)).toArray } })
  (hsz:items.size<=sizeLine):wpAny (model prog w) A (getItem (.ref t) (.ref sl)) Q E s:=by
 have htake:sizeOk (.seq ((items.toList.drop (aV items.size 0 lo)).take (aV items.size items.size hi - aV items.size 0 lo)).toArray):=by
  show ((items.toList.drop (aV items.size 0 lo)).take (aV items.size items.size hi - aV items.size 0 lo)).toArray.size<=sizeLine
  rw [bg0,bp0,bn4,bi3]
  omega
 have hj:aV items.size items.size hi<=items.size:=am5 _ _ (bg1 _) hi
 obtain ⟨os,hos,hcs,hds⟩:=id hs
 have hTs:s.TypeIs (.ref sl) "slice":=⟨os,hos,hcs⟩
 unfold getItem
 try with_reducible refine bl6 ?_
 first | refine bf5 (bf8 ?_) | skip
 refine bf5 (wpAny_sequenceKey ht.typeIs (by decide) ?_)
 refine bf5 (bj7 (name:=Str.ofString "__getitem__") ht.typeIs br6
  (bj4 br6 ht.typeIs entry_tuple_getitem ?_ (args_tuple_getitem _ _)))
 show wpAny _ _ (Builtin.Tuple.tupleItemsOf (.ref t) >>= _) _ _ s
 refine bf5 (tupleItemsOf_ ht ?_)
 refine bf5 (wpAny_typeOf hTs ?_)
 rw [if_pos (by decide)]
 refine bf5 (zS hs pl pu ?_)
 have hno : ¬ ((((aV items.size 0 lo:Nat):Int) == 0 && (1:Int) == 1 && (aV items.size items.size hi - aV items.size 0 lo) == items.size)=true):=by
  intro q
  rw [bj5,bj5] at q
  have q1:((aV items.size 0 lo:Nat):Int)=0:=eq_of_beq q.1.1
  have q2:aV items.size items.size hi - aV items.size 0 lo=items.size:=eq_of_beq q.2
  exact hw ⟨by omega,by omega⟩
 show wpAny _ _ (if (((aV items.size 0 lo:Nat):Int) == 0 && (1:Int) == 1 && (aV items.size items.size hi - aV items.size 0 lo) == items.size)=true then _ else _) _ _ s
 rw [if_neg hno,am8]
 first
  | exact bf5 (m:=Builtin.Tuple.tupleExact _) (bj2 (bf8 ⟨_,rfl,bf8 h⟩) htake)
  | exact bf5 (m:=Builtin.Tuple.tupleExact _) (bj2 (bf5 (bf8 (bf8 ⟨_,rfl,bf8 h⟩))) htake)
  | exact bf5 (bf5 (m:=Builtin.Tuple.tupleExact _) (bj2 (bf8 (bf8 ⟨_,rfl,bf8 h⟩)) htake))
  | exact bf5 (bf5 (m:=Builtin.Tuple.tupleExact _) (bj2 (bf8 ⟨_,rfl,bf8 h⟩) htake))
end
end HT
namespace L2
open PySem PySem.Spec PyProof.Rows
abbrev TO:=St->Hp->(Option Int->Hp->Prop)->Prop
def PO (X:Cx) (e:Option Expr) (t:TO):Prop:=
 ∀ (pins:List (Addr × Obj)) (s:Shared) (σ:St) (H:Hp) (Q:Option Int->Hp->Prop),a7 X pins σ H s->t σ H Q->
  wpAny (model X.prog X.w) X.A (evalPart e X.env) (fun u s'=>∃ o H',a7 X pins σ H' s'/\IsPart u o/\Q o H') X.xe s
def an0:TO:=fun _ H Q=>Q none H
def an1 (t:TE):TO:=fun σ H Q=>t σ H fun x H1=>∃ i,x = .int i/\Q (some i) H1
theorem uA {ns:List Int}:∀ {us:List Value},aI (ns.map V.int) us->IntsAre us ns:=by
 induction ns with
 | nil=>intro us r; rw [List.map_nil] at r; cases r; exact .nil
 | cons n ns ih=>
  intro us r
  rw [bl7] at r
  cases r with
  | cons r1 r2=>
   obtain ⟨t,e⟩:=r1
   subst e
   exact .cons n t (ih r2)
section
variable {X : Cx} {e : Expr} {te : TE} {lo hi : Option Expr} {tl th : TO} {pos p2 : Pos}
theorem uB:PO X none an0:=by
 intro pins s σ H Q I h
 rw [evalPart_none]
 exact bf8 ⟨none,H,I,.none,h⟩
theorem uC (h:PE X e te):PO X (some e) (an1 te):=by
 intro pins s σ H Q I hw
 rw [evalPart_some]
 refine aJ (h pins s σ H _ I hw) fun u s1 ⟨x,H1,I1,r1,q1⟩=>?_
 obtain ⟨i,rfl,q⟩:=q1
 obtain ⟨t,rfl⟩:=r1
 exact⟨some i,H1,I1,.int i t,q⟩
def jJ (X:Cx) (r:V->Option Int->Option Int->Hp->VK->Prop):Prop:=
 ∀ (pins:List (Addr × Obj)) (s:Shared) (σ:St) (H:Hp) (x:V) (v vl vu:Value) (lo hi:Option Int) (sl:Addr) (Q:VK),a7 X pins σ H s->aU x v->s.heap.IsSliceOf sl vl vu .none->IsPart vl lo->IsPart vu hi->r x lo hi H Q->
  ∃ T id,typeLookup (.type T) "__getitem__" = pure (some (.builtin id))/\s.TypeIs v T/\wpAny (model X.prog X.w) X.A (getItem v (.ref sl)) (EP X pins σ Q) X.xe s
theorem jJ.or {r r':V->Option Int->Option Int->Hp->VK->Prop} (h:jJ X r) (h':jJ X r'):jJ X (fun x lo hi H Q=>r x lo hi H Q ∨ r' x lo hi H Q):=by
 intro pins s σ H x v vl vu lo hi sl Q I rx hs pl pu q
 rcases q with q | q
 ·exact h pins s σ H x v vl vu lo hi sl Q I rx hs pl pu q
 ·exact h' pins s σ H x v vl vu lo hi sl Q I rx hs pl pu q
def tSl (r:V->Option Int->Option Int->Hp->VK->Prop) (te:TE) (tl th:TO):TE:=fun σ H Q=>te σ H fun x H1=>tl σ H1 fun l H2=>th σ H2 fun u H3=>r x l u H3 Q
theorem uD {r:V->Option Int->Option Int->Hp->VK->Prop} (hr:jJ X r) (he:PE X e te) (hl:PO X lo tl) (hu:PO X hi th):PE X (.Subscript e (.Slice lo hi none p2) pos) (tSl r te tl th):=by
 intro pins s σ H Q I h
 refine Subscript_ (aJ (he pins s σ H _ I h) fun v s1 ⟨x,H1,I1,r1,q1⟩=>?_)
 refine wpAny_Slice (aJ (hl pins s1 σ H1 _ I1 q1) fun vl s2 ⟨l,H2,I2,pl,q2⟩=>aJ (hu pins s2 σ H2 _ I2 q2) fun vu s3 ⟨u,H3,I3,pu,q3⟩=>?_)
 rw [evalPart_none]
 refine bf8 ?_
 have I4:a7 X pins σ H3 { s3 with heap:=s3.heap.push { cls:=.type "slice",data:=.fields #[vl,vu,.none] } }:=I3.kept (t':=s3.toks) fun b ob q=>bf7 _ q
 obtain ⟨T,id,hT,ht,hg⟩:=hr pins { s3 with heap:=s3.heap.push { cls:=.type "slice",data:=.fields #[vl,vu,.none] } } σ H3 x v vl vu l u s3.heap.objs.size Q I4 r1 (Heap.IsSliceOf.new ..) pl pu q3
 show wpAny (model X.prog X.w) X.A (subscriptTail e (.Slice lo hi none p2) v (.ref s3.heap.objs.size)) (EP X pins σ Q) X.xe { s3 with heap:=s3.heap.push { cls:=.type "slice",data:=.fields #[vl,vu,.none] } }
 exact tail_any (ops:=[.ref s3.heap.objs.size,v]) ht hT hg (by with_unfolding_all rfl)
def dW (xs:List V) (lo hi:Option Int):List V:=(xs.drop (HT.aV xs.length 0 lo)).take (HT.aV xs.length xs.length hi - HT.aV xs.length 0 lo)
theorem zT (xs:List V) (lo hi:Option Int):(dW xs lo hi).length<=xs.length:=by
 unfold dW
 rw [bp0,bn4]
 omega
def an2 (K:PySem.W.Frag):V->Option Int->Option Int->Hp->VK->Prop:=fun x lo hi H Q=>∃ a xs,x = .ref a/\aL K H a xs/\
 ¬ (HT.aV xs.length 0 lo=0/\HT.aV xs.length xs.length hi=xs.length)/\∀ p,H p=none->Q (.ref p) (upd H p (.tup (dW xs lo hi)))
theorem an3:jJ X (an2 X.K):=by
 intro pins s σ H x v vl vu lo hi sl Q I rx hs pl pu h
 obtain ⟨a,xs,rfl,hx,hw,q⟩:=h
 cases rx
 obtain ⟨its,r,ht,hz⟩:=I.tuple hx
 have hlen:its.toArray.size=xs.length:=by rw [bg0]; exact r.length.symm
 refine⟨"tuple",_,PyProof.Rows.slot_tuple_getitem.lookup,ht.typeIs,?_⟩
 refine HT.am9 ht hs pl pu (by rw [hlen]; exact hw) ?_ (by rw [hlen]; exact hz)
 rw [hlen]
 refine⟨.ref s.heap.objs.size,_,I.laid (t':=s.toks) (o:=.tup (dW xs lo hi)) (fun b ob q=>bf7 _ q) (bg1 _) ?_,rfl,q _ (I.hok.fresh (bg1 _))⟩
 exact⟨bk0 (zT xs lo hi) hz,_,(r.drop (HT.aV xs.length 0 lo)).take (HT.aV xs.length xs.length hi - HT.aV xs.length 0 lo),IsTup.new _ _⟩
end
def i9 (n:Nat) (i:Int):Option Nat:=if 0<=i then (if i < n then some i.toNat else none) else if -(n:Int)<=i then some (i+n).toNat else none
def atI {α:Type} (xs:List α) (i:Int):Option α:=(i9 xs.length i).bind fun j=>xs[j]?
theorem zU {n:Nat}{i:Int}{j:Nat} (h:i9 n i=some j):seqIndex? i n=some j/\j < n/\-(n:Int)<=i/\i < n:=by
 unfold i9 at h
 by_cases h0:0<=i
 ·rw [if_pos h0] at h
  by_cases h1:i < n
  ·rw [if_pos h1] at h
   have e:i.toNat=j:=bi5 h
   exact⟨by rw [seqIndex_of h0 h1,e],by omega,by omega,h1⟩
  ·rw [if_neg h1] at h; cases h
 ·rw [if_neg h0] at h
  by_cases h1 : -(n:Int)<=i
  ·rw [if_pos h1] at h
   have e:(i+n).toNat=j:=bi5 h
   exact⟨by rw [seqIndex_neg (by omega) h1,e],by omega,h1,by omega⟩
  ·rw [if_neg h1] at h; cases h
theorem uE {α:Type}{xs:List α}{i:Int}{v:α} (h:atI xs i=some v):∃ j,seqIndex? i xs.length=some j/\xs[j]? = some v/\j < xs.length/\-(xs.length:Int)<=i/\i < xs.length:=by
 unfold atI at h
 cases e:i9 xs.length i with
 | none=>rw [e] at h; cases h
 | some j=>
  rw [e] at h
  obtain ⟨h1,h2,h3,h4⟩:=zU e
  exact⟨j,h1,h,h2,h3,h4⟩
theorem pO {α:Type}{xs:List α}{j:Nat}{v:α} (h:xs[j]? = some v):atI xs (j:Int)=some v:=by
 have hj:j < xs.length:=(bh4.mp h).1
 have e:i9 xs.length (j:Int)=some j:=by
  unfold i9
  rw [if_pos (by omega),if_pos (by omega)]; simp
 unfold atI; rw [e]; exact h
def zV (b:Expr):Prop:=∀ o i,subscripted b false o i=operate [o,i] (getItem o i)
def iQ (X:Cx) (r:R2):Prop:=
 ∀ (value slice:Expr) (pins:List (Addr × Obj)) (s:Shared) (σ:St) (H:Hp) (x y:V) (v u:Value) (Q:VK),a7 X pins σ H s->aU x v->aU y u->r x y H Q->
  subscripted slice false v u=operate [v,u] (getItem v u)->wpAny (model X.prog X.w) X.A (subscriptTail value slice v u) (EP X pins σ Q) X.xe s
def zW (X:Cx) (id:String) (r:V->List V->Hp->VK->Prop):Prop:=
 ∀ (pins:List (Addr × Obj)) (s:Shared) (σ:St) (H:Hp) (x:V) (xs:List V) (v:Value) (us:List Value) (Q:VK),a7 X pins σ H s->aU x v->aI xs us->r x xs H Q->
  wpAny (model X.prog X.w) X.A (call (.builtin id) (v :: us)) (EP X pins σ Q) X.xe s
section
variable {X : Cx} {a b : Expr} {ta tb : TE} {pos : Pos}
theorem iQ.or {r r':R2} (h:iQ X r) (h':iQ X r'):iQ X (fun x y H Q=>r x y H Q ∨ r' x y H Q):=by
 intro value slice pins s σ H x y v u Q I rx ry q hs
 rcases q with q | q
 ·exact h value slice pins s σ H x y v u Q I rx ry q hs
 ·exact h' value slice pins s σ H x y v u Q I rx ry q hs
theorem nU {r:R2} (hr:iQ X r) (ha:PE X a ta) (hb:PE X b tb) (hs:zV b):PE X (.Subscript a b pos) (nN r ta tb):=by
 intro pins s σ H Q I h
 exact Subscript_ (tU ha hb I h fun v u s2 x y H2 I2 rx ry q=>hr a b pins s2 σ H2 x y v u Q I2 rx ry q (hs _ _))
def zX (K:PySem.W.Frag):R2:=fun x y H Q=>∃ p xs i v,x = .ref p/\y = .int i/\aN K H p xs/\atI xs i=some v/\Q v H
def zY (K:PySem.W.Frag):R2:=fun x y H Q=>∃ p xs i v,x = .ref p/\y = .int i/\aL K H p xs/\atI xs i=some v/\Q v H
def zZ:R2:=fun x y H Q=>∃ z i c,x = .str z/\y = .int i/\z.length<=sizeLine/\atI z.cps.toList i=some c/\Q (.str ⟨#[c]⟩) H
theorem uF:iQ X (zX X.K):=by
 intro value slice pins s σ H x y v u Q I rx ry h hs
 obtain ⟨p,xs,i,z,rfl,rfl,hq,he,q⟩:=h
 cases rx
 obtain ⟨t,rfl⟩:=ry
 obtain ⟨its,r,pl,hz⟩:=I.list hq
 obtain ⟨j,h1,h2,h3,h4,h5⟩:=uE he
 obtain ⟨w,ew,rw'⟩:=r.get h2
 have hl:=r.length
 have hn:=lK
 have fin:EP X pins σ Q w s:=⟨z,H,I,rw',q⟩
 by_cases h0:0<=i
 ·have hj:i.toNat=j:=by
   rw [seqIndex_of h0 h5] at h1
   exact bi5 h1
  exact item_listR pl.isList h0 (by omega) (by rw [hj]; simpa using ew) fin hs
 ·have hj:(i+(its.toArray.size:Int)).toNat=j:=by
   rw [seqIndex_neg (by omega) h4] at h1
   rw [bg0,<- hl]
   exact bi5 h1
  exact subscriptTail_builtinR (x:=w) pl.isList.typeIs slot_list_getitem.lookup
   (wpAny_getItem_list_neg (Q:=fun r s'=>r=w/\EP X pins σ Q r s') pl.isList (by omega) (by rw [bg0] <;> omega) (by omega) (by rw [hj]; simpa using ew) ⟨rfl,fin⟩) hs
theorem uG:iQ X (zY X.K):=by
 intro value slice pins s σ H x y v u Q I rx ry h hs
 obtain ⟨p,xs,i,z,rfl,rfl,hq,he,q⟩:=h
 cases rx
 obtain ⟨t,rfl⟩:=ry
 obtain ⟨its,r,pl,hz⟩:=I.tuple hq
 obtain ⟨j,h1,h2,h3,h4,h5⟩:=uE he
 obtain ⟨w,ew,rw'⟩:=r.get h2
 have hl:=r.length
 have hn:=lK
 have fin:EP X pins σ Q w s:=⟨z,H,I,rw',q⟩
 exact subscriptTail_builtinR (x:=w) pl.typeIs slot_tuple_getitem.lookup
  (getItem_tuple (j:=j) (Q:=fun r s'=>r=w/\EP X pins σ Q r s') pl (by omega) (by omega) (by rw [bg0,<- hl]; exact h1) (by simpa using ew) ⟨rfl,fin⟩) hs
theorem an4:iQ X zZ:=by
 intro value slice pins s σ H x y v u Q I rx ry h hs
 obtain ⟨z,i,c,rfl,rfl,hz,he,q⟩:=h
 obtain ⟨t,rfl⟩:=rx
 obtain ⟨t',rfl⟩:=ry
 obtain ⟨j,h1,h2,h3,h4,h5⟩:=uE he
 have hl:z.cps.toList.length=z.length:=by simp [Str.length]
 rw [hl] at h1 h4 h5
 have hn:=lK
 exact tail_any (typeIs_str s z t) slot_str_getitem.lookup (getItem_str (c:=c) (by
  have e1:decide (i < -(2 ^ 63:Int))=false:=bg2 (by omega)
  have e2:decide (i >= 2 ^ 63)=false:=bg2 (by omega)
  rw [e1,e2,Bool.or_false]) (by rw [h1]; simpa using h2) ⟨.str ⟨#[c]⟩,H,I.tok _,⟨_,rfl⟩,q⟩) hs
def A0 (K:PySem.W.Frag):R2:=fun x y H Q=>zX K x y H Q ∨ zY K x y H Q ∨ zZ x y H Q
theorem an5:iQ X (A0 X.K):=uF.or (uG.or an4)
theorem an6 (its:List Value) (n j:Nat) (u:Value):Obj.mapSeq (·.setIfInBounds j u) { cls:=.type "list",data:=.seq its.toArray n }={ cls:=.type "list",data:=.seq (its.set j u).toArray n }:=by
 simp [Obj.mapSeq]
theorem a7.lst {pins:List (Addr × Obj)}{σ:St}{H:Hp}{s:Shared}{p:Addr}{xs:List V} (I:a7 X pins σ H s) (h:H p=some (.lst xs)) :
  ∃ (its:List Value) (n:Nat),aI xs its/\s.heap.get? p=some { cls:=.type "list",data:=.seq its.toArray n }/\xs.length<=sizeLine:=by
 obtain ⟨z,its,n,r,e⟩:=I.hok p _ h
 exact⟨its,n,r,e,z⟩
theorem a7.lstUpd {pins:List (Addr × Obj)}{σ:St}{H:Hp}{s:Shared}{p:Addr}{xs ys:List V}{its its':List Value}{n n':Nat}{f:Obj->Obj} (I:a7 X pins σ H s) (h:H p=some (.lst xs))
  (ho:s.heap.get? p=some { cls:=.type "list",data:=.seq its.toArray n }) (hf:f { cls:=.type "list",data:=.seq its.toArray n }={ cls:=.type "list",data:=.seq its'.toArray n' }) (r:aI ys its') (hz:ys.length<=sizeLine) (t:Nat) :
  a7 X pins σ (upd H p (.lst ys)) { s with heap:=s.heap.update p f,toks:=t }:=by
 have e:(s.heap.update p f).get? p=some { cls:=.type "list",data:=.seq its'.toArray n' }:=by
  rw [bl8 f ho (by rw [hf] <;> rfl),hf]
 refine I.write (x:=p) (e:=p) (by rw [h]; trivial) (.inl rfl) (fun b u hb q=>(br2 _ _ (Ne.symm hb)).trans q) ⟨_,e⟩ ?_
 exact⟨hz,its',n',r,e⟩
def uH:V->V->V->Hp->(Hp->Prop)->Prop:=fun o i v H Q=>∃ p xs k j,o = .ref p/\i = .int k/\H p=some (.lst xs)/\i9 xs.length k=some j/\Q (upd H p (.lst (xs.set j v)))
theorem an7:yH X uH:=by
 intro pins s σ H o i v ov iv u Q I ro ri rv h
 obtain ⟨p,xs,k,j,rfl,rfl,hp,hj,q⟩:=h
 cases ro
 obtain ⟨t,rfl⟩:=ri
 obtain ⟨its,n,r,ho,hz⟩:=I.lst hp
 obtain ⟨h1,h2,h3,h4⟩:=zU hj
 have hl:=r.length
 have hn:=lK
 have I':a7 X pins σ (upd H p (.lst (xs.set j v))) { s with heap:=s.heap.update p (Obj.mapSeq (·.setIfInBounds j u)) }:=
  I.lstUpd hp ho (an6 its n j u) (r.set rv j) (by rw [bl0]; exact hz) s.toks
 by_cases h0:0<=k
 ·have hk:k.toNat=j:=by
   rw [seqIndex_of h0 h4] at h1
   exact bi5 h1
  exact PySem.W.ki_setAt ho h0 (by omega) (by rw [bg0,<- hl]; exact h4) (by rw [hk]; exact⟨_,I',q⟩)
 ·have hk:(k+(its.toArray.size:Int)).toNat=j:=by
   rw [seqIndex_neg (by omega) h3] at h1
   rw [bg0,<- hl]
   exact bi5 h1
  exact PySem.W.ki_setBack ho (by omega) (by rw [bg0,<- hl]; exact h3) (by omega) (by rw [hk]; exact⟨_,I',q⟩)
theorem an8 (lo hi:Option Int) (n:Nat):(sliceBounds lo hi none n).1=((HT.aV n 0 lo:Nat):Int)/\(sliceBounds lo hi none n).2.1=((HT.aV n n hi:Nat):Int)/\(sliceBounds lo hi none n).2.2=1:=by
 refine⟨?_,?_,rfl⟩
 ·cases lo with
  | none=>simp [sliceBounds,HT.aV]
  | some i=>
   simp only [sliceBounds,HT.aV,Option.getD_none,show (1:Int) > 0 by decide,if_true]
   by_cases h:i < 0
   ·simp only [h,if_true] <;> omega
   ·simp only [h,bm6] <;> omega
 ·cases hi with
  | none=>simp [sliceBounds,HT.aV]
  | some i=>
   simp only [sliceBounds,HT.aV,Option.getD_none,show (1:Int) > 0 by decide,if_true]
   by_cases h:i < 0
   ·simp only [h,if_true] <;> omega
   ·simp only [h,bm6] <;> omega
theorem an9 (its:List Value) (lo hi:Option Int):slicePick its.toArray lo hi none=((its.drop (HT.aV its.length 0 lo)).take (HT.aV its.length its.length hi - HT.aV its.length 0 lo)).toArray:=by
 obtain ⟨h1,h2,h3⟩:=an8 lo hi its.toArray.size
 unfold slicePick
 rw [h1,h2,h3]
 simp only [sliceRange_one,pick_run,bg0] <;> rfl
def ao0 (K:PySem.W.Frag):V->Option Int->Option Int->Hp->VK->Prop:=fun x lo hi H Q=>∃ a xs,x = .ref a/\aN K H a xs/\∀ p,H p=none->Q (.ref p) (upd H p (.lst (dW xs lo hi)))
theorem A1:jJ X (ao0 X.K):=by
 intro pins s σ H x v vl vu lo hi sl Q I rx hs pl pu h
 obtain ⟨a,xs,rfl,hx,q⟩:=h
 cases rx
 obtain ⟨its,r,ht,hz⟩:=I.list hx
 have hlen:=r.length
 refine⟨"list",_,slot_list_getitem.lookup,ht.isList.typeIs,?_⟩
 refine wpAny_getItem_list_slice ht.isList hs pl pu .none (by simp) ?_ (by rw [bg0] <;> omega)
 rw [an9,<- hlen]
 refine⟨.ref s.heap.objs.size,_,I.laid (t':=s.toks) (o:=.lst (dW xs lo hi)) (fun b ob q=>bf7 _ q) (bg1 _) ?_,rfl,q _ (I.hok.fresh (bg1 _))⟩
 exact⟨bk0 (zT xs lo hi) hz,_,0,(r.drop (HT.aV xs.length 0 lo)).take (HT.aV xs.length xs.length hi - HT.aV xs.length 0 lo),bg6 _ rfl⟩
def iR:V->Bool
 | .non=>true
 | .bl _=>true
 | .int _=>true
 | .str _=>true
 | _=>false
def gR:V->V->Bool
 | .non,.non=>true
 | .bl a,.bl b=>a == b
 | .bl a,.int b=>(if a then 1 else 0) == b
 | .int a,.bl b=>a == (if b then 1 else 0)
 | .int a,.int b=>a == b
 | .str a,.str b=>a == b
 | _,_=>false
theorem ao1 {A:Around}{s:Shared}{y x:V}{u v:Value} (ry:aU y u) (rx:aU x v) (fy:iR y=true) (fx:iR x=true):SeqAt.EqAt A s u v (gR y x):=by
 cases y with
 | non=>
  cases ry
  cases x with
  | non=>cases rx; exact SeqAt.EqAt.same _
  | bl b=>cases rx; exact SeqAt.EqAt.none_bool b
  | int b=>obtain ⟨t,rfl⟩:=rx; exact SeqAt.EqAt.none_int b t
  | str b=>obtain ⟨t,rfl⟩:=rx; exact SeqAt.EqAt.none_str b t
  | _=>exact absurd (show false=true from fx) bh8
 | bl a=>
  cases ry
  cases x with
  | non=>cases rx; exact SeqAt.EqAt.bool_none a
  | bl b=>cases rx; exact SeqAt.EqAt.bool_bool a b
  | int b=>obtain ⟨t,rfl⟩:=rx; exact SeqAt.EqAt.bool_int a b t
  | str b=>obtain ⟨t,rfl⟩:=rx; exact SeqAt.EqAt.bool_str a b t
  | _=>exact absurd (show false=true from fx) bh8
 | int a=>
  obtain ⟨t',rfl⟩:=ry
  cases x with
  | non=>cases rx; exact SeqAt.EqAt.int_none a t'
  | bl b=>cases rx; exact SeqAt.EqAt.int_bool a t' b
  | int b=>obtain ⟨t,rfl⟩:=rx; exact SeqAt.EqAt.int_int a t' b t
  | str b=>obtain ⟨t,rfl⟩:=rx; exact SeqAt.EqAt.int_str a t' b t
  | _=>exact absurd (show false=true from fx) bh8
 | str a=>
  obtain ⟨t',rfl⟩:=ry
  cases x with
  | non=>cases rx; exact SeqAt.EqAt.str_none a t'
  | bl b=>cases rx; exact SeqAt.EqAt.str_bool a t' b
  | int b=>obtain ⟨t,rfl⟩:=rx; exact SeqAt.EqAt.str_int a t' b t
  | str b=>obtain ⟨t,rfl⟩:=rx; exact SeqAt.EqAt.str_str a t' b t
  | _=>exact absurd (show false=true from fx) bh8
 | _=>exact absurd (show false=true from fy) bh8
def eQ (x:V) (u:Value):Bool:=match u with
 | .none=>gR .non x
 | .bool b=>gR (.bl b) x
 | .int i _=>gR (.int i) x
 | .str z _=>gR (.str z) x
 | _=>false
theorem A2 {x y:V}{u:Value} (r:aU y u) (f:iR y=true):eQ x u=gR y x:=by
 cases y with
 | non=>cases r; rfl
 | bl b=>cases r; rfl
 | int i=>obtain ⟨t,rfl⟩:=r; rfl
 | str z=>obtain ⟨t,rfl⟩:=r; rfl
 | _=>exact absurd (show false=true from f) bh8
theorem nV {x:V}:∀ {xs:List V}{us:List Value},aI xs us->xs.all iR=true->us.any (eQ x)=xs.any fun y=>gR y x
 | _,_,.nil,_=>rfl
 | y :: xs,u :: us,.cons r t,f=>by
  rw [bt7,bj5] at f
  rw [List.any_cons,List.any_cons,A2 r f.1,nV t f.2]
theorem nW {A:Around}{s:Shared}{x:V}{v:Value} (rx:aU x v) (fx:iR x=true):∀ {xs:List V}{us:List Value},aI xs us->xs.all iR=true->∀ u ∈ us,SeqAt.EqAt A s u v (eQ x u)
 | _,_,.nil,_=>fun u hu=>by cases hu
 | y :: xs,u :: us,.cons r t,f=>fun u' hu=>by
  rw [bt7,bj5] at f
  rcases bg4.mp hu with rfl | hu
  ·rw [A2 r f.1]; exact ao1 r rx f.1 fx
  ·exact nW rx fx t f.2 u' hu
def nX (x:V) (xs:List V):Bool:=xs.any fun y=>gR y x
def uI (K:PySem.W.Frag) (neg:Bool):R2:=fun x y H Q=>∃ p xs,y = .ref p/\(aN K H p xs ∨ aL K H p xs)/\iR x=true/\xs.all iR=true/\Q (.bl (if neg then !nX x xs else nX x xs)) H
theorem A3:cD X (compareOp .In) (uI X.K false):=by
 intro pins s σ H x y v u Q I rx ry h
 obtain ⟨p,xs,rfl,hq,fx,fs,q⟩:=h
 cases ry
 rcases hq with hq | hq
 ·obtain ⟨its,r,pl,hz⟩:=I.list hq
  refine SeqAt.in_listAt (eQ x) pl.isList (fun w hw=>nW rx fx r fs w (by simpa using hw)) ⟨.bl _,H,I,rfl,?_⟩
  rw [show its.toArray.any (eQ x)=its.any (eQ x) by simp,nV r fs]
  exact q
 ·obtain ⟨its,r,pl,hz⟩:=I.tuple hq
  refine SeqAt.in_tupleAt (eQ x) pl (fun w hw=>nW rx fx r fs w (by simpa using hw)) ⟨.bl _,H,I,rfl,?_⟩
  rw [show its.toArray.any (eQ x)=its.any (eQ x) by simp,nV r fs]
  exact q
theorem ao2:cD X (compareOp .NotIn) (uI X.K true):=by
 intro pins s σ H x y v u Q I rx ry h
 obtain ⟨p,xs,rfl,hq,fx,fs,q⟩:=h
 cases ry
 rcases hq with hq | hq
 ·obtain ⟨its,r,pl,hz⟩:=I.list hq
  refine SeqAt.notIn_listAt (eQ x) pl.isList (fun w hw=>nW rx fx r fs w (by simpa using hw)) ⟨.bl _,H,I,rfl,?_⟩
  rw [show its.toArray.any (eQ x)=its.any (eQ x) by simp,nV r fs]
  exact q
 ·obtain ⟨its,r,pl,hz⟩:=I.tuple hq
  refine SeqAt.notIn_tupleAt (eQ x) pl (fun w hw=>nW rx fx r fs w (by simpa using hw)) ⟨.bl _,H,I,rfl,?_⟩
  rw [show its.toArray.any (eQ x)=its.any (eQ x) by simp,nV r fs]
  exact q
theorem ao3:cS X (.builtin "len") (fun xs H Q=>∃ p ys,xs = [.ref p]/\(aN X.K H p ys ∨ aL X.K H p ys)/\Q (.int ys.length) H):=by
 intro pins s σ H xs us Q I r h
 obtain ⟨p,ys,rfl,hq,q⟩:=h
 obtain ⟨u,rfl,rx⟩:=gP r
 cases rx
 have hn:=lK
 rcases hq with hq | hq
 ·obtain ⟨its,r',pl,hz⟩:=I.list hq
  have hlen:=r'.length
  exact Calls.call_len_list pl.isList (by simp only [bg0] <;> omega) ⟨.int ys.length,H,I.tok _,⟨s.toks+1,by rw [bg0,hlen]⟩,q⟩
 ·obtain ⟨its,r',pl,hz⟩:=I.tuple hq
  have hlen:=r'.length
  exact len_tuple pl (by simp only [bg0] <;> omega) ⟨.int ys.length,H,I.tok _,⟨s.toks+1,by rw [bg0,hlen]⟩,q⟩
theorem cS.or {f:Value}{r r':List V->Hp->VK->Prop} (h:cS X f r) (h':cS X f r'):cS X f (fun xs H Q=>r xs H Q ∨ r' xs H Q):=by
 intro pins s σ H xs us Q I rs q
 rcases q with q | q
 ·exact h pins s σ H xs us Q I rs q
 ·exact h' pins s σ H xs us Q I rs q
theorem ao4:cS X (.type "list") (fun xs H Q=>∃ p ys,xs = [.ref p]/\(aN X.K H p ys ∨ aL X.K H p ys)/\∀ l,H l=none->Q (.ref l) (upd H l (.lst ys))):=by
 intro pins s σ H xs us Q I r h
 obtain ⟨p,ys,rfl,hq,q⟩:=h
 obtain ⟨u,rfl,rx⟩:=gP r
 cases rx
 have fin:∀ (its:List Value),aI ys its->ys.length<=sizeLine->∀ (h':Heap) (c':Nat),(∀ b o',s.heap.get? b=some o'->h'.get? b=some o')->
   h'.get? s.heap.objs.size=some { cls:=.type "list",dict:=none,data:=.seq its.toArray c',slots:=#[] }->EP X pins σ Q (.ref s.heap.objs.size) { s with heap:=h' }:=fun its r' hz h' c' kp e=>
  ⟨.ref s.heap.objs.size,_,I.laid (t':=s.toks) kp (bg1 _) (show bH X.prog X.w _ h' _ (.lst ys) from ⟨hz,its,c',r',e⟩),rfl,q _ (I.hok.fresh (bg1 _))⟩
 rcases hq with hq | hq
 ·obtain ⟨its,r',pl,hz⟩:=I.list hq
  have hlen:=r'.length
  obtain ⟨o,ho,hc,n,hd⟩:=pl.isList
  exact call_list_seq p (.inl rfl) ho hc hd (fun h' c' kp e=>fin its r' hz h' c' kp e) (by simp only [bg0] <;> omega)
 ·obtain ⟨its,r',pl,hz⟩:=I.tuple hq
  have hlen:=r'.length
  obtain ⟨o,ho,hc,n,hd⟩:=pl
  exact call_list_seq p (.inr rfl) ho hc hd (fun h' c' kp e=>fin its r' hz h' c' kp e) (by simp only [bg0] <;> omega)
theorem ao5:cS X (.type "tuple") (fun xs H Q=>∃ p ys,xs = [.ref p]/\((aN X.K H p ys/\∀ l,H l=none->Q (.ref l) (upd H l (.tup ys))) ∨ (aL X.K H p ys/\Q (.ref p) H))):=by
 intro pins s σ H xs us Q I r h
 obtain ⟨p,ys,rfl,h⟩:=h
 obtain ⟨u,rfl,rx⟩:=gP r
 cases rx
 rcases h with ⟨hq,q⟩ | ⟨hq,q⟩
 ·obtain ⟨its,r',pl,hz⟩:=I.list hq
  have hlen:=r'.length
  refine call_tuple_list pl.isList (fun h' kp=>?_) (by simp only [bg0] <;> omega)
  have I1:a7 X pins σ H { s with heap:=h' }:=I.kept (t':=s.toks) kp
  have I2:a7 X pins σ (upd H h'.objs.size (.tup ys)) { s with heap:=h'.push { cls:=.type "tuple",data:=.seq its.toArray } }:=
   I1.laid (t':=s.toks) (fun b o e=>bf7 _ e) (bg1 _) (show bH X.prog X.w _ _ _ (.tup ys) from ⟨hz,its,r',IsTup.new _ _⟩)
  exact⟨.ref h'.objs.size,_,I2,rfl,q _ (I1.hok.fresh (bg1 _))⟩
 ·obtain ⟨its,r',pl,hz⟩:=I.tuple hq
  exact call_tuple_same pl ⟨.ref p,H,I,rfl,q⟩
def fX (K:PySem.W.Frag) (T:String) (x:V) (H:Hp):Prop:=match x with
 | .str _=>T="str"
 | .int _=>T="int"
 | .ref p=>(T="list"/\∃ xs,aN K H p xs) ∨ (T="tuple"/\∃ o,K.lookup p=some o/\o.cls = .type "tuple"/\o.dict=none) ∨
   (T="dict"/\((∃ kvs,H p=some (.dK kvs)) ∨ ∃ kvs,H p=some (.dT kvs))) ∨ (T="set"/\∃ S n,H p=some (.set S n))
 | _=>False
theorem A4 {pins:List (Addr × Obj)}{σ:St}{H:Hp}{s:Shared}{T:String}{x:V}{v:Value} (I:a7 X pins σ H s) (r:aU x v) (ty:fX X.K T x H) :
  s.TypeIs v T/\∀ a,v = .ref a->∃ ob,s.heap.get? a=some ob/\ob.dict=none:=by
 cases x with
 | str z=>
  obtain ⟨t,rfl⟩:=r
  cases (show T="str" from ty)
  exact⟨typeIs_str s z t,fun _ e=>nomatch e⟩
 | int i=>
  obtain ⟨t,rfl⟩:=r
  cases (show T="int" from ty)
  exact⟨typeIs_int s i t,fun _ e=>nomatch e⟩
 | ref p=>
  cases r
  rcases ty with ⟨rfl,xs,hq⟩ | ⟨rfl,o,hk,hc,hd⟩ | ⟨rfl,hk⟩ | ⟨rfl,S,n,hk⟩
  ·obtain ⟨its,_,pl,_⟩:=I.list hq
   refine⟨pl.isList.typeIs,fun a e=>?_⟩
   cases e
   obtain ⟨o,n,e,c,hd,_⟩:=pl
   exact⟨o,e,hd⟩
  ·refine⟨⟨o,I.kIn p o hk,hc⟩,fun a e=>?_⟩
   cases e
   exact⟨o,I.kIn _ o hk,hd⟩
  ·have z:∃ o,s.heap.get? p=some o/\o.ExactDict:=by
    rcases hk with ⟨kvs,hk⟩ | ⟨kvs,hk⟩
    ·obtain ⟨_,_,_,_,o,_,_,e,ex,_⟩:=I.hok p _ hk
     exact⟨o,e,ex⟩
    ·obtain ⟨_,_,_,_,o,_,_,e,ex,_⟩:=I.hok p _ hk
     exact⟨o,e,ex⟩
   obtain ⟨o,e,ex⟩:=z
   refine⟨⟨o,e,ex.1⟩,fun a e2=>?_⟩
   cases e2
   exact⟨o,e,ex.2.1⟩
  ·obtain ⟨o,_,_,_,e,ex,_⟩:=I.hok p _ hk
   refine⟨⟨o,e,ex.1⟩,fun a e2=>?_⟩
   cases e2
   exact⟨o,e,ex.2.1⟩
 | _=>exact False.elim ty
def A5 (K:PySem.W.Frag) (T:String) (r:V->List V->Hp->VK->Prop) (to:TE):TE:=fun σ H Q=>to σ H fun x H1=>fX K T x H1/\r x [] H1 Q
def uJ (K:PySem.W.Frag) (T:String) (r:V->List V->Hp->VK->Prop) (to:TE) (t:TA):TE:=fun σ H Q=>to σ H fun x H1=>fX K T x H1/\t σ H1 fun xs H2=>r x xs H2 Q
variable {o e : Expr} {es : List Expr} {to : TE} {t : TA} {name : Str} {apos cpos : Pos} {T id : String} {r : V → List V → Hp → VK → Prop}
theorem ao6 (pa:PlainAttrs T) (slot:Slot T name id) (hty:typeOf (.builtin id)=pure (.type "method_descriptor")) (hm:zW X id r) (ho:PE X o to)
  (hbase:attributeBase o name X.env (eval o X.env)=eval o X.env:=by rfl) (hline:(apos.endLine == cpos.line)=true:=by rfl):PE X (.Call (.Attribute o name apos) [] [] cpos) (A5 X.K T r to):=by
 intro pins s σ H Q I h
 refine wpAny_Call_method0_late hbase hline (aJ (ho pins s σ H _ I h) fun v s1 ⟨x,H1,I1,r1,ty,q1⟩=>?_)
 obtain ⟨h1,h2⟩:=A4 I1 r1 ty
 exact⟨T,id,pa,slot,hty,h1,h2,Calls.callWith_builtin rfl (PySem.evalArgs_none (hm pins s1 σ H1 x [] v [] Q I1 r1 .nil q1))⟩
theorem pP (pa:PlainAttrs T) (slot:Slot T name id) (hty:typeOf (.builtin id)=pure (.type "method_descriptor")) (hm:zW X id r) (ho:PE X o to) (ha:PA X (e :: es) t)
  (hbase:attributeBase o name X.env (eval o X.env)=eval o X.env:=by rfl)
  (hfew:((backTo cpos (starEach (e :: es) X.env)).all (fun x=>!x.1) && (backToKw cpos (keywordEach [] X.env)).all (fun x=>x.1.isSome)
   && decide ((e :: es).length+([]:List Keyword).length+(if ([]:List Keyword).isEmpty then 0 else 1) < 30))=true:=by rfl)
  (hline:(apos.endLine == cpos.line)=true:=by rfl) (hs:starEach (e :: es) X.env=(false,eval e X.env) :: starEach es X.env:=by rfl) (hplain:(backTo cpos (starEach es X.env)).any (·.1)=false:=by rfl) :
  PE X (.Call (.Attribute o name apos) (e :: es) [] cpos) (uJ X.K T r to t):=by
 intro pins s σ H Q I h
 refine wpAny_Call_method_late hbase hfew hline rfl (aJ (ho pins s σ H _ I h) fun v s1 ⟨x,H1,I1,r1,ty,q1⟩=>?_)
 obtain ⟨h1,h2⟩:=A4 I1 r1 ty
 refine⟨T,id,pa,slot,hty,h1,h2,?_⟩
 have hA:=ha cpos pins s1 σ H1 _ I1 q1
 rw [hs] at hA ⊢
 refine Calls.callWith_builtin (by show (false || (backTo cpos (starEach es X.env)).any (·.1))=false; rw [hplain] <;> rfl) (Calls.evalArgs_plain ?_)
 exact aJ hA fun us s2 ⟨vs,H2,I2,r2,q2⟩=>hm pins s2 σ H2 x vs v us Q I2 r1 r2 q2
end
def pQ (X:Cx) (id:String) (r:V->List V->Hp->VK->Prop):Prop:=
 ∀ (pins:List (Addr × Obj)) (s:Shared) (σ:St) (H:Hp) (x:V) (xs:List V) (v:Value) (us:List Value) (Q:VK),a7 X pins σ H s->aU x v->aI xs us->r x xs H Q->
  wpAny (model X.prog X.w) X.A (call (.builtin id) (v :: us)) (EP X pins σ Q) X.xe s
theorem aI.one {x:V}{us:List Value} (h:aI [x] us):∃ u,us = [u]/\aU x u:=by
 cases h with
 | cons r t=>
  cases t
  exact⟨_,rfl,r⟩
theorem aI.two {x y:V}{us:List Value} (h:aI [x,y] us):∃ u v,us = [u,v]/\aU x u/\aU y v:=by
 cases h with
 | cons r t=>
  cases t with
  | cons q t=>
   cases t
   exact⟨_,_,rfl,r,q⟩
theorem aI.zero:∀ {us:List Value},aI [] us->us = []
 | _,.nil=>rfl
theorem aI.dropLast {xs:List V}{us:List Value} (h:aI xs us):aI xs.dropLast us.dropLast:=by
 induction h with
 | nil=>exact .nil
 | cons r t ih=>
  cases t with
  | nil=>exact .nil
  | cons q t'=>exact .cons r ih
theorem aI.eraseIdx:∀ {xs:List V}{us:List Value} (i:Nat),aI xs us->aI (xs.eraseIdx i) (us.eraseIdx i)
 | _,_,_,.nil=>.nil
 | _,_,0,.cons _ t=>t
 | _,_,i+1,.cons r t=>.cons r (aI.eraseIdx i t)
theorem aI.reverse {xs:List V}{us:List Value} (h:aI xs us):aI xs.reverse us.reverse:=by
 induction h with
 | nil=>exact .nil
 | cons r t ih=>rw [List.reverse_cons,List.reverse_cons]; exact aI.append ih (.cons r .nil)
theorem ao7 {α:Type} (l:List α):l.eraseIdx (l.length - 1)=l.dropLast:=by
 induction l with
 | nil=>rfl
 | cons a r ih=>
  cases r with
  | nil=>rfl
  | cons b r=>
   have e:(a :: b :: r).length - 1=((b :: r).length - 1)+1:=by
    have h1:(a :: b :: r).length=r.length+2:=rfl
    have h2:(b :: r).length=r.length+1:=rfl
    omega
   rw [e,List.eraseIdx_cons_succ,ih]
   all_goals rfl
section
variable {X : Cx} {pins : List (Addr × Obj)} {σ : St} {H : Hp} {s : Shared} {l b : Addr} {xs ys zs : List V}
theorem a7.lset {its its':List Value}{n:Nat}{f:Array Value->Array Value}{t':Nat} (I:a7 X pins σ H s) (hH:H l=some (.lst xs))
  (e:s.heap.get? l=some { cls:=.type "list",data:=.seq its.toArray n }) (hf:f its.toArray=its'.toArray) (hv:aI ys its') (hz:ys.length<=sizeLine) :
  a7 X pins σ (upd H l (.lst ys)) { s with heap:=s.heap.update l (Obj.mapSeq f),toks:=t' }:=by
 have q:=PySem.IsL.update e f
 rw [hf] at q
 refine I.write (x:=l) (e:=l) (by rw [hH]; exact trivial) (.inl rfl) (fun b' u hb hu=>(br2 s.heap (Obj.mapSeq f) (Ne.symm hb)).trans hu) ⟨_,q⟩ ?_
 exact⟨hz,its',_,hv,q⟩
theorem a7.lstM (I:a7 X pins σ H s) (hH:H l=some (.lst xs)):xs.length<=sizeLine/\∃ (its:List Value) (n:Nat),aI xs its/\xs.length=its.length/\s.heap.get? l=some { cls:=.type "list",data:=.seq its.toArray n }:=by
 obtain ⟨z,its,n,r,e⟩:=I.hok l _ hH
 exact⟨z,its,n,r,r.length,e⟩
end
section
variable {X : Cx}
def A6:V->List V->Hp->VK->Prop:=fun x vs H Q=>∃ l xs y,x = .ref l/\vs = [y]/\H l=some (.lst xs)/\xs.length < sizeLine/\Q .non (upd H l (.lst (xs ++ [y])))
theorem pR:pQ X "list.append" A6:=by
 intro pins s σ H x vs v us Q I rx rv h
 obtain ⟨l,xs,y,rfl,rfl,hH,hz,q⟩:=h
 cases rx
 obtain ⟨u,rfl,ru⟩:=rv.one
 obtain ⟨z,its,n,r,hl,e⟩:=I.lstM hH
 refine call_meets F.slot_list_append ⟨_,e,rfl⟩ F.entry_list_append (F.args_list_append_2 _ _) (PySem.list_append l its.toArray n u (by rw [bg0]; omega)) ⟨e,?_⟩
 refine⟨.non,_,I.lset (its':=its ++ [u]) hH e (by simp) (r.append (.cons ru .nil)) ?_,rfl,q⟩
 rw [bh9,bq2]
 omega
def ao8:V->List V->Hp->VK->Prop:=fun x vs H Q=>∃ l xs y,x = .ref l/\vs = []/\H l=some (.lst xs)/\xs[xs.length - 1]? = some y/\Q y (upd H l (.lst xs.dropLast))
theorem bf3:pQ X "list.pop" ao8:=by
 intro pins s σ H x vs v us Q I rx rv h
 obtain ⟨l,xs,y,rfl,rfl,hH,hy,q⟩:=h
 cases rx
 have hus:=rv.zero
 subst hus
 obtain ⟨z,its,n,r,hl,e⟩:=I.lstM hH
 obtain ⟨u,hu,ru⟩:=r.get hy
 have hy':its.toArray[its.toArray.size - 1]? = some u:=by
  show its.toArray[its.length - 1]? = some u
  rw [<- bk3,<- hl]
  exact hu
 refine call_meets F.slot_list_pop ⟨_,e,rfl⟩ F.entry_list_pop (F.args_list_pop_1 _) (MeetsSeq.list_pop_last l its.toArray n u hy' (by rw [bg0]; omega)) ⟨e,?_⟩
 refine⟨y,_,I.lset (its':=its.dropLast) hH e ?_ r.dropLast ?_,ru,q⟩
 ·show its.toArray.eraseIdxIfInBounds (its.toArray.size - 1)=its.dropLast.toArray
  rw [bg0,List.eraseIdxIfInBounds_toArray,ao7]
 ·rw [List.length_dropLast]
  omega
def A7:V->List V->Hp->VK->Prop:=fun x vs H Q=>∃ l xs,x = .ref l/\vs = []/\H l=some (.lst xs)/\Q .non (upd H l (.lst xs.reverse))
theorem ao9:pQ X "list.reverse" A7:=by
 intro pins s σ H x vs v us Q I rx rv h
 obtain ⟨l,xs,rfl,rfl,hH,q⟩:=h
 cases rx
 have hus:=rv.zero
 subst hus
 obtain ⟨z,its,n,r,hl,e⟩:=I.lstM hH
 refine call_meets F.slot_list_reverse ⟨_,e,rfl⟩ F.entry_list_reverse (F.args_list_reverse_1 _) (AutoSeq1.list_reverse_list_0 l its.toArray n (by rw [bg0]; omega)) ⟨e,?_⟩
 refine⟨.non,_,I.lset (its':=its.reverse) hH e (by simp) r.reverse ?_,rfl,q⟩
 rw [List.length_reverse]
 omega
end
section
variable {κ : Type} [DecidableEq κ]
def eR (kvs:List (κ × V)) (k:κ):Option V:=(kvs.find? fun kv=>decide (kv.1=k)).map (·.2)
def dH (kvs:List (κ × V)) (k:κ) (v:V):List (κ × V):=
 if (kvs.any fun kv=>decide (kv.1=k))=true then kvs.map (fun kv=>if kv.1=k then (kv.1,v) else kv) else kvs ++ [(k,v)]
theorem uK {p:κ × V}{r:List (κ × V)}{k:κ} (e:p.1=k):eR (p :: r) k=some p.2:=by simp [eR,bq3,e]
theorem uL {p:κ × V}{r:List (κ × V)}{k:κ} (e : ¬ p.1=k):eR (p :: r) k=eR r k:=by simp [eR,bq3,e]
theorem A8 (k:κ):∀ kvs:List (κ × V),(kvs.any fun kv=>decide (kv.1=k))=(eR kvs k).isSome
 | []=>rfl
 | p :: r=>by
  rw [List.any_cons]
  by_cases e:p.1=k
  ·simp only [uK e,bg3 e,Bool.true_or,Option.isSome_some]
  ·rw [uL e,bg2 e,Bool.false_or]; exact A8 k r
theorem uM (kvs:List (κ × V)) (k:κ) (v:V):(dH kvs k v).length<=kvs.length+1:=by
 unfold dH
 split
 ·rw [bg5]; omega
 ·rw [bh9,bj0,List.length_nil]; omega
theorem k9.isSome_eq {o:Option V}{u:Option Value} (r:k9 o u):o.isSome=u.isSome:=by
 cases o with
 | none=>cases u with
  | none=>rfl
  | some _=>exact (show False from r).elim
 | some _=>cases u with
  | none=>exact (show False from r).elim
  | some _=>rfl
theorem KV.val {kvs:List (κ × V)}{vs:List (κ × Value)} (r:KV kvs vs) (k:κ):k9 (eR kvs k) (valueAt vs k):=by
 unfold KV at r
 induction r with
 | nil=>exact bv8
 | @cons p q ps qs h t ih=>
  obtain ⟨h1,h2⟩:=h
  by_cases e:p.1=k
  ·have e':q.1=k:=h1.symm.trans e
   have b:valueAt (q :: qs) k=some q.2:=by simp [valueAt,bq3,e']
   rw [uK e,b]; exact h2
  ·have e' : ¬ q.1=k:=fun z=>e (h1.trans z)
   have b:valueAt (q :: qs) k=valueAt qs k:=by simp [valueAt,bq3,e']
   rw [uL e,b]; exact ih
theorem KV.any {kvs:List (κ × V)}{vs:List (κ × Value)} (r:KV kvs vs) (k:κ):(kvs.any fun kv=>decide (kv.1=k))=vs.any fun kv=>decide (kv.1=k):=by
 unfold KV at r
 induction r with
 | nil=>rfl
 | cons h t ih=>rw [List.any_cons,List.any_cons,ih,h.1]
theorem KV.repl {kvs:List (κ × V)}{vs:List (κ × Value)} (r:KV kvs vs) (k:κ) {y:V}{u:Value} (ry:aU y u) :
  KV (kvs.map fun kv=>if kv.1=k then (kv.1,y) else kv) (vs.map fun kv=>if kv.1=k then (kv.1,u) else kv):=by
 unfold KV at r ⊢
 induction r with
 | nil=>exact .nil
 | @cons p q ps qs h t ih=>
  rw [bl7,bl7]
  refine .cons ?_ ih
  obtain ⟨h1,h2⟩:=h
  by_cases e:p.1=k
  ·rw [if_pos e,if_pos (h1.symm.trans e)]; exact⟨h1,ry⟩
  ·rw [if_neg e,if_neg (fun z=>e (h1.trans z))]; exact⟨h1,h2⟩
theorem KV.put {kvs:List (κ × V)}{vs:List (κ × Value)} (r:KV kvs vs) (k:κ) {y:V}{u:Value} (ry:aU y u):KV (dH kvs k y) (stored vs k u):=by
 unfold dH stored
 rw [r.any k]
 by_cases e:(vs.any fun kv=>decide (kv.1=k))=true
 ·rw [if_pos e,if_pos e]; exact r.repl k ry
 ·rw [if_neg e,if_neg e]; exact Paired.snoc r ⟨rfl,ry⟩
theorem KV.length {kvs:List (κ × V)}{vs:List (κ × Value)} (r:KV kvs vs):kvs.length=vs.length:=Paired.length r
end
theorem pS {P:Program}{w:World}{k:aA}{u:Value} (r:aU (kV k) u):(e9 P w).is k u=true:=by
 cases k with
 | inl i=>obtain ⟨t,e⟩:=(show ∃ t,u=Value.int i t from r); subst e; exact ag6 P w i t
 | inr x=>obtain ⟨t,e⟩:=(show ∃ t,u=Value.str x t from r); subst e; exact ag7 P w x t
theorem A9 {P:Program}{w:World}:∀ {ks:List aA}{us:List Value},aI (ks.map kV) us->ItemsAre (e9 P w) ks us
 | [],_,r=>by rw [List.map_nil] at r; cases r; exact .nil
 | k :: ks,_,r=>by
  rw [bl7] at r
  cases r with
  | cons h t=>exact .cons (pS h) (A9 t)
abbrev KT (H:Hp):List (List aA × V)->List (List aA × Addr × Value)->Prop:=Paired fun p q=>p.1=q.1/\H q.2.1=some (.tup (p.1.map kV))/\aU p.2 q.2.2
theorem KT.val {H:Hp}{kvs:List (List aA × V)}{xs:List (List aA × Addr × Value)} (r:KT H kvs xs) (k:List aA):k9 (eR kvs k) ((atKey xs k).map (·.2)):=by
 induction r with
 | nil=>exact bv8
 | @cons p q ps qs h t ih=>
  obtain ⟨h1,_,h2⟩:=h
  by_cases e:p.1=k
  ·have e':q.1=k:=h1.symm.trans e
   have b:atKey (q :: qs) k=some q.2:=by simp [atKey,bq3,e']
   rw [uK e,b]; exact h2
  ·have e' : ¬ q.1=k:=fun z=>e (h1.trans z)
   have b:atKey (q :: qs) k=atKey qs k:=by simp [atKey,bq3,e']
   rw [uL e,b]; exact ih
theorem KT.repl {H:Hp}{kvs:List (List aA × V)}{xs:List (List aA × Addr × Value)} (r:KT H kvs xs) (k:List aA) {y:V}{u:Value} (ry:aU y u) :
  KT H (kvs.map fun kv=>if kv.1=k then (kv.1,y) else kv) (xs.map (putAt k u)):=by
 induction r with
 | nil=>exact .nil
 | @cons p q ps qs h t ih=>
  rw [bl7,bl7]
  refine .cons ?_ ih
  obtain ⟨h1,h2,h3⟩:=h
  unfold putAt
  by_cases e:p.1=k
  ·rw [if_pos e,if_pos (h1.symm.trans e)]; exact⟨h1,h2,ry⟩
  ·rw [if_neg e,if_neg (fun z=>e (h1.trans z))]; exact⟨h1,h2,h3⟩
theorem KT.put {H:Hp}{kvs:List (List aA × V)}{xs:List (List aA × Addr × Value)} (r:KT H kvs xs) (k:List aA) {b:Addr}{y:V}{u:Value} (hb:H b=some (.tup (k.map kV))) (ry:aU y u) :
  KT H (dH kvs k y) (storedH xs k b u):=by
 have e:(kvs.any fun kv=>decide (kv.1=k))=(atKey xs k).isSome:=by
  rw [A8,(r.val k).isSome_eq,Option.isSome_map]
 unfold dH storedH
 rw [e]
 by_cases q:(atKey xs k).isSome=true
 ·rw [if_pos q,if_pos q]; exact r.repl k ry
 ·rw [if_neg q,if_neg q]; exact Paired.snoc r ⟨rfl,hb,ry⟩
theorem KT.keeps {H H':Hp}{kvs:List (List aA × V)}{xs:List (List aA × Addr × Value)} (r:KT H kvs xs) (ht:∀ b ys,H b=some (.tup ys)->H' b=some (.tup ys)):KT H' kvs xs:=
 Paired.mapP r fun _ _ z=>⟨z.1,ht _ _ z.2.1,z.2.2⟩
section
variable {P : Program} {w : World} {H : Hp} {h : Heap} {a : Addr}
theorem B0 {u:HO} (ok:bN P w H h) (e:Rd H a u):bH P w H h a u:=e.ok ok
theorem nY {kvs:List (aA × V)} (ok:bN P w H h) (e:Rd H a (.dK kvs)):kvs.length<=sizeLine/\(a == sysModules)=false/\∃ vs,KV kvs vs/\h.DictOf (e9 P w) a vs:=
 show bH P w H h a (.dK kvs) from B0 ok e
theorem uN {kvs:List (aA × V)} (ok:bN P w H h) (e:H a=some (.dK kvs)):kvs.length<=sizeLine/\(a == sysModules)=false/\∃ vs,KV kvs vs/\h.DictOf (e9 P w) a vs:=nY ok (.inl e)
theorem nZ {ks:List aA} (ok:bN P w H h) (e:H a=some (.tup (ks.map kV))):(tupleKind (e9 P w)).is h ks a:=by
 obtain ⟨_,its,r,o,h1,h2,n,h3⟩:=(show bH P w H h a (.tup (ks.map kV)) from ok a _ e)
 exact⟨o,its.toArray,n,h1,h2,h3,by simpa using A9 r⟩
theorem pT {kvs:List (List aA × V)} (ok:bN P w H h) (e:Rd H a (.dT kvs)):kvs.length<=sizeLine/\(a == sysModules)=false/\
  ∃ xs,KT H kvs xs/\h.DictOfH (tupleKind (e9 P w)) a xs:=by
 obtain ⟨z,y,xs,r,o,es,ep,h1,h2,h3,h4,h5⟩:=(show bH P w H h a (.dT kvs) from B0 ok e)
 refine⟨z,y,xs,r,o,es,ep,h1,h2,h3,h4,fun x hx=>?_,h5⟩
 have all:∀ {l:List (List aA × V)}{m:List (List aA × Addr × Value)},KT H l m->∀ x ∈ m,(tupleKind (e9 P w)).is h x.1 x.2.1:=by
  intro l m q
  induction q with
  | nil=>intro x hx; exact nomatch hx
  | @cons p q ps qs hq t ih=>
   intro x hx
   rcases bg4.mp hx with e | hx
   ·subst e
    exact nZ ok (by rw [<- hq.1]; exact hq.2.1)
   ·exact ih x hx
 exact all r x hx
theorem B1 {kvs:List (List aA × V)} (ok:bN P w H h) (e:H a=some (.dT kvs)):kvs.length<=sizeLine/\(a == sysModules)=false/\
  ∃ xs,KT H kvs xs/\h.DictOfH (tupleKind (e9 P w)) a xs:=pT ok (.inl e)
end
def gS (H:Hp) (a:Addr) (y:V) (r:Option V):Prop:=
 (∃ kvs k,Rd H a (.dK kvs)/\y=kV k/\r=eR kvs k) ∨ ∃ kvs k b,Rd H a (.dT kvs)/\y = .ref b/\H b=some (.tup (k.map kV))/\r=eR kvs k
def jK (H:Hp) (a:Addr) (y v:V) (H':Hp):Prop:=
 (∃ kvs k,H a=some (.dK kvs)/\y=kV k/\kvs.length < sizeLine/\H'=upd H a (.dK (dH kvs k v))) ∨
 ∃ kvs k b,H a=some (.dT kvs)/\y = .ref b/\H b=some (.tup (k.map kV))/\kvs.length < sizeLine/\H'=upd H a (.dT (dH kvs k v))
theorem gS.k {H:Hp}{a:Addr}{kvs:List (aA × V)}{k:aA} (e:H a=some (.dK kvs)):gS H a (kV k) (eR kvs k):=.inl ⟨kvs,k,.inl e,rfl,rfl⟩
theorem gS.t {H:Hp}{a b:Addr}{kvs:List (List aA × V)}{k:List aA} (e:H a=some (.dT kvs)) (eb:H b=some (.tup (k.map kV))):gS H a (.ref b) (eR kvs k):=.inr ⟨kvs,k,b,.inl e,rfl,eb,rfl⟩
theorem jK.k {H:Hp}{a:Addr}{kvs:List (aA × V)}{k:aA}{v:V} (e:H a=some (.dK kvs)) (hl:kvs.length < sizeLine):jK H a (kV k) v (upd H a (.dK (dH kvs k v))):=.inl ⟨kvs,k,e,rfl,hl,rfl⟩
theorem jK.t {H:Hp}{a b:Addr}{kvs:List (List aA × V)}{k:List aA}{v:V} (e:H a=some (.dT kvs)) (eb:H b=some (.tup (k.map kV))) (hl:kvs.length < sizeLine) :
  jK H a (.ref b) v (upd H a (.dT (dH kvs k v))):=.inr ⟨kvs,k,b,e,rfl,eb,hl,rfl⟩
section
variable {X : Cx} {pins : List (Addr × Obj)} {σ : St} {H : Hp} {s : Shared} {a : Addr} {y v : V} {u r : Value} {o : Option V} {A : Around} {E : Value → Shared → Prop}
theorem a7.big (I:a7 X pins σ H s):sysModules < s.heap.objs.size:=by
 have h:mainGlobals < s.heap.objs.size:=(I.mod.glob.keeps I.bk).lt
 exact Nat.lt_trans (by decide) h
theorem ap0 {Q:Value->Shared->Prop} (hu:A.units+1 < cLine) (I:a7 X pins σ H s) (g:gS H a y o) (ry:aU y u) (h:∀ s',a7 X pins σ H s'->Q (.bool o.isSome) s') :
  wpAny (model X.prog X.w) A (compareOp .In u (.ref a)) Q E s:=by
 rcases g with ⟨kvs,k,e,ey,l⟩ | ⟨kvs,k,b,e,ey,eb,l⟩
 ·subst ey
  obtain ⟨z,hd,vs,rel,dd⟩:=nY I.hok e
  refine wpAny_in_of (pS ry) hd dd.mapOf ?_
  rw [<- (rel.val k).isSome_eq,<- l]
  exact h _ (I.tok _)
 ·subst ey
  cases (show u=Value.ref b from ry)
  obtain ⟨z,hd,xs,rel,dd⟩:=pT I.hok e
  refine wpAny_in_heap (tupleKind_room_in1 hu) (nZ I.hok eb) hd dd ?_
  have q:=(rel.val k).isSome_eq
  rw [Option.isSome_map] at q
  rw [<- q,<- l]
  exact h _ (I.tok _)
theorem ap1 {Q:Value->Shared->Prop} (hu:A.units+1 < cLine) (I:a7 X pins σ H s) (g:gS H a y o) (ry:aU y u) (h:∀ s',a7 X pins σ H s'->Q (.bool (!o.isSome)) s') :
  wpAny (model X.prog X.w) A (compareOp .NotIn u (.ref a)) Q E s:=by
 rcases g with ⟨kvs,k,e,ey,l⟩ | ⟨kvs,k,b,e,ey,eb,l⟩
 ·subst ey
  obtain ⟨z,hd,vs,rel,dd⟩:=nY I.hok e
  refine wpAny_notIn_of (pS ry) hd dd.mapOf ?_
  rw [<- (rel.val k).isSome_eq,<- l]
  exact h _ (I.tok _)
 ·subst ey
  cases (show u=Value.ref b from ry)
  obtain ⟨z,hd,xs,rel,dd⟩:=pT I.hok e
  refine wpAny_notIn_heap (tupleKind_room_in1 hu) (nZ I.hok eb) hd dd ?_
  have q:=(rel.val k).isSome_eq
  rw [Option.isSome_map] at q
  rw [<- q,<- l]
  exact h _ (I.tok _)
theorem pU {h':Heap}{t':Nat}{ob:HO} (I:a7 X pins σ H s) (mu:nH (H a)) (hs:Heap.SameBut a s.heap h') (he:∃ q,h'.get? a=some q) (new:bH X.prog X.w (upd H a ob) h' a ob) :
  a7 X pins σ (upd H a ob) { s with heap:=h',toks:=t' }:=
 I.write (x:=a) (e:=a) mu (.inl rfl) (fun b q hb z=>(hs.2 b hb).trans z) he new
theorem B2 {P:Program}{w:World}{H':Hp}{h':Heap}{kvs:List (aA × V)}{vs:List (aA × Value)} (z:kvs.length<=sizeLine) (hd:(a == sysModules)=false) (rel:KV kvs vs) (dd:h'.DictOf (e9 P w) a vs) :
  bH P w H' h' a (.dK kvs):=⟨z,hd,vs,rel,dd⟩
theorem ap2 {H':Hp}{Q:Unit->Shared->Prop} (hu:A.units+1 < cLine) (I:a7 X pins σ H s) (g:jK H a y v H') (ry:aU y u) (rv:aU v r) (h:∀ s',a7 X pins σ H' s'->Q () s') :
  wpAny (model X.prog X.w) A (setItem (.ref a) u r) Q E s:=by
 rcases g with ⟨kvs,k,e,ey,l,eH⟩ | ⟨kvs,k,b,e,ey,eb,l,eH⟩
 ·subst ey eH
  obtain ⟨z,hd,vs,rel,dd⟩:=uN I.hok e
  have hz:vs.length<=sizeLine:=by rw [<- rel.length]; exact z
  have hl:(dH kvs k v).length<=sizeLine:=by have:=uM kvs k v; omega
  refine wpAny_setItem_pairs (hsz:=hz) (pS ry) dd fun h' dd' hs=>h _ ?_
  have he:∃ q,h'.get? a=some q:=let ⟨q,_,_,hq,_⟩:=dd'; ⟨q,hq⟩
  exact pU I (by rw [e]; exact bv8) hs he (B2 hl hd (rel.put k rv) dd')
 ·subst ey eH
  cases (show u=Value.ref b from ry)
  obtain ⟨z,hd,xs,rel,dd⟩:=B1 I.hok e
  have hz:xs.length<=sizeLine:=by rw [<- Paired.length rel]; exact z
  have hl:(dH kvs k v).length<=sizeLine:=by have:=uM kvs k v; omega
  refine wpAny_setItem_heap (hsz:=hz) (tupleKind_room_in1 hu) (nZ I.hok eb) dd fun h' dd' hs=>h _ ?_
  obtain ⟨q,es,ep,hq,h2,h3,h4,_,h5⟩:=dd'
  refine pU I (by rw [e]; exact bv8) hs ⟨q,hq⟩ ⟨hl,hd,_,(rel.put k eb rv).keeps fun c ys ec=>?_,q,es,ep,hq,h2,h3,h4,h5⟩
  rw [aH (y8 ec e (fun z=>nomatch z))]
  exact ec
end
section
variable {X : Cx} {pins : List (Addr × Obj)} {σ : St} {H : Hp} {s : Shared} {a : Addr} {kvs : List (aA × V)} {k : aA} {u : Value} {A : Around} {E : Value → Shared → Prop}
theorem ap3 {Q:Value->Shared->Prop} (I:a7 X pins σ H s) (e:Rd H a (.dK kvs)) (h:∀ t s',a7 X pins σ H s'->Q (.int kvs.length t) s'):wpAny (model X.prog X.w) A (call (.builtin "len") [.ref a]) Q E s:=by
 obtain ⟨z,hd,vs,rel,dd⟩:=nY I.hok e
 refine call_len_dict hd dd (by rw [<- rel.length]; rw [sizeLine_eq] at z; omega) ?_
 rw [<- rel.length]
 exact h _ _ (I.tok _)
end
def B3 (ty td:TE):TE:=fun σ H Q=>ty σ H fun y H1=>td σ H1 fun x H2=>∃ a o,x = .ref a/\gS H2 a y o/\Q (.bl o.isSome) H2
def B4 (ty td:TE):TE:=fun σ H Q=>ty σ H fun y H1=>td σ H1 fun x H2=>∃ a o,x = .ref a/\gS H2 a y o/\Q (.bl (!o.isSome)) H2
def uO (td ty tv:TE):TS:=fun D σ H=>tv σ H fun v H1=>td σ H1 fun x H2=>ty σ H2 fun y H3=>∃ a H4,x = .ref a/\jK H3 a y v H4/\D.nx σ H4
section
variable {X : Cx} {o i e value : Expr} {pos pos' tpos : Pos} {td ty tv : TE}
theorem ap4 (hu:X.A.units+1 < cLine) (hi:PE X i ty) (ho:PE X o td):PC X .In i o (B3 ty td):=by
 intro pins s σ H Q I h
 refine aJ (hi pins s σ H _ I h) fun iv s1 ⟨y,H1,I1,ry,q1⟩=>aJ (ho pins s1 σ H1 _ I1 q1) fun u s2 ⟨x,H2,I2,rx,a,ov,ex,g,q2⟩=>?_
 subst ex
 obtain rfl:u=Value.ref a:=rx
 exact ap0 hu I2 g ry fun s3 I3=>⟨.bl ov.isSome,H2,I3,rfl,q2⟩
theorem B5 (hu:X.A.units+1 < cLine) (hi:PE X i ty) (ho:PE X o td):PC X .NotIn i o (B4 ty td):=by
 intro pins s σ H Q I h
 refine aJ (hi pins s σ H _ I h) fun iv s1 ⟨y,H1,I1,ry,q1⟩=>aJ (ho pins s1 σ H1 _ I1 q1) fun u s2 ⟨x,H2,I2,rx,a,ov,ex,g,q2⟩=>?_
 subst ex
 obtain rfl:u=Value.ref a:=rx
 exact ap1 hu I2 g ry fun s3 I3=>⟨.bl (!ov.isSome),H2,I3,rfl,q2⟩
theorem B6 (hu:X.A.units+1 < cLine) (ho:PE X o td) (hi:PE X i ty) (hv:PE X value tv) (hs:swapsWith value (some (.Subscript o i pos')) pos.line X.env=pure false) :
  PS X (.Assign [.Subscript o i pos'] value pos) (uO td ty tv):=by
 intro pins s σ H D I h
 refine wpAny_Assign_Subscript (aJ (hv pins s σ H _ I h) fun r s1 ⟨v,H1,I1,rv,q1⟩=>aJ (ho pins s1 σ H1 _ I1 q1) fun u s2 ⟨x,H2,I2,rx,q2⟩=>aJ (hi pins s2 σ H2 _ I2 q2) fun iv s3 ⟨y,H3,I3,ry,a,H4,ex,g,q3⟩=>?_) hs
 subst ex
 obtain rfl:u=Value.ref a:=rx
 exact ap2 hu I3 g ry rv fun s4 I4=>⟨σ,H4,I4,q3⟩
end
theorem ap5 {P:Program}{w:World}{H:Hp} (h:Heap) (hb:sysModules < h.objs.size):bH P w H (h.push { cls:=.type "dict",data:=.dict #[] }) h.objs.size (.dK []):=
 ⟨bk5 _,beq_eq_false_iff_ne.mpr (Ne.symm (bi6 hb)),[],.nil,Heap.DictOf.new h⟩
theorem ap6 {P:Program}{w:World}{H:Hp} (h:Heap) (hb:sysModules < h.objs.size):bH P w H (h.push { cls:=.type "dict",data:=.dict #[] }) h.objs.size (.dT []):=
 ⟨bk5 _,beq_eq_false_iff_ne.mpr (Ne.symm (bi6 hb)),[],.nil,_,#[],0,bg6 _ rfl,⟨rfl,rfl,rfl⟩,rfl,rfl,List.nodup_nil⟩
def B7:TE:=fun _ H Q=>∀ p,H p=none->Q (.ref p) (upd H p (.dK []))
def B8:TE:=fun _ H Q=>∀ p,H p=none->Q (.ref p) (upd H p (.dT []))
section
variable {X : Cx} {pos : Pos}
theorem ap7:PE X (.Dict [] [] pos) B7:=fun pins s σ H Q I h=>
 wpAny_Dict_empty ⟨.ref s.heap.objs.size,_,I.laid (a:=s.heap.objs.size) (o:=.dK []) (t':=s.toks) (fun _ _ q=>bf7 _ q) (bg1 _) (ap5 s.heap I.big),rfl,h _ (I.hok.fresh (bg1 _))⟩
theorem ap8:PE X (.Dict [] [] pos) B8:=fun pins s σ H Q I h=>
 wpAny_Dict_empty ⟨.ref s.heap.objs.size,_,I.laid (a:=s.heap.objs.size) (o:=.dT []) (t':=s.toks) (fun _ _ q=>bf7 _ q) (bg1 _) (ap6 s.heap I.big),rfl,h _ (I.hok.fresh (bg1 _))⟩
end
def kD (kvs more:List (aA × V)):List (aA × V):=more.foldl (fun acc kv=>dH acc kv.1 kv.2) kvs
theorem KV.merge:∀ {more:List (aA × V)}{rs:List (aA × Value)}{kvs:List (aA × V)}{vs:List (aA × Value)},KV more rs->KV kvs vs->KV (kD kvs more) (merged vs rs):=by
 intro more rs kvs vs r
 unfold KV at r
 induction r generalizing kvs vs with
 | nil=>intro q; exact q
 | @cons p q ps qs h t ih=>
  intro r0
  have e:KV (dH kvs p.1 p.2) (stored vs q.1 q.2):=by
   have:=r0.put p.1 h.2
   rw [<- h.1]; exact this
  exact ih e
theorem B9:∀ (more kvs:List (aA × V)),(kD kvs more).length<=kvs.length+more.length
 | [],kvs=>by show kvs.length<=kvs.length+0; omega
 | p :: r,kvs=>by
  have h1:=B9 r (dH kvs p.1 p.2)
  have h2:=uM kvs p.1 p.2
  show (kD (dH kvs p.1 p.2) r).length<=_
  rw [bj0]; omega
structure M1 (X:Cx) (o:Expr) (m:Str) (apos:Pos) (e:Expr) (cpos:Pos):Prop where
 base:attributeBase o m X.env (eval o X.env)=eval o X.env
 few:((backTo cpos (starEach [e] X.env)).all (fun x=>!x.1) && (backToKw cpos (keywordEach [] X.env)).all (fun x=>x.1.isSome)
  && decide (([e]:List Expr).length+([]:List Keyword).length+(if ([]:List Keyword).isEmpty then 0 else 1) < 30))=true
 line:(apos.endLine == cpos.line)=true
 trees:backTo cpos (starEach [e] X.env) = [(false,eval e X.env)]
structure M2 (X:Cx) (o:Expr) (m:Str) (apos:Pos) (e f:Expr) (cpos:Pos):Prop where
 base:attributeBase o m X.env (eval o X.env)=eval o X.env
 few:((backTo cpos (starEach [e,f] X.env)).all (fun x=>!x.1) && (backToKw cpos (keywordEach [] X.env)).all (fun x=>x.1.isSome)
  && decide (([e,f]:List Expr).length+([]:List Keyword).length+(if ([]:List Keyword).isEmpty then 0 else 1) < 30))=true
 line:(apos.endLine == cpos.line)=true
 trees:backTo cpos (starEach [e,f] X.env) = [(false,eval e X.env),(false,eval f X.env)]
def uP (H:Hp) (a:Addr):Prop:=(∃ kvs,Rd H a (.dK kvs)) ∨ ∃ kvs,Rd H a (.dT kvs)
theorem C0 {X:Cx}{pins:List (Addr × Obj)}{σ:St}{H:Hp}{s:Shared}{a:Addr} (I:a7 X pins σ H s) (d:uP H a) :
  s.TypeIs (.ref a) "dict"/\(∀ b,Value.ref a = .ref b->∃ ob,s.heap.get? b=some ob/\ob.dict=none)/\(a == sysModules)=false:=by
 rcases d with ⟨kvs,e⟩ | ⟨kvs,e⟩
 ·obtain ⟨_,hd,vs,_,dd⟩:=nY I.hok e
  refine⟨dd.typeIs,fun b q=>?_,hd⟩
  cases q
  obtain ⟨ob,_,_,h1,h2,_⟩:=dd
  exact⟨ob,h1,h2.2.1⟩
 ·obtain ⟨_,hd,xs,_,dd⟩:=pT I.hok e
  refine⟨dd.typeIs,fun b q=>?_,hd⟩
  cases q
  obtain ⟨ob,_,_,h1,h2,_⟩:=dd
  exact⟨ob,h1,h2.2.1⟩
end L2
namespace Att
open PySem PySem.W PySem.Calls PyProof.Rows
theorem ap9 {P:Params}{h:Heap}:∀ (ns:List Int) (vs:List Value),WellAll P h vs (ns.map WData.int)->IntsAre vs ns:=by
 intro ns
 induction ns with
 | nil=>
  intro vs w
  rw [List.map_nil] at w
  cases w
  exact .nil
 | cons n ns ih=>
  intro vs w
  rw [bl7] at w
  cases w with
  | cons a b=>
   cases a
   exact .cons _ _ (ih _ b)
theorem C1 {l:OpenLaw}{n:Nat} (hn:l.most=some n) {P:Params}{h:Heap}{args:List WData}{vals:List Value}
  (hpre:l.row.toRowW.claim.pre args=true) (hwl:WellAll P h vals args) :
  ∃ a vs ns,vals = [Value.ref a]/\args = [WData.list (ns.map WData.int)]/\h.get? a=some { cls:=.type "list",data:=.seq vs.toArray }/\IntsAre vs ns/\ns.length<=n:=by
 have hsh:WShape.hasAll [] args [.list .int]=true:=(pre_splitW hpre).1
 have hc:l.pre.holds [] { args:=args }=true:=(pre_splitW hpre).2
 obtain ⟨d,r,rfl,h1,h2⟩:=hasAllW_cons hsh
 obtain rfl:=hasAllW_nil h2
 obtain ⟨xs,rfl,h3⟩:=hasW_list h1
 obtain ⟨ns,rfl⟩:=items_int h3
 have hlen:ns.length<=n:=by
  unfold OpenLaw.pre at hc
  have h4:(WTm.not (.lt (.lit (.int (n:Int))) (.len (.arg 0)))).holds [] { args:=[.list (ns.map .int)] }=true:=by
   have h4:=(holds_andW hc).1
   rw [hn] at h4
   exact h4
  have h5:=condW_of h4 (w_not (w_lt w_lit (w_len_list (w_arg rfl))))
  rw [bg5] at h5
  refine bt9 fun q=>?_
  have q':(n:Int) < ((ns.length:Nat):Int):=by omega
  first
   | (rw [bg3 q'] at h5; exact absurd h5 (by decide))
   | (simp at h5; omega)
 cases hwl with
 | cons w1 w2=>
  cases w2
  cases w1 with
  | list ho hall=>exact⟨_,_,ns,rfl,rfl,ho,ap9 ns _ hall,hlen⟩
theorem C2 (l:OpenLaw) (args:List WData):l.row.toRowW.claim.post args (.bool true) args=true:=
 postW_of (r:=l.row.toRowW) (X:=(true == true))
  (show WShape.has [] (.bool true) .bool=true by first | rfl | decide | simp [WShape.has,WShape.arms,WShape.armsAll])
  (show (WTm.eq .res (.lit (.bool true))).value [] { args:=args,res:=some (.bool true),after:=args }=some (.bool (true == true)) from w_eq_bool (w_res rfl) w_lit) rfl
theorem bf4 {l:OpenLaw}{n:Nat}{q:Program}{loose:List Str}{XP:(Str->Option Value)->Heap->Prop}{YP:World->Heap->Prop}{d:DefRec}{x:Str}
  (hn:l.most=some n) (hdf:d.params.defaults = [])
  (hbind:∀ pm cd doc v:Value,bindArgs (docDef d.name d.params d.body d.scope pm cd doc) ⟨[v],[]⟩=pure [(x,v)])
  (hx:d.scope.names.lookup x=some .local ∨ d.scope.names.lookup x=some .cell)
  (hk:d.scope.kind = .function) (hco:d.scope.isCoroutine=false) (hgen:d.scope.isGenerator=false)
  (body:∀ (w:World) (s₀ s₁ s:Shared) (mg mb:Str->Option Value) (fa:Addr) (o:Obj) (pm cd doc:Value) (a:Addr) (vs:List Value) (ns:List Int),
   Ground q loose [] XP w s₀ mg mb s₁.heap->YP w s₁.heap->
   s₁.heap.get? fa=some o->o.data = .func (docDef d.name d.params d.body d.scope pm cd doc)->s₁.heap.CodeRec cd d.name->mg d.name=some (.ref fa)->
   s₁.heap.get? a=some { cls:=.type "list",data:=.seq vs.toArray }->IntsAre vs ns->ns.length<=n->
   s.gens = #[]->s.os=s₁.os->
   Fr s₁.heap s₁.heap.objs.size s.heap (bindL (envOfC d.name d.scope s₁.heap.objs.size fa cd).kindOf [(x,.ref a)] fun _=>none)->
   Cl s₁.heap.objs.size (cellsFrom (s₁.heap.objs.size+1) d.scope.names []) s.heap (bindC (envOfC d.name d.scope s₁.heap.objs.size fa cd).kindOf [(x,.ref a)] fun _=>none)->
   wpAny (model l.prog w) (callerA.deeper (envOfC d.name d.scope s₁.heap.objs.size fa cd)) (execs d.body (envOfC d.name d.scope s₁.heap.objs.size fa cd))
    (fun f s'=>f = .ret (.bool true)/\OldK s₁.heap s'.heap/\s'.os=s₁.os/\AllBare s'.gens) (fun _ _=>False) s) :
  WalkO q loose XP YP l.row.toRowW d [] (fun f vs=>PySem.call f vs):=by
 intro w s₀ s₁ mg mb G Y fa o pm cd doc dV kV ho hd hcd hD hmg hg args vals as hpre hlay hrd hwl hlo
 obtain rfl:dV = .none:=Dflts.none hD hdf
 obtain rfl:kV = .none:=Dflts.noKw hD
 obtain ⟨a,vs,ns,rfl,rfl,hobj,hints,hlen⟩:=C1 hn hpre hwl
 refine enter_call ?_
 refine call_cells_ret (o:=o) (by rw [depth_caller]; decide) ho (fd_plain hd) G.T.nolimit hcd (hbind pm cd doc (.ref a)) (fun y hy=>?_) (fun h₁ tk F X=>?_) hco hgen hk
 ·obtain rfl:y=(x,Value.ref a):=bh6.mp hy
  rcases hx with e | e
  ·exact .inl e
  ·exact .inr ⟨e,cellsFrom_some _ _ _ (.inl e)⟩
 ·refine bo4 (body w s₀ s₁ { s₁ with heap:=h₁,toks:=tk } mg mb fa o pm cd doc a vs ns G Y ho (fd_plain hd) hcd hmg hobj hints hlen hg rfl F X) (fun f s' hq=>?_) (fun _ _ hq=>hq)
  obtain ⟨rfl,h2,h3,h4⟩:=hq
  exact⟨.inl ⟨.bool true,.bool true,[],rfl,fun _=>rfl,.bool true,C2 l _,fun _=>⟨List.Pairwise.nil,fun _ hm=>(nomatch hm)⟩⟩,h2,h3,h4⟩
theorem aq0 {l:OpenLaw}{n:Nat}{q:Program}{loose:List Str}{XP:(Str->Option Value)->Heap->Prop}{YP:World->Heap->Prop}{d:DefRec}
  (hn:l.most=some n) (hdf:d.params.defaults = [])
  (call:∀ (w:World) (s₀ s₁:Shared) (mg mb:Str->Option Value) (fa:Addr) (o:Obj) (pm cd doc:Value) (a:Addr) (vs:List Value) (ns:List Int),
   Ground q loose [] XP w s₀ mg mb s₁.heap->YP w s₁.heap->
   s₁.heap.get? fa=some o->o.data = .func (docDef d.name d.params d.body d.scope pm cd doc)->s₁.heap.CodeRec cd d.name->mg d.name=some (.ref fa)->
   s₁.heap.get? a=some { cls:=.type "list",data:=.seq vs.toArray }->IntsAre vs ns->ns.length<=n->s₁.gens = #[]->
   codeAny (model l.prog w) callerA (.call (.ref fa) ⟨[.ref a],[]⟩) (fun r s'=>r = .ok (.ret (.bool true))/\OldK s₁.heap s'.heap/\s'.os=s₁.os/\AllBare s'.gens) s₁) :
  WalkO q loose XP YP l.row.toRowW d [] (fun f vs=>PySem.call f vs):=by
 intro w s₀ s₁ mg mb G Y fa o pm cd doc dV kV ho hd hcd hD hmg hg args vals as hpre hlay hrd hwl hlo
 obtain rfl:dV = .none:=Dflts.none hD hdf
 obtain rfl:kV = .none:=Dflts.noKw hD
 obtain ⟨a,vs,ns,rfl,rfl,hobj,hints,hlen⟩:=C1 hn hpre hwl
 refine enter_call (codeAny_mono (call w s₀ s₁ mg mb fa o pm cd doc a vs ns G Y ho (fd_plain hd) hcd hmg hobj hints hlen hg) fun r s' hq=>?_)
 obtain ⟨rfl,h2,h3,h4⟩:=hq
 exact⟨.inl ⟨.bool true,.bool true,[],rfl,fun _=>rfl,.bool true,C2 l _,fun _=>⟨List.Pairwise.nil,fun _ hm=>(nomatch hm)⟩⟩,h2,h3,h4⟩
end Att
namespace L2
open PySem PySem.Spec PyProof.Rows
theorem pV:∀ {vs:List Value}{ns:List Int},IntsAre vs ns->aI (ns.map V.int) vs
 | _,_,.nil=>.nil
 | _,_,.cons n t h=>.cons ⟨t,rfl⟩ (pV h)
def pW (H:Hp):Prop:=∀ b,H b=none ∨ ∃ o xs,H b=some (.frz o (.lst xs))
theorem aq1 {P:Program}{w:World}{K:PySem.W.Frag}{mg mb:Str->Option Value}{CX:fV}{k:Nat}{fa a:Addr}{fd:FuncData}{x:Str}{sp:Sp}{s₁:Shared}{vs:List Value}{ns:List Int}
  (KX:K.In s₁.heap) (hns:s₁.heap.Ns mainGlobals mg) (hb:s₁.heap.Ns builtinsNs mb) (hbb:∀ x:Str,x ≠ "__name__"->mb x=bootBuiltins x) (hlim:s₁.heap.NoLimit) (hg:s₁.gens = #[])
  (ha:s₁.heap.get? a=some { cls:=.type "list",data:=.seq vs.toArray }) (hi:IntsAre vs ns) (hl:ns.length<=sizeLine) (hr:bS k callerA)
  (F:∀ base:Heap,K.In base->base.Ns mainGlobals mg->cT P w K mg base CX k fa fd [x] sp) (hbind:∀ (s:Shared) (u:Value),BindsTo s fd ⟨[u],[]⟩ [(x,u)])
  (hsp:∀ H:Hp,pW H->aN K H a (ns.map V.int)->sp [.ref a] H (fun v _=>v = .bl true) fun _ _ _=>False)
  (hCX:∀ H e s',CX [] H s₁ (fun _ _ _=>False) e s'->False) :
  codeAny (model P w) callerA (.call (.ref fa) ⟨[.ref a],[]⟩) (fun r s'=>r = .ok (.ret (.bool true))/\OldK s₁.heap s'.heap/\s'.os=s₁.os/\AllBare s'.gens) s₁:=by
 have rv:=pV hi
 have lenV:=hi.length
 have core:∀ H:Hp,pW H->aN K H a (ns.map V.int)->bN P w H s₁.heap->(∀ b,H b ≠ none->b=a)->(H a ≠ none->K.lookup a=none)->
   codeAny (model P w) callerA (.call (.ref fa) ⟨[.ref a],[]⟩) (fun r s'=>r = .ok (.ret (.bool true))/\OldK s₁.heap s'.heap/\s'.os=s₁.os/\AllBare s'.gens) s₁:=by
  intro H hO hS hok hA hK
  have base_of:∀ {b:Addr}{o:Obj},s₁.heap.get? b=some o->H b=none->(iM s₁.heap H).get? b=some o:=fun e n=>ag9 e n
  have noA:∀ {b:Addr}{o:Obj}{es:Array DictEntry}{ep:Nat},s₁.heap.get? b=some o->o.data = .dict es ep->H b=none:=fun {b o es ep} e d=>by
   cases q:H b with
   | none=>rfl
   | some u=>
    have e':b=a:=hA b (by rw [q]; simp)
    subst e'
    rw [ha] at e; cases e
    have d':Data.seq vs.toArray _=Data.dict es ep:=d
    cases d'
  have nsK:∀ {b:Addr}{m:Str->Option Value},s₁.heap.Ns b m->(iM s₁.heap H).Ns b m:=fun {b m} ⟨o,es,ep,e,d,r⟩=>⟨o,es,ep,base_of e (noA e d),d,r⟩
  have hKb:K.In (iM s₁.heap H):=fun b o e=>base_of (KX b o e) (by
   cases q:H b with
   | none=>rfl
   | some u=>
    have e':b=a:=hA b (by rw [q]; simp)
    subst e'
    rw [hK (by rw [q]; simp)] at e; cases e)
  have hM:Mod K mg (iM s₁.heap H):=⟨hKb,nsK hns,⟨mb,nsK hb,hbb⟩,let ⟨mc,h1,h2⟩:=hlim; ⟨mc,nsK h1,h2⟩⟩
  have e0:pM P w K mg (iM s₁.heap H) callerA [] s₁ H:=⟨rfl,hM,fun b o e=>ah0 e,Nat.le_of_eq (ag8 _ _),trivial,fun b hb=>absurd (show b ∈ ([]:List Addr) from hb) (by simp),hok,.of_eq hg⟩
  refine codeAny_mono ((F _ hKb (nsK hns)).run callerA [] s₁ H ⟨[.ref a],[]⟩ [.ref a] [.ref a] _ _ hr e0 (hbind s₁ (.ref a)) (.cons rfl .nil) (hsp H hO hS)) fun r s' h=>?_
  cases r with
  | error e=>exact (hCX H e s' h).elim
  | ok fl=>
   cases fl with
   | next=>exact False.elim h
   | brk=>exact False.elim h
   | cont=>exact False.elim h
   | ret u=>
    obtain ⟨v,H',os,bare,un,hok',r',q⟩:=h
    have q':v = .bl true:=q
    subst q'
    obtain rfl:u=Value.bool true:=r'
    refine⟨rfl,OldK.of_keep fun b o e=>?_,os,bare⟩
    cases q:H b with
    | none=>exact un.keep b o e q (by intro z; exact absurd (show b ∈ ([]:List Addr) from z) (by simp)) (by simp)
    | some u=>
     rcases hO b with z | ⟨ob,xs,z⟩
     ·rw [q] at z; cases z
     ·have z2:=un.frzs b ob _ z
      obtain ⟨e1,_⟩:=hok b _ z
      obtain ⟨e2,_⟩:=hok' b _ z2
      rw [e] at e1; cases e1
      exact e2
 cases hk:K.lookup a with
 | some o=>
  have e:=KX a o hk
  rw [ha] at e
  cases e
  refine core (fun _=>none) (fun _=>.inl rfl) (.inr ⟨_,vs.toArray,_,hk,rfl,rfl,rfl,by rw [bg0,lenV]; exact hl,by simpa using rv⟩) (fun b u z=>by have z':(none:Option HO)=some u:=z; cases z') (fun b z=>absurd rfl z) fun z=>absurd rfl z
 | none=>
  refine core (fun b=>if b=a then some (.frz { cls:=.type "list",data:=.seq vs.toArray } (.lst (ns.map V.int))) else none) (fun b=>?_) (.inl (.inr ⟨{ cls:=.type "list",data:=.seq vs.toArray },if_pos rfl⟩)) (fun b u z=>?_) (fun b z=>?_) fun _=>hk
  ·by_cases hb:b=a
   ·exact .inr ⟨_,_,if_pos hb⟩
   ·exact .inl (if_neg hb)
  ·by_cases hb:b=a
   ·have z':=(if_pos hb).symm.trans z
    cases z'
    subst hb
    exact⟨ha,by rw [bg5]; exact hl,vs,_,rv,ha⟩
   ·have z':=(if_neg hb).symm.trans z
    cases z'
  ·by_cases hb:b=a
   ·exact hb
   ·exact absurd (if_neg hb) z
theorem aq2 {l:PySem.W.OpenLaw}{n k:Nat}{q:Program}{loose:List Str}{XP:(Str->Option Value)->Heap->Prop}{YP:World->Heap->Prop}{d:DefRec}{K:Params->PySem.W.Frag}{CX:World->fV}{sp:World->Sp}{x:Str}
  (hn:l.most=some n) (hn2:n<=sizeLine) (hdf:d.params.defaults = []) (hr:bS k callerA)
  (hY:∀ (w:World) (h:Heap),YP w h->(K w.params).In h)
  (F:∀ (w:World) (mg:Str->Option Value) (fa:Addr) (h:Heap),(K w.params).In h->h.Ns mainGlobals mg->mg d.name=some (.ref fa)->
   ∃ fd:FuncData,(∀ (s:Shared) (u:Value),BindsTo s fd ⟨[u],[]⟩ [(x,u)])/\
    ∀ base:Heap,(K w.params).In base->base.Ns mainGlobals mg->cT l.prog w (K w.params) mg base (CX w) k fa fd [x] (sp w))
  (hsp:∀ (w:World) (H:Hp) (a:Addr) (ns:List Int),ns.length<=n->pW H->aN (K w.params) H a (ns.map V.int)->sp w [.ref a] H (fun v _=>v = .bl true) fun _ _ _=>False)
  (hCX:∀ (w:World) (H:Hp) (s:Shared) (e:Value) (s':Shared),CX w [] H s (fun _ _ _=>False) e s'->False) :
  PySem.W.WalkO q loose XP YP l.row.toRowW d [] (fun f vs=>PySem.call f vs):=by
 refine Att.aq0 hn hdf fun w s₀ s₁ mg mb fa o pm cd doc a vs ns G Y ho hd hcd hmg hobj hints hlen hg=>?_
 have KX:=hY w _ Y
 obtain ⟨fd,hb,hF⟩:=F w mg fa _ KX G.T.g hmg
 exact aq1 KX G.T.g G.T.b G.T.builtins G.T.nolimit hg hobj hints (bk0 hlen hn2) hr hF hb (fun H hO hS=>hsp w H a ns hlen hO hS) fun H e s'=>hCX w H s₁ e s'
def iA (s:Stmt):Arguments:=match s with
 | .FunctionDef _ a _ _ _ _ _ _ _ _=>a
 | _=>{ posonlyargs:=[],args:=[],vararg:=none,kwonlyargs:=[],kw_defaults:=[],kwarg:=none,defaults:=[] }
def dN (s:Stmt):List Stmt:=match s with
 | .FunctionDef _ _ b _ _ _ _ _ _ _=>b
 | _=>[]
def aQ (s:Stmt):Scope:=match s with
 | .FunctionDef _ _ _ _ _ _ sc _ _ _=>sc
 | _=>{ kind:=.function,names:=[],isGenerator:=false,isCoroutine:=false }
abbrev cZ:fV:=fun _ _ _ _ _ _=>False
abbrev E0:XK:=fun _ _ _=>False
theorem C3 {X:Cx}:nS cZ X E0:=fun _ _ _ _ _ _ _ h=>h.elim
structure eC (K:PySem.W.Frag) (x qual:Str) (st:Stmt) (f:Addr) (fd:FuncData):Prop where
 ex:∃ (oc:Value) (od:Option Addr) (kV doc pm:Value) (an:Option Addr) (cdv ct:Value) (osl:Array (Option Value)),
  fd=PySem.W.fnOf x qual (iA st) (dN st) (aQ st) .none kV doc pm an cdv ct/\K.lookup f=some ⟨oc,od,.func fd,osl⟩/\PySem.W.codeIn K cdv qual=true
 kp:PySem.W.keepIn K (.ref f)=true
section
variable {P : Program} {w : World} {K : PySem.W.Frag} {mg : Str → Option Value} {base : Heap}
theorem eC.ok {x qual:Str}{st:Stmt}{f:Addr}{fd:FuncData}{N ps:List Str}{k:Nat}{sp:Sp} (F:eC K x qual st f fd) (S:FnScope N ps (aQ st)) (len:∀ vs H Q E,sp vs H Q E->vs.length=ps.length)
  (hbody:∀ (cdv:Value) (A:Around) (outer:List Env) (s:Shared) (H:Hp) (vs:List V) (Q:VK) (E:XK),bS k (A.deeper (envOfC qual (aQ st) s.heap.objs.size f cdv))->sp vs H Q E->
   ∃ t,cU (cW cZ P w K mg base N qual (aQ st) f cdv A outer s H E).nox (dN st) t/\t { nx:=fun _ H'=>Q .non H',rt:=Q } (fW N vs) H):cT P w K mg base cZ (k+1) f fd ps sp:=by
 obtain ⟨oc,od,kV,doc,pm,an,cdv,ct,osl,rfl,lk,hcd⟩:=F.ex
 refine zO lk hcd S len fun A outer s H vs Q E hr hsp=>?_
 obtain ⟨t,h,q⟩:=hbody cdv A outer s H vs Q E hr hsp
 exact⟨t,h.nox,q⟩
theorem eC.binds {x qual:Str}{st:Stmt}{f:Addr}{fd:FuncData}{ps:List Str} (F:eC K x qual st f fd)
  (h:∀ (kV doc pm:Value) (an:Option Addr) (cdv ct:Value) (us:List Value),us.length=ps.length->bindArgs (PySem.W.fnOf x qual (iA st) (dN st) (aQ st) .none kV doc pm an cdv ct) ⟨us,[]⟩=pure (ps.zip us)):gQ K fd ps []:=by
 obtain ⟨oc,od,kV,doc,pm,an,cdv,ct,osl,rfl,lk,hcd⟩:=F.ex
 exact .all (h kV doc pm an cdv ct)
theorem aq3 {x qual:Str}{st:Stmt}{f:Addr}{oc:Value}{od an:Option Addr}{osl:Array (Option Value)}{kV doc pm cdv ct:Value} (l:K.lookup f=some ⟨oc,od,.func (PySem.W.fnOf x qual (iA st) (dN st) (aQ st) .none kV doc pm an cdv ct),osl⟩)
  (c:PySem.W.codeIn K cdv qual=true) (k:PySem.W.keepIn K (.ref f)=true):eC K x qual st f (PySem.W.fnOf x qual (iA st) (dN st) (aQ st) .none kV doc pm an cdv ct):=⟨⟨oc,od,kV,doc,pm,an,cdv,ct,osl,rfl,l,c⟩,k⟩
end
theorem kE {A:Around}{k:Nat} (hr:bS k A):A.units+1 < cLine:=Nat.lt_of_le_of_lt (Nat.add_le_add_left (by decide:1<=64) _) hr.units
theorem pX {n:Nat} (h:n<=1000):n < sizeLine:=Nat.lt_of_le_of_lt h (by decide)
section
variable {X : Cx}
theorem pv (i:Nat) {x:Str}{pos:Pos} (hN:X.N[i]? = some x:=by rfl) (hv:eM X.env.scope x:=by first | exact Or.inl rfl | exact Or.inr (Or.inl rfl) | exact Or.inr (Or.inr rfl)) (hd:(x == ("__debug__" : Str))=false:=by decide)
  (hcd:(x == ("__classdict__" : Str))=false:=by decide):PE X (.Name x pos) (eN i):=fS hN hv hd hcd
theorem aq4:cS X (.builtin "len") (fun xs H Q=>∃ a kvs,xs = [V.ref a]/\H a=some (.dK kvs)/\Q (.int kvs.length) H):=by
 intro pins s σ H xs us Q I r h
 obtain ⟨a,kvs,rfl,ha,q⟩:=h
 obtain ⟨u,rfl,ru⟩:=gP r
 cases ru
 exact ap3 I (.inl ha) fun t s' I'=>⟨.int kvs.length,H,I',⟨t,rfl⟩,q⟩
end
theorem aO {A B:Prop} (h:B):if false=true then A else B:=by
 rw [if_neg bh8]
 exact h
theorem aW {A B:Prop} (h:A):if true=true then A else B:=by
 rw [if_pos rfl]
 exact h
def aD (H H':Hp):Prop:=∀ b o,H b=some o->H' b=some o
theorem aD.refl (H:Hp):aD H H:=fun _ _ h=>h
theorem aD.trans {H H1 H2:Hp} (a:aD H H1) (b:aD H1 H2):aD H H2:=fun c o h=>b c o (a c o h)
theorem aD.free {H H':Hp} (e:aD H H') {l:Addr} (h:H' l=Option.none):H l=Option.none:=by
 cases q:H l with
 | none=>rfl
 | some o=>
  rw [e l o q] at h
  cases h
theorem aD.seq {K:PySem.W.Frag}{H H':Hp}{a:Addr}{xs:List V} (e:aD H H') (h:aN K H a xs):aN K H' a xs:=by
 rcases h with (h | ⟨o,h⟩) | h
 ·exact .inl (.inl (e _ _ h))
 ·exact .inl (.inr ⟨o,e _ _ h⟩)
 ·exact .inr h
def dX (cells:List (Str × Addr)):List (Str × NameKind)->List (Str × Addr)->List (Str × Addr)
 | [],cs=>cs
 | (n,k) :: r,cs=>dX cells r (if k == .free then (n,(cells.lookup n).getD 0) :: cs else cs)
theorem uQ {env:Env}:∀ (ns:List (Str × NameKind)) (cs:List (Str × Addr)),(∀ x ∈ ns,x.2 = .free->∃ c,env.cells.lookup x.1=some c)->
  (forIn ns cs (fun (x:Str × NameKind) r=>(match x with
   | (name,kind)=>if (kind == .free)=true then (do let y <- cellOf env name; pure (ForInStep.yield ((name,y) :: r))) else pure (ForInStep.yield r)):_->_->Sem _))=(pure (dX env.cells ns cs):Sem (List (Str × Addr)))
 | [],cs,_=>by rw [List.forIn_nil]; rfl
 | (n,k) :: r,cs,h=>by
  rw [List.forIn_cons]
  have hr:∀ x ∈ r,x.2 = .free->∃ c,env.cells.lookup x.1=some c:=fun x hx=>h x (bh5 _ hx)
  cases hk:(k == NameKind.free) with
  | true=>
   have e:k = .free:=by simpa using hk
   obtain ⟨c,hc⟩:=h (n,k) bg7 e
   simp only [hk,if_true]
   have e1:cellOf env n=pure c:=by unfold cellOf; rw [hc]
   rw [e1]
   show ((pure c >>= fun y=>pure (ForInStep.yield ((n,y) :: cs))) >>= _:Sem _)=_
   rw [pure_bind,pure_bind]
   have:=uQ (env:=env) r ((n,c) :: cs) hr
   refine this.trans ?_
   unfold dX
   simp only [hk,if_true,hc,Option.getD_some]
   cases r <;> rfl
  | false=>
   simp only [hk,bi0,bm6]
   rw [pure_bind]
   have:=uQ (env:=env) r cs hr
   refine this.trans ?_
   conv=>rhs; unfold dX
   simp only [hk,bi0,bm6]
theorem pY {scope:Scope}{env:Env} (h:∀ x ∈ scope.names,x.2 = .free->∃ c,env.cells.lookup x.1=some c):closureFor scope env=pure (dX env.cells scope.names []):=by
 have e:=uQ (env:=env) scope.names [] h
 unfold closureFor
 rw [show (pure (dX env.cells scope.names []):Sem (List (Str × Addr)))=(pure (dX env.cells scope.names []) >>= pure) by rw [pure_bind]]
 rw [<- e]
theorem pZ {cells:List (Str × Addr)}:∀ (ns:List (Str × NameKind)) (cs:List (Str × Addr)) {x:Str}{c:Addr},(∀ y ∈ ns,y.2 = .free->∃ c,cells.lookup y.1=some c)->
  (∀ x c,cs.lookup x=some c->cells.lookup x=some c)->(dX cells ns cs).lookup x=some c->cells.lookup x=some c
 | [],cs,x,c,_,hc,h=>hc x c h
 | (n,k) :: r,cs,x,c,hn,hc,h=>by
  unfold dX at h
  have hr:∀ y ∈ r,y.2 = .free->∃ c,cells.lookup y.1=some c:=fun y hy=>hn y (bh5 _ hy)
  cases hk:(k == NameKind.free) with
  | false=>
   simp only [hk,bi0,bm6] at h
   exact pZ r cs hr hc h
  | true=>
   simp only [hk,if_true] at h
   refine pZ r _ hr (fun y d e=>?_) h
   obtain ⟨c0,h0⟩:=hn (n,k) bg7 (by simpa using hk)
   have h0:cells.lookup n=some c0:=h0
   rw [h0] at e
   rw [bn6] at e
   by_cases hyn:y=n
   ·subst hyn
    simp only [bo5,Option.getD_some] at e
    rw [h0]; exact e
   ·have:(y == n)=false:=beq_eq_false_iff_ne.mpr hyn
    simp only [this] at e
    exact hc y d e
theorem uR {cells:List (Str × Addr)}:∀ (ns:List (Str × NameKind)) (cs:List (Str × Addr)) {x:Str},((x,NameKind.free) ∈ ns ∨ ∃ c,cs.lookup x=some c)->∃ c,(dX cells ns cs).lookup x=some c
 | [],cs,x,h=>by
  rcases h with h | h
  ·simp at h
  ·exact h
 | (n,k) :: r,cs,x,h=>by
  unfold dX
  refine uR r _ ?_
  rcases h with h | ⟨c,h⟩
  ·rcases bg4.mp h with e | e
   ·cases e
    exact .inr ⟨_,by simp [bn6]; rfl⟩
   ·exact .inl e
  ·right
   cases hk:(k == NameKind.free) with
   | false=>exact⟨c,by simpa [hk] using h⟩
   | true=>
    simp only [if_true]
    rw [bn6]
    by_cases hxn:(x == n)=true
    ·simp only [hxn]; exact⟨_,rfl⟩
    ·simp only [Bool.eq_false_iff.mpr hxn]; exact⟨c,h⟩
theorem q0 {env:Env}:∀ {names:List (Str × NameKind)}{x:Str}{k:NameKind},(names.map fun (n,k)=>if (k == NameKind.free && env.scope.kind == .function && env.kindOf n == some .cell) then (n,NameKind.cell) else (n,k)).lookup x=some k->
  names.lookup x=some k ∨ (names.lookup x=some .free/\k = .cell)
 | [],_,_,h=>by simp at h
 | (n,q) :: r,x,k,h=>by
  have ih:=@q0 env r x k
  rw [bl7] at h
  by_cases hx:(x == n)=true
  ·have e:x=n:=by simpa using hx
   subst e
   by_cases hc:(q == NameKind.free && env.scope.kind == .function && env.kindOf x == some .cell)=true
   ·simp only [hc,if_true,bn6,bo5] at h
    have hq:q = .free:=by simp at hc; exact hc.1.1
    exact .inr ⟨by simp [bn6,hq],(bi5 h).symm⟩
   ·simp only [hc,bi0,bm6,bn6,bo5] at h
    exact .inl (by simp [bn6]; exact bi5 h)
  ·have hx':(x == n)=false:=Bool.eq_false_iff.mpr hx
   have h':(r.map fun (n,k)=>if (k == NameKind.free && env.scope.kind == .function && env.kindOf n == some .cell) then (n,NameKind.cell) else (n,k)).lookup x=some k:=by
    by_cases hc:(q == NameKind.free && env.scope.kind == .function && env.kindOf n == some .cell)=true
    ·simp only [hc,if_true,bn6,hx'] at h; exact h
    ·simp only [hc,bi0,bm6,bn6,hx'] at h; exact h
   simp only [bn6,hx']
   exact ih h'
def dO (fr:List (Option Nat)) (σ:St):St:=fr.map fun o=>o.bind fun j=>(σ[j]?).join
def Wk (σ₁ σ₂:St):Prop:=σ₁.length=σ₂.length/\∀ (i:Nat) v,σ₁[i]? = some (some v)->σ₂[i]? = some (some v)
theorem Wk.refl (σ:St):Wk σ σ:=⟨rfl,fun _ _ h=>h⟩
theorem Wk.set {σ τ:St}{i:Nat}{v:V} (h:Wk σ τ) (hi:σ[i]? = some none):Wk σ (τ.set i (some v)):=by
 refine⟨by rw [bl0]; exact h.1,fun j w e=>?_⟩
 by_cases hj:j=i
 ·subst hj; rw [hi] at e; cases e
 ·rw [bi1 (Ne.symm hj)]; exact h.2 j w e
theorem iS:∀ (ns:List (Str × NameKind)) (n:Nat) (cs:List (Str × Addr)),cellsFrom n ns cs=cellsFrom n ns [] ++ cs
 | [],_,_=>rfl
 | (x,k) :: r,n,cs=>by
  unfold cellsFrom
  split
  ·rw [iS r (n+1) ((x,n) :: cs),iS r (n+1) [(x,n)]]; simp
  ·exact iS r n cs
theorem uS:∀ (ns:List (Str × NameKind)) (n:Nat) {x:Str}{c:Addr},(x,c) ∈ cellsFrom n ns []->(x,NameKind.cell) ∈ ns
 | [],_,_,_,h=>by simp [cellsFrom] at h
 | (y,k) :: r,n,x,c,h=>by
  unfold cellsFrom at h
  split at h
  ·rename_i hk
   rw [iS] at h
   rcases bk1.mp h with z | z
   ·exact bh5 _ (uS r _ z)
   ·rw [bh6] at z
    cases z
    have:k = .cell:=by simpa using hk
    rw [this]; exact bg7
  ·exact bh5 _ (uS r _ h)
theorem qA:∀ (ns:List (Str × NameKind)) (n:Nat) {x:Str},(x,NameKind.cell) ∈ ns->∃ c,(x,c) ∈ cellsFrom n ns []
 | (y,k) :: r,n,x,h=>by
  unfold cellsFrom
  rcases bg4.mp h with z | z
  ·cases z
   rw [if_pos (by rfl),iS]
   exact⟨n,bk2 _ (by simp)⟩
  ·split
   ·obtain ⟨c,hc⟩:=qA r (n+1) z
    rw [iS]
    exact⟨c,bs6 _ hc⟩
   ·exact qA r n z
theorem uT {α:Type}:∀ {l:List (Str × α)}{x:Str}{c:α},(x,c) ∈ l->∃ d,l.lookup x=some d
 | (y,v) :: r,x,c,h=>by
  rw [bn6]
  cases hb:x == y with
  | true=>exact⟨v,rfl⟩
  | false=>
   rcases bg4.mp h with z | z
   ·cases z; simp at hb
   ·exact uT z
theorem qB {α:Type}{x:Str}:∀ (l r:List (Str × α)),(l ++ r).lookup x=(match l.lookup x with | some v=>some v | none=>r.lookup x)
 | [],_=>rfl
 | (y,v) :: l,r=>by
  rw [List.cons_append,bn6,bn6]
  cases hb:x == y with
  | true=>rfl
  | false=>exact qB l r
def fY (X:Cx) (scope:Scope) (C:Addr):List (Str × Addr):=cellsFrom (C+1) scope.names (dX X.env.cells scope.names [])
theorem kF {X:Cx}{scope:Scope}{C:Addr}{x:Str}{c:Addr} (h:(fY X scope C).lookup x=some c) :
  (x,c) ∈ cellsFrom (C+1) scope.names [] ∨ ((∀ d,(x,d) ∉ cellsFrom (C+1) scope.names [])/\(dX X.env.cells scope.names []).lookup x=some c):=by
 unfold fY at h
 rw [iS,qB] at h
 cases e:(cellsFrom (C+1) scope.names []).lookup x with
 | some v=>rw [e] at h; cases h; exact .inl (bm0 e)
 | none=>
  rw [e] at h
  refine .inr ⟨fun d hd=>?_,h⟩
  obtain ⟨d',z⟩:=uT hd
  rw [e] at z; cases z
theorem aq5 {X:Cx}{scope:Scope}{C:Addr}{x:Str}{c:Addr} (hn:(x,NameKind.cell) ∉ scope.names) (h:(dX X.env.cells scope.names []).lookup x=some c):(fY X scope C).lookup x=some c:=by
 unfold fY
 rw [iS,qB]
 cases e:(cellsFrom (C+1) scope.names []).lookup x with
 | some v=>exact absurd (uS _ _ (bm0 e)) hn
 | none=>exact h
theorem C4 {X:Cx}{scope:Scope}{C:Addr}{x:Str} (h:(x,NameKind.cell) ∈ scope.names ∨ ∃ c,(dX X.env.cells scope.names []).lookup x=some c):∃ c,(fY X scope C).lookup x=some c:=by
 unfold fY
 rw [iS,qB]
 cases e:(cellsFrom (C+1) scope.names []).lookup x with
 | some v=>exact⟨v,rfl⟩
 | none=>
  rcases h with h | h
  ·obtain ⟨c,hc⟩:=qA scope.names (C+1) h
   obtain ⟨d,hd⟩:=uT hc
   rw [e] at hd; cases hd
  ·exact h
def bD (X:Cx) (scope:Scope) (N:List Str) (s:Shared) (H:Hp) (C:Addr) (fp:List Addr) (E:Value->Shared->Prop):Cx:=
 { X with N:=N,s₀:=s,H₀:=H,env:=compEnvC scope (fY X scope C) C X.env,outer:=X.stack,ex:=fp,fn:=fun x=>scope.names.lookup x == some .cell,pn:=[],xe:=E }
structure cO (X:Cx) (scope:Scope) (N:List Str) (fr:List (Option Nat)):Prop where
 kind:scope.kind = .function
 own:∀ y ∈ scope.names,y.2 = .cell->scope.names.lookup y.1=some .cell
 names:∀ y ∈ scope.names,y.2 = .local->scope.names.lookup y.1=some .local
 free:∀ y ∈ scope.names,y.2 = .free->X.env.scope.names.lookup y.1=some .cell ∨ X.env.scope.names.lookup y.1=some .free
 len:fr.length=N.length
 from_:∀ (i j:Nat),fr[i]? = some (some j)->∃ x,N[i]? = some x/\X.N[j]? = some x/\scope.names.lookup x=some .free
section
variable {X : Cx} {pins : List (Addr × Obj)} {σ : St} {H : Hp} {s : Shared} {scope : Scope} {N : List Str} {fr : List (Option Nat)}
theorem cO.cells (S:cO X scope N fr) (I:a7 X pins σ H s):∀ y ∈ scope.names,y.2 = .free->∃ c,X.env.cells.lookup y.1=some c:=fun y hy hk=>I.ok.has y.1 (S.free y hy hk)
theorem aq6 {C D:Addr}{fp:List Addr}{E:Value->Shared->Prop}{h1:Heap}{tk:Nat}{m:Str->Option Value} (S:cO X scope N fr) (I:a7 X pins σ H s)
  (hf:∀ b ∈ fp,fU X pins H b) (hfl:∀ b ∈ fp,b < s.heap.objs.size) (hD:s.heap.objs.size<=D) (hC:s.heap.objs.size<=C) (hDC:D < C)
  (old:∀ b o,s.heap.get? b=some o->h1.get? b=some o) (hns:h1.Ns C m) (hacc:h1.get? D=some { cls:=.type "list",data:=.seq #[] 0 }) (hco:CellsOk h1 (C+1) (cellsFrom (C+1) scope.names [])) :
  a7 (bD X scope N s H C fp E) [] (dO fr σ) (upd H D (.lst [])) { s with heap:=h1,toks:=tk }:=by
 have hHD:H D=none:=I.hok.fresh hD
 have cl:=S.cells I
 have cs:∀ {x:Str}{c:Addr},(dX X.env.cells scope.names []).lookup x=some c->X.env.cells.lookup x=some c:=fun {x c} h=>pZ scope.names [] cl (fun _ _ z=>by simp at z) h
 have clt:∀ {x:Str}{c:Addr},X.env.cells.lookup x=some c->c < s.heap.objs.size:=fun {x c} h=>by obtain ⟨v,z⟩:=I.cell x c h; exact z.lt
 have nge:∀ {x:Str}{c:Addr},(x,c) ∈ cellsFrom (C+1) scope.names []->C < c:=fun {x c} h=>(hco.empty x c h).2
 refine⟨⟨I.ok.mod,?_,I.ok.glob,I.ok.blt,hC,?_,?_,?_,I.ok.hd,I.ok.frames,.inl rfl,?_,I.bs,bk0 I.ok.bsz I.sz,?_,?_,I.stack,I.stkFree⟩,rfl,I.bare,Un.laid old hD hHD,⟨m,hns,?_⟩,?_,?_,?_,fun p hp=>absurd (show p ∈ ([]:List (Addr × Obj)) from hp) (by simp),?_,?_⟩
 ·exact S.kind
 ·intro x y c h1 h2
  rcases kF h1 with a | ⟨_,a⟩ <;> rcases kF h2 with b | ⟨_,b⟩
  ·exact name_of_addr hco.apart a b
  ·exact absurd (bh0 (Nat.lt_trans (nge a) (clt (cs b))) hC) (bm5 _)
  ·exact absurd (bh0 (Nat.lt_trans (nge b) (clt (cs a))) hC) (bm5 _)
  ·exact I.ok.inj x y c (cs a) (cs b)
 ·intro x hx
  have hx:(relabel scope X.env).names.lookup x=some .cell ∨ (relabel scope X.env).names.lookup x=some .free:=hx
  have fin:(x,NameKind.free) ∈ scope.names->∃ c,(fY X scope C).lookup x=some c:=fun z=>C4 (.inr (uR scope.names [] (.inl z)))
  rcases hx with hx | hx
  ·rcases q0 hx with z | z
   ·exact C4 (.inl (bm0 z))
   ·exact fin (bm0 z.1)
  ·rcases q0 hx with z | z
   ·exact fin (bm0 z)
   ·exact absurd z.2 (by decide)
 ·intro x c hx h
  have hx:(scope.names.lookup x == some NameKind.cell)=true:=hx
  have hx:scope.names.lookup x=some .cell:=by simpa using hx
  rcases kF h with a | ⟨a,_⟩
  ·exact bk0 hC (bm3 (nge a))
  ·obtain ⟨d,hd⟩:=qA scope.names (C+1) (bm0 hx)
   exact absurd hd (a d)
 ·intro b hb
  refine⟨bi6 (bh0 (hfl b hb) hC),fun x c e=>?_⟩
  rcases kF e with a | ⟨_,a⟩
  ·exact bm4 (Nat.lt_trans (bh0 (hfl b hb) hC) (nge a))
  ·exact (hf b hb).2.2.2.2.1 x c (cs a)
 ·intro b o e hb
  rcases (hf b hb).2.2.2.1 with z | z
  ·exact I.ok.noex b o e z
  ·exact absurd (bh0 (bg8 e) (bk0 I.ok.bsz z)) (bm5 _)
 ·intro b hb z
  rcases bg4.mp (I.stkSub b z) with e | e
  ·exact (hf b hb).2.1 e
  ·exact (hf b hb).2.2.1 e
 ·intro i x v e1 e2 e3
  have e2:(fr.map fun o=>o.bind fun j=>(σ[j]?).join)[i]? = some (some v):=e2
  rw [bh1] at e2
  cases ef:fr[i]? with
  | none=>rw [ef] at e2; cases e2
  | some o=>
   rw [ef] at e2
   cases o with
   | none=>cases e2
   | some j=>
    have e2:some ((σ[j]?).join)=some (some v):=e2
    have ej:σ[j]? = some (some v):=by
     cases q:σ[j]? with
     | none=>rw [q] at e2; cases e2
     | some w=>rw [q] at e2; cases w with
      | none=>cases e2
      | some w=>cases e2; rfl
    obtain ⟨y,a1,a2,a4⟩:=S.from_ i j ef
    have e1:N[i]? = some x:=e1
    rw [e1] at a1
    cases a1
    have a3:(x,NameKind.free) ∈ scope.names:=bm0 a4
    have vis:eM X.env.scope x:=(S.free _ a3 rfl).elim (fun z=>.inr (.inl z)) fun z=>.inr (.inr z)
    obtain ⟨m0,hn0,hl0⟩:=I.loc
    obtain ⟨u,r,l⟩:=hl0 j x v a2 ej vis
    refine⟨u,r,.inr ⟨?_,?_⟩⟩
    ·have e3:(relabel scope X.env).names.lookup x=some .local ∨ (relabel scope X.env).names.lookup x=some .cell ∨ (relabel scope X.env).names.lookup x=some .free:=e3
     rcases e3 with z | z | z
     ·rcases q0 z with y | y
      ·rw [a4] at y; cases y
      ·exact absurd y.2 (by decide)
     ·exact .inl z
     ·exact .inr z
    ·obtain ⟨c,hc⟩:=uR (cells:=X.env.cells) scope.names [] (x:=x) (.inl a3)
     refine⟨c,aq5 (fun z=>by have:=S.own _ z rfl; rw [a4] at this; cases this) hc,?_⟩
     have hc':=cs hc
     have S1:=S.free (x,.free) a3 rfl
     rcases l with ⟨k,_⟩ | ⟨_,c2,hc2,z⟩
     ·have k:X.env.scope.names.lookup x=some .local:=k
      rcases S1 with q | q <;> (have q:X.env.scope.names.lookup x=_:=q; rw [k] at q; cases q)
     ·rw [hc'] at hc2; cases hc2
      obtain ⟨oc,ho,hd⟩:=z
      exact⟨oc,old c oc ho,hd⟩
 ·intro x c e
  rcases kF e with a | ⟨_,a⟩
  ·exact⟨_,(hco.empty x c a).1⟩
  ·obtain ⟨v,oc,ho,hd⟩:=I.cell x c (cs a)
   exact⟨v,oc,old c oc ho,hd⟩
 ·show upd H D (.lst []) C=none
  rw [aH (bm4 hDC)]; exact I.hok.fresh hC
 ·intro x c e
  show upd H D (.lst []) c=none
  rcases kF e with a | ⟨_,a⟩
  ·rw [aH (bm4 (Nat.lt_trans hDC (nge a)))]; exact I.hok.fresh (bk0 hC (bm3 (nge a)))
  ·have q:=cs a
   rw [aH (bi6 (bh0 (clt q) hD))]
   exact I.freeC x c q
 ·exact I.hok.laid old hD ⟨bk5 _,[],0,.nil,hacc⟩
 ·show (dO fr σ).length=N.length
  unfold dO; rw [bg5]; exact S.len
end
def iT (X:Cx) (ifs:List Expr) (t:TT):Prop:=
 ∀ (pins:List (Addr × Obj)) (s:Shared) (σ:St) (H:Hp) (Q:Bool->Hp->Prop),a7 X pins σ H s->t σ H Q->
  wpAny (model X.prog X.w) X.A (forIn ifs true fun c r=>if r=true then do let ok <- isTrue c X.env (eval c X.env); pure (ForInStep.yield ok) else pure (ForInStep.yield r)) (TP X pins σ Q) X.xe s
def uU:TT:=fun _ H Q=>Q true H
theorem qD {X:Cx}:iT X [] uU:=fun _ _ _ H _ I h=>wpAny_tests_nil ⟨H,I,h⟩
theorem uV {X:Cx}{c:Expr}{t:TT} (h:PT X c t):iT X [c] t:=fun pins s σ H Q I hq=>wpAny_tests_one (h pins s σ H Q I hq)
section
variable {prog : Program} {w : World} {A : Around}
def uW (prog:Program) (w:World) (A:Around) (elt tg:Expr) (ifs:List Expr) (it acc:Value) (env:Env) (lost:Value->Shared->Prop) (stop next:Shared->Prop) (s:Shared):Prop:=
 let M:=model prog w
 let tests:Sem Bool:=forIn ifs true fun c r=>if r=true then do let ok <- isTrue c env (eval c env); pure (ForInStep.yield ok) else pure (ForInStep.yield r)
 let put:Shared->Prop:=wpAny M A (eval elt env) (fun x=>wpAny M A (call (.builtin "list.append") [acc,x]) (fun _=>next) lost) lost
 let taken:Value->Shared->Prop:=fun v=>wpAny M A (letOwnedTupleGo tg it v) (fun _=>wpAny M A (assign tg env v) (fun _=>wpAny M A tests (fun ok s'=>if ok=true then put s' else next s') lost) lost) lost
 wpAny M A (pyNext it) (fun r s'=>match r with
  | none=>stop s'
  | some v=>taken v s') lost s
theorem aq7 {R:Result->Shared->Prop}{s:Shared}{elt tg iter:Expr}{ifs:List Expr}{scope:Scope}{pos:Pos}{it acc:Value}{env:Env} (I:Nat->Shared->Prop)
  (turn:∀ n s,I n s->uW prog w A elt tg ifs it acc env (notedBy (model prog w) A env fun e=>R (.error e)) (R (.ok .next)) (fun s'=>∃ m,m < n/\I m s') s) (n:Nat) (h:I n s) :
  codeAny (model prog w) A (.compLoop (.ListComp elt [⟨tg,iter,ifs,0⟩] scope pos) 0 it acc env) R s:=by
 apply codeAny_loop rfl I _ n h
 intro k s1 h1
 change wpAny _ A ((compTurn _ 0 it acc env).onRaise (fun x=>do noteFrame x env; theTreesLotGoes x)) _ _ s1
 apply wpAny_noted
 rw [compTurn_list]
 have t:=turn k s1 h1
 unfold uW at t
 apply bf5
 apply wpAny_standAt
 apply bf5
 refine bo4 t (fun r s2 h2=>?_) fun _ _ z=>z
 cases r with
 | none=>exact bf8 h2
 | some v=>
  apply bf5
  refine bo4 h2 (fun _ s3 h3=>?_) fun _ _ z=>z
  apply bf5
  refine bo4 h3 (fun _ s4 h4=>?_) fun _ _ z=>z
  apply bf5
  refine bo4 h4 (fun ok s5 h5=>?_) fun _ _ z=>z
  cases ok with
  | false=>exact bf8 ⟨rfl,h5⟩
  | true=>
   apply bf5
   apply bf5
   refine bo4 h5 (fun x s6 h6=>?_) fun _ _ z=>z
   apply bf5
   exact bo4 h6 (fun _ s7 h7=>bf8 (bf8 ⟨rfl,h7⟩)) fun _ _ z=>z
end
def o0 (g:TG) (tc:TT) (te:TE) (σ0:St) (J:It) (D:Addr) (Q:VK) (W:Nat->Nat->List V->Hp->Prop):Prop:=
 ∀ i m acc H',W i m acc H'->H' D=some (.lst acc)/\((J.stop i H'/\Q (.ref D) H') ∨ (J.go i H'/\∀ x H2,J.yld i H' x H2->g x σ0 H2 fun σ2 H3=>Wk σ0 σ2/\tc σ2 H3 fun b H4=>
  if b=true then te σ2 H4 fun v H5=>H5 D=some (.lst acc)/\acc.length < sizeLine/\∃ m',m' < m/\W (i+1) m' (acc ++ [v]) (upd H5 D (.lst (acc ++ [v]))) else ∃ m',m' < m/\W (i+1) m' acc H4))
def C5 (wi:TI) (fr:List (Option Nat)) (g:TG) (tc:TT) (te:TE):TE:=fun σ H Q=>wi σ H fun J H1=>∀ D,H1 D=none->
 ∃ W:Nat->Nat->List V->Hp->Prop,(∃ m,W 0 m [] (upd H1 D (.lst [])))/\o0 g tc te (dO fr σ) J D Q W
section
variable {M : Model} {A : Around} {E : Value → Shared → Prop} {s : Shared}
theorem aq8 {scope:Scope}{globals:Addr}{cl:List (Str × Addr)}{qual:Str}{func:Option Addr}{code:Value}{builtins:Addr}{outer:Env}{Q:Env->Shared->Prop}
  (hQ:∀ h',h'.Ns s.heap.objs.size (fun _=>none)->(∀ b o,s.heap.get? b=some o->h'.get? b=some o)->CellsOk h' (s.heap.objs.size+1) (cellsFrom (s.heap.objs.size+1) scope.names [])->
   Q (newEnv scope s.heap.objs.size globals (cellsFrom (s.heap.objs.size+1) scope.names cl) qual func code (some outer) builtins) { s with heap:=h' }) :
  wpAny M A (newFunctionEnv scope globals cl [] qual func code (some outer) builtins) Q E s:=by
 simp only [newFunctionEnv,Option.isSome_some,if_true]
 refine bf5 (wpAny_alloc ?_)
 refine bf5 (wpAny_layCells _ (fun name kind cells=>by cases hkc:kind == NameKind.cell <;> simp [hkc]) _ _ _ _ ?_)
 have ok:=cellsFrom_ok scope.names (s.heap.push { cls:=.type "dict",data:=.dict #[] }) (s.heap.objs.size+1) [] ⟨fun _ _ hm=>(nomatch hm),List.Pairwise.nil⟩ (by rw [bp3]; exact bg1 _)
 rw [bp3] at ok
 rw [show ({ s with heap:=s.heap.push { cls:=.type "dict",data:=.dict #[] } }:Shared).heap.objs.size=s.heap.objs.size+1 from bp3 ..]
 rw [List.forIn_nil]
 refine bf5 (bf8 (bf8 (hQ _ ((Heap.Ns.new s.heap (.type "dict")).keeps (pushCells_keeps _ _)) (fun b o e=>pushCells_keeps _ _ b o (bf7 _ e)) ok)))
end
section
variable {X : Cx} {pins : List (Addr × Obj)} {σ : St} {H : Hp} {s : Shared} {scope : Scope} {N : List Str} {fr : List (Option Nat)} {tg iter elt : Expr} {ifs : List Expr} {pos : Pos} {wi : TI} {g : TG} {tc : TT} {te : TE}
structure kG (X:Cx) (scope:Scope) (N:List Str) (tg:Expr) (ifs:List Expr) (elt:Expr) (s:Shared) (H:Hp) (g:TG) (tc:TT) (te:TE):Prop where
 tg:∀ (C:Addr) (fp:List Addr),PG (bD X scope N s H C fp fun _ _=>False) tg g
 ifs:∀ (C:Addr) (fp:List Addr),iT (bD X scope N s H C fp fun _ _=>False) ifs tc
 elt:∀ (C:Addr) (fp:List Addr),PE (bD X scope N s H C fp fun _ _=>False) elt te
structure qE (X:Cx) (scope:Scope) (N:List Str) (tg:Expr) (ifs:List Expr) (elt:Expr) (g:TG) (tc:TT) (te:TE):Prop where
 tg:∀ (s:Shared) (H:Hp) (C:Addr) (fp:List Addr),PG (bD X scope N s H C fp fun _ _=>False) tg g
 ifs:∀ (s:Shared) (H:Hp) (C:Addr) (fp:List Addr),iT (bD X scope N s H C fp fun _ _=>False) ifs tc
 elt:∀ (s:Shared) (H:Hp) (C:Addr) (fp:List Addr),PE (bD X scope N s H C fp fun _ _=>False) elt te
theorem qE.at (B:qE X scope N tg ifs elt g tc te) (s:Shared) (H:Hp):kG X scope N tg ifs elt s H g tc te:=⟨B.tg s H,B.ifs s H,B.elt s H⟩
theorem aq9 {C:Addr}{fp:List Addr}{E:Value->Shared->Prop}{pins':List (Addr × Obj)}{σ':St}{H':Hp}{s':Shared} (I:a7 X pins σ H s) (hf:∀ b ∈ fp,fU X pins H b) (I':a7 (bD X scope N s H C fp E) pins' σ' H' s'):a7 X pins σ H' s':=
 I.call' (ch:=fp) I'.os I'.base I'.hok I'.bare fun b hb=>⟨(hf b hb).2.2.2.1,(hf b hb).2.1,(hf b hb).2.2.2.2.1,(hf b hb).2.2.2.2.2⟩
theorem qF {Rr:Value->Addr->Result->Shared->Prop}{J:It}{fp:List Addr}{it:Addr}{tn:Nat->Heap->Prop}{Q:VK}
  (hc:X.calm=true) (S:cO X scope N fr) (B:kG X scope N tg ifs elt s H g tc te) (I:a7 X pins σ H s) (T:gO X.prog X.w X.K tg J fp it tn) (hst:tn 0 s.heap) (hf:∀ b ∈ fp,fU X pins H b)
  (h:∀ D,H D=none->∃ W:Nat->Nat->List V->Hp->Prop,(∃ m,W 0 m [] (upd H D (.lst [])))/\o0 g tc te (dO fr σ) J D Q W)
  (hend:∀ (D C:Addr) (s':Shared) (H':Hp) (m:Str->Option Value),s.heap.objs.size<=C->s.heap.objs.size<=D->a7 X pins σ H' s'->s'.heap.Ns C m->H' C=none->Q (.ref D) H'->Rr (.ref D) C (.ok .next) s') :
  wpAny (model X.prog X.w) X.A (newList []) (fun acc s₃=>wpAny (model X.prog X.w) X.A (newFunctionEnv scope X.env.globals (dX X.env.cells scope.names []) [] X.env.qual none .none (some X.env)) (fun cenv s₄=>
   codeAny (model X.prog X.w) X.A (.compStart (.ListComp elt [⟨tg,iter,ifs,0⟩] scope pos) 0 (.ref it) acc { cenv with scope:=relabel scope X.env }) (Rr acc cenv.locals) s₄) X.xe s₃) X.xe s:=by
 refine bj2 (aq8 (fun h₁ hns₁ keep₁ hco₁=>?_))
 dsimp only at hns₁ keep₁ hco₁ ⊢
 generalize hH2:s.heap.push { cls:=.type "list",dict:=none,data:=.seq ([]:List Value).toArray }=H2 at hns₁ keep₁ hco₁ ⊢
 have hC:H2.objs.size=s.heap.objs.size+1:=by rw [<- hH2,bp3]
 have hDC:s.heap.objs.size < H2.objs.size:=by rw [hC]; exact Nat.lt_succ_self _
 have hCle:s.heap.objs.size<=H2.objs.size:=by rw [hC]; exact Nat.le_succ _
 have old:∀ b o,s.heap.get? b=some o->h₁.get? b=some o:=fun b o e=>keep₁ b o (hH2 ▸ bf7 _ e)
 have hacc:h₁.get? s.heap.objs.size=some { cls:=.type "list",data:=.seq #[] 0 }:=keep₁ _ _ (hH2 ▸ bg6 _ rfl)
 have hfl:∀ b ∈ fp,b < s.heap.objs.size:=fun b hb=>by obtain ⟨o,e,_⟩:=T.obj _ _ hst b hb; exact bg8 e
 obtain ⟨W,⟨m0,w0⟩,turn⟩:=h s.heap.objs.size (I.hok.fresh (bg1 _))
 have st1:tn 0 h₁:=T.keep _ _ _ hst fun b _ o e=>old b o e
 have fr0:∀ b ∈ fp,upd H s.heap.objs.size (.lst []) b=none:=fun b hb=>by rw [aH (bi6 (hfl b hb))]; exact (hf b hb).1
 have stat:∀ {H':Hp},(∀ b ∈ fp,H' b=none)->∀ b ∈ fp,fU (bD X scope N s H H2.objs.size fp fun _ _=>False) [] H' b:=fun {H'} hn b hb=>by
  have f:=hf b hb
  refine⟨hn b hb,bi6 (bh0 (hfl b hb) hCle),fun z=>?_,.inl hb,fun x c e=>(kF e).elim (fun z=>bm4 (Nat.lt_trans (bh0 (hfl b hb) hCle) (hco₁.empty x c z).2)) fun z=>f.2.2.2.2.1 x c (pZ scope.names [] (S.cells I) (fun _ _ z=>by simp at z) z.2),fun p hp=>absurd (show p ∈ ([]:List (Addr × Obj)) from hp) (by simp)⟩
  rcases bg4.mp (I.stkSub b z) with e | e
  ·exact f.2.1 e
  ·exact f.2.2.1 e
 generalize hX:bD X scope N s H H2.objs.size fp (fun _ _=>False)=Y at stat
 have I0:a7 Y [] (dO fr σ) (upd H s.heap.objs.size (.lst [])) { s with heap:=h₁ }:=hX ▸ aq6 S I hf hfl (bg1 _) hCle hDC old hns₁ hacc hco₁
 have bt:PG Y tg g:=hX ▸ B.tg H2.objs.size fp
 have bi:iT Y ifs tc:=hX ▸ B.ifs H2.objs.size fp
 have be:PE Y elt te:=hX ▸ B.elt H2.objs.size fp
 have eP:Y.prog=X.prog:=by rw [<- hX]; rfl
 have ew:Y.w=X.w:=by rw [<- hX]; rfl
 have eK:Y.K=X.K:=by rw [<- hX]; rfl
 have eA:Y.A=X.A:=by rw [<- hX]; rfl
 have eE:Y.env=compEnvC scope (fY X scope H2.objs.size) H2.objs.size X.env:=by rw [<- hX]; rfl
 have eX:Y.xe=fun _ _=>False:=by rw [<- hX]; rfl
 have ec:Y.calm=true:=by rw [<- hX]; exact hc
 have never:∀ {E:Value->Shared->Prop} (e:Value) (s':Shared),Y.xe e s'->E e s':=fun {E} e s' z=>by rw [eX] at z; exact z.elim
 have out:∀ {pins' σ' H' s'},a7 Y pins' σ' H' s'->a7 X pins σ H' s':=fun {_ _ _ _} I'=>aq9 (C:=H2.objs.size) (E:=fun _ _=>False) (scope:=scope) (N:=N) I hf (hX ▸ I')
 have loop:codeAny (model X.prog X.w) X.A (.compLoop (.ListComp elt [⟨tg,iter,ifs,0⟩] scope pos) 0 (.ref it) (.ref s.heap.objs.size) (compEnvC scope (fY X scope H2.objs.size) H2.objs.size X.env))
   (Rr (.ref s.heap.objs.size) H2.objs.size) { s with heap:=h₁ }:=by
  refine aq7 (fun n s'=>∃ i acc H',a7 Y [] (dO fr σ) H' s'/\tn i s'.heap/\(∀ b ∈ fp,H' b=none)/\W i n acc H') ?_ m0 ⟨0,[],_,I0,st1,fr0,w0⟩
  rintro n s3 ⟨i,acc,H3,I3,st3,fr3,w3⟩
  unfold uW
  dsimp only
  obtain ⟨hD3,step⟩:=turn i n acc H3 w3
  rcases step with ⟨stop,qn⟩ | ⟨go,step⟩
  ·have z:=T.done Y eP ew eK ec i [] s3 _ H3 (notedBy (model X.prog X.w) X.A (compEnvC scope (fY X scope H2.objs.size) H2.objs.size X.env) fun e s'=>Rr (.ref s.heap.objs.size) H2.objs.size (.error e) s') I3 (stat fr3) st3 stop
   rw [eA] at z
   refine aJ z fun r s4 ⟨hr,I4⟩=>?_
   subst hr
   obtain ⟨m4,hn4,_⟩:=I4.loc
   rw [eE] at hn4
   have f4:=I4.free
   rw [eE] at f4
   exact hend _ _ s4 H3 m4 hCle (bg1 _) (out I4) hn4 f4 qn
  ·have z:=T.item Y eP ew eK ec i [] s3 _ H3 (notedBy (model X.prog X.w) X.A (compEnvC scope (fY X scope H2.objs.size) H2.objs.size X.env) fun e s'=>Rr (.ref s.heap.objs.size) H2.objs.size (.error e) s') I3 (stat fr3) st3 go
   rw [eA] at z
   refine aJ z fun r s4 ⟨u,hr,h4⟩=>?_
   subst hr
   refine aJ h4 fun _ s5 ⟨x,H5,I5,r5,y5,st5,fr5⟩=>?_
   have I5':=I5.pinned (stat fr5) (T.obj _ _ st5)
   have q1:=bt _ s5 _ H5 x u _ I5' r5 (step x H5 y5)
   rw [eP,ew,eA,eE] at q1
   refine bo4 q1 (fun _ s6 ⟨σ6,H6,I6,wk,q6⟩=>?_) never
   have q2:=bi _ s6 σ6 H6 _ I6 q6
   rw [eP,ew,eA,eE] at q2
   refine bo4 q2 (fun b s7 ⟨H7,I7,q7⟩=>?_) never
   have again:∀ {H8:Hp}{s8:Shared}{acc':List V},a7 Y ([] ++ nM fp s5.heap) σ6 H8 s8->(∃ m',m' < n/\W (i+1) m' acc' H8)->∃ m,m < n/\∃ i acc H',a7 Y [] (dO fr σ) H' s8/\tn i s8.heap/\(∀ b ∈ fp,H' b=none)/\W i m acc H':=fun {H8 s8 acc'} I8 n8=>by
    obtain ⟨m',hm,w8⟩:=n8
    refine⟨m',hm,i+1,acc',H8,(I8.unpinned).weak wk.1 wk.2,T.keep _ _ _ st5 fun b hb o e=>(I8.pin (b,o) (bk2 _ (bk2 _ (pJ hb e)))).1,fun b hb=>?_,w8⟩
    obtain ⟨o,e,d⟩:=T.obj _ _ st5 b hb
    exact (I8.pin (b,o) (bk2 _ (bk2 _ (pJ hb e)))).2.1
   cases b with
   | false=>
    rw [if_neg bh8] at q7 ⊢
    exact again I7 q7
   | true=>
    rw [if_pos rfl] at q7 ⊢
    have q3:=be _ s7 σ6 H7 _ I7 q7
    rw [eP,ew,eA,eE] at q3
    refine bo4 q3 (fun v s8 ⟨y,H8,I8,r8,hD8,hz8,q8⟩=>?_) never
    have q4:=pR _ s8 σ6 H8 (.ref s.heap.objs.size) [y] (.ref s.heap.objs.size) [v] (fun _ H9=>∃ m',m' < n/\W (i+1) m' (acc ++ [y]) H9) I8 rfl (.cons r8 .nil) ⟨_,_,_,rfl,rfl,hD8,hz8,q8⟩
    rw [eP,ew,eA] at q4
    exact bo4 q4 (fun _ s9 ⟨_,H9,I9,_,q9⟩=>again I9 q9) never
 exact codeAny_compStart_list loop (T.self _ 0 _ _ _ st1 loop)
end
section
variable {X : Cx} {scope : Scope} {N : List Str} {fr : List (Option Nat)} {tg iter elt : Expr} {ifs : List Expr} {pos : Pos} {wi : TI} {g : TG} {tc : TT} {te : TE}
theorem a7.drop {pins:List (Addr × Obj)}{σ:St}{H H':Hp}{s s':Shared}{C:Addr}{h':Heap} (I0:a7 X pins σ H s) (hC:s.heap.objs.size<=C) {σ':St} (I:a7 X pins σ' H' s') (hn:H' C=none) (sb:Heap.SameBut C s'.heap h'):a7 X pins σ' H' { s' with heap:=h' }:=by
 refine I.turned (t':=s'.toks) (it:=C) (fun b o hb e=>(sb.2 b hb).trans e) hn (bm4 (bh0 I0.lt hC)) (.inr (bk0 I0.sz hC)) (fun x c e z=>?_) fun p hp z=>?_
 ·obtain ⟨v,q⟩:=I0.cell x c e
  exact absurd (bh0 q.lt (by rw [z]; exact hC)) (bm5 _)
 ·exact absurd (bh0 (bg8 (I0.pin p hp).1) (by rw [z]; exact hC)) (bm5 _)
theorem C6 (hc:X.calm=true) (S:cO X scope N fr) (hi:PI X tg iter wi) (B:qE X scope N tg ifs elt g tc te)
  (hs:∀ x,foldedSetIterable iter X.env x=pure x:=by intro _; rfl):PE X (.ListComp elt [⟨tg,iter,ifs,0⟩] scope pos) (C5 wi fr g tc te):=by
 intro pins s σ H Q I h
 rw [eval_ListComp]
 refine wpAny_comprehension_free (use:=none) rfl hs (pY (S.cells I)) S.kind S.names (aJ (hi pins s σ H _ I h) fun v s1 h1=>aJ h1 fun itv s2 h2=>?_)
 obtain ⟨it,fp,tn,J,H2,e,I2,T,st2,f2,hW⟩:=h2
 subst e
 refine qF (Rr:=fun acc C=>compPost (model X.prog X.w) X.A X.xe none (EP X pins σ Q) acc C) hc S (B.at _ _) I2 T st2 f2 hW ?_
 intro D C s' H' m hC hD I' hns hHC q
 exact⟨m,hns,fun h' sb=>⟨.ref D,H',I2.drop hC I' hHC sb,rfl,q⟩⟩
theorem ar0 {i:Nat}{x:Str}{px spos:Pos} (hc:X.calm=true) (S:cO X scope N fr) (hi:PI X tg iter wi) (B:qE X scope N tg ifs elt g tc te) (hN:X.N.Nodup) (hix:X.N[i]? = some x) (hx:X.env.scope.names.lookup x=some .local)
  (hsw:swapsWith (.ListComp elt [⟨tg,iter,ifs,0⟩] scope pos) (some (.Name x px)) spos.line X.env=pure true) (hs:∀ x,foldedSetIterable iter X.env x=pure x:=by intro _; rfl) :
  PS X (.Assign [.Name x px] (.ListComp elt [⟨tg,iter,ifs,0⟩] scope pos) spos) (jH (C5 wi fr g tc te) (cF i)):=by
 intro pins s σ H D I h
 rw [exec_Assign_Name_used _ _ _ _ hsw]
 refine bf5 (wpAny_standAt (bf5 ?_))
 show wpAny _ _ (do let _ <- comprehension (.ListComp elt [⟨tg,iter,ifs,0⟩] scope pos) scope X.env _ (newList []) false (eval iter X.env) (some (assign (.Name x px) X.env))) _ _ s
 refine bf5 (bo4 (wpAny_comprehension_free (Q:=fun _ s'=>SP X pins D .next s') (use:=some (assign (.Name x px) X.env)) rfl hs (pY (S.cells I)) S.kind S.names (aJ (hi pins s σ H _ I h) fun v s1 h1=>aJ h1 fun itv s2 h2=>?_))
  (fun _ s' hq=>bf8 (bf8 hq)) fun _ _ e=>e)
 obtain ⟨it,fp,tn,J,H2,e,I2,T,st2,f2,hW⟩:=h2
 subst e
 refine qF (Rr:=fun acc C=>compPost (model X.prog X.w) X.A X.xe (some (assign (.Name x px) X.env)) (fun _ s'=>SP X pins D .next s') acc C) hc S (B.at _ _) I2 T st2 f2 hW ?_
 intro D' C s' H' m hC hD I' hns hHC q
 refine wpAny_assign_Name (tO I' hN hix (.inl hx) (v:=.ref D') rfl (fun s'' I'' sb=>?_) (.inr hx))
 obtain ⟨a,sb,ha⟩:=sb
 have hCa:C ≠ a:=by
  rcases ha with z | z
  ·rw [z]; exact bm4 (bh0 I2.lt hC)
  ·intro e; subst e
   obtain ⟨v,q⟩:=I2.cell x _ z
   exact absurd (bh0 q.lt hC) (bm5 _)
 exact⟨m,hns.sameBut sb hCa,fun h' sb'=>⟨_,H',I2.drop hC I'' hHC sb',q⟩⟩
variable {gh : Hp → TG} {tch : Hp → TT} {teh : Hp → TE}
def qG (wi:TI) (fr:List (Option Nat)) (gh:Hp->TG) (tch:Hp->TT) (teh:Hp->TE):TE:=fun σ H Q=>wi σ H fun J H1=>∀ D,H1 D=none->
 ∃ W:Nat->Nat->List V->Hp->Prop,(∃ m,W 0 m [] (upd H1 D (.lst [])))/\o0 (gh H1) (tch H1) (teh H1) (dO fr σ) J D Q W
theorem qH (hc:X.calm=true) (S:cO X scope N fr) (hi:PI X tg iter wi) (B:∀ (s:Shared) (H:Hp),kG X scope N tg ifs elt s H (gh H) (tch H) (teh H))
  (hs:∀ x,foldedSetIterable iter X.env x=pure x:=by intro _; rfl):PE X (.ListComp elt [⟨tg,iter,ifs,0⟩] scope pos) (qG wi fr gh tch teh):=by
 intro pins s σ H Q I h
 rw [eval_ListComp]
 refine wpAny_comprehension_free (use:=none) rfl hs (pY (S.cells I)) S.kind S.names (aJ (hi pins s σ H _ I h) fun v s1 h1=>aJ h1 fun itv s2 h2=>?_)
 obtain ⟨it,fp,tn,J,H2,e,I2,T,st2,f2,hW⟩:=h2
 subst e
 refine qF (Rr:=fun acc C=>compPost (model X.prog X.w) X.A X.xe none (EP X pins σ Q) acc C) hc S (B _ _) I2 T st2 f2 hW ?_
 intro D C s' H' m hC hD I' hns hHC q
 exact⟨m,hns,fun h' sb=>⟨.ref D,H',I2.drop hC I' hHC sb,rfl,q⟩⟩
theorem C7 {i:Nat}{x:Str}{px spos:Pos} (hc:X.calm=true) (S:cO X scope N fr) (hi:PI X tg iter wi) (B:∀ (s:Shared) (H:Hp),kG X scope N tg ifs elt s H (gh H) (tch H) (teh H)) (hN:X.N.Nodup) (hix:X.N[i]? = some x) (hx:X.env.scope.names.lookup x=some .local)
  (hsw:swapsWith (.ListComp elt [⟨tg,iter,ifs,0⟩] scope pos) (some (.Name x px)) spos.line X.env=pure true) (hs:∀ x,foldedSetIterable iter X.env x=pure x:=by intro _; rfl) :
  PS X (.Assign [.Name x px] (.ListComp elt [⟨tg,iter,ifs,0⟩] scope pos) spos) (jH (qG wi fr gh tch teh) (cF i)):=by
 intro pins s σ H D I h
 rw [exec_Assign_Name_used _ _ _ _ hsw]
 refine bf5 (wpAny_standAt (bf5 ?_))
 show wpAny _ _ (do let _ <- comprehension (.ListComp elt [⟨tg,iter,ifs,0⟩] scope pos) scope X.env _ (newList []) false (eval iter X.env) (some (assign (.Name x px) X.env))) _ _ s
 refine bf5 (bo4 (wpAny_comprehension_free (Q:=fun _ s'=>SP X pins D .next s') (use:=some (assign (.Name x px) X.env)) rfl hs (pY (S.cells I)) S.kind S.names (aJ (hi pins s σ H _ I h) fun v s1 h1=>aJ h1 fun itv s2 h2=>?_))
  (fun _ s' hq=>bf8 (bf8 hq)) fun _ _ e=>e)
 obtain ⟨it,fp,tn,J,H2,e,I2,T,st2,f2,hW⟩:=h2
 subst e
 refine qF (Rr:=fun acc C=>compPost (model X.prog X.w) X.A X.xe (some (assign (.Name x px) X.env)) (fun _ s'=>SP X pins D .next s') acc C) hc S (B _ _) I2 T st2 f2 hW ?_
 intro D' C s' H' m hC hD I' hns hHC q
 refine wpAny_assign_Name (tO I' hN hix (.inl hx) (v:=.ref D') rfl (fun s'' I'' sb=>?_) (.inr hx))
 obtain ⟨a,sb,ha⟩:=sb
 have hCa:C ≠ a:=by
  rcases ha with z | z
  ·rw [z]; exact bm4 (bh0 I2.lt hC)
  ·intro e; subst e
   obtain ⟨v,q⟩:=I2.cell x _ z
   exact absurd (bh0 q.lt hC) (bm5 _)
 exact⟨m,hns.sameBut sb hCa,fun h' sb'=>⟨_,H',I2.drop hC I'' hHC sb',q⟩⟩
end
theorem bE {H:Hp}{p:Addr} (h:H p=none) (o:HO):aD H (upd H p o):=fun b u q=>by rw [aH (cR q h)]; exact q
theorem aD.tup {K:PySem.W.Frag}{H H':Hp}{a:Addr}{xs:List V} (e:aD H H') (h:aL K H a xs):aL K H' a xs:=by
 rcases h with (h | ⟨o,h⟩) | h
 ·exact .inl (.inl (e _ _ h))
 ·exact .inl (.inr ⟨o,e _ _ h⟩)
 ·exact .inr h
structure C8 (H:Hp) (J:It) (xs:List V):Prop where
 go:∀ i H',aD H H'->i < xs.length->J.go i H'
 yld:∀ i H' x H2,aD H H'->J.yld i H' x H2->i < xs.length->xs[i]? = some x/\H2=H'
 stop:∀ H',aD H H'->J.stop xs.length H'
theorem ar1 {K:PySem.W.Frag}{H:Hp}{a:Addr}{xs:List V} (h:aL K H a xs):C8 H (jI K a) xs:=
 ⟨fun i H' e hi=>⟨xs,xs[i],e.tup h,by simp [hi]⟩,fun i H' x H2 e y hi=>⟨y.2 xs (e.tup h),y.1⟩,fun H' e=>⟨xs,e.tup h,bg1 _⟩⟩
def iU (lo:Int) (n:Nat):List V:=(List.range n).map fun (i:Nat)=>V.int (lo+(i:Int))
theorem uX (lo:Int) (n:Nat):(iU lo n).length=n:=by unfold iU; rw [bg5,bp9]
def CW (H1:Hp) (D:Addr) (n:Nat) (Pv:Nat->List V->Hp->Prop):Nat->Nat->List V->Hp->Prop:=fun i m acc H'=>m=n - i/\i<=n/\acc.length<=i/\aD H1 H'/\H' D=some (.lst acc)/\Pv i acc H'
def uY (H1:Hp) (D:Addr) (n:Nat) (Pv:Nat->List V->Hp->Prop) (i:Nat) (acc:List V) (v:V) (H5:Hp):Prop:=H5 D=some (.lst acc)/\acc.length < sizeLine/\∃ m',m' < n - i/\CW H1 D n Pv (i+1) m' (acc ++ [v]) (upd H5 D (.lst (acc ++ [v])))
def C9 (H1:Hp) (D:Addr) (n:Nat) (Pv:Nat->List V->Hp->Prop) (i:Nat) (acc:List V) (H4:Hp):Prop:=∃ m',m' < n - i/\CW H1 D n Pv (i+1) m' acc H4
structure qI (H1:Hp) (D:Addr) (n i:Nat) (acc:List V) (H':Hp):Prop where
 lt:i < n
 few:acc.length<=i
 sz:n<=sizeLine
 same:aD H1 H'
 new:H1 D=none
 acc:H' D=some (.lst acc)
theorem qI.yes {H1:Hp}{D:Addr}{n i:Nat}{acc:List V}{H' H5:Hp}{Pv:Nat->List V->Hp->Prop}{v:V} (c:qI H1 D n i acc H') (s:aD H' H5) (p:Pv (i+1) (acc ++ [v]) (upd H5 D (.lst (acc ++ [v])))):uY H1 D n Pv i acc v H5:=by
 refine⟨s _ _ c.acc,Nat.lt_of_le_of_lt c.few (bh0 c.lt c.sz),_,?_,rfl,c.lt,?_,fun b o e=>?_,b8,p⟩
 ·have:=c.lt; omega
 ·rw [bh9,bq2]; exact Nat.succ_le_succ c.few
 ·rw [aH (cR e c.new)]; exact s _ _ (c.same _ _ e)
theorem ar2 {H1:Hp}{J:It}{xs:List V}{g:TG}{tc:TT}{te:TE}{σ0:St}{Q:VK} (O:C8 H1 J xs) (Pv:Nat->List V->Hp->Prop) (hn:xs.length<=sizeLine)
  (h0:∀ D,H1 D=none->Pv 0 [] (upd H1 D (.lst [])))
  (hs:∀ i x acc D H',xs[i]? = some x->qI H1 D xs.length i acc H'->Pv i acc H'->g x σ0 H' fun σ2 H3=>Wk σ0 σ2/\tc σ2 H3 fun b H4=>
   if b=true then te σ2 H4 fun v H5=>uY H1 D xs.length Pv i acc v H5 else C9 H1 D xs.length Pv i acc H4)
  (hd:∀ D acc H',H1 D=none->aD H1 H'->H' D=some (.lst acc)->acc.length<=xs.length->Pv xs.length acc H'->Q (.ref D) H') :
  ∀ D,H1 D=none->∃ W:Nat->Nat->List V->Hp->Prop,(∃ m,W 0 m [] (upd H1 D (.lst [])))/\o0 g tc te σ0 J D Q W:=by
 intro D hD
 refine⟨CW H1 D xs.length Pv,⟨xs.length,rfl,bk5 _,bg1 _,bE hD _,b8,h0 D hD⟩,?_⟩
 rintro i m acc H' ⟨rfl,hi,ha,sm,hDa,p⟩
 refine⟨hDa,?_⟩
 by_cases hlt:i < xs.length
 ·refine .inr ⟨O.go i H' sm hlt,fun x H2 y=>?_⟩
  obtain ⟨hx,e⟩:=O.yld i H' x H2 sm y hlt
  subst e
  exact hs i x acc D H2 hx ⟨hlt,ha,hn,sm,hD,hDa⟩ p
 ·have e:i=xs.length:=by omega
  subst e
  exact .inl ⟨O.stop H' sm,hd D acc H' hD sm hDa ha p⟩
end L2
namespace Srt
open PySem PySem.W PyProof.Rows
abbrev G (p:Array Nat) (i:Nat):Nat:=p.getD i 0
def PP (n:Nat) (p:Array Nat):Prop:=p.toList.Perm (List.range n)
structure Ord (c:Nat->Nat->Bool):Prop where
 asym:∀ {i j},c i j=true->c j i=false
 ntr:∀ {i j k},c i j=false->c j k=false->c i k=false
section
variable {c : Nat → Nat → Bool} (O : Ord c)
def Le (c:Nat->Nat->Bool) (i j:Nat):Prop:=c j i=false
include O
theorem le_refl (i:Nat):Le c i i:=by
 unfold Le
 cases h:c i i with
 | false=>rfl
 | true=>have:=O.asym h; rw [h] at this; exact this
theorem le_trans {i j k:Nat} (h1:Le c i j) (h2:Le c j k):Le c i k:=O.ntr h2 h1
end
end Srt
namespace L2
open PySem PySem.Spec PyProof.Rows
theorem uZ:∀ {xs:List V}{us:List Value} (i:Nat),i < xs.length->aI xs us->aU (xs.getD i .non) (us.getD i Value.none)
 | _,_,_,h,.nil=>by simp at h
 | _,_,0,_,.cons r _=>by simpa using r
 | _,_,i+1,h,.cons _ t=>by
  have:=uZ i (by simpa using h) t
  simpa using this
theorem qJ {α:Type}:∀ l:List α,(l.zip l).map (·.2)=l
 | []=>rfl
 | a :: l=>by
  show a :: ((l.zip l).map (·.2))=a :: l
  rw [qJ l]
theorem ar3 {prog:Program}{w:World}{A:Around}{E:Value->Shared->Prop}{s:Shared}{a:Addr}{vs:List Value}{n:Nat}{P:PySem.Fin->Shared->Prop} (e:s.heap.get? a=some (seqObj "list" vs.toArray n)) (few:vs.length < 2)
  (q:P (.done (.ret .none)) { s with heap:=sortedHeap s.heap a vs vs.toArray }):wpAny (model prog w) A (Builtin.«list.sort» ⟨[.ref a],[]⟩) P E s:=by
 have big:vs.length<=sizeLine:=bk0 (bm3 few) (by decide)
 have la:=bg8 e
 have c:vs.toArray.size < 2:=by simpa using few
 have same:(arrOf (SortSt.mk' general' (vs.toArray.zip vs.toArray) #[] 7 none)).map (·.2)=vs.toArray:=by
  change (vs.toArray.zip vs.toArray).map (·.2)=vs.toArray
  apply Array.ext'
  simpa using qJ vs
 obtain ⟨k,ek⟩:∃ k,(s.heap.update a (Obj.mapSeq fun _=>#[])).get? a=some (seqObj "list" #[] k):=⟨_,get?_update_seq e fun _=>#[]⟩
 have there:(((s.heap.update a (Obj.mapSeq fun _=>#[])).push (seqObj "tuple" vs.toArray 0)).push (seqObj "list" #[] 0)).get? a=some (seqObj "list" #[] k):=
  bf7 _ (bf7 _ ek)
 rw [list_sort_plain]
 apply bf5
 apply listItems_at e rfl
 apply bf5
 refine listUpdate_at e rfl ?_ (by simpa using big) (bk5 _)
 apply bf5
 apply seqEpoch_at ek rfl
 apply bf5
 refine wpAny_newTuple ?_ big
 apply bf5
 refine wpAny_newList ?_ (bk5 _)
 apply bl6
 simp only [c,if_true,StateT.run_pure]
 apply bf5
 apply bf8
 apply bf5
 apply bf8
 apply bf5
 apply seqEpoch_at there rfl
 apply bf5
 refine listUpdate_at there rfl ?_ (bk5 _) (by rw [same,bg0]; exact Nat.le_succ_of_le big)
 rw [same]
 simp only [bne_self_eq_false,bi0,bm6]
 exact bf8 q
theorem ar4 {prog:Program}{w:World}{A:Around}{E:Value->Shared->Prop}{s:Shared}{l:Addr}{vs:List Value}{Q:Value->Shared->Prop} (hl:s.heap.IsList l vs.toArray) (few:vs.length < 2)
  (q:Q (.ref (s.heap.objs.size+1)) { s with heap:=sortedAll s.heap vs vs.toArray }):wpAny (model prog w) A (call (.builtin "sorted") [.ref l]) Q E s:=by
 have big:vs.length<=sizeLine:=bk0 (bm3 few) (by decide)
 apply Calls.call_function_entry kind_sorted plain_sorted entry_sorted (args_sorted1 _)
 simp only [Builtin.«sorted»]
 apply bf5 (m:=checkCount "sorted" 1 1 _)
 apply bf8
 apply bf5
 refine collect_list hl ?_ big
 apply bf5
 refine wpAny_newList ?_ big
 have one:((s.heap.push (seqObj "list" #[] 0)).update s.heap.objs.size (Obj.mapSeq (· ++ vs.toArray))).objs.size=s.heap.objs.size+1:=(Heap.size_update _ _ _).trans (size_push' _ _)
 have at1:(((s.heap.push (seqObj "list" #[] 0)).update s.heap.objs.size (Obj.mapSeq (· ++ vs.toArray))).push (seqObj "list" vs.toArray 0)).get? (s.heap.objs.size+1)=some (seqObj "list" vs.toArray 0):=one ▸ bg6 _ rfl
 change wpAny _ _ _ _ _ { s with heap:=((s.heap.push (seqObj "list" #[] 0)).update s.heap.objs.size (Obj.mapSeq (· ++ vs.toArray))).push (seqObj "list" vs.toArray 0) }
 rw [one]
 apply bf5
 apply bl6
 refine bj4 slot_list_sort ⟨_,at1,rfl⟩ entry_list_sort ?_ (args_list_sort _)
 refine ar3 at1 few ⟨_,rfl,?_⟩
 exact bf8 ⟨_,rfl,q⟩
def E1 (H:Hp):V->List Int
 | .ref b=>match H b with
  | some (.tup xs)=>xs.map fun x=>match x with
   | .int i=>i
   | _=>0
  | _=>[]
 | _=>[]
section
variable {prog : Program} {w : World} {A : Around} {s : Shared} {Q : Bool → Shared → Prop}
theorem E2:∀ {us ws:List Value}{xs ys:List Int} (i:Nat),IntsAre us xs->IntsAre ws ys->Q (HT.i8 xs ys) s->PySem.W.KatLex prog w A true (decide (us.length < ws.length)) Q (us.zip ws) i s
 | _,_,_,_,_,.nil,.nil,h=>h
 | _,_,_,_,_,.nil,.cons _ _ _,h=>h
 | _,_,_,_,_,.cons _ _ _,.nil,h=>h
 | _,_,_,_,i,.cons (vs:=us) x t hx,.cons (vs:=ws) y u hy,h=>by
  refine PySem.W.kat_cons (wpAny_eqBool_int ?_)
  rw [HT.nT] at h
  by_cases e:x=y
  ·rw [if_pos e] at h
   have eb:(x == y)=true:=by simpa using e
   rw [eb]
   refine PySem.W.kat_yes ?_
   have e2:decide ((Value.int x t :: us).length < (Value.int y u :: ws).length)=decide (us.length < ws.length):=by simp
   rw [e2]
   exact E2 (i+1) hx hy h
  ·rw [if_neg e] at h
   have eb:(x == y)=false:=by simpa using e
   rw [eb]
   refine PySem.W.kat_no ?_
   cases hi:(true && i == 0) with
   | true=>exact PySem.W.kat_lt_int h
   | false=>exact PySem.W.kat_one _ _ (lt_int h)
end
end L2
namespace Raw
open PySem PySem.W PySem.Calls PyProof.Rows
def fH (h:Heap) (d:Addr) (es:Array DictEntry) (ep:Nat):Prop:=∃ o,h.get? d=some o/\o.ExactDict/\o.data = .dict es ep
theorem fH.ty {s:Shared}{d:Addr}{es:Array DictEntry}{ep:Nat} (x:fH s.heap d es ep):s.TypeIs (.ref d) "dict":=x.elim fun o y=>⟨o,y.1,y.2.1.1⟩
theorem fH.lt {h:Heap}{d:Addr}{es:Array DictEntry}{ep:Nat} (x:fH h d es ep):d < h.objs.size:=x.elim fun _ y=>bg8 y.1
theorem fH.keep {h h':Heap}{d:Addr}{es:Array DictEntry}{ep:Nat} (x:fH h d es ep) (k:∀ o,h.get? d=some o->h'.get? d=some o):fH h' d es ep:=x.elim fun o y=>⟨o,k o y.1,y.2⟩
section
variable {prog : Program} {w : World} {A : Around} {E : Value → Shared → Prop} {s : Shared} {d it : Addr} {es : Array DictEntry} {ep i : Nat}
theorem made (far:(d == sysModules)=false) (x:fH s.heap d es ep) {Q:Value->Shared->Prop}
  (q:Q (.ref s.heap.objs.size) { s with heap:=s.heap.push { cls:=.type "dict_keyiterator",data:=.fields #[.ref d,.int 0 0,.int es.size 0,.int ep 0] } }):wpAny (model prog w) A (pyIter (.ref d)) Q E s:=by
 have T:=x.ty
 obtain ⟨o,e1,e2,e3⟩:=x
 apply wpAny_pyIter_slot T PySem.F.slot_dict_iter
 apply bj4 PySem.F.slot_dict_iter T PySem.F.entry_dict_iter _ (PySem.F.args_dict_iter_1 _)
 simp only [Builtin.«dict.__iter__»,Builtin.Dict.dictSlotNone]
 apply bf5
 apply bf5
 apply wpAny_notOrdered_dict T
 apply bf8
 change wpAny _ _ (Builtin.Dict.showsAll d >>= _) _ _ s
 have far':Builtin.Dict.showsAll d=pure ():=by
  unfold Builtin.Dict.showsAll
  simp only [far,bi0,bm6]
 rw [far',pure_bind]
 apply bf5
 apply wpAny_dictEntries e1 e3
 apply bf5
 apply wpAny_dictEpoch e1 e3
 apply bf5
 refine bj2 (bf8 ?_)
 refine⟨.ref s.heap.objs.size,rfl,"dict_keyiterator",_,⟨_,bg6 _ rfl,rfl⟩,PySem.F.slot_dict_keyiterator_next.lookup,?_⟩
 simpa only [rawInt] using q
theorem turn (hh:A.handled=none) (hi:s.heap.IsKeyIter it d i es.size ep) (x:fH s.heap d es ep) {Q:Option Value->Shared->Prop}
  (yes:∀ (lt:i < es.size) h',h'.IsKeyIter it d (i+1) es.size ep->Heap.SameBut it s.heap h'->Q (some es[i].key) { s with heap:=h' })
  (no:es.size<=i->∀ h',Heap.ExtBut it s.heap h'->Q none { s with heap:=h' }):wpAny (model prog w) A (pyNext (.ref it)) Q E s:=by
 have T:=hi.typeIs
 obtain ⟨oi,f1,f2,f3⟩:=hi
 obtain ⟨o,e1,e2,e3⟩:=x
 have slot:=PySem.F.slot_dict_keyiterator_next
 have plain:Builtin.Dict_items.ownsTuple "dict_keyiterator" = false:=by decide
 have isref:(Value.ref d == Value.none)=false:=rfl
 have nn : ¬ (i:Int) < 0:=by omega
 unfold pyNext
 apply bf5
 apply br0
 apply bj7 (name:=Str.ofString "__next__") T slot
 apply bj4 slot T PySem.F.entry_dict_keyiterator_next _ (PySem.F.args_dict_keyiterator_next_1 _)
 apply bf5
 apply bf8
 apply bf5
 apply bf5
 apply bf5
 first
  | apply wpAny_typeNameOfWhole_keyiter T
  | apply wpAny_typeNameOf_keyiter T
 apply bf8
 apply bf5
 apply wpAny_fieldsOf f1 f3
 simp only [plain,bi0,bm6]
 change wpAny _ _ (if (Value.ref d == Value.none)=true then _ else _) _ _ s
 have adr:Builtin.Dict_items.addrOf (Value.ref d)=pure d:=rfl
 simp only [isref,bi0,bm6,adr,pure_bind]
 apply bf5
 apply wpAny_dictEntries e1 e3
 simp only [bne_self_eq_false,bi0,bm6]
 apply bf5
 apply wpAny_dictEpoch e1 e3
 simp only [bne_self_eq_false,bi0,bm6]
 apply bf8
 simp only [nn,bm6,bs9]
 by_cases lt:i < es.size
 ·simp only [bj6 lt]
  apply bf5
  apply bf5
  first
   | apply wpAny_typeNameOfWhole_keyiter T
   | apply wpAny_typeNameOf_keyiter T
  apply bf8
  apply bf5
  apply wpAny_isOneOf_keyiter T
  change wpAny _ _ (setField (.ref it) 1 (rawInt ((i:Int)+1)) >>= _) _ _ s
  apply bf5
  refine br3 f1 f3 (by simp) ?_
  have again:(s.heap.update it (Obj.mapFields (·.setIfInBounds 1 (rawInt ((i:Int)+1))))).IsKeyIter it d (i+1) es.size ep:=by
   refine⟨_,bl8 _ f1 (Obj.isFreed_of_fields (Obj.data_mapFields f3 _)),?_,?_⟩
   ·rw [Obj.cls_mapFields]; exact f2
   ·rw [Obj.data_mapFields f3]; simp [rawInt]
  apply bf5
  apply bl6
  apply bf5
  refine wpAny_isOneOf_keyiter (s:={ s with heap:=s.heap.update it (Obj.mapFields (·.setIfInBounds 1 (rawInt ((i:Int)+1)))) }) again.typeIs ?_
  change wpAny _ _ (pure es[i].key) _ _ _
  apply bf8
  apply bf8
  exact⟨es[i].key,rfl,bf8 (yes lt _ again (bl1 ..))⟩
 ·have ge:es.size<=i:=bt9 lt
  simp only [br4 ge]
  apply bf5
  apply bf5
  first
   | apply wpAny_typeNameOfWhole_keyiter T
   | apply wpAny_typeNameOf_keyiter T
  apply bf8
  change wpAny _ _ (setField (.ref it) 0 .none >>= _) _ _ s
  apply bf5
  refine br3 f1 f3 (by simp) ?_
  apply bf5
  simp only [newExc,newTuple]
  apply bf5
  refine bj2 ?_ (by size_fits)
  apply bf5
  refine wpAny_of_eq (a:=Value.none) (by first | rfl | (simp only [firstArgMember]; rfl)) ?_
  refine bj2 ?_ (by size_fits)
  unfold raiseNew
  apply bf5
  apply wpAny_handled
  have quiet:A.in1.handled=none:=hh
  rw [quiet]
  refine wpAny_throw ?_
  apply bf5
  refine bu0 (T:="StopIteration") (b:=true) ⟨_,bg6 _ rfl,rfl⟩ isSubtype_stop ?_
  exact bf8 (no ge _ (((bl1 ..).extBut.push _).push _))
theorem ar5 (hh:A.handled=none) (ne:d ≠ it):Walks prog w A it [it,d] [it] es.size (fun i v=>∃ lt:i < es.size,es[i].key=v) (fun i h=>h.IsKeyIter it d i es.size ep/\fH h d es ep) where
 sub:=by intro b hb; rw [bh6.mp hb]; exact bg7
 frame:=by
  intro i h h' st hk
  exact⟨st.1.at (hk it bg7),st.2.keep (hk d (bh5 _ bg7))⟩
 item:=by
  intro i s Q E lt st hQ
  refine turn hh st.1 st.2 (fun lt' h' again sb=>?_) fun ge=>absurd lt (Nat.not_lt.mpr ge)
  exact hQ _ h' s.toks ⟨lt',rfl⟩ ⟨again,st.2.keep fun o e=>sb.extBut d o ne e⟩ fun b o hb e=>sb.extBut b o (fun z=>hb (bh6.mpr z)) e
 done:=by
  intro s Q E st hQ
  refine turn hh st.1 st.2 (fun lt=>absurd lt (bm5 _)) fun _ h' eb=>?_
  exact hQ h' s.toks fun b o hb e=>eb b o (fun z=>hb (bh6.mpr z)) e
 self:=by intro i s Q E st hQ; exact wpAny_pyIter_keyiter st.1 hQ
theorem E3 (far:(d == sysModules)=false):KdlSrc prog w "dict" d d es.size (fun i v=>∃ lt:i < es.size,es[i].key=v) (fun h=>fH h d es ep) where
 type:=fun _ x=>x.ty
 there:=fun _ x=>⟨x.lt,x.lt⟩
 keep:=fun _ _ x k=>x.keep (k d (.inl rfl))
 notList:=by decide
 notTuple:=by decide
 hint:=fun _ _ _ _ x q=>kdl_hint_dict x.ty q
 iter:=fun _ _ hh x=>⟨_,_,fun _ _ q=>made far x q,ar5 hh (bi6 x.lt),⟨_,bg6 _ rfl,rfl,rfl⟩,x.keep fun o e=>bf7 _ e⟩
end
end Raw
namespace L2
open PySem PySem.Spec PyProof.Rows
section
variable {X : Cx} {pins : List (Addr × Obj)} {σ : St} {H : Hp} {s : Shared} {a : Addr}
def o4 (H:Hp) (y:V) (k:List aA):Prop:=∃ q,y = .ref q/\H q=some (.tup (k.map kV))
theorem ar6 {kvs:List (aA × V)} (I:a7 X pins σ H s) (h:H a=some (.dK kvs)):∃ es ep,Raw.fH s.heap a es ep/\(a == sysModules)=false/\aI (kvs.map fun p=>kV p.1) (es.toList.map (·.key))/\kvs.length<=sizeLine:=by
 obtain ⟨z,far,vs,rel,o,es,ep,e1,e2,e3,kk,pr,nd⟩:=(show bH X.prog X.w H s.heap a (.dK kvs) from I.hok a _ h)
 refine⟨es,ep,⟨o,e1,e2,e3⟩,far,?_,z⟩
 clear z far e1 e2 e3 kk nd h
 generalize es.toList=l at pr
 induction pr generalizing kvs with
 | nil=>cases rel; exact .nil
 | @cons e k es' kvs' h1 h2 _ ih=>
  cases rel with
  | @cons p q ps qs r rs=>
   refine .cons ?_ (ih rs)
   obtain ⟨r1,_⟩:=r
   show aU (kV p.1) e.key
   rw [r1]
   rcases i7 h1 with ⟨n,t,e4,e5⟩ | ⟨x,t,e4,e5⟩
   ·rw [e4,e5]; exact⟨t,rfl⟩
   ·rw [e4,e5]; exact⟨t,rfl⟩
theorem E4 {kvs:List (List aA × V)} (I:a7 X pins σ H s) (h:H a=some (.dT kvs)):∃ es ep ys,Raw.fH s.heap a es ep/\(a == sysModules)=false/\Paired (o4 H) ys (kvs.map (·.1))/\aI ys (es.toList.map (·.key))/\kvs.length<=sizeLine:=by
 obtain ⟨z,far,xs,rel,o,es,ep,e1,e2,e3,e4,nd⟩:=(show bH X.prog X.w H s.heap a (.dT kvs) from I.hok a _ h)
 refine⟨es,ep,xs.map fun q=>V.ref q.2.1,⟨o,e1,e2,e3⟩,far,?_,?_,z⟩
 ·clear e4 nd h z
  induction rel with
  | nil=>exact .nil
  | cons r rs ih=>exact .cons ⟨_,rfl,r.2.1⟩ ih
 ·rw [e4]
  clear rel e4 nd
  induction xs with
  | nil=>exact .nil
  | cons q qs ih=>exact .cons rfl ih
theorem E5 {es:Array DictEntry}{acc:Array Value} (h:ItemsOf (fun i v=>∃ lt:i < es.size,es[i].key=v) acc es.size):acc.toList=es.toList.map (·.key):=by
 apply List.ext_getElem?
 intro j
 have h1:=h.1
 by_cases hj:j < es.size
 ·have hj':j < acc.size:=by rw [h1]; exact hj
  obtain ⟨_,e⟩:=h.2 j acc[j] (by simp [hj'])
  rw [bh1]
  simp [hj,hj',e]
 ·have hj' : ¬ j < acc.size:=by rw [h1]; exact hj
  rw [bh1]
  simp [bt9 hj,bt9 hj']
theorem ar7 (hc:X.calm=true):cS X (.type "list") (fun xs H Q=>∃ a kvs,xs = [.ref a]/\H a=some (.dT kvs)/\∀ l ys,H l=none->Paired (o4 H) ys (kvs.map (·.1))->Q (.ref l) (upd H l (.lst ys))):=by
 intro pins s σ H xs us Q I r h
 obtain ⟨a,kvs,rfl,ha,q⟩:=h
 obtain ⟨u,rfl,ru⟩:=gP r
 cases ru
 obtain ⟨es,ep,ys,rd,far,pk,vk,z⟩:=E4 I ha
 have hl:=vk.length
 have hl2:=pk.length
 rw [bg5] at hl hl2
 have hsz:es.toList.length=es.size:=bi3
 refine PySem.W.kdl_call (Raw.E3 far) (I.ok.hd hc) rd (by omega) fun h' tk acc c kp e it=>?_
 refine⟨.ref s.heap.objs.size,_,I.laid (t':=tk) kp (bg1 _) (show bH X.prog X.w _ h' _ (.lst ys) from ⟨by omega,acc.toList,c,by rw [E5 it]; exact vk,by simpa using e⟩),rfl,q _ ys (I.hok.fresh (bg1 _)) pk⟩
end
section
variable {X : Cx}
theorem ar8:cS X (.builtin "isinstance") (fun xs H Q=>∃ x t n b,xs = [x,.ty n]/\fA X.K H x t/\PySem.W.kitOne X.K t (.type n)=some b/\Q (.bl b) H):=by
 intro pins s σ H xs us Q I r h
 obtain ⟨x,t,n,b,rfl,ty,e,q⟩:=h
 obtain ⟨u,u',rfl,ru,ru'⟩:=nR r
 cases ru'
 exact am1 I ru ty e fun tk=>⟨.bl b,H,I.tok tk,rfl,q⟩
theorem ar9 {xs ys:List Int} (hl:xs.length=ys.length):((List.range xs.length).all fun j=>xs[j]? == ys[j]?)=decide (xs=ys):=by
 by_cases e:xs=ys
 ·subst e
  rw [bg3 rfl,bo6]
  intro j _
  simp
 ·rw [bg2 e]
  cases q:((List.range xs.length).all fun j=>xs[j]? == ys[j]?) with
  | false=>rfl
  | true=>
   refine absurd (List.ext_getElem? fun j=>?_) e
   by_cases hj:j < xs.length
   ·have:=bo6.mp q j (bw2.mpr hj)
    simpa using this
   ·rw [List.getElem?_eq_none (by omega),List.getElem?_eq_none (by omega)]
theorem as0 {A:Around}{s:Shared}{xs ys:List Int}{us ws:List Value} (r:aI (xs.map V.int) us) (r':aI (ys.map V.int) ws):∀ j (h1:j < us.toArray.size) (h2:j < ws.toArray.size),SeqAt.EqAt A s us.toArray[j] ws.toArray[j] (xs[j]? == ys[j]?):=by
 intro j h1 h2
 have l1:=r.length
 have l2:=r'.length
 rw [bg5] at l1 l2
 have k1:j < xs.length:=by rw [l1]; simpa using h1
 have k2:j < ys.length:=by rw [l2]; simpa using h2
 obtain ⟨u,eu,ru⟩:=r.get (i:=j) (x:=.int xs[j]) (by simp [k1])
 obtain ⟨v,ev,rv⟩:=r'.get (i:=j) (x:=.int ys[j]) (by simp [k2])
 have e1:us.toArray[j]=u:=by
  have:us.toArray[j]? = some u:=by simpa using eu
  rw [bj6 h1] at this; exact bi5 this
 have e2:ws.toArray[j]=v:=by
  have:ws.toArray[j]? = some v:=by simpa using ev
  rw [bj6 h2] at this; exact bi5 this
 obtain ⟨t,rfl⟩:=ru
 obtain ⟨t',rfl⟩:=rv
 rw [e1,e2,bf9 k1,bf9 k2]
 have:(some xs[j] == some ys[j])=(xs[j] == ys[j]):=rfl
 rw [this]
 exact SeqAt.EqAt.int_int _ _ _ _
end
def E6 (outer:List (Str × NameKind)) (XN:List Str) (names:List (Str × NameKind)) (N:List Str) (fr:List (Option Nat)):Bool:=
 names.all (fun y=>!(y.2 == .cell) || names.lookup y.1 == some .cell) && names.all (fun y=>!(y.2 == .local) || names.lookup y.1 == some .local) &&
 names.all (fun y=>!(y.2 == .free) || (outer.lookup y.1 == some .cell || outer.lookup y.1 == some .free)) && fr.length == N.length &&
 (fr.zip N).all (fun p=>match p.1 with
  | none=>true
  | some j=>XN[j]? == some p.2 && names.lookup p.2 == some .free)
theorem cO.of {X:Cx}{scope:Scope}{N:List Str}{fr:List (Option Nat)} (hk:scope.kind = .function) (h:E6 X.env.scope.names X.N scope.names N fr=true):cO X scope N fr:=by
 unfold E6 at h
 simp only [bj5] at h
 obtain ⟨⟨⟨⟨h1,h2⟩,h3⟩,h4⟩,h5⟩:=h
 refine⟨hk,fun y hy e=>?_,fun y hy e=>?_,fun y hy e=>?_,by simpa using h4,fun i j e=>?_⟩
 ·have:=bo6.mp h1 y hy
  rw [e] at this; simpa using this
 ·have:=bo6.mp h2 y hy
  rw [e] at this; simpa using this
 ·have:=bo6.mp h3 y hy
  rw [e] at this; simpa using this
 ·have hl:fr.length=N.length:=by simpa using h4
  have hi:i < fr.length:=(bh4.mp e).1
  have m:(some j,N[i]'(by omega)) ∈ fr.zip N:=by
   have:(fr.zip N)[i]? = some (some j,N[i]'(by omega)):=by
    rw [List.getElem?_zip_eq_some]
    exact⟨e,by simp⟩
   exact bk6 this
  have:=bo6.mp h5 _ m
  simp only [bj5,beq_iff_eq] at this
  exact⟨N[i]'(by omega),by simp,this.1,this.2⟩
theorem wk0 {n:Option V}{r:St}{v:V}:Wk (none :: r) (some v :: r):=(Wk.refl (none :: r)).set (i:=0) rfl
def lN (H:Hp) (ys:List V) (ls:List (Int × Int)):Prop:=Paired (fun y l=>∃ b,y = .ref b/\H b=some (.tup [.int l.1,.int l.2])) ys ls
structure E7 (H:Hp) (v:V) (ws:List Int) (ls:List (Int × Int)):Prop where
 at_:∃ a p q ys,v = .ref a/\H a=some (.tup [.ref p,.ref q])/\H p=some (.tup (ws.map V.int))/\H q=some (.tup ys)/\lN H ys ls
theorem lN.get {H:Hp}:∀ {ys:List V}{ls:List (Int × Int)}{i:Nat}{y:V},lN H ys ls->ys[i]? = some y->∃ l b,ls[i]? = some l/\y = .ref b/\H b=some (.tup [.int l.1,.int l.2])
 | _,_,_,_,.nil,e=>by simp at e
 | _,_,0,_,.cons (b:=l) ⟨b,h1,h2⟩ _,e=>by simp at e; subst e; exact⟨l,b,rfl,h1,h2⟩
 | _,_,i+1,_,.cons _ t,e=>by
  obtain ⟨l,b,h1,h2⟩:=lN.get (i:=i) t (by simpa using e)
  exact⟨l,b,by simpa using h1,h2⟩
def bW (ls:List (Int × Int)) (k:Int):List Int:=ls.flatMap fun l=>(if l.1=k then [l.2] else []) ++ (if l.2=k then [l.1] else [])
theorem as1 (ls:List (Int × Int)) (l:Int × Int) (k:Int):bW (ls ++ [l]) k=bW ls k ++ ((if l.1=k then [l.2] else []) ++ (if l.2=k then [l.1] else [])):=by
 unfold bW; rw [List.flatMap_append]; simp
theorem E8 {ls:List (Int × Int)}{i:Nat}{l:Int × Int} (h:ls[i]? = some l) (k:Int):bW (ls.take (i+1)) k=bW (ls.take i) k ++ ((if l.1=k then [l.2] else []) ++ (if l.2=k then [l.1] else [])):=by
 rw [bt0,h]; exact as1 _ _ _
structure iV (H H':Hp) (r:Addr) (bs:List Addr) (f:Nat->List Int):Prop where
 new:H r=none
 news:∀ b ∈ bs,H b=none/\b ≠ r
 nd:bs.Nodup
 row:H' r=some (.lst (bs.map V.ref))
 rows:∀ (k:Nat) (b:Addr),bs[k]? = some b->H' b=some (.lst ((f k).map V.int))
 same:aD H H'
theorem iV.congr {H H':Hp}{r:Addr}{bs:List Addr}{f g:Nat->List Int} (h:iV H H' r bs f) (e:∀ k,k < bs.length->f k=g k):iV H H' r bs g:=
 ⟨h.new,h.news,h.nd,h.row,fun k b hb=>by rw [<- e k (bh4.mp hb).1]; exact h.rows k b hb,h.same⟩
theorem iV.app {H H':Hp}{r:Addr}{bs:List Addr}{f:Nat->List Int} (h:iV H H' r bs f) {k:Nat}{b:Addr} (hb:bs[k]? = some b) (x:Int) :
  iV H (upd H' b (.lst ((f k).map V.int ++ [V.int x]))) r bs (fun j=>if j=k then f j ++ [x] else f j):=by
 have hm:b ∈ bs:=bk6 hb
 refine⟨h.new,h.news,h.nd,by rw [aH (Ne.symm (h.news b hm).2)]; exact h.row,fun j c hc=>?_,fun c o e=>by rw [aH (cR e (h.news b hm).1)]; exact h.same c o e⟩
 by_cases hj:j=k
 ·subst hj
  rw [hb] at hc; cases hc
  rw [b8,if_pos rfl]; simp
 ·rw [if_neg hj]
  have ne:c ≠ b:=fun z=>by
   subst z
   obtain ⟨i1,e1⟩:=bh4.mp hb
   obtain ⟨i2,e2⟩:=bh4.mp hc
   refine hj (Nat.le_antisymm (bt9 fun z=>?_) (bt9 fun z=>?_))
   ·exact bl9.mp h.nd _ _ i1 i2 z (e1.trans e2.symm)
   ·exact bl9.mp h.nd _ _ i2 i1 z (e2.trans e1.symm)
  rw [aH ne]; exact h.rows j c hc
theorem o7 (ls:List (Int × Int)) (k:Int):(bW ls k).length<=2 * ls.length:=by
 induction ls with
 | nil=>exact bg1 _
 | cons l r ih=>
  have e:bW (l :: r) k=((if l.1=k then [l.2] else []) ++ (if l.2=k then [l.1] else [])) ++ bW r k:=rfl
  rw [e,bh9,bh9,bj0]
  have h1:(if l.1=k then [l.2] else []).length<=1:=by split <;> simp
  have h2:(if l.2=k then [l.1] else []).length<=1:=by split <;> simp
  omega
theorem qK {α:Type}{xs:List α}{i:Int}{v:α} (h0:0<=i) (h:xs[i.toNat]? = some v):atI xs i=some v:=by
 have:=pO h
 rwa [show ((i.toNat:Nat):Int)=i by omega] at this
theorem gT {n:Nat} (h:n<=16000000):n < sizeLine:=by rw [sizeLine_eq]; omega
theorem qL {σ:St}{H:Hp}{A B:Hp->Prop} (h:A H):uU σ H fun b H4=>if b=true then A H4 else B H4:=by
 show if true=true then A H else B H
 rw [if_pos rfl]; exact h
theorem o8 {K:PySem.W.Frag}{H:Hp}{p:Addr}{xs:List V} (h:aN K H p xs):fX K "list" (.ref p) H:=.inl ⟨rfl,xs,h⟩
def o9 (H:Hp) (y:V):Int × Int:=match E1 H y with
 | [a,b]=>(a,b)
 | _=>(0,0)
theorem qM {H:Hp}:∀ {zs:List V},(∀ y ∈ zs,∃ b,y = .ref b/\H b=some (.tup [.int (o9 H y).1,.int (o9 H y).2])/\E1 H y = [(o9 H y).1,(o9 H y).2])->lN H zs (zs.map (o9 H))
 | [],_=>.nil
 | y :: zs,h=>by
  obtain ⟨b,e,hb,_⟩:=h y bg7
  exact .cons ⟨b,e,hb⟩ (qM fun z hz=>h z (bh5 _ hz))
end L2
namespace Zp
open PySem PyProof.Rows
section
variable {prog : Program} {w : World} {A : Around} {E : Value → Shared → Prop} {s : Shared}
theorem E9 {it t:Addr}{i:Nat}{items:Array Value}{x:Value}{Q:Value->Shared->Prop} (hi:s.heap.IsTupleIter it t i) (ht:s.heap.IsTuple t items) (hx:items[i]? = some x)
  (q:∀ h',h'.IsTupleIter it t (i+1)->Heap.SameBut it s.heap h'->Q x { s with heap:=h' }):wpAny (model prog w) A (Builtin.SmallTypes.nextOf (.ref it)) Q E s:=by
 have T:=hi.typeIs
 obtain ⟨o,e1,e2,e3⟩:=hi
 obtain ⟨u,f1,_,k,f3⟩:=ht
 have slot:=PySem.F.slot_tuple_iterator_next
 have isref:(Value.ref t == Value.none)=false:=rfl
 unfold Builtin.SmallTypes.nextOf
 apply bf5
 apply bj7 (name:=Str.ofString "__next__") T slot
 apply bj4 slot T PySem.F.entry_tuple_iterator_next _ (PySem.F.args_tuple_iterator_next_1 _)
 change wpAny _ _ (field (.ref it) 0 >>= _) _ _ s
 apply bf5
 refine bm9 e1 e3 (x:=.ref t) rfl ?_
 change wpAny _ _ (if (Value.ref t == Value.none)=true then _ else _) _ _ s
 simp only [isref,bi0,bm6]
 change wpAny _ _ (field (.ref it) 1 >>= _) _ _ s
 apply bf5
 refine bm9 e1 e3 (x:=.int i 0) rfl ?_
 change wpAny _ _ (seqItems? (.ref t) >>= _) _ _ s
 apply bf5
 apply bu4 f1 f3
 simp only [bs9,hx]
 apply bf5
 refine br3 e1 e3 (by simp) ?_
 apply bf8
 refine⟨x,rfl,bf8 (q _ ⟨_,bl8 _ e1 (Obj.isFreed_of_fields (Obj.data_mapFields e3 _)),?_,?_⟩ (bl1 ..))⟩
 ·rw [Obj.cls_mapFields]; exact e2
 ·rw [Obj.data_mapFields e3]; simp [rawInt]
theorem F0 {it t:Addr}{i:Nat}{items:Array Value}{Q:Value->Shared->Prop} (hh:A.handled=none) (hi:s.heap.IsTupleIter it t i) (ht:s.heap.IsTuple t items) (hx:items[i]? = none)
  (q:∀ h' e,Heap.ExtBut it s.heap h'->(∃ o,h'.get? e=some o/\o.cls = .type "StopIteration")->E (.ref e) { s with heap:=h' }):wpAny (model prog w) A (Builtin.SmallTypes.nextOf (.ref it)) Q E s:=by
 have T:=hi.typeIs
 obtain ⟨o,e1,e2,e3⟩:=hi
 obtain ⟨u,f1,_,k,f3⟩:=ht
 have slot:=PySem.F.slot_tuple_iterator_next
 have isref:(Value.ref t == Value.none)=false:=rfl
 unfold Builtin.SmallTypes.nextOf
 apply bf5
 apply bj7 (name:=Str.ofString "__next__") T slot
 apply bj4 slot T PySem.F.entry_tuple_iterator_next _ (PySem.F.args_tuple_iterator_next_1 _)
 change wpAny _ _ (field (.ref it) 0 >>= _) _ _ s
 apply bf5
 refine bm9 e1 e3 (x:=.ref t) rfl ?_
 change wpAny _ _ (if (Value.ref t == Value.none)=true then _ else _) _ _ s
 simp only [isref,bi0,bm6]
 change wpAny _ _ (field (.ref it) 1 >>= _) _ _ s
 apply bf5
 refine bm9 e1 e3 (x:=.int i 0) rfl ?_
 change wpAny _ _ (seqItems? (.ref t) >>= _) _ _ s
 apply bf5
 apply bu4 f1 f3
 simp only [bs9,hx]
 apply bf5
 apply bs2
 apply bf5
 refine br3 e1 e3 (by simp) ?_
 apply bf5
 simp only [newExc,newTuple]
 apply bf5
 refine bj2 ?_ (by size_fits)
 apply bf5
 refine wpAny_of_eq (a:=Value.none) (by first | rfl | (simp only [firstArgMember]; rfl)) ?_
 refine bj2 ?_ (by size_fits)
 unfold raiseNew
 apply bf5
 apply wpAny_handled
 have quiet:A.in1.handled=none:=hh
 rw [quiet]
 refine wpAny_throw ?_
 exact q _ _ (((bl1 ..).extBut.push _).push _) ⟨_,bg6 _ rfl,rfl⟩
theorem as2 (hh:A.handled=none) (it t:Addr) (ne:t ≠ it) (items:Array Value):Draws prog w A it [it,t] items.size (fun i v=>items[i]? = some v) (fun i h=>h.IsTupleIter it t i/\h.IsTuple t items) where
 live:=fun _ _ st=>st.1.elim fun o y=>⟨o,y.1⟩
 frame:=fun _ _ _ st k=>⟨st.1.at fun o e=>k it bg7 o e,st.2.elim fun o y=>⟨o,k t (bh5 _ bg7) o y.1,y.2⟩⟩
 item:=fun i s Q E lt st q=>E9 st.1 st.2 (bj6 lt) fun h' again sb=>q _ h' s.toks (bj6 lt) ⟨again,st.2.elim fun o y=>⟨o,sb.extBut t o ne y.1,y.2⟩⟩ sb
 done:=fun s Q E st q=>F0 hh st.1 st.2 (br4 (bg1 _)) q
end
structure Ap (z TI TO i1 i2:Addr) (fp1 fp2:List Addr):Prop where
 TIz:TI ≠ z
 TOz:TO ≠ z
 TITO:TI ≠ TO
 z1:z ∉ fp1
 z2:z ∉ fp2
 o1:TO ∉ fp1
 o2:TO ∉ fp2
 t1:TI ∉ fp1
 t2:TI ∉ fp2
 m1:i1 ∈ fp1
 m2:i2 ∈ fp2
 n1:i1 ∉ fp2
 n2:i2 ∉ fp1
structure v0 (z TI TO i1 i2:Addr) (St1 St2:Nat->Heap->Prop) (f0:Value) (i j:Nat) (h:Heap):Prop where
 zz:IsZip h z TI TO f0
 ti:IsPair h TI (.ref i1) (.ref i2)
 to_:∃ a b,IsPair h TO a b
 s1:St1 i h
 s2:St2 j h
section
variable {prog : Program} {w : World} {A : Around} {E : Value → Shared → Prop} {s : Shared} {z TI TO i1 i2 : Addr} {fp1 fp2 : List Addr} {n1 n2 : Nat} {P1 P2 : Nat → Value → Prop} {St1 St2 : Nat → Heap → Prop}
theorem lO (ap:Ap z TI TO i1 i2 fp1 fp2) {b:Addr} (h:b ∉ fp1):b ≠ i1:=fun e=>h (e ▸ ap.m1)
theorem qN (ap:Ap z TI TO i1 i2 fp1 fp2) {b:Addr} (h:b ∉ fp2):b ≠ i2:=fun e=>h (e ▸ ap.m2)
theorem item (D1:Draws prog w A.in1 i1 fp1 n1 P1 St1) (D2:Draws prog w A.in1 i2 fp2 n2 P2 St2) (ap:Ap z TI TO i1 i2 fp1 fp2) {i:Nat} (l1:i < n1) (l2:i < n2) (st:v0 z TI TO i1 i2 St1 St2 .none i i s.heap) {Q:Option Value->Shared->Prop}
  (q:∀ x y h' tk,P1 i x->P2 i y->v0 z TI TO i1 i2 St1 St2 (rawInt s.heap.objs.size) (i+1) (i+1) h'->IsPair h' s.heap.objs.size x y->(∀ c o,c ≠ z->c ≠ TO->c ≠ i1->c ≠ i2->s.heap.get? c=some o->h'.get? c=some o)->
   h'.objs.size=s.heap.objs.size+1->Q (some (.ref s.heap.objs.size)) { s with heap:=h',toks:=tk }):wpAny (model prog w) A (pyNext (.ref z)) Q E s:=by
 obtain ⟨hz,hti,⟨a,b,hto⟩,h1,h2⟩:=st
 have T:s.TypeIs (.ref z) "zip":=⟨_,hz,rfl⟩
 have slot:=PySem.F.slot_zip_next
 unfold pyNext
 apply bf5
 apply br0
 apply bj7 (name:=Str.ofString "__next__") T slot
 apply bj4 slot T PySem.F.entry_zip_next _ (PySem.F.args_zip_next_1 _)
 change wpAny _ _ (field (.ref z) 2 >>= _) _ _ _
 apply bf5
 refine bm9 hz rfl (x:=.bool false) rfl ?_
 change wpAny _ _ (field (.ref z) 3 >>= _) _ _ _
 apply bf5
 refine bm9 hz rfl (x:=.ref TI) rfl ?_
 apply bf5
 apply bu4 hti rfl
 change wpAny _ _ (Builtin.SmallTypes.ownedTupleIsFree (.ref z) >>= _) _ _ _
 apply bf5
 unfold Builtin.SmallTypes.ownedTupleIsFree
 apply bf5
 refine bm9 hz rfl (x:=.none) rfl (bf8 ?_)
 simp only [if_true]
 apply bf5
 apply bs2
 apply bf5
 refine bm9 hz rfl (x:=.ref TO) rfl ?_
 apply bf5
 refine bn9 hz (by simp) fun g1 hz1 sb1=>?_
 have k1:∀ c o,c ≠ z->s.heap.get? c=some o->g1.get? c=some o:=fun c o c1 e=>sb1.extBut c o c1 e
 apply bf5
 simp only [List.zipIdx_cons,List.zipIdx_nil,List.forIn_cons,List.forIn_nil]
 apply bf5
 apply bf5
 apply wpAny_onRaise
 change wpAny _ _ (Builtin.SmallTypes.nextOf (.ref i1) >>= _) _ _ _
 apply bf5
 refine D1.item i { s with heap:=g1 } _ _ l1 (D1.frame _ _ _ h1 fun c hc o e=>k1 c o (fun y=>ap.z1 (y ▸ hc)) e) fun x g2 tk2 px st1 sb2=>bf8 ?_
 have k2:∀ c o,c ≠ z->c ≠ i1->s.heap.get? c=some o->g2.get? c=some o:=fun c o c1 c2 e=>sb2.extBut c o c2 (k1 c o c1 e)
 have to2:IsPair g2 TO a b:=k2 _ _ ap.TOz (lO ap ap.o1) hto
 apply bf5
 apply bu4 to2 rfl
 apply bf5
 refine wpAny_updateSeq_pair to2 fun g3 to3 sb3=>?_
 have to3:IsPair g3 TO x b:=to3
 apply bf5
 apply wpAny_letGo
 apply bf8
 apply bf5
 apply bf5
 apply wpAny_onRaise
 change wpAny _ _ (Builtin.SmallTypes.nextOf (.ref i2) >>= _) _ _ _
 apply bf5
 have k3:∀ c o,c ≠ z->c ≠ i1->c ≠ TO->s.heap.get? c=some o->g3.get? c=some o:=fun c o c1 c2 c3 e=>sb3.extBut c o c3 (k2 c o c1 c2 e)
 refine D2.item i { s with heap:=g3,toks:=tk2 } _ _ l2 (D2.frame _ _ _ h2 fun c hc o e=>k3 c o (fun y=>ap.z2 (y ▸ hc)) (fun y=>ap.n1 (y ▸ hc)) (fun y=>ap.o2 (y ▸ hc)) e) fun y g4 tk4 py st2 sb4=>bf8 ?_
 have to4:IsPair g4 TO x b:=sb4.extBut _ _ (qN ap ap.o2) to3
 apply bf5
 apply bu4 to4 rfl
 apply bf5
 refine wpAny_updateSeq_pair to4 fun g5 to5 sb5=>?_
 have to5:IsPair g5 TO x y:=to5
 apply bf5
 apply wpAny_letGo
 apply bf8
 apply bf8
 apply bf5
 apply bu4 to5 rfl
 apply bf5
 refine wpAny_newTuple ?_ (by show 2<=sizeLine; decide)
 have size:g5.objs.size=s.heap.objs.size:=by rw [sb5.1,sb4.1,sb3.1,sb2.1,sb1.1]
 have k5:∀ c o,c ≠ z->c ≠ TO->c ≠ i1->c ≠ i2->s.heap.get? c=some o->g5.get? c=some o:=fun c o c1 c2 c3 c4 e=>sb5.extBut c o c2 (sb4.extBut c o c4 (k3 c o c1 c3 c2 e))
 have z5:IsZip g5 z TI TO .ellipsis:=sb5.extBut _ _ (Ne.symm ap.TOz) (sb4.extBut _ _ (qN ap ap.z2) (sb3.extBut _ _ (Ne.symm ap.TOz) (sb2.extBut _ _ (lO ap ap.z1) hz1)))
 change wpAny _ _ (Builtin.SmallTypes.ownedTupleHandOut (.ref z) (.ref g5.objs.size) >>= _) _ _ _
 apply bf5
 unfold Builtin.SmallTypes.ownedTupleHandOut
 apply bf5
 have z6:IsZip (g5.push { cls:=.type "tuple",data:=.seq #[x,y] }) z TI TO .ellipsis:=bf7 _ z5
 refine bn9 z6 (by simp) fun g7 z7 sb7=>?_
 have z7:IsZip g7 z TI TO (rawInt g5.objs.size):=z7
 refine bn9 z7 (by simp) fun g8 z8 sb8=>?_
 have z8:IsZip g8 z TI TO (rawInt g5.objs.size):=z8
 have zlt:z < g5.objs.size:=bg8 z5
 have up:∀ c o,c ≠ z->g5.get? c=some o->g8.get? c=some o:=fun c o c1 e=>sb8.extBut c o c1 (sb7.extBut c o c1 (bf7 _ e))
 have p8:IsPair g8 g5.objs.size x y:=sb8.extBut _ _ (bm4 zlt) (sb7.extBut _ _ (bm4 zlt) (bg6 _ rfl))
 have s8:g8.objs.size=g5.objs.size+1:=by rw [sb8.1,sb7.1,bp3]
 have f1:St1 (i+1) g8:=D1.frame _ _ _ st1 fun c hc o e=>up c o (fun y=>ap.z1 (y ▸ hc)) (sb5.extBut c o (fun y=>ap.o1 (y ▸ hc)) (sb4.extBut c o (fun y=>ap.n2 (y ▸ hc)) (sb3.extBut c o (fun y=>ap.o1 (y ▸ hc)) e)))
 have f2:St2 (i+1) g8:=D2.frame _ _ _ st2 fun c hc o e=>up c o (fun y=>ap.z2 (y ▸ hc)) (sb5.extBut c o (fun y=>ap.o2 (y ▸ hc)) e)
 have ti8:IsPair g8 TI (.ref i1) (.ref i2):=up _ _ ap.TIz (k5 _ _ ap.TIz ap.TITO (lO ap ap.t1) (qN ap ap.t2) hti)
 rw [size] at z8 p8 s8
 apply bf8
 refine⟨_,rfl,bf8 ?_⟩
 change Q (some (.ref g5.objs.size)) _
 rw [size]
 exact q x y g8 tk4 px py ⟨z8,ti8,⟨x,y,up _ _ ap.TOz to5⟩,f1,f2⟩ p8 (fun c o c1 c2 c3 c4 e=>up c o c1 (k5 c o c1 c2 c3 c4 e)) s8
theorem fin (D1:Draws prog w A.in1 i1 fp1 n1 P1 St1) (D2:Draws prog w A.in1 i2 fp2 n2 P2 St2) (ap:Ap z TI TO i1 i2 fp1 fp2) {i:Nat} (le:i=n1 ∨ (i < n1/\i=n2)) (st:v0 z TI TO i1 i2 St1 St2 .none i i s.heap) {Q:Option Value->Shared->Prop}
  (q:∀ h' tk,(∀ c o,c ≠ z->c ≠ TO->c ≠ i1->c ≠ i2->s.heap.get? c=some o->h'.get? c=some o)->Q none { s with heap:=h',toks:=tk }):wpAny (model prog w) A (pyNext (.ref z)) Q E s:=by
 obtain ⟨hz,hti,⟨a,b,hto⟩,h1,h2⟩:=st
 have T:s.TypeIs (.ref z) "zip":=⟨_,hz,rfl⟩
 have slot:=PySem.F.slot_zip_next
 unfold pyNext
 apply bf5
 apply br0
 apply bj7 (name:=Str.ofString "__next__") T slot
 apply bj4 slot T PySem.F.entry_zip_next _ (PySem.F.args_zip_next_1 _)
 change wpAny _ _ (field (.ref z) 2 >>= _) _ _ _
 apply bf5
 refine bm9 hz rfl (x:=.bool false) rfl ?_
 change wpAny _ _ (field (.ref z) 3 >>= _) _ _ _
 apply bf5
 refine bm9 hz rfl (x:=.ref TI) rfl ?_
 apply bf5
 apply bu4 hti rfl
 change wpAny _ _ (Builtin.SmallTypes.ownedTupleIsFree (.ref z) >>= _) _ _ _
 apply bf5
 unfold Builtin.SmallTypes.ownedTupleIsFree
 apply bf5
 refine bm9 hz rfl (x:=.none) rfl (bf8 ?_)
 simp only [if_true]
 apply bf5
 apply bs2
 apply bf5
 refine bm9 hz rfl (x:=.ref TO) rfl ?_
 apply bf5
 refine bn9 hz (by simp) fun g1 hz1 sb1=>?_
 have k1:∀ c o,c ≠ z->s.heap.get? c=some o->g1.get? c=some o:=fun c o c1 e=>sb1.extBut c o c1 e
 apply bf5
 simp only [List.zipIdx_cons,List.zipIdx_nil,List.forIn_cons,List.forIn_nil]
 apply bf5
 apply bf5
 apply wpAny_onRaise
 change wpAny _ _ (Builtin.SmallTypes.nextOf (.ref i1) >>= _) _ _ _
 apply bf5
 have z1:IsZip g1 z TI TO .ellipsis:=hz1
 rcases le with rfl | ⟨lt,rfl⟩
 ·refine D1.done { s with heap:=g1 } _ _ (D1.frame _ _ _ h1 fun c hc o e=>k1 c o (fun y=>ap.z1 (y ▸ hc)) e) fun g2 e eb ex=>?_
  have z2:IsZip g2 z TI TO .ellipsis:=eb _ _ (lO ap ap.z1) z1
  refine bn9 z2 (by simp) fun g3 z3 sb3=>?_
  obtain ⟨oe,eo,co⟩:=ex
  have ne:e ≠ z:=fun y=>by
   rw [y,z2] at eo
   have:=bi5 eo
   rw [<- this] at co; exact absurd (show Value.type "zip" = Value.type "StopIteration" from co) (by decide)
  apply bf5
  refine bu0 (T:="StopIteration") (b:=true) ⟨oe,sb3.extBut _ _ ne eo,co⟩ isSubtype_stop ?_
  exact bf8 (q g3 s.toks fun c o c1 _ c3 _ e=>sb3.extBut c o c1 (eb c o c3 (k1 c o c1 e)))
 ·refine D1.item i { s with heap:=g1 } _ _ lt (D1.frame _ _ _ h1 fun c hc o e=>k1 c o (fun y=>ap.z1 (y ▸ hc)) e) fun x g2 tk2 px st1 sb2=>bf8 ?_
  have k2:∀ c o,c ≠ z->c ≠ i1->s.heap.get? c=some o->g2.get? c=some o:=fun c o c1 c2 e=>sb2.extBut c o c2 (k1 c o c1 e)
  have to2:IsPair g2 TO a b:=k2 _ _ ap.TOz (lO ap ap.o1) hto
  apply bf5
  apply bu4 to2 rfl
  apply bf5
  refine wpAny_updateSeq_pair to2 fun g3 to3 sb3=>?_
  apply bf5
  apply wpAny_letGo
  apply bf8
  apply bf5
  apply bf5
  apply wpAny_onRaise
  change wpAny _ _ (Builtin.SmallTypes.nextOf (.ref i2) >>= _) _ _ _
  apply bf5
  have k3:∀ c o,c ≠ z->c ≠ i1->c ≠ TO->s.heap.get? c=some o->g3.get? c=some o:=fun c o c1 c2 c3 e=>sb3.extBut c o c3 (k2 c o c1 c2 e)
  refine D2.done { s with heap:=g3,toks:=tk2 } _ _ (D2.frame _ _ _ h2 fun c hc o e=>k3 c o (fun y=>ap.z2 (y ▸ hc)) (fun y=>ap.n1 (y ▸ hc)) (fun y=>ap.o2 (y ▸ hc)) e) fun g4 e eb ex=>?_
  have z4:IsZip g4 z TI TO .ellipsis:=eb _ _ (qN ap ap.z2) (sb3.extBut _ _ (Ne.symm ap.TOz) (sb2.extBut _ _ (lO ap ap.z1) z1))
  refine bn9 z4 (by simp) fun g5 z5 sb5=>?_
  obtain ⟨oe,eo,co⟩:=ex
  have ne:e ≠ z:=fun y=>by
   rw [y,z4] at eo
   have:=bi5 eo
   rw [<- this] at co; exact absurd (show Value.type "zip" = Value.type "StopIteration" from co) (by decide)
  apply bf5
  refine bu0 (T:="StopIteration") (b:=true) ⟨oe,sb5.extBut _ _ ne eo,co⟩ isSubtype_stop ?_
  exact bf8 (q g5 tk2 fun c o c1 c2 c3 c4 e=>sb5.extBut c o c1 (eb c o c4 (k3 c o c1 c3 c2 e)))
end
def fI (h:Heap) (t u:Addr):Heap:=
 ((((h.push { cls:=.type "tuple_iterator",data:=.fields #[.ref t,.int 0 0] }).push { cls:=.type "tuple_iterator",data:=.fields #[.ref u,.int 0 0] }).push { cls:=.type "tuple",data:=.seq #[.ref h.objs.size,.ref (h.objs.size+1)] }).push
  { cls:=.type "tuple",data:=.seq #[.none,.none] }).push { cls:=.type "zip",data:=.fields #[.none,.bool false,.bool false,.ref (h.objs.size+2),.ref (h.objs.size+3)] }
theorem as3 (t u:Addr) (xs ys:Array Value):Meets (Builtin.«zip.__new__» ⟨[.type "zip",.ref t,.ref u],[]⟩) (fun _ R s=>s.heap.IsTuple t xs/\s.heap.IsTuple u ys/\R (.ok (.ret (.ref (s.heap.objs.size+4)))) { s with heap:=fI s.heap t u }):=
 .of_wp fun prog w A R s h=>by
  obtain ⟨hp,g,d,tk,os⟩:=s
  obtain ⟨ht,hu,h⟩:=h
  have sub:=sub_zip
  have a1:Heap.IsTuple (Shared.heap ⟨hp,g,d,tk,os⟩) t xs:=ht
  have a2:Heap.IsTuple (Shared.heap ⟨hp.push { cls:=.type "tuple_iterator",data:=.fields #[.ref t,.int 0 0] },g,d,tk,os⟩) u ys:=hu.elim fun o y=>⟨o,bf7 _ y.1,y.2⟩
  wp_walk using bs1 a1,bs1 a2
  have e:∀ (o:Obj) (k:Heap),(k.push o).objs.size=k.objs.size+1:=fun o k=>bp3 ..
  refine⟨_,rfl,?_⟩
  simp only [fI,e] at h ⊢
  exact h
section
variable {prog : Program} {w : World} {A : Around} {E : Value → Shared → Prop} {s : Shared}
theorem as4 {t u:Addr}{xs ys:Array Value}{Q:Value->Shared->Prop} (ht:s.heap.IsTuple t xs) (hu:s.heap.IsTuple u ys)
  (q:∀ h',IsZip h' (s.heap.objs.size+4) (s.heap.objs.size+2) (s.heap.objs.size+3) .none->IsPair h' (s.heap.objs.size+2) (.ref s.heap.objs.size) (.ref (s.heap.objs.size+1))->
   IsPair h' (s.heap.objs.size+3) .none .none->h'.IsTupleIter s.heap.objs.size t 0->h'.IsTupleIter (s.heap.objs.size+1) u 0->(∀ c o,s.heap.get? c=some o->h'.get? c=some o)->Q (.ref (s.heap.objs.size+4)) { s with heap:=h' }) :
  wpAny (model prog w) A (call (.type "zip") [.ref t,.ref u]) Q E s:=by
 refine callType_new PySem.F.called_zip (by decide) (PySem.F.typeCall_zip_2 _ _) (PySem.F.newCall_zip_2 _ _) (fun obj=>PySem.F.args_object_init_3 obj _ _) PySem.F.entry_zip_new (as3 t u xs ys) ⟨ht,hu,?_⟩
 have e:∀ (o:Obj) (k:Heap),(k.push o).objs.size=k.objs.size+1:=fun o k=>bp3 ..
 have p0:∀ (k:Heap) (o:Obj) (m:Nat),o.isFreed=false->m=k.objs.size->(k.push o).get? m=some o:=fun k o m f z=>by rw [z]; exact bg6 _ f
 have g0:(fI s.heap t u).get? s.heap.objs.size=some { cls:=.type "tuple_iterator",data:=.fields #[.ref t,.int 0 0] }:=by
  unfold fI
  exact bf7 _ (bf7 _ (bf7 _ (bf7 _ (p0 _ _ _ rfl rfl))))
 have g1:(fI s.heap t u).get? (s.heap.objs.size+1)=some { cls:=.type "tuple_iterator",data:=.fields #[.ref u,.int 0 0] }:=by
  unfold fI
  exact bf7 _ (bf7 _ (bf7 _ (p0 _ _ _ rfl (by simp only [e]))))
 have g2:(fI s.heap t u).get? (s.heap.objs.size+2)=some { cls:=.type "tuple",data:=.seq #[.ref s.heap.objs.size,.ref (s.heap.objs.size+1)] }:=by
  unfold fI
  exact bf7 _ (bf7 _ (p0 _ _ _ rfl (by simp only [e])))
 have g3:(fI s.heap t u).get? (s.heap.objs.size+3)=some { cls:=.type "tuple",data:=.seq #[.none,.none] }:=by
  unfold fI
  exact bf7 _ (p0 _ _ _ rfl (by simp only [e]))
 have g4:(fI s.heap t u).get? (s.heap.objs.size+4)=some { cls:=.type "zip",data:=.fields #[.none,.bool false,.bool false,.ref (s.heap.objs.size+2),.ref (s.heap.objs.size+3)] }:=by
  unfold fI
  exact p0 _ _ _ rfl (by simp only [e])
 refine⟨⟨_,g4,rfl⟩,q _ g4 g2 g3 ⟨_,g0,rfl,rfl⟩ ⟨_,g1,rfl,rfl⟩ fun c o z=>?_⟩
 unfold fI
 exact bf7 _ (bf7 _ (bf7 _ (bf7 _ (bf7 _ z))))
end
end Zp
namespace L2
open PySem PySem.Spec PyProof.Rows
def v3 (K:PySem.W.Frag) (a b:Addr):It:=
  ⟨fun i H=>∃ xs ys x y,aL K H a xs/\aL K H b ys/\xs[i]? = some x/\ys[i]? = some y,
   fun i H v H'=>∃ T x y,H T=none/\v = .ref T/\H'=upd H T (.tup [x,y])/\∀ xs ys,aL K H a xs->aL K H b ys->xs[i]? = some x/\ys[i]? = some y,
   fun i H=>∃ xs ys,aL K H a xs/\aL K H b ys/\(i=xs.length ∨ (i < xs.length/\i=ys.length))⟩
def Sq (t:Bool) (K:PySem.W.Frag) (H:Hp) (a:Addr) (xs:List V):Prop:=match t with
 | true=>aL K H a xs
 | false=>aN K H a xs
def fJ (t:Bool) (h:Heap) (i a:Addr) (n:Nat):Prop:=match t with
 | true=>h.IsTupleIter i a n
 | false=>h.IsListIter i a n
def F1 (t:Bool) (h:Heap) (a:Addr) (xs:Array Value):Prop:=match t with
 | true=>h.IsTuple a xs
 | false=>h.IsList a xs
theorem fJ.at {h h':Heap}{i a:Addr}{n:Nat}:∀ {t:Bool},fJ t h i a n->(∀ o,h.get? i=some o->h'.get? i=some o)->fJ t h' i a n
 | true,x,k=>Heap.IsTupleIter.at x k
 | false,x,k=>Heap.IsListIter.at x k
theorem fJ.ob {h:Heap}{i a:Addr}{n:Nat}:∀ {t:Bool},fJ t h i a n->∃ o,h.get? i=some o/\∀ v,o.data ≠ .cell v
 | true,⟨o,f,_,d⟩=>⟨o,f,fun v q=>by rw [d] at q; cases q⟩
 | false,⟨o,f,_,d⟩=>⟨o,f,fun v q=>by rw [d] at q; cases q⟩
theorem fJ.draws {prog:Program}{w:World}{A:Around}:∀ (t:Bool) (hh:A.handled=none) (it a:Addr) (ne:a ≠ it) (items:Array Value),Draws prog w A it [it,a] items.size (fun i v=>items[i]? = some v) (fun i h=>fJ t h it a i/\F1 t h a items)
 | true,hh,it,a,ne,items=>Zp.as2 hh it a ne items
 | false,hh,it,a,ne,items=>Draws.list hh it a ne items
section
variable {X : Cx} {pins : List (Addr × Obj)} {σ : St} {H : Hp} {s : Shared} {a : Addr} {xs ys : List V}
theorem Sq.get (I:a7 X pins σ H s):∀ {t:Bool},Sq t X.K H a xs->∃ us,aI xs us/\F1 t s.heap a us.toArray
 | true,h=>by obtain ⟨us,r,p,_⟩:=I.tuple h; exact⟨us,r,p⟩
 | false,h=>by obtain ⟨us,r,p,_⟩:=I.list h; exact⟨us,r,p.isList⟩
theorem Sq.inj (I:a7 X pins σ H s):∀ {t:Bool},Sq t X.K H a xs->Sq t X.K H a ys->xs=ys
 | true,h,g=>I.tuple_inj h g
 | false,h,g=>I.list_inj h g
theorem Sq.off (I:a7 X pins σ H s) (he:H a=none) (hb:X.base.get? a=none):∀ {t:Bool},Sq t X.K H a xs->False
 | true,h=>by
  rcases h with (h | ⟨_,h⟩) | ⟨o,_,_,h,_⟩
  ·rw [he] at h; cases h
  ·rw [he] at h; cases h
  ·have:=I.ok.mod.kin a o h
   rw [hb] at this; cases this
 | false,h=>by
  rcases h with (h | ⟨_,h⟩) | ⟨o,_,_,h,_⟩
  ·rw [he] at h; cases h
  ·rw [he] at h; cases h
  ·have:=I.ok.mod.kin a o h
   rw [hb] at this; cases this
end
def as5 (t1 t2:Bool) (K:PySem.W.Frag) (a b:Addr):It:=
  ⟨fun i H=>∃ xs ys x y,Sq t1 K H a xs/\Sq t2 K H b ys/\xs[i]? = some x/\ys[i]? = some y,
   fun i H v H'=>∃ T x y,H T=none/\v = .ref T/\H'=upd H T (.tup [x,y])/\∀ xs ys,Sq t1 K H a xs->Sq t2 K H b ys->xs[i]? = some x/\ys[i]? = some y,
   fun i H=>∃ xs ys,Sq t1 K H a xs/\Sq t2 K H b ys/\(i=xs.length ∨ (i < xs.length/\i=ys.length))⟩
structure v4 (t1 t2:Bool) (z TI TO i1 i2 a b:Addr) (i:Nat) (h:Heap):Prop where
 zz:IsZip h z TI TO .none
 ti:IsPair h TI (.ref i1) (.ref i2)
 to_:∃ x y,IsPair h TO x y
 s1:fJ t1 h i1 a i
 s2:fJ t2 h i2 b i
theorem F2 (t1 t2:Bool) {P:Program}{w:World}{K:PySem.W.Frag}{elts:List Expr}{k:Nat}{pos:Pos} (a b z TI TO i1 i2:Addr) (d : [z,TI,TO,i1,i2].Nodup) :
  gO P w K (.Tuple elts k pos) (as5 t1 t2 K a b) [z,TI,TO,i1,i2] z (v4 t1 t2 z TI TO i1 i2 a b):=by
 have nd:z ≠ TI/\z ≠ TO/\z ≠ i1/\z ≠ i2/\TI ≠ TO/\TI ≠ i1/\TI ≠ i2/\TO ≠ i1/\TO ≠ i2/\i1 ≠ i2:=by
  simp only [List.nodup_cons,bg4,bh3,bk7,not_or] at d
  obtain ⟨⟨a1,a2,a3,a4⟩,⟨b1,b2,b3⟩,⟨c1,c2⟩,e1,_⟩:=d
  exact⟨a1,a2,a3,a4,b1,b2,b3,c1,c2,e1⟩
 obtain ⟨n1,n2,n3,n4,n5,n6,n7,n8,n9,n10⟩:=nd
 have offBase:∀ {X:Cx}{pins:List (Addr × Obj)}{σ:St}{H:Hp}{s:Shared},a7 X pins σ H s->(∀ c ∈ [z,TI,TO,i1,i2],fU X pins H c)->∀ c ∈ [z,TI,TO,i1,i2],X.base.get? c=none:=by
  intro X pins σ H s I hf c hc
  cases q:X.base.get? c with
  | none=>rfl
  | some o=>
   rcases (hf c hc).2.2.2.1 with h | h
   ·exact absurd h (I.ok.noex c o q)
   ·exact absurd (bh0 (bg8 q) (bk0 I.ok.bsz h)) (bm5 _)
 have off:∀ {t:Bool}{X:Cx}{pins:List (Addr × Obj)}{σ:St}{H:Hp}{s:Shared}{c:Addr}{zs:List V},a7 X pins σ H s->(∀ c ∈ [z,TI,TO,i1,i2],fU X pins H c)->Sq t X.K H c zs->c ∉ [z,TI,TO,i1,i2]:=by
  intro t X pins σ H s c zs I hf hc hm
  exact Sq.off I (hf c hm).1 (offBase I hf c hm) hc
 have ap:∀ {c e:Addr},c ∉ [z,TI,TO,i1,i2]->e ∉ [z,TI,TO,i1,i2]->Zp.Ap z TI TO i1 i2 [i1,c] [i2,e]:=fun {c e} hc he=>by
  simp only [bg4,bh3,bk7,not_or] at hc he
  obtain ⟨c1,c2,c3,c4,c5⟩:=hc
  obtain ⟨e1,e2,e3,e4,e5⟩:=he
  have two:∀ {q u v:Addr},q ≠ u->q ≠ v->q ∉ [u,v]:=fun {q u v} h1 h2 hm=>by
   simp only [bg4,bh3,bk7] at hm
   exact hm.elim h1 h2
  exact⟨n1.symm,n2.symm,n5,two n3 (Ne.symm c1),two n4 (Ne.symm e1),two n8 (Ne.symm c3),two n9 (Ne.symm e3),two n6 (Ne.symm c2),two n7 (Ne.symm e2),bg7,bg7,two n10 (Ne.symm e4),two n10.symm (Ne.symm c5)⟩
 refine⟨by simp,fun i h st c hc=>?_,fun i h h' st kp=>?_,?_,?_,fun A i s Q E st q=>wpAny_pyIter_zip st.zz q⟩
 ·simp only [bg4,bh3,bk7] at hc
  obtain ⟨x,y,to⟩:=st.to_
  rcases hc with rfl | rfl | rfl | rfl | rfl
  ·exact⟨_,st.zz,fun v q=>by cases q⟩
  ·exact⟨_,st.ti,fun v q=>by cases q⟩
  ·exact⟨_,to,fun v q=>by cases q⟩
  ·exact st.s1.ob
  ·exact st.s2.ob
 ·obtain ⟨x,y,to⟩:=st.to_
  exact⟨kp z (by simp) _ st.zz,kp TI (by simp) _ st.ti,⟨x,y,kp TO (by simp) _ to⟩,st.s1.at fun o e=>kp i1 (by simp) o e,st.s2.at fun o e=>kp i2 (by simp) o e⟩
 ·
  intro X hP hw hK hc i pins s σ H E I hf st hg
  subst hP hw hK
  obtain ⟨xs,ys,x,y,ha,hb,hx,hy⟩:=hg
  obtain ⟨us,ru,pu⟩:=Sq.get I ha
  obtain ⟨vs,rv,pv'⟩:=Sq.get I hb
  obtain ⟨ux,eux,rux⟩:=ru.get hx
  obtain ⟨vy,evy,rvy⟩:=rv.get hy
  have fa:=off I hf ha
  have fb:=off I hf hb
  have hh:X.A.in1.handled=none:=I.ok.hd hc
  have l1:i < us.toArray.size:=by simpa using (bh4.mp eux).1
  have l2:i < vs.toArray.size:=by simpa using (bh4.mp evy).1
  have fa':a ≠ i1:=fun q=>fa (by rw [q]; simp)
  have fb':b ≠ i2:=fun q=>fb (by rw [q]; simp)
  have D1:=fJ.draws t1 (prog:=X.prog) (w:=X.w) hh i1 a fa' us.toArray
  have D2:=fJ.draws t2 (prog:=X.prog) (w:=X.w) hh i2 b fb' vs.toArray
  refine Zp.item D1 D2 (ap fa fb) l1 l2 ⟨st.zz,st.ti,st.to_,⟨st.s1,pu⟩,⟨st.s2,pv'⟩⟩ fun p q h' tk hp hq st' pr kp sz=>⟨_,rfl,?_⟩
  obtain rfl:p=ux:=by
   have:us.toArray[i]? = some ux:=by simpa using eux
   rw [this] at hp; exact (bi5 hp).symm
  obtain rfl:q=vy:=by
   have:vs.toArray[i]? = some vy:=by simpa using evy
   rw [this] at hq; exact (bi5 hq).symm
  refine wpAny_letOwnedTupleGo_zip (s:={ s with heap:=h',toks:=tk }) st'.zz fun g zz sb=>?_
  have hzl:z < s.heap.objs.size:=bg8 st.zz
  have up:∀ c o,c ≠ z->c ≠ TO->c ≠ i1->c ≠ i2->s.heap.get? c=some o->g.get? c=some o:=fun c o c1 c2 c3 c4 e=>sb.extBut c o c1 (kp c o c1 c2 c3 c4 e)
  have hT:H s.heap.objs.size=none:=I.hok.fresh (bg1 _)
  have prG:IsPair g s.heap.objs.size p q:=sb.extBut _ _ (bm4 hzl) pr
  have fpn:∀ c u,H c=some u->c ∉ [z,TI,TO,i1,i2]:=fun c u e hm=>by rw [(hf c hm).1] at e; cases e
  have upH:∀ c o u,H c=some u->s.heap.get? c=some o->g.get? c=some o:=fun c o u e z=>by
   have:=fpn c u e
   simp only [bg4,bh3,bk7,not_or] at this
   exact up c o this.1 this.2.2.1 this.2.2.2.1 this.2.2.2.2 z
  have ns:∀ m,s.heap.Ns X.env.locals m->g.Ns X.env.locals m:=fun m hm=>by
   obtain ⟨o,es,ep,e1,e2⟩:=hm
   exact⟨o,es,ep,up _ o (Ne.symm (hf z (by simp)).2.1) (Ne.symm (hf TO (by simp)).2.1) (Ne.symm (hf i1 (by simp)).2.1) (Ne.symm (hf i2 (by simp)).2.1) e1,e2⟩
  have I2:a7 X pins σ (upd H s.heap.objs.size (.tup [x,y])) { s with heap:=g,toks:=tk }:=by
   refine I.step (g':=s.gens) (d':=s.drawn) (ch:=[z,TO,i1,i2]) (fun c hc'=>?_) (fun c o _ _ hc' e _=>?_) (fun c o _ _ hc' e _=>⟨o.slots,?_⟩) (fun c o _ e n=>?_) (fun c o hc' e=>⟨o,?_⟩)
    (fun c zs e=>by rw [aH (cR e hT)]; exact e) (fun c u zs e=>by rw [aH (cR e hT)]; exact e) (fun c ps e=>⟨#[],by rw [aH (cR e hT),e]; simp⟩) ns (fun c u e=>?_) I.bare
   ·have hm:c ∈ [z,TI,TO,i1,i2]:=by
     simp only [bg4,bh3,bk7] at hc' ⊢
     rcases hc' with h | h | h | h <;> simp [h]
    exact⟨(hf c hm).2.2.2.1,(hf c hm).2.1,(hf c hm).2.2.2.2.1,(hf c hm).2.2.2.2.2⟩
   ·simp only [bg4,bh3,bk7,not_or] at hc'
    exact up c o hc'.1 hc'.2.1 hc'.2.2.1 hc'.2.2.2 e
   ·simp only [bg4,bh3,bk7,not_or] at hc'
    exact up c o hc'.1 hc'.2.1 hc'.2.2.1 hc'.2.2.2 e
   ·rw [aH (bi6 (bg8 e))]; exact n
   ·simp only [bg4,bh3,bk7,not_or] at hc'
    exact up c o hc'.1 hc'.2.1 hc'.2.2.1 hc'.2.2.2 e
   ·by_cases hcT:c=s.heap.objs.size
    ·subst hcT
     rw [b8] at e; cases e
     exact⟨by show 2<=sizeLine; decide,[p,q],.cons rux (.cons rvy .nil),⟨_,prG,rfl,_,rfl⟩⟩
    ·rw [aH hcT] at e
     refine (I.hok c u e).stay (fun c' o' hc2 q'=>?_) (fun c' q'=>by rw [aH (cR q' hT)]; exact q') fun c' zs q'=>by rw [aH (cR q' hT)]; exact q'
     rcases hc2 with rfl | hc2
     ·exact upH _ _ _ e q'
     ·exact upH _ _ _ hc2 q'
  obtain ⟨x',y',to'⟩:=st'.to_
  refine⟨.ref s.heap.objs.size,_,I2,rfl,⟨_,x,y,hT,rfl,rfl,fun xs' ys' ha' hb'=>?_⟩,⟨zz,sb.extBut _ _ n1.symm st'.ti,⟨x',y',sb.extBut _ _ n2.symm to'⟩,st'.s1.1.at fun o e=>sb.extBut _ o n3.symm e,st'.s2.1.at fun o e=>sb.extBut _ o n4.symm e⟩,fun c hc'=>?_⟩
  ·rw [Sq.inj I ha' ha,Sq.inj I hb' hb]; exact⟨hx,hy⟩
  ·obtain ⟨o,e,_⟩:∃ o,s.heap.get? c=some o/\True:=by
    simp only [bg4,bh3,bk7] at hc'
    obtain ⟨x2,y2,to2⟩:=st.to_
    obtain ⟨o1,f1,_⟩:=st.s1.ob
    obtain ⟨o2,f2,_⟩:=st.s2.ob
    rcases hc' with rfl | rfl | rfl | rfl | rfl
    ·exact⟨_,st.zz,trivial⟩
    ·exact⟨_,st.ti,trivial⟩
    ·exact⟨_,to2,trivial⟩
    ·exact⟨_,f1,trivial⟩
    ·exact⟨_,f2,trivial⟩
   rw [aH (bi6 (bg8 e))]; exact (hf c hc').1
 ·
  intro X hP hw hK hc i pins s σ H E I hf st hg
  subst hP hw hK
  obtain ⟨xs,ys,ha,hb,hi⟩:=hg
  obtain ⟨us,ru,pu⟩:=Sq.get I ha
  obtain ⟨vs,rv,pv'⟩:=Sq.get I hb
  have fa:=off I hf ha
  have fb:=off I hf hb
  have hh:X.A.in1.handled=none:=I.ok.hd hc
  have fa':a ≠ i1:=fun q=>fa (by rw [q]; simp)
  have fb':b ≠ i2:=fun q=>fb (by rw [q]; simp)
  have D1:=fJ.draws t1 (prog:=X.prog) (w:=X.w) hh i1 a fa' us.toArray
  have D2:=fJ.draws t2 (prog:=X.prog) (w:=X.w) hh i2 b fb' vs.toArray
  have e1:=ru.length
  have e2:=rv.length
  refine Zp.fin D1 D2 (ap fa fb) (by simp only [bg0]; omega) ⟨st.zz,st.ti,st.to_,⟨st.s1,pu⟩,⟨st.s2,pv'⟩⟩ fun g tk kp=>⟨rfl,?_⟩
  have fpn:∀ c u,H c=some u->c ∉ [z,TI,TO,i1,i2]:=fun c u e hm=>by rw [(hf c hm).1] at e; cases e
  have upH:∀ c o u,H c=some u->s.heap.get? c=some o->g.get? c=some o:=fun c o u e z=>by
   have:=fpn c u e
   simp only [bg4,bh3,bk7,not_or] at this
   exact kp c o this.1 this.2.2.1 this.2.2.2.1 this.2.2.2.2 z
  have ns:∀ m,s.heap.Ns X.env.locals m->g.Ns X.env.locals m:=fun m hm=>by
   obtain ⟨o,es,ep,e1,e2⟩:=hm
   exact⟨o,es,ep,kp _ o (Ne.symm (hf z (by simp)).2.1) (Ne.symm (hf TO (by simp)).2.1) (Ne.symm (hf i1 (by simp)).2.1) (Ne.symm (hf i2 (by simp)).2.1) e1,e2⟩
  refine I.step (g':=s.gens) (d':=s.drawn) (ch:=[z,TO,i1,i2]) (fun c hc'=>?_) (fun c o _ _ hc' e _=>?_) (fun c o _ _ hc' e _=>⟨o.slots,?_⟩) (fun c o _ e n=>n) (fun c o hc' e=>⟨o,?_⟩)
   (fun c zs e=>e) (fun c u zs e=>e) (fun c ps e=>⟨#[],by rw [e]; simp⟩) ns (fun c u e=>?_) I.bare
  ·have hm:c ∈ [z,TI,TO,i1,i2]:=by
    simp only [bg4,bh3,bk7] at hc' ⊢
    rcases hc' with h | h | h | h <;> simp [h]
   exact⟨(hf c hm).2.2.2.1,(hf c hm).2.1,(hf c hm).2.2.2.2.1,(hf c hm).2.2.2.2.2⟩
  ·simp only [bg4,bh3,bk7,not_or] at hc'
   exact kp c o hc'.1 hc'.2.1 hc'.2.2.1 hc'.2.2.2 e
  ·simp only [bg4,bh3,bk7,not_or] at hc'
   exact kp c o hc'.1 hc'.2.1 hc'.2.2.1 hc'.2.2.2 e
  ·simp only [bg4,bh3,bk7,not_or] at hc'
   exact kp c o hc'.1 hc'.2.1 hc'.2.2.1 hc'.2.2.2 e
  ·refine (I.hok c u e).stay (fun c' o' hc2 q'=>?_) (fun _ q'=>q') fun _ _ q'=>q'
   rcases hc2 with rfl | hc2
   ·exact upH _ _ _ e q'
   ·exact upH _ _ _ hc2 q'
abbrev as6:=v4 true true
theorem as7 {P:Program}{w:World}{K:PySem.W.Frag}{elts:List Expr}{k:Nat}{pos:Pos} (a b z TI TO i1 i2:Addr) (d : [z,TI,TO,i1,i2].Nodup) :
  gO P w K (.Tuple elts k pos) (v3 K a b) [z,TI,TO,i1,i2] z (as6 z TI TO i1 i2 a b):=F2 true true a b z TI TO i1 i2 d
section
variable {X : Cx}
def as8 (K:PySem.W.Frag) (ta:TA):TI:=fun σ H R=>ta σ H fun vs H1=>∃ a b xs ys,vs = [.ref a,.ref b]/\aL K H1 a xs/\aL K H1 b ys/\R (v3 K a b) H1
theorem as9 {elts:List Expr}{kt:Nat}{pt:Pos}{a b:Expr}{ta:TA}{p pos:Pos} (hg:Gl X "zip") (hm:X.mg "zip" = none) (ha:PA X [a,b] ta) (hs:starEach [a,b] X.env = [(false,eval a X.env),(false,eval b X.env)]:=by rfl) (hs2:starEach [b] X.env = [(false,eval b X.env)]:=by rfl) :
  PI X (.Tuple elts kt pt) (.Call (.Name "zip" p) [a,b] [] pos) (as8 X.K ta):=by
 intro pins s σ H R I h
 refine Call_ (iN I hg hm PyProof.Rows.boot_zip (bo0 (aJ (ha pos pins s σ H _ I h) fun us s1 ⟨vs,H1,I1,r1,q1⟩=>?_) (by rw [hs,hs2]) (by rw [hs2]; rfl)))
 obtain ⟨a',b',xs,ys,e,h1,h2,q⟩:=q1
 subst e
 cases r1 with
 | cons r rr=>
  cases rr with
  | cons r' rr=>
   cases rr
   cases r
   cases r'
   obtain ⟨us,_,p1,_⟩:=I1.tuple h1
   obtain ⟨ws,_,p2,_⟩:=I1.tuple h2
   refine Zp.as4 p1 p2 fun h' z ti to s1' s2' kp=>wpAny_pyIter_zip z ?_
   have fresh:∀ k,H1 (s1.heap.objs.size+k)=none:=fun k=>I1.hok.fresh (bn7 _ _)
   refine⟨s1.heap.objs.size+4,[s1.heap.objs.size+4,s1.heap.objs.size+2,s1.heap.objs.size+3,s1.heap.objs.size,s1.heap.objs.size+1],_,_,H1,rfl,I1.kept (t':=s1.toks) kp,
    as7 a' b' _ _ _ _ _ (by simp),⟨z,ti,⟨_,_,to⟩,s1',s2'⟩,fun c hc=>?_,q⟩
   simp only [bg4,bh3,bk7] at hc
   rcases hc with rfl | rfl | rfl | rfl | rfl
   ·exact I1.fpOk (bn7 _ _) (fresh 4)
   ·exact I1.fpOk (bn7 _ _) (fresh 2)
   ·exact I1.fpOk (bn7 _ _) (fresh 3)
   ·exact I1.fpOk (bg1 _) (fresh 0)
   ·exact I1.fpOk (bn7 _ _) (fresh 1)
theorem v7 (hc:X.calm=true):cS X (.builtin "all") (fun xs H Q=>∃ (a:Addr) (bs:List Bool),xs = [.ref a]/\aN X.K H a (bs.map V.bl)/\Q (.bl (bs.all id)) H):=by
 intro pins s σ H xs us Q I r h
 obtain ⟨a,bs,rfl,hq,q⟩:=h
 obtain ⟨u,rfl,ru⟩:=gP r
 cases ru
 obtain ⟨its,rv,p,hz⟩:=I.list hq
 have hl:=rv.length
 rw [bg5] at hl
 have hlt:a < s.heap.objs.size:=by obtain ⟨o,e,_⟩:=p.isList; exact bg8 e
 refine call_all_walk (wpAny_pyIter_list p.isList ?_)
 have hh:X.A.in1.handled=none:=I.ok.hd hc
 refine⟨s.heap.objs.size,_,_,_,_,_,fun i=>bs.getD i false,rfl,Walks.list hh s.heap.objs.size a (bi6 hlt) its.toArray,⟨⟨_,bg6 _ rfl,rfl,rfl⟩,p.isList.push _⟩,?_,fun h' tk kp=>?_⟩
 ·intro i v s' Q' E' hP hQ'
  have hi:its[i]? = some v:=by simpa using hP
  have hil:i < bs.length:=by rw [hl]; exact (bh4.mp hi).1
  obtain ⟨u,e1,e2⟩:=rv.get (i:=i) (x:=.bl bs[i]) (by simp [hil])
  rw [hi] at e1; cases e1
  cases e2
  have:bs.getD i false=bs[i]:=by rw [bh2,bf9 hil]; rfl
  have hQ2:Q' (bs.getD i false) s':=hQ'
  rw [this] at hQ2
  exact bs8 hQ2
 ·have all_eq:(List.range its.toArray.size).all (fun i=>bs.getD i false)=bs.all id:=by
   rw [bg0,<- hl]
   clear q rv hz hl hq hlt p hh kp
   induction bs with
   | nil=>rfl
   | cons b r ih=>
    rw [bj0,List.range_succ_eq_map,bt7,List.all_map,bt7,<- ih]
    rfl
  rw [all_eq]
  refine⟨.bl (bs.all id),H,I.kept (t':=tk) (h':=h') fun b o e=>kp b o (fun z=>?_) (bf7 _ e),rfl,q⟩
  rw [bh6.mp z] at e
  exact absurd (bg8 e) (bm5 _)
end
structure v8 (H:Hp) (J:It) (n:Nat) (R:Nat->V->Hp->Prop):Prop where
 go:∀ i H',aD H H'->i < n->J.go i H'
 yld:∀ i H' x H2,aD H H'->J.yld i H' x H2->i < n->aD H' H2/\R i x H2
 stop:∀ H',aD H H'->J.stop n H'
theorem v9 {H1:Hp}{J:It}{n:Nat}{R:Nat->V->Hp->Prop}{g:TG}{tc:TT}{te:TE}{σ0:St}{Q:VK} (O:v8 H1 J n R) (Pv:Nat->List V->Hp->Prop) (hn:n<=sizeLine)
  (h0:∀ D,H1 D=none->Pv 0 [] (upd H1 D (.lst [])))
  (mono:∀ i acc H' H2,aD H' H2->Pv i acc H'->Pv i acc H2)
  (hs:∀ i x acc D H',i < n->R i x H'->qI H1 D n i acc H'->Pv i acc H'->g x σ0 H' fun σ2 H3=>Wk σ0 σ2/\tc σ2 H3 fun b H4=>
   if b=true then te σ2 H4 fun v H5=>uY H1 D n Pv i acc v H5 else C9 H1 D n Pv i acc H4)
  (hd:∀ D acc H',H1 D=none->aD H1 H'->H' D=some (.lst acc)->acc.length<=n->Pv n acc H'->Q (.ref D) H') :
  ∀ D,H1 D=none->∃ W:Nat->Nat->List V->Hp->Prop,(∃ m,W 0 m [] (upd H1 D (.lst [])))/\o0 g tc te σ0 J D Q W:=by
 intro D hD
 refine⟨CW H1 D n Pv,⟨n,rfl,bk5 _,bg1 _,bE hD _,b8,h0 D hD⟩,?_⟩
 rintro i m acc H' ⟨rfl,hi,ha,sm,hDa,p⟩
 refine⟨hDa,?_⟩
 by_cases hlt:i < n
 ·refine .inr ⟨O.go i H' sm hlt,fun x H2 y=>?_⟩
  obtain ⟨s2,r2⟩:=O.yld i H' x H2 sm y hlt
  exact hs i x acc D H2 hlt r2 ⟨hlt,ha,hn,sm.trans s2,hD,s2 _ _ hDa⟩ (mono i acc H' H2 s2 p)
 ·have e:i=n:=by omega
  subst e
  exact .inl ⟨O.stop H' sm,hd D acc H' hD sm hDa ha p⟩
theorem F3 {K:PySem.W.Frag}{H:Hp}{a b:Addr}{xs ys:List V} (ha:aL K H a xs) (hb:aL K H b ys) (hl:ys.length<=xs.length) :
  v8 H (v3 K a b) ys.length (fun i v H2=>∃ T x y,v = .ref T/\H2 T=some (.tup [x,y])/\xs[i]? = some x/\ys[i]? = some y):=by
 refine⟨fun i H' sm hi=>⟨xs,ys,xs[i]'(by omega),ys[i],sm.tup ha,sm.tup hb,by simp,by simp⟩,fun i H' v H2 sm y hi=>?_,fun H' sm=>⟨xs,ys,sm.tup ha,sm.tup hb,by omega⟩⟩
 obtain ⟨T,x,y',hT,hv,e,hxy⟩:=y
 subst e
 obtain ⟨h1,h2⟩:=hxy xs ys (sm.tup ha) (sm.tup hb)
 exact⟨bE hT _,T,x,y',hv,b8,h1,h2⟩
end L2
namespace HT
open PySem PyProof.Rows
section
variable {prog : Program} {w : World} {A : Around} {E : Value → Shared → Prop} {s : Shared}
theorem at0 {t sl:Addr}{items:Array Value}{vl vu:Value}{lo hi:Option Int}{Q:Value->Shared->Prop} (ht:IsTup s.heap t items) (hs:s.heap.IsSliceOf sl vl vu .none) (pl:IsPart vl lo) (pu:IsPart vu hi)
  (h1:aV items.size 0 lo=0) (h2:aV items.size items.size hi=items.size) (h:Q (.ref t) s):wpAny (model prog w) A (getItem (.ref t) (.ref sl)) Q E s:=by
 obtain ⟨o,e1,e2,e3⟩:=id hs
 have T:s.TypeIs (.ref sl) "slice":=⟨o,e1,e2⟩
 unfold getItem
 try with_reducible refine bl6 ?_
 first | refine bf5 (bf8 ?_) | skip
 apply bf5
 apply wpAny_sequenceKey ht.typeIs (by decide)
 apply bf5
 apply bj7 (name:=Str.ofString "__getitem__") ht.typeIs br6
 apply bj4 br6 ht.typeIs entry_tuple_getitem _ (args_tuple_getitem _ _)
 change wpAny _ _ (Builtin.Tuple.tupleItemsOf (.ref t) >>= _) _ _ s
 apply bf5
 apply tupleItemsOf_ ht
 apply bf5
 apply wpAny_typeOf T
 rw [if_pos (by decide)]
 apply bf5
 apply zS hs pl pu
 rw [h1,h2]
 have yes:((((0:Nat):Int) == 0 && (1:Int) == 1 && (items.size - 0) == items.size)=true):=by simp
 change wpAny _ _ (if ((((0:Nat):Int) == 0 && (1:Int) == 1 && (items.size - 0) == items.size)=true) then _ else _) _ _ s
 rw [if_pos yes]
 apply bf5
 unfold Builtin.Tuple.tupleIsExact
 apply bf5
 apply wpAny_typeOf ht.typeIs
 apply bf8
 change wpAny _ _ (rule "tuple.getitem.whole" >>= fun _=>ret (Value.ref t)) _ _ s
 apply bf5
 apply bs2
 exact bf8 ⟨_,rfl,bf8 h⟩
end
end HT
namespace L2
open PySem PySem.Spec PyProof.Rows
section
variable {X : Cx}
def at2 (K:PySem.W.Frag):V->Option Int->Option Int->Hp->VK->Prop:=fun x lo hi H Q=>∃ a xs,x = .ref a/\aL K H a xs/\(∀ p,H p=none->Q (.ref p) (upd H p (.tup (dW xs lo hi))))/\(dW xs lo hi=xs->Q (.ref a) H)
theorem F4:jJ X (at2 X.K):=by
 intro pins s σ H x v vl vu lo hi sl Q I rx hs pl pu h
 obtain ⟨a,xs,ex,hx,q1,q2⟩:=h
 by_cases hw:HT.aV xs.length 0 lo=0/\HT.aV xs.length xs.length hi=xs.length
 ·subst ex
  cases rx
  obtain ⟨its,r,ht,hz⟩:=I.tuple hx
  have hlen:its.toArray.size=xs.length:=by rw [bg0]; exact r.length.symm
  refine⟨"tuple",_,PyProof.Rows.slot_tuple_getitem.lookup,ht.typeIs,?_⟩
  refine HT.at0 ht hs pl pu (by rw [hlen]; exact hw.1) (by rw [hlen]; exact hw.2) ⟨.ref a,H,I,rfl,q2 ?_⟩
  unfold dW
  rw [hw.1,hw.2]
  simp
 ·exact an3 pins s σ H x v vl vu lo hi sl Q I rx hs pl pu ⟨a,xs,ex,hx,hw,q1⟩
end
theorem vA (xs:List V):dW xs (some 1) none=xs.drop 1:=by
 unfold dW
 have e1:HT.aV xs.length 0 (some 1)=min 1 xs.length:=HT.zP xs.length 0 1
 have e2:HT.aV xs.length xs.length none=xs.length:=rfl
 rw [e1,e2]
 cases xs with
 | nil=>rfl
 | cons x r=>
  have:min 1 (x :: r).length=1:=by simp
  rw [this]
  simp
def vB (K:PySem.W.Frag) (a b:Addr):It:=
  ⟨fun i H=>∃ xs ys x y,aN K H a xs/\aN K H b ys/\xs[i]? = some x/\ys[i]? = some y,
   fun i H v H'=>∃ T x y,H T=none/\v = .ref T/\H'=upd H T (.tup [x,y])/\∀ xs ys,aN K H a xs->aN K H b ys->xs[i]? = some x/\ys[i]? = some y,
   fun i H=>∃ xs ys,aN K H a xs/\aN K H b ys/\(i=xs.length ∨ (i < xs.length/\i=ys.length))⟩
abbrev at3:=v4 false false
theorem at5 {P:Program}{w:World}{K:PySem.W.Frag}{elts:List Expr}{k:Nat}{pos:Pos} (a b z TI TO i1 i2:Addr) (d : [z,TI,TO,i1,i2].Nodup) :
  gO P w K (.Tuple elts k pos) (vB K a b) [z,TI,TO,i1,i2] z (at3 z TI TO i1 i2 a b):=F2 false false a b z TI TO i1 i2 d
section
variable {X : Cx}
def at6 (K:PySem.W.Frag) (ta:TA):TI:=fun σ H R=>ta σ H fun vs H1=>∃ a b xs ys,vs = [.ref a,.ref b]/\aN K H1 a xs/\aN K H1 b ys/\R (vB K a b) H1
theorem at7 {elts:List Expr}{kt:Nat}{pt:Pos}{a b:Expr}{ta:TA}{p pos:Pos} (hg:Gl X "zip") (hm:X.mg "zip" = none) (ha:PA X [a,b] ta) (hs:starEach [a,b] X.env = [(false,eval a X.env),(false,eval b X.env)]:=by rfl) (hs2:starEach [b] X.env = [(false,eval b X.env)]:=by rfl) :
  PI X (.Tuple elts kt pt) (.Call (.Name "zip" p) [a,b] [] pos) (at6 X.K ta):=by
 intro pins s σ H R I h
 refine Call_ (iN I hg hm PyProof.Rows.boot_zip (bo0 (aJ (ha pos pins s σ H _ I h) fun us s1 ⟨vs,H1,I1,r1,q1⟩=>?_) (by rw [hs,hs2]) (by rw [hs2]; rfl)))
 obtain ⟨a',b',xs,ys,e,h1,h2,q⟩:=q1
 subst e
 cases r1 with
 | cons r rr=>
  cases rr with
  | cons r' rr=>
   cases rr
   cases r
   cases r'
   obtain ⟨us,_,p1,_⟩:=I1.list h1
   obtain ⟨ws,_,p2,_⟩:=I1.list h2
   refine call_zip_2 p1.isList p2.isList fun h' z ti to s1' s2' _ kp=>wpAny_pyIter_zip z ?_
   have fresh:∀ k,H1 (s1.heap.objs.size+k)=none:=fun k=>I1.hok.fresh (bn7 _ _)
   refine⟨s1.heap.objs.size+4,[s1.heap.objs.size+4,s1.heap.objs.size+2,s1.heap.objs.size+3,s1.heap.objs.size,s1.heap.objs.size+1],_,_,H1,rfl,I1.kept (t':=s1.toks) kp,
    at5 a' b' _ _ _ _ _ (by simp),⟨z,ti,⟨_,_,to⟩,s1',s2'⟩,fun c hc=>?_,q⟩
   simp only [bg4,bh3,bk7] at hc
   rcases hc with rfl | rfl | rfl | rfl | rfl
   ·exact I1.fpOk (bn7 _ _) (fresh 4)
   ·exact I1.fpOk (bn7 _ _) (fresh 2)
   ·exact I1.fpOk (bn7 _ _) (fresh 3)
   ·exact I1.fpOk (bg1 _) (fresh 0)
   ·exact I1.fpOk (bn7 _ _) (fresh 1)
end
theorem at8 {K:PySem.W.Frag}{H:Hp}{a b:Addr}{xs ys:List V} (ha:aN K H a xs) (hb:aN K H b ys) (hl:ys.length<=xs.length) :
  v8 H (vB K a b) ys.length (fun i v H2=>∃ T x y,v = .ref T/\H2 T=some (.tup [x,y])/\xs[i]? = some x/\ys[i]? = some y):=by
 refine⟨fun i H' sm hi=>⟨xs,ys,xs[i]'(by omega),ys[i],sm.seq ha,sm.seq hb,by simp,by simp⟩,fun i H' v H2 sm y hi=>?_,fun H' sm=>⟨xs,ys,sm.seq ha,sm.seq hb,by omega⟩⟩
 obtain ⟨T,x,y',hT,hv,e,hxy⟩:=y
 subst e
 obtain ⟨h1,h2⟩:=hxy xs ys (sm.seq ha) (sm.seq hb)
 exact⟨bE hT _,T,x,y',hv,b8,h1,h2⟩
section
variable {X : Cx} {pins : List (Addr × Obj)} {σ : St} {H : Hp} {s : Shared} {a b : Addr} {A : Around} {E : Value → Shared → Prop}
theorem at9 {kvs more:List (aA × V)}{Q:Value->Shared->Prop} (I:a7 X pins σ H s) (ea:H a=some (.dK kvs)) (eb:H b=some (.dK more)) (hne:a ≠ b) (hl:kvs.length+more.length<=sizeLine)
  (h:∀ s',a7 X pins σ (upd H a (.dK (kD kvs more))) s'->Q .none s'):wpAny (model X.prog X.w) A (call (.builtin "dict.update") [.ref a,.ref b]) Q E s:=by
 obtain ⟨z,hd,vs,rel,dd⟩:=uN I.hok ea
 obtain ⟨z2,hd2,rs,rel2,dd2⟩:=uN I.hok eb
 have l1:=rel.length
 have l2:=rel2.length
 refine call_meetsIn PySem.F.slot_dict_update dd.typeIs PySem.F.entry_dict_update (PySem.F.args_dict_update_2 _ _) (meets_dict_update (e9 X.prog X.w) a b hne hd2) ⟨vs,rs,dd,dd2,by omega,fun h' dd' _ hs=>h _ ?_⟩
 have he:∃ q,h'.get? a=some q:=let ⟨q,_,_,hq,_⟩:=dd'; ⟨q,hq⟩
 refine pU I (by rw [ea]; exact bv8) hs he (B2 ?_ hd (rel2.merge rel) dd')
 have:=B9 more kvs
 omega
end
def F5 (td ty:TE):TE:=fun σ H Q=>td σ H fun x H1=>∃ a,x = .ref a/\uP H1 a/\ty σ H1 fun y H2=>∃ (b:Addr) (kvs more:List (aA × V)),y = .ref b/\a ≠ b/\H2 a=some (.dK kvs)/\H2 b=some (.dK more)/\kvs.length+more.length<=sizeLine/\Q .non (upd H2 a (.dK (kD kvs more)))
section
variable {X : Cx} {o e : Expr} {apos cpos : Pos} {td ty : TE}
theorem au0 (ho:PE X o td) (he:PE X e ty) (m:M1 X o "update" apos e cpos):PE X (.Call (.Attribute o "update" apos) [e] [] cpos) (F5 td ty):=by
 intro pins s σ H Q I h
 refine wpAny_Call_method m.base m.few m.line PySem.F.plainAttrs_dict PySem.F.slot_dict_update PySem.F.type_dict_update (aJ (ho pins s σ H _ I h) fun u s1 ⟨x,H1,I1,rx,a,ex,d,q1⟩=>?_)
 subst ex
 obtain rfl:u=Value.ref a:=rx
 obtain ⟨t1,t2,_⟩:=C0 I1 d
 refine⟨t1,t2,?_⟩
 rw [m.trees]
 refine Calls.callWith_builtin rfl (Calls.evalArgs_plain (Calls.spliced_cons (aJ (he pins s1 σ H1 _ I1 q1) fun iv s2 ⟨y,H2,I2,ry,b,kvs,more,ey,ne,ea,eb,l,q2⟩=>Calls.spliced_nil ?_)))
 subst ey
 obtain rfl:iv=Value.ref b:=ry
 exact at9 I2 ea eb ne l fun s3 I3=>⟨.non,_,I3,rfl,q2⟩
end
section
variable {X : Cx}
theorem au1 (xs ys:List Int):((List.range (min xs.length ys.length)).all (fun j=>xs[j]? == ys[j]?) && xs.length == ys.length)=decide (xs=ys):=by
 by_cases hl:xs.length=ys.length
 ·rw [<- hl,Nat.min_self,ar9 hl]; simp
 ·have:(xs.length == ys.length)=false:=by simpa using hl
  rw [this,bu5,bg2 fun e=>hl (by rw [e])]
def au2 (K:PySem.W.Frag):R2:=fun x y H Q=>∃ (a b:Addr) (xs ys:List Int),x = .ref a/\y = .ref b/\aL K H a (xs.map V.int)/\aL K H b (ys.map V.int)/\Q (.bl (!decide (xs=ys))) H
theorem F6 (hu:X.A.units < cLine):cD X (compareOp .NotEq) (au2 X.K):=by
 intro pins s σ H x y u v Q I rx ry h
 obtain ⟨a,b,xs,ys,rfl,rfl,h1,h2,q⟩:=h
 cases rx; cases ry
 obtain ⟨us,r1,p1,_⟩:=I.tuple h1
 obtain ⟨ws,r2,p2,_⟩:=I.tuple h2
 have l1:=r1.length
 have l2:=r2.length
 rw [bg5] at l1 l2
 refine SeqAt.RcNeAt.tuples p1 p2 hu (as0 r1 r2) _ _ _ _ ⟨.bl (!decide (xs=ys)),H,I,?_,q⟩
 rw [bg0,bg0,<- l1,<- l2,au1]; rfl
end
end L2
namespace PP
open PySem L2
inductive PV where
 | non | bl (b:Bool) | int (i:Int) | str (x:Str) | tup (xs:List PV) | lst (xs:List PV)
 | dK (kvs:List (aA × PV)) | dT (kvs:List (List aA × PV)) | scr (ns:List Int) | kt (xs:List PV) | exc (c:Str)
mutual
def flat:PV->Bool
 | .tup xs=>flats xs
 | .lst _=>false
 | .dK _=>false
 | .dT _=>false
 | .non=>true
 | .bl _=>true
 | .int _=>true
 | .str _=>true
 | .scr _=>true
 | .kt xs=>flats xs
 | .exc _=>true
def flats:List PV->Bool
 | []=>true
 | x :: r=>flat x && flats r
end
def iW (K:PySem.W.Frag) (H:Hp) (a:Addr) (ns:List Int):Prop:=(∃ o,H a=some (.frz o (.lst (ns.map V.int)))) ∨
  ∃ (o:Obj) (its:Array Value) (n:Nat),K.lookup a=some o/\o.cls = .type "list"/\o.dict=none/\o.data = .seq its n/\its.size<=sizeLine/\aI (ns.map V.int) its.toList
def lP (K:PySem.W.Frag) (a:Addr) (us:List V):Prop:=∃ (o:Obj) (its:Array Value) (n:Nat),K.lookup a=some o/\o.cls = .type "tuple"/\o.data = .seq its n/\its.size<=sizeLine/\aI us its.toList
mutual
inductive aF (K:PySem.W.Frag) (M:Addr->Prop) (H:Hp):V->PV->Prop
 | non:aF K M H .non .non
 | bl (b:Bool):aF K M H (.bl b) (.bl b)
 | int (i:Int):aF K M H (.int i) (.int i)
 | str (x:Str):aF K M H (.str x) (.str x)
 | tup {a:Addr}{us:List V}{xs:List PV}:H a=some (.tup us)->Reps K M H us xs->aF K M H (.ref a) (.tup xs)
 | lst {a:Addr}{us:List V}{xs:List PV}:M a->H a=some (.lst us)->Reps K M H us xs->aF K M H (.ref a) (.lst xs)
 | dK {a:Addr}{kvs:List (aA × V)}{ps:List (aA × PV)}:M a->H a=some (.dK kvs)->kvs.map (·.1)=ps.map (·.1)->Reps K M H (kvs.map (·.2)) (ps.map (·.2))->aF K M H (.ref a) (.dK ps)
 | dT {a:Addr}{kvs:List (List aA × V)}{ps:List (List aA × PV)}:M a->H a=some (.dT kvs)->kvs.map (·.1)=ps.map (·.1)->Reps K M H (kvs.map (·.2)) (ps.map (·.2))->aF K M H (.ref a) (.dT ps)
 | scr {a:Addr}{ns:List Int}:iW K H a ns->aF K M H (.ref a) (.scr ns)
 | kt {a:Addr}{us:List V}{xs:List PV}:lP K a us->Reps K M H us xs->aF K M H (.ref a) (.kt xs)
 | exc {a C:Addr}{o:Obj}{c:Str}:H a=some (.frz o (.own a))->PySem.W.nsIn K mainGlobals c=some (some (.ref C))->o.cls = .ref C->aF K M H (.ref a) (.exc c)
inductive Reps (K:PySem.W.Frag) (M:Addr->Prop) (H:Hp):List V->List PV->Prop
 | nil:Reps K M H [] []
 | cons {v:V}{x:PV}{vs:List V}{xs:List PV}:aF K M H v x->Reps K M H vs xs->Reps K M H (v :: vs) (x :: xs)
end
structure gU (M M':Addr->Prop) (H H':Hp):Prop where
 lst:∀ a us,M a->H a=some (.lst us)->M' a/\H' a=some (.lst us)
 dK:∀ a kvs,M a->H a=some (.dK kvs)->M' a/\H' a=some (.dK kvs)
 dT:∀ a kvs,M a->H a=some (.dT kvs)->M' a/\H' a=some (.dT kvs)
 tup:∀ a us,H a=some (.tup us)->H' a=some (.tup us)
 frz:∀ a o u,H a=some (.frz o u)->H' a=some (.frz o u)
theorem iW.keep {K:PySem.W.Frag}{H H':Hp}{a:Addr}{ns:List Int} (k:∀ a o u,H a=some (.frz o u)->H' a=some (.frz o u)) (h:iW K H a ns):iW K H' a ns:=
 h.elim (fun ⟨o,e⟩=>.inl ⟨o,k _ _ _ e⟩) .inr
mutual
theorem aF.keep {K:PySem.W.Frag}{M M':Addr->Prop}{H H':Hp} (k:gU M M' H H'):∀ {v:V}{x:PV},aF K M H v x->aF K M' H' v x
 | _,_,.non=>.non
 | _,_,.bl b=>.bl b
 | _,_,.int i=>.int i
 | _,_,.str x=>.str x
 | _,_,.tup h r=>.tup (k.tup _ _ h) (Reps.keep k r)
 | _,_,.lst m h r=>.lst (k.lst _ _ m h).1 (k.lst _ _ m h).2 (Reps.keep k r)
 | _,_,.dK m h e r=>.dK (k.dK _ _ m h).1 (k.dK _ _ m h).2 e (Reps.keep k r)
 | _,_,.dT m h e r=>.dT (k.dT _ _ m h).1 (k.dT _ _ m h).2 e (Reps.keep k r)
 | _,_,.scr h=>.scr (h.keep k.frz)
 | _,_,.kt h r=>.kt h (Reps.keep k r)
 | _,_,.exc h e c=>.exc (k.frz _ _ _ h) e c
theorem Reps.keep {K:PySem.W.Frag}{M M':Addr->Prop}{H H':Hp} (k:gU M M' H H'):∀ {vs:List V}{xs:List PV},Reps K M H vs xs->Reps K M' H' vs xs
 | _,_,.nil=>.nil
 | _,_,.cons r t=>.cons (aF.keep k r) (Reps.keep k t)
end
mutual
theorem aF.flat {K:PySem.W.Frag}{M M':Addr->Prop}{H:Hp}{v:V}{x:PV} (f:flat x=true) (r:aF K M H v x):aF K M' H v x:=by
 cases r with
 | non=>exact .non
 | bl b=>exact .bl b
 | int i=>exact .int i
 | str x=>exact .str x
 | tup h r=>exact .tup h (Reps.flat (by unfold PP.flat at f; exact f) r)
 | lst m h r=>unfold PP.flat at f; cases f
 | dK m h e r=>unfold PP.flat at f; cases f
 | dT m h e r=>unfold PP.flat at f; cases f
 | scr h=>exact .scr h
 | kt h r=>exact .kt h (Reps.flat (by unfold PP.flat at f; exact f) r)
 | exc h e c=>exact .exc h e c
theorem Reps.flat {K:PySem.W.Frag}{M M':Addr->Prop}{H:Hp}{vs:List V}{xs:List PV} (f:flats xs=true) (r:Reps K M H vs xs):Reps K M' H vs xs:=by
 cases r with
 | nil=>exact .nil
 | cons r t=>
  unfold PP.flats at f
  rw [bj5] at f
  exact .cons (aF.flat f.1 r) (Reps.flat f.2 t)
end
theorem gU.same {M M':Addr->Prop}{H H':Hp} (s:aD H H') (m:∀ a,M a->M' a):gU M M' H H':=
 ⟨fun a _ h e=>⟨m a h,s _ _ e⟩,fun a _ h e=>⟨m a h,s _ _ e⟩,fun a _ h e=>⟨m a h,s _ _ e⟩,fun _ _ e=>s _ _ e,fun _ _ _ e=>s _ _ e⟩
theorem aF.same {K:PySem.W.Frag}{M M':Addr->Prop}{H H':Hp}{v:V}{x:PV} (r:aF K M H v x) (s:aD H H') (m:∀ a,M a->M' a):aF K M' H' v x:=r.keep (.same s m)
theorem Reps.same {K:PySem.W.Frag}{M M':Addr->Prop}{H H':Hp}{v:List V}{x:List PV} (r:Reps K M H v x) (s:aD H H') (m:∀ a,M a->M' a):Reps K M' H' v x:=r.keep (.same s m)
def fZ:HO->Bool
 | .lst _=>true
 | .dK _=>true
 | .dT _=>true
 | _=>false
theorem gU.upd {M M':Addr->Prop}{H:Hp}{a:Addr}{o o':HO} (h:H a=some o') (mu:fZ o'=true) (m:∀ b,M b->b ≠ a/\M' b):gU M M' H (upd H a o):=
 ⟨fun b _ hb e=>⟨(m b hb).2,by rw [aH (m b hb).1]; exact e⟩,fun b _ hb e=>⟨(m b hb).2,by rw [aH (m b hb).1]; exact e⟩,fun b _ hb e=>⟨(m b hb).2,by rw [aH (m b hb).1]; exact e⟩,
  fun b _ e=>by rw [aH (fun z=>by rw [z,h] at e; cases e; cases mu)]; exact e,
  fun b _ _ e=>by rw [aH (fun z=>by rw [z,h] at e; cases e; cases mu)]; exact e⟩
theorem Reps.length {K:PySem.W.Frag}{M:Addr->Prop}{H:Hp}:∀ {vs:List V}{xs:List PV},Reps K M H vs xs->vs.length=xs.length
 | _,_,.nil=>rfl
 | _,_,.cons _ t=>congrArg (· + 1) t.length
theorem Reps.get {K:PySem.W.Frag}{M:Addr->Prop}{H:Hp}:∀ {vs:List V}{xs:List PV}{i:Nat}{v:V},Reps K M H vs xs->vs[i]? = some v->∃ x,xs[i]? = some x/\aF K M H v x
 | _,_,_,_,.nil,e=>by simp at e
 | _,_,0,_,.cons r _,e=>by simp at e; subst e; exact⟨_,rfl,r⟩
 | _,_,i+1,v,.cons _ t,e=>by
  rw [bj8] at e
  obtain ⟨x,h1,h2⟩:=t.get e
  exact⟨x,by rw [bj8]; exact h1,h2⟩
theorem Reps.at {K:PySem.W.Frag}{M:Addr->Prop}{H:Hp}:∀ {vs:List V}{xs:List PV}{i:Nat}{x:PV},Reps K M H vs xs->xs[i]? = some x->∃ v,vs[i]? = some v/\aF K M H v x
 | _,_,_,_,.nil,e=>by simp at e
 | _,_,0,_,.cons r _,e=>by simp at e; subst e; exact⟨_,rfl,r⟩
 | _,_,i+1,v,.cons _ t,e=>by
  rw [bj8] at e
  obtain ⟨x,h1,h2⟩:=t.at e
  exact⟨x,by rw [bj8]; exact h1,h2⟩
theorem Reps.append {K:PySem.W.Frag}{M:Addr->Prop}{H:Hp}:∀ {vs:List V}{xs:List PV}{us:List V}{ys:List PV},Reps K M H vs xs->Reps K M H us ys->Reps K M H (vs ++ us) (xs ++ ys)
 | _,_,_,_,.nil,s=>s
 | _,_,_,_,.cons r t,s=>.cons r (t.append s)
theorem Reps.set {K:PySem.W.Frag}{M:Addr->Prop}{H:Hp}{v:V}{x:PV} (q:aF K M H v x):∀ (i:Nat) {vs:List V}{xs:List PV},Reps K M H vs xs->Reps K M H (vs.set i v) (xs.set i x)
 | _,_,_,.nil=>.nil
 | 0,_,_,.cons r t=>.cons q t
 | i+1,_,_,.cons r t=>.cons r (Reps.set q i t)
theorem Reps.take {K:PySem.W.Frag}{M:Addr->Prop}{H:Hp}:∀ (n:Nat) {vs:List V}{xs:List PV},Reps K M H vs xs->Reps K M H (vs.take n) (xs.take n)
 | 0,_,_,_=>by simp; exact .nil
 | _+1,_,_,.nil=>.nil
 | n+1,_,_,.cons r t=>.cons r (Reps.take n t)
theorem Reps.drop {K:PySem.W.Frag}{M:Addr->Prop}{H:Hp}:∀ (n:Nat) {vs:List V}{xs:List PV},Reps K M H vs xs->Reps K M H (vs.drop n) (xs.drop n)
 | 0,_,_,r=>r
 | _+1,_,_,.nil=>.nil
 | n+1,_,_,.cons _ t=>Reps.drop n t
theorem Reps.eraseIdx {K:PySem.W.Frag}{M:Addr->Prop}{H:Hp}:∀ (n:Nat) {vs:List V}{xs:List PV},Reps K M H vs xs->Reps K M H (vs.eraseIdx n) (xs.eraseIdx n)
 | _,_,_,.nil=>.nil
 | 0,_,_,.cons _ t=>t
 | n+1,_,_,.cons r t=>.cons r (Reps.eraseIdx n t)
abbrev intz (ns:List Int):List PV:=ns.map PV.int
theorem Reps.intz {K:PySem.W.Frag}{M:Addr->Prop}{H:Hp}:∀ (ns:List Int),Reps K M H (ns.map V.int) (intz ns)
 | []=>.nil
 | n :: r=>.cons (.int n) (Reps.intz r)
theorem Reps.ofInts {K:PySem.W.Frag}{M:Addr->Prop}{H:Hp}:∀ {ns:List Int}{us:List V},Reps K M H us (PP.intz ns)->us=ns.map V.int
 | [],_,.nil=>rfl
 | n :: r,_,.cons q t=>by
  cases q
  rw [Reps.ofInts t]; rfl
theorem cE:∀ (ns:List Int),flats (intz ns)=true
 | []=>rfl
 | n :: r=>by show (flat (.int n) && flats (intz r))=true; rw [cE r]; rfl
inductive Tg | rd | sh | nw | fr
inductive Slot | sh (g:Bool) (x:PV) | own (x:PV)
def Slot.val:Slot->PV
 | .sh _ x=>x
 | .own x=>x
def Slot.tag:Slot->Tg
 | .sh true _=>.nw
 | .sh false _=>.sh
 | .own _=>.rd
abbrev bG:=List (Option Slot)
def Ms (H0:Hp) (W:Addr->Prop):Bool->Addr->Prop
 | false,a=>¬ W a
 | true,a=>¬ W a/\H0 a=none
def Mg (H0:Hp) (W:Addr->Prop) (Hs:Hp):Tg->Addr->Prop
 | .rd,_=>True
 | .sh,a=>¬ W a
 | .nw,a=>¬ W a/\H0 a=none
 | .fr,a=>Hs a=none
def g9 (K:PySem.W.Frag) (M:Addr->Prop) (H:Hp) (a:Addr):PV->Prop
 | .lst xs=>∃ us,H a=some (.lst us)/\Reps K M H us xs
 | .dK ps=>∃ kvs,H a=some (.dK kvs)/\kvs.map (·.1)=ps.map (·.1)/\Reps K M H (kvs.map (·.2)) (ps.map (·.2))
 | .dT ps=>∃ kvs,H a=some (.dT kvs)/\kvs.map (·.1)=ps.map (·.1)/\Reps K M H (kvs.map (·.2)) (ps.map (·.2))
 | _=>False
def F7 (K:PySem.W.Frag) (H0:Hp) (W:Addr->Prop) (H:Hp) (v:V):Slot->Prop
 | .sh g x=>aF K (Ms H0 W g) H v x
 | .own x=>∃ a,v = .ref a/\W a/\g9 K (Ms H0 W true) H a x
structure PX (K:PySem.W.Frag) (H0:Hp) (W:Addr->Prop) (σ:St) (ρ:bG) (H:Hp):Prop where
 len:ρ.length=σ.length
 same:aD H0 H
 wm:∀ a,W a->H0 a=none/\∃ o,H a=some o/\fZ o=true
 sl:∀ (i:Nat) (m:Slot),ρ[i]? = some (some m)->∃ v,σ[i]? = some (some v)/\F7 K H0 W H v m
 dis:∀ (i j:Nat) (x y:PV) (a:Addr),ρ[i]? = some (some (.own x))->ρ[j]? = some (some (.own y))->σ[i]? = some (some (.ref a))->σ[j]? = some (some (.ref a))->i=j
theorem g9.keep {K:PySem.W.Frag}{M M':Addr->Prop}{H H':Hp}{a:Addr} (k:gU M M' H H') (ha:∀ o,H a=some o->H' a=some o):∀ {x:PV},g9 K M H a x->g9 K M' H' a x
 | .lst _,⟨us,e,r⟩=>⟨us,ha _ e,r.keep k⟩
 | .dK _,⟨us,e,q,r⟩=>⟨us,ha _ e,q,r.keep k⟩
 | .dT _,⟨us,e,q,r⟩=>⟨us,ha _ e,q,r.keep k⟩
theorem g9.at {K:PySem.W.Frag}{M:Addr->Prop}{H:Hp}{a:Addr}:∀ {x:PV},g9 K M H a x->∃ o,H a=some o/\fZ o=true
 | .lst _,⟨us,e,r⟩=>⟨_,e,rfl⟩
 | .dK _,⟨us,e,q,r⟩=>⟨_,e,rfl⟩
 | .dT _,⟨us,e,q,r⟩=>⟨_,e,rfl⟩
theorem g9.rep {K:PySem.W.Frag}{M M':Addr->Prop}{H:Hp}{a:Addr} (m:∀ b,M b->M' b) (ha:M' a):∀ {x:PV},g9 K M H a x->aF K M' H (.ref a) x
 | .lst _,⟨us,e,r⟩=>.lst ha e (r.same (aD.refl _) m)
 | .dK _,⟨us,e,q,r⟩=>.dK ha e q (r.same (aD.refl _) m)
 | .dT _,⟨us,e,q,r⟩=>.dT ha e q (r.same (aD.refl _) m)
section
variable {K : PySem.W.Frag} {H0 : Hp} {W W' : Addr → Prop} {σ : St} {ρ : bG} {H H' : Hp}
theorem PX.mono (p:PX K H0 W σ ρ H) (s:aD H H'):PX K H0 W σ ρ H':=by
 refine⟨p.len,p.same.trans s,fun a h=>⟨(p.wm a h).1,let ⟨o,e,m⟩:=(p.wm a h).2; ⟨o,s _ _ e,m⟩⟩,fun i m h=>?_,p.dis⟩
 obtain ⟨v,e,r⟩:=p.sl i m h
 refine⟨v,e,?_⟩
 cases m with
 | sh g x=>exact aF.same r s fun _ z=>z
 | own x=>
  obtain ⟨a,e1,e2,r⟩:=r
  exact⟨a,e1,e2,r.keep (.same s fun _ z=>z) fun _ z=>s _ _ z⟩
theorem PX.new (p:PX K H0 W σ ρ H) {a:Addr} (h:H a=none) : ¬ W a/\H0 a=none:=
 ⟨fun z=>(by obtain ⟨_,o,e,_⟩:=p.wm a z; rw [h] at e; cases e),p.same.free h⟩
theorem Mg.back {g:Tg}{H1:Hp} (s:aD H H1) {a:Addr} (h:Mg H0 W H1 g a):Mg H0 W H g a:=by
 cases g with
 | fr=>exact s.free h
 | rd=>exact h
 | sh=>exact h
 | nw=>exact h
end
abbrev PK:=PV->Tg->Prop
abbrev aE:=bG->PK->Prop
abbrev bT:=bG->(Bool->Prop)->Prop
abbrev cK:=bG->(List (PV × Tg)->Prop)->Prop
inductive gA (K:PySem.W.Frag) (H0:Hp) (W:Addr->Prop) (Hs H:Hp):List V->List (PV × Tg)->Prop
 | nil:gA K H0 W Hs H [] []
 | cons {v:V}{x:PV}{g:Tg}{vs:List V}{xs:List (PV × Tg)}:aF K (Mg H0 W Hs g) H v x->gA K H0 W Hs H vs xs->gA K H0 W Hs H (v :: vs) ((x,g) :: xs)
def qO (K:PySem.W.Frag) (H0:Hp) (W:Addr->Prop) (H:Hp) (Q:PK) (Q':VK):Prop:=∀ v H' x g,aD H H'->aF K (Mg H0 W H g) H' v x->Q x g->Q' v H'
def LE (X:Cx) (t:aE):TE:=fun σ H Q'=>∃ (W:Addr->Prop) (ρ:bG) (Q:PK),PX X.K X.H₀ W σ ρ H/\t ρ Q/\qO X.K X.H₀ W H Q Q'
def LT (X:Cx) (t:bT):TT:=fun σ H Q'=>∃ (W:Addr->Prop) (ρ:bG) (Q:Bool->Prop),PX X.K X.H₀ W σ ρ H/\t ρ Q/\∀ b H',aD H H'->Q b->Q' b H'
def LA (X:Cx) (t:cK):TA:=fun σ H Q'=>∃ (W:Addr->Prop) (ρ:bG) (Q:List (PV × Tg)->Prop),PX X.K X.H₀ W σ ρ H/\t ρ Q/\∀ vs H' xs,aD H H'->gA X.K X.H₀ W H H' vs xs->Q xs->Q' vs H'
theorem gA.same {K:PySem.W.Frag}{H0:Hp}{W:Addr->Prop}{Hs Hs' H H':Hp} (s:aD H H') (b:aD Hs' Hs):∀ {vs:List V}{xs:List (PV × Tg)},gA K H0 W Hs H vs xs->gA K H0 W Hs' H' vs xs
 | _,_,.nil=>.nil
 | _,_,.cons r t=>.cons (r.same s fun _ z=>Mg.back b z) (t.same s b)
theorem gA.any {K:PySem.W.Frag}{H0:Hp}{W:Addr->Prop}{Hs H:Hp}:∀ {vs:List V}{xs:List (PV × Tg)},gA K H0 W Hs H vs xs->Reps K (fun _=>True) H vs (xs.map (·.1))
 | _,_,.nil=>.nil
 | _,_,.cons r t=>.cons (r.same (aD.refl _) fun _ _=>trivial) t.any
def Nw:Tg->PV->Prop
 | .fr,_=>True
 | .nw,_=>True
 | _,x=>flat x=true
def oA (xs:List (PV × Tg)):Prop:=∀ p ∈ xs,Nw p.2 p.1
section
variable {K : PySem.W.Frag} {H0 Hs H : Hp} {W : Addr → Prop} {σ : St} {ρ : bG}
theorem Nw.rep {g:Tg}{x:PV}{v:V} (px:PX K H0 W σ ρ Hs) (n:Nw g x) (r:aF K (Mg H0 W Hs g) H v x):aF K (Ms H0 W true) H v x:=by
 cases g with
 | fr=>exact r.same (aD.refl _) fun a z=>px.new z
 | nw=>exact r.same (aD.refl _) fun a z=>z
 | sh=>exact r.flat n
 | rd=>exact r.flat n
theorem oA.reps {vs:List V}:∀ {xs:List (PV × Tg)}{vs:List V},PX K H0 W σ ρ Hs->oA xs->gA K H0 W Hs H vs xs->Reps K (Ms H0 W true) H vs (xs.map (·.1))
 | _,_,px,n,.nil=>.nil
 | _,_,px,n,.cons r t=>.cons (Nw.rep px (n _ bg7) r) (oA.reps (vs:=vs) px (fun p hp=>n p (bh5 _ hp)) t)
theorem qP {v:V}{m:Slot} (r:F7 K H0 W H v m):aF K (Mg H0 W Hs m.tag) H v m.val:=by
 cases m with
 | sh g x=>
  cases g with
  | true=>exact aF.same r (aD.refl _) fun _ z=>z
  | false=>exact aF.same r (aD.refl _) fun _ z=>z
 | own x=>
  obtain ⟨a,rfl,_,r⟩:=r
  exact r.rep (fun _ _=>trivial) trivial
end
section
variable {X : Cx} {σ : St} {H : Hp} {Q' : VK} {ta tb : aE}
def a5 (i:Nat):aE:=fun ρ Q=>∃ m,ρ[i]? = some (some m)/\Q m.val m.tag
def qC (x:PV):aE:=fun _ Q=>Q x .fr
theorem au3 {i:Nat} (h:LE X (a5 i) σ H Q'):eN i σ H Q':=by
 obtain ⟨W,ρ,Q,px,⟨m,e,q⟩,k⟩:=h
 obtain ⟨v,ev,r⟩:=px.sl i m e
 exact⟨v,ev,k v H _ _ (aD.refl _) (qP r) q⟩
theorem qQ {x:PV}{v:V} (hr:∀ M,aF X.K M H v x) (h:LE X (qC x) σ H Q'):tC v σ H Q':=by
 obtain ⟨W,ρ,Q,px,q,k⟩:=h
 exact k v H _ _ (aD.refl _) (hr _) q
def eS (X:Cx) (R:PV->Tg->PV->Tg->PK->Prop) (r:R2):Prop:=∀ (W:Addr->Prop) (Hs H:Hp) (u v:V) (x y:PV) (g g':Tg) (Q:PK) (Q':VK),aD Hs H->
 (∀ a,Hs a=none->¬ W a/\X.H₀ a=none)->aF X.K (Mg X.H₀ W Hs g) H u x->aF X.K (Mg X.H₀ W Hs g') H v y->R x g y g' Q->(∀ w H' z gz,aD H H'->aF X.K (Mg X.H₀ W Hs gz) H' w z->Q z gz->Q' w H')->r u v H Q'
def q2 (R:PV->Tg->PV->Tg->PK->Prop) (ta tb:aE):aE:=fun ρ Q=>ta ρ fun x g=>tb ρ fun y g'=>R x g y g' Q
theorem qR {R:PV->Tg->PV->Tg->PK->Prop}{r:R2} (c:eS X R r) (h:LE X (q2 R ta tb) σ H Q'):nN r (LE X ta) (LE X tb) σ H Q':=by
 obtain ⟨W,ρ,Q,px,q,k⟩:=h
 refine⟨W,ρ,_,px,q,fun u H1 x g s1 r1 q1=>⟨W,ρ,_,px.mono s1,q1,fun v H2 y g' s2 r2 q2=>?_⟩⟩
 exact c W H H2 u v x y g g' Q Q' (s1.trans s2) (fun a z=>px.new z) (r1.same s2 fun _ z=>z) (r2.same (aD.refl _) fun _ z=>Mg.back s1 z) q2 fun w H' z gz s3 r3 q3=>k w H' z gz ((s1.trans s2).trans s3) r3 q3
def RI (C:Int->Int->Prop) (f:Int->Int->PV):PV->Tg->PV->Tg->PK->Prop:=fun x _ y _ Q=>∃ i j,x = .int i/\y = .int j/\C i j/\Q (f i j) .fr
def eU (f:Int->Int->PV):PV->Tg->PV->Tg->PK->Prop:=fun x _ y _ Q=>∃ i j,x = .int i/\y = .int j/\Q (f i j) .fr
theorem oB {C:Int->Int->Prop}{f:Int->Int->Int}:eS X (RI C fun i j=>.int (f i j)) (rI C fun i j=>.int (f i j)):=by
 rintro W Hs H u v x y g g' Q Q' s n r1 r2 ⟨i,j,rfl,rfl,c,q⟩ k
 cases r1; cases r2
 exact⟨i,j,rfl,rfl,c,k _ _ _ _ (aD.refl _) (.int _) q⟩
theorem F8 {f:Int->Int->Int}:eS X (eU fun i j=>.int (f i j)) (iO fun i j=>.int (f i j)):=by
 rintro W Hs H u v x y g g' Q Q' s n r1 r2 ⟨i,j,rfl,rfl,q⟩ k
 cases r1; cases r2
 exact⟨i,j,rfl,rfl,k _ _ _ _ (aD.refl _) (.int _) q⟩
theorem lQ {f:Int->Int->Bool}:eS X (eU fun i j=>.bl (f i j)) (iO fun i j=>.bl (f i j)):=by
 rintro W Hs H u v x y g g' Q Q' s n r1 r2 ⟨i,j,rfl,rfl,q⟩ k
 cases r1; cases r2
 exact⟨i,j,rfl,rfl,k _ _ _ _ (aD.refl _) (.bl _) q⟩
def kH (neg:Bool):PV->Tg->PV->Tg->PK->Prop:=fun x _ y _ Q=>(∃ i j,x = .int i/\y = .int j/\Q (.bl (if neg=true then !decide (i=j) else decide (i=j))) .fr) ∨ (∃ i j,x = .bl i/\y = .bl j/\Q (.bl (if neg=true then !decide (i=j) else decide (i=j))) .fr)
theorem F9 (i j:Int):decide (V.int i=V.int j)=decide (i=j):=by
 rw [bp4,bj9,bj9]; exact⟨fun z=>V.int.inj z,fun z=>congrArg V.int z⟩
theorem G0 (i j:Bool):decide (V.bl i=V.bl j)=decide (i=j):=by
 rw [bp4,bj9,bj9]; exact⟨fun z=>V.bl.inj z,fun z=>congrArg V.bl z⟩
theorem G1:eS X (kH false) yV:=by
 rintro W Hs H u v x y g g' Q Q' s n r1 r2 (⟨i,j,rfl,rfl,q⟩ | ⟨i,j,rfl,rfl,q⟩) k
 ·cases r1; cases r2
  exact⟨rfl,by rw [F9]; exact k _ _ _ _ (aD.refl _) (.bl _) q⟩
 ·cases r1; cases r2
  exact⟨rfl,by rw [G0]; exact k _ _ _ _ (aD.refl _) (.bl _) q⟩
theorem au4:eS X (kH true) pK:=by
 rintro W Hs H u v x y g g' Q Q' s n r1 r2 (⟨i,j,rfl,rfl,q⟩ | ⟨i,j,rfl,rfl,q⟩) k
 ·cases r1; cases r2
  exact⟨rfl,by rw [F9]; exact k _ _ _ _ (aD.refl _) (.bl _) q⟩
 ·cases r1; cases r2
  exact⟨rfl,by rw [G0]; exact k _ _ _ _ (aD.refl _) (.bl _) q⟩
def aR (t:aE):bT:=fun ρ Q=>t ρ fun x _=>∃ b,x = .bl b/\Q b
theorem qS {t:aE}{Q':Bool->Hp->Prop} (h:LT X (aR t) σ H Q'):LE X t σ H fun x H'=>∃ k,x = .bl k/\Q' k H':=by
 obtain ⟨W,ρ,Q,px,q,k⟩:=h
 refine⟨W,ρ,_,px,q,?_⟩
 rintro v H1 x g s r ⟨b,rfl,q⟩
 cases r
 exact⟨b,rfl,k _ _ s q⟩
def jL (t u:bT):bT:=fun ρ Q=>t ρ fun c=>if c=true then u ρ Q else Q false
def jM (t u:bT):bT:=fun ρ Q=>t ρ fun c=>if c=true then Q true else u ρ Q
def gV (t:bT):bT:=fun ρ Q=>t ρ fun c=>Q (!c)
variable {t u : bT} {Qb : Bool → Hp → Prop}
theorem au5 (h:LT X (jL t u) σ H Qb):yA (LT X t) (LT X u) σ H Qb:=by
 obtain ⟨W,ρ,Q,px,q,k⟩:=h
 refine⟨W,ρ,_,px,q,fun b H1 s1 q1=>?_⟩
 cases b with
 | true=>exact aW ⟨W,ρ,Q,px.mono s1,by simpa using q1,fun b H2 s2 q2=>k _ _ (s1.trans s2) q2⟩
 | false=>exact aO (k _ _ s1 (by simpa using q1))
theorem au6 (h:LT X (jM t u) σ H Qb):yB (LT X t) (LT X u) σ H Qb:=by
 obtain ⟨W,ρ,Q,px,q,k⟩:=h
 refine⟨W,ρ,_,px,q,fun b H1 s1 q1=>?_⟩
 cases b with
 | false=>exact aO ⟨W,ρ,Q,px.mono s1,by simpa using q1,fun b H2 s2 q2=>k _ _ (s1.trans s2) q2⟩
 | true=>exact aW (k _ _ s1 (by simpa using q1))
theorem au7 (h:LT X (gV t) σ H Qb):yC (LT X t) σ H Qb:=by
 obtain ⟨W,ρ,Q,px,q,k⟩:=h
 exact⟨W,ρ,_,px,q,fun b H1 s1 q1=>k _ _ s1 q1⟩
def jN (ta tb:aE):aE:=fun ρ Q=>ta ρ fun x _=>∃ c,x = .bl c/\if c=true then tb ρ Q else Q (.bl false) .fr
def vC (ta:aE):aE:=fun ρ Q=>ta ρ fun x _=>∃ c,x = .bl c/\Q (.bl (!c)) .fr
theorem qO.back {K:PySem.W.Frag}{H0:Hp}{W:Addr->Prop}{H H1:Hp}{Q:PK} (k:qO K H0 W H Q Q') (s:aD H H1):qO K H0 W H1 Q Q':=fun v H' x g s' r q=>k v H' x g (s.trans s') (r.same (aD.refl _) fun _ z=>Mg.back s z) q
theorem au8 (h:LE X (jN ta tb) σ H Q'):yD (LE X ta) (LE X tb) σ H Q':=by
 obtain ⟨W,ρ,Q,px,q,k⟩:=h
 refine⟨W,ρ,_,px,q,?_⟩
 rintro v H1 x g s1 r ⟨c,rfl,q⟩
 cases r
 refine⟨c,rfl,?_⟩
 cases c with
 | true=>exact aW ⟨W,ρ,Q,px.mono s1,by simpa using q,k.back s1⟩
 | false=>exact aO (k _ _ _ _ s1 (.bl _) (by simpa using q))
theorem au9 (h:LE X (vC ta) σ H Q'):yE (LE X ta) σ H Q':=by
 obtain ⟨W,ρ,Q,px,q,k⟩:=h
 refine⟨W,ρ,_,px,q,?_⟩
 rintro v H1 x g s1 r ⟨c,rfl,q⟩
 cases r
 exact⟨c,rfl,k _ _ _ _ s1 (.bl _) q⟩
def a9:cK:=fun _ Q=>Q []
def a6 (te:aE) (tr:cK):cK:=fun ρ Q=>te ρ fun x g=>tr ρ fun xs=>Q ((x,g) :: xs)
variable {Qa : List V → Hp → Prop} {tr : cK}
theorem av0 (h:LA X a9 σ H Qa):kC σ H Qa:=by
 obtain ⟨W,ρ,Q,px,q,k⟩:=h
 exact k _ _ _ (aD.refl _) .nil q
theorem av1 (h:LA X (a6 ta tr) σ H Qa):iP (LE X ta) (LA X tr) σ H Qa:=by
 obtain ⟨W,ρ,Q,px,q,k⟩:=h
 refine⟨W,ρ,_,px,q,fun v H1 x g s1 r1 q1=>⟨W,ρ,_,px.mono s1,q1,fun vs H2 xs s2 r2 q2=>?_⟩⟩
 exact k _ _ _ (s1.trans s2) (.cons (r1.same s2 fun _ z=>z) (r2.same (aD.refl _) s1)) q2
def vD (t:cK):aE:=fun ρ Q=>t ρ fun xs=>xs.length<=1000/\oA xs/\Q (.tup (xs.map (·.1))) .nw
def gB (t:cK):aE:=fun ρ Q=>t ρ fun xs=>xs.length<=1000/\flats (xs.map (·.1))=true/\Q (.tup (xs.map (·.1))) .fr
def jO (t:cK):aE:=fun ρ Q=>t ρ fun xs=>xs.length<=1000/\flats (xs.map (·.1))=true/\Q (.lst (xs.map (·.1))) .fr
theorem gA.length {K:PySem.W.Frag}{H0:Hp}{W:Addr->Prop}{Hs H:Hp}:∀ {vs:List V}{xs:List (PV × Tg)},gA K H0 W Hs H vs xs->vs.length=xs.length
 | _,_,.nil=>rfl
 | _,_,.cons _ t=>congrArg (· + 1) t.length
theorem qT {n:Nat} (h:n<=1000):n<=sizeLine:=bm3 (pX h)
theorem av2 (h:LE X (vD tr) σ H Q'):u6 (LA X tr) σ H Q':=by
 obtain ⟨W,ρ,Q,px,q,k⟩:=h
 refine⟨W,ρ,_,px,q,?_⟩
 rintro vs H1 xs s1 r ⟨hl,n,q⟩
 refine⟨by rw [r.length]; exact qT hl,fun p hp=>k _ _ _ .nw (s1.trans (bE hp _)) (.tup b8 ?_) q⟩
 exact (oA.reps (vs:=vs) px n r).same (bE hp _) fun _ z=>z
theorem av3 (h:LE X (gB tr) σ H Q'):u6 (LA X tr) σ H Q':=by
 obtain ⟨W,ρ,Q,px,q,k⟩:=h
 refine⟨W,ρ,_,px,q,?_⟩
 rintro vs H1 xs s1 r ⟨hl,n,q⟩
 refine⟨by rw [r.length]; exact qT hl,fun p hp=>k _ _ _ .fr (s1.trans (bE hp _)) (.tup b8 ?_) q⟩
 exact (r.any.flat n).same (bE hp _) fun _ z=>z
theorem av4 (h:LE X (jO tr) σ H Q'):zG (LA X tr) σ H Q':=by
 obtain ⟨W,ρ,Q,px,q,k⟩:=h
 refine⟨W,ρ,_,px,q,?_⟩
 rintro vs H1 xs s1 r ⟨hl,n,q⟩
 refine⟨by rw [r.length]; exact qT hl,fun p hp=>k _ _ _ .fr (s1.trans (bE hp _)) (.lst (s1.free hp) b8 ?_) q⟩
 exact (r.any.flat n).same (bE hp _) fun _ z=>z
def gC (X:Cx) (R:List PV->(PV->Prop)->Prop) (r:List V->Hp->VK->Prop):Prop:=∀ (H:Hp) (vs:List V) (xs:List PV) (Q:PV->Prop) (Q':VK),Reps X.K (fun _=>True) H vs xs->R xs Q->
 (∀ w H' z,aD H H'->aF X.K (fun a=>H a=none) H' w z->Q z->Q' w H')->r vs H Q'
def aC (R:List PV->(PV->Prop)->Prop) (t:cK):aE:=fun ρ Q=>t ρ fun xs=>R (xs.map (·.1)) fun z=>Q z .fr
theorem G2 {R:List PV->(PV->Prop)->Prop}{r:List V->Hp->VK->Prop} (c:gC X R r) (h:LE X (aC R tr) σ H Q'):u8 r (LA X tr) σ H Q':=by
 obtain ⟨W,ρ,Q,px,q,k⟩:=h
 refine⟨W,ρ,_,px,q,fun vs H1 xs s1 r1 q1=>c H1 vs _ _ Q' r1.any q1 fun w H' z s2 r2 q2=>k w H' z .fr (s1.trans s2) (r2.same (aD.refl _) fun _ z=>s1.free z) q2⟩
end
structure iX where
 nx:bG->Prop
 rt:PV->Prop
 bk:bG->Prop:=fun _=>False
 ct:bG->Prop:=fun _=>False
abbrev aK:=iX->bG->Prop
def Ev (W:Addr->Prop) (H:Hp) (W':Addr->Prop) (H':Hp):Prop:=∀ b o,H b=some o->¬ W b->H' b=some o/\¬ W' b
theorem Ev.trans {W W1 W2:Addr->Prop}{H H1 H2:Hp} (a:Ev W H W1 H1) (b:Ev W1 H1 W2 H2):Ev W H W2 H2:=fun c o h n=>let ⟨h1,n1⟩:=a c o h n; b c o h1 n1
theorem Ev.same {W:Addr->Prop}{H H':Hp} (s:aD H H'):Ev W H W H':=fun c o h n=>⟨s _ _ h,n⟩
theorem Ev.refl (W:Addr->Prop) (H:Hp):Ev W H W H:=Ev.same (aD.refl _)
structure lR (X:Cx) (W:Addr->Prop) (H:Hp) (D':iX) (D:c9):Prop where
 nx:∀ W' σ' H' ρ',Ev W H W' H'->PX X.K X.H₀ W' σ' ρ' H'->D'.nx ρ'->D.nx σ' H'
 rt:∀ v H' x,aD X.H₀ H'->aF X.K (fun a=>X.H₀ a=none) H' v x->D'.rt x->D.rt v H'
 bk:∀ W' σ' H' ρ',Ev W H W' H'->PX X.K X.H₀ W' σ' ρ' H'->D'.bk ρ'->D.bk σ' H'
 ct:∀ W' σ' H' ρ',Ev W H W' H'->PX X.K X.H₀ W' σ' ρ' H'->D'.ct ρ'->D.ct σ' H'
theorem lR.step {X:Cx}{W W1:Addr->Prop}{H H1:Hp}{D':iX}{D:c9} (k:lR X W H D' D) (e:Ev W H W1 H1):lR X W1 H1 D' D:=
 ⟨fun W' σ' H' ρ' e'=>k.nx W' σ' H' ρ' (e.trans e'),k.rt,fun W' σ' H' ρ' e'=>k.bk W' σ' H' ρ' (e.trans e'),fun W' σ' H' ρ' e'=>k.ct W' σ' H' ρ' (e.trans e')⟩
def LS (X:Cx) (t:aK):TS:=fun D σ H=>∃ (W:Addr->Prop) (ρ:bG) (D':iX),PX X.K X.H₀ W σ ρ H/\t D' ρ/\lR X W H D' D
theorem dA {α:Type}{l:List α}{i j:Nat}{a b:α} (h:(l.set i a)[j]? = some b):(j=i/\i < l.length/\b=a) ∨ (j ≠ i/\l[j]? = some b):=by
 by_cases e:j=i
 ·subst e
  have hl:j < (l.set j a).length:=(bh4.mp h).1
  rw [bl0] at hl
  rw [bk4 hl] at h
  exact .inl ⟨rfl,hl,(bi5 h).symm⟩
 ·rw [bi1 (Ne.symm e)] at h
  exact .inr ⟨e,h⟩
section
variable {K : PySem.W.Frag} {H0 : Hp} {W W' : Addr → Prop} {σ : St} {ρ : bG} {H H' Hs : Hp}
theorem PX.setSh {i:Nat}{v:V}{g:Bool}{x:PV} (p:PX K H0 W σ ρ H) (r:aF K (Ms H0 W g) H v x):PX K H0 W (σ.set i (some v)) (ρ.set i (some (.sh g x))) H:=by
 refine⟨by rw [bl0,bl0]; exact p.len,p.same,p.wm,fun j m h=>?_,fun j k y z a h1 h2 h3 h4=>?_⟩
 ·rcases dA h with ⟨rfl,hl,e⟩ | ⟨hne,h⟩
  ·cases e
   rw [p.len] at hl
   exact⟨v,bk4 hl,r⟩
  ·obtain ⟨u,e,q⟩:=p.sl j m h
   exact⟨u,by rw [bi1 (Ne.symm hne)]; exact e,q⟩
 ·rcases dA h1 with ⟨_,_,e⟩ | ⟨n1,h1⟩
  ·cases e
  ·rcases dA h2 with ⟨_,_,e⟩ | ⟨n2,h2⟩
   ·cases e
   ·rw [bi1 (Ne.symm n1)] at h3
    rw [bi1 (Ne.symm n2)] at h4
    exact p.dis j k y z a h1 h2 h3 h4
theorem PX.setNone {i:Nat}{o:Option V} (p:PX K H0 W σ ρ H):PX K H0 W (σ.set i o) (ρ.set i none) H:=by
 refine⟨by rw [bl0,bl0]; exact p.len,p.same,p.wm,fun j m h=>?_,fun j k y z a h1 h2 h3 h4=>?_⟩
 ·rcases dA h with ⟨rfl,hl,e⟩ | ⟨hne,h⟩
  ·cases e
  ·obtain ⟨u,e,q⟩:=p.sl j m h
   exact⟨u,by rw [bi1 (Ne.symm hne)]; exact e,q⟩
 ·rcases dA h1 with ⟨_,_,e⟩ | ⟨n1,h1⟩
  ·cases e
  ·rcases dA h2 with ⟨_,_,e⟩ | ⟨n2,h2⟩
   ·cases e
   ·rw [bi1 (Ne.symm n1)] at h3
    rw [bi1 (Ne.symm n2)] at h4
    exact p.dis j k y z a h1 h2 h3 h4
def lT (W:Addr->Prop) (a:Addr):Addr->Prop:=fun b=>W b ∨ b=a
theorem vE {g:Bool}{a b:Addr} (n:b ≠ a) (h:Ms H0 W g b):Ms H0 (lT W a) g b:=by
 cases g with
 | true=>exact⟨fun z=>z.elim h.1 n,h.2⟩
 | false=>exact fun z=>z.elim h n
theorem PX.setOwn {i:Nat}{a:Addr}{x:PV} (p:PX K H0 W σ ρ Hs) (s:aD Hs H) (ha:Hs a=none) (r:g9 K (Ms H0 (lT W a) true) H a x):PX K H0 (lT W a) (σ.set i (some (.ref a))) (ρ.set i (some (.own x))) H:=by
 have old:∀ b o,Hs b=some o->b ≠ a:=fun b o e z=>by rw [z,ha] at e; cases e
 have kp:∀ g,gU (Ms H0 W g) (Ms H0 (lT W a) g) Hs H:=fun g=>⟨fun b _ m e=>⟨vE (old _ _ e) m,s _ _ e⟩,fun b _ m e=>⟨vE (old _ _ e) m,s _ _ e⟩,fun b _ m e=>⟨vE (old _ _ e) m,s _ _ e⟩,fun _ _ e=>s _ _ e,fun _ _ _ e=>s _ _ e⟩
 have wa : ¬ W a:=(p.new ha).1
 refine⟨by rw [bl0,bl0]; exact p.len,p.same.trans s,fun b z=>?_,fun j m h=>?_,fun j k y z b h1 h2 h3 h4=>?_⟩
 ·rcases z with z | rfl
  ·obtain ⟨h1,o,h2,h3⟩:=p.wm b z
   exact⟨h1,o,s _ _ h2,h3⟩
  ·exact⟨(p.new ha).2,r.at⟩
 ·rcases dA h with ⟨rfl,hl,e⟩ | ⟨hne,h⟩
  ·cases e
   rw [p.len] at hl
   exact⟨_,bk4 hl,a,rfl,.inr rfl,r⟩
  ·obtain ⟨u,e,q⟩:=p.sl j m h
   refine⟨u,by rw [bi1 (Ne.symm hne)]; exact e,?_⟩
   cases m with
   | sh g y=>exact aF.keep (kp g) q
   | own y=>
    obtain ⟨b,e1,e2,q⟩:=q
    exact⟨b,e1,.inl e2,q.keep (kp true) fun o z=>s _ _ z⟩
 ·have ne:∀ {j:Nat}{y:PV},ρ[j]? = some (some (.own y))->σ[j]? ≠ some (some (.ref a)):=fun {j y} h1 h2=>by
   obtain ⟨u,e,c,e1,e2,_⟩:=p.sl j _ h1
   rw [h2] at e
   cases e
   cases e1
   exact wa e2
  rcases dA h1 with ⟨e1,l1,_⟩ | ⟨n1,h1⟩
  ·rcases dA h2 with ⟨e2,_,_⟩ | ⟨n2,h2⟩
   ·rw [e1,e2]
   ·rw [e1,bk4 (by rw [<- p.len]; exact l1)] at h3
    rw [bi1 (Ne.symm n2)] at h4
    cases h3
    exact absurd h4 (ne h2)
  ·rw [bi1 (Ne.symm n1)] at h3
   rcases dA h2 with ⟨e2,l2,_⟩ | ⟨n2,h2⟩
   ·rw [e2,bk4 (by rw [<- p.len]; exact l2)] at h4
    cases h4
    exact absurd h3 (ne h1)
   ·rw [bi1 (Ne.symm n2)] at h4
    exact p.dis j k y z b h1 h2 h3 h4
theorem Ev.own {a:Addr} (s:aD Hs H) (ha:Hs a=none):Ev W Hs (lT W a) H:=fun b o e n=>⟨s _ _ e,fun z=>z.elim n fun z=>by rw [z,ha] at e; cases e⟩
theorem iY {g:Bool}{a b:Addr} (wa:W a) (h:Ms H0 W g b):b ≠ a:=by
 cases g with
 | true=>exact fun z=>h.1 (by rw [z]; exact wa)
 | false=>exact fun z=>h (by rw [z]; exact wa)
theorem PX.updOwn {i:Nat}{a:Addr}{x y:PV}{o:HO} (p:PX K H0 W σ ρ H) (hi:ρ[i]? = some (some (.own x))) (ha:σ[i]? = some (some (.ref a))) (wa:W a) (mu:fZ o=true) (r:g9 K (Ms H0 W true) (upd H a o) a y) :
  PX K H0 W σ (ρ.set i (some (.own y))) (upd H a o):=by
 obtain ⟨w0,o',e',mu'⟩:=p.wm a wa
 have kp:∀ g,gU (Ms H0 W g) (Ms H0 W g) H (upd H a o):=fun g=>.upd e' mu' fun b m=>⟨iY wa m,m⟩
 refine⟨by rw [bl0]; exact p.len,fun b u e=>by rw [aH (fun z=>by rw [z,w0] at e; cases e)]; exact p.same _ _ e,fun b z=>?_,fun j m h=>?_,fun j k y' z b h1 h2 h3 h4=>?_⟩
 ·by_cases e:b=a
  ·subst e; exact⟨w0,o,b8,mu⟩
  ·obtain ⟨h1,o2,h2,h3⟩:=p.wm b z
   exact⟨h1,o2,by rw [aH e]; exact h2,h3⟩
 ·rcases dA h with ⟨rfl,hl,e⟩ | ⟨hne,h⟩
  ·cases e
   exact⟨_,ha,a,rfl,wa,r⟩
  ·obtain ⟨u,e,q⟩:=p.sl j m h
   refine⟨u,e,?_⟩
   cases m with
   | sh g y=>exact aF.keep (kp g) q
   | own y=>
    obtain ⟨b,e1,e2,q⟩:=q
    have hb:b ≠ a:=fun z=>by
     subst e1
     rw [z] at e
     exact hne (p.dis j i _ _ a h hi e ha)
    exact⟨b,e1,e2,q.keep (kp true) fun o z=>by rw [aH hb]; exact z⟩
 ·have g1:∃ y,ρ[j]? = some (some (.own y)):=by
   rcases dA h1 with ⟨e,_,_⟩ | ⟨_,h⟩
   ·exact⟨x,by rw [e]; exact hi⟩
   ·exact⟨_,h⟩
  have g2:∃ y,ρ[k]? = some (some (.own y)):=by
   rcases dA h2 with ⟨e,_,_⟩ | ⟨_,h⟩
   ·exact⟨x,by rw [e]; exact hi⟩
   ·exact⟨_,h⟩
  obtain ⟨y1,g1⟩:=g1
  obtain ⟨y2,g2⟩:=g2
  exact p.dis j k y1 y2 b g1 g2 h3 h4
theorem Ev.upd {a:Addr}{o:HO} (wa:W a):Ev W H W (upd H a o):=fun b u e n=>⟨by rw [aH (fun z=>n (by rw [z]; exact wa))]; exact e,n⟩
def oC (W:Addr->Prop) (a:Addr):Addr->Prop:=fun b=>W b/\b ≠ a
theorem vF {g:Bool}{a b:Addr} (h:Ms H0 W g b):Ms H0 (oC W a) g b:=by
 cases g with
 | true=>exact⟨fun z=>h.1 z.1,h.2⟩
 | false=>exact fun z=>h z.1
theorem PX.freeze {i:Nat}{a:Addr}{x:PV} (p:PX K H0 W σ ρ H) (hi:ρ[i]? = some (some (.own x))) (ha:σ[i]? = some (some (.ref a))):PX K H0 (oC W a) σ (ρ.set i (some (.sh true x))) H:=by
 obtain ⟨v,ev,a',e1,wa,r⟩:=p.sl i _ hi
 rw [ha] at ev
 cases ev
 cases e1
 refine⟨by rw [bl0]; exact p.len,p.same,fun b z=>p.wm b z.1,fun j m h=>?_,fun j k y' z b h1 h2 h3 h4=>?_⟩
 ·rcases dA h with ⟨rfl,hl,e⟩ | ⟨hne,h⟩
  ·cases e
   exact⟨_,ha,r.rep (M':=Ms H0 (oC W a) true) (fun b m=>vF (g:=true) m) (show Ms H0 (oC W a) true a from ⟨fun z=>z.2 rfl,(p.wm a wa).1⟩)⟩
  ·obtain ⟨u,e,q⟩:=p.sl j m h
   refine⟨u,e,?_⟩
   cases m with
   | sh g y=>exact aF.same q (aD.refl _) fun _ m=>vF m
   | own y=>
    obtain ⟨b,e1,e2,q⟩:=q
    have hb:b ≠ a:=fun z=>by
     subst e1
     rw [z] at e
     exact hne (p.dis j i _ _ a h hi e ha)
    exact⟨b,e1,⟨e2,hb⟩,q.keep (.same (aD.refl _) fun _ m=>vF m) fun _ z=>z⟩
 ·rcases dA h1 with ⟨_,_,e⟩ | ⟨_,h1⟩
  ·cases e
  ·rcases dA h2 with ⟨_,_,e⟩ | ⟨_,h2⟩
   ·cases e
   ·exact p.dis j k _ _ b h1 h2 h3 h4
theorem Ev.off {a:Addr}:Ev W H (oC W a) H:=fun b u e n=>⟨e,fun z=>n z.1⟩
end
section
variable {X : Cx} {σ : St} {H : Hp} {D : c9} {te : aE} {t u : aK}
def cA:aK:=fun D ρ=>D.nx ρ
def aP (t u:aK):aK:=fun D ρ=>t { D with nx:=u D } ρ
theorem av5 (h:LS X cA D σ H):yF D σ H:=by
 obtain ⟨W,ρ,D',px,q,k⟩:=h
 exact k.nx W σ H ρ (Ev.refl _ _) px q
theorem av6 (h:LS X (aP t u) D σ H):tQ (LS X t) (LS X u) D σ H:=by
 obtain ⟨W,ρ,D',px,q,k⟩:=h
 exact⟨W,ρ,_,px,q,fun W' σ' H' ρ' e px' q'=>⟨W',ρ',D',px',q',k.step e⟩,k.rt,k.bk,k.ct⟩
def G3:Tg->PV->Bool
 | .fr,_=>true
 | .nw,_=>true
 | _,x=>flat x
def G4:Tg->PV->Prop
 | .rd,x=>flat x=true
 | _,_=>True
theorem av7 {K:PySem.W.Frag}{H0 Hs H:Hp}{W:Addr->Prop}{σ:St}{ρ:bG}{g:Tg}{x:PV}{v:V} (px:PX K H0 W σ ρ Hs) (n:G4 g x) (r:aF K (Mg H0 W Hs g) H v x):aF K (Ms H0 W (G3 g x)) H v x:=by
 cases g with
 | fr=>exact Nw.rep (g:=.fr) px trivial r
 | nw=>exact Nw.rep (g:=.nw) px trivial r
 | sh=>
  show aF K (Ms H0 W (flat x)) H v x
  cases e:flat x with
  | true=>exact r.flat e
  | false=>exact r.same (aD.refl _) fun _ z=>z
 | rd=>exact r.flat n
def b9 (i:Nat) (te:aE):aK:=fun D ρ=>te ρ fun x g=>G4 g x/\D.nx (ρ.set i (some (.sh (G3 g x) x)))
theorem G5 {i:Nat} (h:LS X (b9 i te) D σ H):jH (LE X te) (cF i) D σ H:=by
 obtain ⟨W,ρ,D',px,q,k⟩:=h
 refine⟨W,ρ,_,px,q,?_⟩
 rintro v H1 x g s r ⟨n,q⟩
 exact k.nx W _ H1 _ (Ev.same s) ((px.mono s).setSh (av7 px n r)) q
def G6:PV->Bool
 | .lst xs=>flats xs
 | .dK ps=>flats (ps.map (·.2))
 | .dT ps=>flats (ps.map (·.2))
 | _=>false
theorem av8 {K:PySem.W.Frag}{M:Addr->Prop}{H:Hp}{v:V}{x:PV} (r:aF K M H v x) (o:G6 x=true):∃ a,v = .ref a/\M a/\∀ M',g9 K M' H a x:=by
 cases r with
 | lst m e r=>exact⟨_,rfl,m,fun _=>⟨_,e,r.flat o⟩⟩
 | dK m e q r=>exact⟨_,rfl,m,fun _=>⟨_,e,q,r.flat o⟩⟩
 | dT m e q r=>exact⟨_,rfl,m,fun _=>⟨_,e,q,r.flat o⟩⟩
 | _=>cases o
def gD (i:Nat) (te:aE):aK:=fun D ρ=>te ρ fun x g=>g = .fr/\G6 x=true/\D.nx (ρ.set i (some (.own x)))
theorem G7 {i:Nat} (h:LS X (gD i te) D σ H):jH (LE X te) (cF i) D σ H:=by
 obtain ⟨W,ρ,D',px,q,k⟩:=h
 refine⟨W,ρ,_,px,q,?_⟩
 rintro v H1 x g s r ⟨rfl,o,q⟩
 obtain ⟨a,rfl,m,w⟩:=av8 r o
 exact k.nx _ _ H1 _ (Ev.own s m) (px.setOwn s m (w _)) q
def qU (i:Nat) (t:aK):aK:=fun D ρ=>∃ x,ρ[i]? = some (some (.own x))/\t D (ρ.set i (some (.sh true x)))
theorem av9 {i:Nat} (h:LS X (qU i t) D σ H):LS X t D σ H:=by
 obtain ⟨W,ρ,D',px,⟨x,hi,q⟩,k⟩:=h
 obtain ⟨v,ev,a,rfl,wa,r⟩:=px.sl i _ hi
 exact⟨_,_,D',px.freeze hi ev,q,k.step Ev.off⟩
def aZ (te:aE):aK:=fun D ρ=>te ρ fun x g=>Nw g x/\D.rt x
theorem aw0 (h:LS X (aZ te) D σ H):lE (LE X te) D σ H:=by
 obtain ⟨W,ρ,D',px,q,k⟩:=h
 refine⟨W,ρ,_,px,q,?_⟩
 rintro v H1 x g s r ⟨n,q⟩
 exact k.rt v H1 x (px.same.trans s) ((Nw.rep px n r).same (aD.refl _) fun _ z=>z.2) q
def Slot.nw:Slot->Prop
 | .own _=>True
 | .sh true _=>True
 | .sh false x=>flat x=true
def iB (i:Nat):aK:=fun D ρ=>∃ m,ρ[i]? = some (some m)/\m.nw/\D.rt m.val
theorem aw1 {i:Nat} (h:LS X (iB i) D σ H):lE (eN i) D σ H:=by
 obtain ⟨W,ρ,D',px,⟨m,hi,n,q⟩,k⟩:=h
 obtain ⟨v,ev,r⟩:=px.sl i _ hi
 refine⟨v,ev,k.rt v H _ px.same ?_ q⟩
 cases m with
 | own x=>
  obtain ⟨a,rfl,wa,r⟩:=r
  exact r.rep (fun _ z=>z.2) (px.wm a wa).1
 | sh g x=>
  cases g with
  | true=>exact aF.same r (aD.refl _) fun _ z=>z.2
  | false=>exact aF.flat n r
def bM (c:bT) (t u:aK):aK:=fun D ρ=>c ρ fun b=>if b=true then t D ρ else u D ρ
theorem aw2 {c:bT} (h:LS X (bM c t u) D σ H):yG (LT X c) (LS X t) (LS X u) D σ H:=by
 obtain ⟨W,ρ,D',px,q,k⟩:=h
 refine⟨W,ρ,_,px,q,fun b H1 s q1=>?_⟩
 cases b with
 | true=>exact aW ⟨W,ρ,D',px.mono s,by simpa using q1,k.step (Ev.same s)⟩
 | false=>exact aO ⟨W,ρ,D',px.mono s,by simpa using q1,k.step (Ev.same s)⟩
def qV (c:bT) (tb:aK):aK:=fun D ρ=>∃ I:Nat->bG->Prop,(∃ m,I m ρ)/\∀ m ρ',I m ρ'->c ρ' fun b=>if b=true then tb { D with nx:=fun ρ2=>∃ m',m' < m/\I m' ρ2,ct:=fun ρ2=>∃ m',m' < m/\I m' ρ2,bk:=D.nx } ρ' else D.nx ρ'
theorem aw3 {c:bT}{tb:aK} (h:LS X (qV c tb) D σ H):yK (LT X c) (LS X tb) D σ H:=by
 obtain ⟨W,ρ,D',px,⟨I,⟨m0,i0⟩,turn⟩,k⟩:=h
 refine⟨fun m σ2 H2=>∃ W2 ρ2,PX X.K X.H₀ W2 σ2 ρ2 H2/\Ev W H W2 H2/\I m ρ2,⟨m0,W,ρ,px,Ev.refl _ _,i0⟩,?_⟩
 rintro m σ2 H2 ⟨W2,ρ2,px2,e2,i2⟩
 refine⟨W2,ρ2,_,px2,turn m ρ2 i2,fun b H3 s3 q3=>?_⟩
 cases b with
 | true=>
  refine aW ⟨fun σ4 H4=>∃ W4 ρ4,PX X.K X.H₀ W4 σ4 ρ4 H4/\Ev W H W4 H4/\∃ m',m' < m/\I m' ρ4,fun σ4 H4 ⟨W4,ρ4,a,b,m',c,d⟩=>⟨m',c,W4,ρ4,a,b,d⟩,W2,ρ2,_,px2.mono s3,by simpa using q3,?_⟩
  have e3:Ev W H W2 H3:=e2.trans (Ev.same s3)
  exact⟨fun W' σ' H' ρ' e p q=>⟨W',ρ',p,e3.trans e,q⟩,k.rt,fun W' σ' H' ρ' e p q=>k.nx W' σ' H' ρ' (e3.trans e) p q,fun W' σ' H' ρ' e p q=>⟨W',ρ',p,e3.trans e,q⟩⟩
 | false=>exact aO (k.nx W2 σ2 H3 ρ2 (e2.trans (Ev.same s3)) (px2.mono s3) (by simpa using q3))
end
theorem lim {n:Nat} (h:n<=16000000):n<=sizeLine:=bm3 (gT h)
theorem aF.sqT {K:PySem.W.Frag}{M:Addr->Prop}{H:Hp}{v:V}{xs:List PV} (r:aF K M H v (.tup xs)):∃ a us,v = .ref a/\H a=some (.tup us)/\Reps K M H us xs:=by
 cases r with
 | tup e r=>exact⟨_,_,rfl,e,r⟩
theorem aF.sqL {K:PySem.W.Frag}{M:Addr->Prop}{H:Hp}{v:V}{xs:List PV} (r:aF K M H v (.lst xs)):∃ a us,v = .ref a/\M a/\H a=some (.lst us)/\Reps K M H us xs:=by
 cases r with
 | lst m e r=>exact⟨_,_,rfl,m,e,r⟩
theorem iW.sqL {K:PySem.W.Frag}{H:Hp}{a:Addr}{ns:List Int} (h:iW K H a ns):aN K H a (ns.map V.int):=h.elim (fun z=>.inl (.inr z)) .inr
def jP:PV->Option (List PV)
 | .tup xs=>some xs
 | .lst xs=>some xs
 | .scr ns=>some (intz ns)
 | .kt xs=>some xs
 | _=>none
theorem aF.seq {K:PySem.W.Frag}{M:Addr->Prop}{H:Hp}{v:V}{x:PV}{xs:List PV} (r:aF K M H v x) (e:jP x=some xs):∃ a us,v = .ref a/\(aN K H a us ∨ aL K H a us)/\Reps K M H us xs:=by
 cases r with
 | tup h r=>cases e; exact⟨_,_,rfl,.inr (aL.of h),r⟩
 | lst m h r=>cases e; exact⟨_,_,rfl,.inl (aN.of h),r⟩
 | scr h=>cases e; exact⟨_,_,rfl,.inl h.sqL,Reps.intz _⟩
 | kt h r=>cases e; exact⟨_,_,rfl,.inr (.inr h),r⟩
 | _=>cases e
section
variable {X : Cx} {σ : St} {H : Hp} {D : c9} {te ti to : aE} {t u : aK} {Q' : VK}
theorem _root_.PP.PX.updL {K:PySem.W.Frag}{H0:Hp}{W:Addr->Prop}{σ:St}{ρ:bG}{H:Hp}{i:Nat}{a:Addr}{x:PV}{us:List V}{ys:List PV} (p:PX K H0 W σ ρ H) (hi:ρ[i]? = some (some (.own x))) (ha:σ[i]? = some (some (.ref a))) (wa:W a) (r:Reps K (Ms H0 W true) (upd H a (.lst us)) us ys) :
  PX K H0 W σ (ρ.set i (some (.own (.lst ys)))) (upd H a (.lst us)):=p.updOwn hi ha wa rfl (y:=.lst ys) ⟨us,b8,r⟩
def qW (i:Nat) (te:aE):aK:=fun D ρ=>∃ xs,ρ[i]? = some (some (.own (.lst xs)))/\te ρ fun x g=>Nw g x/\xs.length < 16000000/\D.nx (ρ.set i (some (.own (.lst (xs ++ [x])))))
theorem aw4 {i:Nat} (h:LS X (qW i te) D σ H):lD (uJ X.K "list" A6 (eN i) (iP (LE X te) kC)) D σ H:=by
 obtain ⟨W,ρ,D',px,⟨xs,hi,q⟩,k⟩:=h
 obtain ⟨v,ev,a,rfl,wa,us,ea,r⟩:=px.sl i _ hi
 refine⟨_,ev,o8 (aN.of ea),W,ρ,_,px,q,?_⟩
 rintro w H1 x g s rx ⟨n,hl,q⟩
 have ea1:=s _ _ ea
 refine⟨a,us,w,rfl,rfl,ea1,gT (by rw [r.length]; omega),?_⟩
 refine k.nx W σ _ _ ((Ev.same s).trans (Ev.upd wa)) ((px.mono s).updL hi ev wa ?_) q
 exact ((r.same s fun _ z=>z).append (.cons (Nw.rep px n rx) .nil)).keep (.upd ea1 rfl fun b m=>⟨iY wa m,m⟩)
def vG (i:Nat) (tk te:aE):aK:=fun D ρ=>te ρ fun x g=>∃ xs,ρ[i]? = some (some (.own (.lst xs)))/\tk ρ fun y _=>∃ n j,y = .int n/\i9 xs.length n=some j/\Nw g x/\D.nx (ρ.set i (some (.own (.lst (xs.set j x)))))
theorem aw5 {i:Nat}{tk:aE} (h:LS X (vG i tk te) D σ H):jH (LE X te) (tS (eN i) (LE X tk) uH) D σ H:=by
 obtain ⟨W,ρ,D',px,q,k⟩:=h
 refine⟨W,ρ,_,px,q,?_⟩
 rintro w H1 x g s rx ⟨xs,hi,q1⟩
 obtain ⟨v,ev,a,rfl,wa,us,ea,r⟩:=(px.mono s).sl i _ hi
 refine⟨_,ev,W,ρ,_,px.mono s,q1,?_⟩
 rintro kv H2 y gy s2 ry ⟨n,j,rfl,hj,nw,q2⟩
 cases ry
 have ea2:=s2 _ _ ea
 refine⟨a,us,n,j,rfl,rfl,ea2,by rw [r.length]; exact hj,?_⟩
 refine k.nx W σ _ _ ((Ev.same (s.trans s2)).trans (Ev.upd wa)) ((px.mono (s.trans s2)).updL hi ev wa ?_) q2
 exact (Reps.set ((Nw.rep px nw rx).same s2 fun _ z=>z) j (r.same s2 fun _ z=>z)).keep (.upd ea2 rfl fun b m=>⟨iY wa m,m⟩)
end
theorem Reps.atI {K:PySem.W.Frag}{M:Addr->Prop}{H:Hp}{us:List V}{xs:List PV}{i:Int}{z:PV} (r:Reps K M H us xs) (h:L2.atI xs i=some z):∃ v,L2.atI us i=some v/\aF K M H v z:=by
 unfold L2.atI at h ⊢
 rw [r.length]
 cases e:i9 xs.length i with
 | none=>rw [e] at h; cases h
 | some j=>rw [e] at h; exact r.at h
section
variable {X : Cx} {σ : St} {H : Hp} {Q' : VK} {ta tb te : aE} {tr : cK}
def vH:PV->Tg->PV->Tg->PK->Prop:=fun x g y _ Q=>∃ xs i z,jP x=some xs/\y = .int i/\L2.atI xs i=some z/\Q z g
theorem aw6:eS X vH (A0 X.K):=by
 rintro W Hs H u v x y g g' Q Q' s n r1 r2 ⟨xs,i,z,e,rfl,hz,q⟩ k
 cases r2
 obtain ⟨a,us,rfl,hs,r⟩:=r1.seq e
 obtain ⟨v,hv,rv⟩:=r.atI hz
 rcases hs with hs | hs
 ·exact .inl ⟨a,us,i,v,rfl,rfl,hs,hv,k v H z g (aD.refl _) rv q⟩
 ·exact .inr (.inl ⟨a,us,i,v,rfl,rfl,hs,hv,k v H z g (aD.refl _) rv q⟩)
def vI:PV->Option Nat
 | .tup xs=>some xs.length
 | .lst xs=>some xs.length
 | .scr ns=>some ns.length
 | .dK ps=>some ps.length
 | .kt xs=>some xs.length
 | _=>none
def dD:List PV->(PV->Prop)->Prop:=fun xs Q=>∃ x n,xs = [x]/\vI x=some n/\Q (.int n)
theorem Reps.one {K:PySem.W.Frag}{M:Addr->Prop}{H:Hp}{vs:List V}{x:PV} (r:Reps K M H vs [x]):∃ v,vs = [v]/\aF K M H v x:=by
 cases r with
 | cons r t=>cases t; exact⟨_,rfl,r⟩
theorem Reps.two {K:PySem.W.Frag}{M:Addr->Prop}{H:Hp}{vs:List V}{x y:PV} (r:Reps K M H vs [x,y]):∃ v w,vs = [v,w]/\aF K M H v x/\aF K M H w y:=by
 cases r with
 | cons r t=>
  obtain ⟨w,rfl,q⟩:=t.one
  exact⟨_,_,rfl,r,q⟩
theorem aw7:gC X dD (fun xs H Q=>(∃ p ys,xs = [.ref p]/\(aN X.K H p ys ∨ aL X.K H p ys)/\Q (.int ys.length) H) ∨ ∃ a kvs,xs = [V.ref a]/\H a=some (.dK kvs)/\Q (.int kvs.length) H):=by
 rintro H vs xs Q Q' r ⟨x,n,rfl,e,q⟩ k
 obtain ⟨v,rfl,r1⟩:=r.one
 have fin:∀ {m:Nat},m=n->Q' (.int m) H:=fun {m} z=>by rw [z]; exact k _ _ _ (aD.refl _) (.int _) q
 cases r1 with
 | tup h r2=>cases e; exact .inl ⟨_,_,rfl,.inr (aL.of h),fin r2.length⟩
 | lst m h r2=>cases e; exact .inl ⟨_,_,rfl,.inl (aN.of h),fin r2.length⟩
 | scr h=>cases e; exact .inl ⟨_,_,rfl,.inl h.sqL,fin (by rw [bg5])⟩
 | kt h r2=>cases e; exact .inl ⟨_,_,rfl,.inr (.inr h),fin r2.length⟩
 | dK m h e' r=>
  cases e
  refine .inr ⟨_,_,rfl,h,fin ?_⟩
  have:=congrArg List.length e'
  rw [bg5,bg5] at this
  exact this
 | _=>cases e
def seqT:PV->Option (List PV)
 | .kt _=>none
 | x=>jP x
def G8:List PV->(PV->Prop)->Prop:=fun xs Q=>∃ x ys,xs = [x]/\seqT x=some ys/\flats ys=true/\Q (.tup ys)
def iZ:List PV->(PV->Prop)->Prop:=fun xs Q=>∃ x ys,xs = [x]/\jP x=some ys/\flats ys=true/\Q (.lst ys)
theorem aw8:gC X (fun xs Q=>G8 xs Q/\∀ ns,xs ≠ [.scr ns]) (fun xs H Q=>∃ p ys,xs = [.ref p]/\((aN X.K H p ys/\∀ l,H l=none->Q (.ref l) (upd H l (.tup ys))) ∨ (aL X.K H p ys/\Q (.ref p) H))):=by
 rintro H vs xs Q Q' r ⟨⟨x,ys,rfl,e,f,q⟩,nsc⟩ k
 obtain ⟨v,rfl,r1⟩:=r.one
 cases r1 with
 | tup h r2=>cases e; exact⟨_,_,rfl,.inr ⟨aL.of h,k _ _ _ (aD.refl _) (.tup h (r2.flat f)) q⟩⟩
 | lst m h r2=>cases e; exact⟨_,_,rfl,.inl ⟨aN.of h,fun l hl=>k _ _ _ (bE hl _) (.tup b8 ((r2.flat f).same (bE hl _) fun _ z=>z)) q⟩⟩
 | scr h=>exact absurd rfl (nsc _)
 | _=>cases e
theorem aw9:gC X iZ (fun xs H Q=>∃ p ys,xs = [.ref p]/\(aN X.K H p ys ∨ aL X.K H p ys)/\∀ l,H l=none->Q (.ref l) (upd H l (.lst ys))):=by
 rintro H vs xs Q Q' r ⟨x,ys,rfl,e,f,q⟩ k
 obtain ⟨v,rfl,r1⟩:=r.one
 obtain ⟨a,us,rfl,hs,r2⟩:=r1.seq e
 exact⟨_,_,rfl,hs,fun l hl=>k _ _ _ (bE hl _) (.lst hl b8 ((r2.flat f).same (bE hl _) fun _ z=>z)) q⟩
def vJ:List PV->(PV->Prop)->Prop:=fun xs Q=>∃ bs:List Bool,xs = [.lst (bs.map PV.bl)]/\Q (.bl (bs.all id))
theorem Reps.ofBls {K:PySem.W.Frag}{M:Addr->Prop}{H:Hp}:∀ {ns:List Bool}{us:List V},Reps K M H us (ns.map PV.bl)->us=ns.map V.bl
 | [],_,.nil=>rfl
 | n :: r,_,.cons q t=>by
  cases q
  rw [Reps.ofBls t]; rfl
theorem ax0:gC X vJ (fun xs H Q=>∃ (a:Addr) (bs:List Bool),xs = [.ref a]/\aN X.K H a (bs.map V.bl)/\Q (.bl (bs.all id)) H):=by
 rintro H vs xs Q Q' r ⟨bs,rfl,q⟩ k
 obtain ⟨v,rfl,r1⟩:=r.one
 obtain ⟨a,us,rfl,_,h,r2⟩:=r1.sqL
 obtain rfl:=r2.ofBls
 exact⟨a,bs,rfl,aN.of h,k _ _ _ (aD.refl _) (.bl _) q⟩
def lU:List PV->(PV->Prop)->Prop:=fun xs Q=>∃ i j,xs = [.int i,.int j]/\Q (.int (if j < i then j else i))
def kI:List PV->(PV->Prop)->Prop:=fun xs Q=>∃ i j,xs = [.int i,.int j]/\Q (.int (if j > i then j else i))
theorem ax1:gC X lU (fun xs H Q=>∃ i j,xs = [.int i,.int j]/\Q (.int (if j < i then j else i)) H):=by
 rintro H vs xs Q Q' r ⟨i,j,rfl,q⟩ k
 obtain ⟨v,w,rfl,r1,r2⟩:=r.two
 cases r1; cases r2
 exact⟨i,j,rfl,k _ _ _ (aD.refl _) (.int _) q⟩
theorem ax2:gC X kI (fun xs H Q=>∃ i j,xs = [.int i,.int j]/\Q (.int (if j > i then j else i)) H):=by
 rintro H vs xs Q Q' r ⟨i,j,rfl,q⟩ k
 obtain ⟨v,w,rfl,r1,r2⟩:=r.two
 cases r1; cases r2
 exact⟨i,j,rfl,k _ _ _ (aD.refl _) (.int _) q⟩
abbrev bC:=List PV->(PV->Prop)->Prop
def oD (K:PySem.W.Frag) (p:bC):Sp:=fun vs H Q _=>∃ xs Qp,Reps K (fun _=>True) H vs xs/\p xs Qp/\∀ v H' x,aD H H'->aF K (fun a=>H a=none) H' v x->Qp x->Q v H'
theorem ax3 {p:bC}{E:XK} (h:LE X (aC p tr) σ H Q'):u7 (oD X.K p) [] E (LA X tr) σ H Q':=by
 obtain ⟨W,ρ,Q,px,q,k⟩:=h
 refine⟨W,ρ,_,px,q,fun vs H1 xs s1 r1 q1=>⟨_,_,by rw [bi9]; exact r1.any,q1,fun v H' x s2 r2 q2=>k v H' x .fr (s1.trans s2) (r2.same (aD.refl _) fun _ z=>s1.free z) q2⟩⟩
def vK:PV->Option Bool
 | .non=>some false
 | .bl b=>some b
 | .int i=>some (i != 0)
 | .tup xs=>some (!xs.isEmpty)
 | .lst xs=>some (!xs.isEmpty)
 | .dK ps=>some (!ps.isEmpty)
 | _=>none
def oE (t:aE):bT:=fun ρ Q=>t ρ fun x _=>∃ b,vK x=some b/\Q b
theorem lV {α β:Type}:∀ {l:List α}{m:List β},l.length=m.length->l.isEmpty=m.isEmpty
 | [],[],_=>rfl
 | _ :: _,_ :: _,_=>rfl
theorem ax4 {t:aE}{Qb:Bool->Hp->Prop} (h:LT X (oE t) σ H Qb):LE X t σ H fun x H'=>∃ k,nQ X.K x H' k/\Qb k H':=by
 obtain ⟨W,ρ,Q,px,q,k⟩:=h
 refine⟨W,ρ,_,px,q,?_⟩
 rintro v H1 x g s r ⟨b,e,q⟩
 refine⟨b,?_,k _ _ s q⟩
 cases r with
 | non=>cases e; rfl
 | bl b=>cases e; rfl
 | int i=>cases e; rfl
 | str x=>cases e
 | tup h r=>cases e; exact .inr (.inl ⟨_,aL.of h,by rw [lV r.length]⟩)
 | lst m h r=>cases e; exact .inl ⟨_,aN.of h,by rw [lV r.length]⟩
 | dK m h e' r=>
  cases e
  refine .inr (.inr ⟨_,h,?_⟩)
  have:=congrArg List.length e'
  rw [bg5,bg5] at this
  rw [lV this]
 | dT m h e' r=>cases e
 | scr h=>cases e
 | kt h r=>cases e
 | exc h e' c=>cases e
def vL:PV->Bool
 | .non=>true
 | _=>false
def kJ (neg:Bool):PV->Tg->PV->Tg->PK->Prop:=fun x _ y _ Q=>y = .non/\Q (.bl (if neg=true then !vL x else vL x)) .fr
theorem G9 {K:PySem.W.Frag}{M:Addr->Prop}{H:Hp}{v:V}{x:PV} (r:aF K M H v x):decide (v = .non)=vL x:=by
 cases r <;> rfl
theorem J0:eS X (kJ false) (fun x y H Q=>y = .non/\Q (.bl (decide (x = .non))) H):=by
 rintro W Hs H u v x y g g' Q Q' s n r1 r2 ⟨rfl,q⟩ k
 cases r2
 exact⟨rfl,by rw [G9 r1]; exact k _ _ _ _ (aD.refl _) (.bl _) q⟩
theorem ax5:eS X (kJ true) (fun x y H Q=>y = .non/\Q (.bl (!decide (x = .non))) H):=by
 rintro W Hs H u v x y g g' Q Q' s n r1 r2 ⟨rfl,q⟩ k
 cases r2
 exact⟨rfl,by rw [G9 r1]; exact k _ _ _ _ (aD.refl _) (.bl _) q⟩
end
structure lW (K:PySem.W.Frag) (H0:Hp) (W:Addr->Prop) (g:Bool) (H1:Hp) (J:It) (xs:List PV):Prop where
 go:∀ W' H' i,Ev W H1 W' H'->i < xs.length->J.go i H'
 yld:∀ W' H' i v H2,Ev W H1 W' H'->J.yld i H' v H2->i < xs.length->aD H' H2/\∃ x,xs[i]? = some x/\aF K (Ms H0 W' g) H2 v x
 stop:∀ W' H',Ev W H1 W' H'->J.stop xs.length H'
abbrev eD:=bG->(List PV->Bool->Prop)->Prop
def LI (X:Cx) (t:eD):TI:=fun σ H R=>∃ (W:Addr->Prop) (ρ:bG) (Q:List PV->Bool->Prop),PX X.K X.H₀ W σ ρ H/\t ρ Q/\∀ J H1 xs g,aD H H1->lW X.K X.H₀ W g H1 J xs->Q xs g->R J H1
theorem Ev.keep {H0:Hp}{W W':Addr->Prop}{H H':Hp}{g:Bool} (e:Ev W H W' H') (tw:∀ a,W a->∃ o,H a=some o/\fZ o=true):gU (Ms H0 W g) (Ms H0 W' g) H H':=by
 have m:∀ {a:Addr}{o:HO},Ms H0 W g a->H a=some o->Ms H0 W' g a/\H' a=some o:=fun {a o} z h=>by
  cases g with
  | true=>
   obtain ⟨h1,h2⟩:=e a _ h z.1
   exact⟨⟨h2,z.2⟩,h1⟩
  | false=>
   obtain ⟨h1,h2⟩:=e a _ h z
   exact⟨h2,h1⟩
 refine⟨fun a _ z h=>m z h,fun a _ z h=>m z h,fun a _ z h=>m z h,fun a _ h=>(e a _ h fun z=>?_).1,fun a _ _ h=>(e a _ h fun z=>?_).1⟩
 ·obtain ⟨o,h',mu⟩:=tw a z; rw [h] at h'; cases h'; cases mu
 ·obtain ⟨o,h',mu⟩:=tw a z; rw [h] at h'; cases h'; cases mu
section
variable {X : Cx} {σ : St} {H : Hp} {te : aE} {tr : cK} {R : It → Hp → Prop}
def J1 (K:PySem.W.Frag) (tl:TE):TI:=fun σ H R=>tl σ H fun x H1=>∃ a,x = .ref a/\((∃ xs,aN K H1 a xs/\R (lJ K a) H1) ∨ (∃ xs,aL K H1 a xs/\R (jI K a) H1))
def qX:Tg->List PV->Bool
 | .fr,_=>true
 | .nw,_=>true
 | _,xs=>flats xs
def dI (te:aE):eD:=fun ρ Q=>te ρ fun x g=>∃ xs,jP x=some xs/\(g = .rd->flat x=true)/\Q xs (qX g xs)
theorem J2 {K:PySem.W.Frag}{H0:Hp}{W:Addr->Prop}{g:Bool}{H1:Hp}{a:Addr}{us:List V}{xs:List PV} (tw:∀ a,W a->∃ o,H1 a=some o/\fZ o=true) (ha:∀ W' H',Ev W H1 W' H'->aN K H' a us) (r:Reps K (Ms H0 W g) H1 us xs):lW K H0 W g H1 (lJ K a) xs:=by
 have lr:=r.length
 refine⟨fun W' H' i e hi=>⟨us,us[i]'(by omega),ha W' H' e,by simp⟩,fun W' H' i v H2 e y hi=>?_,fun W' H' e=>⟨us,ha W' H' e,by omega⟩⟩
 obtain ⟨rfl,y⟩:=y
 obtain ⟨x,hx,rx⟩:=r.get (y us (ha W' _ e))
 exact⟨aD.refl _,x,hx,rx.keep (e.keep tw)⟩
theorem J3 {K:PySem.W.Frag}{H0:Hp}{W:Addr->Prop}{g:Bool}{H1:Hp}{a:Addr}{us:List V}{xs:List PV} (tw:∀ a,W a->∃ o,H1 a=some o/\fZ o=true) (ha:∀ W' H',Ev W H1 W' H'->aL K H' a us) (r:Reps K (Ms H0 W g) H1 us xs):lW K H0 W g H1 (jI K a) xs:=by
 have lr:=r.length
 refine⟨fun W' H' i e hi=>⟨us,us[i]'(by omega),ha W' H' e,by simp⟩,fun W' H' i v H2 e y hi=>?_,fun W' H' e=>⟨us,ha W' H' e,by omega⟩⟩
 obtain ⟨rfl,y⟩:=y
 obtain ⟨x,hx,rx⟩:=r.get (y us (ha W' _ e))
 exact⟨aD.refl _,x,hx,rx.keep (e.keep tw)⟩
theorem lX {K:PySem.W.Frag}{H0 Hs H:Hp}{W:Addr->Prop}{σ:St}{ρ:bG}{g:Tg}{us:List V}{xs:List PV} (px:PX K H0 W σ ρ Hs) (hg:g = .rd->flats xs=true) (r:Reps K (Mg H0 W Hs g) H us xs):Reps K (Ms H0 W (qX g xs)) H us xs:=by
 cases g with
 | fr=>exact r.same (aD.refl _) fun _ z=>px.new z
 | nw=>exact r.same (aD.refl _) fun _ z=>z
 | sh=>
  show Reps K (Ms H0 W (flats xs)) H us xs
  cases e:flats xs with
  | true=>exact r.flat e
  | false=>exact r.same (aD.refl _) fun _ z=>z
 | rd=>exact r.flat (hg rfl)
theorem ax6 (h:LI X (dI te) σ H R):J1 X.K (LE X te) σ H R:=by
 obtain ⟨W,ρ,Q,px,q,k⟩:=h
 refine⟨W,ρ,_,px,q,?_⟩
 rintro v H1 x g s r ⟨xs,e,hg,q⟩
 have px1:=px.mono s
 have tw:∀ a,W a->∃ o,H1 a=some o/\fZ o=true:=fun a z=>(px1.wm a z).2
 cases r with
 | tup h r=>
  cases e
  refine⟨_,rfl,.inr ⟨_,aL.of h,k _ _ _ _ s (J3 tw (fun W' H' e=>aL.of (e _ _ h fun z=>?_).1) (lX px (fun z=>by have:=hg z; unfold flat at this; exact this) r)) q⟩⟩
  obtain ⟨o,h',mu⟩:=tw _ z; rw [h] at h'; cases h'; cases mu
 | @lst a us xs' m h r=>
  cases e
  have wa : ¬ W a:=by
   cases g with
   | fr=>exact (px.new m).1
   | nw=>exact m.1
   | sh=>exact m
   | rd=>have:=hg rfl; unfold flat at this; cases this
  exact⟨_,rfl,.inl ⟨_,aN.of h,k _ _ _ _ s (J2 tw (fun W' H' e=>aN.of (e _ _ h wa).1) (lX px (fun z=>by have:=hg z; unfold flat at this; cases this) r)) q⟩⟩
 | scr h=>
  cases e
  refine⟨_,rfl,.inl ⟨_,h.sqL,k _ _ _ _ s (J2 tw (fun W' H' e=>(iW.keep (fun a o u hz=>(e _ _ hz fun z=>?_).1) h).sqL) (lX (g:=g) px (fun z=>cE _) (Reps.intz _))) q⟩⟩
  obtain ⟨o,h',mu⟩:=tw _ z; rw [hz] at h'; cases h'; cases mu
 | kt h r=>
  cases e
  exact⟨_,rfl,.inr ⟨_,.inr h,k _ _ _ _ s (J3 tw (fun W' H' e=>.inr h) (lX px (fun z=>by have:=hg z; unfold flat at this; exact this) r)) q⟩⟩
 | _=>cases e
def fB (lo:Int) (n:Nat):List PV:=(List.range n).map fun (i:Nat)=>PV.int (lo+(i:Int))
theorem dE (lo:Int) (n:Nat):(fB lo n).length=n:=by unfold fB; rw [bg5,bp9]
theorem J4 {lo:Int}{n i:Nat} (h:i < n):(fB lo n)[i]? = some (.int (lo+i)):=by unfold fB; rw [bh1,List.getElem?_range h]; rfl
def gE (te:aE):eD:=fun ρ Q=>te ρ fun x _=>∃ j:Int,x = .int j/\-1000000<=j/\j<=1000000/\Q (fB 0 j.toNat) true
def vM (ta tb:aE):eD:=fun ρ Q=>ta ρ fun x _=>tb ρ fun y _=>∃ i j:Int,x = .int i/\y = .int j/\(-1000000<=i/\i<=1000000/\-1000000<=j/\j<=1000000)/\Q (fB i (j - i).toNat) true
theorem J5 {K:PySem.W.Frag}{H0:Hp}{W:Addr->Prop}{H1:Hp} (lo:Int) (n:Nat):lW K H0 W true H1 (nL lo n) (fB lo n):=by
 refine⟨fun W' H' i e hi=>by rw [dE] at hi; exact hi,fun W' H' i v H2 e y hi=>?_,fun W' H' e=>by show n<=(fB lo n).length; rw [dE]; exact bg1 _⟩
 rw [dE] at hi
 obtain ⟨rfl,rfl⟩:=y
 exact⟨aD.refl _,_,J4 hi,.int _⟩
theorem ax7 (h:LI X (gE te) σ H R):yP (iP (LE X te) kC) σ H R:=by
 obtain ⟨W,ρ,Q,px,q,k⟩:=h
 refine⟨W,ρ,_,px,q,?_⟩
 rintro v H1 x g s r ⟨j,rfl,h1,h2,q⟩
 cases r
 exact⟨j,rfl,by omega,by omega,k _ _ _ _ s (J5 0 j.toNat) q⟩
theorem ax8 {ta tb:aE} (h:LI X (vM ta tb) σ H R):yQ (iP (LE X ta) (iP (LE X tb) kC)) σ H R:=by
 obtain ⟨W,ρ,Q,px,q,k⟩:=h
 refine⟨W,ρ,_,px,q,fun v H1 x g s r q=>⟨W,ρ,_,px.mono s,q,?_⟩⟩
 rintro w H2 y g' s2 r2 ⟨i,j,rfl,rfl,h,q⟩
 cases r; cases r2
 exact⟨i,j,rfl,by omega,k _ _ _ _ (s.trans s2) (J5 i (j - i).toNat) q⟩
end
abbrev iC:=PV->Bool->bG->(bG->Prop)->Prop
def lY (K:PySem.W.Frag) (own:Nat->Prop) (p:iC) (t:TG):Prop:=∀ (H0:Hp) (W:Addr->Prop) (σ:St) (ρ:bG) (H:Hp) (v:V) (x:PV) (g:Bool) (Q:bG->Prop) (Q':St->Hp->Prop),
 PX K H0 W σ ρ H->aF K (Ms H0 W g) H v x->p x g ρ Q->(∀ σ' ρ',PX K H0 W σ' ρ' H->(∀ i,¬ own i->σ'[i]? = σ[i]?)->σ'.length=σ.length->Q ρ'->Q' σ' H)->t v σ H Q'
def bI (i:Nat):iC:=fun x g ρ Q=>Q (ρ.set i (some (.sh (g || flat x) x)))
theorem qY {K:PySem.W.Frag}{H0 H:Hp}{W:Addr->Prop}{v:V}{x:PV}{g:Bool} (r:aF K (Ms H0 W g) H v x):aF K (Ms H0 W (g || flat x)) H v x:=by
 cases g with
 | true=>exact r
 | false=>
  show aF K (Ms H0 W (flat x)) H v x
  cases e:flat x with
  | true=>exact r.flat e
  | false=>exact r
theorem lZ (K:PySem.W.Frag) (i:Nat):lY K (· = i) (bI i) (cF i):=by
 intro H0 W σ ρ H v x g Q Q' px r q k
 exact k _ _ (px.setSh (qY r)) (fun j hj=>by rw [bi1 (Ne.symm hj)]) (bl0 ..) q
def oF (i j:Nat):iC:=fun x g ρ Q=>∃ y z,x = .tup [y,z]/\Q ((ρ.set i (some (.sh (g || flat y) y))).set j (some (.sh (g || flat z) z)))
theorem J6 (K:PySem.W.Frag) (i j:Nat):lY K (fun k=>k=i ∨ k=j) (oF i j) (jG K 2 (eO (cF i) (eO (cF j) jF))):=by
 intro H0 W σ ρ H v x g Q Q' px r q k
 obtain ⟨y,z,rfl,q⟩:=q
 obtain ⟨a,us,rfl,h,r⟩:=r.sqT
 obtain ⟨u1,u2,rfl,r1,r2⟩:=r.two
 refine⟨a,_,rfl,aL.of h,rfl,u1,_,rfl,u2,_,rfl,rfl,k _ _ ((px.setSh (qY r1)).setSh (qY r2)) (fun k hk=>?_) (by rw [bl0,bl0]) q⟩
 rw [bi1 (fun e=>hk (.inr e.symm)),bi1 (fun e=>hk (.inl e.symm))]
section
variable {X : Cx} {σ : St} {H : Hp} {D : c9}
def fC (ti:eD) (p:iC) (tb:aK):aK:=fun D ρ=>ti ρ fun xs g=>∃ I:Nat->bG->Prop,I 0 ρ/\(∀ i x ρ',xs[i]? = some x->I i ρ'->p x g ρ' fun ρ2=>tb { D with nx:=I (i+1),ct:=I (i+1),bk:=D.nx } ρ2)/\∀ ρ',I xs.length ρ'->D.nx ρ'
theorem ax9 {ti:eD}{p:iC}{g:TG}{tb:aK}{own:Nat->Prop} (hg:lY X.K own p g) (h:LS X (fC ti p tb) D σ H):yR (LI X ti) g (LS X tb) D σ H:=by
 obtain ⟨W,ρ,D',px,q,k⟩:=h
 refine⟨W,ρ,_,px,q,?_⟩
 rintro J H1 xs gb s it ⟨I,i0,turn,fin⟩
 refine⟨fun i m σ2 H2=>m=xs.length - i/\i<=xs.length/\∃ W2 ρ2,PX X.K X.H₀ W2 σ2 ρ2 H2/\Ev W H1 W2 H2/\I i ρ2,⟨xs.length,by omega,bk5 _,W,ρ,px.mono s,Ev.refl _ _,i0⟩,?_⟩
 rintro i m σ2 H2 ⟨rfl,hi,W2,ρ2,px2,e2,i2⟩
 have e0:Ev W H W2 H2:=(Ev.same s).trans e2
 by_cases hlt:i < xs.length
 ·refine .inr ⟨it.go W2 H2 i e2 hlt,fun σ3 H3=>∃ W3 ρ3,PX X.K X.H₀ W3 σ3 ρ3 H3/\Ev W H1 W3 H3/\I (i+1) ρ3,fun σ3 H3 ⟨W3,ρ3,a,b,c⟩=>⟨xs.length - (i+1),by omega,rfl,hlt,W3,ρ3,a,b,c⟩,fun v H3 y=>?_⟩
  obtain ⟨s3,x,hx,rx⟩:=it.yld W2 H2 i v H3 e2 y hlt
  refine hg X.H₀ W2 σ2 ρ2 H3 v x gb _ _ (px2.mono s3) rx (turn i x ρ2 hx i2) fun σ4 ρ4 px4 _ _ q4=>?_
  have e3:Ev W H1 W2 H3:=e2.trans (Ev.same s3)
  have e3':Ev W H W2 H3:=e0.trans (Ev.same s3)
  exact⟨W2,ρ4,_,px4,q4,fun W' σ' H' ρ' e p q=>⟨W',ρ',p,e3.trans e,q⟩,k.rt,fun W' σ' H' ρ' e p q=>k.nx W' σ' H' ρ' (e3'.trans e) p q,fun W' σ' H' ρ' e p q=>⟨W',ρ',p,e3.trans e,q⟩⟩
 ·have e:i=xs.length:=by omega
  subst e
  exact .inl ⟨it.stop W2 H2 e2,k.nx W2 σ2 H2 ρ2 e0 px2 (fin ρ2 i2)⟩
end
def fK (fr:List (Option Nat)) (ρ:bG):bG:=fr.map fun o=>o.bind fun j=>(ρ[j]?).join.map fun m=>Slot.sh false m.val
def gF (D:Addr):Addr->Prop:=fun a=>a=D
theorem ay0 {K:PySem.W.Frag}{H0:Hp}{W:Addr->Prop}{σ:St}{ρ:bG}{H1 H':Hp}{D:Addr}{acc:List V}{fr:List (Option Nat)} (px:PX K H0 W σ ρ H1) (hD:H1 D=none) (s:aD H1 H') (ha:H' D=some (.lst acc)) :
  PX K H1 (gF D) (dO fr σ) (fK fr ρ) H':=by
 have old:∀ {a:Addr}{o:HO},H1 a=some o->a ≠ D:=fun {a o} e z=>by rw [z,hD] at e; cases e
 refine⟨by unfold dO fK; rw [bg5,bg5],s,fun a z=>by cases z; exact⟨hD,_,ha,rfl⟩,fun i m h=>?_,fun i j x y a h1=>?_⟩
 ·unfold fK at h
  rw [bh1] at h
  cases ef:fr[i]? with
  | none=>rw [ef] at h; cases h
  | some o=>
   rw [ef] at h
   cases o with
   | none=>cases h
   | some j=>
    have h:some ((ρ[j]?).join.map fun m=>Slot.sh false m.val)=some (some m):=h
    cases er:ρ[j]? with
    | none=>rw [er] at h; cases h
    | some o=>
     rw [er] at h
     cases o with
     | none=>cases h
     | some m0=>
      cases h
      obtain ⟨v,ev,r⟩:=px.sl j m0 er
      refine⟨v,?_,?_⟩
      ·unfold dO
       rw [bh1,ef]
       show some ((σ[j]?).join)=_
       rw [ev]; rfl
      ·have r':aF K (fun _=>True) H1 v m0.val:=(qP (Hs:=H1) r).same (aD.refl _) fun _ _=>trivial
       exact r'.keep ⟨fun a _ _ e=>⟨old e,s _ _ e⟩,fun a _ _ e=>⟨old e,s _ _ e⟩,fun a _ _ e=>⟨old e,s _ _ e⟩,fun _ _ e=>s _ _ e,fun _ _ _ e=>s _ _ e⟩
 ·unfold fK at h1
  rw [bh1] at h1
  cases ef:fr[i]? with
  | none=>rw [ef] at h1; cases h1
  | some o=>
   rw [ef] at h1
   cases o with
   | none=>cases h1
   | some j=>
    have h1:some ((ρ[j]?).join.map fun m=>Slot.sh false m.val)=some (some (Slot.own x)):=h1
    cases er:ρ[j]? with
    | none=>rw [er] at h1; cases h1
    | some o=>
     rw [er] at h1
     cases o with
     | none=>cases h1
     | some m0=>cases h1
section
variable {X : Cx} {σ : St} {H : Hp} {Q' : VK}
abbrev _root_.L2.Cx.frm (X:Cx) (H1:Hp):Cx:={ X with H₀:=H1 }
def cP (ti:eD) (fr:List (Option Nat)) (p:iC) (tc:bT) (te:aE):aE:=fun ρ Q=>ti ρ fun xs g=>xs.length<=16000000/\∃ I:Nat->List PV->Prop,I 0 []/\
 (∀ i x acc,xs[i]? = some x->I i acc->p x false (fK fr ρ) fun ρ2=>tc ρ2 fun b=>if b=true then te ρ2 fun y gy=>Nw gy y/\I (i+1) (acc ++ [y]) else I (i+1) acc)/\∀ acc,I xs.length acc->Q (.lst acc) .fr
theorem oG {ti:eD}{fr:List (Option Nat)}{p:iC}{g:TG}{tc:bT}{te:aE}{own:Nat->Prop} (hg:lY X.K own p g) (ho:∀ i,own i->fr[i]? = some none) (h:LE X (cP ti fr p tc te) σ H Q') :
  qG (LI X ti) fr (fun _=>g) (fun H1=>LT (X.frm H1) tc) (fun H1=>LE (X.frm H1) te) σ H Q':=by
 obtain ⟨W,ρ,Q,px,q,k⟩:=h
 refine⟨W,ρ,_,px,q,?_⟩
 rintro J H1 xs gb s it ⟨hl,I,i0,turn,fin⟩ D hD
 have px1:=px.mono s
 refine⟨fun i m acc H'=>m=xs.length - i/\i<=xs.length/\aD H1 H'/\H' D=some (.lst acc)/\∃ ys,Reps X.K (Ms H1 (gF D) true) H' acc ys/\ys.length<=i/\I i ys,⟨xs.length,by omega,bk5 _,bE hD _,b8,[],.nil,bg1 _,i0⟩,?_⟩
 rintro i m acc H' ⟨rfl,hi,sm,ha,ys,ry,hy,iy⟩
 refine⟨ha,?_⟩
 have ev:Ev W H1 (lT W D) H':=Ev.own sm hD
 by_cases hlt:i < xs.length
 ·refine .inr ⟨it.go _ H' i ev hlt,fun v H2 y=>?_⟩
  obtain ⟨s2,x,hx,rx⟩:=it.yld _ H' i v H2 ev y hlt
  have ha2:=s2 _ _ ha
  have pxb:PX X.K H1 (gF D) (dO fr σ) (fK fr ρ) H2:=ay0 px1 hD (sm.trans s2) ha2
  have rx':aF X.K (Ms H1 (gF D) false) H2 v x:=rx.same (aD.refl _) fun a z=>by
   cases gb with
   | true=>exact fun e=>z.1 (.inr e)
   | false=>exact fun e=>z (.inr e)
  refine hg H1 (gF D) _ _ H2 v x false _ _ pxb rx' (turn i x ys hx iy) fun σ2 ρ2 px2 hown hlen q2=>⟨⟨hlen.symm,fun j w e=>?_⟩,?_⟩
  ·by_cases oj:own j
   ·have:=ho j oj
    unfold dO at e
    rw [bh1,this] at e
    cases e
   ·rw [hown j oj]; exact e
  ·refine⟨gF D,ρ2,_,px2,q2,fun b H4 s4 q4=>?_⟩
   have ha4:=s4 _ _ ha2
   have sm4:=(sm.trans s2).trans s4
   cases b with
   | false=>
    refine aO ⟨xs.length - (i+1),by omega,rfl,hlt,sm4,ha4,ys,ry.same (s2.trans s4) fun _ z=>z,by omega,by simpa using q4⟩
   | true=>
    refine aW ⟨gF D,ρ2,_,px2.mono s4,by simpa using q4,?_⟩
    rintro w H5 y gy s5 ryy ⟨nw,q5⟩
    have ha5:=s5 _ _ ha4
    have lr:=ry.length
    refine⟨ha5,gT (by omega),xs.length - (i+1),by omega,rfl,hlt,fun b o e=>?_,b8,ys ++ [y],?_,by rw [bh9,bq2]; omega,q5⟩
    ·rw [aH (fun z=>by rw [z,hD] at e; cases e)]
     exact s5 _ _ (sm4 _ _ e)
    ·exact ((ry.same ((s2.trans s4).trans s5) fun _ z=>z).append (.cons (Nw.rep (px2.mono s4) nw ryy) .nil)).keep (.upd ha5 rfl fun b m=>⟨m.1,m⟩)
 ·have e:i=xs.length:=by omega
  subst e
  refine .inl ⟨it.stop _ H' ev,k _ H' _ .fr (s.trans sm) (.lst (s.free hD) ha (ry.same (aD.refl _) fun _ z=>s.free z.2)) (fin ys iy)⟩
def eV:bT:=fun _ Q=>Q true
theorem ay1 {Qb:Bool->Hp->Prop} (h:LT X eV σ H Qb):uU σ H Qb:=by
 obtain ⟨W,ρ,Q,px,q,k⟩:=h
 exact k _ _ (aD.refl _) q
end
section
variable {κ : Type} [DecidableEq κ]
def bX (ps:List (κ × PV)) (k:κ):Option PV:=(ps.find? fun p=>decide (p.1=k)).map (·.2)
def cL (ps:List (κ × PV)) (k:κ) (x:PV):List (κ × PV):=if (ps.any fun p=>decide (p.1=k))=true then ps.map (fun p=>if p.1=k then (p.1,x) else p) else ps ++ [(k,x)]
variable {K : PySem.W.Frag} {M : Addr → Prop} {H : Hp}
theorem oH (k:κ):∀ {kvs:List (κ × V)}{ps:List (κ × PV)},kvs.map (·.1)=ps.map (·.1)->Reps K M H (kvs.map (·.2)) (ps.map (·.2))->(bX ps k=none->eR kvs k=none)/\∀ x,bX ps k=some x->∃ v,eR kvs k=some v/\aF K M H v x
 | [],[],_,_=>⟨fun _=>rfl,fun x h=>by cases h⟩
 | [],_ :: _,e,_=>by cases e
 | _ :: _,[],e,_=>by cases e
 | (k1,v) :: kvs,(k2,x) :: ps,e,r=>by
  injection e with e1 e2
  have e1:k1=k2:=e1
  subst e1
  cases r with
  | cons r t=>
   obtain ⟨h1,h2⟩:=oH k e2 t
   unfold bX eR at h1 h2 ⊢
   by_cases e:k1=k
   ·simp only [bq3,e,decide_true,Option.map_some]
    exact⟨fun z=>(by cases z),fun y z=>(by cases z; exact⟨v,rfl,r⟩)⟩
   ·simp only [bq3,e,decide_false]
    exact⟨h1,h2⟩
theorem ay2 (k:κ) {kvs:List (κ × V)}{ps:List (κ × PV)} (e:kvs.map (·.1)=ps.map (·.1)):(kvs.any fun p=>decide (p.1=k))=ps.any fun p=>decide (p.1=k):=by
 have h1:(kvs.any fun p=>decide (p.1=k))=(kvs.map (·.1)).any fun z=>decide (z=k):=by rw [List.any_map]; rfl
 have h2:(ps.any fun p=>decide (p.1=k))=(ps.map (·.1)).any fun z=>decide (z=k):=by rw [List.any_map]; rfl
 rw [h1,h2,e]
theorem J7 (k:κ) {w:V}{y:PV} (q:aF K M H w y):∀ {kvs:List (κ × V)}{ps:List (κ × PV)},kvs.map (·.1)=ps.map (·.1)->Reps K M H (kvs.map (·.2)) (ps.map (·.2))->
  (kvs.map fun kv=>if kv.1=k then (kv.1,w) else kv).map (·.1)=(ps.map fun kv=>if kv.1=k then (kv.1,y) else kv).map (·.1)/\Reps K M H ((kvs.map fun kv=>if kv.1=k then (kv.1,w) else kv).map (·.2)) ((ps.map fun kv=>if kv.1=k then (kv.1,y) else kv).map (·.2))
 | [],[],_,_=>⟨rfl,.nil⟩
 | [],_ :: _,e,_=>by cases e
 | _ :: _,[],e,_=>by cases e
 | (k1,v) :: kvs,(k2,x) :: ps,e,r=>by
  injection e with e1 e2
  have e1:k1=k2:=e1
  subst e1
  cases r with
  | cons r t=>
   obtain ⟨h1,h2⟩:=J7 k q e2 t
   by_cases e:k1=k
   ·simp only [bl7,e,if_true]
    exact⟨by rw [h1],.cons q h2⟩
   ·simp only [bl7,e,bm6]
    exact⟨by rw [h1],.cons r h2⟩
theorem vN (k:κ) {w:V}{y:PV} (q:aF K M H w y) {kvs:List (κ × V)}{ps:List (κ × PV)} (e:kvs.map (·.1)=ps.map (·.1)) (r:Reps K M H (kvs.map (·.2)) (ps.map (·.2))) :
  (dH kvs k w).map (·.1)=(cL ps k y).map (·.1)/\Reps K M H ((dH kvs k w).map (·.2)) ((cL ps k y).map (·.2)):=by
 unfold dH cL
 rw [ay2 k e]
 split
 ·exact J7 k q e r
 ·rw [bl2,bl2,bl2,bl2,e]
  exact⟨rfl,r.append (.cons q .nil)⟩
end
def kP:aA->PV
 | .inl i=>.int i
 | .inr x=>.str x
theorem vO {K:PySem.W.Frag}{M:Addr->Prop}{H:Hp}{v:V}{k:aA} (r:aF K M H v (kP k)):v=kV k:=by
 cases k with
 | inl i=>cases r; rfl
 | inr x=>cases r; rfl
theorem qZ {K:PySem.W.Frag}{M:Addr->Prop}{H:Hp}:∀ {ks:List aA}{us:List V},Reps K M H us (ks.map kP)->us=ks.map kV
 | [],_,.nil=>rfl
 | k :: r,_,.cons q t=>by rw [vO q,qZ t]; rfl
def J8 (x y:PV) (o:Option PV):Prop:=(∃ ps k,x = .dK ps/\y=kP k/\o=bX ps k) ∨ (∃ ps k,x = .dT ps/\y = .tup (k.map kP)/\o=bX ps k)
theorem K0 {K:PySem.W.Frag}{M M2:Addr->Prop}{H:Hp}{v w:V}{x y:PV}{o:Option PV} (h:J8 x y o) (rx:aF K M H v x) (ry:aF K M2 H w y):∃ a o',v = .ref a/\gS H a w o'/\(o=none->o'=none)/\∀ z,o=some z->∃ u,o'=some u/\aF K M H u z:=by
 rcases h with ⟨ps,k,rfl,rfl,rfl⟩ | ⟨ps,k,rfl,rfl,rfl⟩
 ·obtain rfl:=vO ry
  cases rx with
  | dK m h e r=>exact⟨_,_,rfl,gS.k h,(oH k e r).1,(oH k e r).2⟩
 ·obtain ⟨b,us,rfl,hb,rb⟩:=ry.sqT
  obtain rfl:=qZ rb
  cases rx with
  | dT m h e r=>exact⟨_,_,rfl,gS.t h hb,(oH k e r).1,(oH k e r).2⟩
section
variable {X : Cx} {σ : St} {H : Hp} {D : c9} {tk td te : aE} {Q' : VK}
def j4 (neg:Bool) (tk td:aE):aE:=fun ρ Q=>tk ρ fun y _=>td ρ fun x _=>∃ o,J8 x y o/\Q (.bl (if neg=true then !o.isSome else o.isSome)) .fr
theorem K1 {α β:Type}{o:Option α}{o':Option β}{P:β->α->Prop} (h1:o=none->o'=none) (h2:∀ z,o=some z->∃ u,o'=some u/\P u z):o'.isSome=o.isSome:=by
 cases o with
 | none=>rw [h1 rfl]; rfl
 | some z=>obtain ⟨u,e,_⟩:=h2 z rfl; rw [e]; rfl
theorem ay3 (h:LE X (j4 false tk td) σ H Q'):B3 (LE X tk) (LE X td) σ H Q':=by
 obtain ⟨W,ρ,Q,px,q,k⟩:=h
 refine⟨W,ρ,_,px,q,fun w H1 y g s r q=>⟨W,ρ,_,px.mono s,q,?_⟩⟩
 rintro v H2 x g' s2 r2 ⟨o,ak,q⟩
 obtain ⟨a,o',rfl,dg,h1,h2⟩:=K0 ak r2 (r.same s2 fun _ z=>z)
 refine⟨a,o',rfl,dg,?_⟩
 rw [K1 h1 h2]
 exact k _ _ _ .fr (s.trans s2) (.bl _) q
theorem K2 (h:LE X (j4 true tk td) σ H Q'):B4 (LE X tk) (LE X td) σ H Q':=by
 obtain ⟨W,ρ,Q,px,q,k⟩:=h
 refine⟨W,ρ,_,px,q,fun w H1 y g s r q=>⟨W,ρ,_,px.mono s,q,?_⟩⟩
 rintro v H2 x g' s2 r2 ⟨o,ak,q⟩
 obtain ⟨a,o',rfl,dg,h1,h2⟩:=K0 ak r2 (r.same s2 fun _ z=>z)
 refine⟨a,o',rfl,dg,?_⟩
 rw [K1 h1 h2]
 exact k _ _ _ .fr (s.trans s2) (.bl _) q
theorem PX.updD {K:PySem.W.Frag}{H0:Hp}{W:Addr->Prop}{σ:St}{ρ:bG}{H:Hp}{i:Nat}{a:Addr}{x:PV}{kvs:List (aA × V)}{ps:List (aA × PV)} (p:PX K H0 W σ ρ H) (hi:ρ[i]? = some (some (.own x))) (ha:σ[i]? = some (some (.ref a))) (wa:W a)
  (r:kvs.map (·.1)=ps.map (·.1)/\Reps K (Ms H0 W true) (upd H a (.dK kvs)) (kvs.map (·.2)) (ps.map (·.2))):PX K H0 W σ (ρ.set i (some (.own (.dK ps)))) (upd H a (.dK kvs)):=p.updOwn hi ha wa rfl (y:=.dK ps) ⟨kvs,b8,r⟩
theorem PX.updT {K:PySem.W.Frag}{H0:Hp}{W:Addr->Prop}{σ:St}{ρ:bG}{H:Hp}{i:Nat}{a:Addr}{x:PV}{kvs:List (List aA × V)}{ps:List (List aA × PV)} (p:PX K H0 W σ ρ H) (hi:ρ[i]? = some (some (.own x))) (ha:σ[i]? = some (some (.ref a))) (wa:W a)
  (r:kvs.map (·.1)=ps.map (·.1)/\Reps K (Ms H0 W true) (upd H a (.dT kvs)) (kvs.map (·.2)) (ps.map (·.2))):PX K H0 W σ (ρ.set i (some (.own (.dT ps)))) (upd H a (.dT kvs)):=p.updOwn hi ha wa rfl (y:=.dT ps) ⟨kvs,b8,r⟩
theorem oI {κ α β:Type}{l:List (κ × α)}{m:List (κ × β)} (e:l.map (·.1)=m.map (·.1)):l.length=m.length:=by
 have:=congrArg List.length e
 rw [bg5,bg5] at this
 exact this
def r6 (i:Nat) (tk te:aE):aK:=fun D ρ=>te ρ fun z g=>∃ ps,ρ[i]? = some (some (.own (.dK ps)))/\tk ρ fun y _=>∃ k,y=kP k/\Nw g z/\ps.length < 16000000/\D.nx (ρ.set i (some (.own (.dK (cL ps k z)))))
def oJ (i:Nat) (tk te:aE):aK:=fun D ρ=>te ρ fun z g=>∃ ps,ρ[i]? = some (some (.own (.dT ps)))/\tk ρ fun y _=>∃ k,y = .tup (k.map kP)/\Nw g z/\ps.length < 16000000/\D.nx (ρ.set i (some (.own (.dT (cL ps k z)))))
theorem ay4 {i:Nat} (h:LS X (r6 i tk te) D σ H):uO (eN i) (LE X tk) (LE X te) D σ H:=by
 obtain ⟨W,ρ,D',px,q,k⟩:=h
 refine⟨W,ρ,_,px,q,?_⟩
 rintro w H1 z g s rz ⟨ps,hi,q⟩
 obtain ⟨v,ev,a,rfl,wa,kvs,ea,e1,r⟩:=(px.mono s).sl i _ hi
 refine⟨_,ev,W,ρ,_,px.mono s,q,?_⟩
 rintro kv H2 y g' s2 ry ⟨kk,rfl,nw,hl,q⟩
 obtain rfl:=vO ry
 have ea2:=s2 _ _ ea
 refine⟨a,_,rfl,jK.k ea2 (gT (by rw [oI e1]; omega)),?_⟩
 refine k.nx W σ _ _ ((Ev.same (s.trans s2)).trans (Ev.upd wa)) ((px.mono (s.trans s2)).updD hi ev wa ?_) q
 obtain ⟨h1,h2⟩:=vN kk ((Nw.rep px nw rz).same s2 fun _ z=>z) e1 (r.same s2 fun _ z=>z)
 exact⟨h1,h2.keep (.upd ea2 rfl fun b m=>⟨iY wa m,m⟩)⟩
theorem ay5 {i:Nat} (h:LS X (oJ i tk te) D σ H):uO (eN i) (LE X tk) (LE X te) D σ H:=by
 obtain ⟨W,ρ,D',px,q,k⟩:=h
 refine⟨W,ρ,_,px,q,?_⟩
 rintro w H1 z g s rz ⟨ps,hi,q⟩
 obtain ⟨v,ev,a,rfl,wa,kvs,ea,e1,r⟩:=(px.mono s).sl i _ hi
 refine⟨_,ev,W,ρ,_,px.mono s,q,?_⟩
 rintro kv H2 y g' s2 ry ⟨kk,rfl,nw,hl,q⟩
 obtain ⟨b,us,rfl,hb,rb⟩:=ry.sqT
 obtain rfl:=qZ rb
 have ea2:=s2 _ _ ea
 refine⟨a,_,rfl,jK.t ea2 hb (gT (by rw [oI e1]; omega)),?_⟩
 refine k.nx W σ _ _ ((Ev.same (s.trans s2)).trans (Ev.upd wa)) ((px.mono (s.trans s2)).updT hi ev wa ?_) q
 obtain ⟨h1,h2⟩:=vN kk ((Nw.rep px nw rz).same s2 fun _ z=>z) e1 (r.same s2 fun _ z=>z)
 exact⟨h1,h2.keep (.upd ea2 rfl fun b m=>⟨iY wa m,m⟩)⟩
theorem ay6 (h:LE X (qC (.dK [])) σ H Q'):B7 σ H Q':=by
 obtain ⟨W,ρ,Q,px,q,k⟩:=h
 exact fun p hp=>k _ _ _ .fr (bE hp _) (.dK hp b8 rfl .nil) q
theorem ay7 (h:LE X (qC (.dT [])) σ H Q'):B8 σ H Q':=by
 obtain ⟨W,ρ,Q,px,q,k⟩:=h
 exact fun p hp=>k _ _ _ .fr (bE hp _) (.dT hp b8 rfl .nil) q
def gW (ps more:List (aA × PV)):List (aA × PV):=more.foldl (fun acc kv=>cL acc kv.1 kv.2) ps
theorem K3 {K:PySem.W.Frag}{M:Addr->Prop}{H:Hp}:∀ {more:List (aA × V)}{mp:List (aA × PV)}{kvs:List (aA × V)}{ps:List (aA × PV)},more.map (·.1)=mp.map (·.1)->Reps K M H (more.map (·.2)) (mp.map (·.2))->kvs.map (·.1)=ps.map (·.1)->Reps K M H (kvs.map (·.2)) (ps.map (·.2))->
  (kD kvs more).map (·.1)=(gW ps mp).map (·.1)/\Reps K M H ((kD kvs more).map (·.2)) ((gW ps mp).map (·.2))
 | [],[],_,_,_,_,e,r=>⟨e,r⟩
 | [],_ :: _,_,_,e,_,_,_=>by cases e
 | _ :: _,[],_,_,e,_,_,_=>by cases e
 | (k1,v) :: more,(k2,x) :: mp,kvs,ps,e,r,e',r'=>by
  injection e with e1 e2
  have e1:k1=k2:=e1
  subst e1
  cases r with
  | cons q t=>
   obtain ⟨h1,h2⟩:=vN k1 q e' r'
   exact K3 (more:=more) (mp:=mp) e2 t h1 h2
def vP (i:Nat) (te:aE):aK:=fun D ρ=>∃ ps,ρ[i]? = some (some (.own (.dK ps)))/\te ρ fun y g=>∃ mp,y = .dK mp/\(g = .fr ∨ (g = .nw/\False))/\ps.length+mp.length<=16000000/\D.nx (ρ.set i (some (.own (.dK (gW ps mp)))))
theorem ay8 {i:Nat} (h:LS X (vP i te) D σ H):lD (F5 (eN i) (LE X te)) D σ H:=by
 obtain ⟨W,ρ,D',px,⟨ps,hi,q⟩,k⟩:=h
 obtain ⟨v,ev,a,rfl,wa,kvs,ea,e1,r⟩:=px.sl i _ hi
 refine⟨_,ev,a,rfl,.inl ⟨kvs,.inl ea⟩,W,ρ,_,px,q,?_⟩
 rintro w H1 y g s ry ⟨mp,rfl,hg,hl,q⟩
 rcases hg with rfl | ⟨_,z⟩
 ·cases ry with
  | @dK b more _ m hb e2 rb=>
   have hab:a ≠ b:=fun z=>by subst z; rw [show H a=none from m] at ea; cases ea
   have ea1:=s _ _ ea
   refine⟨b,kvs,more,rfl,hab,ea1,hb,lim (by rw [oI e1,oI e2]; exact hl),?_⟩
   refine k.nx W σ _ _ ((Ev.same s).trans (Ev.upd wa)) ((px.mono s).updD hi ev wa ?_) q
   obtain ⟨h1,h2⟩:=K3 e2 (rb.same (M':=Ms X.H₀ W true) (aD.refl _) fun _ z=>px.new z) e1 (r.same s fun _ z=>z)
   exact⟨h1,h2.keep (.upd ea1 rfl fun b m=>⟨iY wa m,m⟩)⟩
 ·exact z.elim
end
def bU:Nat->PV->PV->Bool
 | _,.non,.non=>true
 | _,.bl a,.bl b=>a == b
 | _,.int a,.int b=>a == b
 | _,.str a,.str b=>a == b
 | n+1,.tup xs,.tup ys=>(xs.zip ys).all (fun p=>bU n p.1 p.2) && xs.length == ys.length
 | n+1,.lst xs,.lst ys=>(xs.zip ys).all (fun p=>bU n p.1 p.2) && xs.length == ys.length
 | n+1,.kt xs,.kt ys=>(xs.zip ys).all (fun p=>bU n p.1 p.2) && xs.length == ys.length
 | _,_,_=>false
def dY:Nat->PV->PV->Bool
 | _,.non,.non=>true
 | _,.bl _,.bl _=>true
 | _,.int _,.int _=>true
 | _,.str _,.str _=>true
 | _,.non,.int _=>true
 | _,.int _,.non=>true
 | n+1,.tup xs,.tup ys=>(xs.zip ys).all (fun p=>dY n p.1 p.2)
 | n+1,.lst xs,.lst ys=>(xs.zip ys).all (fun p=>dY n p.1 p.2)
 | n+1,.kt xs,.kt ys=>(xs.zip ys).all (fun p=>dY n p.1 p.2)
 | _+1,.non,.tup _=>true
 | _+1,.tup _,.non=>true
 | _,_,_=>false
theorem ay9 (n:Nat) (a b:Int):bU n (.int a) (.int b)=(a == b):=by cases n <;> rfl
theorem vQ (n:Nat):∀ (a b:List Int),((((intz a).zip (intz b)).all fun p=>bU n p.1 p.2) && (intz a).length == (intz b).length)=decide (a=b)
 | [],[]=>rfl
 | [],_ :: _=>by simp
 | _ :: _,[]=>by simp
 | x :: a,y :: b=>by
  have ih:=vQ n a b
  simp only [bl7,List.zip_cons_cons,bt7,bj0,ay9] at ih ⊢
  by_cases e:x=y
  ·subst e
   have:((intz a).length+1 == (intz b).length+1)=((intz a).length == (intz b).length):=by simp
   rw [this,bo5,Bool.true_and,ih]
   simp
  ·have:(x == y)=false:=beq_eq_false_iff_ne.mpr e
   rw [this,Bool.false_and,Bool.false_and]
   simp [e]
theorem m3 (n:Nat) (a b:List Int):bU (n+1) (.tup (intz a)) (.tup (intz b))=decide (a=b):=vQ n a b
theorem az0 (n:Nat) (a b:List Int):bU (n+1) (.lst (intz a)) (.lst (intz b))=decide (a=b):=vQ n a b
theorem vR (n:Nat):∀ (a b:List Int),(((intz a).zip (intz b)).all fun p=>dY n p.1 p.2)=true
 | [],_=>by simp
 | _ :: _,[]=>by simp
 | x :: a,y :: b=>by
  simp only [bl7,List.zip_cons_cons,bt7,vR n a b,Bool.and_true]
  cases n <;> rfl
theorem m5 (n:Nat) (a b:List Int):dY (n+1) (.tup (intz a)) (.tup (intz b))=true:=vR n a b
theorem az1 (n:Nat) (a b:List Int):dY (n+1) (.lst (intz a)) (.lst (intz b))=true:=vR n a b
def kK (ta:aE):aE:=fun ρ Q=>ta ρ fun x _=>∃ i,x = .int i/\Q (.int (-i)) .fr
def fL (neg:Bool):PV->Tg->PV->Tg->PK->Prop:=fun x _ y _ Q=>∃ i ns,x = .int i/\jP y=some (intz ns)/\Q (.bl (if neg=true then !decide (i ∈ ns) else decide (i ∈ ns))) .fr
def K4:PV->Option String
 | .non=>some "NoneType"
 | .bl _=>some "bool"
 | .int _=>some "int"
 | .str _=>some "str"
 | .tup _=>some "tuple"
 | .kt _=>some "tuple"
 | .lst _=>some "list"
 | _=>none
def jQ (K:PySem.W.Frag) (n:String) (te:aE):aE:=fun ρ Q=>te ρ fun x _=>∃ T b,K4 x=some T/\PySem.W.kitOne K (.type T) (.type n)=some b/\Q (.bl b) .fr
def iD (n:Nat) (neg:Bool):PV->Tg->PV->Tg->PK->Prop:=fun x _ y _ Q=>((∃ xs ys,x = .tup xs/\y = .tup ys) ∨ (∃ xs ys,x = .lst xs/\y = .lst ys))/\dY (n+1) x y=true/\Q (.bl (if neg=true then !bU (n+1) x y else bU (n+1) x y)) .fr
abbrev m6:=bG->(Option Int->Prop)->Prop
def iE (xs:List PV) (lo hi:Option Int):List PV:=(xs.drop (HT.aV xs.length 0 lo)).take (HT.aV xs.length xs.length hi - HT.aV xs.length 0 lo)
def vS:PV->List PV->PV
 | .tup _,ys=>.tup ys
 | .kt _,ys=>.tup ys
 | _,ys=>.lst ys
def vT:m6:=fun _ Q=>Q none
def vU (te:aE):m6:=fun ρ Q=>te ρ fun x _=>∃ i,x = .int i/\Q (some i)
def vV (te:aE) (tl th:m6):aE:=fun ρ Q=>te ρ fun x _=>tl ρ fun lo=>th ρ fun hi=>∃ xs,seqT x=some xs/\flats xs=true/\Q (vS x (iE xs lo hi)) .fr
def eF (N:List Str) (xs:List PV):bG:=xs.map (fun x=>some (.sh (flat x) x)) ++ List.replicate (N.length - xs.length) none
abbrev gG (ta tb:aE):aE:=q2 (eU fun i j=>.int (i+j)) ta tb
abbrev m7 (ta tb:aE):aE:=q2 (eU fun i j=>.int (i - j)) ta tb
abbrev vW (ta tb:aE):aE:=q2 (RI nP fun i j=>.int (i * j)) ta tb
abbrev dB (ta tb:aE):aE:=q2 (RI tW fun i j=>.int (i / j)) ta tb
abbrev bY (ta tb:aE):aE:=q2 (RI (fun _ j=>0 < j) fun i j=>.int (i % j)) ta tb
abbrev az2 (ta tb:aE):aE:=q2 (RI tX fun i j=>.int (i ^ j.toNat)) ta tb
abbrev az3 (ta tb:aE):aE:=q2 (RI (fun _ j=>0<=j) fun i j=>.int (i / 2 ^ j.toNat)) ta tb
abbrev r9 (ta tb:aE):aE:=q2 (eU fun i j=>.bl (decide (i < j))) ta tb
abbrev jR (ta tb:aE):aE:=q2 (eU fun i j=>.bl (decide (j < i))) ta tb
abbrev vX (ta tb:aE):aE:=q2 (eU fun i j=>.bl (decide (j<=i))) ta tb
abbrev dP (ta tb:aE):aE:=q2 (kH false) ta tb
abbrev kL (ta tb:aE):aE:=q2 (kH true) ta tb
abbrev K5 (ta tb:aE):aE:=q2 (kJ false) ta tb
abbrev az4 (ta tb:aE):aE:=q2 (kJ true) ta tb
abbrev dQ (ta tb:aE):aE:=q2 vH ta tb
def dF:List PV->(PV->Prop)->Prop:=fun xs Q=>G8 xs Q/\∀ ns,xs ≠ [.scr ns]
def QE (X:Cx) (e:Expr) (t:aE):Prop:=PE X e (LE X t)
def QT (X:Cx) (e:Expr) (t:bT):Prop:=PT X e (LT X t)
def QW (X:Cx) (e:Expr) (t:bT):Prop:=PW X e (LT X t)
def QA (X:Cx) (es:List Expr) (t:cK):Prop:=PA X es (LA X t)
def QS (X:Cx) (st:Stmt) (t:aK):Prop:=PS X st (LS X t)
def eG (X:Cx) (st:List Stmt) (t:aK):Prop:=cU X st (LS X t)
def QI (X:Cx) (tg iter:Expr) (t:eD):Prop:=PI X tg iter (LI X t)
section
variable {X : Cx}
theorem bQ {e:Expr}{t t':TE} (h:PE X e t) (m:∀ σ H Q,t' σ H Q->t σ H Q):PE X e t':=fun pins s σ H Q I q=>h pins s σ H Q I (m σ H Q q)
theorem m8 {e:Expr}{t t':TT} (h:PT X e t) (m:∀ σ H Q,t' σ H Q->t σ H Q):PT X e t':=fun pins s σ H Q I q=>h pins s σ H Q I (m σ H Q q)
theorem K6 {e:Expr}{t t':TT} (h:PW X e t) (m:∀ σ H Q,t' σ H Q->t σ H Q):PW X e t':=fun wh pins s σ H Q I q=>h wh pins s σ H Q I (m σ H Q q)
theorem K7 {e:List Expr}{t t':TA} (h:PA X e t) (m:∀ σ H Q,t' σ H Q->t σ H Q):PA X e t':=fun pos pins s σ H Q I q=>h pos pins s σ H Q I (m σ H Q q)
theorem dC {e:Stmt}{t t':TS} (h:PS X e t) (m:∀ D σ H,t' D σ H->t D σ H):PS X e t':=fun pins s σ H D I q=>h pins s σ H D I (m D σ H q)
theorem vY {e:List Stmt}{t t':TS} (h:cU X e t) (m:∀ D σ H,t' D σ H->t D σ H):cU X e t':=fun pins s σ H D I q=>h pins s σ H D I (m D σ H q)
theorem rA {tg e:Expr}{t t':TI} (h:PI X tg e t) (m:∀ σ H R,t' σ H R->t σ H R):PI X tg e t':=fun pins s σ H R I q=>h pins s σ H R I (m σ H R q)
variable {a b c e o : Expr} {es cH : List Expr} {ta tb te to tk : aE} {tr : cK} {tA tB' tc : bT} {pos p2 px : Pos} {st : Stmt} {sts : List Stmt} {t u : aK}
theorem qv (i:Nat) {x:Str}{pos:Pos} (hN:X.N[i]? = some x:=by rfl) (hv:eM X.env.scope x:=by first | exact Or.inl rfl | exact Or.inr (Or.inl rfl) | exact Or.inr (Or.inr rfl)) (hd:(x == ("__debug__" : Str))=false:=by decide)
  (hcd:(x == ("__classdict__" : Str))=false:=by decide):QE X (.Name x pos) (a5 i):=bQ (fS hN hv hd hcd) fun _ _ _=>au3
theorem aG {i j}:QE X (.Constant (.int i) j pos) (qC (.int i)):=bQ nI fun _ _ _=>qQ fun _=>.int i
theorem fD {i j}:QE X (.Constant (.bool i) j pos) (qC (.bl i)):=bQ ah3 fun _ _ _=>qQ fun _=>.bl i
theorem oK {j}:QE X (.Constant .none j pos) (qC .non):=bQ ah4 fun _ _ _=>qQ fun _=>.non
theorem az5 {i j}:QE X (.Constant (.str i) j pos) (qC (.str i)):=bQ ah5 fun _ _ _=>qQ fun _=>.str i
theorem kM {op:Operator}{R:PV->Tg->PV->Tg->PK->Prop}{r:R2} (ho:cD X (binaryOp op) r) (cv:eS X R r) (ha:QE X a ta) (hb:QE X b tb):QE X (.BinOp a op b pos) (q2 R ta tb):=bQ (ak1 ho ha hb) fun _ _ _=>qR cv
theorem iF (ha:QE X a ta) (hb:QE X b tb):QE X (.BinOp a .Add b pos) (q2 (eU fun i j=>.int (i+j)) ta tb):=kM ak4 F8 ha hb
theorem rB (ha:QE X a ta) (hb:QE X b tb):QE X (.BinOp a .Sub b pos) (q2 (eU fun i j=>.int (i - j)) ta tb):=kM ak5 F8 ha hb
theorem vZ (ha:QE X a ta) (hb:QE X b tb):QE X (.BinOp a .Mult b pos) (q2 (RI nP fun i j=>.int (i * j)) ta tb):=kM ak6 oB ha hb
theorem dJ (ha:QE X a ta) (hb:QE X b tb):QE X (.BinOp a .FloorDiv b pos) (q2 (RI tW fun i j=>.int (i / j)) ta tb):=kM ak7 oB ha hb
theorem cG (ha:QE X a ta) (hb:QE X b tb):QE X (.BinOp a .Mod b pos) (q2 (RI (fun _ j=>0 < j) fun i j=>.int (i % j)) ta tb):=kM ak8 oB ha hb
theorem az6 (ha:QE X a ta) (hb:QE X b tb):QE X (.BinOp a .Pow b pos) (q2 (RI tX fun i j=>.int (i ^ j.toNat)) ta tb):=kM ak9 oB ha hb
theorem az7 (ha:QE X a ta) (hb:QE X b tb):QE X (.BinOp a .RShift b pos) (q2 (RI (fun _ j=>0<=j) fun i j=>.int (i / 2 ^ j.toNat)) ta tb):=kM al0 oB ha hb
theorem kN {op:CmpOp}{R:PV->Tg->PV->Tg->PK->Prop}{r:R2} (ho:cD X (compareOp op) r) (cv:eS X R r) (ha:QE X a ta) (hb:QE X b tb) (hm:behindInMarks op b=false):QE X (.Compare a [op] [b] pos) (q2 R ta tb):=bQ (tY ho ha hb hm) fun _ _ _=>qR cv
theorem gH {op:CmpOp}{R:PV->Tg->PV->Tg->PK->Prop}{r:R2} (ho:cD X (compareOp op) r) (cv:eS X R r) (ha:QE X a ta) (hb:QE X b tb) (hm:behindInMarks op b=false):QT X (.Compare a [op] [b] pos) (aR (q2 R ta tb)):=m8 (al4 ho ha hb hm) fun _ _ _ h=>qR cv (qS h)
theorem az8 (ha:QE X a ta) (hb:QE X b tb):QE X (.Compare a [.Lt] [b] pos) (q2 (eU fun i j=>.bl (decide (i < j))) ta tb):=kN pL lQ ha hb (dL _)
theorem az9 (ha:QE X a ta) (hb:QE X b tb):QE X (.Compare a [.Gt] [b] pos) (q2 (eU fun i j=>.bl (decide (j < i))) ta tb):=kN zB lQ ha hb (dL _)
theorem K8 (ha:QE X a ta) (hb:QE X b tb):QE X (.Compare a [.GtE] [b] pos) (q2 (eU fun i j=>.bl (decide (j<=i))) ta tb):=kN zC lQ ha hb (dL _)
theorem w4 (ha:QE X a ta) (hb:QE X b tb):QE X (.Compare a [.Eq] [b] pos) (q2 (kH false) ta tb):=kN z9 G1 ha hb (dL _)
theorem aA0 (ha:QE X a ta) (hb:QE X b tb):QE X (.Compare a [.Is] [b] pos) (q2 (kJ false) ta tb):=kN zD J0 ha hb (dL _)
theorem w5 (ha:QE X a ta) (hb:QE X b tb):QT X (.Compare a [.Lt] [b] pos) (aR (q2 (eU fun i j=>.bl (decide (i < j))) ta tb)):=gH pL lQ ha hb (dL _)
theorem m9 (ha:QE X a ta) (hb:QE X b tb):QT X (.Compare a [.Gt] [b] pos) (aR (q2 (eU fun i j=>.bl (decide (j < i))) ta tb)):=gH zB lQ ha hb (dL _)
theorem aA1 (ha:QE X a ta) (hb:QE X b tb):QT X (.Compare a [.GtE] [b] pos) (aR (q2 (eU fun i j=>.bl (decide (j<=i))) ta tb)):=gH zC lQ ha hb (dL _)
theorem fE (ha:QE X a ta) (hb:QE X b tb):QT X (.Compare a [.Eq] [b] pos) (aR (q2 (kH false) ta tb)):=gH z9 G1 ha hb (dL _)
theorem mB (ha:QE X a ta) (hb:QE X b tb):QT X (.Compare a [.NotEq] [b] pos) (aR (q2 (kH true) ta tb)):=gH zA au4 ha hb (dL _)
theorem aA2 (ha:QE X a ta) (hb:QE X b tb):QT X (.Compare a [.Is] [b] pos) (aR (q2 (kJ false) ta tb)):=gH zD J0 ha hb (dL _)
theorem aA3 (ha:QE X a ta) (hb:QE X b tb):QT X (.Compare a [.IsNot] [b] pos) (aR (q2 (kJ true) ta tb)):=gH al2 ax5 ha hb (dL _)
theorem K9 (hu:X.A.units+1 < cLine) (hk:QE X a tk) (hd:QE X b te) (hm:behindInMarks .In b=false:=by rfl):QT X (.Compare a [.In] [b] pos) (aR (j4 false tk te)):=m8 (y9 (ap4 hu hk hd) hm) fun _ _ _ h=>ay3 (qS h)
theorem aA4 (hu:X.A.units+1 < cLine) (hk:QE X a tk) (hd:QE X b te) (hm:behindInMarks .NotIn b=false:=by rfl):QT X (.Compare a [.NotIn] [b] pos) (aR (j4 true tk te)):=m8 (y9 (B5 hu hk hd) hm) fun _ _ _ h=>K2 (qS h)
theorem aA5 (hu:X.A.units+1 < cLine) (hk:QE X a tk) (hd:QE X b te) (hm:behindInMarks .NotIn b=false:=by rfl):QE X (.Compare a [.NotIn] [b] pos) (j4 true tk te):=bQ (ah8 (B5 hu hk hd) hm) fun _ _ _ h=>K2 h
theorem j5 (h:QE X e te) (he:∀ whole,isTrue e X.env whole=(do let v <- whole; standAt e.pos; holding [v] (truthy v)):=by intro _; rfl):QT X e (aR te):=m8 (ah9 h he) fun _ _ _ h=>qS h
theorem w6 (h:QE X e te) (he:∀ whole,isTrue e X.env whole=(do let v <- whole; standAt e.pos; holding [v] (truthy v)):=by intro _; rfl):QT X e (oE te):=m8 (al6 h he) fun _ _ _ h=>ax4 h
theorem oM (ha:QT X a tA):QW X (.BoolOp .And [a] pos) tA:=ai0 ha
theorem mC (ha:QT X a tA):QW X (.BoolOp .Or [a] pos) tA:=ai1 ha
theorem oN (ha:QT X a tA) (hb:QW X (.BoolOp .And (b :: cH) pos) tB'):QW X (.BoolOp .And (a :: b :: cH) pos) (jL tA tB'):=K6 (ai2 ha hb) fun _ _ _=>au5
theorem mD (ha:QT X a tA) (hb:QW X (.BoolOp .Or (b :: cH) pos) tB'):QW X (.BoolOp .Or (a :: b :: cH) pos) (jM tA tB'):=K6 (ai3 ha hb) fun _ _ _=>au6
theorem gX (h:QW X e tA):QT X e tA:=PW.pt h
theorem j6 (ha:QT X a tA):QT X (.UnaryOp .Not a pos) (gV tA):=m8 (ai4 ha) fun _ _ _=>au7
theorem mE {op} (h:QE X a ta):QE X (.BoolOp op [a] pos) ta:=ai5 h
theorem mF (ha:QE X a ta) (hb:QE X (.BoolOp .And (b :: cH) pos) tb):QE X (.BoolOp .And (a :: b :: cH) pos) (jN ta tb):=bQ (ai6 ha hb) fun _ _ _=>au8
theorem aA6 (ha:QE X a ta):QE X (.UnaryOp .Not a pos) (vC ta):=bQ (ai7 ha) fun _ _ _=>au9
theorem aB:QA X [] a9:=K7 dM fun _ _ _=>av0
theorem a8 (ha:QE X e te) (hr:QA X es tr) (hs:starEach (e :: es) X.env=(false,eval e X.env) :: starEach es X.env:=by rfl):QA X (e :: es) (a6 te tr):=K7 (cV ha hr hs) fun _ _ _=>av1
theorem jS {x1} (h:QA X es tr):QE X (.Tuple es x1 pos) (gB tr):=bQ (zH h) fun _ _ _=>av3
theorem aA7 {x1} (h:QA X es tr):QE X (.Tuple es x1 pos) (vD tr):=bQ (zH h) fun _ _ _=>av2
theorem rC (h:QA X es tr):QE X (.List es pos) (jO tr):=bQ (zI h) fun _ _ _=>av4
theorem eI (ha:QE X a ta) (hb:QE X b tb) (hs:zV b:=by exact fun _ _=>rfl):QE X (.Subscript a b pos) (q2 vH ta tb):=bQ (nU an5 ha hb hs) fun _ _ _=>qR aw6
theorem L4:QE X (.Dict [] [] pos) (qC (.dK [])):=bQ ap7 fun _ _ _=>ay6
theorem L5:QE X (.Dict [] [] pos) (qC (.dT [])):=bQ ap8 fun _ _ _=>ay7
theorem mG {x:Str}{id:String}{R:List PV->(PV->Prop)->Prop}{r:List V->Hp->VK->Prop} (hc:cS X (.builtin id) r) (cv:gC X R r) (hg:Gl X x) (hm:X.mg x=none) (hv:bootBuiltins x=some (.builtin id)) (ha:QA X (e :: es) tr) (hn:x ≠ "__name__":=by decide) (hdb:(x == ("__debug__" : Str))=false:=by decide)
  (he:starEach (e :: es) X.env=(false,eval e X.env) :: starEach es X.env:=by rfl) (hpl:(backTo pos (starEach es X.env)).any (·.1)=false:=by rfl):QE X (.Call (.Name x p2) (e :: es) [] pos) (aC R tr):=bQ (lM hc hg hm hv ha hn hdb he hpl) fun _ _ _=>G2 cv
theorem w9 {x:Str}{T:String}{R:List PV->(PV->Prop)->Prop}{r:List V->Hp->VK->Prop} (hc:cS X (.type T) r) (cv:gC X R r) (hg:Gl X x) (hm:X.mg x=none) (hv:bootBuiltins x=some (.type T)) (ha:QA X (e :: es) tr) (hn:x ≠ "__name__":=by decide) (hdb:(x == ("__debug__" : Str))=false:=by decide)
  (he:starEach (e :: es) X.env=(false,eval e X.env) :: starEach es X.env:=by rfl) (hpl:(backTo pos (starEach es X.env)).any (·.1)=false:=by rfl):QE X (.Call (.Name x p2) (e :: es) [] pos) (aC R tr):=bQ (u9 hc hg hm hv ha hn hdb he hpl) fun _ _ _=>G2 cv
theorem cI:eG X [] cA:=vY ai9 fun _ _ _=>av5
theorem aS (h1:QS X st t) (h2:eG X sts u):eG X (st :: sts) (aP t u):=vY (nK h1 h2) fun _ _ _=>av6
theorem aM (h1:QS X st t):eG X [st] t:=lC h1
theorem bF {i:Nat}{x:Str} (hN:X.N.Nodup) (he:QE X e te) (hi:X.N[i]? = some x:=by rfl) (hx:gN X.env.scope x:=by first | exact Or.inl rfl | exact Or.inr rfl) (hs:swapsWith e (some (.Name x p2)) pos.line X.env=pure false:=by rfl) (hf:X.fn x=true ∨ X.env.scope.names.lookup x=some .local:=by first | exact .inl rfl | exact .inr rfl) :
  QS X (.Assign [.Name x p2] e pos) (b9 i te):=dC (yJ hN hi hx he hs hf) fun _ _ _=>G5
theorem jT {i:Nat}{x:Str} (hN:X.N.Nodup) (he:QE X e te) (hi:X.N[i]? = some x:=by rfl) (hx:gN X.env.scope x:=by first | exact Or.inl rfl | exact Or.inr rfl) (hs:swapsWith e (some (.Name x p2)) pos.line X.env=pure false:=by rfl) (hf:X.fn x=true ∨ X.env.scope.names.lookup x=some .local:=by first | exact .inl rfl | exact .inr rfl) :
  QS X (.Assign [.Name x p2] e pos) (gD i te):=dC (yJ hN hi hx he hs hf) fun _ _ _=>G7
theorem L6 (i:Nat) (h:QS X st t):QS X st (qU i t):=dC h fun _ _ _=>av9
theorem bB (he:QE X e te):QS X (.Return (some e) pos) (aZ te):=dC (lF he) fun _ _ _=>aw0
theorem jU (i:Nat) {x:Str} (hN:X.N[i]? = some x:=by rfl) (hv:eM X.env.scope x:=by first | exact Or.inl rfl | exact Or.inr (Or.inl rfl) | exact Or.inr (Or.inr rfl)) (hd:(x == ("__debug__" : Str))=false:=by decide) (hcd:(x == ("__classdict__" : Str))=false:=by decide) :
  QS X (.Return (some (.Name x p2)) pos) (iB i):=dC (lF (fS hN hv hd hcd)) fun _ _ _=>aw1
theorem bZ {sa sb:List Stmt} (hc:QT X c tc) (ha:eG X sa t) (hb:eG X sb u):QS X (.If c sa sb pos) (bM tc t u):=dC (aj0 hc ha hb) fun _ _ _=>aw2
theorem L7 {body:List Stmt} (hp:PassesOwn (model X.prog X.w) X.A X.env X.xe) (hc:QT X c tc) (hb:eG X body t):QS X (.While c body [] pos) (qV tc t):=dC (aj2 hp hc hb) fun _ _ _=>aw3
theorem L8 (i:Nat) {x:Str}{apos cpos xpos:Pos} (he:QE X e te) (hN:X.N[i]? = some x:=by rfl) (hv:eM X.env.scope x:=by first | exact Or.inl rfl | exact Or.inr (Or.inl rfl) | exact Or.inr (Or.inr rfl)) (hd:(x == ("__debug__" : Str))=false:=by decide) (hcd:(x == ("__classdict__" : Str))=false:=by decide)
  (hbase:attributeBase (.Name x xpos) "append" X.env (eval (.Name x xpos) X.env)=eval (.Name x xpos) X.env:=by rfl)
  (hfew:((backTo cpos (starEach [e] X.env)).all (fun x=>!x.1) && (backToKw cpos (keywordEach [] X.env)).all (fun x=>x.1.isSome) && decide (([e]:List Expr).length+([]:List Keyword).length+(if ([]:List Keyword).isEmpty then 0 else 1) < 30))=true:=by rfl)
  (hline:(apos.endLine == cpos.line)=true:=by rfl) (hs:starEach [e] X.env=(false,eval e X.env) :: starEach [] X.env:=by rfl) (hplain:(backTo cpos (starEach [] X.env)).any (·.1)=false:=by rfl)
  (hsw:swapsWith (.Call (.Attribute (.Name x xpos) "append" apos) [e] [] cpos) none pos.line X.env=pure false:=by rfl) :
  QS X (.Expr (.Call (.Attribute (.Name x xpos) "append" apos) [e] [] cpos) pos) (qW i te):=
 dC (kA (pP bt1 PySem.F.slot_list_append PySem.F.type_list_append pR (fS hN hv hd hcd) (cV he dM hs) hbase hfew hline hs hplain) hsw) fun _ _ _=>aw4
theorem L9 {i:Nat}{x:Str}{xpos tpos:Pos} (hu:X.A.units+1 < cLine) (hk:QE X a tk) (he:QE X e te) (hN:X.N[i]? = some x:=by rfl) (hv:eM X.env.scope x:=by first | exact Or.inl rfl | exact Or.inr (Or.inl rfl) | exact Or.inr (Or.inr rfl)) (hd:(x == ("__debug__" : Str))=false:=by decide) (hcd:(x == ("__classdict__" : Str))=false:=by decide)
  (hs:swapsWith e (some (.Subscript (.Name x xpos) a tpos)) pos.line X.env=pure false:=by rfl):QS X (.Assign [.Subscript (.Name x xpos) a tpos] e pos) (r6 i tk te):=dC (B6 hu (fS hN hv hd hcd) hk he hs) fun _ _ _=>ay4
theorem M0 {i:Nat}{x:Str}{xpos tpos:Pos} (hu:X.A.units+1 < cLine) (hk:QE X a tk) (he:QE X e te) (hN:X.N[i]? = some x:=by rfl) (hv:eM X.env.scope x:=by first | exact Or.inl rfl | exact Or.inr (Or.inl rfl) | exact Or.inr (Or.inr rfl)) (hd:(x == ("__debug__" : Str))=false:=by decide) (hcd:(x == ("__classdict__" : Str))=false:=by decide)
  (hs:swapsWith e (some (.Subscript (.Name x xpos) a tpos)) pos.line X.env=pure false:=by rfl):QS X (.Assign [.Subscript (.Name x xpos) a tpos] e pos) (oJ i tk te):=dC (B6 hu (fS hN hv hd hcd) hk he hs) fun _ _ _=>ay5
theorem aA8 {tg l:Expr}{tl:TE} (hl:PE X l tl):PI X tg l (J1 X.K tl):=by
 intro pins s σ H R I h
 refine aJ (hl pins s σ H _ I h) fun v s1 ⟨x,H1,I1,r1,q1⟩=>?_
 obtain ⟨a,e,q⟩:=q1
 subst e
 cases r1
 rcases q with ⟨xs,hq,q⟩ | ⟨xs,hq,q⟩
 ·obtain ⟨its,rv,p,hz⟩:=I1.list hq
  refine wpAny_pyIter_list p.isList ?_
  refine⟨s1.heap.objs.size,[s1.heap.objs.size],_,_,H1,rfl,I1.kept (t':=s1.toks) fun b o e=>bf7 _ e,aj3 a _,⟨_,bg6 _ rfl,rfl,rfl⟩,fun b hb=>?_,q⟩
  have e:b=s1.heap.objs.size:=by simpa using hb
  subst e
  exact I1.fpOk (bg1 _) (I1.hok.fresh (bg1 _))
 ·obtain ⟨its,rv,p,hz⟩:=I1.tuple hq
  refine bs1 (show s1.heap.IsTuple a its.toArray from p) ?_
  refine⟨s1.heap.objs.size,[s1.heap.objs.size],_,_,H1,rfl,I1.kept (t':=s1.toks) fun b o e=>bf7 _ e,yM a _,⟨_,bg6 _ rfl,rfl,rfl⟩,fun b hb=>?_,q⟩
  have e:b=s1.heap.objs.size:=by simpa using hb
  subst e
  exact I1.fpOk (bg1 _) (I1.hok.fresh (bg1 _))
theorem dZ {tg l:Expr} (hl:QE X l te):QI X tg l (dI te):=rA (aA8 hl) fun _ _ _=>ax6
theorem j7 {tg:Expr} (hg:Gl X "range") (hm:X.mg "range" = none) (ha:QE X a ta) (hs:starEach [a] X.env = [(false,eval a X.env)]:=by rfl):QI X tg (.Call (.Name "range" p2) [a] [] pos) (gE ta):=rA (aj6 hg hm (cV ha dM hs) hs) fun _ _ _=>ax7
theorem aA9 {tg:Expr} (hg:Gl X "range") (hm:X.mg "range" = none) (ha:QE X a ta) (hb:QE X b tb) (hs:starEach [a,b] X.env = [(false,eval a X.env),(false,eval b X.env)]:=by rfl) (hs2:starEach [b] X.env = [(false,eval b X.env)]:=by rfl) :
  QI X tg (.Call (.Name "range" p2) [a,b] [] pos) (vM ta tb):=rA (aj7 hg hm (cV ha (cV hb dM hs2) (by rw [hs,hs2])) hs hs2) fun _ _ _=>ax8
theorem M3 {tg:Expr}{body:List Stmt}{ti:eD}{p:iC}{g:TG}{own:Nat->Prop} (hp:PassesOwn (model X.prog X.w) X.A X.env X.xe) (hc:X.calm=true) (hi:QI X tg e ti) (hg:PG X tg g) (ht:lY X.K own p g) (hb:eG X body t)
  (hs:∀ x,foldedSetIterable e X.env x=pure x:=by intro _; rfl):QS X (.For tg e body [] pos) (fC ti p t):=dC (yS hp hc hi hg hb hs) fun _ _ _=>ax9 ht
end
section
variable {X : Cx} {pins : List (Addr × Obj)} {σ : St} {H : Hp} {s : Shared} {K : PySem.W.Frag} {M M' : Addr → Prop}
theorem lP.inj {a:Addr}{us ws:List V} (h:lP K a us) (h':lP K a ws):us=ws:=by
 obtain ⟨o,its,n,e1,_,e2,_,v⟩:=h
 obtain ⟨o',its',n',e1',_,e2',_,v'⟩:=h'
 rw [e1] at e1'; cases e1'
 rw [e2] at e2'; cases e2'
 exact v.inj v'
theorem Reps.self_of {n:Nat} (ih:∀ {v:V}{x y:PV},aF K M H v x->aF K M' H v y->dY n x y=true->bU n x y=true):∀ {vs:List V}{xs ys:List PV},Reps K M H vs xs->Reps K M' H vs ys->((xs.zip ys).all fun p=>dY n p.1 p.2)=true->(((xs.zip ys).all fun p=>bU n p.1 p.2) && xs.length == ys.length)=true
 | _,_,_,.nil,.nil,_=>rfl
 | _,_,_,.cons r t,.cons r' t',o=>by
  simp only [List.zip_cons_cons,bt7,bj5] at o
  have h1:=ih r r' o.1
  have h2:=Reps.self_of ih t t' o.2
  simp only [List.zip_cons_cons,bt7,h1,Bool.true_and,bj0] at h2 ⊢
  rw [<- h2]
  congr 1
  simp
theorem aF.self:∀ (n:Nat) {v:V}{x y:PV},aF K M H v x->aF K M' H v y->dY n x y=true->bU n x y=true:=by
 intro n
 induction n with
 | zero=>
  intro v x y r r' o
  cases r with
  | non=>cases r'; rfl
  | bl b=>cases r'; exact bo5 b
  | int i=>cases r'; exact bo5 i
  | str z=>cases r'; exact bo5 z
  | _=>cases o
 | succ n ih=>
  intro v x y r r' o
  cases r with
  | non=>cases r'; rfl
  | bl b=>cases r'; exact bo5 b
  | int i=>cases r'; exact bo5 i
  | str z=>cases r'; exact bo5 z
  | tup h rr=>
   cases r' with
   | tup h' rr'=>rw [h] at h'; cases h'; exact Reps.self_of ih rr rr' o
   | _=>cases o
  | lst _ h rr=>
   cases r' with
   | lst _ h' rr'=>rw [h] at h'; cases h'; exact Reps.self_of ih rr rr' o
   | _=>cases o
  | kt h rr=>
   cases r' with
   | kt h' rr'=>cases lP.inj h h'; exact Reps.self_of ih rr rr' o
   | _=>cases o
  | _=>cases o
theorem Reps.self (n:Nat) {vs:List V}{xs ys:List PV} (r:Reps K M H vs xs) (r':Reps K M' H vs ys) (o:((xs.zip ys).all fun p=>dY n p.1 p.2)=true):(((xs.zip ys).all fun p=>bU n p.1 p.2) && xs.length == ys.length)=true:=Reps.self_of (aF.self n) r r' o
theorem j8 (n:Nat) (xs ys:List PV):(List.range (min xs.length ys.length)).all (fun j=>bU n (xs.getD j .non) (ys.getD j .non))=(xs.zip ys).all fun p=>bU n p.1 p.2:=by
 rw [bp4]
 simp only [bo6,bw2]
 constructor
 ·intro h p hp
  obtain ⟨j,hj,e⟩:=bo1 hp
  have hj':j < min xs.length ys.length:=by simpa using hj
  have:=h j hj'
  rw [List.getElem_zip] at e
  subst e
  have h1:j < xs.length:=by omega
  have h2:j < ys.length:=by omega
  simpa [bh2,h1,h2] using this
 ·intro h j hj
  have h1:j < xs.length:=by omega
  have h2:j < ys.length:=by omega
  have hz:j < (xs.zip ys).length:=by simp; omega
  have:=h _ (bp7 hz)
  rw [List.getElem_zip] at this
  simpa [bh2,h1,h2] using this
theorem aB0 (I:a7 X pins σ H s):∀ (n:Nat) {A:Around}{v w:V}{x y:PV}{a b:Value},A.units+n < cLine->aF X.K M H v x->aF X.K M' H w y->aU v a->aU w b->dY n x y=true->SeqAt.EqAt A s a b (bU n x y):=by
 intro n
 induction n with
 | zero=>
  intro A v w x y a b hu rx ry ra rb o
  cases rx with
  | non=>
   cases ra
   cases ry with
   | non=>cases rb; exact SeqAt.EqAt.same _
   | int i=>obtain ⟨t',rfl⟩:=rb; exact SeqAt.EqAt.none_int _ _
   | _=>cases o
  | bl i=>
   cases ra
   cases ry with
   | bl j=>cases rb; exact SeqAt.EqAt.bool_bool _ _
   | _=>cases o
  | int i=>
   obtain ⟨t,rfl⟩:=ra
   cases ry with
   | int j=>obtain ⟨t',rfl⟩:=rb; exact SeqAt.EqAt.int_int _ _ _ _
   | non=>cases rb; exact SeqAt.EqAt.int_none _ _
   | _=>cases o
  | str i=>
   obtain ⟨t,rfl⟩:=ra
   cases ry with
   | str j=>obtain ⟨t',rfl⟩:=rb; exact SeqAt.EqAt.str_str _ _ _ _
   | _=>cases o
  | _=>cases o
 | succ n ih=>
  intro A v w x y a b hu rx ry ra rb o
  have items:∀ {us ws:List V}{xs ys:List PV}{its its2:List Value},Reps X.K M H us xs->Reps X.K M' H ws ys->aI us its->aI ws its2->((xs.zip ys).all fun p=>dY n p.1 p.2)=true->
    ∀ j (h1:j < its.toArray.size) (h2:j < its2.toArray.size),SeqAt.EqAt A.in1 s its.toArray[j] its2.toArray[j] (bU n (xs.getD j .non) (ys.getD j .non)):=fun {us ws xs ys its its2} r1 r2 v1 v2 ok j h1 h2=>by
   have l1:=v1.length
   have l2:=v2.length
   have m1:=r1.length
   have m2:=r2.length
   have k1:j < its.length:=by simpa using h1
   have k2:j < its2.length:=by simpa using h2
   have j1:j < us.length:=by omega
   have j2:j < ws.length:=by omega
   have i1:j < xs.length:=by omega
   have i2:j < ys.length:=by omega
   obtain ⟨u,hu',ru⟩:=v1.get (bf9 j1)
   obtain ⟨u2,hu2',ru2⟩:=v2.get (bf9 j2)
   obtain ⟨x,hx,rx⟩:=r1.get (bf9 j1)
   obtain ⟨y,hy,ry⟩:=r2.get (bf9 j2)
   have e1:its.toArray[j]=u:=by
    rw [bf9 k1] at hu'
    simpa using hu'
   have e2:its2.toArray[j]=u2:=by
    rw [bf9 k2] at hu2'
    simpa using hu2'
   have ok':dY n x y=true:=by
    rw [bo6] at ok
    have hz:j < (xs.zip ys).length:=by simp; omega
    have:=ok _ (bp7 hz)
    rw [List.getElem_zip] at this
    rw [bf9 i1] at hx
    rw [bf9 i2] at hy
    cases hx; cases hy
    exact this
   rw [e1,e2]
   have g1:xs.getD j .non=x:=by rw [bh2,hx]; rfl
   have g2:ys.getD j .non=y:=by rw [bh2,hy]; rfl
   rw [g1,g2]
   exact ih (by show A.units+1+n < cLine; omega) rx ry ru ru2 ok'
  have huA:A.units < cLine:=by omega
  cases rx with
  | @kt p us xs h1 r1=>
   obtain ⟨its,v1,p1,_⟩:=I.tuple (.inr h1)
   cases (show a=Value.ref p from ra)
   cases ry with
   | @kt p2 ws ys h2 r2=>
    obtain ⟨its2,v2,p2',_⟩:=I.tuple (.inr h2)
    cases (show b=Value.ref p2 from rb)
    by_cases e:p=p2
    ·subst e
     have:=aF.self (K:=X.K) (M:=M) (M':=M') (n+1) (.kt h1 r1) (.kt h2 r2) o
     rw [this]
     exact SeqAt.EqAt.same _
    ·have:=SeqAt.RcAt.tuples p1 p2' huA (items r1 r2 v1 v2 o)
     refine .of_refs e ?_
     have l1:=v1.length
     have l2:=v2.length
     have m1:=r1.length
     have m2:=r2.length
     rw [bg0,bg0,<- l1,<- l2,m1,m2,j8] at this
     exact this
   | _=>cases o
  | @tup p us xs h1 r1=>
   obtain ⟨its,v1,p1,_⟩:=I.tuple (aL.of (K:=X.K) h1)
   cases (show a=Value.ref p from ra)
   cases ry with
   | @tup p2 ws ys h2 r2=>
    obtain ⟨its2,v2,p2',_⟩:=I.tuple (aL.of (K:=X.K) h2)
    cases (show b=Value.ref p2 from rb)
    by_cases e:p=p2
    ·subst e
     have:=aF.self (K:=X.K) (M:=M) (M':=M') (n+1) (.tup h1 r1) (.tup h2 r2) o
     rw [this]
     exact SeqAt.EqAt.same _
    ·have:=SeqAt.RcAt.tuples p1 p2' huA (items r1 r2 v1 v2 o)
     refine .of_refs e ?_
     have l1:=v1.length
     have l2:=v2.length
     have m1:=r1.length
     have m2:=r2.length
     rw [bg0,bg0,<- l1,<- l2,m1,m2,j8] at this
     exact this
   | non=>cases rb; exact SeqAt.EqAt.tuple_none p1 huA
   | _=>cases o
  | @lst p us xs _ h1 r1=>
   obtain ⟨its,v1,p1,_⟩:=I.list (aN.of (K:=X.K) h1)
   cases (show a=Value.ref p from ra)
   cases ry with
   | @lst p2 ws ys _ h2 r2=>
    obtain ⟨its2,v2,p2',_⟩:=I.list (aN.of (K:=X.K) h2)
    cases (show b=Value.ref p2 from rb)
    have l1:=v1.length
    have l2:=v2.length
    have m1:=r1.length
    have m2:=r2.length
    by_cases e:p=p2
    ·subst e
     rw [h1] at h2; cases h2
     have:=Reps.self n r1 r2 o
     show SeqAt.EqAt A s _ _ ((xs.zip ys).all (fun p=>bU n p.1 p.2) && xs.length == ys.length)
     rw [this]
     exact SeqAt.EqAt.same _
    ·refine .of_refs e ?_
     by_cases hl:xs.length=ys.length
     ·have:=SeqAt.RcAt.lists p1.isList p2'.isList (by rw [bg0,bg0]; omega) huA (items r1 r2 v1 v2 o)
      have hm:min xs.length ys.length=its.length:=by omega
      rw [bg0,<- hm,j8] at this
      show SeqAt.RcAt A s _ _ ((xs.zip ys).all (fun p=>bU n p.1 p.2) && xs.length == ys.length)
      rw [show (xs.length == ys.length)=true by simpa using hl,Bool.and_true]
      exact this
     ·have:=SeqAt.RcAt.lists_lengths (A:=A) p1.isList p2'.isList (by rw [bg0,bg0]; simp; omega) huA
      show SeqAt.RcAt A s _ _ ((xs.zip ys).all (fun p=>bU n p.1 p.2) && xs.length == ys.length)
      rw [show (xs.length == ys.length)=false by simpa using hl,bu5]
      exact this
   | _=>cases o
  | non=>
   cases ra
   cases ry with
   | non=>cases rb; exact SeqAt.EqAt.same _
   | int i=>obtain ⟨t',rfl⟩:=rb; exact SeqAt.EqAt.none_int _ _
   | @tup p2 ws ys h2 r2=>
    obtain ⟨its2,v2,p2',_⟩:=I.tuple (aL.of (K:=X.K) h2)
    cases (show b=Value.ref p2 from rb)
    exact SeqAt.EqAt.none_tuple p2' huA
   | _=>cases o
  | bl i=>
   cases ra
   cases ry with
   | bl j=>cases rb; exact SeqAt.EqAt.bool_bool _ _
   | _=>cases o
  | int i=>
   obtain ⟨t,rfl⟩:=ra
   cases ry with
   | int j=>obtain ⟨t',rfl⟩:=rb; exact SeqAt.EqAt.int_int _ _ _ _
   | non=>cases rb; exact SeqAt.EqAt.int_none _ _
   | _=>cases o
  | str i=>
   obtain ⟨t,rfl⟩:=ra
   cases ry with
   | str j=>obtain ⟨t',rfl⟩:=rb; exact SeqAt.EqAt.str_str _ _ _ _
   | _=>cases o
  | _=>cases o
end
structure Bt (mg:Str->Option Value):Prop where
 len:mg "len" = none
 range:mg "range" = none
 tuple:mg "tuple" = none
 list:mg "list" = none
 sorted:mg "sorted" = none
 all:mg "all" = none
 any:mg "any" = none
 zip:mg "zip" = none
 min:mg "min" = none
 max:mg "max" = none
 sum:mg "sum" = none
 isinst:mg "isinstance" = none
 int:mg "int" = none
 bool:mg "bool" = none
 enum:mg "enumerate" = none
section
variable {X : Cx} {a b c e o : Expr} {es cH : List Expr} {ta tb te to tk : aE} {tr : cK} {tA tB' tc : bT} {pos p2 px : Pos} {st : Stmt} {sts : List Stmt} {t u : aK}
theorem eJ (B:Bt X.mg) (ha:QA X [e] tr) (hg:Gl X "len":=by rfl) (he:starEach [e] X.env=(false,eval e X.env) :: starEach [] X.env:=by rfl) (hpl:(backTo pos (starEach [] X.env)).any (·.1)=false:=by rfl):QE X (.Call (.Name "len" p2) [e] [] pos) (aC dD tr):=
 mG (ao3.or aq4) aw7 hg B.len PySem.boot_len ha (he:=he) (hpl:=hpl)
theorem fM (B:Bt X.mg) (ha:QA X [e] tr) (hg:Gl X "tuple":=by rfl) (he:starEach [e] X.env=(false,eval e X.env) :: starEach [] X.env:=by rfl) (hpl:(backTo pos (starEach [] X.env)).any (·.1)=false:=by rfl):QE X (.Call (.Name "tuple" p2) [e] [] pos) (aC dF tr):=
 w9 ao5 aw8 hg B.tuple PyProof.Rows.boot_tuple ha (he:=he) (hpl:=hpl)
theorem kO (B:Bt X.mg) (ha:QA X [e] tr) (hg:Gl X "list":=by rfl) (he:starEach [e] X.env=(false,eval e X.env) :: starEach [] X.env:=by rfl) (hpl:(backTo pos (starEach [] X.env)).any (·.1)=false:=by rfl):QE X (.Call (.Name "list" p2) [e] [] pos) (aC iZ tr):=
 w9 ao4 aw9 hg B.list PyProof.Rows.boot_list ha (he:=he) (hpl:=hpl)
theorem aB1 (B:Bt X.mg) (hc:X.calm=true) (ha:QA X [e] tr) (hg:Gl X "all":=by rfl) (he:starEach [e] X.env=(false,eval e X.env) :: starEach [] X.env:=by rfl) (hpl:(backTo pos (starEach [] X.env)).any (·.1)=false:=by rfl):QE X (.Call (.Name "all" p2) [e] [] pos) (aC vJ tr):=
 mG (v7 hc) ax0 hg B.all PyProof.Rows.boot_all ha (he:=he) (hpl:=hpl)
theorem wA (B:Bt X.mg) (hc:X.calm=true) (ha:QA X [a,b] tr) (hg:Gl X "min":=by rfl) (he:starEach [a,b] X.env=(false,eval a X.env) :: starEach [b] X.env:=by rfl) (hpl:(backTo pos (starEach [b] X.env)).any (·.1)=false:=by rfl):QE X (.Call (.Name "min" p2) [a,b] [] pos) (aC lU tr):=
 mG (al8 hc) ax1 hg B.min PyProof.Rows.boot_min ha (he:=he) (hpl:=hpl)
theorem rD (B:Bt X.mg) (hc:X.calm=true) (ha:QA X [a,b] tr) (hg:Gl X "max":=by rfl) (he:starEach [a,b] X.env=(false,eval a X.env) :: starEach [b] X.env:=by rfl) (hpl:(backTo pos (starEach [b] X.env)).any (·.1)=false:=by rfl):QE X (.Call (.Name "max" p2) [a,b] [] pos) (aC kI tr):=
 mG (al7 hc) ax2 hg B.max PyProof.Rows.boot_max ha (he:=he) (hpl:=hpl)
theorem M4 (ha:QE X a ta):QE X (.UnaryOp .USub a pos) (kK ta):=bQ (ak2 al1 ha) fun σ H Q' h=>by
 obtain ⟨W,ρ,Q,px,q,k⟩:=h
 refine⟨W,ρ,_,px,q,?_⟩
 rintro v H1 x g s r ⟨i,rfl,q⟩
 cases r
 exact⟨i,rfl,k _ _ _ .fr s (.int _) q⟩
theorem M5 (x:Int):∀ (xs:List Int),nX (.int x) (xs.map V.int)=decide (x ∈ xs)
 | []=>by simp [nX]
 | y :: r=>by
  have ih:=M5 x r
  unfold nX at ih ⊢
  rw [bl7,List.any_cons,ih]
  by_cases e:y=x
  ·subst e; simp [gR]
  ·have:gR (.int y) (.int x)=false:=by simpa [gR] using e
   rw [this,Bool.false_or,bp4]
   simp [Ne.symm e]
theorem M6:∀ (xs:List Int),(xs.map V.int).all iR=true
 | []=>rfl
 | _ :: r=>by rw [bl7,bt7,M6 r]; rfl
theorem wB (neg:Bool):eS X (fL neg) (uI X.K neg):=by
 rintro W Hs H u v x y g g' Q Q' s n r1 r2 ⟨i,ns,rfl,e,q⟩ k
 cases r1
 obtain ⟨a,us,rfl,hs,r⟩:=r2.seq e
 obtain rfl:=r.ofInts
 refine⟨a,_,rfl,hs,rfl,M6 ns,?_⟩
 have:=k _ _ _ .fr (aD.refl _) (.bl _) q
 rw [M5]
 cases neg <;> exact this
theorem aB2 (ha:QE X a ta) (hb:QE X b tb) (hm:behindInMarks .In b=false:=by rfl):QE X (.Compare a [.In] [b] pos) (q2 (fL false) ta tb):=kN A3 (wB false) ha hb hm
theorem rE (ha:QE X a ta) (hb:QE X b tb) (hm:behindInMarks .In b=false:=by rfl):QT X (.Compare a [.In] [b] pos) (aR (q2 (fL false) ta tb)):=gH A3 (wB false) ha hb hm
theorem wC (ha:QE X a ta) (hb:QE X b tb) (hm:behindInMarks .NotIn b=false:=by rfl):QT X (.Compare a [.NotIn] [b] pos) (aR (q2 (fL true) ta tb)):=gH ao2 (wB true) ha hb hm
theorem aF.kt_ {K:PySem.W.Frag}{M:Addr->Prop}{H:Hp}{v:V}{xs:List PV} (r:aF K M H v (.kt xs)):∃ a us,v = .ref a/\lP K a us/\Reps K M H us xs:=by
 cases r with
 | kt h r=>exact⟨_,_,rfl,h,r⟩
def M7 (K:PySem.W.Frag) (H:Hp) (x:V) (t:Value):Prop:=fA K H x t ∨ ∃ a us,x = .ref a/\aL K H a us/\t = .type "tuple"
theorem aB3:cS X (.builtin "isinstance") (fun xs H Q=>∃ x t n b,xs = [x,.ty n]/\M7 X.K H x t/\PySem.W.kitOne X.K t (.type n)=some b/\Q (.bl b) H):=by
 intro pins s σ H xs us Q I r h
 obtain ⟨x,t,n,b,rfl,ty,e,q⟩:=h
 rcases ty with ty | ⟨a,ws,rfl,hs,rfl⟩
 ·exact ar8 pins s σ H _ us Q I r ⟨x,t,n,b,rfl,ty,e,q⟩
 obtain ⟨u,u',rfl,ru,ru'⟩:=nR r
 cases ru'
 cases (show u=Value.ref a from ru)
 obtain ⟨its,_,⟨o,h1,h2,_⟩,_⟩:=I.tuple hs
 exact bn3 PySem.W.kitx_tuple I.kIn ⟨o,h1,h2⟩ e (fun z=>nomatch z) fun tk=>⟨.bl b,H,I.tok tk,rfl,q⟩
theorem aB4 {K:PySem.W.Frag}{M:Addr->Prop}{H:Hp}{v:V}{x:PV}{T:String} (r:aF K M H v x) (e:K4 x=some T):M7 K H v (.type T):=by
 cases r with
 | non=>cases e; exact .inl .non
 | bl b=>cases e; exact .inl (.bl b)
 | int i=>cases e; exact .inl (.int i)
 | str i=>cases e; exact .inl (.str i)
 | tup h _=>cases e; exact .inl (.tup h)
 | lst _ h _=>cases e; exact .inl (.lst h)
 | kt h _=>cases e; exact .inr ⟨_,_,rfl,.inr h,rfl⟩
 | _=>cases e
theorem wD {x:Str}{n:String} (B:Bt X.mg) (hn:bootBuiltins x=some (.type n)) (hm:X.mg x=none) (ha:QE X a ta) (hg:Gl X "isinstance":=by rfl) (hgx:Gl X x:=by rfl) (hx:x ≠ "__name__":=by decide) (hdx:(x == ("__debug__" : Str))=false:=by decide)
  (he:starEach [a,.Name x px] X.env=(false,eval a X.env) :: starEach [.Name x px] X.env:=by rfl) (he2:starEach [.Name x px] X.env=(false,eval (.Name x px) X.env) :: starEach [] X.env:=by rfl) (hpl:(backTo pos (starEach [.Name x px] X.env)).any (·.1)=false:=by rfl):QE X (.Call (.Name "isinstance" p2) [a,.Name x px] [] pos) (jQ X.K n ta):=
 bQ (lM aB3 hg B.isinst PyProof.Rows.boot_isinstance (cV ha (cV (ah7 (v:=.ty n) hgx hm hn rfl hx hdx) dM he2) he) (he:=he) (hpl:=hpl)) fun σ H Q' h=>by
  obtain ⟨W,ρ,Q,px,q,k⟩:=h
  refine⟨W,ρ,_,px,q,?_⟩
  rintro v H1 x g s r ⟨T,b,e,kt,q⟩
  exact⟨v,_,n,b,rfl,aB4 r e,kt,k _ _ _ .fr s (.bl _) q⟩
theorem aB5 (B:Bt X.mg) (ha:QE X a ta) (hg:Gl X "isinstance":=by rfl) (hgx:Gl X "int":=by rfl)
  (he:starEach [a,.Name "int" px] X.env=(false,eval a X.env) :: starEach [.Name "int" px] X.env:=by rfl) (he2:starEach [.Name "int" px] X.env=(false,eval (.Name "int" px) X.env) :: starEach [] X.env:=by rfl) (hpl:(backTo pos (starEach [.Name "int" px] X.env)).any (·.1)=false:=by rfl):QE X (.Call (.Name "isinstance" p2) [a,.Name "int" px] [] pos) (jQ X.K "int" ta):=wD B PyProof.Rows.boot_int B.int ha (hg:=hg) (hgx:=hgx) (he:=he) (he2:=he2) (hpl:=hpl)
theorem M8 (B:Bt X.mg) (ha:QE X a ta) (hg:Gl X "isinstance":=by rfl) (hgx:Gl X "bool":=by rfl)
  (he:starEach [a,.Name "bool" px] X.env=(false,eval a X.env) :: starEach [.Name "bool" px] X.env:=by rfl) (he2:starEach [.Name "bool" px] X.env=(false,eval (.Name "bool" px) X.env) :: starEach [] X.env:=by rfl) (hpl:(backTo pos (starEach [.Name "bool" px] X.env)).any (·.1)=false:=by rfl):QE X (.Call (.Name "isinstance" p2) [a,.Name "bool" px] [] pos) (jQ X.K "bool" ta):=wD B PyProof.Rows.boot_bool B.bool ha (hg:=hg) (hgx:=hgx) (he:=he) (he2:=he2) (hpl:=hpl)
theorem aB6 (B:Bt X.mg) (ha:QE X a ta) (hg:Gl X "isinstance":=by rfl) (hgx:Gl X "tuple":=by rfl)
  (he:starEach [a,.Name "tuple" px] X.env=(false,eval a X.env) :: starEach [.Name "tuple" px] X.env:=by rfl) (he2:starEach [.Name "tuple" px] X.env=(false,eval (.Name "tuple" px) X.env) :: starEach [] X.env:=by rfl) (hpl:(backTo pos (starEach [.Name "tuple" px] X.env)).any (·.1)=false:=by rfl):QE X (.Call (.Name "isinstance" p2) [a,.Name "tuple" px] [] pos) (jQ X.K "tuple" ta):=wD B PyProof.Rows.boot_tuple B.tuple ha (hg:=hg) (hgx:=hgx) (he:=he) (he2:=he2) (hpl:=hpl)
def oO (K:PySem.W.Frag) (n:Nat) (neg:Bool):R2:=fun v w H Q=>∃ x y,aF K (fun _=>True) H v x/\aF K (fun _=>True) H w y/\((∃ xs ys,x = .tup xs/\y = .tup ys) ∨ (∃ xs ys,x = .lst xs/\y = .lst ys) ∨ (∃ xs ys,x = .kt xs/\y = .kt ys))/\dY (n+1) x y=true/\Q (.bl (if neg=true then !bU (n+1) x y else bU (n+1) x y)) H
theorem mH {pins:List (Addr × Obj)}{σ:St}{H:Hp}{s:Shared}{M M':Addr->Prop} (I:a7 X pins σ H s) {n:Nat}{A:Around} (hu:A.units+(n+1) < cLine) {us ws:List V}{xs ys:List PV}{its its2:List Value} (r1:Reps X.K M H us xs) (r2:Reps X.K M' H ws ys) (v1:aI us its) (v2:aI ws its2)
  (ok:((xs.zip ys).all fun p=>dY n p.1 p.2)=true):∀ j (h1:j < its.toArray.size) (h2:j < its2.toArray.size),SeqAt.EqAt A.in1 s its.toArray[j] its2.toArray[j] (bU n (xs.getD j .non) (ys.getD j .non)):=by
 intro j h1 h2
 have l1:=v1.length
 have l2:=v2.length
 have m1:=r1.length
 have m2:=r2.length
 have k1:j < its.length:=by simpa using h1
 have k2:j < its2.length:=by simpa using h2
 have j1:j < us.length:=by omega
 have j2:j < ws.length:=by omega
 have i1:j < xs.length:=by omega
 have i2:j < ys.length:=by omega
 obtain ⟨u,hu',ru⟩:=v1.get (bf9 j1)
 obtain ⟨u2,hu2',ru2⟩:=v2.get (bf9 j2)
 obtain ⟨x,hx,rx⟩:=r1.get (bf9 j1)
 obtain ⟨y,hy,ry⟩:=r2.get (bf9 j2)
 have e1:its.toArray[j]=u:=by
  rw [bf9 k1] at hu'
  simpa using hu'
 have e2:its2.toArray[j]=u2:=by
  rw [bf9 k2] at hu2'
  simpa using hu2'
 have ok':dY n x y=true:=by
  rw [bo6] at ok
  have hz:j < (xs.zip ys).length:=by simp; omega
  have:=ok _ (bp7 hz)
  rw [List.getElem_zip] at this
  rw [bf9 i1] at hx
  rw [bf9 i2] at hy
  cases hx; cases hy
  exact this
 rw [e1,e2]
 have g1:xs.getD j .non=x:=by rw [bh2,hx]; rfl
 have g2:ys.getD j .non=y:=by rw [bh2,hy]; rfl
 rw [g1,g2]
 exact aB0 I n (by show A.units+1+n < cLine; omega) rx ry ru ru2 ok'
theorem M9 (n:Nat) (hu:X.A.units+(n+1) < cLine):cD X (compareOp .Eq) (oO X.K n false):=by
 intro pins s σ H v w a b Q I ra rb h
 obtain ⟨x,y,rx,ry,kd,o,q⟩:=h
 have hu0:X.A.units < cLine:=by omega
 rcases kd with ⟨xs,ys,rfl,rfl⟩ | ⟨xs,ys,rfl,rfl⟩ | ⟨xs,ys,rfl,rfl⟩
 ·obtain ⟨p,us,rfl,h1,r1⟩:=rx.sqT
  obtain ⟨p2,ws,rfl,h2,r2⟩:=ry.sqT
  cases ra; cases rb
  obtain ⟨its,v1,p1,_⟩:=I.tuple (aL.of (K:=X.K) h1)
  obtain ⟨its2,v2,p2',_⟩:=I.tuple (aL.of (K:=X.K) h2)
  have l1:=v1.length
  have l2:=v2.length
  have m1:=r1.length
  have m2:=r2.length
  have:=SeqAt.RcAt.tuples p1 p2' hu0 (mH I hu r1 r2 v1 v2 o)
  rw [bg0,bg0,<- l1,<- l2,m1,m2,j8] at this
  exact this _ _ _ _ ⟨.bl _,H,I,rfl,q⟩
 ·obtain ⟨p,us,rfl,_,h1,r1⟩:=rx.sqL
  obtain ⟨p2,ws,rfl,_,h2,r2⟩:=ry.sqL
  cases ra; cases rb
  obtain ⟨its,v1,p1,_⟩:=I.list (aN.of (K:=X.K) h1)
  obtain ⟨its2,v2,p2',_⟩:=I.list (aN.of (K:=X.K) h2)
  have l1:=v1.length
  have l2:=v2.length
  have m1:=r1.length
  have m2:=r2.length
  have q:Q (.bl ((xs.zip ys).all (fun p=>bU n p.1 p.2) && xs.length == ys.length)) H:=q
  by_cases hl:xs.length=ys.length
  ·have:=SeqAt.RcAt.lists p1.isList p2'.isList (by rw [bg0,bg0]; omega) hu0 (mH I hu r1 r2 v1 v2 o)
   have hm:min xs.length ys.length=its.length:=by omega
   rw [bg0,<- hm,j8] at this
   rw [show (xs.length == ys.length)=true by simpa using hl,Bool.and_true] at q
   exact this _ _ _ _ ⟨.bl _,H,I,rfl,q⟩
  ·have:=SeqAt.RcAt.lists_lengths (A:=X.A) p1.isList p2'.isList (by rw [bg0,bg0]; simp; omega) hu0
   rw [show (xs.length == ys.length)=false by simpa using hl,bu5] at q
   exact this _ _ _ _ ⟨.bl _,H,I,rfl,q⟩
 ·obtain ⟨p,us,rfl,h1,r1⟩:=rx.kt_
  obtain ⟨p2,ws,rfl,h2,r2⟩:=ry.kt_
  cases ra; cases rb
  obtain ⟨its,v1,p1,_⟩:=I.tuple (.inr h1)
  obtain ⟨its2,v2,p2',_⟩:=I.tuple (.inr h2)
  have l1:=v1.length
  have l2:=v2.length
  have m1:=r1.length
  have m2:=r2.length
  have:=SeqAt.RcAt.tuples p1 p2' hu0 (mH I hu r1 r2 v1 v2 o)
  rw [bg0,bg0,<- l1,<- l2,m1,m2,j8] at this
  exact this _ _ _ _ ⟨.bl _,H,I,rfl,q⟩
theorem N0 (n:Nat) (hu:X.A.units+(n+1) < cLine):cD X (compareOp .NotEq) (oO X.K n true):=by
 intro pins s σ H v w a b Q I ra rb h
 obtain ⟨x,y,rx,ry,kd,o,q⟩:=h
 have hu0:X.A.units < cLine:=by omega
 rcases kd with ⟨xs,ys,rfl,rfl⟩ | ⟨xs,ys,rfl,rfl⟩ | ⟨xs,ys,rfl,rfl⟩
 ·obtain ⟨p,us,rfl,h1,r1⟩:=rx.sqT
  obtain ⟨p2,ws,rfl,h2,r2⟩:=ry.sqT
  cases ra; cases rb
  obtain ⟨its,v1,p1,_⟩:=I.tuple (aL.of (K:=X.K) h1)
  obtain ⟨its2,v2,p2',_⟩:=I.tuple (aL.of (K:=X.K) h2)
  have l1:=v1.length
  have l2:=v2.length
  have m1:=r1.length
  have m2:=r2.length
  have:=SeqAt.RcNeAt.tuples p1 p2' hu0 (mH I hu r1 r2 v1 v2 o)
  rw [bg0,bg0,<- l1,<- l2,m1,m2,j8] at this
  exact this _ _ _ _ ⟨.bl _,H,I,rfl,q⟩
 ·obtain ⟨p,us,rfl,_,h1,r1⟩:=rx.sqL
  obtain ⟨p2,ws,rfl,_,h2,r2⟩:=ry.sqL
  cases ra; cases rb
  obtain ⟨its,v1,p1,_⟩:=I.list (aN.of (K:=X.K) h1)
  obtain ⟨its2,v2,p2',_⟩:=I.list (aN.of (K:=X.K) h2)
  have l1:=v1.length
  have l2:=v2.length
  have m1:=r1.length
  have m2:=r2.length
  have q:Q (.bl (!((xs.zip ys).all (fun p=>bU n p.1 p.2) && xs.length == ys.length))) H:=q
  by_cases hl:xs.length=ys.length
  ·have:=SeqAt.RcNeAt.lists p1.isList p2'.isList (by rw [bg0,bg0]; omega) hu0 (mH I hu r1 r2 v1 v2 o)
   have hm:min xs.length ys.length=its.length:=by omega
   rw [bg0,<- hm,j8] at this
   rw [show (xs.length == ys.length)=true by simpa using hl,Bool.and_true] at q
   exact this _ _ _ _ ⟨.bl _,H,I,rfl,q⟩
  ·have:=SeqAt.RcNeAt.lists_lengths (A:=X.A) p1.isList p2'.isList (by rw [bg0,bg0]; simp; omega) hu0
   rw [show (xs.length == ys.length)=false by simpa using hl,bu5] at q
   exact this _ _ _ _ ⟨.bl _,H,I,rfl,q⟩
 ·obtain ⟨p,us,rfl,h1,r1⟩:=rx.kt_
  obtain ⟨p2,ws,rfl,h2,r2⟩:=ry.kt_
  cases ra; cases rb
  obtain ⟨its,v1,p1,_⟩:=I.tuple (.inr h1)
  obtain ⟨its2,v2,p2',_⟩:=I.tuple (.inr h2)
  have l1:=v1.length
  have l2:=v2.length
  have m1:=r1.length
  have m2:=r2.length
  have:=SeqAt.RcNeAt.tuples p1 p2' hu0 (mH I hu r1 r2 v1 v2 o)
  rw [bg0,bg0,<- l1,<- l2,m1,m2,j8] at this
  exact this _ _ _ _ ⟨.bl _,H,I,rfl,q⟩
theorem rF {n:Nat}{neg:Bool}:eS X (iD n neg) (oO X.K n neg):=by
 rintro W Hs H u v x y g g' Q Q' s n r1 r2 ⟨kd,o,q⟩ k
 exact⟨x,y,r1.same (aD.refl _) fun _ _=>trivial,r2.same (aD.refl _) fun _ _=>trivial,kd.elim .inl fun z=>.inr (.inl z),o,k _ _ _ .fr (aD.refl _) (.bl _) q⟩
theorem aB7 (hu:X.A.units+3 < cLine) (ha:QE X a ta) (hb:QE X b tb):QT X (.Compare a [.Eq] [b] pos) (aR (q2 (iD 2 false) ta tb)):=gH (M9 2 hu) rF ha hb (dL _)
theorem N1 (hu:X.A.units+3 < cLine) (ha:QE X a ta) (hb:QE X b tb):QT X (.Compare a [.NotEq] [b] pos) (aR (q2 (iD 2 true) ta tb)):=gH (N0 2 hu) rF ha hb (dL _)
theorem N2 (hu:X.A.units+3 < cLine) (ha:QE X a ta) (hb:QE X b tb):QE X (.Compare a [.Eq] [b] pos) (q2 (iD 2 false) ta tb):=kN (M9 2 hu) rF ha hb (dL _)
end
end PP
namespace PP
open PySem L2 PyProof.Rows
def LO (X:Cx) (t:m6):TO:=fun σ H Q'=>∃ (W:Addr->Prop) (ρ:bG) (Q:Option Int->Prop),PX X.K X.H₀ W σ ρ H/\t ρ Q/\∀ o H',aD H H'->Q o->Q' o H'
def QO (X:Cx) (e:Option Expr) (t:m6):Prop:=PO X e (LO X t)
theorem Reps.cut {K:PySem.W.Frag}{M:Addr->Prop}{H:Hp}{us:List V}{xs:List PV} (r:Reps K M H us xs) (lo hi:Option Int):Reps K M H (dW us lo hi) (iE xs lo hi):=by
 unfold dW iE
 rw [r.length]
 exact (r.drop _).take _
section
variable {X : Cx} {a b c e o : Expr} {es cH : List Expr} {ta tb te to tk : aE} {tr : cK} {tA tB' tc : bT} {pos p2 px : Pos} {st : Stmt} {sts : List Stmt} {t u : aK}
theorem N3:QO X none vT:=fun pins s σ H Q I h=>uB pins s σ H Q I (by
 obtain ⟨W,ρ,Q1,px,q,k⟩:=h
 exact k _ _ (aD.refl _) q)
theorem N4 (h:QE X e te):QO X (some e) (vU te):=fun pins s σ H Q I hq=>uC h pins s σ H Q I (by
 obtain ⟨W,ρ,Q1,px,q,k⟩:=hq
 refine⟨W,ρ,_,px,q,?_⟩
 rintro v H1 x g s r ⟨i,rfl,q⟩
 cases r
 exact⟨i,rfl,k _ _ s q⟩)
theorem N5 {lo hi:Option Expr}{tl th:m6}{sp:Pos} (he:QE X e te) (hl:QO X lo tl) (hh:QO X hi th):QE X (.Subscript e (.Slice lo hi none sp) pos) (vV te tl th):=bQ (uD (A1.or F4) he hl hh) fun σ H Q' h=>by
 obtain ⟨W,ρ,Q,px,q,k⟩:=h
 refine⟨W,ρ,_,px,q,fun v H1 x g s1 r1 q1=>⟨W,ρ,_,px.mono s1,q1,fun lo H2 s2 q2=>⟨W,ρ,_,px.mono (s1.trans s2),q2,?_⟩⟩⟩
 rintro hi H3 s3 ⟨xs,e,f,q3⟩
 have S:=(s1.trans s2).trans s3
 have r3:=r1.same (M':=Mg X.H₀ W H g) (s2.trans s3) fun _ z=>z
 cases r3 with
 | tup h r=>
  cases e
  refine .inr ⟨_,_,rfl,aL.of h,fun p hp=>k _ _ _ .fr (S.trans (bE hp _)) (.tup b8 (((r.flat f).cut lo hi).same (bE hp _) fun _ z=>z)) q3,fun ec=>k _ _ _ .fr S (.tup h ?_) q3⟩
  have:=(r.flat (M':=Mg X.H₀ W H .fr) f).cut lo hi
  rw [ec] at this
  exact this
 | lst m h r=>
  cases e
  exact .inl ⟨_,_,rfl,aN.of h,fun p hp=>k _ _ _ .fr (S.trans (bE hp _)) (.lst (S.free hp) b8 (((r.flat f).cut lo hi).same (bE hp _) fun _ z=>z)) q3⟩
 | scr h=>
  cases e
  exact .inl ⟨_,_,rfl,h.sqL,fun p hp=>k _ _ _ .fr (S.trans (bE hp _)) (.lst (S.free hp) b8 (((Reps.intz _).cut lo hi).same (bE hp _) fun _ z=>z)) q3⟩
 | _=>cases e
structure Df (P:Program) (w:World) (K:PySem.W.Frag) (mg:Str->Option Value) (base:Heap) (k:Nat) (x:Str) (ps:List Str) (p:bC):Prop where
 ex:∃ f fd,cT P w K mg base cZ k f fd ps (oD K p)/\gQ K fd ps []/\PySem.W.keepIn K (.ref f)=true/\mg x=some (.ref f)
theorem b6 {k j:Nat}{x:Str}{ps:List Str}{p:bC} (d:Df X.prog X.w X.K X.mg X.base k x ps p) (hr:bS j X.A) (ha:QA X (e :: es) tr) (hkj:k<=j:=by decide) (hg:Gl X x:=by rfl) (hdb:(x == ("__debug__" : Str))=false:=by decide)
  (he:starEach (e :: es) X.env=(false,eval e X.env) :: starEach es X.env:=by rfl) (hpl:(backTo pos (starEach es X.env)).any (·.1)=false:=by rfl):QE X (.Call (.Name x p2) (e :: es) [] pos) (aC p tr):=by
 obtain ⟨f,fd,F,b,kp,m⟩:=d.ex
 exact bQ (pN F (hr.mono hkj) hg m kp b .nil C3 ha hdb he hpl) fun _ _ _=>ax3
theorem rG {K:PySem.W.Frag}{H:Hp}{N:List Str}{vs:List V}{xs:List PV} (r:Reps K (fun _=>True) H vs xs):PX K H (fun _=>False) (L2.fW N vs) (eF N xs) H:=by
 have lr:=r.length
 have own:∀ {i:Nat}{m:Slot},(eF N xs)[i]? = some (some m)->∃ x,xs[i]? = some x/\m = .sh (flat x) x:=fun {i m} h=>by
  unfold eF at h
  by_cases hi:i < xs.length
  ·rw [br7 (by simpa using hi),bh1] at h
   rw [bf9 hi] at h ⊢
   cases h
   exact⟨_,rfl,rfl⟩
  ·rw [bu3 (by simpa using hi),List.getElem?_replicate] at h
   split at h <;> cases h
 refine⟨by unfold L2.fW eF; simp [lr],aD.refl _,fun a z=>z.elim,fun i m h=>?_,fun i j x y a h1=>?_⟩
 ·obtain ⟨x,hx,rfl⟩:=own h
  obtain ⟨v,hv,rx⟩:=r.at hx
  refine⟨v,?_,qY (g:=false) (rx.same (aD.refl _) fun _ _ z=>z)⟩
  have hi:i < vs.length:=(bh4.mp hv).1
  unfold L2.fW
  rw [br7 (by simpa using hi),bh1,hv]; rfl
 ·obtain ⟨x,_,e⟩:=own h1
  cases e
theorem Df.of {P:Program}{w:World}{K:PySem.W.Frag}{mg:Str->Option Value}{base:Heap}{k:Nat}{x:Str}{ps N:List Str}{p:bC}{st:Stmt}{f:Addr}{fd:FuncData} (F:eC K x x st f fd) (m:mg x=some (.ref f)) (S:FnScope N ps (aQ st))
  (hb:∀ (kV doc pm:Value) (an:Option Addr) (cdv ct:Value) (us:List Value),us.length=ps.length->bindArgs (PySem.W.fnOf x x (iA st) (dN st) (aQ st) .none kV doc pm an cdv ct) ⟨us,[]⟩=pure (ps.zip us))
  (len:∀ xs Q,p xs Q->xs.length=ps.length)
  (body:∀ (cdv:Value) (A:Around) (outer:List Env) (s:Shared) (H:Hp) (E:XK),bS k (A.deeper (envOfC x (aQ st) s.heap.objs.size f cdv))->
   ∃ t,eG (cW cZ P w K mg base N x (aQ st) f cdv A outer s H E).nox (dN st) t/\∀ xs Q,p xs Q->t { nx:=fun _=>Q .non,rt:=Q } (eF N xs)):Df P w K mg base (k+1) x ps p:=by
 refine⟨f,fd,F.ok S (fun vs H Q E h=>?_) (fun cdv A outer s H vs Q E hr h=>?_),F.binds hb,F.kp,m⟩
 ·obtain ⟨xs,Qp,r,q,_⟩:=h
  rw [r.length]; exact len xs Qp q
 ·obtain ⟨xs,Qp,r,q,k⟩:=h
  obtain ⟨t,ht,hq⟩:=body cdv A outer s H E hr
  refine⟨_,ht,fun _=>False,eF N xs,_,rG r,hq xs Qp q,?_,?_,?_,?_⟩
  ·exact fun W' σ' H' ρ' e px q=>k _ _ _ px.same .non q
  ·exact fun v H' x s r q=>k _ _ _ s r q
  ·exact fun W' σ' H' ρ' e px q=>q
  ·exact fun W' σ' H' ρ' e px q=>q
theorem j9 (i:Nat) {x:Str}{tp:Pos}{body:List Stmt}{ti:eD} (hN:X.N.Nodup) (hi:QI X (.Name x tp) e ti) (hb:eG X body t) (hx:X.N[i]? = some x:=by rfl) (hl:gN X.env.scope x:=by first | exact Or.inl rfl | exact Or.inr rfl) (hf:X.fn x=true ∨ X.env.scope.names.lookup x=some .local:=by first | exact .inl rfl | exact .inr rfl)
  (hp:PassesOwn (model X.prog X.w) X.A X.env X.xe:=by exact PassesOwn.never) (hc:X.calm=true:=by rfl) (hs:∀ x,foldedSetIterable e X.env x=pure x:=by intro _; rfl):QS X (.For (.Name x tp) e body [] pos) (fC ti (bI i) t):=
 M3 hp hc hi (eB hN hx hl hf) (lZ _ i) hb hs
theorem aB8 (i j:Nat) {x y:Str}{tp xp yp:Pos}{kt:Nat}{body:List Stmt}{ti:eD} (hN:X.N.Nodup) (hi:QI X (.Tuple [.Name x xp,.Name y yp] kt tp) e ti) (hb:eG X body t) (hx:X.N[i]? = some x:=by rfl) (hy:X.N[j]? = some y:=by rfl) (hlx:gN X.env.scope x:=by first | exact Or.inl rfl | exact Or.inr rfl) (hly:gN X.env.scope y:=by first | exact Or.inl rfl | exact Or.inr rfl)
  (hfx:X.fn x=true ∨ X.env.scope.names.lookup x=some .local:=by first | exact .inl rfl | exact .inr rfl) (hfy:X.fn y=true ∨ X.env.scope.names.lookup y=some .local:=by first | exact .inl rfl | exact .inr rfl)
  (hp:PassesOwn (model X.prog X.w) X.A X.env X.xe:=by exact PassesOwn.never) (hc:X.calm=true:=by rfl) (hs:∀ x,foldedSetIterable e X.env x=pure x:=by intro _; rfl):QS X (.For (.Tuple [.Name x xp,.Name y yp] kt tp) e body [] pos) (fC ti (oF i j) t):=
 M3 hp hc hi (lH hc (fT (eB hN hx hlx hfx) (fT (eB hN hy hly hfy) lG))) (J6 _ i j) hb hs
abbrev bV:Value->Shared->Prop:=fun _ _=>False
section
variable {scope : Scope} {N : List Str} {fr : List (Option Nat)} {x y : Str} {tp xp yp : Pos} {kt : Nat} {iter elt : Expr} {ti : eD}
theorem rH {ifs:List Expr}{tcs:bT} (he:∀ (s:Shared) (H:Hp) (C:Addr) (fp:List Addr),QE (bD X scope N s H C fp bV) elt te) (hi:∀ (s:Shared) (H:Hp) (C:Addr) (fp:List Addr),iT (bD X scope N s H C fp bV) ifs (LT (bD X scope N s H C fp bV) tcs))
  (hN:N.Nodup) (h0:N[0]? = some x) (hl:∀ (s:Shared) (H:Hp) (C:Addr) (fp:List Addr),(bD X scope N s H C fp bV).env.scope.names.lookup x=some .local) (s:Shared) (H:Hp) :
  kG X scope N (.Name x tp) ifs elt s H (cF 0) (LT (X.frm H) tcs) (LE (X.frm H) te):=
 ⟨fun C fp=>eB (X:=bD X scope N s H C fp bV) hN h0 (.inl (hl s H C fp)) (.inr (hl s H C fp)),fun C fp=>hi s H C fp,fun C fp=>he s H C fp⟩
theorem wE {Y:Cx}:iT Y [] (LT Y eV):=fun pins s σ H Q I h=>qD pins s σ H Q I (ay1 h)
theorem rJ (hi:QI X (.Name x tp) iter ti) (he:∀ (s:Shared) (H:Hp) (C:Addr) (fp:List Addr),QE (bD X scope N s H C fp bV) elt te)
  (hc:X.calm=true:=by rfl) (S:cO X scope N fr:=by exact cO.of rfl rfl) (hN:N.Nodup:=by decide +kernel) (h0:N[0]? = some x:=by rfl) (hl:∀ (s:Shared) (H:Hp) (C:Addr) (fp:List Addr),(bD X scope N s H C fp bV).env.scope.names.lookup x=some .local:=by intro _ _ _ _; rfl) (hf:fr[0]? = some none:=by rfl)
  (hs:∀ x,foldedSetIterable iter X.env x=pure x:=by intro _; rfl):QE X (.ListComp elt [⟨.Name x tp,iter,[],0⟩] scope pos) (cP ti fr (bI 0) eV te):=
 bQ (qH (gh:=fun _=>cF 0) (tch:=fun H=>LT (X.frm H) eV) (teh:=fun H=>LE (X.frm H) te) hc S hi (rH he (fun _ _ _ _=>wE) hN h0 hl) hs) fun _ _ _=>oG (lZ _ 0) (fun i e=>by subst e; exact hf)
theorem gY {c:Expr}{tcs:bT} (hi:QI X (.Name x tp) iter ti) (ht:∀ (s:Shared) (H:Hp) (C:Addr) (fp:List Addr),QT (bD X scope N s H C fp bV) c tcs) (he:∀ (s:Shared) (H:Hp) (C:Addr) (fp:List Addr),QE (bD X scope N s H C fp bV) elt te)
  (hc:X.calm=true:=by rfl) (S:cO X scope N fr:=by exact cO.of rfl rfl) (hN:N.Nodup:=by decide +kernel) (h0:N[0]? = some x:=by rfl) (hl:∀ (s:Shared) (H:Hp) (C:Addr) (fp:List Addr),(bD X scope N s H C fp bV).env.scope.names.lookup x=some .local:=by intro _ _ _ _; rfl) (hf:fr[0]? = some none:=by rfl)
  (hs:∀ x,foldedSetIterable iter X.env x=pure x:=by intro _; rfl):QE X (.ListComp elt [⟨.Name x tp,iter,[c],0⟩] scope pos) (cP ti fr (bI 0) tcs te):=
 bQ (qH (gh:=fun _=>cF 0) (tch:=fun H=>LT (X.frm H) tcs) (teh:=fun H=>LE (X.frm H) te) hc S hi (rH he (fun s H C fp=>uV (ht s H C fp)) hN h0 hl) hs) fun _ _ _=>oG (lZ _ 0) (fun i e=>by subst e; exact hf)
theorem aB9 {i:Nat}{z:Str}{zp:Pos} (nd:X.N.Nodup) (hi:QI X (.Name x tp) iter ti) (he:∀ (s:Shared) (H:Hp) (C:Addr) (fp:List Addr),QE (bD X scope N s H C fp bV) elt te)
  (hz:X.N[i]? = some z:=by rfl) (hzl:X.env.scope.names.lookup z=some .local:=by rfl) (hsw:swapsWith (.ListComp elt [⟨.Name x tp,iter,[],0⟩] scope p2) (some (.Name z zp)) pos.line X.env=pure true:=by rfl)
  (hc:X.calm=true:=by rfl) (S:cO X scope N fr:=by exact cO.of rfl rfl) (hN:N.Nodup:=by decide +kernel) (h0:N[0]? = some x:=by rfl) (hl:∀ (s:Shared) (H:Hp) (C:Addr) (fp:List Addr),(bD X scope N s H C fp bV).env.scope.names.lookup x=some .local:=by intro _ _ _ _; rfl) (hf:fr[0]? = some none:=by rfl)
  (hs:∀ x,foldedSetIterable iter X.env x=pure x:=by intro _; rfl):QS X (.Assign [.Name z zp] (.ListComp elt [⟨.Name x tp,iter,[],0⟩] scope p2) pos) (gD i (cP ti fr (bI 0) eV te)):=
 dC (C7 (gh:=fun _=>cF 0) (tch:=fun H=>LT (X.frm H) eV) (teh:=fun H=>LE (X.frm H) te) hc S hi (rH he (fun _ _ _ _=>wE) hN h0 hl) nd hz hzl hsw hs) fun D σ H h=>oG (lZ _ 0) (fun i e=>by subst e; exact hf) (G7 h)
end
theorem aC0 (i:Nat) {x:Str}{apos cpos xpos:Pos} (he:QE X e te) (hm:M1 X (.Name x xpos) "update" apos e cpos:=by exact⟨rfl,rfl,rfl,rfl⟩) (hN:X.N[i]? = some x:=by rfl) (hv:eM X.env.scope x:=by first | exact Or.inl rfl | exact Or.inr (Or.inl rfl) | exact Or.inr (Or.inr rfl)) (hd:(x == ("__debug__" : Str))=false:=by decide) (hcd:(x == ("__classdict__" : Str))=false:=by decide)
  (hsw:swapsWith (.Call (.Attribute (.Name x xpos) "update" apos) [e] [] cpos) none pos.line X.env=pure false:=by rfl):QS X (.Expr (.Call (.Attribute (.Name x xpos) "update" apos) [e] [] cpos) pos) (vP i te):=
 dC (kA (au0 (fS hN hv hd hcd) he hm) hsw) fun _ _ _=>ay8
theorem aC1 {i:Nat}{x:Str}{xpos tpos:Pos} (hk:QE X a tk) (he:QE X e te) (hN:X.N[i]? = some x:=by rfl) (hv:eM X.env.scope x:=by first | exact Or.inl rfl | exact Or.inr (Or.inl rfl) | exact Or.inr (Or.inr rfl)) (hd:(x == ("__debug__" : Str))=false:=by decide) (hcd:(x == ("__classdict__" : Str))=false:=by decide)
  (hp:∀ (tx:TE) (tg:TE),PE X (.Name x xpos) tx->PE X a tg->PG X (.Subscript (.Name x xpos) a tpos) (tS tx tg uH):=by intro _ _ h1 h2; exact aj1 h1 h2 an7)
  (hs:swapsWithSole [.Subscript (.Name x xpos) a tpos] e pos.line X.env=pure false:=by rfl) (hw:swappedStores [.Subscript (.Name x xpos) a tpos] e X.env=pure none:=by rfl) :
  QS X (.Assign [.Subscript (.Name x xpos) a tpos] e pos) (vG i tk te):=dC (yI he (hp _ _ (fS hN hv hd hcd) hk) hs hw) fun _ _ _=>aw5
end
end PP
namespace SO
open PySem PyProof.Rows
section
variable (rk : Keyed → Int)
def Kr (xs:Array Keyed) (i:Nat):Int:=((xs[i]?).map rk).getD 0
def Up (xs:Array Keyed) (lo hi:Nat):Prop:=∀ i j,lo<=i->i<=j->j < hi->Kr rk xs i<=Kr rk xs j
def Dn (xs:Array Keyed) (lo hi:Nat):Prop:=∀ i j,lo<=i->i<=j->j < hi->Kr rk xs j<=Kr rk xs i
end
variable {rk : Keyed → Int}
theorem kQ {xs ys:Array Keyed}{i j:Nat} (h:xs[i]? = ys[j]?):Kr rk xs i=Kr rk ys j:=by unfold Kr; rw [h]
theorem rK {xs:Array Keyed}{i j:Nat} (hj:j<=xs.size) (k:Nat):Kr rk (mirror xs i j ((j - i) / 2)) k=Kr rk xs (if i<=k/\k < j then i+j - 1 - k else k):=by
 refine kQ ?_
 rw [getElem?_mirror_all hj]
 split <;> rfl
theorem wF {xs:Array Keyed}{i j:Nat} (hj:j<=xs.size) (e:∀ k,i<=k->k < j->Kr rk xs k=Kr rk xs (j - 1)) (k:Nat):Kr rk (mirror xs i j ((j - i) / 2)) k=Kr rk xs k:=by
 rw [rK hj]
 split
 ·rename_i h; rw [e k h.1 h.2,e _ (by omega) (by omega)]
 ·rfl
theorem aC2 {xs:Array Keyed}{src d:Nat} (hs:src < xs.size) (hd:d<=src) (k:Nat):Kr rk (bubble xs src d) k=Kr rk xs (if k=src - d then src else if src - d < k/\k<=src then k - 1 else k):=by
 refine kQ ?_
 rw [getElem?_bubble hs d hd]
 repeat' split
 all_goals rfl
structure SB (κ:SortKind) (a0:Array Keyed) (pd:Array (Nat × Nat × Nat)) (st:SortSt):Prop where
 pm:(arrOf st).Perm a0
 kd:kindOf st=κ
 ok:failedOf st=none
 pd:pendingOf st=pd
section
variable {κ : SortKind} {a0 : Array Keyed} {pd : Array (Nat × Nat × Nat)} {st : SortSt} {prog : Program} {w : World} {A : Around} {E : Value → Shared → Prop} {s : Shared} {Ok : Keyed → Prop}
theorem SB.sz (h:SB κ a0 pd st):(arrOf st).size=a0.size:=h.pm.size_eq
theorem SB.put (h:SB κ a0 pd st) {xs:Array Keyed} (hp:xs.Perm (arrOf st)):SB κ a0 pd (setArr st xs):=⟨hp.trans h.pm,h.kd,h.ok,h.pd⟩
def cM (prog:Program) (w:World) (A:Around) (E:Value->Shared->Prop) (s:Shared) (κ:SortKind) (Ok:Keyed->Prop) (rk:Keyed->Int):Prop:=
 ∀ (x y:Keyed),Ok x->Ok y->∀ (st:SortSt) (Q:Option Bool->SortSt->Prop),kindOf st=κ->Q (some (decide (rk x < rk y))) st->wpS (model prog w) A E s (lt' x y) Q st
def bK (Ok:Keyed->Prop) (xs:Array Keyed):Prop:=∀ x ∈ xs,Ok x
theorem SB.all (h:SB κ a0 pd st) (o:bK Ok a0):bK Ok (arrOf st):=fun x hx=>o x (h.pm.mem_iff.mp hx)
theorem cX {xs:Array Keyed}{i:Nat}{Q:Keyed->SortSt->Prop} (hi:i < xs.size) (h:Q xs[i] st):wpS (model prog w) A E s (elem' xs i) Q st:=by
 rw [elem'_eq,getElem?_pos xs i hi]; exact bh7 h
theorem cB {xs:Array Keyed}{i:Nat} (hi:i < xs.size):Kr rk xs i=rk xs[i]:=by unfold Kr; rw [getElem?_pos xs i hi]; rfl
theorem oP (c:cM prog w A E s κ Ok rk) (o:bK Ok a0) (b:SB κ a0 pd st) {i j:Nat}{Q:Option Bool->SortSt->Prop} (hi:i < a0.size) (hj:j < a0.size)
  (h:Q (some (decide (Kr rk (arrOf st) i < Kr rk (arrOf st) j))) st):wpS (model prog w) A E s (ltAt' i j) Q st:=by
 have hi':i < (arrOf st).size:=by rw [b.sz]; exact hi
 have hj':j < (arrOf st).size:=by rw [b.sz]; exact hj
 rw [ltAt'_eq]
 refine bg9 (wpS_get (bg9 (cX hi' (bg9 (cX hj' ?_)))))
 refine c _ _ (b.all o _ (bl5 hi')) (b.all o _ (bl5 hj')) st Q b.kd ?_
 rw [<- cB (rk:=rk) hi',<- cB (rk:=rk) hj']; exact h
theorem rL {i j:Nat}{Q:Unit->SortSt->Prop} (h:Q () (setArr st (mirror (arrOf st) i j ((j - i) / 2)))):wpS (model prog w) A E s (reverseSlice' i j) Q st:=by
 rw [reverseSlice'_eq]; exact wpS_modify h
abbrev CS:=Option (Option Nat) × Nat
abbrev DS:=Option (Option Nat) × Nat × Nat
def oQ (lo b nrem:Nat):StateT SortSt Sem CS:=forIn [b:nrem] ((none,b):CS) fun _ r=>do
 match <- ltAt' (lo+r.2) (lo+r.2 - 1) with
 | some q=>if q=true then pure (ForInStep.done (none,r.2)) else pure (ForInStep.yield (none,r.2+1))
 | _=>pure (ForInStep.done (some none,r.2))
def wG (lo b nrem:Nat):StateT SortSt Sem DS:=forIn [b:nrem] ((none,b,0):DS) fun _ r=>do
 match <- ltAt' (lo+r.2.1) (lo+r.2.1 - 1) with
 | some q=>
  if q=true then (if r.2.2 > 0 then do reverseSlice' (lo+r.2.1 - (r.2.2+1)) (lo+r.2.1); pure (ForInStep.yield (none,r.2.1+1,0)) else pure (ForInStep.yield (none,r.2.1+1,0)))
  else do
   match <- ltAt' (lo+r.2.1 - 1) (lo+r.2.1) with
   | some q=>if q=true then pure (ForInStep.done (none,r.2.1,r.2.2)) else pure (ForInStep.yield (none,r.2.1+1,r.2.2+1))
   | _=>pure (ForInStep.done (some none,r.2.1,r.2.2))
 | _=>pure (ForInStep.done (some none,r.2.1,r.2.2))
theorem N6 (c:cM prog w A E s κ Ok rk) (o:bK Ok a0) (b:SB κ a0 pd st) {lo n nrem:Nat}{Q:CS->SortSt->Prop} (hz:lo+nrem<=a0.size) (h1:1<=n) (hn:n<=nrem) (u:Up rk (arrOf st) lo (lo+n))
  (h:∀ m,n<=m->m<=nrem->Up rk (arrOf st) lo (lo+m)->(m=nrem ∨ Kr rk (arrOf st) (lo+m) < Kr rk (arrOf st) (lo+m - 1))->Q (none,m) st):wpS (model prog w) A E s (oQ lo n nrem) Q st:=by
 unfold oQ
 refine bo9 (I:=fun x r st'=>st'=st/\r=(none,x)/\Up rk (arrOf st) lo (lo+x)) ?_ ?_ ⟨rfl,rfl,u⟩
 ·rintro x r st' hx hx' ⟨rfl,rfl,u'⟩
  refine bg9 (oP c o b (by omega) (by omega) ?_)
  by_cases hq:Kr rk (arrOf st') (lo+x) < Kr rk (arrOf st') (lo+x - 1)
  ·rw [bg3 hq]
   exact bh7 (h x hx (by omega) u' (.inr hq))
  ·rw [bg2 hq]
   refine bh7 ⟨rfl,rfl,fun i j hi hij hj=>?_⟩
   rcases bl3 j (lo+x) with z | z
   ·exact u' i j hi hij z
   ·have ej:j=lo+x:=by omega
    subst ej
    rcases bu6 hij with z | z
    ·rw [z]; exact bv3 _
    ·have:=u' i (lo+x - 1) hi (by omega) (by omega)
     omega
 ·rintro r st' ⟨rfl,rfl,u'⟩
  have em:max n nrem=nrem:=by omega
  rw [em] at u' ⊢
  exact h nrem hn (bg1 _) u' (.inl rfl)
structure oR (rk:Keyed->Int) (xs ys:Array Keyed) (lo m q:Nat):Prop where
 dn:Dn rk ys lo (lo+m)
 le:q+1<=m
 eq:∀ i,lo+m - (q+1)<=i->i < lo+m->Kr rk ys i=Kr rk ys (lo+m - 1)
 low:∀ i,i < lo->Kr rk ys i=Kr rk xs i
theorem aC3 (c:cM prog w A E s κ Ok rk) (o:bK Ok a0) (b:SB κ a0 pd st) {lo n nrem:Nat}{xs:Array Keyed}{Q:DS->SortSt->Prop} (hz:lo+nrem<=a0.size) (h1:1<=n) (hn:n<=nrem) (u:oR rk xs (arrOf st) lo n 0)
  (h:∀ m q st',SB κ a0 pd st'->n<=m->m<=nrem->oR rk xs (arrOf st') lo m q->Q (none,m,q) st'):wpS (model prog w) A E s (wG lo n nrem) Q st:=by
 unfold wG
 refine bo9 (I:=fun x r st'=>∃ q,r=(none,x,q)/\SB κ a0 pd st'/\oR rk xs (arrOf st') lo x q) ?_ ?_ ⟨0,rfl,b,u⟩
 ·rintro x r st' hx hx' ⟨q,rfl,b',f⟩
  have sz:=b'.sz
  dsimp only
  refine bg9 (oP c o b' (by omega) (by omega) ?_)
  by_cases hq:Kr rk (arrOf st') (lo+x) < Kr rk (arrOf st') (lo+x - 1)
  ·rw [bg3 hq]
   have nx:∀ ys:Array Keyed,(∀ k,Kr rk ys k=Kr rk (arrOf st') k)->oR rk xs ys lo (x+1) 0:=fun ys e=>by
    refine⟨fun i j hi hij hj=>?_,by omega,fun i h1 h2=>by rw [show i=lo+(x+1) - 1 by omega],fun i hi=>(e i).trans (f.low i hi)⟩
    rw [e,e]
    rcases bl3 j (lo+x) with z | z
    ·exact f.dn i j hi hij z
    ·have ej:j=lo+x:=by omega
     subst ej
     rcases bu6 hij with z | z
     ·rw [z]; exact bv3 _
     ·have:=f.dn i (lo+x - 1) hi (by omega) (by omega)
      omega
   dsimp only
   rw [if_pos rfl]
   by_cases hp:q > 0
   ·rw [if_pos hp]
    exact bg9 (rL (bh7 ⟨0,rfl,b'.put (mirror_perm _ _ _ _),nx _ (wF (by omega) f.eq)⟩))
   ·rw [if_neg hp]
    exact bh7 ⟨0,rfl,b',nx _ fun _=>rfl⟩
  ·rw [bg2 hq]
   dsimp only
   rw [if_neg bh8]
   refine bg9 (oP c o b' (by omega) (by omega) ?_)
   by_cases hl:Kr rk (arrOf st') (lo+x - 1) < Kr rk (arrOf st') (lo+x)
   ·rw [bg3 hl]
    exact bh7 (h x q st' b' hx (by omega) f)
   ·rw [bg2 hl]
    have ex:Kr rk (arrOf st') (lo+x)=Kr rk (arrOf st') (lo+x - 1):=by omega
    refine bh7 ⟨q+1,rfl,b',fun i j hi hij hj=>?_,by have:=f.le; omega,fun i h1 h2=>?_,f.low⟩
    ·rcases bl3 j (lo+x) with z | z
     ·exact f.dn i j hi hij z
     ·have ej:j=lo+x:=by omega
      subst ej
      rcases bu6 hij with z | z
      ·rw [z]; exact bv3 _
      ·rw [ex]; exact f.dn i (lo+x - 1) hi (by omega) (by omega)
    ·rw [show lo+(x+1) - 1=lo+x by omega]
     rcases bl3 i (lo+x) with z | z
     ·rw [ex]; exact f.eq i (by omega) z
     ·rw [show i=lo+x by omega]
 ·rintro r st' ⟨q,rfl,b',f⟩
  have em:max n nrem=nrem:=by omega
  rw [em] at f ⊢
  exact h nrem q st' b' hn (bg1 _) f
theorem N7 (c:cM prog w A E s κ Ok rk) (o:bK Ok a0) (b:SB κ a0 pd st) {lo nrem:Nat} (n:Nat) {xs:Array Keyed}{Q:Option Nat->SortSt->Prop}{K:DS->StateT SortSt Sem (Option Nat)}{k:CS->StateT SortSt Sem (Option Nat)} (hz:lo+nrem<=a0.size) (hn:n+1<=nrem)
  (hK:∀ m q,K (none,m,q)=if q > 0 then reverseSlice' (lo+m - (q+1)) (lo+m) >>= fun _=>reverseSlice' lo (lo+m) >>= fun _=>oQ lo m nrem >>= k else reverseSlice' lo (lo+m) >>= fun _=>oQ lo m nrem >>= k)
  (hk:∀ m,k (none,m)=pure (some m)) (u:oR rk xs (arrOf st) lo (n+1) 0)
  (h:∀ m st',SB κ a0 pd st'->1<=m->m<=nrem->Up rk (arrOf st') lo (lo+m)->(∀ i,i < lo->Kr rk (arrOf st') i=Kr rk xs i)->Q (some m) st'):wpS (model prog w) A E s (liftM (rule "list.sort.descending-run") >>= fun _=>wG lo (n+1) nrem >>= K) Q st:=by
 refine bg9 (wpS_lift (bs2 ⟨rfl,?_⟩))
 refine bg9 (aC3 c o b hz (by omega) hn u fun m q st1 b1 m1 m2 f=>?_)
 have fin:∀ st2:SortSt,SB κ a0 pd st2->(∀ k,Kr rk (arrOf st2) k=Kr rk (arrOf st1) k)->
   wpS (model prog w) A E s (reverseSlice' lo (lo+m) >>= fun _=>oQ lo m nrem >>= k) Q st2:=fun st2 b2 e=>by
  have sz:=b2.sz
  have low:∀ i,i < lo->Kr rk (mirror (arrOf st2) lo (lo+m) ((lo+m - lo) / 2)) i=Kr rk xs i:=fun i hi=>by
   rw [rK (by omega),if_neg (by omega),e]
   exact f.low i hi
  refine bg9 (rL (bg9 (N6 (κ:=κ) c o (b2.put (mirror_perm _ _ _ _)) hz (by omega) m2 ?_ fun m' h1 h2 up _=>by rw [hk]; exact bh7 (h m' _ (b2.put (mirror_perm _ _ _ _)) (by omega) h2 up low))))
  ·intro i j hi hij hj
   show Kr rk (mirror (arrOf st2) lo (lo+m) _) i<=Kr rk (mirror (arrOf st2) lo (lo+m) _) j
   rw [rK (by omega),rK (by omega),if_pos (by omega),if_pos (by omega),e,e]
   exact f.dn _ _ (by omega) (by omega) (by omega)
 rw [hK]
 by_cases hp:q > 0
 ·rw [if_pos hp]
  have sz:=b1.sz
  exact bg9 (rL (fin _ (b1.put (mirror_perm _ _ _ _)) (wF (by omega) f.eq)))
 ·rw [if_neg hp]
  exact fin st1 b1 fun _=>rfl
theorem aC4 (c:cM prog w A E s κ Ok rk) (o:bK Ok a0) (b:SB κ a0 pd st) {lo nrem:Nat}{Q:Option Nat->SortSt->Prop} (hz:lo+nrem<=a0.size) (h1:1<=nrem)
  (h:∀ m st',SB κ a0 pd st'->1<=m->m<=nrem->Up rk (arrOf st') lo (lo+m)->(∀ i,i < lo->Kr rk (arrOf st') i=Kr rk (arrOf st) i)->Q (some m) st'):wpS (model prog w) A E s (countRun' lo nrem) Q st:=by
 rw [countRun'_eq]
 refine bg9 (N6 (n:=1) c o b hz (bg1 _) h1 (fun i j hi hij hj=>by rw [show i=j by omega]; exact bv3 _) fun n n1 n2 un on=>?_)
 dsimp only
 by_cases en:(n == nrem)=true
 ·rw [if_pos en]
  exact bh7 (h n st b n1 n2 un fun _ _=>rfl)
 ·rw [if_neg en]
  have en':n ≠ nrem:=by simpa using en
  have lt:=on.resolve_left en'
  have sz:=b.sz
  by_cases g:n > 1
  ·rw [if_pos g]
   refine bg9 (oP c o b (by omega) (by omega) ?_)
   by_cases hq:Kr rk (arrOf st) lo < Kr rk (arrOf st) (lo+n - 1)
   ·rw [bg3 hq]
    exact bh7 (h n st b n1 n2 un fun _ _=>rfl)
   ·rw [bg2 hq]
    dsimp only
    rw [if_neg bh8]
    have all:∀ k,lo<=k->k < lo+n->Kr rk (arrOf st) k=Kr rk (arrOf st) (lo+n - 1):=fun k k1 k2=>by
     have a1:=un lo k (bg1 _) k1 k2
     have a2:=un k (lo+n - 1) k1 (by omega) (by omega)
     omega
    have sm:=wF (rk:=rk) (xs:=arrOf st) (i:=lo) (j:=lo+n) (by omega) all
    refine bg9 (rL (N7 (xs:=arrOf st) (κ:=κ) c o (b.put (mirror_perm _ _ _ _)) n hz (by omega) (fun _ _=>rfl) (fun _=>rfl) ⟨fun i j hi hij hj=>?_,by omega,fun i h1 h2=>by rw [show i=lo+(n+1) - 1 by omega],fun i _=>sm i⟩ h))
    show Kr rk (mirror (arrOf st) lo (lo+n) _) j<=Kr rk (mirror (arrOf st) lo (lo+n) _) i
    rw [sm,sm]
    rcases bl3 j (lo+n) with z | z
    ·rw [all i hi (by omega),all j (by omega) z]; exact bv3 _
    ·have ej:j=lo+n:=by omega
     subst ej
     rcases bu6 hij with z | z
     ·rw [z]; exact bv3 _
     ·rw [all i hi (by omega)]; exact Int.le_of_lt lt
  ·rw [if_neg g]
   have e1:n=1:=by omega
   subst e1
   refine N7 (xs:=arrOf st) c o b 1 hz (by omega) (fun _ _=>rfl) (fun _=>rfl) ⟨fun i j hi hij hj=>?_,by omega,fun i h1 h2=>by rw [show i=lo+(1+1) - 1 by omega],fun i _=>rfl⟩ h
   rcases bu6 hij with z | z
   ·rw [z]; exact bv3 _
   ·have ei:i=lo+1 - 1:=by omega
    have ej:j=lo+1:=by omega
    rw [ei,ej]; exact Int.le_of_lt lt
theorem aC5 (c:cM prog w A E s κ Ok rk) (o:bK Ok a0) (b:SB κ a0 pd st) {lo n q:Nat}{Q:Bool->SortSt->Prop} (hz:lo+n<=a0.size) (hq:q<=n) (u:Up rk (arrOf st) lo (lo+q))
  (h:∀ st',SB κ a0 pd st'->Up rk (arrOf st') lo (lo+n)->(∀ i,i < lo->Kr rk (arrOf st') i=Kr rk (arrOf st) i)->Q true st'):wpS (model prog w) A E s (binarySort' lo n q) Q st:=by
 rw [binarySort'_eq]
 refine bg9 (bv4 (bo9 (I:=fun k r st'=>r=(none,())/\SB κ a0 pd st'/\Up rk (arrOf st') lo (lo+min k n)/\∀ i,i < lo->Kr rk (arrOf st') i=Kr rk (arrOf st) i)
  (Q:=fun r st'=>r=(none,())/\SB κ a0 pd st'/\Up rk (arrOf st') lo (lo+n)/\∀ i,i < lo->Kr rk (arrOf st') i=Kr rk (arrOf st) i) ?_ ?_ ?_) ?_)
 ·rintro k r st1 hk hkn ⟨rfl,b1,u1,l1⟩
  rw [show min k n=k by omega] at u1
  have hk0:lo+k < a0.size:=by omega
  have sz:=b1.sz
  refine bg9 (bv4 (bo9 (I:=fun x r st'=>st'=st1/\∃ l g,r=(none,l,g)/\l<=g/\g<=k/\g - l<=k - x/\(∀ i,i < l->Kr rk (arrOf st1) (lo+i)<=Kr rk (arrOf st1) (lo+k))/\∀ i,g<=i->i < k->Kr rk (arrOf st1) (lo+k) < Kr rk (arrOf st1) (lo+i))
   (Q:=fun r st'=>st'=st1/\∃ l g,r=(none,l,g)/\l<=k/\(∀ i,i < l->Kr rk (arrOf st1) (lo+i)<=Kr rk (arrOf st1) (lo+k))/\∀ i,l<=i->i < k->Kr rk (arrOf st1) (lo+k) < Kr rk (arrOf st1) (lo+i)) ?_ ?_ ?_) ?_)
  ·rintro x r st2 _ hx ⟨rfl,l,g,rfl,d1,d2,d3,f1,f2⟩
   dsimp only
   by_cases hlg:l >= g
   ·rw [if_pos hlg]
    have e:g=l:=by omega
    subst e
    exact bh7 ⟨rfl,g,g,rfl,d2,f1,f2⟩
   ·rw [if_neg hlg]
    refine bg9 (oP c o b1 hk0 (by omega) ?_)
    by_cases hc:Kr rk (arrOf st2) (lo+k) < Kr rk (arrOf st2) (lo+(l+g) / 2)
    ·rw [bg3 hc]
     refine bh7 ⟨rfl,l,(l+g) / 2,rfl,by omega,by omega,by omega,f1,fun i i1 i2=>?_⟩
     have:=u1 (lo+(l+g) / 2) (lo+i) (by omega) (by omega) (by omega)
     omega
    ·rw [bg2 hc]
     refine bh7 ⟨rfl,(l+g) / 2+1,g,rfl,by omega,d2,by omega,fun i i1=>?_,f2⟩
     have:=u1 (lo+i) (lo+(l+g) / 2) (by omega) (by omega) (by omega)
     omega
  ·rintro r st2 ⟨rfl,l,g,rfl,d1,d2,d3,f1,f2⟩
   have e:g=l:=by omega
   subst e
   exact⟨rfl,g,g,rfl,d2,f1,f2⟩
  ·exact⟨rfl,0,k,rfl,by omega,by omega,by omega,fun i hi=>absurd hi (by omega),fun i i1 i2=>absurd i1 (by omega)⟩
  ·rintro r st2 ⟨rfl,l,g,rfl,d,f1,f2⟩
   dsimp only
   rw [moveDown'_eq]
   have kb:∀ i,Kr rk (bubble (arrOf st2) (lo+k) (lo+k - (lo+l))) i=Kr rk (arrOf st2) (if i=lo+l then lo+k else if lo+l < i/\i<=lo+k then i - 1 else i):=fun i=>by
    rw [aC2 (by omega) (by omega),show lo+k - (lo+k - (lo+l))=lo+l by omega]
   refine bg9 (wpS_modify (bh7 ⟨rfl,b1.put (bubble_perm _ _ _),fun i j hi hij hj=>?_,fun i hi=>?_⟩))
   ·show Kr rk (bubble (arrOf st2) (lo+k) (lo+k - (lo+l))) i<=Kr rk (bubble (arrOf st2) (lo+k) (lo+k - (lo+l))) j
    rw [kb,kb]
    rw [show min (k+1) n=k+1 by omega] at hj
    have v1:∀ p,lo<=p->p < lo+l->Kr rk (arrOf st2) p<=Kr rk (arrOf st2) (lo+k):=fun p p1 p2=>by have:=f1 (p - lo) (by omega); rwa [show lo+(p - lo)=p by omega] at this
    have v2:∀ p,lo+l<=p->p < lo+k->Kr rk (arrOf st2) (lo+k) < Kr rk (arrOf st2) p:=fun p p1 p2=>by have:=f2 (p - lo) (by omega) (by omega); rwa [show lo+(p - lo)=p by omega] at this
    repeat' split
    all_goals first
     | (exfalso; omega)
     | exact bv3 _
     | exact v1 _ (by omega) (by omega)
     | exact Int.le_of_lt (v2 _ (by omega) (by omega))
     | exact u1 _ _ (by omega) (by omega) (by omega)
   ·show Kr rk (bubble (arrOf st2) (lo+k) (lo+k - (lo+l))) i=_
    rw [kb,if_neg (by omega),if_neg (by omega)]
    exact l1 i hi
 ·rintro r st1 ⟨rfl,b1,u1,l1⟩
  rw [show min (max (max q 1) n) n=n by omega] at u1
  exact⟨rfl,b1,u1,l1⟩
 ·refine⟨rfl,b,fun i j hi hij hj=>?_,fun _ _=>rfl⟩
  rcases bl3 j (lo+q) with z | z
  ·exact u i j hi hij z
  ·rw [show i=j by omega]; exact bv3 _
 ·rintro r st1 ⟨rfl,b1,u1,l1⟩
  exact bh7 (h st1 b1 u1 l1)
end
def jV:Bool->Keyed->Array Keyed->Nat->Nat->Nat->StateT SortSt Sem (Option Nat):=sortPriv% PySem.Builtin.gallop
def kR (lf:Bool) (key:Keyed) (xs:Array Keyed) (bs i:Nat):StateT SortSt Sem (Option Bool):=do
 let z <- elem' xs (bs+i)
 if lf then lt' z key else return (<- lt' key z).map (!·)
theorem aC6 (lf:Bool) (key:Keyed) (xs:Array Keyed) (bs n h:Nat):jV lf key xs bs n h=(do
 let mut la:=0
 let mut of:=1
 let mut l:=0
 let mut g:=0
 let some rt <- kR lf key xs bs h | return none
 if rt then
  let mx:=n - h
  for _ in [0:n] do
   if of >= mx then break
   let some mr <- kR lf key xs bs (h+of) | return none
   if !mr then break
   la:=of
   of:=2 * of+1
  l:=h+la+1
  g:=h+min of mx
 else
  let mx:=h+1
  for _ in [0:n] do
   if of >= mx then break
   let some fd <- kR lf key xs bs (h - of) | return none
   if fd then break
   la:=of
   of:=2 * of+1
  l:=h+1 - min of mx
  g:=h - la
 for _ in [0:n] do
  if l >= g then break
  let m:=l+(g - l) / 2
  let some mr <- kR lf key xs bs m | return none
  if mr then l:=m+1 else g:=m
 return some g):=rfl
section
variable {rk : Keyed → Int} {κ : SortKind} {st : SortSt} {prog : Program} {w : World} {A : Around} {E : Value → Shared → Prop} {s : Shared} {Ok : Keyed → Prop}
def c8 (rk:Keyed->Int) (lf:Bool) (key:Keyed) (xs:Array Keyed) (bs i:Nat):Bool:=if lf then decide (Kr rk xs (bs+i) < rk key) else decide (Kr rk xs (bs+i)<=rk key)
theorem rM (c:cM prog w A E s κ Ok rk) (hk:kindOf st=κ) {lf:Bool}{key:Keyed}{xs:Array Keyed}{bs i:Nat}{Q:Option Bool->SortSt->Prop} (ok:Ok key) (o:bK Ok xs) (hi:bs+i < xs.size)
  (h:Q (some (c8 rk lf key xs bs i)) st):wpS (model prog w) A E s (kR lf key xs bs i) Q st:=by
 unfold kR
 refine bg9 (cX hi ?_)
 unfold c8 at h
 rw [cB hi] at h
 cases lf with
 | true=>
  simp only [if_true] at h ⊢
  exact c _ _ (o _ (bl5 hi)) ok st Q hk h
 | false=>
  simp only [bi0,bm6] at h ⊢
  refine bg9 (c _ _ ok (o _ (bl5 hi)) st _ hk (bh7 ?_))
  have e:(!decide (rk key < rk xs[bs+i]))=decide (rk xs[bs+i]<=rk key):=by
   by_cases z:rk xs[bs+i]<=rk key
   ·rw [bg3 z,bg2 (by omega)]; rfl
   ·rw [bg2 z,bg3 (by omega)]; rfl
  show Q (some (!decide (rk key < rk xs[bs+i]))) st
  rw [e]; exact h
abbrev GS:=Option (Option Nat) × Nat × Nat
def N8 (lf:Bool) (key:Keyed) (xs:Array Keyed) (bs n l g:Nat):StateT SortSt Sem GS:=forIn [0:n] ((none,l,g):GS) fun _ r=>
 if r.2.1 >= r.2.2 then pure (ForInStep.done (none,r.2.1,r.2.2)) else do
  match <- kR lf key xs bs (r.2.1+(r.2.2 - r.2.1) / 2) with
  | some q=>if q=true then pure (ForInStep.yield (none,r.2.1+(r.2.2 - r.2.1) / 2+1,r.2.2)) else pure (ForInStep.yield (none,r.2.1,r.2.1+(r.2.2 - r.2.1) / 2))
  | _=>pure (ForInStep.done (some none,r.2.1,r.2.2))
theorem N9 (c:cM prog w A E s κ Ok rk) (hk:kindOf st=κ) {lf:Bool}{key:Keyed}{xs:Array Keyed}{bs n l g:Nat}{Q:GS->SortSt->Prop} (ok:Ok key) (o:bK Ok xs) (hz:bs+n<=xs.size)
  (mono:∀ i j,i<=j->j < n->c8 rk lf key xs bs j=true->c8 rk lf key xs bs i=true) (hlg:l<=g) (hg:g<=n) (h1:∀ i,i < l->c8 rk lf key xs bs i=true) (h2:∀ i,g<=i->i < n->c8 rk lf key xs bs i=false)
  (hq:∀ k,k<=n->(∀ i,i < k->c8 rk lf key xs bs i=true)->(∀ i,k<=i->i < n->c8 rk lf key xs bs i=false)->Q (none,k,k) st):wpS (model prog w) A E s (N8 lf key xs bs n l g) Q st:=by
 unfold N8
 refine bo9 (I:=fun x r st'=>st'=st/\∃ l g,r=(none,l,g)/\l<=g/\g<=n/\g - l<=n - x/\(∀ i,i < l->c8 rk lf key xs bs i=true)/\∀ i,g<=i->i < n->c8 rk lf key xs bs i=false) ?_ ?_ ⟨rfl,l,g,rfl,hlg,hg,by omega,h1,h2⟩
 ·rintro x r st' _ hx ⟨rfl,l,g,rfl,d1,d2,d3,f1,f2⟩
  dsimp only
  by_cases hc:l >= g
  ·rw [if_pos hc]
   have e:g=l:=by omega
   subst e
   exact bh7 (hq g d2 f1 f2)
  ·rw [if_neg hc]
   refine bg9 (rM c hk ok o (by omega) ?_)
   cases z:c8 rk lf key xs bs (l+(g - l) / 2) with
   | true=>exact bh7 ⟨rfl,_,_,rfl,by omega,d2,by omega,fun i hi=>mono i (l+(g - l) / 2) (by omega) (by omega) z,f2⟩
   | false=>
    refine bh7 ⟨rfl,_,_,rfl,by omega,by omega,by omega,f1,fun i i1 i2=>?_⟩
    cases y:c8 rk lf key xs bs i with
    | false=>rfl
    | true=>rw [mono _ i i1 i2 y] at z; cases z
 ·rintro r st' ⟨rfl,l,g,rfl,d1,d2,d3,f1,f2⟩
  have e:g=l:=by omega
  subst e
  exact hq g d2 f1 f2
theorem mI (c:cM prog w A E s κ Ok rk) (hk:kindOf st=κ) {lf:Bool}{key:Keyed}{xs:Array Keyed}{bs n h:Nat}{Q:Option Nat->SortSt->Prop} (ok:Ok key) (o:bK Ok xs) (hh:h < n) (hz:bs+n<=xs.size) (u:Up rk xs bs (bs+n))
  (hq:∀ k,k<=n->(∀ i,i < k->c8 rk lf key xs bs i=true)->(∀ i,k<=i->i < n->c8 rk lf key xs bs i=false)->Q (some k) st):wpS (model prog w) A E s (jV lf key xs bs n h) Q st:=by
 have mono:∀ i j,i<=j->j < n->c8 rk lf key xs bs j=true->c8 rk lf key xs bs i=true:=fun i j hij hj e=>by
  have:=u (bs+i) (bs+j) (by omega) (by omega) (by omega)
  unfold c8 at e ⊢
  cases lf with
  | true=>simp only [if_true,bj9] at e ⊢; omega
  | false=>simp only [bi0,bm6,bj9] at e ⊢; omega
 have monf:∀ i j,i<=j->j < n->c8 rk lf key xs bs i=false->c8 rk lf key xs bs j=false:=fun i j hij hj e=>by
  cases z:c8 rk lf key xs bs j with
  | false=>rfl
  | true=>rw [mono i j hij hj z] at e; cases e
 rw [aC6]
 refine bg9 (rM c hk ok o (by omega) ?_)
 dsimp only
 cases z:c8 rk lf key xs bs h with
 | true=>
  rw [if_pos rfl]
  refine bg9 (bv4 (bo9 (I:=fun x r st'=>st'=st/\∃ la of,r=(none,la,of)/\la < of/\x < of/\h+la < n/\c8 rk lf key xs bs (h+la)=true)
   (Q:=fun r st'=>st'=st/\∃ la of,r=(none,la,of)/\la < of/\h+la < n/\c8 rk lf key xs bs (h+la)=true/\(of < n - h->c8 rk lf key xs bs (h+of)=false)) ?_ ?_ ⟨rfl,0,1,rfl,by omega,by omega,by omega,z⟩) ?_)
  ·rintro x r st' _ hx ⟨rfl,la,of,rfl,d1,d2,d3,f⟩
   dsimp only
   by_cases hc:of >= n - h
   ·rw [if_pos hc]
    exact bh7 ⟨rfl,la,of,rfl,d1,d3,f,fun y=>absurd y (by omega)⟩
   ·rw [if_neg hc]
    refine bg9 (rM c hk ok o (by omega) ?_)
    cases y:c8 rk lf key xs bs (h+of) with
    | true=>exact bh7 ⟨rfl,of,2 * of+1,rfl,by omega,by omega,by omega,y⟩
    | false=>exact bh7 ⟨rfl,la,of,rfl,d1,d3,f,fun _=>y⟩
  ·rintro r st' ⟨rfl,la,of,rfl,d1,d2,d3,f⟩
   exact⟨rfl,la,of,rfl,d1,d3,f,fun y=>absurd y (by omega)⟩
  ·rintro r st' ⟨rfl,la,of,rfl,d1,d3,f,ft⟩
   dsimp only
   refine bg9 (N9 (l:=h+la+1) (g:=h+min of (n - h)) c hk ok o hz mono (by omega) (by omega) (fun i hi=>mono i (h+la) (by omega) d3 f) (fun i i1 i2=>?_) fun k k1 k2 k3=>bh7 (hq k k1 k2 k3))
   rcases bl3 of (n - h) with y | y
   ·exact monf (h+of) i (by omega) i2 (ft y)
   ·exact absurd i1 (by omega)
 | false=>
  rw [if_neg bh8]
  refine bg9 (bv4 (bo9 (I:=fun x r st'=>st'=st/\∃ la of,r=(none,la,of)/\la < of/\x < of/\la<=h/\c8 rk lf key xs bs (h - la)=false)
   (Q:=fun r st'=>st'=st/\∃ la of,r=(none,la,of)/\la < of/\la<=h/\c8 rk lf key xs bs (h - la)=false/\(of < h+1->c8 rk lf key xs bs (h - of)=true)) ?_ ?_ ⟨rfl,0,1,rfl,by omega,by omega,by omega,z⟩) ?_)
  ·rintro x r st' _ hx ⟨rfl,la,of,rfl,d1,d2,d3,f⟩
   dsimp only
   by_cases hc:of >= h+1
   ·rw [if_pos hc]
    exact bh7 ⟨rfl,la,of,rfl,d1,d3,f,fun y=>absurd y (by omega)⟩
   ·rw [if_neg hc]
    refine bg9 (rM c hk ok o (by omega) ?_)
    cases y:c8 rk lf key xs bs (h - of) with
    | false=>exact bh7 ⟨rfl,of,2 * of+1,rfl,by omega,by omega,by omega,y⟩
    | true=>exact bh7 ⟨rfl,la,of,rfl,d1,d3,f,fun _=>y⟩
  ·rintro r st' ⟨rfl,la,of,rfl,d1,d2,d3,f⟩
   exact⟨rfl,la,of,rfl,d1,d3,f,fun y=>absurd y (by omega)⟩
  ·rintro r st' ⟨rfl,la,of,rfl,d1,d3,f,ft⟩
   dsimp only
   refine bg9 (N9 (l:=h+1 - min of (h+1)) (g:=h - la) c hk ok o hz mono (by omega) (by omega) (fun i hi=>?_) (fun i i1 i2=>monf (h - la) i i1 i2 f) fun k k1 k2 k3=>bh7 (hq k k1 k2 k3))
   rcases bl3 of (h+1) with y | y
   ·exact mono i (h - of) (by omega) (by omega) (ft y)
   ·exact absurd hi (by omega)
end
def mJ:Nat->StateT SortSt Sem Unit:=sortPriv% PySem.Builtin.setMinGallop
def wH:Array Keyed->Array Keyed->StateT SortSt Sem (Array Keyed):=sortPriv% PySem.Builtin.mergeLo
theorem aC7 (g:Nat):mJ g=modify (fun st=>SortSt.mk' (kindOf st) (arrOf st) (pendingOf st) g (failedOf st)):=rfl
abbrev LS:=Option (Array Keyed) × Array Keyed × Nat × Nat × Nat × Nat × Nat
abbrev wI:=Option (Array Keyed) × Array Keyed × Nat × Nat × Nat × Nat
abbrev LO:=Option (Array Keyed) × Array Keyed × Nat × Nat × Nat
def rN (x y o:Array Keyed) (i j mg p q:Nat):StateT SortSt Sem (ForInStep LS):=do
 let v <- elem' x i
 if (i+1+1 == x.size)=true then pure (.done (some (o.push v ++ y.extract j y.size ++ x.extract (i+1) x.size),o.push v,i+1,j,mg,p,q))
 else if (decide (p < 7) && decide (q < 7))=true then pure (.done (none,o.push v,i+1,j,mg,p,q)) else pure (.yield (none,o.push v,i+1,j,mg,p,q))
def rO (x y o:Array Keyed) (i j mg p q:Nat):StateT SortSt Sem (ForInStep LS):=do
 let v <- elem' y j
 if (j+1 == y.size)=true then pure (.done (some (o.push v ++ x.extract i x.size ++ y.extract (j+1) y.size),o.push v,i,j+1,mg,p,q)) else do
  let u <- elem' x i
  match <- jV true u y (j+1) (y.size - (j+1)) 0 with
  | some k=>
   if k > 0 then
    if (j+1+k == y.size)=true then pure (.done (some (o.push v ++ y.extract (j+1) (j+1+k) ++ x.extract i x.size ++ y.extract (j+1+k) y.size),o.push v ++ y.extract (j+1) (j+1+k),i,j+1+k,mg,p,k))
    else rN x y (o.push v ++ y.extract (j+1) (j+1+k)) i (j+1+k) mg p k
   else rN x y (o.push v) i (j+1) mg p k
  | _=>pure (.done (some (o.push v ++ x.extract i x.size ++ y.extract (j+1) y.size),o.push v,i,j+1,mg,p,q))
def rP (x y o:Array Keyed) (i j mg p q:Nat):StateT SortSt Sem (ForInStep LS):=do
 mJ mg
 let v <- elem' y j
 match <- jV false v x i (x.size - i) 0 with
 | some k=>
  if k > 0 then
   if (i+k+1 == x.size)=true then pure (.done (some (o ++ x.extract i (i+k) ++ y.extract j y.size ++ x.extract (i+k) x.size),o ++ x.extract i (i+k),i+k,j,mg,k,q))
   else if (i+k == x.size)=true then pure (.done (some (o ++ x.extract i (i+k) ++ x.extract (i+k) x.size ++ y.extract j y.size),o ++ x.extract i (i+k),i+k,j,mg,k,q))
   else rO x y (o ++ x.extract i (i+k)) (i+k) j mg k q
  else rO x y o i j mg k q
 | _=>pure (.done (some (o ++ x.extract i x.size ++ y.extract j y.size),o,i,j,mg,p,q))
def wJ (x y o:Array Keyed) (i j mg p q:Nat):StateT SortSt Sem LS:=forIn [0:x.size+y.size] ((none,o,i,j,mg,p,q):LS) fun _ r=>
 if r.2.2.2.2.1 > 1 then rP x y r.2.1 r.2.2.1 r.2.2.2.1 (r.2.2.2.2.1 - 1) r.2.2.2.2.2.1 r.2.2.2.2.2.2 else rP x y r.2.1 r.2.2.1 r.2.2.2.1 r.2.2.2.2.1 r.2.2.2.2.2.1 r.2.2.2.2.2.2
def wK (x y o:Array Keyed) (i j mg:Nat):StateT SortSt Sem wI:=forIn [0:x.size+y.size] ((none,o,i,j,0,0):wI) fun _ r=>do
 let v <- elem' y r.2.2.2.1
 let u <- elem' x r.2.2.1
 match <- lt' v u with
 | some q=>
  if q=true then do
   let v <- elem' y r.2.2.2.1
   if (r.2.2.2.1+1 == y.size)=true then pure (.done (some (r.2.1.push v ++ x.extract r.2.2.1 x.size ++ y.extract (r.2.2.2.1+1) y.size),r.2.1.push v,r.2.2.1,r.2.2.2.1+1,0,r.2.2.2.2.2+1))
   else if r.2.2.2.2.2+1 >= mg then pure (.done (none,r.2.1.push v,r.2.2.1,r.2.2.2.1+1,0,r.2.2.2.2.2+1)) else pure (.yield (none,r.2.1.push v,r.2.2.1,r.2.2.2.1+1,0,r.2.2.2.2.2+1))
  else do
   let u <- elem' x r.2.2.1
   if (r.2.2.1+1+1 == x.size)=true then pure (.done (some (r.2.1.push u ++ y.extract r.2.2.2.1 y.size ++ x.extract (r.2.2.1+1) x.size),r.2.1.push u,r.2.2.1+1,r.2.2.2.1,r.2.2.2.2.1+1,0))
   else if r.2.2.2.2.1+1 >= mg then pure (.done (none,r.2.1.push u,r.2.2.1+1,r.2.2.2.1,r.2.2.2.2.1+1,0)) else pure (.yield (none,r.2.1.push u,r.2.2.1+1,r.2.2.2.1,r.2.2.2.2.1+1,0))
 | _=>pure (.done (some (r.2.1 ++ x.extract r.2.2.1 x.size ++ y.extract r.2.2.2.1 y.size),r.2.1,r.2.2.1,r.2.2.2.1,r.2.2.2.2.1,r.2.2.2.2.2))
def O0 (x y o:Array Keyed) (i j mg:Nat):StateT SortSt Sem LO:=forIn [0:x.size+y.size] ((none,o,i,j,mg):LO) fun _ r=>do
 let u <- wK x y r.2.1 r.2.2.1 r.2.2.2.1 r.2.2.2.2
 match u.1 with
 | some z=>pure (.done (some z,u.2.1,u.2.2.1,u.2.2.2.1,r.2.2.2.2))
 | none=>do
  liftM (rule "list.sort.gallop")
  let v <- wJ x y u.2.1 u.2.2.1 u.2.2.2.1 (r.2.2.2.2+1) u.2.2.2.2.1 u.2.2.2.2.2
  match v.1 with
  | some z=>pure (.done (some z,v.2.1,v.2.2.1,v.2.2.2.1,v.2.2.2.2.1))
  | none=>do
   mJ (v.2.2.2.2.1+1)
   pure (.yield (none,v.2.1,v.2.2.1,v.2.2.2.1,v.2.2.2.2.1+1))
theorem aC8 (x y:Array Keyed):wH x y=(do
 liftM (rule "list.sort.merge-lo")
 let v <- elem' y 0
 if (1 == y.size)=true then pure (#[v] ++ x.extract 0 x.size ++ y.extract 1 y.size)
 else if (0+1 == x.size)=true then pure (#[v] ++ y.extract 1 y.size ++ x.extract 0 x.size)
 else do
  let z <- get
  let r <- O0 x y #[v] 0 1 (gallopOf z)
  match r.1 with
  | some z=>pure z
  | none=>unsupported "internal:list.sort.merge-bound"):=by kernel_rfl
section
variable (rk : Keyed → Int)
def Sd (l:List Keyed):Prop:=l.Pairwise fun a b=>rk a<=rk b
structure MI (xs ys o:List Keyed) (i j:Nat):Prop where
 pm:o.Perm (xs.take i ++ ys.take j)
 sx:Sd rk (o ++ xs.drop i)
 sy:Sd rk (o ++ ys.drop j)
end
variable {rk : Keyed → Int} {xs ys o : List Keyed} {i j : Nat}
theorem Sd.ins {o a b d:List Keyed} (h1:Sd rk (o ++ a)) (h2:Sd rk (o ++ (b ++ d))) (h:∀ u ∈ b,∀ t ∈ a,rk u<=rk t):Sd rk ((o ++ b) ++ a):=by
 unfold Sd at *
 rw [bi4]
 obtain ⟨p1,p2,p3⟩:=bk8.mp h1
 obtain ⟨q1,q2,q3⟩:=bk8.mp h2
 obtain ⟨r1,r2,r3⟩:=bk8.mp q2
 refine bk8.mpr ⟨p1,bk8.mpr ⟨r1,p2,h⟩,fun u hu t ht=>?_⟩
 rcases bk1.mp ht with z | z
 ·exact q3 u hu t (bs6 _ z)
 ·exact p3 u hu t z
theorem MI.ofy (m:MI rk xs ys o i j) (k:Nat) (h:∀ u ∈ (ys.drop j).take k,∀ t ∈ xs.drop i,rk u<=rk t):MI rk xs ys (o ++ (ys.drop j).take k) i (j+k):=by
 have e:(ys.drop j).take k ++ ys.drop (j+k)=ys.drop j:=by rw [<- List.drop_drop]; exact bj3 k _
 refine⟨?_,Sd.ins m.sx (d:=ys.drop (j+k)) (by rw [e]; exact m.sy) h,by rw [bi4,e]; exact m.sy⟩
 rw [List.take_add,<- bi4]
 exact m.pm.append_right _
theorem MI.ofx (m:MI rk xs ys o i j) (k:Nat) (h:∀ u ∈ (xs.drop i).take k,∀ t ∈ ys.drop j,rk u<=rk t):MI rk xs ys (o ++ (xs.drop i).take k) (i+k) j:=by
 have e:(xs.drop i).take k ++ xs.drop (i+k)=xs.drop i:=by rw [<- List.drop_drop]; exact bj3 k _
 refine⟨?_,by rw [bi4,e]; exact m.sx,Sd.ins m.sy (d:=xs.drop (i+k)) (by rw [e]; exact m.sx) h⟩
 rw [List.take_add]
 refine (m.pm.append_right _).trans ?_
 rw [bi4,bi4]
 exact (List.perm_append_comm).append_left _
theorem MI.fin (m:MI rk xs ys o i j) (h:xs.length<=i ∨ ys.length<=j):(o ++ xs.drop i ++ ys.drop j).Perm (xs ++ ys)/\Sd rk (o ++ xs.drop i ++ ys.drop j):=by
 refine⟨?_,?_⟩
 ·rw [bi4]
  refine (m.pm.append_right _).trans ?_
  have e1:xs=xs.take i ++ xs.drop i:=(bj3 i xs).symm
  have e2:ys=ys.take j ++ ys.drop j:=(bj3 j ys).symm
  conv=>rhs; rw [e1,e2]
  rw [bi4,bi4]
  refine List.Perm.append_left _ ?_
  rw [<- bi4,<- bi4]
  exact (List.perm_append_comm).append_right _
 ·rcases h with h | h
  ·rw [List.drop_eq_nil_of_le h,bi9]; exact m.sy
  ·rw [List.drop_eq_nil_of_le h,bi9]; exact m.sx
theorem MI.lst (m:MI rk xs ys o i j) (h:∀ u ∈ ys,∀ t ∈ xs.drop i,rk u<=rk t):(o ++ ys.drop j ++ xs.drop i).Perm (xs ++ ys)/\Sd rk (o ++ ys.drop j ++ xs.drop i):=by
 have m2:=m.ofy ys.length fun u hu t ht=>h u (List.mem_of_mem_drop (List.mem_of_mem_take hu)) t ht
 have e:(ys.drop j).take ys.length=ys.drop j:=bn8 (by simp)
 rw [e] at m2
 have f:=m2.fin (.inr (by omega))
 rw [List.drop_eq_nil_of_le (as:=ys) (i:=j+ys.length) (by omega),bi9] at f
 exact f
theorem O1 {x:Array Keyed}{i k:Nat}{u:Keyed} (h:u ∈ (x.toList.drop i).take k):∃ t,t < k/\i+t < x.size/\rk u=Kr rk x (i+t):=by
 obtain ⟨t,ht,e⟩:=bo1 h
 have h1:t < k/\i+t < x.size:=by simp at ht; omega
 refine⟨t,h1.1,h1.2,?_⟩
 rw [cB h1.2,<- e]
 simp
theorem oT {x:Array Keyed}{i:Nat}{u:Keyed} (h:u ∈ x.toList.drop i):∃ t,i+t < x.size/\rk u=Kr rk x (i+t):=by
 obtain ⟨t,ht,e⟩:=bo1 h
 have h1:i+t < x.size:=by simp at ht; omega
 refine⟨t,h1,?_⟩
 rw [cB h1,<- e]
 simp
theorem Sd.up {x:Array Keyed} (h:Sd rk x.toList) (lo hi:Nat) (hh:hi<=x.size):Up rk x lo hi:=fun i j _ hij hj=>by
 rw [cB (by omega:i < x.size),cB (by omega:j < x.size)]
 rcases bu6 hij with z | z
 ·subst z; exact bv3 _
 ·have:=bl9.mp h i j (by simp; omega) (by simp; omega) z
  simpa using this
theorem O2 (x:Array Keyed) (i k:Nat):(x.extract i (i+k)).toList=(x.toList.drop i).take k:=by
 simp [List.extract]
theorem rQ (x:Array Keyed) (i:Nat):(x.extract i x.size).toList=x.toList.drop i:=by
 simp [List.extract]
 exact bn8 (by simp)
theorem kS {x:Array Keyed}{i:Nat} (h:i < x.size) : [x[i]]=(x.toList.drop i).take 1:=by
 rw [bp8 (by simpa using h)]; simp
structure Gq (st st':SortSt):Prop where
 kd:kindOf st'=kindOf st
 ar:arrOf st'=arrOf st
 pd:pendingOf st'=pendingOf st
 ok:failedOf st'=failedOf st
theorem Gq.refl (st:SortSt):Gq st st:=⟨rfl,rfl,rfl,rfl⟩
section
variable {κ : SortKind} {st : SortSt} {prog : Program} {w : World} {A : Around} {E : Value → Shared → Prop} {s : Shared} {Ok : Keyed → Prop}
theorem rR {st0:SortSt}{g:Nat}{Q:Unit->SortSt->Prop} (q:Gq st0 st) (h:∀ st',Gq st0 st'->Q () st'):wpS (model prog w) A E s (mJ g) Q st:=by
 rw [aC7]; exact wpS_modify (h _ ⟨q.kd,q.ar,q.pd,q.ok⟩)
def dR (rk:Keyed->Int) (x y r:Array Keyed):Prop:=r.toList.Perm (x.toList ++ y.toList)/\Sd rk r.toList
theorem MI.y1 {x y o:Array Keyed} (m:MI rk x.toList y.toList o.toList i j) (hj:j < y.size) (h:∀ t,i+t < x.size->rk y[j]<=Kr rk x (i+t)):MI rk x.toList y.toList (o.push y[j]).toList i (j+1):=by
 have:=m.ofy 1 fun u hu t ht=>?_
 ·rw [<- kS hj] at this; simpa using this
 ·rw [<- kS hj,bh6] at hu
  subst hu
  obtain ⟨q,q1,q2⟩:=oT (rk:=rk) ht
  rw [q2]; exact h q q1
theorem MI.x1 {x y o:Array Keyed} (m:MI rk x.toList y.toList o.toList i j) (hi:i < x.size) (h:∀ t,j+t < y.size->rk x[i]<=Kr rk y (j+t)):MI rk x.toList y.toList (o.push x[i]).toList (i+1) j:=by
 have:=m.ofx 1 fun u hu t ht=>?_
 ·rw [<- kS hi] at this; simpa using this
 ·rw [<- kS hi,bh6] at hu
  subst hu
  obtain ⟨q,q1,q2⟩:=oT (rk:=rk) ht
  rw [q2]; exact h q q1
theorem MI.yk {x y o:Array Keyed} (m:MI rk x.toList y.toList o.toList i j) (k:Nat) (h:∀ p t,p < k->j+p < y.size->i+t < x.size->Kr rk y (j+p)<=Kr rk x (i+t)):MI rk x.toList y.toList (o ++ y.extract j (j+k)).toList i (j+k):=by
 have:=m.ofy k fun u hu t ht=>?_
 ·rw [<- O2] at this; rw [bn0]; exact this
 ·obtain ⟨p,p1,p2,p3⟩:=O1 (rk:=rk) hu
  obtain ⟨q,q1,q2⟩:=oT (rk:=rk) ht
  rw [q2,p3]; exact h p q p1 p2 q1
theorem MI.xk {x y o:Array Keyed} (m:MI rk x.toList y.toList o.toList i j) (k:Nat) (h:∀ p t,p < k->i+p < x.size->j+t < y.size->Kr rk x (i+p)<=Kr rk y (j+t)):MI rk x.toList y.toList (o ++ x.extract i (i+k)).toList (i+k) j:=by
 have:=m.ofx k fun u hu t ht=>?_
 ·rw [<- O2] at this; rw [bn0]; exact this
 ·obtain ⟨p,p1,p2,p3⟩:=O1 (rk:=rk) hu
  obtain ⟨q,q1,q2⟩:=oT (rk:=rk) ht
  rw [q2,p3]; exact h p q p1 p2 q1
theorem mK {key:Keyed}{xs:Array Keyed}{bs i:Nat}:c8 rk false key xs bs i=decide (Kr rk xs (bs+i)<=rk key):=rfl
theorem mL {key:Keyed}{xs:Array Keyed}{bs i:Nat}:c8 rk true key xs bs i=decide (Kr rk xs (bs+i) < rk key):=rfl
def GI (rk:Keyed->Int) (x y:Array Keyed) (lb:Nat) (st:SortSt) (c:LS) (st':SortSt):Prop:=Gq st st'/\∃ o i j mg p q,c=(none,o,i,j,mg,p,q)/\MI rk x.toList y.toList o.toList i j/\i+1 < x.size/\j < y.size/\lb<=i+j
def GQ (rk:Keyed->Int) (x y:Array Keyed) (lb:Nat) (st:SortSt) (c:LS) (st':SortSt):Prop:=Gq st st'/\((∃ r o i j mg p q,c=(some r,o,i,j,mg,p,q)/\dR rk x y r) ∨ ∃ o i j mg p q,c=(none,o,i,j,mg,p,q)/\MI rk x.toList y.toList o.toList i j/\i+1 < x.size/\j < y.size/\lb<=i+j)
def GR (rk:Keyed->Int) (x y:Array Keyed) (lb:Nat) (st:SortSt) (r:ForInStep LS) (st':SortSt):Prop:=match r with | .done c=>GQ rk x y lb st c st' | .yield c=>GI rk x y lb st c st'
theorem MI.done {x y o:Array Keyed} (m:MI rk x.toList y.toList o.toList i j) (hh:x.size<=i ∨ y.size<=j):dR rk x y (o ++ x.extract i x.size ++ y.extract j y.size):=by
 unfold dR
 rw [bn0,bn0,rQ,rQ]
 exact m.fin (by simpa using hh)
theorem MI.last {x y o:Array Keyed} (m:MI rk x.toList y.toList o.toList i j) (x0:0 < x.size) (hl:∀ u ∈ y.toList,rk u<=rk x[x.size - 1]) (hh:i+1=x.size):dR rk x y (o ++ y.extract j y.size ++ x.extract i x.size):=by
 unfold dR
 rw [bn0,bn0,rQ,rQ]
 refine m.lst fun u hu t ht=>?_
 obtain ⟨q,q1,q2⟩:=oT (rk:=rk) ht
 have e:i+q=x.size - 1:=by omega
 rw [q2,e,cB (by omega)]
 exact hl u hu
theorem O3 {st0:SortSt}{x y o:Array Keyed}{mg p q lb:Nat} (x0:0 < x.size) (hl:∀ u ∈ y.toList,rk u<=rk x[x.size - 1]) (g:Gq st0 st) (m:MI rk x.toList y.toList o.toList i j) (hi:i+1 < x.size) (hj:j < y.size) (hb:lb<=i+j)
  (hm:∀ t,j+t < y.size->rk x[i]<=Kr rk y (j+t)):wpS (model prog w) A E s (rN x y o i j mg p q) (GR rk x y lb st0) st:=by
 unfold rN
 have hi':i < x.size:=by omega
 have m':=m.x1 hi' hm
 refine bg9 (cX hi' ?_)
 by_cases he:(i+1+1 == x.size)=true
 ·rw [if_pos he]
  have he:i+1+1=x.size:=by simpa using he
  exact bh7 ⟨g,.inl ⟨_,_,_,_,_,_,_,rfl,m'.last x0 hl he⟩⟩
 ·rw [if_neg he]
  have he:i+1+1 ≠ x.size:=by simpa using he
  split
  ·exact bh7 ⟨g,.inr ⟨_,_,_,_,_,_,rfl,m',by omega,hj,by omega⟩⟩
  ·exact bh7 ⟨g,_,_,_,_,_,_,rfl,m',by omega,hj,by omega⟩
theorem O4 (c:cM prog w A E s κ Ok rk) {st0:SortSt} (hk:kindOf st0=κ) {x y o:Array Keyed}{mg p q lb:Nat} (ox:bK Ok x) (oy:bK Ok y) (sx:Sd rk x.toList) (sy:Sd rk y.toList) (x0:0 < x.size) (hl:∀ u ∈ y.toList,rk u<=rk x[x.size - 1]) (g:Gq st0 st) (m:MI rk x.toList y.toList o.toList i j) (hi:i+1 < x.size) (hj:j < y.size) (hb:lb<=i+j)
  (hm:∀ t,i+t < x.size->rk y[j]<=Kr rk x (i+t)):wpS (model prog w) A E s (rO x y o i j mg p q) (GR rk x y lb st0) st:=by
 unfold rO
 have hi':i < x.size:=by omega
 have m':=m.y1 hj hm
 refine bg9 (cX hj ?_)
 by_cases he:(j+1 == y.size)=true
 ·rw [if_pos he]
  have he:j+1=y.size:=by simpa using he
  exact bh7 ⟨g,.inl ⟨_,_,_,_,_,_,_,rfl,m'.done (.inr (by omega))⟩⟩
 ·rw [if_neg he]
  have he:j+1 ≠ y.size:=by simpa using he
  refine bg9 (cX hi' (bg9 (mI c (g.kd.trans hk) (ox _ (bl5 hi')) oy (by omega) (by omega) (sy.up _ _ (by omega)) fun k k1 k2 k3=>?_)))
  dsimp only
  have ux:=sx.up 0 _ (bg1 x.size)
  have mk:=m'.yk k fun p t hp _ ht=>by
   have a1:=k2 p hp
   rw [mL,bj9] at a1
   have a2:=ux i (i+t) (by omega) (by omega) ht
   rw [cB hi'] at a2
   omega
  have km:∀ t,j+1+k+t < y.size->rk x[i]<=Kr rk y (j+1+k+t):=fun t ht=>by
   have a1:=k3 (k+t) (by omega) (by omega)
   rw [mL,bq8,<- Nat.add_assoc] at a1
   omega
  by_cases hk0:k > 0
  ·rw [if_pos hk0]
   by_cases hf:(j+1+k == y.size)=true
   ·rw [if_pos hf]
    have hf:j+1+k=y.size:=by simpa using hf
    exact bh7 ⟨g,.inl ⟨_,_,_,_,_,_,_,rfl,mk.done (.inr (by omega))⟩⟩
   ·rw [if_neg hf]
    have hf:j+1+k ≠ y.size:=by simpa using hf
    exact O3 x0 hl g mk hi (by omega) (by omega) km
  ·rw [if_neg hk0]
   have e0:k=0:=by omega
   subst e0
   exact O3 x0 hl g m' hi (by omega) (by omega) km
theorem O5 (c:cM prog w A E s κ Ok rk) {st0:SortSt} (hk:kindOf st0=κ) {x y o:Array Keyed}{mg p q lb:Nat} (ox:bK Ok x) (oy:bK Ok y) (sx:Sd rk x.toList) (sy:Sd rk y.toList) (x0:0 < x.size) (hl:∀ u ∈ y.toList,rk u<=rk x[x.size - 1]) (g:Gq st0 st) (m:MI rk x.toList y.toList o.toList i j) (hi:i+1 < x.size) (hj:j < y.size) (hb:lb<=i+j) :
  wpS (model prog w) A E s (rP x y o i j mg p q) (GR rk x y lb st0) st:=by
 unfold rP
 refine bg9 (rR g fun st4 q4=>bg9 (cX hj (bg9 (mI c (q4.kd.trans hk) (oy _ (bl5 hj)) ox (by omega) (by omega) (sx.up _ _ (by omega)) fun k k1 k2 k3=>?_))))
 dsimp only
 have uy:=sy.up 0 _ (bg1 y.size)
 have mk:=m.xk k fun p t hp _ ht=>by
  have a1:=k2 p hp
  rw [mK,bj9] at a1
  have a2:=uy j (j+t) (by omega) (by omega) ht
  rw [cB hj] at a2
  omega
 have km:∀ t,i+k+t < x.size->rk y[j]<=Kr rk x (i+k+t):=fun t ht=>by
  have a1:=k3 (k+t) (by omega) (by omega)
  rw [mK,bq8,<- Nat.add_assoc] at a1
  omega
 by_cases hk0:k > 0
 ·rw [if_pos hk0]
  by_cases he:(i+k+1 == x.size)=true
  ·rw [if_pos he]
   exact bh7 ⟨q4,.inl ⟨_,_,_,_,_,_,_,rfl,mk.last x0 hl (by simpa using he)⟩⟩
  ·rw [if_neg he]
   have he:i+k+1 ≠ x.size:=by simpa using he
   by_cases hf:(i+k == x.size)=true
   ·rw [if_pos hf]
    have hf:i+k=x.size:=by simpa using hf
    exact bh7 ⟨q4,.inl ⟨_,_,_,_,_,_,_,rfl,mk.done (.inl (by omega))⟩⟩
   ·rw [if_neg hf]
    have hf:i+k ≠ x.size:=by simpa using hf
    exact O4 c hk ox oy sx sy x0 hl q4 mk (by omega) hj (by omega) km
 ·rw [if_neg hk0]
  have e0:k=0:=by omega
  subst e0
  exact O4 c hk ox oy sx sy x0 hl q4 m hi hj hb km
theorem aC9 (c:cM prog w A E s κ Ok rk) {st0:SortSt} (hk:kindOf st0=κ) {x y o:Array Keyed}{mg p q lb:Nat} (ox:bK Ok x) (oy:bK Ok y) (sx:Sd rk x.toList) (sy:Sd rk y.toList) (x0:0 < x.size) (hl:∀ u ∈ y.toList,rk u<=rk x[x.size - 1]) (g:Gq st0 st) (m:MI rk x.toList y.toList o.toList i j) (hi:i+1 < x.size) (hj:j < y.size) (hb:lb<=i+j) :
  wpS (model prog w) A E s (wJ x y o i j mg p q) (GQ rk x y lb st0) st:=by
 unfold wJ
 refine bo9 (I:=fun _=>GI rk x y lb st0) ?_ ?_ ⟨g,o,i,j,_,p,q,rfl,m,hi,hj,hb⟩
 ·rintro t c3 st3 _ _ ⟨q3,o,i,j,mg,p,q,rfl,m,hi,hj,pr3⟩
  dsimp only
  split
  ·exact bv4 (O5 c hk ox oy sx sy x0 hl q3 m hi hj pr3) fun r _ hr=>by cases r <;> exact hr
  ·exact bv4 (O5 c hk ox oy sx sy x0 hl q3 m hi hj pr3) fun r _ hr=>by cases r <;> exact hr
 ·rintro c3 st3 ⟨q3,o,i,j,mg,p,q,rfl,m,hi,hj,pr3⟩
  exact⟨q3,.inr ⟨_,_,_,_,_,_,rfl,m,hi,hj,pr3⟩⟩
theorem aD0 (c:cM prog w A E s κ Ok rk) {st0:SortSt} (hk:kindOf st0=κ) {x y o:Array Keyed}{mg:Nat}{Q:wI->SortSt->Prop} (ox:bK Ok x) (oy:bK Ok y) (sx:Sd rk x.toList) (sy:Sd rk y.toList) (x0:0 < x.size) (hl:∀ u ∈ y.toList,rk u<=rk x[x.size - 1]) (g:Gq st0 st) (m:MI rk x.toList y.toList o.toList i j) (hi:i+1 < x.size) (hj:j < y.size)
  (h1:∀ r o' i' j' p q st',Gq st0 st'->dR rk x y r->Q (some r,o',i',j',p,q) st')
  (h2:∀ o' i' j' p q st',Gq st0 st'->MI rk x.toList y.toList o'.toList i' j'->i'+1 < x.size->j' < y.size->i+j+1<=i'+j'->Q (none,o',i',j',p,q) st') :
  wpS (model prog w) A E s (wK x y o i j mg) Q st:=by
 have ux:Up rk x 0 x.size:=sx.up 0 _ (bg1 _)
 have uy:Up rk y 0 y.size:=sy.up 0 _ (bg1 _)
 unfold wK
 refine bo9 (I:=fun t c st'=>Gq st0 st'/\∃ o i' j' p q,c=(none,o,i',j',p,q)/\MI rk x.toList y.toList o.toList i' j'/\i'+1 < x.size/\j' < y.size/\i+j+t<=i'+j') ?_ ?_ ⟨g,o,i,j,0,0,rfl,m,hi,hj,by omega⟩
 ·rintro t c2 st2 _ ht ⟨q2,o,i',j',p,q,rfl,m,hi,hj,pr2⟩
  dsimp only
  have hi':i' < x.size:=by omega
  refine bg9 (cX hj (bg9 (cX hi' (bg9 (c _ _ (oy _ (bl5 hj)) (ox _ (bl5 hi')) st2 _ (q2.kd.trans hk) ?_)))))
  by_cases hc:rk y[j'] < rk x[i']
  ·rw [bg3 hc]
   dsimp only
   rw [if_pos rfl]
   have m':=m.y1 hj fun t ht=>by
    have:=ux i' (i'+t) (by omega) (by omega) ht
    rw [cB hi'] at this
    omega
   refine bg9 (cX hj ?_)
   by_cases he:(j'+1 == y.size)=true
   ·rw [if_pos he]
    have he:j'+1=y.size:=by simpa using he
    exact bh7 (h1 _ _ _ _ _ _ _ q2 (m'.done (.inr (by omega))))
   ·rw [if_neg he]
    have he:j'+1 ≠ y.size:=by simpa using he
    split
    ·exact bh7 (h2 _ _ _ _ _ _ q2 m' hi (by omega) (by omega))
    ·exact bh7 ⟨q2,_,_,_,_,_,rfl,m',hi,by omega,by omega⟩
  ·rw [bg2 hc]
   dsimp only
   rw [if_neg bh8]
   have m':=m.x1 hi' fun t ht=>by
    have:=uy j' (j'+t) (by omega) (by omega) ht
    rw [cB hj] at this
    omega
   refine bg9 (cX hi' ?_)
   by_cases he:(i'+1+1 == x.size)=true
   ·rw [if_pos he]
    exact bh7 (h1 _ _ _ _ _ _ _ q2 (m'.last x0 hl (by simpa using he)))
   ·rw [if_neg he]
    have he:i'+1+1 ≠ x.size:=by simpa using he
    split
    ·exact bh7 (h2 _ _ _ _ _ _ q2 m' (by omega) hj (by omega))
    ·exact bh7 ⟨q2,_,_,_,_,_,rfl,m',by omega,hj,by omega⟩
 ·rintro c2 st2 ⟨q2,o,i',j',p,q,rfl,m,hi,hj,pr2⟩
  exact h2 _ _ _ _ _ _ q2 m hi hj (by omega)
theorem aD1 (c:cM prog w A E s κ Ok rk) (hk:kindOf st=κ) {x y:Array Keyed}{Q:Array Keyed->SortSt->Prop} (ox:bK Ok x) (oy:bK Ok y) (sx:Sd rk x.toList) (sy:Sd rk y.toList) (x0:0 < x.size) (y0:0 < y.size)
  (hf:∀ t ∈ x.toList,rk y[0]<=rk t) (hl:∀ u ∈ y.toList,rk u<=rk x[x.size - 1])
  (h:∀ r st',Gq st st'->dR rk x y r->Q r st'):wpS (model prog w) A E s (wH x y) Q st:=by
 rw [aC8]
 refine bg9 (wpS_lift (bs2 ⟨rfl,bg9 (cX y0 ?_)⟩))
 have m0:MI rk x.toList y.toList (#[y[0]]:Array Keyed).toList 0 1:=by
  have mm:MI rk x.toList y.toList [] 0 0:=⟨by simp,sx,sy⟩
  have:=mm.ofy 1 fun u hu t ht=>?_
  ·rw [<- kS y0] at this; exact this
  ·rw [<- kS y0,bh6] at hu
   subst hu
   exact hf t ht
 by_cases e1:(1 == y.size)=true
 ·rw [if_pos e1]
  have e1:1=y.size:=by simpa using e1
  exact bh7 (h _ st (Gq.refl st) (m0.done (.inr (by omega))))
 ·rw [if_neg e1]
  have e1:1 ≠ y.size:=by simpa using e1
  by_cases e2:(0+1 == x.size)=true
  ·rw [if_pos e2]
   exact bh7 (h _ st (Gq.refl st) (m0.last x0 hl (by simpa using e2)))
  ·rw [if_neg e2]
   have e2:0+1 ≠ x.size:=by simpa using e2
   refine bg9 (wpS_get ?_)
   unfold O0
   refine bg9 (bv4 (bo9
    (I:=fun n c st'=>Gq st st'/\∃ o i j mg,c=(none,o,i,j,mg)/\MI rk x.toList y.toList o.toList i j/\i+1 < x.size/\j < y.size/\n+1<=i+j)
    (Q:=fun c st'=>Gq st st'/\∃ r o i j mg,c=(some r,o,i,j,mg)/\dR rk x y r) ?_ ?_ ⟨Gq.refl st,_,0,1,_,rfl,m0,by omega,by omega,by omega⟩) ?_)
   ·rintro n c1 st1 _ hn ⟨q1,o,i,j,mg,rfl,m,hi,hj,pr⟩
    dsimp only
    refine bg9 (aD0 c hk ox oy sx sy x0 hl q1 m hi hj (fun r o' i' j' p q st' g md=>bh7 ⟨g,r,_,_,_,_,rfl,md⟩) fun o' i' j' p q st' g m' hi' hj' pr'=>?_)
    refine bg9 (wpS_lift (bs2 ⟨rfl,?_⟩))
    refine bg9 (bv4 (aC9 c hk ox oy sx sy x0 hl g m' hi' hj' pr') ?_)
    rintro c3 st3 ⟨q3,⟨r,o,i3,j3,mg,p,q,rfl,md⟩ | ⟨o,i3,j3,mg,p,q,rfl,m,hi,hj,pr3⟩⟩
    ·exact bh7 ⟨q3,r,_,_,_,_,rfl,md⟩
    ·exact bg9 (rR q3 fun st4 q4=>bh7 ⟨q4,o,i3,j3,_,rfl,m,hi,hj,by omega⟩)
   ·rintro c1 st1 ⟨q1,o,i,j,mg,rfl,m,hi,hj,pr⟩
    exact absurd pr (by omega)
   ·rintro c1 st1 ⟨q1,r,o,i,j,mg,rfl,md⟩
    exact bh7 (h r _ q1 md)
end
def wL:Array Keyed->Array Keyed->StateT SortSt Sem (Array Keyed):=sortPriv% PySem.Builtin.mergeHi
abbrev LH:=Option (Array Keyed) × Nat × Nat × Array Keyed × Nat × Nat × Nat
abbrev wM:=Option (Array Keyed) × Nat × Nat × Array Keyed × Nat × Nat
abbrev LP:=Option (Array Keyed) × Nat × Nat × Array Keyed × Nat
def rS (x y o:Array Keyed) (i j mg p q:Nat):StateT SortSt Sem (ForInStep LH):=do
 let v <- elem' x (i - 1)
 if (i - 1 == 0)=true then pure (.done (some (x.extract 0 (i - 1) ++ y.extract 0 j ++ (o.push v).reverse),i - 1,j,o.push v,mg,p,q))
 else if (decide (p < 7) && decide (q < 7))=true then pure (.done (none,i - 1,j,o.push v,mg,p,q)) else pure (.yield (none,i - 1,j,o.push v,mg,p,q))
def rT (x y o:Array Keyed) (i j mg p q:Nat):StateT SortSt Sem (ForInStep LH):=do
 let v <- elem' y (j - 1)
 if (j - 1 == 1)=true then pure (.done (some (y.extract 0 (j - 1) ++ x.extract 0 i ++ (o.push v).reverse),i,j - 1,o.push v,mg,p,q)) else do
  let u <- elem' x (i - 1)
  match <- jV true u y 0 (j - 1) (j - 1 - 1) with
  | some z=>
   if j - 1 - z > 0 then
    if (z == 1)=true then pure (.done (some (y.extract 0 z ++ x.extract 0 i ++ (o.push v ++ (y.extract z (j - 1)).reverse).reverse),i,z,o.push v ++ (y.extract z (j - 1)).reverse,mg,p,j - 1 - z))
    else if (z == 0)=true then pure (.done (some (x.extract 0 i ++ y.extract 0 z ++ (o.push v ++ (y.extract z (j - 1)).reverse).reverse),i,z,o.push v ++ (y.extract z (j - 1)).reverse,mg,p,j - 1 - z))
    else rS x y (o.push v ++ (y.extract z (j - 1)).reverse) i z mg p (j - 1 - z)
   else rS x y (o.push v) i (j - 1) mg p (j - 1 - z)
  | _=>pure (.done (some (x.extract 0 i ++ y.extract 0 (j - 1) ++ (o.push v).reverse),i,j - 1,o.push v,mg,p,q))
def rV (x y o:Array Keyed) (i j mg p q:Nat):StateT SortSt Sem (ForInStep LH):=do
 mJ mg
 let v <- elem' y (j - 1)
 match <- jV false v x 0 i (i - 1) with
 | some z=>
  if i - z > 0 then
   if (z == 0)=true then pure (.done (some (x.extract 0 z ++ y.extract 0 j ++ (o ++ (x.extract z i).reverse).reverse),z,j,o ++ (x.extract z i).reverse,mg,i - z,q))
   else rT x y (o ++ (x.extract z i).reverse) z j mg (i - z) q
  else rT x y o i j mg (i - z) q
 | _=>pure (.done (some (x.extract 0 i ++ y.extract 0 j ++ o.reverse),i,j,o,mg,p,q))
def wN (x y o:Array Keyed) (i j mg p q:Nat):StateT SortSt Sem LH:=forIn [0:x.size+y.size] ((none,i,j,o,mg,p,q):LH) fun _ r=>
 if r.2.2.2.2.1 > 1 then rV x y r.2.2.2.1 r.2.1 r.2.2.1 (r.2.2.2.2.1 - 1) r.2.2.2.2.2.1 r.2.2.2.2.2.2 else rV x y r.2.2.2.1 r.2.1 r.2.2.1 r.2.2.2.2.1 r.2.2.2.2.2.1 r.2.2.2.2.2.2
def mM (x y o:Array Keyed) (i j mg:Nat):StateT SortSt Sem wM:=forIn [0:x.size+y.size] ((none,i,j,o,0,0):wM) fun _ r=>do
 let v <- elem' y (r.2.2.1 - 1)
 let u <- elem' x (r.2.1 - 1)
 match <- lt' v u with
 | some q=>
  if q=true then do
   let u <- elem' x (r.2.1 - 1)
   if (r.2.1 - 1 == 0)=true then pure (.done (some (x.extract 0 (r.2.1 - 1) ++ y.extract 0 r.2.2.1 ++ (r.2.2.2.1.push u).reverse),r.2.1 - 1,r.2.2.1,r.2.2.2.1.push u,r.2.2.2.2.1+1,0))
   else if r.2.2.2.2.1+1 >= mg then pure (.done (none,r.2.1 - 1,r.2.2.1,r.2.2.2.1.push u,r.2.2.2.2.1+1,0)) else pure (.yield (none,r.2.1 - 1,r.2.2.1,r.2.2.2.1.push u,r.2.2.2.2.1+1,0))
  else do
   let v <- elem' y (r.2.2.1 - 1)
   if (r.2.2.1 - 1 == 1)=true then pure (.done (some (y.extract 0 (r.2.2.1 - 1) ++ x.extract 0 r.2.1 ++ (r.2.2.2.1.push v).reverse),r.2.1,r.2.2.1 - 1,r.2.2.2.1.push v,0,r.2.2.2.2.2+1))
   else if r.2.2.2.2.2+1 >= mg then pure (.done (none,r.2.1,r.2.2.1 - 1,r.2.2.2.1.push v,0,r.2.2.2.2.2+1)) else pure (.yield (none,r.2.1,r.2.2.1 - 1,r.2.2.2.1.push v,0,r.2.2.2.2.2+1))
 | _=>pure (.done (some (x.extract 0 r.2.1 ++ y.extract 0 r.2.2.1 ++ r.2.2.2.1.reverse),r.2.1,r.2.2.1,r.2.2.2.1,r.2.2.2.2.1,r.2.2.2.2.2))
def O6 (x y o:Array Keyed) (i j mg:Nat):StateT SortSt Sem LP:=forIn [0:x.size+y.size] ((none,i,j,o,mg):LP) fun _ r=>do
 let u <- mM x y r.2.2.2.1 r.2.1 r.2.2.1 r.2.2.2.2
 match u.1 with
 | some z=>pure (.done (some z,u.2.1,u.2.2.1,u.2.2.2.1,r.2.2.2.2))
 | none=>do
  liftM (rule "list.sort.gallop")
  let v <- wN x y u.2.2.2.1 u.2.1 u.2.2.1 (r.2.2.2.2+1) u.2.2.2.2.1 u.2.2.2.2.2
  match v.1 with
  | some z=>pure (.done (some z,v.2.1,v.2.2.1,v.2.2.2.1,v.2.2.2.2.1))
  | none=>do
   mJ (v.2.2.2.2.1+1)
   pure (.yield (none,v.2.1,v.2.2.1,v.2.2.2.1,v.2.2.2.2.1+1))
theorem aD2 (x y:Array Keyed):wL x y=(do
 liftM (rule "list.sort.merge-hi")
 let v <- elem' x (x.size - 1)
 if (x.size - 1 == 0)=true then pure (x.extract 0 (x.size - 1) ++ y.extract 0 y.size ++ (#[v]:Array Keyed).reverse)
 else if (y.size == 1)=true then pure (y.extract 0 y.size ++ x.extract 0 (x.size - 1) ++ (#[v]:Array Keyed).reverse)
 else do
  let z <- get
  let r <- O6 x y #[v] (x.size - 1) y.size (gallopOf z)
  match r.1 with
  | some z=>pure z
  | none=>unsupported "internal:list.sort.merge-bound"):=by kernel_rfl
structure MH (rk:Keyed->Int) (xs ys o:List Keyed) (i j:Nat):Prop where
 pm:o.Perm (xs.drop i ++ ys.drop j)
 sx:Sd rk (xs.take i ++ o)
 sy:Sd rk (ys.take j ++ o)
variable {rk : Keyed → Int} {xs ys o : List Keyed} {i j : Nat}
theorem Sd.insR {o a b d:List Keyed} (h1:Sd rk (a ++ o)) (h2:Sd rk ((d ++ b) ++ o)) (h:∀ t ∈ a,∀ u ∈ b,rk t<=rk u):Sd rk (a ++ (b ++ o)):=by
 unfold Sd at *
 obtain ⟨p1,p2,p3⟩:=bk8.mp h1
 obtain ⟨q1,q2,q3⟩:=bk8.mp h2
 obtain ⟨r1,r2,r3⟩:=bk8.mp q1
 refine bk8.mpr ⟨p1,bk8.mpr ⟨r2,p2,fun u hu t ht=>q3 u (bk2 _ hu) t ht⟩,fun u hu t ht=>?_⟩
 rcases bk1.mp ht with z | z
 ·exact h u hu t z
 ·exact p3 u hu t z
theorem rW (l:List Keyed) {z j:Nat} (h:z<=j):l.take z ++ (l.take j).drop z=l.take j:=by
 have e:l.take z=(l.take j).take z:=by rw [List.take_take,Nat.min_eq_left h]
 rw [e]; exact bj3 z _
theorem wO (l:List Keyed) {z j:Nat} (h:z<=j):(l.take j).drop z ++ l.drop j=l.drop z:=by
 rw [bw4,show l.drop j=(l.drop z).drop (j - z) by rw [List.drop_drop,Nat.add_sub_cancel' h]]
 exact bj3 _ _
theorem MH.ofy (m:MH rk xs ys o i j) {z:Nat} (hz:z<=j) (h:∀ t ∈ xs.take i,∀ u ∈ (ys.take j).drop z,rk t<=rk u):MH rk xs ys ((ys.take j).drop z ++ o) i z:=by
 refine⟨?_,Sd.insR m.sx (d:=ys.take z) (by rw [rW _ hz]; exact m.sy) h,by rw [<- bi4,rW _ hz]; exact m.sy⟩
 rw [<- wO ys hz]
 refine (m.pm.append_left _).trans ?_
 rw [<- bi4,<- bi4]
 exact (List.perm_append_comm).append_right _
theorem MH.ofx (m:MH rk xs ys o i j) {z:Nat} (hz:z<=i) (h:∀ t ∈ ys.take j,∀ u ∈ (xs.take i).drop z,rk t<=rk u):MH rk xs ys ((xs.take i).drop z ++ o) z j:=by
 refine⟨?_,by rw [<- bi4,rW _ hz]; exact m.sx,Sd.insR m.sy (d:=xs.take z) (by rw [rW _ hz]; exact m.sx) h⟩
 rw [<- wO xs hz,bi4]
 exact m.pm.append_left _
theorem MH.fin (m:MH rk xs ys o i j) (h:i=0 ∨ j=0):(xs.take i ++ ys.take j ++ o).Perm (xs ++ ys)/\Sd rk (xs.take i ++ ys.take j ++ o):=by
 refine⟨?_,?_⟩
 ·have e1:xs=xs.take i ++ xs.drop i:=(bj3 i xs).symm
  have e2:ys=ys.take j ++ ys.drop j:=(bj3 j ys).symm
  conv=>rhs; rw [e1,e2]
  rw [bi4,bi4]
  refine List.Perm.append_left _ ((m.pm.append_left _).trans ?_)
  rw [<- bi4,<- bi4]
  exact (List.perm_append_comm).append_right _
 ·rcases h with h | h
  ·subst h; simpa using m.sy
  ·subst h; simpa using m.sx
theorem MH.fst (m:MH rk xs ys o i j) (h:∀ t ∈ ys.take j,∀ u ∈ xs,rk t<=rk u):(ys.take j ++ xs.take i ++ o).Perm (xs ++ ys)/\Sd rk (ys.take j ++ xs.take i ++ o):=by
 have m2:=m.ofx (bk5 i) fun t ht u hu=>h t ht u (List.mem_of_mem_take (List.mem_of_mem_drop hu))
 have f:=m2.fin (.inl rfl)
 simpa using f
theorem oU {x:Array Keyed}{i:Nat}{u:Keyed} (h:u ∈ x.toList.take i):∃ t,t < i/\t < x.size/\rk u=Kr rk x t:=by
 obtain ⟨t,ht,e⟩:=bo1 h
 have h1:t < i/\t < x.size:=by simp at ht; omega
 refine⟨t,h1.1,h1.2,?_⟩
 rw [cB h1.2,<- e]
 simp
theorem oV {x:Array Keyed}{z i:Nat}{u:Keyed} (h:u ∈ (x.toList.take i).drop z):∃ t,z<=t/\t < i/\t < x.size/\rk u=Kr rk x t:=by
 obtain ⟨t,ht,e⟩:=bo1 h
 have h1:z+t < i/\z+t < x.size:=by simp at ht; omega
 refine⟨z+t,by omega,h1.1,h1.2,?_⟩
 rw [cB h1.2,<- e]
 simp
theorem kT (x:Array Keyed) (z i:Nat):(x.extract z i).toList=(x.toList.take i).drop z:=by
 rw [bw4]; simp [List.extract]
theorem rX (x:Array Keyed) (i:Nat):(x.extract 0 i).toList=x.toList.take i:=by
 simp [List.extract]
theorem oW {x:Array Keyed}{i:Nat} (h:i < x.size) : [x[i]]=(x.toList.take (i+1)).drop i:=by
 rw [bw4,kS h,show i+1 - i=1 by omega]
section
variable {κ : SortKind} {st : SortSt} {prog : Program} {w : World} {A : Around} {E : Value → Shared → Prop} {s : Shared} {Ok : Keyed → Prop}
theorem MH.y1 {x y o:Array Keyed} (m:MH rk x.toList y.toList o.toList.reverse i (j+1)) (hj:j < y.size) (h:∀ t,t < i->t < x.size->Kr rk x t<=rk y[j]):MH rk x.toList y.toList (o.push y[j]).toList.reverse i j:=by
 have:=m.ofy (Nat.le_succ j) fun t ht u hu=>?_
 ·rw [<- oW hj] at this; simpa using this
 ·rw [<- oW hj,bh6] at hu
  subst hu
  obtain ⟨q,q1,q2,q3⟩:=oU (rk:=rk) ht
  rw [q3]; exact h q q1 q2
theorem MH.x1 {x y o:Array Keyed} (m:MH rk x.toList y.toList o.toList.reverse (i+1) j) (hi:i < x.size) (h:∀ t,t < j->t < y.size->Kr rk y t<=rk x[i]):MH rk x.toList y.toList (o.push x[i]).toList.reverse i j:=by
 have:=m.ofx (Nat.le_succ i) fun t ht u hu=>?_
 ·rw [<- oW hi] at this; simpa using this
 ·rw [<- oW hi,bh6] at hu
  subst hu
  obtain ⟨q,q1,q2,q3⟩:=oU (rk:=rk) ht
  rw [q3]; exact h q q1 q2
theorem MH.yk {x y o:Array Keyed} (m:MH rk x.toList y.toList o.toList.reverse i j) {z:Nat} (hz:z<=j) (h:∀ t p,t < i->t < x.size->z<=p->p < j->p < y.size->Kr rk x t<=Kr rk y p):MH rk x.toList y.toList (o ++ (y.extract z j).reverse).toList.reverse i z:=by
 have:=m.ofy hz fun t ht u hu=>?_
 ·rw [<- kT] at this; simpa using this
 ·obtain ⟨q,q1,q2,q3⟩:=oU (rk:=rk) ht
  obtain ⟨p,p1,p2,p3,p4⟩:=oV (rk:=rk) hu
  rw [q3,p4]; exact h q p q1 q2 p1 p2 p3
theorem MH.xk {x y o:Array Keyed} (m:MH rk x.toList y.toList o.toList.reverse i j) {z:Nat} (hz:z<=i) (h:∀ t p,t < j->t < y.size->z<=p->p < i->p < x.size->Kr rk y t<=Kr rk x p):MH rk x.toList y.toList (o ++ (x.extract z i).reverse).toList.reverse z j:=by
 have:=m.ofx hz fun t ht u hu=>?_
 ·rw [<- kT] at this; simpa using this
 ·obtain ⟨q,q1,q2,q3⟩:=oU (rk:=rk) ht
  obtain ⟨p,p1,p2,p3,p4⟩:=oV (rk:=rk) hu
  rw [q3,p4]; exact h q p q1 q2 p1 p2 p3
theorem MH.done {x y o:Array Keyed} (m:MH rk x.toList y.toList o.toList.reverse i j) (hh:i=0 ∨ j=0):dR rk x y (x.extract 0 i ++ y.extract 0 j ++ o.reverse):=by
 unfold dR
 rw [bn0,bn0,rX,rX,Array.toList_reverse]
 exact m.fin hh
theorem MH.frst {x y o:Array Keyed} (m:MH rk x.toList y.toList o.toList.reverse i j) (y0:0 < y.size) (hf:∀ t ∈ x.toList,rk y[0]<=rk t) (hh:j=1):dR rk x y (y.extract 0 j ++ x.extract 0 i ++ o.reverse):=by
 unfold dR
 rw [bn0,bn0,rX,rX,Array.toList_reverse]
 refine m.fst fun t ht u hu=>?_
 subst hh
 obtain ⟨q,q1,q2,q3⟩:=oU (rk:=rk) ht
 have e:q=0:=by omega
 subst e
 rw [q3,cB y0]
 exact hf u hu
structure HB (rk:Keyed->Int) (x y:Array Keyed) (lb i j:Nat) (o:Array Keyed):Prop where
 m:MH rk x.toList y.toList o.toList.reverse i j
 i0:0 < i
 i1:i < x.size
 j0:1 < j
 j1:j<=y.size
 pr:i+j+lb<=x.size+y.size
def HI (rk:Keyed->Int) (x y:Array Keyed) (lb:Nat) (st:SortSt) (c:LH) (st':SortSt):Prop:=Gq st st'/\∃ i j o mg p q,c=(none,i,j,o,mg,p,q)/\HB rk x y lb i j o
def HQ (rk:Keyed->Int) (x y:Array Keyed) (lb:Nat) (st:SortSt) (c:LH) (st':SortSt):Prop:=Gq st st'/\((∃ r i j o mg p q,c=(some r,i,j,o,mg,p,q)/\dR rk x y r) ∨ ∃ i j o mg p q,c=(none,i,j,o,mg,p,q)/\HB rk x y lb i j o)
def HR (rk:Keyed->Int) (x y:Array Keyed) (lb:Nat) (st:SortSt) (r:ForInStep LH) (st':SortSt):Prop:=match r with | .done c=>HQ rk x y lb st c st' | .yield c=>HI rk x y lb st c st'
theorem O7 {st0:SortSt}{x y o:Array Keyed}{i j mg p q lb:Nat} (g:Gq st0 st) (b:HB rk x y lb (i+1) j o) (hm:∀ (hi:i < x.size) t,t < j->t < y.size->Kr rk y t<=rk x[i]):wpS (model prog w) A E s (rS x y o (i+1) j mg p q) (HR rk x y lb st0) st:=by
 unfold rS
 obtain ⟨m,i0,i1,j0,j1,pr⟩:=b
 have hi':i < x.size:=by omega
 have m':=m.x1 hi' (hm hi')
 simp only [Nat.add_sub_cancel]
 refine bg9 (cX hi' ?_)
 by_cases he:(i == 0)=true
 ·rw [if_pos he]
  have he:i=0:=by simpa using he
  exact bh7 ⟨g,.inl ⟨_,_,_,_,_,_,_,rfl,m'.done (.inl he)⟩⟩
 ·rw [if_neg he]
  have he:i ≠ 0:=by simpa using he
  split
  ·exact bh7 ⟨g,.inr ⟨_,_,_,_,_,_,rfl,m',by omega,by omega,j0,j1,by omega⟩⟩
  ·exact bh7 ⟨g,_,_,_,_,_,_,rfl,m',by omega,by omega,j0,j1,by omega⟩
theorem O8 (c:cM prog w A E s κ Ok rk) {st0:SortSt} (hk:kindOf st0=κ) {x y o:Array Keyed}{i j mg p q lb:Nat} (ox:bK Ok x) (oy:bK Ok y) (sx:Sd rk x.toList) (sy:Sd rk y.toList) (y0:0 < y.size) (hf:∀ t ∈ x.toList,rk y[0]<=rk t) (g:Gq st0 st) (b:HB rk x y lb (i+1) (j+1) o)
  (hm:∀ (hj:j < y.size) t,t < i+1->t < x.size->Kr rk x t<=rk y[j]):wpS (model prog w) A E s (rT x y o (i+1) (j+1) mg p q) (HR rk x y lb st0) st:=by
 unfold rT
 obtain ⟨m,i0,i1,j0,j1,pr⟩:=b
 have hi':i < x.size:=by omega
 have hj:j < y.size:=by omega
 have m':=m.y1 hj (hm hj)
 simp only [Nat.add_sub_cancel]
 refine bg9 (cX hj ?_)
 by_cases he:(j == 1)=true
 ·rw [if_pos he]
  have he:j=1:=by simpa using he
  exact bh7 ⟨g,.inl ⟨_,_,_,_,_,_,_,rfl,m'.frst y0 hf he⟩⟩
 ·rw [if_neg he]
  have he:j ≠ 1:=by simpa using he
  refine bg9 (cX hi' (bg9 (mI c (g.kd.trans hk) (ox _ (bl5 hi')) oy (by omega) (by omega) (sy.up _ _ (by omega)) fun z k1 k2 k3=>?_)))
  dsimp only
  have ux:=sx.up 0 _ (bg1 x.size)
  have mk:=m'.yk k1 fun t p ht ht' hp hp' _=>by
   have a1:=k3 p hp hp'
   rw [mL,bq8,Nat.zero_add] at a1
   have a2:=ux t i (by omega) (by omega) hi'
   rw [cB (i:=i) hi'] at a2
   omega
  have km:∀ (hi:i < x.size) t,t < z->t < y.size->Kr rk y t<=rk x[i]:=fun _ t ht _=>by
   have a1:=k2 t ht
   rw [mL,bj9,Nat.zero_add] at a1
   omega
  by_cases hk0:j - z > 0
  ·rw [if_pos hk0]
   by_cases h1:(z == 1)=true
   ·rw [if_pos h1]
    have h1:z=1:=by simpa using h1
    exact bh7 ⟨g,.inl ⟨_,_,_,_,_,_,_,rfl,mk.frst y0 hf h1⟩⟩
   ·rw [if_neg h1]
    have h1:z ≠ 1:=by simpa using h1
    by_cases h0:(z == 0)=true
    ·rw [if_pos h0]
     have h0:z=0:=by simpa using h0
     exact bh7 ⟨g,.inl ⟨_,_,_,_,_,_,_,rfl,mk.done (.inr h0)⟩⟩
    ·rw [if_neg h0]
     have h0:z ≠ 0:=by simpa using h0
     exact O7 g ⟨mk,by omega,i1,by omega,by omega,by omega⟩ km
  ·rw [if_neg hk0]
   have e0:z=j:=by omega
   subst e0
   exact O7 g ⟨m',by omega,i1,by omega,by omega,by omega⟩ km
theorem O9 (c:cM prog w A E s κ Ok rk) {st0:SortSt} (hk:kindOf st0=κ) {x y o:Array Keyed}{i j mg p q lb:Nat} (ox:bK Ok x) (oy:bK Ok y) (sx:Sd rk x.toList) (sy:Sd rk y.toList) (y0:0 < y.size) (hf:∀ t ∈ x.toList,rk y[0]<=rk t) (g:Gq st0 st) (b:HB rk x y lb i (j+1) o) :
  wpS (model prog w) A E s (rV x y o i (j+1) mg p q) (HR rk x y lb st0) st:=by
 unfold rV
 obtain ⟨m,i0,i1,j0,j1,pr⟩:=b
 have hj:j < y.size:=by omega
 simp only [Nat.add_sub_cancel]
 refine bg9 (rR g fun st4 q4=>bg9 (cX hj (bg9 (mI c (q4.kd.trans hk) (oy _ (bl5 hj)) ox (by omega) (by omega) (sx.up _ _ (by omega)) fun z k1 k2 k3=>?_))))
 dsimp only
 have uy:=sy.up 0 _ (bg1 y.size)
 have mk:=m.xk k1 fun t p ht ht' hp hp' _=>by
  have a1:=k3 p hp hp'
  rw [mK,bq8,Nat.zero_add] at a1
  have a2:=uy t j (by omega) (by omega) hj
  rw [cB (i:=j) hj] at a2
  omega
 have km:∀ (hj:j < y.size) t,t < z->t < x.size->Kr rk x t<=rk y[j]:=fun _ t ht _=>by
  have a1:=k2 t ht
  rw [mK,bj9,Nat.zero_add] at a1
  exact a1
 by_cases hk0:i - z > 0
 ·rw [if_pos hk0]
  by_cases he:(z == 0)=true
  ·rw [if_pos he]
   exact bh7 ⟨q4,.inl ⟨_,_,_,_,_,_,_,rfl,mk.done (.inl (by simpa using he))⟩⟩
  ·rw [if_neg he]
   have he:z ≠ 0:=by simpa using he
   obtain ⟨z2,rfl⟩:∃ z2,z=z2+1:=⟨z - 1,by omega⟩
   exact O8 c hk ox oy sx sy y0 hf q4 ⟨mk,by omega,by omega,j0,j1,by omega⟩ km
 ·rw [if_neg hk0]
  have e0:z=i:=by omega
  subst e0
  obtain ⟨z2,rfl⟩:∃ z2,z=z2+1:=⟨z - 1,by omega⟩
  exact O8 c hk ox oy sx sy y0 hf q4 ⟨m,i0,i1,j0,j1,pr⟩ km
theorem aD3 (c:cM prog w A E s κ Ok rk) {st0:SortSt} (hk:kindOf st0=κ) {x y o:Array Keyed}{i j mg p q lb:Nat} (ox:bK Ok x) (oy:bK Ok y) (sx:Sd rk x.toList) (sy:Sd rk y.toList) (y0:0 < y.size) (hf:∀ t ∈ x.toList,rk y[0]<=rk t) (g:Gq st0 st) (b:HB rk x y lb i j o) :
  wpS (model prog w) A E s (wN x y o i j mg p q) (HQ rk x y lb st0) st:=by
 unfold wN
 refine bo9 (I:=fun _=>HI rk x y lb st0) ?_ ?_ ⟨g,i,j,o,_,p,q,rfl,b⟩
 ·rintro t c3 st3 _ _ ⟨q3,i,j,o,mg,p,q,rfl,b3⟩
  obtain ⟨j3,rfl⟩:∃ j3,j=j3+1:=⟨j - 1,by have:=b3.j0; omega⟩
  dsimp only
  split
  ·exact bv4 (O9 c hk ox oy sx sy y0 hf q3 b3) fun r _ hr=>by cases r <;> exact hr
  ·exact bv4 (O9 c hk ox oy sx sy y0 hf q3 b3) fun r _ hr=>by cases r <;> exact hr
 ·rintro c3 st3 ⟨q3,i,j,o,mg,p,q,rfl,b3⟩
  exact⟨q3,.inr ⟨_,_,_,_,_,_,rfl,b3⟩⟩
theorem aD4 (c:cM prog w A E s κ Ok rk) {st0:SortSt} (hk:kindOf st0=κ) {x y o:Array Keyed}{i j mg n:Nat}{Q:wM->SortSt->Prop} (ox:bK Ok x) (oy:bK Ok y) (sx:Sd rk x.toList) (sy:Sd rk y.toList) (y0:0 < y.size) (hf:∀ t ∈ x.toList,rk y[0]<=rk t) (g:Gq st0 st) (b:HB rk x y n i j o)
  (h1:∀ r i' j' o' p q st',Gq st0 st'->dR rk x y r->Q (some r,i',j',o',p,q) st') (h2:∀ i' j' o' p q st',Gq st0 st'->HB rk x y (n+1) i' j' o'->Q (none,i',j',o',p,q) st') :
  wpS (model prog w) A E s (mM x y o i j mg) Q st:=by
 have ux:Up rk x 0 x.size:=sx.up 0 _ (bg1 _)
 have uy:Up rk y 0 y.size:=sy.up 0 _ (bg1 _)
 unfold mM
 refine bo9 (I:=fun t c st'=>Gq st0 st'/\∃ i j o p q,c=(none,i,j,o,p,q)/\HB rk x y (n+t) i j o) ?_ ?_ ⟨g,i,j,o,0,0,rfl,b⟩
 ·rintro t c2 st2 _ ht ⟨q2,i',j',o,p,q,rfl,m,i0,i1,j0,j1,pr⟩
  obtain ⟨i2,rfl⟩:∃ i2,i'=i2+1:=⟨i' - 1,by omega⟩
  obtain ⟨j2,rfl⟩:∃ j2,j'=j2+1:=⟨j' - 1,by omega⟩
  simp only [Nat.add_sub_cancel]
  have hi:i2 < x.size:=by omega
  have hj:j2 < y.size:=by omega
  refine bg9 (cX hj (bg9 (cX hi (bg9 (c _ _ (oy _ (bl5 hj)) (ox _ (bl5 hi)) st2 _ (q2.kd.trans hk) ?_)))))
  by_cases hc:rk y[j2] < rk x[i2]
  ·rw [bg3 hc]
   dsimp only
   rw [if_pos rfl]
   have m':=m.x1 hi fun t ht _=>by
    have:=uy t j2 (by omega) (by omega) hj
    rw [cB hj] at this
    omega
   refine bg9 (cX hi ?_)
   by_cases he:(i2 == 0)=true
   ·rw [if_pos he]
    exact bh7 (h1 _ _ _ _ _ _ _ q2 (m'.done (.inl (by simpa using he))))
   ·rw [if_neg he]
    have he:i2 ≠ 0:=by simpa using he
    split
    ·exact bh7 (h2 _ _ _ _ _ _ q2 ⟨m',by omega,by omega,j0,j1,by omega⟩)
    ·exact bh7 ⟨q2,_,_,_,_,_,rfl,m',by omega,by omega,j0,j1,by omega⟩
  ·rw [bg2 hc]
   dsimp only
   rw [if_neg bh8]
   have m':=m.y1 hj fun t ht _=>by
    have:=ux t i2 (by omega) (by omega) hi
    rw [cB hi] at this
    omega
   refine bg9 (cX hj ?_)
   by_cases he:(j2 == 1)=true
   ·rw [if_pos he]
    exact bh7 (h1 _ _ _ _ _ _ _ q2 (m'.frst y0 hf (by simpa using he)))
   ·rw [if_neg he]
    have he:j2 ≠ 1:=by simpa using he
    split
    ·exact bh7 (h2 _ _ _ _ _ _ q2 ⟨m',i0,i1,by omega,by omega,by omega⟩)
    ·exact bh7 ⟨q2,_,_,_,_,_,rfl,m',i0,i1,by omega,by omega,by omega⟩
 ·rintro c2 st2 ⟨q2,i',j',o,p,q,rfl,m,i0,i1,j0,j1,pr⟩
  exact h2 _ _ _ _ _ _ q2 ⟨m,i0,i1,j0,j1,by omega⟩
theorem aD5 (c:cM prog w A E s κ Ok rk) (hk:kindOf st=κ) {x y:Array Keyed}{Q:Array Keyed->SortSt->Prop} (ox:bK Ok x) (oy:bK Ok y) (sx:Sd rk x.toList) (sy:Sd rk y.toList) (x0:0 < x.size) (y0:0 < y.size)
  (hf:∀ t ∈ x.toList,rk y[0]<=rk t) (hl:∀ u ∈ y.toList,rk u<=rk x[x.size - 1])
  (h:∀ r st',Gq st st'->dR rk x y r->Q r st'):wpS (model prog w) A E s (wL x y) Q st:=by
 rw [aD2]
 refine bg9 (wpS_lift (bs2 ⟨rfl,bg9 (cX (by omega:x.size - 1 < x.size) ?_)⟩))
 have m0:MH rk x.toList y.toList (#[x[x.size - 1]]:Array Keyed).toList.reverse (x.size - 1) y.size:=by
  have mm:MH rk x.toList y.toList [] x.size y.size:=⟨by simp,by rw [bn8 (by simp),bi9]; exact sx,by rw [bn8 (by simp),bi9]; exact sy⟩
  have e:=oW (x:=x) (i:=x.size - 1) (by omega)
  rw [show x.size - 1+1=x.size by omega] at e
  have:=mm.ofx (Nat.sub_le x.size 1) fun t ht u hu=>?_
  ·rw [<- e] at this; simpa using this
  ·rw [<- e,bh6] at hu
   subst hu
   exact hl t (List.mem_of_mem_take ht)
 by_cases e1:(x.size - 1 == 0)=true
 ·rw [if_pos e1]
  exact bh7 (h _ st (Gq.refl st) (m0.done (.inl (by simpa using e1))))
 ·rw [if_neg e1]
  have e1:x.size - 1 ≠ 0:=by simpa using e1
  by_cases e2:(y.size == 1)=true
  ·rw [if_pos e2]
   exact bh7 (h _ st (Gq.refl st) (m0.frst y0 hf (by simpa using e2)))
  ·rw [if_neg e2]
   have e2:y.size ≠ 1:=by simpa using e2
   refine bg9 (wpS_get ?_)
   unfold O6
   refine bg9 (bv4 (bo9
    (I:=fun n c st'=>Gq st st'/\∃ i j o mg,c=(none,i,j,o,mg)/\HB rk x y (n+1) i j o)
    (Q:=fun c st'=>Gq st st'/\∃ r i j o mg,c=(some r,i,j,o,mg)/\dR rk x y r) ?_ ?_ ⟨Gq.refl st,_,_,_,_,rfl,m0,by omega,by omega,by omega,by omega,by omega⟩) ?_)
   ·rintro n c1 st1 _ hn ⟨q1,i,j,o,mg,rfl,b⟩
    dsimp only
    refine bg9 (aD4 c hk ox oy sx sy y0 hf q1 b (fun r o' i' j' p q st' g md=>bh7 ⟨g,r,_,_,_,_,rfl,md⟩) fun i' j' o' p q st' g b'=>?_)
    refine bg9 (wpS_lift (bs2 ⟨rfl,?_⟩))
    refine bg9 (bv4 (aD3 c hk ox oy sx sy y0 hf g b') ?_)
    rintro c3 st3 ⟨q3,⟨r,i3,j3,o,mg,p,q,rfl,md⟩ | ⟨i3,j3,o,mg,p,q,rfl,b3⟩⟩
    ·exact bh7 ⟨q3,r,_,_,_,_,rfl,md⟩
    ·exact bg9 (rR q3 fun st4 q4=>bh7 ⟨q4,i3,j3,o,_,rfl,b3⟩)
   ·rintro c1 st1 ⟨q1,i,j,o,mg,rfl,b⟩
    have:=b.pr
    exact absurd this (by omega)
   ·rintro c1 st1 ⟨q1,r,i,j,o,mg,rfl,md⟩
    exact bh7 (h r _ q1 md)
end
theorem aD6 (i:Nat):mergeAt' i=(do
 let z <- get
 let (some (sa,na,pw),some (sb,nb,_)):=((pendingOf z)[i]?,(pendingOf z)[i+1]?) | unsupported "internal:list.sort.pending"
 set (SortSt.mk' (kindOf z) (arrOf z) (((pendingOf z).setIfInBounds i (sa,na+nb,pw)).eraseIdxIfInBounds (i+1)) (gallopOf z) (failedOf z))
 let some k <- jV false (<- elem' (arrOf z) sb) (arrOf z) sa na 0 | return false
 let (sa,na):=(sa+k,na - k)
 if na == 0 then return true
 let some nb <- jV true (<- elem' (arrOf z) (sa+na - 1)) (arrOf z) sb nb (nb - 1) | return false
 if nb == 0 then return true
 let x:=(arrOf z).extract sa sb
 let y:=(arrOf z).extract sb (sb+nb)
 let m <- if na<=nb then wH x y else wL x y
 modify fun z=>setArr z (m.toList.zipIdx.foldl (fun a (p,j)=>a.setIfInBounds (sa+j) p) (arrOf z))
 return (failedOf (<- get)).isNone):=rfl
variable {rk : Keyed → Int}
theorem aD7 {σ:Type}{M:Model}{A:Around}{E:Value->Shared->Prop}{s:Shared}{a b:σ}{Q:PUnit->σ->Prop} (h:Q ⟨⟩ a):wpS M A E s (set a:StateT σ Sem PUnit) Q b:=by
 unfold wpS; rw [StateT.run_set]; exact bf8 ⟨rfl,h⟩
theorem P0 (o:Nat):∀ (m:List Keyed) (n:Nat) (a:Array Keyed) (t:Nat),o+n+m.length<=a.size->
  ((m.zipIdx n).foldl (fun a (p,j)=>a.setIfInBounds (o+j) p) a)[t]? = if o+n<=t/\t < o+n+m.length then m[t - (o+n)]? else a[t]?
 | [],n,a,t,_=>by
  show a[t]? = _
  rw [if_neg (fun z=>Nat.not_lt_of_ge z.1 z.2)]
 | p :: m,n,a,t,h=>by
  rw [List.zipIdx_cons,List.foldl_cons]
  have h':o+(n+1)+m.length<=(a.setIfInBounds (o+n) p).size:=by rw [Array.size_setIfInBounds]; simp at h; omega
  have ih:=P0 o m (n+1) (a.setIfInBounds (o+n) p) t h'
  refine ih.trans ?_
  have hs:o+n < a.size:=by simp at h; omega
  rw [Array.getElem?_setIfInBounds]
  by_cases e:o+n=t
  ·subst e
   rw [if_neg (by omega),if_pos rfl,if_pos hs,if_pos (by simp),Nat.sub_self]; rfl
  ·rw [if_neg e]
   by_cases c:o+n<=t/\t < o+n+(p :: m).length
   ·rw [if_pos c,if_pos (by simp at c; omega)]
    rw [show t - (o+n)=(t - (o+(n+1)))+1 by omega]; rfl
   ·rw [if_neg c,if_neg (by simp at c ⊢; omega)]
theorem P3 {a:Array Keyed}{lo hi:Nat} (u:Up rk a lo hi) (hh:hi<=a.size):Sd rk (a.extract lo hi).toList:=by
 unfold Sd
 rw [bl9]
 intro i j hi' hj hij
 have h2:lo+j < hi:=by simp at hj; omega
 have:=u (lo+i) (lo+j) (by omega) (by omega) h2
 rw [cB (by omega:lo+i < a.size),cB (by omega:lo+j < a.size)] at this
 simpa using this
theorem P4 {a:Array Keyed}{lo mid hi:Nat} (u:Up rk a lo mid) (v:Up rk a mid hi) (h0:lo < mid) (h1:mid < hi) (h:Kr rk a (mid - 1)<=Kr rk a mid):Up rk a lo hi:=fun i j hi' hij hj=>by
 rcases bl3 j mid with z | z
 ·exact u i j hi' hij z
 ·rcases bl3 i mid with y | y
  ·have a1:=u i (mid - 1) hi' (by omega) (by omega)
   have a2:=v mid j (bg1 _) z hj
   omega
  ·exact v i j y hij hj
theorem P5 {a:Array Keyed}{lo hi t:Nat} (h:t < hi - lo) (hh:hi<=a.size):Kr rk (a.extract lo hi) t=Kr rk a (lo+t):=by
 refine kQ ?_
 rw [Array.getElem?_extract_of_lt (by omega)]
 exact (getElem?_pos a (lo+t) (by omega)).symm
section
variable {κ : SortKind} {a0 : Array Keyed} {pd : Array (Nat × Nat × Nat)} {st : SortSt} {prog : Program} {w : World} {A : Around} {E : Value → Shared → Prop} {s : Shared} {Ok : Keyed → Prop}
theorem aD8 {a m:Array Keyed}{p x e:Nat} (hpx:p<=x) (hxe:x<=e) (he:e<=a.size) (md:dR rk (a.extract p x) (a.extract x e) m) :
  let r:=m.toList.zipIdx.foldl (fun a (q,j)=>a.setIfInBounds (p+j) q) a
  r.Perm a/\(∀ t,(t < p ∨ e<=t)->Kr rk r t=Kr rk a t)/\(∀ t t',p<=t->t<=t'->t' < e->Kr rk r t<=Kr rk r t')/\∀ t,p<=t->t < e->∃ t',p<=t'/\t' < e/\Kr rk r t=Kr rk a t':=by
 intro r
 have ml:m.toList.length=e - p:=by
  rw [md.1.length_eq]; simp; omega
 have g:∀ t,r[t]? = if p<=t/\t < e then m[t - p]? else a[t]?:=fun t=>by
  have:=P0 p m.toList 0 a t (by omega)
  rw [show r=(m.toList.zipIdx 0).foldl (fun a (q,j)=>a.setIfInBounds (p+j) q) a from rfl,this]
  simp only [Nat.add_zero,ml,show p+(e - p)=e by omega,bk3]
 have ex:(a.extract p x).toList ++ (a.extract x e).toList=(a.toList.take e).drop p:=by
  rw [kT,kT,bw4,bw4,bw4]
  rw [show x=p+(x - p) by omega,<- List.drop_drop,show p+(x - p) - p=x - p by omega,show e - (p+(x - p))=(e - p) - (x - p) by omega]
  have:=bj3 (x - p) ((a.toList.drop p).take (e - p))
  rw [List.take_take,bw4,Nat.min_eq_left (by omega)] at this
  exact this
 have rl:r.toList=a.toList.take p ++ (m.toList ++ a.toList.drop e):=by
  apply List.ext_getElem?
  intro t
  rw [bk3,g]
  rcases bl3 t p with z | z
  ·rw [if_neg (by omega),br7 (by simp; omega),List.getElem?_take_of_lt z,bk3]
  ·rw [bu3 (by simp; omega)]
   have lp:(a.toList.take p).length=p:=by simp; omega
   rw [lp]
   rcases bl3 t e with y | y
   ·rw [if_pos ⟨z,y⟩,br7 (by omega),bk3]
   ·rw [if_neg (by omega),bu3 (by omega),ml,List.getElem?_drop,bk3]
    congr 1; omega
 have mp:m.toList.Perm ((a.toList.take e).drop p):=ex ▸ md.1
 refine⟨?_,fun t ht=>kQ (by rw [g,if_neg (by omega)]),fun t t' h1 h2 h3=>?_,fun t h1 h2=>?_⟩
 ·refine Array.perm_iff_toList_perm.mpr ?_
  rw [rl]
  have:a.toList=a.toList.take p ++ ((a.toList.take e).drop p ++ a.toList.drop e):=by
   rw [wO _ (by omega:p<=e)]; exact (bj3 p _).symm
  conv=>rhs; rw [this]
  exact (mp.append_right _).append_left _
 ·have e1:Kr rk r t=Kr rk m (t - p):=kQ (by rw [g,if_pos (by omega)])
  have e2:Kr rk r t'=Kr rk m (t' - p):=kQ (by rw [g,if_pos (by omega)])
  rw [e1,e2]
  have ms:m.size=e - p:=by rw [<- ml]; simp
  exact md.2.up 0 m.size (bg1 _) (t - p) (t' - p) (by omega) (by omega) (by omega)
 ·have e1:Kr rk r t=Kr rk m (t - p):=kQ (by rw [g,if_pos (by omega)])
  have ms:m.size=e - p:=by rw [<- ml]; simp
  have hm:t - p < m.size:=by omega
  have mm:m[t - p] ∈ (a.toList.take e).drop p:=mp.mem_iff.mp (by simp)
  obtain ⟨t',q1,q2,q3,q4⟩:=oV (rk:=rk) mm
  exact⟨t',q1,q2,by rw [e1,cB hm]; exact q4⟩
theorem aD9 (c:cM prog w A E s κ Ok rk) (o:bK Ok a0) (b:SB κ a0 pd st) {i sa na pw sb nb pw':Nat}{Q:Bool->SortSt->Prop} (e1:pd[i]? = some (sa,na,pw)) (e2:pd[i+1]? = some (sb,nb,pw')) (hs:sb=sa+na) (n0:0 < na) (m0:0 < nb) (hz:sb+nb<=a0.size)
  (u:Up rk (arrOf st) sa sb) (v:Up rk (arrOf st) sb (sb+nb))
  (h:∀ st',SB κ a0 ((pd.setIfInBounds i (sa,na+nb,pw)).eraseIdxIfInBounds (i+1)) st'->Up rk (arrOf st') sa (sb+nb)->(∀ t,(t < sa ∨ sb+nb<=t)->Kr rk (arrOf st') t=Kr rk (arrOf st) t)->Q true st'):wpS (model prog w) A E s (mergeAt' i) Q st:=by
 have sz:=b.sz
 rw [aD6]
 refine bg9 (wpS_get ?_)
 rw [b.pd,e1,e2]
 dsimp only
 refine bg9 (aD7 ?_)
 generalize hst:SortSt.mk' (kindOf st) (arrOf st) ((pd.setIfInBounds i (sa,na+nb,pw)).eraseIdxIfInBounds (i+1)) (gallopOf st) (failedOf st)=st1
 have b1:SB κ a0 ((pd.setIfInBounds i (sa,na+nb,pw)).eraseIdxIfInBounds (i+1)) st1:=by rw [<- hst]; exact⟨b.pm,b.kd,b.ok,rfl⟩
 have ar:arrOf st1=arrOf st:=by rw [<- hst]
 have oa:=b.all o
 have hsb:sb < (arrOf st).size:=by omega
 refine bg9 (cX hsb (bg9 (mI c b1.kd (oa _ (bl5 hsb)) oa n0 (by omega) (hs ▸ u) fun k k1 k2 k3=>?_)))
 dsimp only
 have k2':∀ t,sa<=t->t < sa+k->Kr rk (arrOf st) t<=Kr rk (arrOf st) sb:=fun t t1 t2=>by
  have:=k2 (t - sa) (by omega)
  rw [mK,bj9,show sa+(t - sa)=t by omega] at this
  rw [cB hsb]; exact this
 have k3':∀ t,sa+k<=t->t < sb->Kr rk (arrOf st) sb < Kr rk (arrOf st) t:=fun t t1 t2=>by
  have:=k3 (t - sa) (by omega) (by omega)
  rw [mK,bq8,show sa+(t - sa)=t by omega] at this
  rw [cB hsb]; omega
 by_cases ek:(na - k == 0)=true
 ·rw [if_pos ek]
  have ek:na - k=0:=by simpa using ek
  refine bh7 (h st1 b1 ?_ fun t _=>by rw [ar])
  rw [ar]
  exact P4 u v (by omega) (by omega) (k2' (sb - 1) (by omega) (by omega))
 ·rw [if_neg ek]
  have ek:na - k ≠ 0:=by simpa using ek
  have el:sa+k+(na - k) - 1=sb - 1:=by omega
  rw [el]
  have hsl:sb - 1 < (arrOf st).size:=by omega
  refine bg9 (cX hsl (bg9 (mI c b1.kd (oa _ (bl5 hsl)) oa (by omega) (by omega) v fun l l1 l2 l3=>?_)))
  dsimp only
  have l2':∀ t,sb<=t->t < sb+l->Kr rk (arrOf st) t < Kr rk (arrOf st) (sb - 1):=fun t t1 t2=>by
   have:=l2 (t - sb) (by omega)
   rw [mL,bj9,show sb+(t - sb)=t by omega] at this
   rw [cB hsl]; exact this
  have l3':∀ t,sb+l<=t->t < sb+nb->Kr rk (arrOf st) (sb - 1)<=Kr rk (arrOf st) t:=fun t t1 t2=>by
   have:=l3 (t - sb) (by omega) (by omega)
   rw [mL,bq8,show sb+(t - sb)=t by omega] at this
   rw [cB hsl]; omega
  by_cases en:(l == 0)=true
  ·rw [if_pos en]
   have en:l=0:=by simpa using en
   subst en
   refine bh7 (h st1 b1 ?_ fun t _=>by rw [ar])
   rw [ar]
   exact P4 u v (by omega) (by omega) (l3' sb (by omega) (by omega))
  ·rw [if_neg en]
   have en:l ≠ 0:=by simpa using en
   have sub:∀ p e,bK Ok ((arrOf st).extract p e):=fun p e z hz=>oa z (by
    have:z ∈ ((arrOf st).extract p e).toList:=Array.mem_toList_iff.mpr hz
    rw [kT] at this
    exact Array.mem_toList_iff.mp (List.mem_of_mem_take (List.mem_of_mem_drop this)))
   have sx:Sd rk ((arrOf st).extract (sa+k) sb).toList:=P3 (fun i j h1 h2 h3=>u i j (by omega) h2 h3) (by omega)
   have sy:Sd rk ((arrOf st).extract sb (sb+l)).toList:=P3 (fun i j h1 h2 h3=>v i j h1 h2 (by omega)) (by omega)
   have x0:0 < ((arrOf st).extract (sa+k) sb).size:=by simp; omega
   have y0:0 < ((arrOf st).extract sb (sb+l)).size:=by simp; omega
   have hf:∀ t ∈ ((arrOf st).extract (sa+k) sb).toList,rk ((arrOf st).extract sb (sb+l))[0]<=rk t:=fun t ht=>by
    rw [kT] at ht
    obtain ⟨t',q1,q2,q3,q4⟩:=oV (rk:=rk) ht
    rw [q4,<- cB (rk:=rk) y0,P5 (by omega) (by omega)]
    exact Int.le_of_lt (k3' t' q1 q2)
   have hl:∀ t ∈ ((arrOf st).extract sb (sb+l)).toList,rk t<=rk ((arrOf st).extract (sa+k) sb)[((arrOf st).extract (sa+k) sb).size - 1]:=fun t ht=>by
    rw [kT] at ht
    obtain ⟨t',q1,q2,q3,q4⟩:=oV (rk:=rk) ht
    have e:((arrOf st).extract (sa+k) sb).size=sb - (sa+k):=by simp; omega
    rw [q4,<- cB (rk:=rk) (by omega),P5 (by omega) (by omega),e,show sa+k+(sb - (sa+k) - 1)=sb - 1 by omega]
    exact Int.le_of_lt (l2' t' q1 q2)
   have fin:∀ (m:Array Keyed) (st2:SortSt),Gq st1 st2->dR rk ((arrOf st).extract (sa+k) sb) ((arrOf st).extract sb (sb+l)) m->
     wpS (model prog w) A E s (do modify (fun z=>setArr z (m.toList.zipIdx.foldl (fun a (p,j)=>a.setIfInBounds (sa+k+j) p) (arrOf z))); return (failedOf (<- get)).isNone) Q st2:=fun m st2 g md=>by
    have b2:SB κ a0 ((pd.setIfInBounds i (sa,na+nb,pw)).eraseIdxIfInBounds (i+1)) st2:=⟨by rw [g.ar]; exact b1.pm,g.kd.trans b1.kd,g.ok.trans b1.ok,g.pd.trans b1.pd⟩
    have a2:arrOf st2=arrOf st:=g.ar.trans ar
    obtain ⟨r1,r2,r3,r4⟩:=aD8 (by omega) (by omega) (by omega) md
    generalize hr:m.toList.zipIdx.foldl (fun a (q,j)=>a.setIfInBounds (sa+k+j) q) (arrOf st)=r at r1 r2 r3 r4
    refine bg9 (wpS_modify (bg9 (wpS_get (bh7 ?_))))
    have b3:=b2.put (xs:=m.toList.zipIdx.foldl (fun a (q,j)=>a.setIfInBounds (sa+k+j) q) (arrOf st2)) (by rw [a2,hr]; exact r1)
    have er:arrOf (setArr st2 (m.toList.zipIdx.foldl (fun a (q,j)=>a.setIfInBounds (sa+k+j) q) (arrOf st2)))=r:=by rw [<- hr,a2]
    have tr:(failedOf (setArr st2 (m.toList.zipIdx.foldl (fun a (q,j)=>a.setIfInBounds (sa+k+j) q) (arrOf st2)))).isNone=true:=by rw [b3.ok]; rfl
    rw [tr]
    refine h _ b3 (fun i j hi hij hj=>?_) fun t ht=>?_
    ·rw [er]
     have bl:∀ t,sa<=t->t < sa+k->∀ t',sa+k<=t'->t' < sb+l->Kr rk (arrOf st) t<=Kr rk (arrOf st) t':=fun t t1 t2 t' t3 t4=>by
      rcases bl3 t' sb with z | z
      ·exact u t t' t1 (by omega) z
      ·have a1:=k2' t t1 t2
       have a2:=v sb t' (bg1 _) z (by omega)
       omega
     have br:∀ t,sb+l<=t->t < sb+nb->∀ t',sa+k<=t'->t' < sb+l->Kr rk (arrOf st) t'<=Kr rk (arrOf st) t:=fun t t1 t2 t' t3 t4=>by
      rcases bl3 t' sb with z | z
      ·have a1:=u t' (sb - 1) (by omega) (by omega) (by omega)
       have a2:=l3' t t1 t2
       omega
      ·exact v t' t z (by omega) t2
     have blr:∀ t,sa<=t->t < sa+k->∀ t',sb+l<=t'->t' < sb+nb->Kr rk (arrOf st) t<=Kr rk (arrOf st) t':=fun t t1 t2 t' t3 t4=>by
      have a1:=bl t t1 t2 (sb - 1) (by omega) (by omega)
      have a2:=l3' t' t3 t4
      omega
     rcases bl3 i (sa+k) with z | z
     ·rw [r2 i (.inl z)]
      rcases bl3 j (sa+k) with y | y
      ·rw [r2 j (.inl y)]; exact u i j hi hij (by omega)
      ·rcases bl3 j (sb+l) with x | x
       ·obtain ⟨t',q1,q2,q3⟩:=r4 j y x
        rw [q3]; exact bl i hi z t' q1 q2
       ·rw [r2 j (.inr x)]; exact blr i hi z j x hj
     ·rcases bl3 j (sb+l) with x | x
      ·exact r3 i j z hij x
      ·rw [r2 j (.inr x)]
       rcases bl3 i (sb+l) with y | y
       ·obtain ⟨t',q1,q2,q3⟩:=r4 i z y
        rw [q3]; exact br j x hj t' q1 q2
       ·rw [r2 i (.inr y)]; exact v i j (by omega) hij hj
    ·rw [er]; exact r2 t (by omega)
   by_cases hle:na - k<=l
   ·rw [if_pos hle]
    exact bg9 (aD1 c b1.kd (sub _ _) (sub _ _) sx sy x0 y0 hf hl fun m st2 g md=>fin m st2 g md)
   ·rw [if_neg hle]
    exact bg9 (aD5 c b1.kd (sub _ _) (sub _ _) sx sy x0 y0 hf hl fun m st2 g md=>fin m st2 g md)
end
def Ch:Nat->List (Nat × Nat)->Nat->Prop
 | a,[],b=>a=b
 | a,(p,n) :: r,b=>p=a/\0 < n/\Ch (a+n) r b
theorem Ch.split:∀ {l l':List (Nat × Nat)}{a b:Nat},Ch a (l ++ l') b->∃ m,Ch a l m/\Ch m l' b
 | [],_,a,_,h=>⟨a,rfl,h⟩
 | (p,n) :: l,l',a,b,h=>by
  obtain ⟨h1,h2,h3⟩:=h
  obtain ⟨m,q1,q2⟩:=Ch.split h3
  exact⟨m,⟨h1,h2,q1⟩,q2⟩
theorem Ch.join:∀ {l l':List (Nat × Nat)}{a m b:Nat},Ch a l m->Ch m l' b->Ch a (l ++ l') b
 | [],_,a,m,_,h,h'=>by cases (show a=m from h); exact h'
 | (p,n) :: l,l',a,m,b,h,h'=>⟨h.1,h.2.1,Ch.join h.2.2 h'⟩
theorem Ch.len:∀ {l:List (Nat × Nat)}{a b:Nat},Ch a l b->a+l.length<=b
 | [],a,b,h=>by cases (show a=b from h); simp
 | (p,n) :: l,a,b,h=>by
  have:=Ch.len h.2.2
  have:=h.2.1
  simp; omega
theorem Ch.mem:∀ {l:List (Nat × Nat)}{a b:Nat}{r:Nat × Nat},Ch a l b->r ∈ l->a<=r.1/\r.1+r.2<=b/\0 < r.2
 | (p,n) :: l,a,b,r,h,hr=>by
  obtain ⟨h1,h2,h3⟩:=h
  have hb:=Ch.len h3
  rcases bg4.mp hr with e | e
  ·subst e
   have h1:p=a:=h1
   refine⟨?_,?_,h2⟩
   ·show a<=p; omega
   ·show p+n<=b; omega
  ·have:=Ch.mem h3 e
   exact⟨by omega,this.2.1,this.2.2⟩
def sk (pd:Array (Nat × Nat × Nat)):List (Nat × Nat):=pd.toList.map fun r=>(r.1,r.2.1)
theorem rY (pd:Array (Nat × Nat × Nat)):(sk pd).length=pd.size:=by simp [sk]
structure Rn (rk:Keyed->Int) (a:Array Keyed) (l:List (Nat × Nat)) (lo:Nat):Prop where
 ch:Ch 0 l lo
 up:∀ r ∈ l,Up rk a r.1 (r.1+r.2)
variable {rk : Keyed → Int} {κ : SortKind} {a0 : Array Keyed} {pd : Array (Nat × Nat × Nat)} {st : SortSt} {prog : Program} {w : World} {A : Around} {E : Value → Shared → Prop} {s : Shared} {Ok : Keyed → Prop}
theorem Rn.same {a b:Array Keyed}{l:List (Nat × Nat)}{lo:Nat} (h:Rn rk a l lo) (e:∀ t,t < lo->Kr rk b t=Kr rk a t):Rn rk b l lo:=⟨h.ch,fun r hr i j hi hij hj=>by
 have:=(h.ch.mem hr).2.1
 rw [e i (by omega),e j (by omega)]
 exact h.up r hr i j hi hij hj⟩
theorem P6 (c:cM prog w A E s κ Ok rk) (o:bK Ok a0) (b:SB κ a0 pd st) {i lo:Nat}{Q:Bool->SortSt->Prop} (hi:i+1 < pd.size) (hz:lo<=a0.size) (rn:Rn rk (arrOf st) (sk pd) lo)
  (h:∀ pd' st',SB κ a0 pd' st'->pd'.size+1=pd.size->Rn rk (arrOf st') (sk pd') lo->(∀ t,lo<=t->Kr rk (arrOf st') t=Kr rk (arrOf st) t)->Q true st'):wpS (model prog w) A E s (mergeAt' i) Q st:=by
 obtain ⟨⟨sa,na,pw⟩,e1⟩:∃ r,pd[i]? = some r:=⟨pd[i],getElem?_pos pd i (by omega)⟩
 obtain ⟨⟨sb,nb,pw'⟩,e2⟩:∃ r,pd[i+1]? = some r:=⟨pd[i+1],getElem?_pos pd (i+1) hi⟩
 have d1:pd.toList=pd.toList.take i ++ (sa,na,pw) :: (sb,nb,pw') :: pd.toList.drop (i+2):=by
  have hl:i < pd.toList.length:=by simp; omega
  have hl2:i+1 < pd.toList.length:=by simpa using hi
  have g1:pd.toList[i]=(sa,na,pw):=by rw [getElem?_pos pd i (by omega)] at e1; simpa using e1
  have g2:pd.toList[i+1]=(sb,nb,pw'):=by rw [getElem?_pos pd (i+1) hi] at e2; simpa using e2
  have:=bj3 i pd.toList
  rw [bp8 hl,bp8 hl2,g1,g2] at this
  exact this.symm
 have li:(pd.toList.take i).length=i:=by simp; omega
 have d2:((pd.setIfInBounds i (sa,na+nb,pw)).eraseIdxIfInBounds (i+1)).toList=pd.toList.take i ++ (sa,na+nb,pw) :: pd.toList.drop (i+2):=by
  have e:((pd.setIfInBounds i (sa,na+nb,pw)).eraseIdxIfInBounds (i+1)).toList=(pd.toList.set i (sa,na+nb,pw)).eraseIdx (i+1):=by
   unfold Array.eraseIdxIfInBounds
   rw [dif_pos (by rw [Array.size_setIfInBounds]; exact hi),Array.toList_eraseIdx,Array.toList_setIfInBounds]
  rw [e]
  conv=>lhs; rw [d1]
  rw [List.set_append_right _ _ (by omega),li,Nat.sub_self,List.set_cons_zero,List.eraseIdx_append_of_length_le (by omega),li,show i+1 - i=1 by omega]
  rfl
 have k1:sk pd=(pd.toList.take i).map (fun r=>(r.1,r.2.1)) ++ (sa,na) :: (sb,nb) :: (pd.toList.drop (i+2)).map (fun r=>(r.1,r.2.1)):=by
  unfold sk; conv=>lhs; rw [d1]
  simp
 have k2:sk ((pd.setIfInBounds i (sa,na+nb,pw)).eraseIdxIfInBounds (i+1))=(pd.toList.take i).map (fun r=>(r.1,r.2.1)) ++ (sa,na+nb) :: (pd.toList.drop (i+2)).map (fun r=>(r.1,r.2.1)):=by
  unfold sk; rw [d2]
  simp
 have ch:=rn.ch
 rw [k1] at ch
 obtain ⟨m,c1,c2⟩:=ch.split
 obtain ⟨f1,f2,f3,f4,f5⟩:=c2
 have f1:sa=m:=f1
 have f3:sb=m+na:=f3
 have up:=rn.up
 rw [k1] at up
 have lo2:=f5.len
 refine aD9 c o b e1 e2 (by omega) f2 f4 (by omega) (by have:=up (sa,na) (by simp); rw [f3,<- f1]; exact this) (up (sb,nb) (by simp)) fun st' b' u' fr=>h _ st' b' ?_ ⟨?_,?_⟩ fun t ht=>fr t (by omega)
 ·rw [<- rY,<- rY,k1,k2]; simp; omega
 ·rw [k2]
  refine c1.join ⟨f1,by omega,?_⟩
  rw [<- Nat.add_assoc]; exact f5
 ·intro r hr
  rw [k2] at hr
  rcases bk1.mp hr with z | z
  ·intro p q h1 h2 h3
   have:=(c1.mem z).2.1
   rw [fr p (by omega),fr q (by omega)]
   exact up r (bs6 _ z) p q h1 h2 h3
  ·rcases bg4.mp z with z | z
   ·subst z
    show Up rk (arrOf st') sa (sa+(na+nb))
    rw [show sa+(na+nb)=sb+nb by omega]; exact u'
   ·intro p q h1 h2 h3
    have:=(f5.mem z).1
    rw [fr p (by omega),fr q (by omega)]
    exact up r (bk2 _ (bh5 _ (bh5 _ z))) p q h1 h2 h3
abbrev RS:=Option Unit × Nat
def P7 (sz pw:Nat):StateT SortSt Sem (Option Unit × Unit):=forIn [0:sz] ((none,()):Option Unit × Unit) fun _ _=>do
 let z <- get
 match (if (pendingOf z).size > 1 then (pendingOf z)[(pendingOf z).size - 2]? else none) with
 | some (_,_,o)=>if o<=pw then pure (.done (none,())) else do
   let q <- mergeAt' ((pendingOf z).size - 2)
   if (!q)=true then pure (.done (some (),())) else pure (.yield (none,()))
 | _=>pure (.done (none,()))
def jn (sz lo n:Nat):StateT SortSt Sem (ForInStep RS):=do
 let z <- get
 match (pendingOf z).back? with
 | some (s1,n1,_)=>do
  let r <- P7 sz (power' sz (2 * s1+n1) (2 * s1+n1+n1+n) sz)
  match r.1 with
  | some u=>pure (.done (some u,lo))
  | none=>do
   modify fun s=>setPending s ((pendingOf s).modify ((pendingOf s).size - 1) fun x=>(x.1,x.2.1,power' sz (2 * s1+n1) (2 * s1+n1+n1+n) sz))
   modify fun s=>setPending s ((pendingOf s).push (lo,n,0))
   pure (.yield (none,lo+n))
 | _=>do
  modify fun s=>setPending s ((pendingOf s).push (lo,n,0))
  pure (.yield (none,lo+n))
def P8 (sz mr lo:Nat):StateT SortSt Sem (ForInStep RS):=if lo >= sz then pure (.done (none,lo)) else do
 match <- countRun' lo (sz - lo) with
 | some n=>
  if n < mr then
   liftM (rule "list.sort.binary-insertion")
   let q <- binarySort' lo (min (sz - lo) mr) n
   if (!q)=true then pure (.done (some (),lo)) else jn sz lo (min (sz - lo) mr)
  else jn sz lo n
 | _=>pure (.done (some (),lo))
def P9 (sz:Nat):StateT SortSt Sem (Option Unit × Unit):=forIn [0:sz] ((none,()):Option Unit × Unit) fun _ _=>do
 let z <- get
 if (pendingOf z).size<=1 then pure (.done (none,())) else do
  let q <- mergeAt' (if ((if (pendingOf z).size - 2 > 0 then (pendingOf z)[(pendingOf z).size - 2 - 1]?.map (·.2.1) else none).any (· < ((pendingOf z)[(pendingOf z).size - 2+1]?.elim 0 (·.2.1))))=true then (pendingOf z).size - 2 - 1 else (pendingOf z).size - 2)
  if (!q)=true then pure (.done (some (),())) else pure (.yield (none,()))
theorem aE0:sortRuns'=(do
 let z <- get
 let r <- (forIn [0:(arrOf z).size] ((none,0):RS) fun _ r=>P8 (arrOf z).size (minRun' (arrOf z).size (arrOf z).size 0) r.2)
 match r.1 with
 | some u=>pure u
 | none=>do
  let q <- P9 (arrOf z).size
  match q.1 with
  | some u=>pure u
  | none=>pure ()):=by kernel_rfl
theorem Q0 {lo nn:Nat} (n1:0 < nn) {pd:Array (Nat × Nat × Nat)}{a:Array Keyed} (r:Rn rk a (sk pd) lo) (u:Up rk a lo (lo+nn)):Rn rk a (sk (pd.push (lo,nn,0))) (lo+nn):=by
 have e:sk (pd.push (lo,nn,0))=sk pd ++ [(lo,nn)]:=by simp [sk]
 refine⟨by rw [e]; exact r.ch.join ⟨rfl,n1,rfl⟩,fun q hq=>?_⟩
 rw [e] at hq
 rcases bk1.mp hq with z | z
 ·exact r.up q z
 ·rw [bh6] at z
  subst z
  exact u
theorem Q2 (c:cM prog w A E s κ Ok rk) (o:bK Ok a0) (b:SB κ a0 pd st) {lo n:Nat}{Q:ForInStep RS->SortSt->Prop} (n1:1<=n) (n2:lo+n<=a0.size) (rn:Rn rk (arrOf st) (sk pd) lo) (u:Up rk (arrOf st) lo (lo+n))
  (h:∀ pd' st',SB κ a0 pd' st'->Rn rk (arrOf st') (sk pd') (lo+n)->Q (.yield (none,lo+n)) st'):wpS (model prog w) A E s (jn a0.size lo n) Q st:=by
 unfold jn
 refine bg9 (wpS_get ?_)
 rw [b.pd]
 cases hb:pd.back? with
 | none=>exact bg9 (wpS_modify (bh7 (h (pd.push (lo,n,0)) _ ⟨b.pm,b.kd,b.ok,by show (pendingOf st).push _=_; rw [b.pd]⟩ (Q0 n1 rn u))))
 | some q=>
  obtain ⟨s1,m1,q3⟩:=q
  dsimp only
  generalize power' a0.size (2 * s1+m1) (2 * s1+m1+m1+n) a0.size=pw
  unfold P7
  refine bg9 (bv4 (bo9
   (I:=fun _ r st'=>r=(none,())/\∃ pd,SB κ a0 pd st'/\Rn rk (arrOf st') (sk pd) lo/\Up rk (arrOf st') lo (lo+n))
   (Q:=fun r st'=>r=(none,())/\∃ pd,SB κ a0 pd st'/\Rn rk (arrOf st') (sk pd) lo/\Up rk (arrOf st') lo (lo+n)) ?_ (fun _ _ z=>z) ⟨rfl,pd,b,rn,u⟩) ?_)
  ·rintro t r st4 _ ht ⟨rfl,pd4,b4,r4,u4⟩
   refine bg9 (wpS_get ?_)
   rw [b4.pd]
   cases ho:(if pd4.size > 1 then pd4[pd4.size - 2]? else none) with
   | none=>exact bh7 ⟨rfl,pd4,b4,r4,u4⟩
   | some z=>
    obtain ⟨z1,z2,z3⟩:=z
    have h1:pd4.size > 1:=by
     by_cases y:pd4.size > 1
     ·exact y
     ·rw [if_neg y] at ho; cases ho
    dsimp only
    by_cases hp:z3<=pw
    ·rw [if_pos hp]
     exact bh7 ⟨rfl,pd4,b4,r4,u4⟩
    ·rw [if_neg hp]
     refine bg9 (P6 c o b4 (by omega) (by omega) r4 fun pd5 st5 b5 _ r5 f5=>?_)
     exact bh7 ⟨rfl,pd5,b5,r5,fun i j hi hij hj=>by rw [f5 i hi,f5 j (by omega)]; exact u4 i j hi hij hj⟩
  ·rintro r st4 ⟨rfl,pd4,b4,r4,u4⟩
   refine bg9 (wpS_modify (bg9 (wpS_modify (bh7 ?_))))
   have e:sk (pd4.modify (pd4.size - 1) fun x=>(x.1,x.2.1,pw))=sk pd4:=by
    unfold sk
    rw [Array.toList_modify]
    apply List.ext_getElem?
    intro t
    rw [bh1,bh1,List.getElem?_modify]
    cases pd4.toList[t]? with
    | none=>simp
    | some v=>by_cases y:pd4.size - 1=t <;> simp [y]
   refine h ((pd4.modify (pd4.size - 1) fun x=>(x.1,x.2.1,pw)).push (lo,n,0)) _ ⟨b4.pm,b4.kd,b4.ok,?_⟩ (Q0 n1 (by rw [e]; exact r4) u4)
   show ((pendingOf st4).modify ((pendingOf st4).size - 1) fun x=>(x.1,x.2.1,pw)).push _=_
   rw [b4.pd]
theorem aE1 (c:cM prog w A E s κ Ok rk) (o:bK Ok a0) (b:SB κ a0 #[] st) {Q:Unit->SortSt->Prop} (h2:1<=a0.size)
  (h:∀ st',(arrOf st').Perm a0->failedOf st'=none->Up rk (arrOf st') 0 a0.size->Q () st'):wpS (model prog w) A E s sortRuns' Q st:=by
 rw [aE0]
 refine bg9 (wpS_get ?_)
 rw [b.sz]
 generalize minRun' a0.size a0.size 0=mr
 refine bg9 (bv4 (bo9
  (I:=fun x r st'=>∃ lo pd,r=(none,lo)/\x<=lo/\lo<=a0.size/\SB κ a0 pd st'/\Rn rk (arrOf st') (sk pd) lo)
  (Q:=fun r st'=>∃ pd,r=(none,a0.size)/\SB κ a0 pd st'/\Rn rk (arrOf st') (sk pd) a0.size) ?_ ?_ ⟨0,#[],rfl,bg1 _,bk5 _,b,⟨rfl,fun r hr=>absurd hr (by simp [sk])⟩⟩) ?_)
 ·rintro x r st1 _ hx ⟨lo,pd,rfl,xl,lz,b1,rn⟩
  unfold P8
  dsimp only
  by_cases hd:lo >= a0.size
  ·rw [if_pos hd]
   have e:lo=a0.size:=by omega
   subst e
   exact bh7 ⟨pd,rfl,b1,rn⟩
  ·rw [if_neg hd]
   refine bg9 (aC4 c o b1 (by omega) (by omega) fun n st2 b2 n1 n2 u2 l2=>?_)
   have rn2:=rn.same l2
   dsimp only
   by_cases hmr:n < mr
   ·rw [if_pos hmr]
    refine bg9 (wpS_lift (bs2 ⟨rfl,?_⟩))
    refine bg9 (aC5 c o b2 (by omega) (by omega) u2 fun st3 b3 u3 l3=>?_)
    rw [if_neg (by decide)]
    exact Q2 c o b3 (by omega) (by omega) (rn2.same l3) u3 fun pd' st' b' r'=>⟨_,pd',rfl,by omega,by omega,b',r'⟩
   ·rw [if_neg hmr]
    exact Q2 c o b2 n1 (by omega) rn2 u2 fun pd' st' b' r'=>⟨lo+n,pd',rfl,by omega,by omega,b',r'⟩
 ·rintro r st1 ⟨lo,pd,rfl,xl,lz,b1,rn⟩
  have e:lo=a0.size:=by omega
  subst e
  exact⟨pd,rfl,b1,rn⟩
 ·rintro r st1 ⟨pd,rfl,b1,rn⟩
  dsimp only
  unfold P9
  refine bg9 (bv4 (bo9
   (I:=fun t r st'=>r=(none,())/\∃ pd,SB κ a0 pd st'/\Rn rk (arrOf st') (sk pd) a0.size/\(pd.size+t<=a0.size ∨ pd.size<=1))
   (Q:=fun r st'=>r=(none,())/\∃ pd,SB κ a0 pd st'/\Rn rk (arrOf st') (sk pd) a0.size/\pd.size<=1) ?_ ?_ ⟨rfl,pd,b1,rn,.inl (by have:=rn.ch.len; rw [rY] at this; omega)⟩) ?_)
  ·rintro t r st2 _ ht ⟨rfl,pd,b2,rn2,pr⟩
   refine bg9 (wpS_get ?_)
   rw [b2.pd]
   by_cases h1:pd.size<=1
   ·rw [if_pos h1]
    exact bh7 ⟨rfl,pd,b2,rn2,h1⟩
   ·rw [if_neg h1]
    refine bg9 (P6 c o b2 ?_ (bg1 _) rn2 fun pd' st3 b3 sz3 rn3 _=>?_)
    ·split <;> split <;> omega
    ·exact bh7 ⟨rfl,pd',b3,rn3,by omega⟩
  ·rintro r st2 ⟨rfl,pd,b2,rn2,pr⟩
   exact⟨rfl,pd,b2,rn2,by omega⟩
  ·rintro r st2 ⟨rfl,pd,b2,rn2,pr⟩
   refine bh7 (h st2 b2.pm b2.ok ?_)
   have ch:=rn2.ch
   have up:=rn2.up
   rw [<- rY] at pr
   cases e:sk pd with
   | nil=>rw [e] at ch; exact absurd (show 0=a0.size from ch) (by omega)
   | cons r l=>
    rw [e] at ch up pr
    have el:l = []:=bo8 (by have:=pr; rw [bj0] at this; omega)
    subst el
    obtain ⟨p,n⟩:=r
    obtain ⟨q1,q2,q3⟩:=ch
    have q1:p=0:=q1
    have q3:0+n=a0.size:=q3
    subst q1
    have:=up (0,n) (by simp)
    rw [<- q3]; exact this
end SO
namespace L2
open PySem PySem.Spec PyProof.Rows SO
abbrev eW (h:Heap) (a:Addr) (vs:List Value):Heap:=((h.update a (Obj.mapSeq fun _=>#[])).push (seqObj "tuple" vs.toArray 0)).push (seqObj "list" #[] 0)
abbrev fF (h:Heap) (vs:List Value):Heap:=((h.push (seqObj "list" #[] 0)).update h.objs.size (Obj.mapSeq (· ++ vs.toArray))).push (seqObj "list" vs.toArray 0)
theorem aE2 {h:Heap}{vs:List Value}{b:Addr}{o:Obj} (e:h.get? b=some o):(fF h vs).get? b=some o:=by
 have l:=bg8 e
 refine bf7 _ ?_
 rw [Heap.get?_update_ne _ _ _ _ (bi6 l)]
 exact bf7 _ e
theorem aE3 {h:Heap}{vs:List Value}{a b:Addr}{o:Obj} (hb:b ≠ a) (e:h.get? b=some o):(eW h a vs).get? b=some o:=by
 refine bf7 _ (bf7 _ ?_)
 rw [Heap.get?_update_ne _ _ _ _ hb]; exact e
theorem aE4 {prog:Program}{w:World}{A:Around}{E:Value->Shared->Prop}{s:Shared}{a:Addr}{vs:List Value}{n:Nat}{P:PySem.Fin->Shared->Prop}{κ:SortKind}{Ok:Keyed->Prop}{rk:Keyed->Int}
  (e:s.heap.get? a=some (seqObj "list" vs.toArray n)) (h2:2<=vs.length) (big:vs.length<=sizeLine)
  (hk:∀ Q:SortKind->Shared->Prop,Q κ { s with heap:=eW s.heap a vs }->wpAny (model prog w) A (keyKind' vs.toArray) Q E { s with heap:=eW s.heap a vs })
  (c:cM prog w A E { s with heap:=eW s.heap a vs } κ Ok rk) (o:∀ v ∈ vs,Ok (v,v))
  (q:∀ out:List Value,out.Perm vs->out.Pairwise (fun u v=>rk (u,u)<=rk (v,v))->P (.done (.ret .none)) { s with heap:=sortedHeap s.heap a vs out.toArray }):wpAny (model prog w) A (Builtin.«list.sort» ⟨[.ref a],[]⟩) P E s:=by
 have la:=bg8 e
 have cc : ¬ vs.toArray.size < 2:=by simpa using h2
 obtain ⟨k,ek⟩:∃ k,(s.heap.update a (Obj.mapSeq fun _=>#[])).get? a=some (seqObj "list" #[] k):=⟨_,get?_update_seq e fun _=>#[]⟩
 have there:(eW s.heap a vs).get? a=some (seqObj "list" #[] k):=bf7 _ (bf7 _ ek)
 rw [list_sort_plain]
 apply bf5
 apply listItems_at e rfl
 apply bf5
 refine listUpdate_at e rfl ?_ (by simpa using big) (bk5 _)
 apply bf5
 apply seqEpoch_at ek rfl
 apply bf5
 refine wpAny_newTuple ?_ big
 apply bf5
 refine wpAny_newList ?_ (bk5 _)
 apply bl6
 simp only [cc,bm6]
 apply bf5
 refine hk _ ?_
 have zl:(vs.toArray.zip vs.toArray).toList=vs.zip vs:=by simp
 apply bf5
 refine bo4 (aE1 (a0:=vs.toArray.zip vs.toArray) (Q:=fun _ st'=>(arrOf st').Perm (vs.toArray.zip vs.toArray)/\failedOf st'=none/\Up rk (arrOf st') 0 (vs.toArray.zip vs.toArray).size) c (fun x hx=>?_) ⟨Array.Perm.refl _,rfl,rfl,rfl⟩ (by simp; omega) fun st' a1 a2 a3=>⟨a1,a2,a3⟩) ?_ fun _ _ z=>z
 ·have hx':x ∈ vs.zip vs:=by rw [<- zl]; exact Array.mem_toList_iff.mpr hx
  obtain ⟨y1,y2⟩:=mem_zip_self hx'
  have:=o x.1 y2
  have ex:x=(x.1,x.1):=Prod.ext rfl y1.symm
  rw [ex]; exact this
 ·rintro ⟨⟨⟩,st'⟩ s' ⟨rfl,pm,ok,up⟩
  have lp:(arrOf st').toList.Perm (vs.zip vs):=by rw [<- zl]; exact Array.perm_iff_toList_perm.mp pm
  have out:(arrOf st').map (·.2)=((arrOf st').toList.map (·.2)).toArray:=by apply Array.toList_inj.mp; rw [Array.toList_map]
  have op:((arrOf st').toList.map (·.2)).Perm vs:=by
   have:=lp.map (·.2)
   rw [qJ] at this; exact this
  have sz:(arrOf st').size=vs.length:=by rw [pm.size_eq]; simp
  dsimp only
  apply bf5
  apply seqEpoch_at there rfl
  apply bf5
  refine listUpdate_at there rfl ?_ (bk5 _) (by rw [Array.size_map,sz]; exact Nat.le_succ_of_le big)
  rw [ok]
  simp only [bne_self_eq_false,bi0,bm6]
  refine bf8 ?_
  have hq:=q _ op ?_
  ·rw [<- out] at hq; exact hq
  ·rw [bq0,bl9]
   intro i j hi hj hij
   have hi':i < (arrOf st').size:=by simpa using hi
   have hj':j < (arrOf st').size:=by simpa using hj
   have h1:=up i j (bk5 _) (bm3 hij) (by simp; omega)
   rw [cB hi',cB hj'] at h1
   have dg:∀ x ∈ (arrOf st').toList,(x.2,x.2)=x:=fun x hx=>Prod.ext (mem_zip_self (lp.mem_iff.mp hx)).1.symm rfl
   rw [dg _ (bp7 hi),dg _ (bp7 hj)]
   simpa using h1
theorem aE5 {prog:Program}{w:World}{A:Around}{E:Value->Shared->Prop}{s:Shared}{l:Addr}{vs:List Value}{Q:Value->Shared->Prop}{κ:SortKind}{Ok:Keyed->Prop}{rk:Keyed->Int}
  (hl:s.heap.IsList l vs.toArray) (h2:2<=vs.length) (big:vs.length<=sizeLine)
  (hk:∀ (A:Around) (E:Value->Shared->Prop) (Q:SortKind->Shared->Prop),Q κ { s with heap:=eW (fF s.heap vs) (s.heap.objs.size+1) vs }->wpAny (model prog w) A (keyKind' vs.toArray) Q E { s with heap:=eW (fF s.heap vs) (s.heap.objs.size+1) vs })
  (c:∀ (A:Around) (E:Value->Shared->Prop),cM prog w A E { s with heap:=eW (fF s.heap vs) (s.heap.objs.size+1) vs } κ Ok rk) (o:∀ v ∈ vs,Ok (v,v))
  (q:∀ out:List Value,out.Perm vs->out.Pairwise (fun u v=>rk (u,u)<=rk (v,v))->Q (.ref (s.heap.objs.size+1)) { s with heap:=sortedAll s.heap vs out.toArray }):wpAny (model prog w) A (call (.builtin "sorted") [.ref l]) Q E s:=by
 apply Calls.call_function_entry kind_sorted plain_sorted entry_sorted (args_sorted1 _)
 simp only [Builtin.«sorted»]
 apply bf5 (m:=checkCount "sorted" 1 1 _)
 apply bf8
 apply bf5
 refine collect_list hl ?_ big
 apply bf5
 refine wpAny_newList ?_ big
 have one:((s.heap.push (seqObj "list" #[] 0)).update s.heap.objs.size (Obj.mapSeq (· ++ vs.toArray))).objs.size=s.heap.objs.size+1:=(Heap.size_update _ _ _).trans (size_push' _ _)
 have at1:(fF s.heap vs).get? (s.heap.objs.size+1)=some (seqObj "list" vs.toArray 0):=one ▸ bg6 _ rfl
 change wpAny _ _ _ _ _ { s with heap:=fF s.heap vs }
 rw [one]
 apply bf5
 apply bl6
 refine bj4 slot_list_sort ⟨_,at1,rfl⟩ entry_list_sort ?_ (args_list_sort _)
 exact aE4 (s:={ s with heap:=fF s.heap vs }) at1 h2 big (hk _ _) (c _ _) o fun out a1 a2=>⟨_,rfl,bf8 ⟨_,rfl,q out a1 a2⟩⟩
def rZ (h:Heap) (B:Int) (x:Keyed):Int:=match x.1 with
 | .ref b=>match h.get? b with
  | some ob=>match ob.data with
   | .seq us _=>numOf (us.getD 0 .none) * B+numOf (us.getD 1 .none)
   | _=>0
  | none=>0
 | _=>0
structure jA (h:Heap) (M:Int) (v:Value) (p q:Int):Prop where
 at_:∃ b ob us n,v = .ref b/\h.get? b=some ob/\ob.cls = .type "tuple"/\ob.data = .seq (List.toArray us) n/\IntsAre us [p,q]
 lo : -M<=q
 hi:q<=M
theorem jA.rk {h:Heap}{M B:Int}{x:Keyed}{p q:Int} (z:jA h M x.1 p q):rZ h B x=p * B+q:=by
 obtain ⟨b,ob,us,n,e1,e2,_,e4,e5⟩:=z.at_
 cases e5 with
 | cons _ t e6=>cases e6 with
  | cons _ u e7=>cases e7; unfold rZ; rw [e1]; dsimp only; rw [e2]; dsimp only; rw [e4]; rfl
theorem Q3 {p q p' q' M:Int} (h1 : -M<=q) (h2:q<=M) (h3 : -M<=q') (h4:q'<=M):HT.i8 [p,q] [p',q']=decide (p * (2 * M+1)+q < p' * (2 * M+1)+q'):=by
 rw [HT.nT]
 have mm:∀ {a b:Int},a < b->a * (2 * M+1)+(2 * M+1)<=b * (2 * M+1):=fun {a b} z=>by
  have:=Int.mul_le_mul_of_nonneg_right (show a+1<=b by omega) (show 0<=2 * M+1 by omega)
  rw [Int.add_mul,Int.one_mul] at this
  exact this
 by_cases e:p=p'
 ·subst e
  rw [if_pos rfl,HT.nT]
  by_cases e2:q=q'
  ·subst e2
   rw [if_pos rfl,HT.am4,bg2 (by omega)]
  ·rw [if_neg e2]
   by_cases l:q < q'
   ·rw [bg3 l,bg3 (by omega)]
   ·rw [bg2 l,bg2 (by omega)]
 ·rw [if_neg e]
  by_cases l:p < p'
  ·have:=mm l
   rw [bg3 l,bg3 (by omega)]
  ·have:=mm (show p' < p by omega)
   rw [bg2 l,bg2 (by omega)]
theorem aE6 {prog:Program}{w:World}{A:Around}{E:Value->Shared->Prop}{s:Shared}{M:Int}:cM prog w A E s (tuples' true) (fun x=>∃ p q,jA s.heap M x.1 p q) (rZ s.heap (2 * M+1)):=by
 rintro x y ⟨p,q,z⟩ ⟨p',q',z'⟩ st Q hk hq
 rw [z.rk,z'.rk] at hq
 rw [<- Q3 z.lo z.hi z'.lo z'.hi] at hq
 obtain ⟨b,ob,us,n,e1,e2,e3,e4,e5⟩:=z.at_
 obtain ⟨b',ob',us',n',e1',e2',e3',e4',e5'⟩:=z'.at_
 rw [lt'_eq]
 refine bg9 (wpS_get ?_)
 rw [hk,e1,e1']
 refine bg9 (wpS_lift (br0 (PySem.W.kat_lt e2 e4 e2' e4' ?_)))
 have:=E2 (prog:=prog) (w:=w) (A:=A) (s:=s) (Q:=fun a s'=>s'=s/\wpS (model prog w) A E s (pure (some a)) Q st) 0 e5 e5' ⟨rfl,bh7 hq⟩
 simpa using this
theorem aE7 {vs vs':List Value} (h:vs.Perm vs'):∀ {xs:List V},aI xs vs->∃ xs',xs'.Perm xs/\aI xs' vs':=by
 induction h with
 | nil=>intro xs r; exact⟨xs,bu7 _,r⟩
 | cons v _ ih=>
  intro xs r
  cases r with
  | cons r t=>
   obtain ⟨xs',p,r'⟩:=ih t
   exact⟨_ :: xs',p.cons _,.cons r r'⟩
 | swap u v l=>
  intro xs r
  cases r with
  | cons r t=>cases t with
   | cons r2 t2=>exact⟨_,List.Perm.swap _ _ _,.cons r2 (.cons r t2)⟩
 | trans _ _ ih1 ih2=>
  intro xs r
  obtain ⟨x1,p1,r1⟩:=ih1 r
  obtain ⟨x2,p2,r2⟩:=ih2 r1
  exact⟨x2,p2.trans p1,r2⟩
theorem Q4 {α:Type} (f:α->Int):∀ l:List α,∃ M:Int,∀ y ∈ l,-M<=f y/\f y<=M
 | []=>⟨0,fun _ h=>nomatch h⟩
 | x :: l=>by
  obtain ⟨M,h⟩:=Q4 f l
  refine⟨max M (max (f x) (- f x)),fun y hy=>?_⟩
  rcases bg4.mp hy with e | e
  ·subst e; omega
  ·have:=h y e; omega
def Q5 (K:PySem.W.Frag):List V->Hp->VK->Prop:=fun xs H Q=>∃ (a:Addr) (ys:List V) (key:V->List Int),xs = [.ref a]/\aN K H a ys/\ys.length<=4096/\(∀ y ∈ ys,∃ b,y = .ref b/\aL K H b ((key y).map V.int)/\(key y).length=2)/\
 ∀ l (zs:List V),H l=none->zs.Perm ys->zs.Pairwise (fun u v=>HT.i8 (key v) (key u)=false)->Q (.ref l) (upd H l (.lst zs))
theorem aE8 {X:Cx}:cS X (.builtin "sorted") (Q5 X.K):=by
 intro pins s σ H xs us Q I r h
 obtain ⟨a,ys,key,rfl,hs,hz4,hk,q⟩:=h
 obtain ⟨u,rfl,ru⟩:=gP r
 cases ru
 obtain ⟨its,rv,p,hz⟩:=I.list hs
 have hl:=rv.length
 have hn:s.heap.objs.size<=s.heap.objs.size+1:=Nat.le_succ _
 by_cases h2:its.length < 2
 ·refine ar4 p.isList h2 ?_
  obtain ⟨e,he⟩:=sortedAll_at s.heap its its.toArray
  refine⟨.ref (s.heap.objs.size+1),upd H (s.heap.objs.size+1) (.lst ys),I.laid (t':=s.toks) (fun _ _=>sortedAll_old) hn ⟨hz,its,e,rv,he⟩,rfl,q _ ys (I.hok.fresh hn) (bu7 _) ?_⟩
  match ys,hl with
  | [],_=>exact List.Pairwise.nil
  | [_],_=>exact bo7 _ _
  | _ :: _ :: _,hl=>simp at hl; omega
 ·obtain ⟨M,hM⟩:=Q4 (fun y=>(key y).getD 1 0) ys
  have pv:∀ {y:V}{v:Value},aU y v->y ∈ ys->∃ pp qq,key y = [pp,qq]/\jA (eW (fF s.heap its) (s.heap.objs.size+1) its) M v pp qq:=fun {y v} ry hy=>by
   obtain ⟨b,rfl,sq,l2⟩:=hk y hy
   cases ry
   obtain ⟨us,ru,⟨ob,e1,c1,n1,d1⟩,_⟩:=I.tuple sq
   have ia:=uA ru
   have mm:=hM _ hy
   match hkk:key (V.ref b),l2 with
   | [pp,qq],_=>
    rw [hkk] at ia mm
    exact⟨pp,qq,rfl,⟨b,ob,us,n1,rfl,aE3 (bi6 (bv5 (bg8 e1))) (aE2 e1),c1,d1,ia⟩,mm.1,mm.2⟩
  have pvs:∀ {xs:List V}{vs:List Value},aI xs vs->(∀ y ∈ xs,y ∈ ys)->∀ v ∈ vs,∃ pp qq,jA (eW (fF s.heap its) (s.heap.objs.size+1) its) M v pp qq:=by
   intro xs vs r
   induction r with
   | nil=>intro _ v hv; cases hv
   | cons rx rt ih=>
    intro hh v hv
    rcases bg4.mp hv with z | z
    ·subst z
     obtain ⟨pp,qq,_,z⟩:=pv rx (hh _ bg7)
     exact⟨pp,qq,z⟩
    ·exact ih (fun y hy=>hh y (bh5 _ hy)) v z
  have firsts:∀ {vs:List Value},(∀ v ∈ vs,∃ pp qq,jA (eW (fF s.heap its) (s.heap.objs.size+1) its) M v pp qq)->∃ fs:List Value,PySem.W.KatTups (eW (fF s.heap its) (s.heap.objs.size+1) its) vs fs/\fs.length=vs.length/\∀ v ∈ fs,∃ i t,v=Value.int i t:=by
   intro vs
   induction vs with
   | nil=>intro _; exact⟨[],PySem.W.KatTups.nil,rfl,fun _ z=>nomatch z⟩
   | cons v vs ih=>
    intro hh
    obtain ⟨fs,t1,t2,t3⟩:=ih fun y hy=>hh y (bh5 _ hy)
    obtain ⟨pp,qq,z⟩:=hh v bg7
    obtain ⟨b,ob,us,n,rfl,e2,e3,e4,e5⟩:=z.at_
    cases e5 with
    | cons _ t e6=>exact⟨Value.int pp t :: fs,PySem.W.KatTups.cons e2 e3 e4 (by simp) t1,by simp [t2],fun v hv=>(bg4.mp hv).elim (fun z=>⟨pp,t,z⟩) (t3 v)⟩
  have allp:=pvs rv fun _ h=>h
  obtain ⟨fs,t1,t2,t3⟩:=firsts allp
  refine aE5 (κ:=tuples' true) (Ok:=fun x=>∃ pp qq,jA (eW (fF s.heap its) (s.heap.objs.size+1) its) M x.1 pp qq) (rk:=rZ (eW (fF s.heap its) (s.heap.objs.size+1) its) (2 * M+1)) p.isList (by omega) (by rw [<- hl]; exact hz)
   (fun A E Q hQ=>?_) (fun A E=>aE6 (s:={ s with heap:=eW (fF s.heap its) (s.heap.objs.size+1) its })) (fun v hv=>allp v hv) fun out pm so=>?_
  ·refine PySem.W.kat_kind (T:=.type "int") t1 (by omega) (fun v hv=>?_) (by decide) ?_
   ·obtain ⟨i,t,rfl⟩:=t3 v hv
    exact PySem.W.Looks.now
   ·have eT:(Value.type "int" != Value.type "tuple")=true:=by decide
    rw [eT]; exact hQ
  ·obtain ⟨zs,pz,rz⟩:=aE7 pm.symm rv
   obtain ⟨e,he⟩:=sortedAll_at s.heap its out.toArray
   refine⟨.ref (s.heap.objs.size+1),upd H (s.heap.objs.size+1) (.lst zs),I.laid (t':=s.toks) (fun _ _=>sortedAll_old) hn ⟨by rw [pz.length_eq]; exact hz,out,e,rz,he⟩,rfl,q _ zs (I.hok.fresh hn) pz ?_⟩
   have lz:=rz.length
   rw [bl9]
   intro i j hi hj hij
   have s1:=bl9.mp so i j (by omega) (by omega) hij
   have gi:=uZ i hi rz
   have gj:=uZ j hj rz
   simp only [bh2,bf9 hi,bf9 hj,bf9 (show i < out.length by omega),bf9 (show j < out.length by omega),Option.getD_some] at gi gj
   obtain ⟨pi,qi,ki,vi⟩:=pv gi (pz.mem_iff.mp (bp7 hi))
   obtain ⟨pj,qj,kj,vj⟩:=pv gj (pz.mem_iff.mp (bp7 hj))
   rw [jA.rk (x:=(out[i],out[i])) vi,jA.rk (x:=(out[j],out[j])) vj] at s1
   rw [ki,kj,Q3 vj.lo vj.hi vi.lo vi.hi]
   exact bg2 (by omega)
end L2
namespace L2
open PySem PySem.Spec PyProof.Rows
theorem bH.at {P:Program}{w:World}{H:Hp}{h:Heap}{a:Addr}{o:HO} (x:bH P w H h a o):∃ ob,h.get? a=some ob:=by
 cases o with
 | lst xs=>obtain ⟨_,_,_,_,e⟩:=x; exact⟨_,e⟩
 | tup xs=>obtain ⟨_,_,_,_,e,_⟩:=x; exact⟨_,e⟩
 | dK kvs=>obtain ⟨_,_,_,_,_,_,_,e,_⟩:=x; exact⟨_,e⟩
 | dT kvs=>obtain ⟨_,_,_,_,_,_,_,e,_⟩:=x; exact⟨_,e⟩
 | set S n=>obtain ⟨_,_,_,_,e,_⟩:=x; exact⟨_,e⟩
 | ins C dx fs=>obtain ⟨_,_,_,e,_⟩:=x; exact⟨_,e⟩
 | own y=>exact x
 | xd fs=>obtain ⟨_,⟨_,_,_,e,_⟩,_⟩:=x; exact⟨_,e⟩
 | rng lo hi=>obtain ⟨_,_,_,e⟩:=x; exact⟨_,e⟩
 | frz ob u=>obtain ⟨e,_⟩:=x; exact⟨_,e⟩
 | tbl ps=>exact⟨_,x⟩
 | met f y=>exact⟨_,x⟩
 | ext φ=>exact x.2.1
structure kU (P:Program) (w:World) (outer:List Env) (H:Hp) (s:Shared) (H':Hp) (B:Heap) (a C:Addr) (s':Shared):Prop where
 os:s'.os=s.os
 bare:AllBare s'.gens
 un:Un (bL outer) [] H H' s.heap s'.heap
 hok:bN P w H' s'.heap
 fly:∃ a0,Heap.FlyingW B outer a (.ref C) a0 s'.heap
 b0:∀ b o,s.heap.get? b=some o->b ∉ bL outer->∃ o',B.get? b=some o'
 b1:∀ b o,s.heap.get? b=some o->H b=none->b ∉ bL outer->B.get? b=some o
 b2:∀ b u o,H' b=some u->s'.heap.get? b=some o->B.get? b=some o
def dS (P:Program) (w:World):fV:=fun outer H s E e s'=>∃ (H':Hp) (B:Heap) (a C:Addr),e = .ref a/\kU P w outer H s H' B a C s'/\E (.ref C) none H'
section
variable {P : Program} {w : World} {outer : List Env} {H H' : Hp} {s s' : Shared} {B h2 : Heap} {a C : Addr}
theorem kU.fresh (f:kU P w outer H s H' B a C s'):H' a=none:=by
 cases q:H' a with
 | none=>rfl
 | some u=>
  obtain ⟨ob,e⟩:=(f.hok a u q).at
  have z:=f.b2 a u ob q e
  obtain ⟨_,_,n,_⟩:=f.fly
  rw [n] at z; cases z
theorem kU.hok2 (f:kU P w outer H s H' B a C s') (k:B.StaysIn h2):bN P w H' h2:=fun b u e=>
 (f.hok b u e).stay (fun c v hc q=>by
  rcases hc with z | z
  ·subst z; exact k _ _ (f.b2 _ _ _ e q)
  ·exact k _ _ (f.b2 _ _ _ z q)) (fun _ q=>q) fun _ _ q=>q
end
section
variable {P : Program} {w : World} {K : PySem.W.Frag} {mg : Str → Option Value} {base : Heap} {N : List Str} {qual : Str} {scope : Scope} {f : Addr} {cd : Value} {A : Around} {outer : List Env} {s₀ : Shared} {H₀ : Hp} {E₀ E₁ : XK}
theorem sA {pins:List (Addr × Obj)}{σ:St}{H:Hp}{s:Shared} (I:a7 (cW (dS P w) P w K mg base N qual scope f cd A outer s₀ H₀ E₀) pins σ H s) {b:Addr}{o:Obj} (e:s₀.heap.get? b=some o) (n:b ∉ bL outer) :
  b ∉ bL (envOfC qual scope s₀.heap.objs.size f cd :: outer):=fun z=>by
 rcases bg4.mp (I.stkSub b z) with y | y
 ·have l:=bg8 e
  have y:b=s₀.heap.objs.size:=y
  exact absurd l (by rw [y]; exact bm5 _)
 ·exact n y
theorem aE9 (hE:∀ c d H',E₁ c d H'->E₀ c d H'):nS (dS P w) (cW (dS P w) P w K mg base N qual scope f cd A outer s₀ H₀ E₀) E₁:=by
 intro pins σ H s e s' I hx
 obtain ⟨H',B,a,C,e1,fl,q⟩:=hx
 subst e1
 have I':=I.call' fl.os fl.un fl.hok fl.bare (ch:=[]) (fun b z=>absurd z (by simp))
 obtain ⟨a0,fly⟩:=fl.fly
 refine wpAny_leaves_onW I.ok.frames rfl fly fun h' fly' up=>?_
 have slot:∀ b o,s₀.heap.get? b=some o->b ∈ bL outer->∃ sl,h'.get? b=some { o with slots:=sl }:=fun b o e hb=>by
  obtain ⟨sl,e1⟩:=I'.base.slot b o e (I.ok.frf b hb) hb (fun z=>nomatch z)
  obtain ⟨_,o2,e2,nf⟩:=I.ok.funs.mem hb
  rw [show (cW (dS P w) P w K mg base N qual scope f cd A outer s₀ H₀ E₀).s₀=s₀ from rfl,e] at e2
  cases e2
  obtain ⟨sl',e3⟩:=up b _ e1 nf
  exact⟨sl',e3⟩
 have old:∀ b o,s₀.heap.get? b=some o->H₀ b=none->b ∉ bL outer->B.get? b=some o:=fun b o e n hb=>
  fl.b1 b o (I.base.keep b o e n hb (fun z=>nomatch z)) (I.base.free b o e n (fun z=>nomatch z)) (sA I e hb)
 have old0:∀ b o,s₀.heap.get? b=some o->b ∉ bL outer->∃ o',B.get? b=some o':=fun b o e hb=>by
  obtain ⟨o1,e1⟩:=I.base.there b o e (fun z=>nomatch z)
  exact fl.b0 b o1 e1 (sA I e hb)
 refine⟨H',B,a,C,rfl,⟨I'.os,I'.bare,⟨fun b o e n hb _=>fly'.1 _ _ (old b o e n hb),fun b o e n hb _=>slot b o e hb,fun b o e n hx=>I'.base.free b o e n hx,fun b o e _=>?_,I'.base.tups,I'.base.frzs,I'.base.tbls⟩,fl.hok2 fly'.1,⟨a0,fly'⟩,old0,old,fun b u o e h=>?_⟩,hE _ _ _ q⟩
 ·by_cases hb:b ∈ bL outer
  ·obtain ⟨sl,e1⟩:=slot b o e hb
   exact⟨_,e1⟩
  ·obtain ⟨o',e1⟩:=old0 b o e hb
   exact⟨o',fly'.1 _ _ e1⟩
 ·obtain ⟨ob,e1⟩:=(fl.hok b u e).at
  have e2:=fl.b2 b u ob e e1
  have e3:=fly'.1 _ _ e2
  have h:h'.get? b=some o:=h
  rw [h] at e3; cases e3; exact e2
theorem aF0 {pins:List (Addr × Obj)}{σ:St}{H:Hp}{s:Shared}{h':Heap}{e C:Addr}{args:List Value} (I:a7 (cW (dS P w) P w K mg base N qual scope f cd A outer s₀ H₀ E₀) pins σ H s) (mx:Heap.MadeExcOf s.heap h' e (.ref C) args) (q:E₀ (.ref C) none H) :
  (cW (dS P w) P w K mg base N qual scope f cd A outer s₀ H₀ E₀).xe (.ref e) { s with heap:=h' }:=by
 have tr:∀ b u,H b=some u->b ∉ bL (envOfC qual scope s₀.heap.objs.size f cd :: outer):=fun b u z n=>by
  rw [I.stkFree b n] at z; cases z
 have inB:∀ b o,s.heap.get? b=some o->b ∉ bL (envOfC qual scope s₀.heap.objs.size f cd :: outer)->(PySem.W.hideAll s.heap (bL (envOfC qual scope s₀.heap.objs.size f cd :: outer))).get? b=some o:=fun b o z n=>PySem.W.hideAll_get _ z n
 refine wpAny_leaves_madeW (base:=PySem.W.hideAll s.heap (bL (envOfC qual scope s₀.heap.objs.size f cd :: outer))) I.ok.frames rfl (fun b o z=>PySem.W.of_hideAll _ z) (PySem.W.funFrames_hide I.stack fun env he b hb=>List.mem_filterMap.mpr ⟨env,he,hb⟩) mx fun h'' t fly _ _ up=>?_
 have slot:∀ b o,s₀.heap.get? b=some o->b ∈ bL outer->∃ sl,h''.get? b=some { o with slots:=sl }:=fun b o e hb=>by
  obtain ⟨sl,e1⟩:=I.base.slot b o e (I.ok.frf b hb) hb (fun z=>nomatch z)
  obtain ⟨_,o2,e2,nf⟩:=I.ok.funs.mem hb
  rw [show (cW (dS P w) P w K mg base N qual scope f cd A outer s₀ H₀ E₀).s₀=s₀ from rfl,e] at e2
  cases e2
  obtain ⟨sl',e3⟩:=up b _ (mx.keeps _ _ e1) nf
  exact⟨sl',e3⟩
 have old:∀ b o,s₀.heap.get? b=some o->H₀ b=none->b ∉ bL outer->(PySem.W.hideAll s.heap (bL (envOfC qual scope s₀.heap.objs.size f cd :: outer))).get? b=some o:=fun b o e n hb=>
  inB b o (I.base.keep b o e n hb (fun z=>nomatch z)) (sA I e hb)
 have old0:∀ b o,s₀.heap.get? b=some o->b ∉ bL outer->∃ o',(PySem.W.hideAll s.heap (bL (envOfC qual scope s₀.heap.objs.size f cd :: outer))).get? b=some o':=fun b o e hb=>by
  obtain ⟨o1,e1⟩:=I.base.there b o e (fun z=>nomatch z)
  exact⟨o1,inB b o1 e1 (sA I e hb)⟩
 refine⟨H,_,e,C,rfl,⟨I.os,I.bare,⟨fun b o e n hb _=>fly.1 _ _ (old b o e n hb),fun b o e n hb _=>slot b o e hb,fun b o e n hx=>I.base.free b o e n hx,fun b o e _=>?_,I.base.tups,I.base.frzs,I.base.tbls⟩,fun b u z=>?_,⟨_,fly⟩,old0,old,fun b u o z h=>?_⟩,q⟩
 ·by_cases hb:b ∈ bL outer
  ·obtain ⟨sl,e1⟩:=slot b o e hb
   exact⟨_,e1⟩
  ·obtain ⟨o',e1⟩:=old0 b o e hb
   exact⟨o',fly.1 _ _ e1⟩
 ·refine (I.hok b u z).stay (fun c v hc y=>?_) (fun _ y=>y) fun _ _ y=>y
  rcases hc with z' | z'
  ·subst z'; exact fly.1 _ _ (inB _ _ y (tr _ _ z))
  ·exact fly.1 _ _ (inB _ _ y (tr _ _ z'))
 ·obtain ⟨ob,e1⟩:=(I.hok b u z).at
  have e2:=inB b ob e1 (tr b u z)
  have e3:=fly.1 _ _ e2
  have h:h''.get? b=some o:=h
  rw [h] at e3; cases e3; exact e2
end
structure mO (X:Cx) (E:XK):Prop where
 pass:nS (dS X.prog X.w) X E
 made:∀ (pins:List (Addr × Obj)) (σ:St) (H:Hp) (s:Shared) (h':Heap) (e C:Addr) (args:List Value),a7 X pins σ H s->Heap.MadeExcOf s.heap h' e (.ref C) args->E (.ref C) none H->X.xe (.ref e) { s with heap:=h' }
 own:PassesOwn (model X.prog X.w) X.A X.env X.xe
theorem aF1 {P:Program}{w:World}{K:PySem.W.Frag}{mg:Str->Option Value}{base:Heap}{N:List Str}{qual:Str}{scope:Scope}{f:Addr}{cd:Value}{A:Around}{outer:List Env}{s₀:Shared}{H₀:Hp}{E₀ E₁:XK} (hE:∀ c d H',E₁ c d H'->E₀ c d H') :
  mO (cW (dS P w) P w K mg base N qual scope f cd A outer s₀ H₀ E₀) E₁:=
 ⟨aE9 hE,fun _ _ _ _ _ _ _ _ I mx q=>aF0 I mx (hE _ _ _ q),PassesOwn.leaving⟩
def Q6 (E:XK) (C:Addr) (t:TA):TS:=fun _ σ H=>t σ H fun vs H1=>vs.length<=sizeLine/\E (.ref C) none H1
theorem aF2 {X:Cx}{E:XK}{x:Str}{C:Addr}{bm:List Value}{B newId initId:String}{np cpos pos:Pos}{e:Expr}{es:List Expr}{t:TA} (hX:mO X E) (hc:X.calm=true) (O:OwnCls x C bm newId X.mg X.base) (FB:ExcBaseFacts B newId initId bm) (ha:PA X (e :: es) t) (hg:Gl X x)
  (hd:(x == ("__debug__" : Str))=false:=by decide) (he:starEach (e :: es) X.env=(false,eval e X.env) :: starEach es X.env:=by rfl) (hpl:(backTo cpos (starEach es X.env)).any (·.1)=false:=by rfl) :
  PS X (.Raise (some (.Call (.Name x np) (e :: es) [] cpos)) none pos) (Q6 E C t):=by
 intro pins s σ H D I h
 obtain ⟨tl,Na,nm,qn,bs,hx,sn,sub,ab,col,dd,k0,k1,k2,k3,k5,mN,hC,hN,hni,T⟩:=O.obj
 refine wpAny_Raise_call_subT (nm:=nm) (q:=qn) (N:=Na) (bs:=bs) (bm:=tl) (hdct:=hx) (sn:=sn) (sub:=sub) (ab:=ab) (col:=col) (dd:=dd) (k0:=k0) (k1:=k1) (k2:=k2) (k3:=k3) (k5:=k5) FB (C:=C) (mN:=mN) (T.hasType FB.hasBase) (I.ok.hd hc) (by rw [he]; show (false || (backTo cpos (starEach es X.env)).any (·.1))=false; rw [hpl]; rfl) hni (nJ I hg O.bound ⟨rfl,?_⟩ hd)
 have h1:=ha cpos pins s σ H _ I h
 rw [he] at h1 ⊢
 refine Calls.evalArgs_plain (bo4 h1 (fun us s2 h2=>?_) fun _ _ y=>y)
 obtain ⟨vs,H2,I2,r,hl,q⟩:=h2
 have r:aI vs us:=r
 exact⟨rfl,by show us.length<=sizeLine; rw [<- r.length]; exact hl,I2.bk _ _ hC,hN.keeps I2.bk,T.keeps I2.bk,fun h' e' mx=>hX.made pins σ H2 s2 h' e' C _ I2 mx q⟩
theorem eC.okX {P:Program}{w:World}{K:PySem.W.Frag}{mg:Str->Option Value}{base:Heap}{x qual:Str}{st:Stmt}{f:Addr}{fd:FuncData}{N ps:List Str}{k:Nat}{sp:Sp} (F:eC K x qual st f fd) (S:FnScope N ps (aQ st)) (len:∀ vs H Q E,sp vs H Q E->vs.length=ps.length)
  (hbody:∀ (cdv:Value) (A:Around) (outer:List Env) (s:Shared) (H:Hp) (vs:List V) (Q:VK) (E:XK),bS k (A.deeper (envOfC qual (aQ st) s.heap.objs.size f cdv))->sp vs H Q E->
   ∃ t,cU (cW (dS P w) P w K mg base N qual (aQ st) f cdv A outer s H E) (dN st) t/\t { nx:=fun _ H'=>Q .non H',rt:=Q } (fW N vs) H):cT P w K mg base (dS P w) (k+1) f fd ps sp:=by
 obtain ⟨oc,od,kV,doc,pm,an,cdv,ct,osl,rfl,lk,hcd⟩:=F.ex
 exact zO lk hcd S len fun A outer s H vs Q E hr hsp=>hbody cdv A outer s H vs Q E hr hsp
section
variable {X : Cx} {pins : List (Addr × Obj)} {σ : St} {H H1 H' : Hp} {s s1 s' : Shared} {B h2 : Heap} {a C : Addr}
theorem Q7 {oe:Obj} (I:a7 X pins σ H1 s1) (fl:kU X.prog X.w X.stack H1 s1 H' B a C s') (st:B.StaysIn h2) (up:s'.heap.UpToSlots h2) (he:h2.get? a=some oe) :
  a7 X pins σ (upd H' a (.frz oe (.own a))) { s' with heap:=h2 }:=by
 obtain ⟨a0,fly⟩:=fl.fly
 have na:B.get? a=none:=fly.2.1
 have nf:a ∉ bL X.stack:=fun z=>by
  obtain ⟨_,o,e,d⟩:=fly.2.2.1.mem z
  obtain ⟨o2,vs,e2,_,d2,_⟩:=fly.first
  rw [e] at e2; cases e2
  exact d vs d2
 have nb:∀ b o,s1.heap.get? b=some o->b ≠ a:=fun b o e z=>by
  subst z
  obtain ⟨o',e'⟩:=fl.b0 _ o e nf
  rw [na] at e'; cases e'
 have nt:∀ b u,H' b=some u->b ≠ a:=fun b u e z=>by
  subst z; rw [fl.fresh] at e; cases e
 have off:∀ b,b ≠ X.env.locals->b ∉ X.fs->b ∉ bL X.stack:=fun b n1 n2 z=>(bg4.mp (I.stkSub b z)).elim n1 n2
 have slot:∀ b o,s1.heap.get? b=some o->b ∈ bL X.stack->∃ sl,h2.get? b=some { o with slots:=sl }:=fun b o e hb=>by
  obtain ⟨sl,e1⟩:=fl.un.any e (I.stkFree b hb) (fun z=>nomatch z)
  obtain ⟨_,o2,e2,d⟩:=I.stack.mem hb
  rw [e] at e2; cases e2
  obtain ⟨sl',e3⟩:=up b _ e1 d
  exact⟨sl',e3⟩
 have ns:∀ m,s1.heap.Ns X.env.locals m->h2.Ns X.env.locals m:=fun m hm=>by
  obtain ⟨o,es,ep,e,r⟩:=hm
  obtain ⟨sl,e1⟩:=fl.un.any e I.free (fun z=>nomatch z)
  exact up.ns ⟨_,es,ep,e1,r⟩
 have hok:bN X.prog X.w (upd H' a (.frz oe (.own a))) h2:=fun b u e=>by
  by_cases hb:b=a
  ·subst hb; rw [b8] at e; cases e; exact⟨he,_,he⟩
  ·rw [aH hb] at e
   exact (fl.hok2 st b u e).stay (fun _ _ _ q=>q) (fun c q=>by rw [aH (nt c _ q)]; exact q) fun c xs q=>by rw [aH (nt c _ q)]; exact q
 have bare:=fl.bare
 have un:=fl.un
 have b0:=fl.b0
 have b1:=fl.b1
 have os:=fl.os
 clear fl fly up
 obtain ⟨hh,g,d,t,os'⟩:=s'
 obtain rfl:os'=s1.os:=os
 show a7 X pins σ _ { s1 with heap:=h2,gens:=g,drawn:=d,toks:=t }
 refine I.step (h':=h2) (g':=g) (d':=d) (t':=t) (ch:=[]) (fun _ z=>nomatch z) (fun b o n1 n2 _ e n=>st _ _ (b1 b o e n (off b n1 n2))) (fun b o n1 hb _ e n=>?_) (fun b o _ e n=>by rw [aH (nb b o e)]; exact un.free b o e n (fun z=>nomatch z)) (fun b o _ e=>?_)
  (fun b xs q=>by rw [aH (nt b _ (un.tups b xs q))]; exact un.tups b xs q) (fun b o u q=>by rw [aH (nt b _ (un.frzs b o u q))]; exact un.frzs b o u q) (fun b ps q=>by
   obtain ⟨more,q'⟩:=un.tbls b ps q
   exact⟨more,by rw [aH (nt b _ q')]; exact q'⟩) ns hok bare
 ·by_cases hs:b ∈ bL X.stack
  ·exact slot b o e hs
  ·exact⟨o.slots,st _ _ (b1 b o e n hs)⟩
 ·by_cases hb:b ∈ bL X.stack
  ·obtain ⟨sl,e1⟩:=slot b o e hb
   exact⟨_,e1⟩
  ·obtain ⟨o',e1⟩:=b0 b o e hb
   exact⟨o',st _ _ e1⟩
abbrev Cx.suite (X:Cx) (a:Addr):Cx:={ X with A:=X.A.mark (some (.ref a)),calm:=false,xe:=fun _ _=>False }
theorem Cx.Ok.suite {X:Cx} (ok:X.Ok) (a:Addr):(X.suite a).Ok:=
 ⟨ok.mod,ok.kind,ok.glob,ok.blt,ok.above,ok.inj,ok.has,ok.cab,fun z=>Bool.noConfusion z,ok.frames,ok.stk,ok.exf,ok.bs,ok.bsz,ok.noex,ok.exfs,ok.funs,ok.frf⟩
theorem a7.suite (I:a7 X pins σ H s) (a:Addr):a7 (X.suite a) pins σ H s:=⟨I.ok.suite a,I.os,I.bare,I.base,I.loc,I.cell,I.free,I.freeC,I.pin,I.hok,I.len⟩
theorem a7.unsuite (I:a7 (X.suite a) pins σ H s) (ok:X.Ok):a7 X pins σ H s:=⟨ok,I.os,I.bare,I.base,I.loc,I.cell,I.free,I.freeC,I.pin,I.hok,I.len⟩
theorem sB {M:Model}{A:Around}{E:Value->Shared->Prop}{i:Nat}{x:Str}{pos:Pos}{Q:Unit->Shared->Prop} (I:a7 X pins σ H s) (hN:X.N.Nodup) (hi:X.N[i]? = some x) (hk:X.env.scope.names.lookup x=some .local)
  (h:∀ s',a7 X pins (σ.set i none) H s'->Q () s'):wpAny M A (do bindName X.env x .none; unbindBehindTheSuite X.env x pos) Q E s:=by
 obtain ⟨m,hn,hl⟩:=id I.loc
 obtain ⟨oL,_,_,hoL,_⟩:=id hn
 have ab:∀ b o,X.s₀.heap.get? b=some o->b ≠ X.env.locals:=fun b o e=>bi6 (bh0 (bg8 e) I.ok.above)
 refine wpAny_nameGoes_keeps hk hn (by rw [I.ok.kind]; rfl) fun h' v hn' hs=>?_
 refine h _ ⟨I.ok,I.os,I.bare,⟨fun b o e n hb hx=>(hs.2 b (ab b o e)).trans (I.base.keep b o e n hb hx),fun b o e n hb hx=>?_,I.base.free,fun b o e hx=>?_,I.base.tups,I.base.frzs,I.base.tbls⟩,⟨_,hn',fun j y v' e1 e2 e3=>?_⟩,fun y c e=>?_,I.free,I.freeC,fun p hp=>?_,fun b u e=>?_,by simpa using I.len⟩
 ·obtain ⟨sl,e1⟩:=I.base.slot b o e n hb hx
  exact⟨sl,(hs.2 b (ab b o e)).trans e1⟩
 ·obtain ⟨o',e1⟩:=I.base.there b o e hx
  exact⟨o',(hs.2 b (ab b o e)).trans e1⟩
 ·by_cases hj:j=i
  ·subst hj
   have hjl:j < σ.length:=by rw [I.len]; exact (bh4.mp hi).1
   rw [bk4 hjl] at e2
   cases e2
  ·rw [bi1 (Ne.symm hj)] at e2
   obtain ⟨u',r',q⟩:=hl j y v' e1 e2 e3
   refine⟨u',r',?_⟩
   rcases q with ⟨k,e⟩ | ⟨k,c,e,z⟩
   ·have ny:y ≠ x:=fun z=>hj (tN hN e1 (z ▸ hi))
    exact .inl ⟨k,by simp [ny,e]⟩
   ·exact .inr ⟨k,c,e,z.sameBut hs (I.cne y c e)⟩
 ·obtain ⟨w',z⟩:=I.cell y c e
  exact⟨w',z.sameBut hs (I.cne y c e)⟩
 ·obtain ⟨e,n,ne,nf,d⟩:=I.pin p hp
  exact⟨(hs.2 p.1 ne).trans e,n,ne,nf,d⟩
 ·refine (I.hok b u e).stay (fun c v hc q=>(hs.2 c fun z=>?_).trans q) (fun _ q=>q) fun _ _ q=>q
  subst z
  rcases hc with z | z
  ·subst z; rw [I.free] at e; cases e
  ·rw [I.free] at z; cases z
theorem aF3 {M:Model}{A:Around}{E:Value->Shared->Prop}{K:PySem.W.Frag}{e C D:Addr}{oe:Obj}{Q:Bool->Shared->Prop} (k:K.In s.heap) (he:s.heap.get? e=some oe) (hc:oe.cls = .ref C) (h1:(PySem.W.clsIn K D).isSome=true) (h2:PySem.W.typeIn K (.ref D)=some (.type "type"))
  (h3:PySem.W.subIn K (.ref D) (.type "BaseException")=some true) (h4:PySem.W.subIn K (.ref C) (.ref D)=some true) (hq:Q true s):wpAny M A (excMatches (.ref e) (.ref D)) Q E s:=by
 obtain ⟨h,g,d,t,os⟩:=s
 have k:K.In h:=k
 have he:h.get? e=some oe:=he
 have l1:PySem.W.Looks M h (isType (.ref D)) true:=by
  unfold PySem.W.clsIn at h1
  split at h1
  ·rename_i c' d' cd' sl' ho
   intro A' Q' E' s' kk q
   unfold isType loadHead
   exact bf5 (wpAny_loadPart (kk _ _ (k _ _ ho)) (bf8 q))
  ·cases h1
 have l2:PySem.W.Looks M h (typeOf (.ref D)) (.type "type"):=PySem.W.looks_typeIn k h2
 have l3:PySem.W.Looks M h (isSubtype (.ref D) (.type "BaseException")) true:=PySem.W.looks_subIn k h3
 have l4:PySem.W.Looks M h (isSubtype (.ref C) (.ref D)) true:=PySem.W.looks_subIn k h4
 have l5:PySem.W.Looks M h (typeOf (.ref e)) (.ref C):=hc ▸ (PySem.W.Looks.ld he).andThen .now
 have l6:PySem.W.Looks M h (isInstance (.ref D) (.type "tuple")) false:=l2.andThen (PySem.W.Looks.of_pure tc_notTuple)
 have l7:PySem.W.Looks M h (isExcClass (.ref D)) true:=by
  unfold isExcClass
  exact l1.andThen (by simpa using l3)
 have f:=tc_notTuple
 unfold excMatches
 repeat (first | exact hq | (with_reducible refine l2.at ?_) | (with_reducible refine l7.at ?_) | (with_reducible refine l1.at ?_) | (with_reducible refine l3.at ?_) | (with_reducible refine l5.at ?_) | (with_reducible refine l4.at ?_) | wp_step)
end
def wP (D:c9) (i:Nat):c9:={ nx:=fun σ H=>D.nx (σ.set i none) H,rt:=D.rt,bk:=fun σ H=>D.bk (σ.set i none) H,ct:=fun σ H=>D.ct (σ.set i none) H }
section
variable {X : Cx} {pins : List (Addr × Obj)} {σ : St} {H H1 H' : Hp} {s s1 s' : Shared} {B : Heap} {a C Ch : Addr} {i : Nat} {x n : Str} {np pos hpos : Pos} {b₀ : Stmt} {suite : List Stmt} {ts : TS} {D : c9} {cH : List ExceptHandler}
structure wQ (K:PySem.W.Frag) (Ch:Addr):Prop where
 c1:(PySem.W.clsIn K Ch).isSome=true
 c2:PySem.W.typeIn K (.ref Ch)=some (.type "type")
 c3:PySem.W.subIn K (.ref Ch) (.type "BaseException")=some true
theorem aF4 (I:a7 X pins σ H1 s1) (fl:kU X.prog X.w X.stack H1 s1 H' B a C s') (hstk:X.stack=X.env :: X.outer/\X.env.frame=some X.env.locals) (hg:Gl X x) (hm:X.mg x=some (.ref Ch)) (ct:wQ X.K Ch) (sub:PySem.W.subIn X.K (.ref C) (.ref Ch)=some true)
  (hN:X.N.Nodup) (hi:X.N[i]? = some n) (hl:X.env.scope.names.lookup n=some .local) (hs:cU (X.suite a) (b₀ :: suite) ts) (q:∀ oe:Obj,oe.cls = .ref C->ts (wP D i) (σ.set i (some (.ref a))) (upd H' a (.frz oe (.own a)))) (hd:(x == ("__debug__" : Str))=false) :
  wpAny (model X.prog X.w) X.A (noteFrame (.ref a) X.env) (fun _ s₂=>wpAny (model X.prog X.w) X.A (setFlight (.ref a) none) (fun _ s₃=>wpAny (model X.prog X.w) X.A (handleBy (.ref a) X.env (.ExceptHandler (some (.Name x np)) (some n) (b₀ :: suite) hpos :: cH)) (SP X pins D) X.xe s₃) X.xe s₂) X.xe s':=by
 obtain ⟨a0,fly⟩:=fl.fly
 rw [hstk.1] at fly
 refine wpAny_looks_onW (outer:=X.outer) (L:=X.env.locals) (by rw [I.ok.frames,hstk.1]) hstk.2 fly fun h4 held up4=>wpAny_landsW held fun h5 fly5 up5=>?_
 obtain ⟨o5,v5,e5,c5,_⟩:=fly5.first
 have I5:=Q7 I fl fly5.1 (up4.trans up5) e5
 refine wpAny_handleBy_cons (codeAny_handlers_test (nJ (I5.suite a) hg hm ?_ hd)) (by intro z; cases z)
 refine aF3 I5.kIn e5 c5 ct.c1 ct.c2 ct.c3 sub ?_
 show codeAny (model X.prog X.w) (X.A.mark (some (.ref a))) (.handlers (.ref a) [.ExceptHandler none (some n) (b₀ :: suite) hpos] X.env) _ _
 refine codeAny_handlers_suite_as (lands_againW fly5 fun h6 fly6 up6=>?_)
 obtain ⟨o6,v6,e6,c6,_⟩:=fly6.first
 have I6:=Q7 I fl fly6.1 ((up4.trans up5).trans up6) e6
 refine tP I6 hN hi (.inl hl) (v:=.ref a) rfl (fun s7 I7=>?_) (.inr hl)
 refine bo4 (hs pins s7 _ _ (wP D i) (I7.suite a) (q o6 c6)) (fun f s8 h8=>?_) fun _ _ z=>z.elim
 show wpAny (model X.prog X.w) X.A (do bindName X.env n .none; unbindBehindTheSuite X.env n hpos) (fun _ s9=>SP X pins D f s9) X.xe s8
 cases f with
 | next=>obtain ⟨σ',H',J,q⟩:=h8; exact sB (J.unsuite I.ok) hN hi hl fun s9 J9=>⟨_,_,J9,q⟩
 | brk=>obtain ⟨σ',H',J,q⟩:=h8; exact sB (J.unsuite I.ok) hN hi hl fun s9 J9=>⟨_,_,J9,q⟩
 | cont=>obtain ⟨σ',H',J,q⟩:=h8; exact sB (J.unsuite I.ok) hN hi hl fun s9 J9=>⟨_,_,J9,q⟩
 | ret u=>obtain ⟨v,σ',H',J,r,q⟩:=h8; exact sB (J.unsuite I.ok) hN hi hl fun s9 J9=>⟨v,_,_,J9,r,q⟩
end
abbrev TB:=c9->XK->St->Hp->Prop
def XB (X:Cx) (pins:List (Addr × Obj)) (σ:St) (Ex:XK):Value->Shared->Prop:=fun e s'=>∃ H1 s1,a7 X pins σ H1 s1/\dS X.prog X.w X.stack H1 s1 Ex e s'
def PB (X:Cx) (sts:List Stmt) (t:TB):Prop:=
 ∀ (pins:List (Addr × Obj)) (s:Shared) (σ:St) (H:Hp) (D:c9) (Ex:XK),a7 X pins σ H s->t D Ex σ H->wpAny (model X.prog X.w) X.A (execs sts X.env) (SP X pins D) (XB X pins σ Ex) s
def aF5 (sp:Sp) (t:TA):TB:=fun D Ex σ H=>t σ H fun vs H1=>sp vs H1 (fun _ H2=>D.nx σ H2) Ex
def aF6 (c:TT) (t u:TB):TB:=fun D Ex σ H=>c σ H fun b H1=>if b=true then t D Ex σ H1 else u D Ex σ H1
section
variable {X : Cx} {k : Nat} {f Ch : Addr} {fd : FuncData} {ps : List Str} {sp : Sp} {x n : Str} {p cp pos np hpos : Pos} {e c : Expr} {es : List Expr} {t : TA} {tb ub : TB} {tc : TT} {sa sb body : List Stmt} {i : Nat} {b₀ : Stmt} {suite : List Stmt} {ts : TS}
theorem aF7 (F:cT X.prog X.w X.K X.mg X.base (dS X.prog X.w) k f fd ps sp) (hr:bS k X.A) (hg:Gl X x) (hm:X.mg x=some (.ref f)) (hk:PySem.W.keepIn X.K (.ref f)=true) (hb:gQ X.K fd ps []) (ha:∀ E,PA (X.wish E) (e :: es) t)
  (hdb:(x == ("__debug__" : Str))=false:=by decide) (he:starEach (e :: es) X.env=(false,eval e X.env) :: starEach es X.env:=by rfl) (hpl:(backTo cp (starEach es X.env)).any (·.1)=false:=by rfl) (hsw:swapsWith (.Call (.Name x p) (e :: es) [] cp) none pos.line X.env=pure false:=by rfl) :
  PB X [.Expr (.Call (.Name x p) (e :: es) [] cp) pos] (aF5 sp t):=by
 intro pins s σ H D Ex I h
 refine wpAny_execs_cons (wpAny_Expr_any ?_ I.quiet hsw)
 refine wpAny_Call_Name_kw (nJ I hg hm ?_ hdb)
 refine PySem.W.callWith_K (h₀:=X.base) I.ok.mod.kin hk (aJ (ha (XB X pins σ Ex) cp pins s σ H _ (I.wish _) h) fun us s1 h1=>⟨?_,?_⟩) he hpl
 ·obtain ⟨_,_,I1,_⟩:=h1
  exact I1.kIn
 ·obtain ⟨vs,H1,I1,r,q⟩:=h1
  have I1:=I1.unwish
  have hl:us.length=ps.length:=by rw [<- r.length]; exact F.len _ _ _ _ q
  have bd:=hb s1 us I1.kIn (by rw [bi9]; exact hl)
  rw [bi9] at bd
  refine wpAny_call (codeAny_mono (F.run X.A X.stack s1 H1 ⟨us,[]⟩ us vs _ Ex hr I1.env0 bd r q) fun rs s' hq=>?_)
  cases rs with
  | error ev=>exact⟨H1,s1,I1,hq⟩
  | ok fl=>
   cases fl with
   | ret u=>
    obtain ⟨v,H2,I2,_,q2⟩:=I1.after hq
    exact bv0 ⟨σ,H2,I2,q2⟩
   | next=>exact False.elim hq
   | brk=>exact False.elim hq
   | cont=>exact False.elim hq
theorem aF8 (hc:∀ E,PT (X.wish E) c tc) (ha:PB X sa tb) (hb:PB X sb ub):PB X [.If c sa sb pos] (aF6 tc tb ub):=by
 intro pins s σ H D Ex I h
 refine wpAny_execs_cons (wpAny_If (aJ (hc (XB X pins σ Ex) pins s σ H _ (I.wish _) h) fun d s1 h1=>?_))
 obtain ⟨H1,I1,q1⟩:=h1
 have I1:=I1.unwish
 have fin:∀ (fl:Flow) (s2:Shared),SP X pins D fl s2->(match fl with | .next=>wpAny (model X.prog X.w) X.A (execs [] X.env) (SP X pins D) (XB X pins σ Ex) s2 | fl=>SP X pins D fl s2):=fun fl s2 q=>by
  cases fl with
  | next=>exact bv0 q
  | _=>exact q
 cases d with
 | true=>exact aJ (ha pins s1 σ H1 D Ex I1 q1) fin
 | false=>exact aJ (hb pins s1 σ H1 D Ex I1 q1) fin
def Q8 (K:PySem.W.Frag) (Ch:Addr) (i:Nat) (tb:TB) (ts:TS):TS:=fun D σ H=>
 tb D (fun c _ H'=>∀ (a C:Addr) (oe:Obj),c = .ref C->H' a=none->oe.cls = .ref C->PySem.W.subIn K (.ref C) (.ref Ch)=some true/\ts (wP D i) (σ.set i (some (.ref a))) (upd H' a (.frz oe (.own a)))) σ H
theorem aF9 (hstk:X.stack=X.env :: X.outer/\X.env.frame=some X.env.locals) (hb:PB X body tb) (hg:Gl X x) (hm:X.mg x=some (.ref Ch)) (ct:wQ X.K Ch) (hN:X.N.Nodup) (hi:X.N[i]? = some n) (hl:X.env.scope.names.lookup n=some .local) (hs:∀ a,cU (X.suite a) (b₀ :: suite) ts)
  (hd:(x == ("__debug__" : Str))=false:=by decide):PS X (.Try body [.ExceptHandler (some (.Name x np)) (some n) (b₀ :: suite) hpos] [] [] pos) (Q8 X.K Ch i tb ts):=by
 intro pins s σ H D I h
 refine wpAny_Try_except (bo4 (hb pins s σ H D _ I h) (fun fl s1 q=>?_) (fun ev s1 q=>?_))
 ·cases fl with
  | next=>exact bv0 q
  | _=>exact q
 ·obtain ⟨H1,s2,I1,H',B,a,C,e1,fl,q⟩:=q
  subst e1
  obtain ⟨a0,fly⟩:=fl.fly
  obtain ⟨o5,_,_,c5,_⟩:=fly.first
  exact aF4 I1 fl hstk hg hm ct (q a C o5 rfl fl.fresh c5).1 hN hi hl (hs a) (fun oe hc=>(q a C oe rfl fl.fresh hc).2) hd
end
end L2
namespace L2
open PySem PySem.Spec PyProof.Rows PySem.Calls Builtin Builtin.ObjectAttr Builtin.Getset_descriptor
structure iG (K:PySem.W.Frag) (D:Addr):Prop where
 cls:(PySem.W.clsIn K D).isSome=true
 ga:PySem.W.findIn K (.ref D) "__getattribute__" = some (some (.builtin "BaseException.__getattribute__"))
 gt:PySem.W.findIn K (.ref D) "__getattr__" = some none
 fc:PySem.W.findIn K (.ref D) "__class__" = some (some (.builtin "object.__class__"))
 fg:PySem.W.specialIn K (.builtin "object.__class__") "__get__" = some (some (.builtin "getset_descriptor.__get__"))
 ft:PySem.W.takesIn K (.builtin "object.__class__")=some true
 ob:PySem.W.mroIn K D (.type "object")=some true
 be:PySem.W.mroIn K D (.type "BaseException")=some true
def jW (h:Heap) (x D:Addr):Prop:=∃ ox:Obj,h.get? x=some ox/\ox.cls = .ref D
theorem jW.type {h:Heap}{x D:Addr}{M:Model} (I:jW h x D):PySem.W.Looks M h (typeOf (.ref x)) (.ref D):=by
 obtain ⟨ox,e,c⟩:=I
 exact c ▸ (PySem.W.Looks.ld e).andThen .now
section
variable {prog : Program} {w : World} {A : Around} {E : Value → Shared → Prop} {K : PySem.W.Frag} {x D : Addr} {h : Heap} {g : Array GenState} {d : Drawn} {t : Nat} {os : OsState}
theorem aG0 {M:Model} (F:iG K D) (k:K.In h):PySem.W.Looks M h (find (.ref x) (.ref D) "__class__") (.bind (.builtin "getset_descriptor.__get__") (.builtin "object.__class__")):=by
 have L1:=PySem.W.looks_findIn (M:=M) k F.fc
 have L2:=PySem.W.looks_specialIn (M:=M) k F.fg
 have L3:=PySem.W.looks_takesIn (M:=M) k F.ft
 unfold find
 refine L1.andThen (PySem.W.Looks.andThen (a:=some (Value.builtin "getset_descriptor.__get__")) L2 ?_)
 refine PySem.W.Looks.andThen (a:=some (Value.builtin "getset_descriptor.__get__",Value.builtin "object.__class__")) ?_ (PySem.W.Looks.tag .now)
 unfold dataDescriptor?
 exact L3.andThen .now
theorem aG1 {tp:Value}{R:Result->Shared->Prop} (F:iG K D) (k:K.In h) (I:jW h x D) (hq:R (.ok (.ret (.ref D))) ⟨h,g,d,t,os⟩):codeAny (model prog w) A (.call (.builtin "getset_descriptor.__get__") ⟨[.builtin "object.__class__",.ref x,tp],[]⟩) R ⟨h,g,d,t,os⟩:=by
 have L0:=I.type (M:=model prog w)
 have L1:=PySem.W.looks_mroIn (M:=model prog w) k F.ob
 refine codeAny_call_builtin PySem.W.KF.slot_gs.plain PySem.W.KF.entry_gs (PySem.W.KF.slot_gs.check _ _ _ _ _ _ _ _ PySem.W.KF.type_class (PySem.W.KF.args_gs _ _ _) ?_)
 unfold Builtin.«getset_descriptor.__get__» descrGet; rw [PySem.W.dga_obj]
 refine bf5 (bf8 ?_); unfold descrGetter descrCheckInstance descrNameAndClass isInstance
 simp only [PySem.W.KF.owner_class]
 repeat lk
 refine⟨Code.quiet_builtin _ (by decide +kernel),br5 PySem.W.KF.entry_class ?_⟩; unfold Builtin.«object.__class__» shownTypeOf
 repeat lk
 exact hq
theorem aG2 {M:Model}{nameV:Value}{Q:Unit->Shared->Prop} (F:iG K D) (k:K.In h) (I:jW h x D) (hq:Q () ⟨h,g,d,t,os⟩):wpAny M A (checkBuiltinCall "BaseException.__getattribute__" ⟨[.ref x,nameV],[]⟩) Q E ⟨h,g,d,t,os⟩:=by
 have kd:builtinKind "BaseException.__getattribute__" = some .slot:=by decide +kernel
 have sp:splitId "BaseException.__getattribute__" = some ("BaseException","__getattribute__"):=by decide +kernel
 have L:PySem.W.Looks M h (isInstance (.ref x) (.type "BaseException")) true:=(I.type (M:=M)).andThen (PySem.W.looks_mroIn k F.be)
 have ha:=PySem.F.args_bexc_ga (.ref x) nameV
 simp only [checkBuiltinCall,kd,sp]
 refine bf5 (L.at ?_)
 repeat (any_goals (first | assumption | wp_step))
theorem aG3 {tk:Tok}{Q:Fin->Shared->Prop} (F:iG K D) (k:K.In h) (I:jW h x D) (hq:Q (.done (.ret (.ref D))) ⟨h,g,d,t,os⟩):wpAny (model prog w) A (Builtin.«object.__getattribute__» ⟨[.ref x,.str "__class__" tk],[]⟩) Q E ⟨h,g,d,t,os⟩:=by
 have L0:=I.type (M:=model prog w)
 have L1:=aG0 (M:=model prog w) F k (x:=x)
 refine bf5 (bf8 (bf5 (bf8 (bf5 (L0.at (bf5 (L1.at ?_)))))))
 show wpAny _ _ (holding [_] (call _ _) >>= ret) _ _ _
 exact bf5 (bl6 (wpAny_call (aG1 F k I (bf8 hq))))
theorem aG4 {tk:Tok}{R:Result->Shared->Prop} (F:iG K D) (k:K.In h) (I:jW h x D) (hq:R (.ok (.ret (.ref D))) ⟨h,g,d,t,os⟩):codeAny (model prog w) A (.call (.builtin "BaseException.__getattribute__") ⟨[.ref x,.str "__class__" tk],[]⟩) R ⟨h,g,d,t,os⟩:=
 codeAny_call_builtin PySem.F.excAttr_ValueError.ga.plain PySem.F.entry_bexc_ga (aG2 F k I (aG3 F k I hq))
theorem aG5 {Q:Option Value->Shared->Prop} (F:iG K D) (k:K.In h) (I:jW h x D) (hq:Q (some (.ref D)) ⟨h,g,d,t+1,os⟩):wpAny (model prog w) A (getAttr? (.ref x) "__class__") Q E ⟨h,g,d,t,os⟩:=by
 have L0:=I.type (M:=model prog w)
 have L1:=PySem.W.looks_findIn (M:=model prog w) k F.ga
 have L2:=PySem.W.looks_findIn (M:=model prog w) k F.gt
 have f3:=PySem.F.excAttr_ValueError.ga.bind (.ref x)
 unfold getAttr? getAttrBy? getAttrBy
 refine bf5 (wpAny_mkText (bf5 (br0 (bl6 (bf5 (L0.at (bf5 (L1.at ?_))))))))
 have nx:(onTheHeap (Value.ref D) && Value.builtin "BaseException.__getattribute__" == Value.builtin "object.__getattribute__")=false:=by
  rw [show (Value.builtin "BaseException.__getattribute__" == Value.builtin "object.__getattribute__")=false by decide +kernel,bu5]
 dsimp only
 rw [if_neg (by rw [nx]; decide)]
 unfold getAttrByItsOwn hookBefore
 repeat (any_goals (first | assumption | (with_reducible refine L2.at ?_) | wp_step))
 exact aG4 F k I (PySem.W.handed_on rfl (bf8 hq))
end
theorem aG6 {K:PySem.W.Frag}{x D:Addr} (F:iG K D):PySem.W.KitX K (.ref x) (.ref D) (fun h=>jW h x D) where
 ty:=fun _ _ _ I=>I.type
 it:=fun M h k _=>by
  have z:=F.cls
  unfold PySem.W.clsIn at z
  split at z
  ·rename_i c' d' cd' sl' ho
   intro A' Q' E' s' kk q
   unfold isType loadHead
   exact bf5 (wpAny_loadPart (kk _ _ (k _ _ ho)) (bf8 q))
  ·cases z
 ne:=fun h tp dd its n sl k htp=>by
  have z:=F.cls
  refine Bool.eq_false_iff.mpr fun q=>?_
  obtain rfl:D=tp:=Value.ref.inj (beq_iff_eq.mp q)
  unfold PySem.W.clsIn at z
  split at z
  ·rename_i ho
   have y:=(k _ _ ho).symm.trans htp
   cases y
  ·cases z
 ca:=fun {_ _ _ _ _ s} k I q=>by
  obtain ⟨h,g,d,t,os⟩:=s
  exact aG5 F k I q
end L2
namespace L2
open PySem PySem.Spec PyProof.Rows
section
variable {X : Cx} {pins : List (Addr × Obj)} {σ : St} {H H' : Hp} {s : Shared} {a : Addr}
theorem a7.reH (I:a7 X pins σ H s) (d:∀ b,b ≠ a->H' b=H b) (ha:∃ x,H a=some x) (tup:∀ xs,H a ≠ some (.tup xs)) (frz:∀ o v,X.H₀ a ≠ some (.frz o v)) (tbl:∀ ps,H a ≠ some (.tbl ps)) (hok:bN X.prog X.w H' s.heap):a7 X pins σ H' s:=by
 have none:∀ b,H b=none->H' b=none:=fun b e=>by
  rw [d b fun z=>?_]; exact e
  obtain ⟨x,hx⟩:=ha
  rw [z,hx] at e; cases e
 refine⟨I.ok,I.os,I.bare,⟨I.base.keep,I.base.slot,fun b o e n hx=>none b (I.base.free b o e n hx),I.base.there,fun b xs q=>?_,fun b o u q=>?_,fun b ps q=>?_⟩,I.loc,I.cell,none _ I.free,fun x c e=>none c (I.freeC x c e),fun p hp=>?_,hok,I.len⟩
 ·have e:=I.base.tups b xs q
  rw [d b fun z=>tup xs (by rw [<- z]; exact e)]; exact e
 ·rw [d b fun z=>frz o u (by rw [<- z]; exact q)]; exact I.base.frzs b o u q
 ·obtain ⟨more,e⟩:=I.base.tbls b ps q
  exact⟨more,by rw [d b fun z=>tbl _ (by rw [<- z]; exact e)]; exact e⟩
 ·obtain ⟨e,n,r⟩:=I.pin p hp
  exact⟨e,none _ n,r⟩
theorem a7.froze {o:Obj}{kvs:List (List aA × V)} (I:a7 X pins σ H s) (h:H a=some (.dT kvs)) (e:s.heap.get? a=some o):a7 X pins σ (upd H a (.frz o (.dT kvs))) s:=by
 have own:∀ {c:Addr}{y:Addr},H c=some (.own y)->c ≠ a:=fun {c y} q z=>by rw [z,h] at q; cases q
 have tp:∀ {c:Addr}{xs:List V},H c=some (.tup xs)->c ≠ a:=fun {c xs} q z=>by rw [z,h] at q; cases q
 refine I.reH (a:=a) (fun b n=>aH n) ⟨_,h⟩ (fun xs q=>by rw [h] at q; cases q) (fun o' v q=>by have:=I.base.frzs a o' v q; rw [h] at this; cases this) (fun ps q=>by rw [h] at q; cases q) fun b u q=>?_
 by_cases hb:b=a
 ·subst hb
  rw [b8] at q; cases q
  exact⟨e,(I.hok b _ h).stay (fun _ _ _ q=>q) (fun c q=>by rw [aH (own q)]; exact q) fun c xs q=>by rw [aH (tp q)]; exact q⟩
 ·rw [aH hb] at q
  exact (I.hok b u q).stay (fun _ _ _ q=>q) (fun c q=>by rw [aH (own q)]; exact q) fun c xs q=>by rw [aH (tp q)]; exact q
theorem a7.thaw {o:Obj}{u:HO} (I:a7 X pins σ H s) (h:H a=some (.frz o u)) (n:∀ o v,X.H₀ a ≠ some (.frz o v)):a7 X pins σ (upd H a u) s:=by
 have own:∀ {c:Addr}{y:Addr},H c=some (.own y)->c ≠ a:=fun {c y} q z=>by rw [z,h] at q; cases q
 have tp:∀ {c:Addr}{xs:List V},H c=some (.tup xs)->c ≠ a:=fun {c xs} q z=>by rw [z,h] at q; cases q
 refine I.reH (a:=a) (fun b n=>aH n) ⟨_,h⟩ (fun xs q=>by rw [h] at q; cases q) n (fun ps q=>by rw [h] at q; cases q) fun b v q=>?_
 by_cases hb:b=a
 ·subst hb
  rw [b8] at q; cases q
  exact bH.stay (I.hok b _ h).2 (fun _ _ _ q=>q) (fun c q=>by rw [aH (own q)]; exact q) fun c xs q=>by rw [aH (tp q)]; exact q
 ·rw [aH hb] at q
  exact (I.hok b v q).stay (fun _ _ _ q=>q) (fun c q=>by rw [aH (own q)]; exact q) fun c xs q=>by rw [aH (tp q)]; exact q
end
def Q9 (a:Addr) (o:Obj) (ys:List V):It:=
 ⟨fun i H=>(∃ u,H a=some (.frz o u))/\i < ys.length,fun i H v H'=>H'=H/\ys[i]? = some v,fun i H=>(∃ u,H a=some (.frz o u))/\i=ys.length⟩
theorem aG7 {P:Program}{w:World}{K:PySem.W.Frag}{tg:Expr}{o:Obj}{es:Array DictEntry}{ep:Nat}{ys:List V} (a it:Addr) (od:o.ExactDict/\o.data = .dict es ep) (vl:aI ys (es.toList.map (·.key))) :
  gO P w K tg (Q9 a o ys) [it] it (fun i h=>h.IsKeyIter it a i es.size ep):=by
 have hs:es.size=ys.length:=by
  have:=vl.length
  rw [bg5,bi3] at this
  exact this.symm
 refine⟨by simp,fun i h st b hb=>?_,fun i h h' st k=>st.at fun o e=>k it (by simp) o e,?_,?_,fun _ _ _ _ _ st q=>wpAny_pyIter_keyiter st q⟩
 ·obtain rfl:b=it:=by simpa using hb
  obtain ⟨o,e,c,d⟩:=st
  exact⟨o,e,fun v z=>by rw [d] at z; cases z⟩
 ·intro X hP hw hK hc i pins s σ H E I hf st hg
  subst hP hw hK
  obtain ⟨⟨u,hu⟩,hi⟩:=hg
  obtain ⟨f0,f1,f2,f3,f4,f5⟩:=hf it (by simp)
  refine Raw.turn (I.ok.hd hc) st ⟨o,(I.hok a _ hu).1,od.1,od.2⟩ (fun lt h' again sb=>?_) (fun ge=>absurd ge (by omega))
  have I1:a7 X pins σ H { s with heap:=h' }:=I.turned (t':=s.toks) (fun b o hb e=>(sb.2 b hb).trans e) f0 f1 f3 f4 f5
  have hv:=bf9 hi
  obtain ⟨key,hk,rv⟩:=vl.get hv
  obtain rfl:key=es[i].key:=by
   rw [bh1] at hk
   simp [lt] at hk
   exact hk.symm
  obtain ⟨o',e,c,d⟩:=id again
  exact⟨es[i].key,rfl,pI (s:={ s with heap:=h' }) e c d (by decide) ⟨_,H,I1,rv,⟨rfl,hv⟩,again,fun b hb=>(hf b hb).1⟩⟩
 ·intro X hP hw hK hc i pins s σ H E I hf st hg
  subst hP hw hK
  obtain ⟨⟨u,hu⟩,hi⟩:=hg
  obtain ⟨f0,f1,f2,f3,f4,f5⟩:=hf it (by simp)
  exact Raw.turn (I.ok.hd hc) st ⟨o,(I.hok a _ hu).1,od.1,od.2⟩ (fun lt=>absurd lt (by omega)) fun _ h' eb=>⟨rfl,I.turned (t':=s.toks) (fun b o hb e=>eb b o hb e) f0 f1 f3 f4 f5⟩
section
variable {X : Cx} {tg l : Expr} {tl : TE}
def R3 (tl:TE):TI:=fun σ H R=>tl σ H fun x H1=>∃ a kvs,x = .ref a/\H1 a=some (.dT kvs)/\∀ o ys,Paired (o4 H1) ys (kvs.map (·.1))->R (Q9 a o ys) (upd H1 a (.frz o (.dT kvs)))
theorem aG8 (hl:PE X l tl):PI X tg l (R3 tl):=by
 intro pins s σ H R I h
 refine aJ (hl pins s σ H _ I h) fun v s1 h1=>?_
 obtain ⟨x,H1,I1,r1,a,kvs,e,ha,q⟩:=h1
 subst e
 cases r1
 obtain ⟨es,ep,ys,⟨o,e1,e2,e3⟩,far,pk,vl,z⟩:=E4 I1 ha
 refine Raw.made far ⟨o,e1,e2,e3⟩ ?_
 have hf:H1 s1.heap.objs.size=none:=I1.hok.fresh (bg1 _)
 refine⟨s1.heap.objs.size,[s1.heap.objs.size],_,_,upd H1 a (.frz o (.dT kvs)),rfl,(I1.froze ha e1).kept (t':=s1.toks) fun b o e=>bf7 _ e,aG7 a _ ⟨e2,e3⟩ vl,⟨_,bg6 _ rfl,rfl,rfl⟩,fun b hb=>?_,q o ys pk⟩
 obtain rfl:b=s1.heap.objs.size:=by simpa using hb
 exact I1.fpOk (bg1 _) (by rw [aH (fun z=>by rw [z,ha] at hf; cases hf)]; exact hf)
def R4 (X:Cx) (t:TE):TE:=fun σ H Q=>t σ H fun v H'=>∃ a o u,H' a=some (.frz o u)/\(∀ o' v',X.H₀ a ≠ some (.frz o' v'))/\Q v (upd H' a u)
theorem aG9 {e:Expr}{t:TE} (h:PE X e t):PE X e (R4 X t):=by
 intro pins s σ H Q I hq
 refine aJ (h pins s σ H _ I hq) fun v s1 h1=>?_
 obtain ⟨x,H1,I1,r1,a,o,u,e,n,q⟩:=h1
 exact⟨x,_,I1.thaw e n,r1,q⟩
end
end L2
namespace Raw
open PySem PySem.W PySem.Calls PyProof.Rows
theorem kW {α β:Type} (f:α->β):∀ (j:Nat) (l:List α),(l.eraseIdx j).map f=(l.map f).eraseIdx j
 | _,[]=>rfl
 | 0,_ :: _=>rfl
 | j+1,x :: r=>by
  show f x :: (r.eraseIdx j).map f=f x :: (r.map f).eraseIdx j
  rw [kW f j r]
section
variable {prog : Program} {w : World} {K : Type} [DecidableEq K] {knd : HeapKind prog w K} {A : Around} {E : Value → Shared → Prop} {s : Shared} {d a : Addr} {k : K} {xs : List (K × Addr × Value)}
def R5 (knd:HeapKind prog w K) (h:Heap) (d:Addr) (xs:List (K × Addr × Value)) (j:Nat):Prop:=∃ o es ep,h.get? d=some o/\o.ExactDict/\o.data = .dict es ep/\es.toList=(xs.eraseIdx j).map (entryOfKey knd)
theorem aH0 {Q:Option DictEntry->Shared->Prop} (hu:knd.room A) (hkey:knd.is s.heap k a) (hm:s.heap.DictOfH knd d xs) (hz:xs.length<=sizeLine) (is:∃ (j:Nat) (p:Addr × Value),xs[j]? = some (k,p))
  (q:∀ (j:Nat) (p:Addr × Value) h',xs[j]? = some (k,p)->R5 knd h' d xs j->Heap.SameBut d s.heap h'->Q (some (entryOfKey knd (k,p))) { s with heap:=h',toks:=s.toks+knd.draws k }):wpAny (model prog w) A (Builtin.Dict.takeOut d (.ref a)) Q E s:=by
 obtain ⟨o,es,ep,e1,e2,e3,e4,e5,e6⟩:=hm
 obtain ⟨j0,p0,h0⟩:=is
 unfold Builtin.Dict.takeOut
 try with_reducible refine bl6 ?_
 apply bf5
 apply knd.pyHash hu hkey
 apply bf5
 refine wpAny_dictFind_heap (s:={ s with toks:=s.toks+knd.draws k }) hu hkey e1 e3 e4 e5 e6 (fun no=>absurd h0 (no j0 p0)) fun j p hj=>?_
 apply bf5
 apply wpAny_dictEntries (s:={ s with toks:=s.toks+knd.draws k }) e1 e3
 rw [entry_at e4 j,hj]
 have sz:=size_of_entries e4
 apply bf5
 refine wpAny_updateDictKeys (hz:=by omega) (s:={ s with toks:=s.toks+knd.draws k }) e1 e3 (bf8 (q j p _ hj ⟨_,_,ep+1,bl8 _ e1 (Obj.isFreed_of_dict (Obj.data_mapDictKeys e3 _)),e2.mapDictKeys _,Obj.data_mapDictKeys e3 _,?_⟩ (bl1 ..)))
 rw [kW,<- e4]
 obtain ⟨l⟩:=es
 simp
end
section
variable {prog : Program} {w : World} {K : Type} [DecidableEq K] (knd : HeapKind prog w K) (d a : Addr)
theorem aH1:MeetsIn prog w (Builtin.«dict.pop» ⟨[.ref d,.ref a],[]⟩) (fun A R s=>knd.room A.in1/\∃ k xs,knd.is s.heap k a/\s.heap.DictOfH knd d xs/\xs.length<=sizeLine/\(∃ (j:Nat) (p:Addr × Value),xs[j]? = some (k,p))/\
  ∀ (j:Nat) (p:Addr × Value) h',xs[j]? = some (k,p)->R5 knd h' d xs j->Heap.SameBut d s.heap h'->R (.ok (.ret p.2)) { s with heap:=h',toks:=s.toks+knd.draws k }):=
 .of_wp fun A R s h=>by
  obtain ⟨hu,k,xs,hk,hm,hz,is,q⟩:=h
  obtain ⟨o,es,ep,e1,e2,e3,e4,e5,e6⟩:=id hm
  have ne:es.isEmpty=false:=by
   obtain ⟨j,p,hj⟩:=is
   have sz:=size_of_entries e4
   have:=(bh4.mp hj).1
   rw [Array.isEmpty_eq_false_iff,ne_eq,<- Array.size_eq_zero_iff]
   omega
  unfold Builtin.«dict.pop»
  apply bf5
  unfold Builtin.Dict.keyAndDefault
  apply bf5
  apply wpAny_notOrdered_dict hm.typeIs
  change wpAny _ _ (pure (d,Value.ref a,none)) _ _ s
  apply bf8
  have kp:(keyPart (Value.ref a)).isSome=false:=rfl
  simp only [kp,bi0,bm6]
  refine bf5 (wpAny_dictEntries e1 e3 (bf5 (bf8 ?_)))
  simp only [ne,bi0,bm6]
  apply bf5
  refine aH0 hu hk hm hz is fun j p h' hj c sb=>?_
  simp only [Option.isNone_some,bi0,bm6]
  exact bf5 (wpAny_letGo (bf8 ⟨p.2,rfl,q j p h' hj c sb⟩))
end
end Raw
namespace L2
open PySem PySem.Spec PyProof.Rows
theorem Paired.erase {α β:Type}{F:α->β->Prop}:∀ (j:Nat) {l:List α}{m:List β},Paired F l m->Paired F (l.eraseIdx j) (m.eraseIdx j)
 | _,_,_,.nil=>.nil
 | 0,_,_,.cons _ t=>t
 | j+1,_,_,.cons r t=>.cons r (Paired.erase j t)
theorem R6 {α β:Type}{F:α->β->Prop}:∀ {l:List α}{m:List β}{i:Nat}{y:β},Paired F l m->m[i]? = some y->∃ x,l[i]? = some x/\F x y
 | _,_,_,_,.nil,e=>by simp at e
 | _,_,0,_,.cons r _,e=>by simp at e; subst e; exact⟨_,rfl,r⟩
 | _,_,i+1,y,.cons _ t,e=>by
  rw [bj8] at e
  obtain ⟨x,h1,h2⟩:=R6 t e
  exact⟨x,by rw [bj8]; exact h1,h2⟩
theorem R7 {α β:Type}{F:α->β->Prop}:∀ {l:List α}{m:List β}{i:Nat}{x:α},Paired F l m->l[i]? = some x->∃ y,m[i]? = some y/\F x y
 | _,_,_,_,.nil,e=>by simp at e
 | _,_,0,_,.cons r _,e=>by simp at e; subst e; exact⟨_,rfl,r⟩
 | _,_,i+1,x,.cons _ t,e=>by
  rw [bj8] at e
  obtain ⟨y,h1,h2⟩:=R7 t e
  exact⟨y,by rw [bj8]; exact h1,h2⟩
section
variable {X : Cx} {pins : List (Addr × Obj)} {σ : St} {H : Hp} {s : Shared} {a b : Addr} {kvs : List (List aA × V)} {k : List aA} {A : Around} {E : Value → Shared → Prop}
theorem aH2 {Q:Value->Shared->Prop} (hu:A.units+1 < cLine) (I:a7 X pins σ H s) (e:H a=some (.dT kvs)) (eb:H b=some (.tup (k.map kV))) (is:∃ j:Nat,(kvs.map (·.1))[j]? = some k)
  (h:∀ (j:Nat) v w' s',(kvs.map (·.1))[j]? = some k->a7 X pins σ (upd H a (.dT (kvs.eraseIdx j))) s'->aU v w'->Q w' s'):wpAny (model X.prog X.w) A (call (.builtin "dict.pop") [.ref a,.ref b]) Q E s:=by
 obtain ⟨z,hd,xs,rel,dd⟩:=B1 I.hok e
 have hz:xs.length<=sizeLine:=by rw [<- Paired.length rel]; exact z
 refine call_meetsIn PySem.F.slot_dict_pop dd.typeIs PySem.F.entry_dict_pop (PySem.F.args_dict_pop_2 _ _) (Raw.aH1 (tupleKind (e9 X.prog X.w)) a b) ⟨tupleKind_room_in1 hu,k,xs,nZ I.hok eb,dd,hz,?_,fun j p h' hj c sb=>?_⟩
 ·obtain ⟨j,hj⟩:=is
  rw [bh1] at hj
  cases ej:kvs[j]? with
  | none=>rw [ej] at hj; cases hj
  | some kv=>
   rw [ej] at hj
   cases hj
   obtain ⟨y,hy,r⟩:=R7 rel ej
   exact⟨j,y.2,by rw [hy]; exact congrArg some (Prod.ext r.1.symm rfl)⟩
 ·obtain ⟨kv,hkv,r⟩:=R6 rel hj
  obtain ⟨o,es,ep,h1,h2,h3,h4⟩:=c
  have nd:((xs.eraseIdx j).map (·.1)).Nodup:=by
   obtain ⟨_,_,_,_,_,_,_,_,nd⟩:=dd
   exact nd.sublist ((List.eraseIdx_sublist xs j).map _)
  refine h j kv.2 p.2 _ (by rw [bh1,hkv]; exact congrArg some r.1) ?_ r.2.2
  refine pU I (by rw [e]; exact bv8) sb ⟨o,h1⟩ ⟨bk0 (List.length_eraseIdx_le kvs j) z,hd,_,KT.keeps (Paired.erase j rel) fun c ys ec=>?_,o,es,ep,h1,h2,h3,h4,nd⟩
  rw [aH (y8 ec e (fun z=>nomatch z))]
  exact ec
end
section
variable {X : Cx} {o e : Expr} {apos cpos : Pos} {td ty : TE}
def R8 (td ty:TE):TE:=fun σ H Q=>td σ H fun x H1=>∃ a,x = .ref a/\uP H1 a/\ty σ H1 fun y H2=>∃ kvs k b,H2 a=some (.dT kvs)/\y = .ref b/\H2 b=some (.tup (k.map kV))/\(∃ j:Nat,(kvs.map (·.1))[j]? = some k)/\∀ (j:Nat) v,(kvs.map (·.1))[j]? = some k->Q v (upd H2 a (.dT (kvs.eraseIdx j)))
theorem aH3 (hu:X.A.units+1 < cLine) (ho:PE X o td) (he:PE X e ty) (m:M1 X o "pop" apos e cpos):PE X (.Call (.Attribute o "pop" apos) [e] [] cpos) (R8 td ty):=by
 intro pins s σ H Q I h
 refine wpAny_Call_method m.base m.few m.line PySem.F.plainAttrs_dict PySem.F.slot_dict_pop PySem.F.type_dict_pop (aJ (ho pins s σ H _ I h) fun u s1 h1=>?_)
 obtain ⟨x,H1,I1,rx,a,ex,d,q1⟩:=h1
 subst ex
 obtain rfl:u=Value.ref a:=rx
 obtain ⟨t1,t2,_⟩:=C0 I1 d
 refine⟨t1,t2,?_⟩
 rw [m.trees]
 refine Calls.callWith_builtin rfl (Calls.evalArgs_plain (Calls.spliced_cons (aJ (he pins s1 σ H1 _ I1 q1) fun iv s2 h2=>Calls.spliced_nil ?_)))
 obtain ⟨y,H2,I2,ry,kvs,k,b,ea,ey,eb,is,q2⟩:=h2
 subst ey
 obtain rfl:iv=Value.ref b:=ry
 exact aH2 hu I2 ea eb is fun j v w' s3 hj I3 rw'=>⟨v,_,I3,rw',q2 j v hj⟩
end
end L2
namespace Raw
open PySem PySem.W PySem.Calls PyProof.Rows
theorem aH4:isSubtype (.type "tuple") (.type "set")=pure false:=by rw [isSubtype_type]; kernel_rfl
theorem aH5:isSubtype (.type "tuple") (.type "frozenset")=pure false:=by rw [isSubtype_type]; kernel_rfl
section
variable {prog : Program} {w : World} {A : Around} {E : Value → Shared → Prop} {s : Shared} {l : Addr} {items : Array Value} {ns : List Int}
abbrev gZ (led:Bool):Obj:={ cls:=.type "set",dict:=none,data:=.set #[] 0 (.fresh 0 0 led) }
end
end Raw
namespace L2
open PySem PySem.Spec PyProof.Rows
section
variable {X : Cx}
def R9:V->List V->Hp->VK->Prop:=fun x vs H Q=>∃ l xs y,∃ k:Nat,x = .ref l/\vs = [.int k,y]/\H l=some (.lst xs)/\k<=xs.length/\xs.length < sizeLine/\Q .non (upd H l (.lst (xs.take k ++ y :: xs.drop k)))
theorem aH6:pQ X "list.insert" R9:=by
 intro pins s σ H x vs v us Q I rx rv h
 obtain ⟨l,xs,y,k,rfl,rfl,hH,hk,hz,q⟩:=h
 obtain ⟨u1,u2,rfl,⟨t,rfl⟩,r2⟩:=rv.two
 obtain rfl:v=Value.ref l:=rx
 obtain ⟨z,its,n,r,hl,e⟩:=I.lstM hH
 have hs:sizeLine=16777216:=sizeLine_eq
 obtain ⟨x,hx⟩:∃ x:Int,x=(k:Int):=⟨_,rfl⟩
 rw [<- hx]
 have hf : ¬(!Builtin.List.listFitsIndex x)=true:=by
  have h1:Builtin.List.listFitsIndex x=true:=by
   unfold Builtin.List.listFitsIndex
   rw [bj5]
   exact⟨bg3 (by omega),bg3 (by omega)⟩
  rw [h1]; exact bh8
 have hz2:its.toArray.size<=sizeLine:=by rw [bg0]; omega
 refine call_meets PySem.F.slot_list_insert ⟨_,e,rfl⟩ PySem.F.entry_list_insert (PySem.F.args_list_insert_3 _ _ _) (AutoSeq1.list_insert_list_int_val_1 l its.toArray n x t u2 hf hz2) ⟨e,.non,_,?_,rfl,q⟩
 refine I.lset (its':=its.take k ++ u2 :: its.drop k) hH e ?_ ((r.take k).append (.cons r2 (r.drop k))) ?_
 ·have e1:(if x < 0 then (x+(its.toArray.size:Int)).toNat else min x.toNat its.toArray.size)=k:=by
   rw [if_neg (by omega),bg0]
   omega
  dsimp only
  rw [e1]
  apply Array.toList_inj.mp
  simp only [bn0,Array.toList_push,Array.toList_extract,List.extract_eq_drop_take]
  simp
  rw [bn8 (by rw [bn4]; omega)]
 ·rw [bh9,bj0,bp0,bn4]
  omega
end
end L2
namespace Core
open PySem L2 PP
def hG (ns:List Int):Bool:=((ns.zip (ns.drop 1)).map fun p=>decide (p.1 < p.2)).all id
theorem sC {α β:Type}{l:List α}{f:α->β}{i:Nat}{x:α} (h:l[i]? = some x):(l.take (i+1)).map f=(l.take i).map f ++ [f x]:=by
 rw [bt0,h]; simp
theorem gI:∀ {ns:List Int},hG ns=true->ns.Pairwise (· < ·)
 | [],_=>.nil
 | [x],_=>bo7 _ _
 | x :: y :: r,h=>by
  have e:hG (x :: y :: r)=(decide (x < y) && hG (y :: r)):=rfl
  rw [e,bj5] at h
  have ih:=gI h.2
  refine List.pairwise_cons.mpr ⟨fun z hz=>?_,ih⟩
  rcases bg4.mp hz with rfl | hz
  ·exact bq1 h.1
  ·exact Int.lt_trans (bq1 h.1) (List.rel_of_pairwise_cons ih hz)
theorem wR:∀ {ns:List Int},ns.Pairwise (· < ·)->hG ns=true
 | [],_=>rfl
 | [x],_=>rfl
 | x :: y :: r,h=>by
  have e:hG (x :: y :: r)=(decide (x < y) && hG (y :: r)):=rfl
  have h':=List.pairwise_cons.mp h
  rw [e,wR h'.2,Bool.and_true]
  exact bg3 (h'.1 y bg7)
def kin (ws:List Int) (ls:List (Int × Int)) (S:List Int) (h:Int):Bool:=!decide (h ∈ S) && decide (ws.getD h.toNat 0<=(((bW ls h).filter fun x=>decide (x ∈ S)).length:Int))
def nextOf (ws:List Int) (ls:List (Int × Int)) (S:List Int):List Int:=((List.range ws.length).map fun (i:Nat)=>(i:Int)).filter (kin ws ls S)
def aY (ws:List Int) (ls:List (Int × Int)) (S:List Int):Nat->List Int
 | 0=>S
 | k+1=>aY ws ls S k ++ nextOf ws ls (aY ws ls S k)
def cold (ws:List Int) (S:List Int):Nat:=(((List.range ws.length).map fun (i:Nat)=>(i:Int)).filter fun x=>!decide (x ∈ S)).length
theorem wS {α:Type} (p q:α->Bool) (h:∀ x,q x=true->p x=false):∀ L:List α,(L.filter fun x=>!p x && !q x).length+(L.filter q).length=(L.filter fun x=>!p x).length
 | []=>rfl
 | x :: r=>by
  have ih:=wS p q h r
  cases e1:p x with
  | true=>
   have e2:q x=false:=by
    cases e:q x with
    | false=>rfl
    | true=>have:=h x e; rw [e1] at this; cases this
   simp only [bu1,e1,e2,Bool.not_true,Bool.false_and,bi0,bm6]
   exact ih
  | false=>
   cases e2:q x with
   | true=>
    simp only [bu1,e1,e2,Bool.not_true,Bool.not_false,bu5,bi0,bm6,if_true,bj0]
    omega
   | false=>
    simp only [bu1,e1,e2,Bool.not_false,Bool.and_true,bi0,bm6,if_true,bj0]
    omega
theorem wT {ws:List Int}{ls:List (Int × Int)}{S:List Int}{x:Int} (h:kin ws ls S x=true):decide (x ∈ S)=false:=by
 unfold kin at h
 cases e:decide (x ∈ S) with
 | false=>rfl
 | true=>rw [e] at h; cases h
theorem wU (ws:List Int) (ls:List (Int × Int)) (S:List Int):cold ws (S ++ nextOf ws ls S)+(nextOf ws ls S).length=cold ws S:=by
 have e:=wS (fun x=>decide (x ∈ S)) (kin ws ls S) (fun x h=>wT h) ((List.range ws.length).map fun (i:Nat)=>(i:Int))
 unfold cold
 rw [<- e]
 congr 2
 refine List.filter_congr fun x hx=>?_
 have:decide (x ∈ S ++ nextOf ws ls S)=(decide (x ∈ S) || kin ws ls S x):=by
  rw [bp4]
  unfold nextOf
  simp only [bj9,bk1,bn2,Bool.or_eq_true]
  exact⟨fun z=>z.elim .inl fun z=>.inr z.2,fun z=>z.elim .inl fun z=>.inr ⟨hx,z⟩⟩
 rw [this]
 cases decide (x ∈ S) <;> cases kin ws ls S x <;> rfl
theorem aH7 (ws:List Int) (S:List Int):cold ws S<=ws.length:=by
 unfold cold
 refine bk0 (br9 _ _) ?_
 rw [bg5,bp9]; exact bg1 _
theorem aH8 (ws:List Int) (ls:List (Int × Int)) (S:List Int):(nextOf ws ls S).length<=ws.length:=by
 unfold nextOf
 refine bk0 (br9 _ _) ?_
 rw [bg5,bp9]; exact bg1 _
def after (ws:List Int) (ls:List (Int × Int)) (S:List Int) (m:Nat):List (List Int):=(List.range m).map fun k=>nextOf ws ls (aY ws ls S k)
theorem S0 (ws:List Int) (ls:List (Int × Int)) (S:List Int) (m:Nat):after ws ls S (m+1)=after ws ls S m ++ [nextOf ws ls (aY ws ls S m)]:=by
 unfold after
 rw [List.range_succ,bl2]; rfl
theorem wV (ws:List Int) (ls:List (Int × Int)) (ns:List Int):∀ k,(aY ws ls ns k).length+cold ws (aY ws ls ns k)=ns.length+cold ws ns
 | 0=>rfl
 | k+1=>by
  have ih:=wV ws ls ns k
  have cs:=wU ws ls (aY ws ls ns k)
  show (aY ws ls ns k ++ nextOf ws ls (aY ws ls ns k)).length+cold ws (aY ws ls ns k ++ nextOf ws ls (aY ws ls ns k))=_
  rw [bh9]; omega
theorem wW {ws ns:List Int} (hu:ns.Pairwise (· < ·)) (hin:∀ x ∈ ns,0<=x/\x < (ws.length:Int)):ns.length+cold ws ns<=ws.length:=by
 have nd:ns.Nodup:=hu.imp fun h=>Int.ne_of_lt h
 have sub:ns ⊆ ((List.range ws.length).map fun (i:Nat)=>(i:Int)).filter fun x=>decide (x ∈ ns):=fun x hx=>by
  refine bn2.mpr ⟨bm8.mpr ⟨x.toNat,bw2.mpr ?_,?_⟩,bg3 hx⟩
  ·have:=hin x hx; omega
  ·have:=hin x hx; omega
 have h1:=nd.length_le_of_subset sub
 have h2:=wS (fun _=>false) (fun x=>decide (x ∈ ns)) (fun _ _=>rfl) ((List.range ws.length).map fun (i:Nat)=>(i:Int))
 have h3:(((List.range ws.length).map fun (i:Nat)=>(i:Int)).filter fun x=>!false && !decide (x ∈ ns)).length=cold ws ns:=rfl
 have h4:(((List.range ws.length).map fun (i:Nat)=>(i:Int)).filter fun x=>!false).length<=ws.length:=by
  refine bk0 (br9 _ _) ?_
  rw [bg5,bp9]; exact bg1 _
 rw [h3] at h2
 omega
theorem wX (ws:List Int) (ls:List (Int × Int)) (ns:List Int):∀ m,(ns :: after ws ls ns m).flatten=aY ws ls ns m
 | 0=>by simp [after,aY]
 | m+1=>by
  rw [S0,<- List.cons_append,List.flatten_append,wX ws ls ns m]
  simp [aY]
def c9 (ws:List Int) (ls:List (Int × Int)) (ns:List Int) (m:Nat):Prop:=(∀ k < m,nextOf ws ls (aY ws ls ns k) ≠ [])/\nextOf ws ls (aY ws ls ns m) = []
theorem S3 {ws:List Int}{ls:List (Int × Int)}{ns:List Int}:∀ (m:Nat),(∀ k < m,nextOf ws ls (aY ws ls ns k) ≠ [])->m+cold ws (aY ws ls ns m)<=ws.length
 | 0,_=>by have:=aH7 ws ns; show 0+cold ws ns<=_; omega
 | m+1,h=>by
  have ih:=S3 m fun k hk=>h k (by omega)
  have cs:=wU ws ls (aY ws ls ns m)
  have:1<=(nextOf ws ls (aY ws ls ns m)).length:=by
   cases e:nextOf ws ls (aY ws ls ns m) with
   | nil=>exact absurd e (h m (by omega))
   | cons _ _=>exact Nat.succ_le_succ (bk5 _)
  show m+1+cold ws (aY ws ls ns m ++ nextOf ws ls (aY ws ls ns m))<=_
  omega
theorem eL {ns:List Int}{i:Nat}{x:PV} (h:(intz ns)[i]? = some x):∃ n,x = .int n/\ns[i]? = some n:=by
 rw [bh1] at h
 cases e:ns[i]? with
 | none=>rw [e] at h; cases h
 | some n=>rw [e] at h; exact⟨n,(bi5 h).symm,rfl⟩
theorem iH {lo:Int}{n i:Nat}{x:PV} (h:(fB lo n)[i]? = some x):x = .int (lo+i)/\i < n:=by
 have hi:i < n:=by
  have:=(bh4.mp h).1
  rwa [dE] at this
 rw [J4 hi] at h
 exact⟨(bi5 h).symm,hi⟩
def rng (n:Nat):List Int:=(List.range n).map fun (i:Nat)=>(i:Int)
theorem kX (n:Nat):(rng n).length=n:=by unfold rng; rw [bg5,bp9]
theorem S4 {n i:Nat} (h:i < n):(rng n)[i]? = some (i:Int):=by unfold rng; rw [bh1,List.getElem?_range h]; rfl
theorem mP {n:Nat}{x:Int}:x ∈ rng n ↔ 0<=x/\x < (n:Int):=by
 unfold rng
 rw [bm8]
 constructor
 ·rintro ⟨i,hi,rfl⟩
  have:=bw2.mp hi
  omega
 ·intro h
  exact⟨x.toNat,bw2.mpr (by omega),by omega⟩
theorem jX {α:Type}{l:List α}{p:α->Bool}{i:Nat}{x:α} (h:l[i]? = some x):(l.take (i+1)).filter p=(l.take i).filter p ++ (if p x=true then [x] else []):=by
 rw [bt0,h,List.filter_append]
 congr 1
 cases e:p x <;> simp [e]
theorem e8 (a b:List Int):intz (a ++ b)=intz a ++ intz b:=bl2
theorem b7 (a:List Int):(intz a).length=a.length:=bg5 _
def bJ (ws:List Int) (ls:List (Int × Int)):PV:=.tup [.tup (intz ws),.tup (ls.map fun l=>.tup [.int l.1,.int l.2])]
structure Wb (ws:List Int) (ls:List (Int × Int)):Prop where
 few:ws.length<=40
 most:ls.length<=1700
 links:∀ l ∈ ls,(0<=l.1/\l.1 < ws.length)/\0<=l.2/\l.2 < ws.length
def cQ (x:PV) (ns:List Int):Prop:=x = .tup (intz ns) ∨ x = .lst (intz ns)
theorem cQ.seq {x:PV}{ns:List Int} (h:cQ x ns):jP x=some (intz ns):=by rcases h with rfl | rfl <;> rfl
theorem cQ.seqT {x:PV}{ns:List Int} (h:cQ x ns):seqT x=some (intz ns):=by rcases h with rfl | rfl <;> rfl
theorem sD:∀ (ls:List (Int × Int)),flats (ls.map fun l=>PV.tup [.int l.1,.int l.2])=true
 | []=>rfl
 | l :: r=>by
  show (flat (.tup [.int l.1,.int l.2]) && flats (r.map fun l=>PV.tup [.int l.1,.int l.2]))=true
  rw [sD r]; rfl
theorem S5 (ws:List Int) (ls:List (Int × Int)):flat (bJ ws ls)=true:=by
 show flats [.tup (intz ws),.tup (ls.map fun l=>PV.tup [.int l.1,.int l.2])]=true
 show (flat (.tup (intz ws)) && (flat (.tup (ls.map fun l=>PV.tup [.int l.1,.int l.2])) && true))=true
 show (flats (intz ws) && (flats (ls.map fun l=>PV.tup [.int l.1,.int l.2]) && true))=true
 rw [cE,sD]; rfl
theorem oX (ns:List Int):flat (.tup (intz ns))=true:=cE ns
def iI:bC:=fun xs Q=>∃ ws ls,xs = [bJ ws ls]/\Q (.int ws.length)
def S6:aK:=(aZ (aC dD (a6 (dQ (a5 0) (qC (.int 0))) a9)))
abbrev cN (t:aK) (N:List Str) (p:bC):Prop:=∀ xs Q,p xs Q->t { nx:=fun _=>Q .non,rt:=Q } (eF N xs)
theorem aH9:cN S6 ["web"] iI:=by
 rintro xs Q ⟨ws,ls,rfl,q⟩
 refine⟨_,rfl,_,_,_,rfl,rfl,rfl,_,_,rfl,rfl,trivial,?_⟩
 rw [b7]; exact q
def wY:bC:=fun xs Q=>∃ x ns,xs = [x]/\cQ x ns/\ns.length<=1000/\Q (.bl (hG ns))
def inB (n:Nat) (x:Int):Bool:=decide (0<=x) && decide (x < (n:Int))
def sE:bC:=fun xs Q=>∃ ws ls n,xs = [bJ ws ls,.int n]/\Q (.bl (inB ws.length n))
def S7:aK:=(aZ (jN (vX (a5 1) (qC (.int 0))) (r9 (a5 1) (aC iI (a6 (a5 0) a9)))))
theorem aI0:cN S7 ["web","number"] sE:=by
 rintro xs Q ⟨ws,ls,n,rfl,q⟩
 refine⟨_,rfl,_,_,rfl,rfl,_,rfl,?_⟩
 unfold inB at q
 by_cases h:(0:Int)<=n
 ·rw [bg3 h] at q ⊢
  refine aW ⟨_,rfl,_,rfl,ws,ls,rfl,_,_,rfl,rfl,trivial,?_⟩
  simpa using q
 ·rw [bg2 h] at q ⊢
  exact aO ⟨trivial,by simpa using q⟩
def aT (n:Nat) (ns:List Int):Bool:=hG ns && (ns.map (inB n)).all id
def sF:bC:=fun xs Q=>∃ ws ls x ns,xs = [bJ ws ls,x]/\cQ x ns/\ns.length<=1000/\Q (.bl (aT ws.length ns))
def S8:aK:=(aZ (jN (aC wY (a6 (a5 1) a9)) (aC vJ (a6 (cP (dI (a5 1)) [none,some 0] (bI 0) eV (aC sE (a6 (a5 1) (a6 (a5 0) a9)))) a9))))
theorem mQ {x:PV}{ns:List Int} (h:cQ x ns):(Slot.sh (flat x) x).tag = .rd->flat x=true:=by
 cases flat x <;> intro z <;> cases z
theorem aI1:cN S8 ["web","numbers"] sF:=by
 rintro xs Q ⟨ws,ls,x,ns,rfl,hx,hl,q⟩
 refine⟨_,rfl,x,ns,rfl,hx,hl,_,rfl,?_⟩
 unfold aT at q
 cases h:hG ns with
 | false=>rw [h] at q; exact aO ⟨trivial,q⟩
 | true=>
  rw [h] at q
  refine aW ⟨_,rfl,_,hx.seq,mQ hx,by rw [b7]; omega,fun i acc=>acc=(((ns.take i).map (inB ws.length)).map PV.bl),rfl,?_,?_⟩
  ·rintro i y acc hy rfl
   obtain ⟨n,rfl,hn⟩:=eL hy
   have tk:((ns.take (i+1)).map (inB ws.length)).map PV.bl=((ns.take i).map (inB ws.length)).map PV.bl ++ [PV.bl (inB ws.length n)]:=by rw [sC hn,bl2]; rfl
   exact⟨_,rfl,_,rfl,ws,ls,n,rfl,trivial,tk.symm⟩
  ·rintro acc rfl
   rw [b7,bk9]
   exact⟨_,rfl,trivial,by simpa using q⟩
theorem cQ.noscr {x:PV}{ns:List Int} (h:cQ x ns):∀ ms,([x]:List PV) ≠ [.scr ms]:=by
 rcases h with rfl | rfl <;> intro ms z <;> cases z
structure DS (ps:List (aA × PV)) (S:List Int):Prop where
 has:∀ i:Int,(bX ps (Sum.inl i:aA)).isSome=decide (i ∈ S)
 len:ps.length<=S.length
 fl:flats (ps.map (·.2))=true
theorem DS.nil:DS [] []:=⟨fun i=>rfl,bg1 _,rfl⟩
section
variable {κ : Type} [DecidableEq κ]
theorem aI2 {k:κ}:bX ([]:List (κ × PV)) k=none:=rfl
theorem iJ {p:κ × PV}{r:List (κ × PV)}{k:κ} (e:p.1=k):bX (p :: r) k=some p.2:=by simp [bX,bq3,e]
theorem iK {p:κ × PV}{r:List (κ × PV)}{k:κ} (e : ¬ p.1=k):bX (p :: r) k=bX r k:=by simp [bX,bq3,e]
theorem sG (k:κ):∀ kvs:List (κ × PV),(kvs.any fun kv=>decide (kv.1=k))=(bX kvs k).isSome
 | []=>rfl
 | p :: r=>by
  rw [List.any_cons]
  by_cases e:p.1=k
  ·simp only [iJ e,bg3 e,Bool.true_or,Option.isSome_some]
  ·rw [iK e,bg2 e,Bool.false_or]; exact sG k r
theorem S9 (k j:κ) (y:PV):∀ kvs:List (κ × PV),bX (kvs.map fun kv=>if kv.1=k then (kv.1,y) else kv) j=(bX kvs j).map fun x=>if j=k then y else x
 | []=>rfl
 | p :: r=>by
  have ih:=S9 k j y r
  rw [bl7]
  by_cases h:p.1=k
  ·rw [if_pos h]
   by_cases e:p.1=j
   ·rw [iJ (p:=(p.1,y)) e,iJ e,Option.map_some,if_pos (e.symm.trans h)]
   ·rw [iK (p:=(p.1,y)) e,iK e,ih]
  ·rw [if_neg h]
   by_cases e:p.1=j
   ·rw [iJ (p:=p) e,iJ e,Option.map_some,if_neg (fun z=>h (e.trans z))]
   ·rw [iK (p:=p) e,iK e,ih]
theorem T0 (k j:κ) (y:PV):∀ kvs:List (κ × PV),bX kvs k=none->bX (kvs ++ [(k,y)]) j=if j=k then some y else bX kvs j
 | [],_=>by
  by_cases e:k=j
  ·rw [if_pos e.symm]; exact iJ (p:=(k,y)) e
  ·rw [if_neg (fun z=>e z.symm)]; exact iK (p:=(k,y)) e
 | p :: r,hn=>by
  rw [List.cons_append]
  have hk : ¬ p.1=k:=fun z=>by rw [iJ z] at hn; cases hn
  rw [iK hk] at hn
  have ih:=T0 k j y r hn
  by_cases e:p.1=j
  ·rw [iJ e,iJ e,if_neg (fun z=>hk (e.trans z))]
  ·rw [iK e,iK e,ih]
theorem T1 (kvs:List (κ × PV)) (k j:κ) (y:PV):bX (cL kvs k y) j=if j=k then some y else bX kvs j:=by
 unfold cL
 by_cases a:(kvs.any fun kv=>decide (kv.1=k))=true
 ·rw [if_pos a,S9]
  rw [sG] at a
  by_cases e:j=k
  ·obtain ⟨x,hx⟩:=Option.isSome_iff_exists.mp a
   rw [if_pos e,e,hx,Option.map_some,if_pos rfl]
  ·rw [if_neg e]
   cases bX kvs j with
   | none=>rfl
   | some x=>rw [Option.map_some,if_neg e]
 ·rw [if_neg a]
  refine T0 k j y kvs ?_
  rw [sG] at a
  cases q:bX kvs k with
  | none=>rfl
  | some x=>rw [q] at a; exact (a rfl).elim
theorem wZ (kvs:List (κ × PV)) (k:κ) (v:PV):(cL kvs k v).length<=kvs.length+1:=by
 unfold cL
 split
 ·rw [bg5]; omega
 ·rw [bh9,bj0,List.length_nil]; omega
end
theorem T2:∀ (xs:List PV),flats xs=true ↔ ∀ x ∈ xs,flat x=true
 | []=>by simp [flats]
 | x :: r=>by
  unfold flats
  rw [bj5,T2 r]; simp
theorem aI3 {κ:Type} [DecidableEq κ] {ps:List (κ × PV)}{k:κ}{v:PV}{p:κ × PV} (h:p ∈ cL ps k v):p.2=v ∨ p ∈ ps:=by
 unfold cL at h
 split at h
 ·obtain ⟨q,hq,e⟩:=bm8.mp h
  split at e
  ·subst e; exact .inl rfl
  ·subst e; exact .inr hq
 ·rcases bk1.mp h with h | h
  ·exact .inr h
  ·rw [bh6.mp h]; exact .inl rfl
theorem x3 {κ:Type} [DecidableEq κ] {ps:List (κ × PV)}{k:κ}{v:PV} (h:flats (ps.map (·.2))=true) (hv:flat v=true):flats ((cL ps k v).map (·.2))=true:=by
 rw [T2] at h ⊢
 intro x hx
 obtain ⟨p,hp,rfl⟩:=bm8.mp hx
 rcases aI3 hp with e | e
 ·rw [e]; exact hv
 ·exact h _ (bm8.mpr ⟨p,e,rfl⟩)
theorem DS.put {ps:List (aA × PV)}{S:List Int} (h:DS ps S) (x:Int) (v:PV) (hv:flat v=true):DS (cL ps (Sum.inl x:aA) v) (S ++ [x]):=by
 refine⟨fun i=>?_,?_,x3 h.fl hv⟩
 ·rw [T1]
  by_cases e:i=x
  ·subst e; rw [if_pos rfl]; simp
  ·rw [if_neg (fun z=>e (Sum.inl.inj z)),h.has]
   simp [e]
 ·have:=wZ ps (Sum.inl x:aA) v
  have:=h.len
  rw [bh9,bq2]; omega
theorem DS.merge {S:List Int}:∀ {mp ps:List (aA × PV)}{T:List Int},DS ps S->DS mp T->DS (gW ps mp) (S ++ T):=by
 have key:∀ (mp:List (aA × PV)) {ps:List (aA × PV)} (i:Int),(bX (gW ps mp) (Sum.inl i:aA)).isSome=((bX ps (Sum.inl i:aA)).isSome || (bX mp (Sum.inl i:aA)).isSome):=fun mp=>by
  induction mp with
  | nil=>intro ps i; show (bX ps (Sum.inl i:aA)).isSome=_; rw [aI2]; simp
  | cons p r ih=>
   intro ps i
   show (bX (gW (cL ps p.1 p.2) r) (Sum.inl i:aA)).isSome=_
   rw [ih,T1]
   by_cases e:(Sum.inl i:aA)=p.1
   ·rw [if_pos e,iJ e.symm]; simp
   ·rw [if_neg e,iK (Ne.symm e)]
 have keyl:∀ (mp:List (aA × PV)) {ps:List (aA × PV)},(gW ps mp).length<=ps.length+mp.length:=fun mp=>by
  induction mp with
  | nil=>intro ps; exact bg1 _
  | cons p r ih=>
   intro ps
   have h1:=ih (ps:=cL ps p.1 p.2)
   have h2:=wZ ps p.1 p.2
   show (gW (cL ps p.1 p.2) r).length<=_
   rw [bj0]; omega
 have keyf:∀ (mp:List (aA × PV)) {ps:List (aA × PV)},flats (ps.map (·.2))=true->flats (mp.map (·.2))=true->flats ((gW ps mp).map (·.2))=true:=fun mp=>by
  induction mp with
  | nil=>intro ps h _; exact h
  | cons p r ih=>
   intro ps h g
   have g:(flat p.2 && flats (r.map (·.2)))=true:=g
   rw [bj5] at g
   exact ih (ps:=cL ps p.1 p.2) (x3 h g.1) g.2
 intro mp ps T h g
 refine⟨fun i=>?_,?_,keyf mp h.fl g.fl⟩
 ·rw [key,h.has,g.has,bp4]; simp
 ·have:=keyl mp (ps:=ps)
  have:=h.len
  have:=g.len
  rw [bh9]; omega
def hJ:bC:=fun xs Q=>∃ x ns,xs = [x]/\cQ x ns/\ns.length<=1000/\∀ ps,DS ps ns->Q (.dK ps)
def T3:aK:=(aP (gD 1 (qC (.dK [])))
 (aP (fC (dI (a5 0)) (bI 2)
  (r6 1 (a5 2) (qC (.bl true))))
 (iB 1)))
theorem aI4:cN T3 ["hearths","inside","hearth"] hJ:=by
 rintro xs Q ⟨x,ns,rfl,hx,hl,q⟩
 refine⟨rfl,rfl,_,rfl,_,hx.seq,mQ hx,fun i ρ=>∃ y ps,ρ = [some (.sh (flat x) x),some (.own (.dK ps)),y]/\DS ps (ns.take i),⟨none,[],rfl,DS.nil⟩,?_,?_⟩
 ·rintro i y ρ hy ⟨y0,ps,rfl,d⟩
  obtain ⟨n,rfl,hn⟩:=eL hy
  have hlen:=d.len
  rw [bp0] at hlen
  refine⟨_,rfl,_,rfl,Sum.inl n,rfl,trivial,by omega,_,_,rfl,?_⟩
  rw [bt0,hn]
  exact d.put n _ rfl
 ·rintro ρ ⟨y,ps,rfl,d⟩
  rw [b7,bk9] at d
  exact⟨_,rfl,trivial,q ps d⟩
def jY:bC:=fun xs Q=>∃ x ns ps S,xs = [x,.dK ps]/\cQ x ns/\DS ps S/\ns.length<=10000/\Q (.int ((ns.filter fun x=>decide (x ∈ S)).length:Nat))
def T4:aK:=(aZ (aC dD (a6 (cP (dI (a5 0)) [none,some 1] (bI 0) (aR (j4 false (a5 0) (a5 1))) (a5 0)) a9)))
theorem aI5:cN T4 ["hearths","inside"] jY:=by
 rintro xs Q ⟨x,ns,ps,S,rfl,hx,d,hl,q⟩
 refine⟨_,rfl,_,hx.seq,mQ hx,by rw [b7]; omega,fun i acc=>acc=intz ((ns.take i).filter fun x=>decide (x ∈ S)),rfl,?_,?_⟩
 ·rintro i y acc hy rfl
  obtain ⟨n,rfl,hn⟩:=eL hy
  have tk:=jX (p:=fun x=>decide (x ∈ S)) hn
  refine⟨_,rfl,_,rfl,_,.inl ⟨ps,Sum.inl n,rfl,rfl,rfl⟩,_,rfl,?_⟩
  show if (bX ps (Sum.inl n:aA)).isSome=true then _ else _
  rw [d.has n]
  by_cases h:n ∈ S
  ·rw [bg3 h] at tk ⊢
   refine aW ⟨_,rfl,trivial,?_⟩
   rw [if_pos rfl] at tk
   show _=intz (List.filter _ (List.take (i+1) ns))
   rw [tk,e8]; rfl
  ·rw [bg2 h] at tk ⊢
   refine aO ?_
   rw [if_neg (by decide),bi9] at tk
   show _=intz (List.filter _ (List.take (i+1) ns))
   rw [tk]
 ·rintro acc rfl
  rw [b7,bk9]
  refine⟨_,_,rfl,rfl,trivial,?_⟩
  rw [b7]; exact q
def jZ (n:Nat) (ls:List (Int × Int)):List PV:=(List.range n).map fun (k:Nat)=>PV.lst (intz (bW ls k))
def kY:bC:=fun xs Q=>∃ ws ls,xs = [bJ ws ls]/\Wb ws ls/\Q (.lst (jZ ws.length ls))
theorem T5 {n:Nat}{ls:List (Int × Int)}{h:Int} (h0:0<=h) (h1:h < (n:Int)):atI (jZ n ls) h=some (.lst (intz (bW ls h))):=by
 refine qK h0 ?_
 unfold jZ
 rw [bh1,List.getElem?_range (by omega)]
 show some (PV.lst (intz (bW ls ((h.toNat:Nat):Int))))=_
 rw [show ((h.toNat:Nat):Int)=h by omega]
def sH:bC:=fun xs Q=>∃ ws ls ps S h,xs = [bJ ws ls,.lst (jZ ws.length ls),.dK ps,.int h]/\Wb ws ls/\DS ps S/\0<=h/\h < (ws.length:Int)/\Q (.bl (kin ws ls S h))
def T6:aK:=(aZ (jN (j4 true (a5 3) (a5 2)) (vX (aC jY (a6 (dQ (a5 1) (a5 3)) (a6 (a5 2) a9))) (dQ (dQ (a5 0) (qC (.int 0))) (a5 3)))))
theorem x4 {ws:List Int}{h:Int} (h0:0<=h) (h1:h < (ws.length:Int)):atI (intz ws) h=some (.int (ws.getD h.toNat 0)):=by
 refine qK h0 ?_
 have:h.toNat < ws.length:=by omega
 rw [bh1,bh2,bf9 this]; rfl
theorem aI6:cN T6 ["web","around","burning","hearth"] sH:=by
 rintro xs Q ⟨ws,ls,ps,S,h,rfl,wb,d,h0,h1,q⟩
 refine⟨_,rfl,_,rfl,_,.inl ⟨ps,Sum.inl h,rfl,rfl,rfl⟩,_,rfl,?_⟩
 show if (!(bX ps (Sum.inl h:aA)).isSome)=true then _ else _
 rw [d.has h]
 unfold kin at q
 by_cases hm:h ∈ S
 ·rw [bg3 hm] at q ⊢
  exact aO ⟨trivial,by simpa using q⟩
 ·rw [bg2 hm] at q ⊢
  have nl:=o7 ls h
  have:=wb.most
  refine aW ⟨_,rfl,_,rfl,_,_,_,rfl,rfl,T5 h0 h1,_,rfl,_,bW ls h,ps,S,rfl,.inr rfl,d,by omega,_,rfl,_,_,_,rfl,rfl,rfl,_,rfl,_,_,_,rfl,rfl,x4 h0 h1,_,_,rfl,rfl,trivial,?_⟩
  simpa using q
def oY:bC:=fun xs Q=>∃ ws ls ps S,xs = [bJ ws ls,.lst (jZ ws.length ls),.dK ps]/\Wb ws ls/\DS ps S/\Q (.tup (intz (nextOf ws ls S)))
def T7:aK:=(aZ (aC dF (a6 (cP (gE (aC iI (a6 (a5 0) a9))) [none,some 0,some 1,some 2] (bI 0) (aR (aC sH (a6 (a5 1) (a6 (a5 2) (a6 (a5 3) (a6 (a5 0) a9)))))) (a5 0)) a9)))
theorem aI7:cN T7 ["web","around","burning"] oY:=by
 rintro xs Q ⟨ws,ls,ps,S,rfl,wb,d,q⟩
 have few:=wb.few
 refine⟨_,rfl,ws,ls,rfl,_,rfl,by omega,by omega,by rw [dE]; omega,fun i acc=>acc=intz (((rng ws.length).take i).filter (kin ws ls S)),rfl,?_,?_⟩
 ·rintro i y acc hy rfl
  obtain ⟨rfl,hi⟩:=iH hy
  have hi':i < ws.length:=by omega
  have tk:=jX (p:=kin ws ls S) (S4 hi')
  have e0:(0:Int)+(i:Int)=(i:Int):=by omega
  refine⟨_,rfl,_,rfl,_,rfl,_,rfl,ws,ls,ps,S,_,rfl,wb,d,by omega,by omega,_,rfl,?_⟩
  show if kin ws ls S ((0:Int)+(i:Int))=true then _ else _
  rw [e0]
  cases h:kin ws ls S (i:Int) with
  | true=>
   refine aW ⟨_,rfl,trivial,?_⟩
   rw [h,if_pos rfl] at tk
   show _=intz (List.filter _ (List.take (i+1) _))
   rw [tk,e8]
   show _ ++ [PV.int _]=_
   rfl
  | false=>
   refine aO ?_
   rw [h,if_neg (by decide),bi9] at tk
   show _=intz (List.filter _ (List.take (i+1) _))
   rw [tk]
 ·rintro acc rfl
  rw [dE,bn8 (by rw [kX]; omega)]
  exact⟨⟨_,_,rfl,rfl,cE _,trivial,q⟩,fun ns z=>by cases z⟩
def tups (rs:List (List Int)):List PV:=rs.map fun r=>PV.tup (intz r)
theorem aI8 {rs:List (List Int)}{i:Nat}{x:PV} (h:(tups rs)[i]? = some x):∃ r,x = .tup (intz r)/\rs[i]? = some r:=by
 unfold tups at h
 rw [bh1] at h
 cases e:rs[i]? with
 | none=>rw [e] at h; cases h
 | some n=>rw [e] at h; exact⟨n,(bi5 h).symm,rfl⟩
theorem T8 (rs:List (List Int)):(tups rs).length=rs.length:=bg5 _
theorem dG {n:Nat}{ns:List Int} (h:aT n ns=true):hG ns=true/\∀ x ∈ ns,0<=x/\x < (n:Int):=by
 unfold aT at h
 rw [bj5,bo6] at h
 refine⟨h.1,fun x hx=>?_⟩
 have:=h.2 _ (bm8.mpr ⟨x,hx,rfl⟩)
 unfold inB at this
 simpa using this
theorem gJ {n:Nat}{ns:List Int} (h:aT n ns=true):ns.length<=n:=by
 obtain ⟨h1,h2⟩:=dG h
 have:=wW (ws:=List.replicate n (0:Int)) (gI h1) (by rw [List.length_replicate]; exact h2)
 rw [List.length_replicate] at this
 omega
theorem x5 {ws:List Int}{ls:List (Int × Int)}{ns:List Int} (h:aT ws.length ns=true) (k:Nat):(aY ws ls ns k).length<=ws.length:=by
 have h1:=wV ws ls ns k
 have h2:=wW (gI (dG h).1) (dG h).2
 omega
end Core
namespace PP
open PySem L2
def T9 (te:aE):aE:=fun ρ Q=>te ρ fun x _=>∃ n:Int,x = .int n/\0<=n/\n<=1000000/\Q (.lst (fB 0 n.toNat)) .fr
def sI:List PV->(PV->Prop)->Prop:=fun xs Q=>∃ ps:List (List aA × PV),xs = [.dT ps]/\Q (.lst (ps.map fun p=>PV.tup (p.1.map kP)))
end PP
namespace Core
open PySem L2 PP
theorem U0 (g:Tg) (n:Int):Nw g (.int n):=by cases g <;> first | exact trivial | rfl
def gK (x:PV) (ns:List Int):Prop:=x = .scr ns ∨ x = .lst (intz ns)
theorem gK.seq {x:PV}{ns:List Int} (h:gK x ns):jP x=some (intz ns):=by rcases h with rfl | rfl <;> rfl
theorem gK.len {x:PV}{ns:List Int} (h:gK x ns):vI x=some ns.length:=by
 rcases h with rfl | rfl
 ·rfl
 ·show some (intz ns).length=_
  rw [b7]
def k6:bC:=fun xs Q=>∃ x ns k,xs = [x,.int k]/\gK x ns/\0<=k/\Q (.int (ns.getD k.toNat 0))
def U1:aK:=(aP (bM (aR (r9 (a5 1) (aC dD (a6 (a5 0) a9)))) (aZ (dQ (a5 0) (a5 1))) cA)
 (aZ (qC (.int 0))))
theorem aI9:cN U1 ["script","k"] k6:=by
 rintro xs Q ⟨x,ns,k,rfl,hx,h0,q⟩
 refine⟨_,rfl,_,rfl,_,_,rfl,hx.len,_,_,rfl,rfl,_,rfl,?_⟩
 by_cases h:k < (ns.length:Int)
 ·rw [bg3 h]
  exact aW ⟨_,rfl,_,rfl,_,_,_,hx.seq,rfl,x4 h0 h,U0 _ _,q⟩
 ·rw [bg2 h]
  rw [bh2,List.getElem?_eq_none (by omega)] at q
  exact aO ⟨trivial,q⟩
def k7 (ls:List (Int × Int)):List PV:=ls.map fun l=>PV.tup [.int l.1,.int l.2]
theorem U2 (ls:List (Int × Int)):(k7 ls).length=ls.length:=bg5 _
def x6 (l m:Int × Int):Prop:=l.1 < m.1 ∨ (l.1=m.1/\l.2 < m.2)
abbrev si (n:Int):Option Slot:=some (.sh true (.int n))
def sJ:bC:=fun xs Q=>∃ i,xs = [.int i]/\Q (.bl true)
def U3 (K:PySem.W.Frag):aK:=(aZ (jN (jQ K "int" (a5 0)) (vC (jQ K "bool" (a5 0)))))
theorem cQ.len {x:PV}{ns:List Int} (h:cQ x ns):vI x=some ns.length:=by
 rcases h with rfl | rfl <;> (show some (intz ns).length=_; rw [b7])
theorem aJ0 {K:PySem.W.Frag} (k1:PySem.W.kitOne K (.type "int") (.type "int")=some true) (k2:PySem.W.kitOne K (.type "int") (.type "bool")=some false):cN (U3 K) ["found"] sJ:=by
 rintro xs Q ⟨i,rfl,q⟩
 exact⟨_,rfl,_,_,rfl,k1,_,rfl,aW ⟨_,rfl,_,_,rfl,k2,_,rfl,trivial,q⟩⟩
theorem aJ1 {ls:List (Int × Int)}{i:Nat}{x:PV} (h:(k7 ls)[i]? = some x):∃ l,x = .tup [.int l.1,.int l.2]/\ls[i]? = some l:=by
 unfold k7 at h
 rw [bh1] at h
 cases e:ls[i]? with
 | none=>rw [e] at h; cases h
 | some n=>rw [e] at h; exact⟨n,(bi5 h).symm,rfl⟩
end Core
namespace PP
open PySem L2 PyProof.Rows
section
variable {X : Cx} {a b e : Expr} {ta tb te : aE} {tr : cK} {pos p2 p3 pos2 : Pos}
theorem aJ2 {tA:TA} (hg:Gl X "range") (hm:X.mg "range" = none) (ha:PA X [a] tA) (hs:starEach [a] X.env = [(false,eval a X.env)]:=by rfl) :
  PE X (.Call (.Name "range" p2) [a] [] pos) (fun σ H Q=>tA σ H fun vs H1=>∃ j:Int,vs = [.int j]/\∀ r,H1 r=none->Q (.ref r) (upd H1 r (.rng 0 j))):=by
 intro pins s σ H Q I h
 refine Call_ (iN I hg hm boot_range (bo0 (aJ (ha pos pins s σ H _ I h) fun us s1 ⟨vs,H1,I1,r1,q1⟩=>?_) hs rfl))
 obtain ⟨j,e,q⟩:=q1
 subst e
 cases r1 with
 | cons r rr=>
  cases rr
  obtain ⟨t,rfl⟩:=r
  refine call_range_1 ?_
  exact⟨.ref s1.heap.objs.size,_,I1.laid (o:=.rng 0 j) (fun b ob q=>bf7 _ q) (bg1 _) ⟨_,_,_,bg6 _ rfl⟩,rfl,q _ (I1.hok.fresh (bg1 _))⟩
theorem U4:∀ {xs:List V}{us:List Value},xs.length=us.length->(∀ (i:Nat) x u,xs[i]? = some x->us[i]? = some u->aU x u)->aI xs us
 | [],[],_,_=>.nil
 | x :: xs,u :: us,hl,h=>.cons (h 0 x u rfl rfl) (U4 (by simpa using hl) fun i y w h1 h2=>h (i+1) y w (by rw [bj8]; exact h1) (by rw [bj8]; exact h2))
theorem aJ3 {n:Nat}{acc:Array Value} (h:ItemsOf (fun i v=>∃ t,v = .int (0+(i:Int) * 1) t) acc n):aI (iU 0 n) acc.toList:=by
 obtain ⟨h1,h2⟩:=h
 refine U4 (by rw [uX]; simp [h1]) fun i x u hx hu=>?_
 have hi:i < n:=by
  have:=(bh4.mp hx).1
  rwa [uX] at this
 unfold iU at hx
 rw [bh1,List.getElem?_range hi] at hx
 cases hx
 obtain ⟨t,rfl⟩:=h2 i u (by rw [<- bk3]; exact hu)
 exact⟨t,by congr 1; omega⟩
theorem aJ4 (hc:X.calm=true):cS X (.type "list") (fun xs H Q=>∃ r j,xs = [.ref r]/\H r=some (.rng 0 j)/\0<=j/\j<=1000000/\∀ l,H l=none->Q (.ref l) (upd H l (.lst (iU 0 j.toNat)))):=by
 intro pins s σ H xs us Q I r h
 obtain ⟨p,j,rfl,hq,h0,h1,q⟩:=h
 obtain ⟨u,rfl,rx⟩:=gP r
 cases rx
 obtain ⟨t,u,v,ho⟩:=(show bH X.prog X.w H s.heap p (.rng 0 j) from I.hok p _ hq)
 refine PySem.call_list_range (a:=0) (b:=j) (c:=1) (n:=j.toNat) (I.ok.hd hc) ho (small_one (by decide) (by decide) (by omega) (by omega)) (by rw [rangeSize_one]; split <;> omega) (by omega) fun h' tk acc' c' kp e it=>?_
 have vv:=aJ3 it
 have eq:acc'.toList.toArray=acc':=by simp
 exact⟨.ref s.heap.objs.size,_,I.laid (t':=tk) (o:=.lst (iU 0 j.toNat)) kp (bg1 _) ⟨by rw [uX]; exact lim (by omega),acc'.toList,c',vv,by rw [eq]; exact e⟩,rfl,q _ (I.hok.fresh (bg1 _))⟩
theorem aJ5 {K:PySem.W.Frag}{M:Addr->Prop}{H:Hp} (lo:Int) (n:Nat):Reps K M H (iU lo n) (fB lo n):=by
 unfold iU fB
 generalize List.range n=l
 induction l with
 | nil=>exact .nil
 | cons a r ih=>exact .cons (.int _) ih
theorem aJ6 (B:Bt X.mg) (ha:QE X a ta) (hc:X.calm=true:=by rfl) (hg:Gl X "list":=by rfl) (hgr:Gl X "range":=by rfl) (hs:starEach [a] X.env = [(false,eval a X.env)]:=by rfl)
  (he:starEach [.Call (.Name "range" p3) [a] [] pos2] X.env=(false,eval (.Call (.Name "range" p3) [a] [] pos2) X.env) :: starEach [] X.env:=by rfl) (hpl:(backTo pos (starEach [] X.env)).any (·.1)=false:=by rfl) :
  QE X (.Call (.Name "list" p2) [.Call (.Name "range" p3) [a] [] pos2] [] pos) (T9 ta):=
 bQ (u9 (aJ4 hc) hg B.list PyProof.Rows.boot_list (cV (aJ2 hgr B.range (cV ha dM hs) hs) dM he) (he:=he) (hpl:=hpl)) fun σ H Q' h=>by
  obtain ⟨W,ρ,Q,px,q,k⟩:=h
  refine⟨W,ρ,_,px,q,?_⟩
  rintro v H1 x g s r ⟨n,rfl,h0,h1,q⟩
  cases r
  refine⟨n,rfl,fun r hr=>⟨r,n,rfl,b8,h0,h1,fun l hl=>?_⟩⟩
  have S:aD H (upd (upd H1 r (.rng 0 n)) l (.lst (iU 0 n.toNat))):=(s.trans (bE hr _)).trans (bE hl _)
  exact k _ _ _ .fr S (.lst (((s.trans (bE hr _))).free hl) b8 (aJ5 0 n.toNat)) q
theorem aJ7:gC X sI (fun xs H Q=>∃ a kvs,xs = [.ref a]/\H a=some (.dT kvs)/\∀ l ys,H l=none->Paired (o4 H) ys (kvs.map (·.1))->Q (.ref l) (upd H l (.lst ys))):=by
 rintro H vs xs Q Q' r ⟨ps,rfl,q⟩ k
 obtain ⟨v,rfl,r1⟩:=r.one
 cases r1 with
 | @dT a kvs _ m h e r2=>
  refine⟨a,kvs,rfl,h,fun l ys hl pr=>k _ _ _ (bE hl _) (.lst hl b8 ?_) q⟩
  have kv:∀ (k:List aA),Reps X.K (fun a=>H a=none) H (k.map kV) (k.map kP):=fun k=>by
   induction k with
   | nil=>exact .nil
   | cons a r ih=>exact .cons (by cases a <;> constructor) ih
  have go:∀ {ys:List V}{ks:List (List aA)},Paired (o4 H) ys ks->Reps X.K (fun a=>H a=none) H ys (ks.map fun k=>PV.tup (k.map kP)):=fun {ys ks} pr=>by
   induction pr with
   | nil=>exact .nil
   | cons h t ih=>
    obtain ⟨q,rfl,hq⟩:=h
    exact .cons (.tup hq (kv _)) ih
  have e2:(ps.map fun p=>PV.tup (p.1.map kP))=(kvs.map (·.1)).map fun k=>PV.tup (k.map kP):=by rw [e,bq4]; rfl
  rw [e2]
  exact (go pr).same (bE hl _) fun _ z=>z
theorem aJ8 (B:Bt X.mg) (hc:X.calm=true) (ha:QA X [e] tr) (hg:Gl X "list":=by rfl) (he:starEach [e] X.env=(false,eval e X.env) :: starEach [] X.env:=by rfl) (hpl:(backTo pos (starEach [] X.env)).any (·.1)=false:=by rfl):QE X (.Call (.Name "list" p2) [e] [] pos) (aC sI tr):=
 w9 (ar7 hc) aJ7 hg B.list PyProof.Rows.boot_list ha (he:=he) (hpl:=hpl)
def x8:V->Int
 | .int i=>i
 | _=>0
def kZ (H:Hp):V->List Int
 | .ref a=>match H a with
  | some (.tup us)=>us.map x8
  | _=>[]
 | _=>[]
theorem aJ9 {H:Hp}{a:Addr}{ns:List Int} (h:H a=some (.tup (ns.map V.int))):kZ H (.ref a)=ns:=by
 show (match H a with | some (.tup us)=>us.map x8 | _=>[])=ns
 rw [h]
 show (ns.map V.int).map x8=ns
 rw [bq4]
 exact List.map_id _
theorem U5 {K:PySem.W.Frag}{M:Addr->Prop}{H:Hp}:∀ {us:List V}{ys:List (List Int)},Reps K M H us (ys.map fun r=>PV.tup (intz r))->us.map (kZ H)=ys/\∀ u ∈ us,∃ b,u = .ref b/\H b=some (.tup ((kZ H u).map V.int))
 | _,[],.nil=>⟨rfl,fun u h=>nomatch h⟩
 | _,y :: ys,.cons r t=>by
  obtain ⟨a,us,rfl,h,r1⟩:=r.sqT
  obtain rfl:=r1.ofInts
  obtain ⟨h1,h2⟩:=U5 t
  have hk:=aJ9 h
  refine⟨by rw [bl7,h1,hk],fun u hu=>?_⟩
  rcases bg4.mp hu with rfl | hu
  ·exact⟨a,rfl,by rw [hk]; exact h⟩
  ·exact h2 u hu
theorem U6 {K:PySem.W.Frag}{M:Addr->Prop}{H:Hp}:∀ {us:List V},(∀ u ∈ us,∃ b,u = .ref b/\H b=some (.tup ((kZ H u).map V.int)))->Reps K M H us ((us.map (kZ H)).map fun r=>PV.tup (intz r))
 | [],_=>.nil
 | u :: us,h=>by
  obtain ⟨b,rfl,hb⟩:=h u bg7
  exact .cons (.tup hb (Reps.intz _)) (U6 fun v hv=>h v (bh5 _ hv))
end
def U7 (K:PySem.W.Frag):Sp:=fun vs H Q _=>∃ (a:Addr) (ns:List Int),vs = [.ref a]/\(aL K H a (ns.map V.int) ∨ aN K H a (ns.map V.int))/\ns.length<=1000/\∀ H',aD H H'->Q (.bl (Core.hG ns)) H'
def U8:Sp:=fun vs H Q _=>∃ v ws ls,vs = [v]/\E7 H v ws ls/\ws.length<=1000/\ls.length<=2000/\(∀ l ∈ ls,(0<=l.1/\l.1 < ws.length)/\0<=l.2/\l.2 < ws.length)/\
 ∀ (r:Addr) (bs:List Addr) (H':Hp),bs.length=ws.length->iV H H' r bs (fun k=>bW ls k)->Q (.ref r) H'
section
variable {P : Program} {w : World} {K : PySem.W.Frag} {mg : Str → Option Value} {base : Heap} {f : Addr} {fd : FuncData} {k : Nat}
theorem aK0 (F:cT P w K mg base cZ k f fd ["things"] (U7 K)) (b:gQ K fd ["things"] []) (kp:PySem.W.keepIn K (.ref f)=true) (m:mg "rises" = some (.ref f)):Df P w K mg base k "rises" ["things"] Core.wY:=by
 refine⟨f,fd,F.imp fun vs H Q E h=>?_,b,kp,m⟩
 obtain ⟨xs,Qp,r,⟨x,ns,rfl,hx,hl,q⟩,k⟩:=h
 obtain ⟨v,rfl,r1⟩:=r.one
 rcases hx with rfl | rfl
 ·obtain ⟨a,us,rfl,h,r2⟩:=r1.sqT
  obtain rfl:=r2.ofInts
  exact⟨a,ns,rfl,.inl (aL.of h),hl,fun H' s=>k _ H' _ s (.bl _) q⟩
 ·obtain ⟨a,us,rfl,_,h,r2⟩:=r1.sqL
  obtain rfl:=r2.ofInts
  exact⟨a,ns,rfl,.inr (aN.of h),hl,fun H' s=>k _ H' _ s (.bl _) q⟩
theorem qM {M:Addr->Prop}{H:Hp}:∀ {us:List V}{ls:List (Int × Int)},Reps K M H us (ls.map fun l=>PV.tup [.int l.1,.int l.2])->lN H us ls
 | _,[],.nil=>.nil
 | _,l :: ls,.cons r t=>by
  obtain ⟨a,us,rfl,h,r1⟩:=r.sqT
  obtain ⟨u1,u2,rfl,q1,q2⟩:=r1.two
  cases q1; cases q2
  exact .cons ⟨a,rfl,h⟩ (qM t)
theorem aK1 {M:Addr->Prop}{H:Hp}{v:V}{ws:List Int}{ls:List (Int × Int)} (r:aF K M H v (Core.bJ ws ls)):E7 H v ws ls:=by
 obtain ⟨a,us,rfl,h,r1⟩:=aF.sqT r
 obtain ⟨u1,u2,rfl,q1,q2⟩:=r1.two
 obtain ⟨p,up,rfl,hp,rp⟩:=q1.sqT
 obtain ⟨q,uq,rfl,hq,rq⟩:=q2.sqT
 obtain rfl:=rp.ofInts
 exact⟨a,p,q,uq,rfl,h,hp,hq,qM rq⟩
theorem U9 {M:Addr->Prop}{H:Hp}:∀ {bs:List Addr}{ls:List (Int × Int)} (off:Nat),(∀ b ∈ bs,M b)->(∀ (k:Nat) b,bs[k]? = some b->H b=some (.lst ((bW ls ((off+k:Nat):Int)).map V.int)))->Reps K M H (bs.map V.ref) ((List.range' off bs.length).map fun (k:Nat)=>PV.lst (intz (bW ls k)))
 | [],_,_,_,_=>.nil
 | b :: bs,ls,off,hm,h=>by
  refine .cons (.lst (hm b bg7) (h 0 b rfl) (Reps.intz _)) (U9 (off+1) (fun c hc=>hm c (bh5 _ hc)) fun k c hk=>?_)
  have:=h (k+1) c (by rw [bj8]; exact hk)
  rw [show off+1+k=off+(k+1) by omega]; exact this
theorem aK2 (F:cT P w K mg base cZ k f fd ["web"] U8) (b:gQ K fd ["web"] []) (kp:PySem.W.keepIn K (.ref f)=true) (m:mg "near_lists" = some (.ref f)):Df P w K mg base k "near_lists" ["web"] Core.kY:=by
 refine⟨f,fd,F.imp fun vs H Q E h=>?_,b,kp,m⟩
 obtain ⟨xs,Qp,r,⟨ws,ls,rfl,wb,q⟩,k⟩:=h
 obtain ⟨v,rfl,r1⟩:=r.one
 have:=wb.few
 have:=wb.most
 refine⟨v,ws,ls,rfl,aK1 r1,by omega,by omega,wb.links,fun t bs H' hb R=>k _ H' _ R.same (.lst R.new R.row ?_) q⟩
 have:=U9 (K:=K) (M:=fun a=>H a=none) (H:=H') (bs:=bs) (ls:=ls) 0 (fun b hb=>(R.news b hb).1) fun k b hk=>by rw [Nat.zero_add]; exact R.rows k b hk
 rw [hb,<- List.range_eq_range'] at this
 exact this
end
end PP
namespace Core
open PySem L2 PP
theorem aK3 (n:Nat):fB 0 n=intz (rng n):=by
 unfold fB rng
 show _=List.map PV.int (List.map (fun (i:Nat)=>(i:Int)) (List.range n))
 rw [bq4]
 refine List.map_congr_left fun i _=>?_
 show PV.int (0+(i:Int))=PV.int (i:Int)
 rw [Int.zero_add]
theorem V0 (n:Nat):(rng n).Nodup:=by
 unfold rng
 rw [List.nodup_iff_pairwise_ne,bq0]
 exact (List.nodup_range (n:=n)).imp fun h e=>h (by omega)
def two (l:Int × Int):List Int:=[l.1,l.2]
def oZ (r:List Int):Int × Int:=(r.getD 0 0,r.getD 1 0)
theorem V1 (ls:List (Int × Int)):k7 ls=(ls.map two).map fun r=>PV.tup (intz r):=by
 unfold k7
 rw [bq4]; rfl
theorem aK4 {zs:List (List Int)}{ls:List (Int × Int)} (h:zs.Perm (ls.map two)):∃ ls':List (Int × Int),zs=ls'.map two/\ls'.Perm ls:=by
 refine⟨zs.map oZ,?_,?_⟩
 ·rw [bq4]
  have:∀ z ∈ zs,(two ∘ oZ) z=z:=fun z hz=>by
   obtain ⟨l,_,rfl⟩:=bm8.mp (h.mem_iff.mp hz)
   rfl
  rw [List.map_congr_left this,List.map_id']
 ·have:=h.map oZ
  rw [bq4] at this
  have e:ls.map (oZ ∘ two)=ls:=by
   have:∀ l ∈ ls,(oZ ∘ two) l=id l:=fun l _=>rfl
   rw [List.map_congr_left this,List.map_id]
  rw [e] at this
  exact this
theorem aK5 {ls:List (Int × Int)} (so:(ls.map two).Pairwise fun u v=>HT.i8 v u=false) (nd:ls.Nodup):ls.Pairwise x6:=by
 rw [bq0] at so
 refine (List.pairwise_and_iff.mpr ⟨so,nd⟩).imp fun {a b} h=>?_
 obtain ⟨h1,h2⟩:=h
 unfold two at h1
 rw [HT.nT] at h1
 unfold x6
 by_cases e:b.1=a.1
 ·rw [if_pos e,HT.nT] at h1
  by_cases e2:b.2=a.2
  ·exact absurd (Prod.ext e.symm e2.symm) h2
  ·rw [if_neg e2] at h1
   have:=of_decide_eq_false h1
   omega
 ·rw [if_neg e] at h1
  have:=of_decide_eq_false h1
  omega
theorem aK6 (ws:List Int) (ls:List (Int × Int)):flats [.tup (intz ws),.tup (k7 ls)]=true:=S5 ws ls
def fG (l:Int × Int):List aA:=[Sum.inl l.1,Sum.inl l.2]
structure DL (n:Int) (ps:List (List aA × PV)) (i:Nat):Prop where
 key:∀ p ∈ ps,∃ l:Int × Int,p.1=fG l/\0<=l.1/\l.1 < l.2/\l.2 < n
 len:ps.length<=i
 fl:flats (ps.map (·.2))=true
 nd:(ps.map (·.1)).Nodup
theorem aK7 {κ:Type} [DecidableEq κ] {ps:List (κ × PV)} (k:κ) (v:PV) (h:(ps.map (·.1)).Nodup):((cL ps k v).map (·.1)).Nodup:=by
 unfold cL
 split
 ·rw [bq4]
  have:((fun x:κ × PV=>x.1) ∘ fun kv:κ × PV=>if kv.1=k then (kv.1,v) else kv)=fun x=>x.1:=by
   funext x
   show (if x.1=k then (x.1,v) else x).1=x.1
   split <;> rfl
  rw [this]; exact h
 ·rename_i hn
  rw [bl2]
  refine bt2.mpr ⟨h,bo7 _ _,fun x hx y hy e=>hn ?_⟩
  obtain ⟨p,hp,rfl⟩:=bm8.mp hx
  rw [bh6.mp hy] at e
  exact List.any_eq_true.mpr ⟨p,hp,bg3 e⟩
theorem aK8 {κ:Type} [DecidableEq κ] {ps:List (κ × PV)}{k:κ}{v:PV}{p:κ × PV} (h:p ∈ cL ps k v):p.1=k ∨ ∃ q ∈ ps,q.1=p.1:=by
 unfold cL at h
 split at h
 ·obtain ⟨q,hq,e⟩:=bm8.mp h
  split at e
  ·subst e; exact .inr ⟨q,hq,rfl⟩
  ·subst e; exact .inr ⟨q,hq,rfl⟩
 ·rcases bk1.mp h with h | h
  ·exact .inr ⟨p,h,rfl⟩
  ·rw [bh6.mp h]; exact .inl rfl
theorem DL.put {n:Int}{ps:List (List aA × PV)}{i:Nat} (h:DL n ps i) (l:Int × Int) (hl:0<=l.1/\l.1 < l.2/\l.2 < n):DL n (cL ps (fG l) (.bl true)) (i+1):=by
 refine⟨fun p hp=>?_,?_,x3 h.fl rfl,aK7 _ _ h.nd⟩
 ·rcases aK8 hp with e | ⟨q,hq,e⟩
  ·exact⟨l,e,hl⟩
  ·obtain ⟨l',e',h'⟩:=h.key q hq
   exact⟨l',e ▸ e',h'⟩
 ·have:=wZ ps (fG l) (.bl true)
  have:=h.len
  omega
theorem DL.links {n:Int}:∀ {ps:List (List aA × PV)},(∀ p ∈ ps,∃ l:Int × Int,p.1=fG l/\0<=l.1/\l.1 < l.2/\l.2 < n)->∃ ls:List (Int × Int),(ps.map fun p=>PV.tup (p.1.map kP))=k7 ls/\(∀ l ∈ ls,0<=l.1/\l.1 < l.2/\l.2 < n)/\ls.length=ps.length/\ps.map (·.1)=ls.map fG
 | [],_=>⟨[],rfl,(fun _ h=>nomatch h),rfl,rfl⟩
 | p :: ps,h=>by
  obtain ⟨l,e,hl⟩:=h p bg7
  obtain ⟨ls,h1,h2,h3,h4⟩:=DL.links (ps:=ps) fun q hq=>h q (bh5 _ hq)
  refine⟨l :: ls,?_,fun m hm=>?_,by rw [bj0,bj0,h3],by rw [bl7,bl7,h4,e]⟩
  ·rw [bl7,h1,e]; rfl
  ·rcases bg4.mp hm with rfl | hm
   ·exact hl
   ·exact h2 m hm
theorem aK9 {x:PV}{ns:List Int} (h:gK x ns):(Slot.sh (flat x) x).tag = .rd->flat x=true:=by
 cases flat x <;> intro z <;> cases z
theorem x9 (ns:List Int) {k:Int} (h:0<=k):iE (intz ns) (some k) none=intz (ns.drop k.toNat):=by
 unfold iE
 have e1:HT.aV (intz ns).length 0 (some k)=min k.toNat (intz ns).length:=by
  have:=HT.zP (intz ns).length 0 k.toNat
  rw [show ((k.toNat:Nat):Int)=k by omega] at this
  exact this
 have e2:HT.aV (intz ns).length (intz ns).length none=(intz ns).length:=rfl
 rw [e1,e2,b7]
 rw [bn8 (by rw [bn4,b7]; omega)]
 show _=List.map PV.int _
 rw [List.map_drop]
 by_cases hk:k.toNat<=ns.length
 ·rw [Nat.min_eq_left hk]
 ·rw [Nat.min_eq_right (by omega),List.drop_of_length_le (by rw [b7]; omega),List.drop_of_length_le (by rw [b7]; omega)]
structure p5 (i:Int) (ms:List Int):Prop where
 up:ms.Pairwise (· < ·)
 inn:∀ x ∈ ms,0<=x/\x < i
 len:(ms.length:Int)<=i
theorem p5.set {n:Nat}{ms:List Int} (h:p5 (n:Int) ms):aT n ms=true:=by
 unfold aT
 rw [wR h.up,Bool.true_and,bo6]
 intro b hb
 obtain ⟨x,hx,rfl⟩:=bm8.mp hb
 have:=h.inn x hx
 unfold inB
 simp [this]
theorem aL0:∀ {a b:List Int},a.Perm b->a.Pairwise (· <= ·)->b.Pairwise (· <= ·)->a=b:=by
 intro a b h ha hb
 exact h.eq_of_pairwise (fun x y _ _ h1 h2=>Int.le_antisymm h1 h2) ha hb
def V2:bC:=fun xs Q=>∃ ns:List Int,xs = [.scr ns]/\ns.length<=63/\Q (.bl true)
structure aL1 (K:PySem.W.Frag):Prop where
 ii:PySem.W.kitOne K (.type "int") (.type "int")=some true
 ib:PySem.W.kitOne K (.type "int") (.type "bool")=some false
 tt:PySem.W.kitOne K (.type "tuple") (.type "tuple")=some true
 ll:PySem.W.kitOne K (.type "list") (.type "list")=some true
 bb:PySem.W.kitOne K (.type "bool") (.type "bool")=some true
theorem sK (K:PySem.W.Frag):aL1 K:=by
 have same:∀ n:String,PySem.W.kitMeta n=true->True:=fun _ _=>trivial
 refine⟨?_,?_,?_,?_,?_⟩
 ·unfold PySem.W.kitOne; rw [if_pos (by decide)]
 ·have e:(if PySem.W.kitMeta "bool" = true then (fastBuiltinMro "int").map (·.contains (Value.type "bool")) else none)=some false:=by decide +kernel
  unfold PySem.W.kitOne
  rw [if_neg (by decide)]
  exact e
 ·unfold PySem.W.kitOne; rw [if_pos (by decide)]
 ·unfold PySem.W.kitOne; rw [if_pos (by decide)]
 ·unfold PySem.W.kitOne; rw [if_pos (by decide)]
end Core
namespace PP
open PySem L2 PyProof.Rows
theorem aL2 {P:Program}{w:World}{K:PySem.W.Frag}{mg:Str->Option Value}{base:Heap}{k:Nat}{x:Str}{ps N:List Str}{p:bC}{st:Stmt}{f:Addr}{fd:FuncData} (F:eC K x x st f fd) (S:FnScope N ps (aQ st))
  (len:∀ xs Q,p xs Q->xs.length=ps.length)
  (body:∀ (cdv:Value) (A:Around) (outer:List Env) (s:Shared) (H:Hp) (E:XK),bS k (A.deeper (envOfC x (aQ st) s.heap.objs.size f cdv))->
   ∃ t,eG (cW cZ P w K mg base N x (aQ st) f cdv A outer s H E).nox (dN st) t/\∀ xs Q,p xs Q->t { nx:=fun _=>Q .non,rt:=Q } (eF N xs)):cT P w K mg base cZ (k+1) f fd ps (oD K p):=by
 refine F.ok S (fun vs H Q E h=>?_) (fun cdv A outer s H vs Q E hr h=>?_)
 ·obtain ⟨xs,Qp,r,q,_⟩:=h
  rw [r.length]; exact len xs Qp q
 ·obtain ⟨xs,Qp,r,q,k⟩:=h
  obtain ⟨t,ht,hq⟩:=body cdv A outer s H E hr
  refine⟨_,ht,fun _=>False,eF N xs,_,rG r,hq xs Qp q,?_,?_,?_,?_⟩
  ·exact fun W' σ' H' ρ' e px q=>k _ _ _ px.same .non q
  ·exact fun v H' x s r q=>k _ _ _ s r q
  ·exact fun W' σ' H' ρ' e px q=>q
  ·exact fun W' σ' H' ρ' e px q=>q
def sL (K:PySem.W.Frag):Sp:=fun vs H Q _=>∃ (a:Addr) (ns:List Int),vs = [.ref a]/\iW K H a ns/\ns.length<=63/\∀ H',Q (.bl true) H'
theorem aL3 {P:Program}{w:World}{K:PySem.W.Frag}{mg:Str->Option Value}{base:Heap}{k:Nat}{f:Addr}{fd:FuncData} (F:cT P w K mg base cZ k f fd ["script"] (oD K Core.V2)):cT P w K mg base cZ k f fd ["script"] (sL K):=
 F.imp fun vs H Q E h=>by
  obtain ⟨a,ns,rfl,hs,hl,q⟩:=h
  refine⟨[.scr ns],fun z=>z = .bl true,.cons (.scr hs) .nil,⟨ns,rfl,hl,rfl⟩,?_⟩
  rintro v H' x _ r rfl
  cases r
  exact q H'
theorem aL4 {K:PySem.W.Frag}{H:Hp}{a:Addr}{ns:List Int} (hO:pW H) (h:aN K H a (ns.map V.int)):iW K H a ns:=by
 rcases h with (h | ⟨o,h⟩) | h
 ·rcases hO a with e | ⟨o,xs,e⟩ <;> (rw [h] at e; cases e)
 ·exact .inl ⟨o,h⟩
 ·exact .inr h
end PP
namespace PyProof.Rows
open PySem
end PyProof.Rows
namespace L2
open PySem PySem.Spec PyProof.Rows
def xA (K:PySem.W.Frag) (a:Addr):It:=
  ⟨fun i H=>∃ xs x,aN K H a xs/\xs[i]? = some x,
   fun i H v H'=>∃ T x,H T=none/\v = .ref T/\H'=upd H T (.tup [.int i,x])/\∀ xs,aN K H a xs->xs[i]? = some x,
   fun i H=>∃ xs,aN K H a xs/\xs.length<=i⟩
structure aL5 (e it a:Addr) (i:Nat) (h:Heap):Prop where
 ee:∃ old,IsEnum h e it i old
 s1:h.IsListIter it a i
theorem aL6 {P:Program}{w:World}{K:PySem.W.Frag}{elts:List Expr}{k:Nat}{pos:Pos} (a e it:Addr) (d:e ≠ it) :
  gO P w K (.Tuple elts k pos) (xA K a) [e,it] e (aL5 e it a):=by
 refine⟨by simp,fun i h st c hc=>?_,fun i h h' st kp=>?_,?_,?_,fun A i s Q E st q=>?_⟩
 ·simp only [bg4,bh3,bk7] at hc
  obtain ⟨old,ee⟩:=st.ee
  obtain ⟨o1,f1,g1,d1⟩:=st.s1
  rcases hc with rfl | rfl
  ·exact⟨_,ee,fun v q=>by cases q⟩
  ·exact⟨_,f1,fun v q=>by rw [d1] at q; cases q⟩
 ·obtain ⟨old,ee⟩:=st.ee
  exact⟨⟨old,kp e (by simp) _ ee⟩,st.s1.at fun o z=>kp it (by simp) o z⟩
 ·intro X hP hw hK hc i pins s σ H E I hf st hg
  subst hP hw hK
  obtain ⟨xs,x,ha,hx⟩:=hg
  obtain ⟨us,ru,pu,lu⟩:=I.list ha
  obtain ⟨ux,eux,rux⟩:=ru.get hx
  obtain ⟨old,ee⟩:=st.ee
  refine wpAny_pyNext_enum_item ee st.s1 pu.isList (by simpa using eux) d fun h' eo it' pr sz kp=>⟨_,rfl,?_⟩
  refine wpAny_letOwnedTupleGo_enum (s:={ s with heap:=h',toks:=s.toks+1 }) eo fun g zz sb=>?_
  have hzl:e < s.heap.objs.size:=bg8 ee
  have up:∀ c o,c ≠ e->c ≠ it->s.heap.get? c=some o->g.get? c=some o:=fun c o c1 c2 z=>sb.extBut c o c1 (kp c o c1 c2 z)
  have hT:H s.heap.objs.size=none:=I.hok.fresh (bg1 _)
  have prG:g.get? s.heap.objs.size=some { cls:=.type "tuple",data:=.seq #[.int i s.toks,ux] }:=sb.extBut _ _ (bm4 hzl) pr
  have fpn:∀ c u,H c=some u->c ∉ [e,it]:=fun c u z hm=>by rw [(hf c hm).1] at z; cases z
  have upH:∀ c o u,H c=some u->s.heap.get? c=some o->g.get? c=some o:=fun c o u q z=>by
   have:=fpn c u q
   simp only [bg4,bh3,bk7,not_or] at this
   exact up c o this.1 this.2 z
  have ns:∀ m,s.heap.Ns X.env.locals m->g.Ns X.env.locals m:=fun m hm=>by
   obtain ⟨o,es,ep,e1,e2⟩:=hm
   exact⟨o,es,ep,up _ o (Ne.symm (hf e (by simp)).2.1) (Ne.symm (hf it (by simp)).2.1) e1,e2⟩
  have I2:a7 X pins σ (upd H s.heap.objs.size (.tup [.int i,x])) { s with heap:=g,toks:=s.toks+1 }:=by
   refine I.step (g':=s.gens) (d':=s.drawn) (ch:=[e,it]) (fun c hc'=>?_) (fun c o _ _ hc' z _=>?_) (fun c o _ _ hc' z _=>⟨o.slots,?_⟩) (fun c o _ z n=>?_) (fun c o hc' z=>⟨o,?_⟩)
    (fun c zs z=>by rw [aH (cR z hT)]; exact z) (fun c u zs z=>by rw [aH (cR z hT)]; exact z) (fun c ps z=>⟨#[],by rw [aH (cR z hT),z]; simp⟩) ns (fun c u z=>?_) I.bare
   ·exact⟨(hf c hc').2.2.2.1,(hf c hc').2.1,(hf c hc').2.2.2.2.1,(hf c hc').2.2.2.2.2⟩
   ·simp only [bg4,bh3,bk7,not_or] at hc'
    exact up c o hc'.1 hc'.2 z
   ·simp only [bg4,bh3,bk7,not_or] at hc'
    exact up c o hc'.1 hc'.2 z
   ·rw [aH (bi6 (bg8 z))]; exact n
   ·simp only [bg4,bh3,bk7,not_or] at hc'
    exact up c o hc'.1 hc'.2 z
   ·by_cases hcT:c=s.heap.objs.size
    ·subst hcT
     rw [b8] at z; cases z
     exact⟨by show 2<=sizeLine; decide,[.int i s.toks,ux],.cons ⟨_,rfl⟩ (.cons rux .nil),⟨_,prG,rfl,_,rfl⟩⟩
    ·rw [aH hcT] at z
     refine (I.hok c u z).stay (fun c' o' hc2 q'=>?_) (fun c' q'=>by rw [aH (cR q' hT)]; exact q') fun c' zs q'=>by rw [aH (cR q' hT)]; exact q'
     rcases hc2 with rfl | hc2
     ·exact upH _ _ _ z q'
     ·exact upH _ _ _ hc2 q'
  refine⟨.ref s.heap.objs.size,_,I2,rfl,⟨_,x,hT,rfl,rfl,fun xs' ha'=>?_⟩,⟨⟨ux,by push_cast; exact zz⟩,it'.at fun o z=>sb.extBut _ o (Ne.symm d) z⟩,fun c hc'=>?_⟩
  ·rw [I.list_inj ha' ha]; exact hx
  ·obtain ⟨o,z⟩:∃ o,s.heap.get? c=some o:=by
    simp only [bg4,bh3,bk7] at hc'
    obtain ⟨o1,f1,_⟩:=st.s1
    rcases hc' with rfl | rfl
    ·exact⟨_,ee⟩
    ·exact⟨_,f1⟩
   rw [aH (bi6 (bg8 z))]; exact (hf c hc').1
 ·intro X hP hw hK hc i pins s σ H E I hf st hg
  subst hP hw hK
  obtain ⟨xs,ha,hi⟩:=hg
  obtain ⟨us,ru,pu,lu⟩:=I.list ha
  obtain ⟨old,ee⟩:=st.ee
  have hh:X.A.handled=none:=I.ok.hd hc
  have e1:=ru.length
  refine wpAny_pyNext_enum_end hh ee st.s1 pu.isList (by rw [br4]; simp only [bg0]; omega) fun g kp=>⟨rfl,?_⟩
  have fpn:∀ c u,H c=some u->c ∉ [e,it]:=fun c u z hm=>by rw [(hf c hm).1] at z; cases z
  have upH:∀ c o u,H c=some u->s.heap.get? c=some o->g.get? c=some o:=fun c o u q z=>by
   have:=fpn c u q
   simp only [bg4,bh3,bk7,not_or] at this
   exact kp c o this.2 z
  have ns:∀ m,s.heap.Ns X.env.locals m->g.Ns X.env.locals m:=fun m hm=>by
   obtain ⟨o,es,ep,e1,e2⟩:=hm
   exact⟨o,es,ep,kp _ o (Ne.symm (hf it (by simp)).2.1) e1,e2⟩
  refine I.step (g':=s.gens) (d':=s.drawn) (ch:=[it]) (fun c hc'=>?_) (fun c o _ _ hc' z _=>?_) (fun c o _ _ hc' z _=>⟨o.slots,?_⟩) (fun c o _ z n=>n) (fun c o hc' z=>⟨o,?_⟩)
   (fun c zs z=>z) (fun c u zs z=>z) (fun c ps z=>⟨#[],by rw [z]; simp⟩) ns (fun c u z=>?_) I.bare
  ·have hm:c ∈ [e,it]:=bh5 _ hc'
   exact⟨(hf c hm).2.2.2.1,(hf c hm).2.1,(hf c hm).2.2.2.2.1,(hf c hm).2.2.2.2.2⟩
  ·exact kp c o (fun y=>hc' (by rw [y]; simp)) z
  ·exact kp c o (fun y=>hc' (by rw [y]; simp)) z
  ·exact kp c o (fun y=>hc' (by rw [y]; simp)) z
  ·refine (I.hok c u z).stay (fun c' o' hc2 q'=>?_) (fun _ q'=>q') fun _ _ q'=>q'
   rcases hc2 with rfl | hc2
   ·exact upH _ _ _ z q'
   ·exact upH _ _ _ hc2 q'
 ·obtain ⟨old,ee⟩:=st.ee
  exact wpAny_pyIter_enum ee q
end L2
namespace Zp
open PySem PyProof.Rows
section
variable {prog : Program} {w : World} {A : Around} {E : Value → Shared → Prop} {s : Shared}
theorem aL7 {e it t:Addr}{i:Nat}{items:Array Value}{x old:Value}{Q:Option Value->Shared->Prop} (he:IsEnum s.heap e it i old) (hi:s.heap.IsTupleIter it t i) (ht:s.heap.IsTuple t items) (hx:items[i]? = some x) (ne:e ≠ it)
  (q:∀ h',IsEnumOut h' e it ((i:Int)+1) x s.heap.objs.size->h'.IsTupleIter it t (i+1)->h'.get? s.heap.objs.size=some { cls:=.type "tuple",data:=.seq #[.int i s.toks,x] }->h'.objs.size=s.heap.objs.size+1->
   (∀ b o,b ≠ e->b ≠ it->s.heap.get? b=some o->h'.get? b=some o)->Q (some (.ref s.heap.objs.size)) { s with heap:=h',toks:=s.toks+1 }):wpAny (model prog w) A (pyNext (.ref e)) Q E s:=by
 have T:s.TypeIs (.ref e) "enumerate":=⟨_,he,rfl⟩
 have slot:=PySem.F.slot_enumerate_next
 unfold pyNext
 apply bf5
 apply br0
 apply bj7 (name:=Str.ofString "__next__") T slot
 apply bj4 slot T PySem.F.entry_enumerate_next _ (PySem.F.args_enumerate_next_1 _)
 change wpAny _ _ (field (.ref e) 2 >>= _) _ _ _
 apply bf5
 refine bm9 he rfl (x:=.ref it) rfl ?_
 apply bf5
 refine E9 hi ht hx fun g1 it1 sb1=>?_
 have e1:IsEnum g1 e it i old:=sb1.extBut _ _ ne he
 change wpAny _ _ (field (.ref e) 3 >>= _) _ _ _
 apply bf5
 refine bm9 e1 rfl (x:=rawInt i) rfl ?_
 change wpAny _ _ (field (.ref e) 4 >>= _) _ _ _
 apply bf5
 refine bm9 e1 rfl (x:=.none) rfl ?_
 change wpAny _ _ (mkInt i >>= _) _ _ _
 apply bf5
 refine wpAny_mkInt ?_
 change wpAny _ _ (setField (.ref e) 3 (rawInt ((i:Int)+1)) >>= _) _ _ _
 apply bf5
 refine bn9 e1 (by simp) fun g2 e2 sb2=>?_
 apply bf5
 refine bn9 e2 (by simp) fun g3 e3 sb3=>?_
 have e3:IsEnum g3 e it ((i:Int)+1) old:=e3
 apply bf5
 refine wpAny_newTuple ?_ (by show 2<=sizeLine; decide)
 have e4:IsEnum (g3.push { cls:=.type "tuple",data:=.seq #[.int i s.toks,x] }) e it ((i:Int)+1) old:=bf7 _ e3
 have size:g3.objs.size=s.heap.objs.size:=by rw [sb3.1,sb2.1,sb1.1]
 change wpAny _ _ (Builtin.SmallTypes.ownedTupleIsFree (.ref e) >>= _) _ _ _
 apply bf5
 unfold Builtin.SmallTypes.ownedTupleIsFree
 apply bf5
 refine bm9 e4 rfl (x:=.none) rfl (bf8 ?_)
 simp only [if_true]
 apply bf5
 apply bs2
 apply bf5
 refine bm9 e4 rfl (x:=old) rfl ?_
 apply bf5
 refine bn9 e4 (by simp) fun g5 e5 sb5=>?_
 apply bf5
 unfold Builtin.SmallTypes.ownedTupleHandOut
 apply bf5
 refine bn9 e5 (by simp) fun g6 e6 sb6=>?_
 refine bn9 e6 (by simp) fun g7 e7 sb7=>?_
 have e7:IsEnumOut g7 e it ((i:Int)+1) x g3.objs.size:=e7
 have elt:e < g3.objs.size:=bg8 e3
 have up:∀ c o,c ≠ e->(g3.push { cls:=.type "tuple",data:=.seq #[.int i s.toks,x] }).get? c=some o->g7.get? c=some o:=fun c o c1 z=>sb7.extBut c o c1 (sb6.extBut c o c1 (sb5.extBut c o c1 z))
 have up3:∀ c o,c ≠ e->g1.get? c=some o->g7.get? c=some o:=fun c o c1 z=>up c o c1 (bf7 _ (sb3.extBut c o c1 (sb2.extBut c o c1 z)))
 have p7:g7.get? g3.objs.size=some { cls:=.type "tuple",data:=.seq #[.int i s.toks,x] }:=up _ _ (bm4 elt) (bg6 _ rfl)
 have s7:g7.objs.size=g3.objs.size+1:=by rw [sb7.1,sb6.1,sb5.1,bp3]
 apply bf5
 apply wpAny_letGo
 apply bf8
 rw [size] at e7 p7 s7
 refine⟨_,rfl,bf8 ?_⟩
 change Q (some (.ref g3.objs.size)) _
 rw [size]
 exact q g7 e7 (it1.at fun o z=>up3 it o (Ne.symm ne) z) p7 s7 fun b o b1 b2 z=>up3 b o b1 (sb1.extBut b o b2 z)
theorem aL8 {e it t:Addr}{i:Nat}{items:Array Value}{old:Value}{Q:Option Value->Shared->Prop} (hh:A.handled=none) (he:IsEnum s.heap e it i old) (hi:s.heap.IsTupleIter it t i) (ht:s.heap.IsTuple t items) (hx:items[i]? = none)
  (q:∀ h',Heap.ExtBut it s.heap h'->Q none { s with heap:=h' }):wpAny (model prog w) A (pyNext (.ref e)) Q E s:=by
 have T:s.TypeIs (.ref e) "enumerate":=⟨_,he,rfl⟩
 have slot:=PySem.F.slot_enumerate_next
 unfold pyNext
 apply bf5
 apply br0
 apply bj7 (name:=Str.ofString "__next__") T slot
 apply bj4 slot T PySem.F.entry_enumerate_next _ (PySem.F.args_enumerate_next_1 _)
 change wpAny _ _ (field (.ref e) 2 >>= _) _ _ _
 apply bf5
 refine bm9 he rfl (x:=.ref it) rfl ?_
 apply bf5
 refine F0 hh hi ht hx fun g2 ex eb exo=>?_
 obtain ⟨oe,eo,co⟩:=exo
 apply bf5
 refine bu0 (T:="StopIteration") (b:=true) ⟨oe,eo,co⟩ isSubtype_stop ?_
 exact bf8 (q g2 eb)
theorem aL9 {M:Model}{A:Around}{E:Value->Shared->Prop}{s:Shared}{α:Type}{c:Prop} [Decidable c] {m n:Sem α}{Q:α->Shared->Prop} (h1:wpAny M A m Q E s) (h2:wpAny M A n Q E s):wpAny M A (if c then m else n) Q E s:=by
 split
 ·exact h1
 ·exact h2
theorem aM0 (t:Addr) (xs:Array Value):Meets (Builtin.«enumerate.__new__» ⟨[.type "enumerate",.ref t],[]⟩) (fun _ R s=>s.heap.IsTuple t xs/\R (.ok (.ret (.ref (s.heap.objs.size+1)))) { s with heap:=(s.heap.push { cls:=.type "tuple_iterator",data:=.fields #[.ref t,.int 0 0] }).push { cls:=.type "enumerate",data:=.fields #[.none,.bool false,.ref s.heap.objs.size,rawInt 0,.none,.none] } }):=
 .of_wp fun prog w A R s h=>by
  obtain ⟨hp,g,d,tk,os⟩:=s
  obtain ⟨ht,h⟩:=h
  have sub:=sub_enumerate
  have a1:Heap.IsTuple (Shared.heap ⟨hp,g,d,tk,os⟩) t xs:=ht
  wp_walk using bs1 a1
  refine wpAny_stack_any fun st=>bf8 ?_
  refine aL9 ?_ ?_
  all_goals
   apply bf5
   refine wpAny_of_eq (a:=(Value.ref t,none)) rfl ?_
   wp_walk using bs1 a1
   have e:∀ (o:Obj) (k:Heap),(k.push o).objs.size=k.objs.size+1:=fun o k=>bp3 ..
   refine⟨_,rfl,?_⟩
   simp only [e] at h ⊢
   exact h
theorem aM1 {t:Addr}{xs:Array Value}{Q:Value->Shared->Prop} (ht:s.heap.IsTuple t xs)
  (q:∀ h',IsEnum h' (s.heap.objs.size+1) s.heap.objs.size 0 .none->h'.IsTupleIter s.heap.objs.size t 0->h'.objs.size=s.heap.objs.size+2->(∀ c o,s.heap.get? c=some o->h'.get? c=some o)->Q (.ref (s.heap.objs.size+1)) { s with heap:=h' }) :
  wpAny (model prog w) A (call (.type "enumerate") [.ref t]) Q E s:=by
 refine callType_new PySem.F.called_enumerate (by decide) (PySem.F.typeCall_enumerate_1 _) (PySem.F.newCall_enumerate_1 _) (fun obj=>PySem.F.args_object_init_2 obj _) PySem.F.entry_enumerate_new (aM0 t xs) ⟨ht,?_⟩
 have e:∀ (o:Obj) (k:Heap),(k.push o).objs.size=k.objs.size+1:=fun o k=>bp3 ..
 have g0:((s.heap.push { cls:=.type "tuple_iterator",data:=.fields #[.ref t,.int 0 0] }).push { cls:=.type "enumerate",data:=.fields #[.none,.bool false,.ref s.heap.objs.size,rawInt 0,.none,.none] }).get? s.heap.objs.size=some { cls:=.type "tuple_iterator",data:=.fields #[.ref t,.int 0 0] }:=bf7 _ (bg6 _ rfl)
 have g1:((s.heap.push { cls:=.type "tuple_iterator",data:=.fields #[.ref t,.int 0 0] }).push { cls:=.type "enumerate",data:=.fields #[.none,.bool false,.ref s.heap.objs.size,rawInt 0,.none,.none] }).get? (s.heap.objs.size+1)=some { cls:=.type "enumerate",data:=.fields #[.none,.bool false,.ref s.heap.objs.size,rawInt 0,.none,.none] }:=by
  have:=bg6 (h:=s.heap.push { cls:=.type "tuple_iterator",data:=.fields #[.ref t,.int 0 0] }) (o:={ cls:=.type "enumerate",data:=.fields #[.none,.bool false,.ref s.heap.objs.size,rawInt 0,.none,.none] }) rfl
  rw [e] at this; exact this
 exact⟨⟨_,g1,rfl⟩,q _ g1 ⟨_,g0,rfl,rfl⟩ (by rw [e,e]) fun c o z=>bf7 _ (bf7 _ z)⟩
end
end Zp
namespace L2
open PySem PySem.Spec PyProof.Rows
def xB (K:PySem.W.Frag) (a:Addr):It:=
  ⟨fun i H=>∃ xs x,aL K H a xs/\xs[i]? = some x,
   fun i H v H'=>∃ T x,H T=none/\v = .ref T/\H'=upd H T (.tup [.int i,x])/\∀ xs,aL K H a xs->xs[i]? = some x,
   fun i H=>∃ xs,aL K H a xs/\xs.length<=i⟩
structure aM2 (e it a:Addr) (i:Nat) (h:Heap):Prop where
 ee:∃ old,IsEnum h e it i old
 s1:h.IsTupleIter it a i
theorem aM3 {P:Program}{w:World}{K:PySem.W.Frag}{elts:List Expr}{k:Nat}{pos:Pos} (a e it:Addr) (d:e ≠ it) :
  gO P w K (.Tuple elts k pos) (xB K a) [e,it] e (aM2 e it a):=by
 refine⟨by simp,fun i h st c hc=>?_,fun i h h' st kp=>?_,?_,?_,fun A i s Q E st q=>?_⟩
 ·simp only [bg4,bh3,bk7] at hc
  obtain ⟨old,ee⟩:=st.ee
  obtain ⟨o1,f1,g1,d1⟩:=st.s1
  rcases hc with rfl | rfl
  ·exact⟨_,ee,fun v q=>by cases q⟩
  ·exact⟨_,f1,fun v q=>by rw [d1] at q; cases q⟩
 ·obtain ⟨old,ee⟩:=st.ee
  exact⟨⟨old,kp e (by simp) _ ee⟩,st.s1.at fun o z=>kp it (by simp) o z⟩
 ·intro X hP hw hK hc i pins s σ H E I hf st hg
  subst hP hw hK
  obtain ⟨xs,x,ha,hx⟩:=hg
  obtain ⟨us,ru,pu,lu⟩:=I.tuple ha
  obtain ⟨ux,eux,rux⟩:=ru.get hx
  obtain ⟨old,ee⟩:=st.ee
  refine Zp.aL7 ee st.s1 pu (by simpa using eux) d fun h' eo it' pr sz kp=>⟨_,rfl,?_⟩
  refine wpAny_letOwnedTupleGo_enum (s:={ s with heap:=h',toks:=s.toks+1 }) eo fun g zz sb=>?_
  have hzl:e < s.heap.objs.size:=bg8 ee
  have up:∀ c o,c ≠ e->c ≠ it->s.heap.get? c=some o->g.get? c=some o:=fun c o c1 c2 z=>sb.extBut c o c1 (kp c o c1 c2 z)
  have hT:H s.heap.objs.size=none:=I.hok.fresh (bg1 _)
  have prG:g.get? s.heap.objs.size=some { cls:=.type "tuple",data:=.seq #[.int i s.toks,ux] }:=sb.extBut _ _ (bm4 hzl) pr
  have fpn:∀ c u,H c=some u->c ∉ [e,it]:=fun c u z hm=>by rw [(hf c hm).1] at z; cases z
  have upH:∀ c o u,H c=some u->s.heap.get? c=some o->g.get? c=some o:=fun c o u q z=>by
   have:=fpn c u q
   simp only [bg4,bh3,bk7,not_or] at this
   exact up c o this.1 this.2 z
  have ns:∀ m,s.heap.Ns X.env.locals m->g.Ns X.env.locals m:=fun m hm=>by
   obtain ⟨o,es,ep,e1,e2⟩:=hm
   exact⟨o,es,ep,up _ o (Ne.symm (hf e (by simp)).2.1) (Ne.symm (hf it (by simp)).2.1) e1,e2⟩
  have I2:a7 X pins σ (upd H s.heap.objs.size (.tup [.int i,x])) { s with heap:=g,toks:=s.toks+1 }:=by
   refine I.step (g':=s.gens) (d':=s.drawn) (ch:=[e,it]) (fun c hc'=>?_) (fun c o _ _ hc' z _=>?_) (fun c o _ _ hc' z _=>⟨o.slots,?_⟩) (fun c o _ z n=>?_) (fun c o hc' z=>⟨o,?_⟩)
    (fun c zs z=>by rw [aH (cR z hT)]; exact z) (fun c u zs z=>by rw [aH (cR z hT)]; exact z) (fun c ps z=>⟨#[],by rw [aH (cR z hT),z]; simp⟩) ns (fun c u z=>?_) I.bare
   ·exact⟨(hf c hc').2.2.2.1,(hf c hc').2.1,(hf c hc').2.2.2.2.1,(hf c hc').2.2.2.2.2⟩
   ·simp only [bg4,bh3,bk7,not_or] at hc'
    exact up c o hc'.1 hc'.2 z
   ·simp only [bg4,bh3,bk7,not_or] at hc'
    exact up c o hc'.1 hc'.2 z
   ·rw [aH (bi6 (bg8 z))]; exact n
   ·simp only [bg4,bh3,bk7,not_or] at hc'
    exact up c o hc'.1 hc'.2 z
   ·by_cases hcT:c=s.heap.objs.size
    ·subst hcT
     rw [b8] at z; cases z
     exact⟨by show 2<=sizeLine; decide,[.int i s.toks,ux],.cons ⟨_,rfl⟩ (.cons rux .nil),⟨_,prG,rfl,_,rfl⟩⟩
    ·rw [aH hcT] at z
     refine (I.hok c u z).stay (fun c' o' hc2 q'=>?_) (fun c' q'=>by rw [aH (cR q' hT)]; exact q') fun c' zs q'=>by rw [aH (cR q' hT)]; exact q'
     rcases hc2 with rfl | hc2
     ·exact upH _ _ _ z q'
     ·exact upH _ _ _ hc2 q'
  refine⟨.ref s.heap.objs.size,_,I2,rfl,⟨_,x,hT,rfl,rfl,fun xs' ha'=>?_⟩,⟨⟨ux,by push_cast; exact zz⟩,it'.at fun o z=>sb.extBut _ o (Ne.symm d) z⟩,fun c hc'=>?_⟩
  ·rw [I.tuple_inj ha' ha]; exact hx
  ·obtain ⟨o,z⟩:∃ o,s.heap.get? c=some o:=by
    simp only [bg4,bh3,bk7] at hc'
    obtain ⟨o1,f1,_⟩:=st.s1
    rcases hc' with rfl | rfl
    ·exact⟨_,ee⟩
    ·exact⟨_,f1⟩
   rw [aH (bi6 (bg8 z))]; exact (hf c hc').1
 ·intro X hP hw hK hc i pins s σ H E I hf st hg
  subst hP hw hK
  obtain ⟨xs,ha,hi⟩:=hg
  obtain ⟨us,ru,pu,lu⟩:=I.tuple ha
  obtain ⟨old,ee⟩:=st.ee
  have hh:X.A.handled=none:=I.ok.hd hc
  have e1:=ru.length
  refine Zp.aL8 hh ee st.s1 pu (by rw [br4]; simp only [bg0]; omega) fun g kp=>⟨rfl,?_⟩
  have fpn:∀ c u,H c=some u->c ∉ [e,it]:=fun c u z hm=>by rw [(hf c hm).1] at z; cases z
  have upH:∀ c o u,H c=some u->s.heap.get? c=some o->g.get? c=some o:=fun c o u q z=>by
   have:=fpn c u q
   simp only [bg4,bh3,bk7,not_or] at this
   exact kp c o this.2 z
  have ns:∀ m,s.heap.Ns X.env.locals m->g.Ns X.env.locals m:=fun m hm=>by
   obtain ⟨o,es,ep,e1,e2⟩:=hm
   exact⟨o,es,ep,kp _ o (Ne.symm (hf it (by simp)).2.1) e1,e2⟩
  refine I.step (g':=s.gens) (d':=s.drawn) (ch:=[it]) (fun c hc'=>?_) (fun c o _ _ hc' z _=>?_) (fun c o _ _ hc' z _=>⟨o.slots,?_⟩) (fun c o _ z n=>n) (fun c o hc' z=>⟨o,?_⟩)
   (fun c zs z=>z) (fun c u zs z=>z) (fun c ps z=>⟨#[],by rw [z]; simp⟩) ns (fun c u z=>?_) I.bare
  ·have hm:c ∈ [e,it]:=bh5 _ hc'
   exact⟨(hf c hm).2.2.2.1,(hf c hm).2.1,(hf c hm).2.2.2.2.1,(hf c hm).2.2.2.2.2⟩
  ·exact kp c o (fun y=>hc' (by rw [y]; simp)) z
  ·exact kp c o (fun y=>hc' (by rw [y]; simp)) z
  ·exact kp c o (fun y=>hc' (by rw [y]; simp)) z
  ·refine (I.hok c u z).stay (fun c' o' hc2 q'=>?_) (fun _ q'=>q') fun _ _ q'=>q'
   rcases hc2 with rfl | hc2
   ·exact upH _ _ _ z q'
   ·exact upH _ _ _ hc2 q'
 ·obtain ⟨old,ee⟩:=st.ee
  exact wpAny_pyIter_enum ee q
section
variable {X : Cx}
def V3 (K:PySem.W.Frag) (ta:TA):TI:=fun σ H R=>ta σ H fun vs H1=>∃ a,vs = [.ref a]/\((∃ xs,aN K H1 a xs/\R (xA K a) H1) ∨ (∃ xs,aL K H1 a xs/\R (xB K a) H1))
theorem aM4 {elts:List Expr}{kt:Nat}{pt:Pos}{a:Expr}{ta:TA}{p pos:Pos} (hg:Gl X "enumerate") (hm:X.mg "enumerate" = none) (ha:PA X [a] ta) (hs:starEach [a] X.env = [(false,eval a X.env)]:=by rfl) :
  PI X (.Tuple elts kt pt) (.Call (.Name "enumerate" p) [a] [] pos) (V3 X.K ta):=by
 intro pins s σ H R I h
 refine Call_ (iN I hg hm PyProof.Rows.boot_enumerate (bo0 (aJ (ha pos pins s σ H _ I h) fun us s1 ⟨vs,H1,I1,r1,q1⟩=>?_) (by rw [hs]; rfl) (by rfl)))
 obtain ⟨a',e,q⟩:=q1
 subst e
 have fresh:∀ k,H1 (s1.heap.objs.size+k)=none:=fun k=>I1.hok.fresh (bn7 _ _)
 cases r1 with
 | cons r rr=>
  cases rr
  cases r
  rcases q with ⟨xs,h1,q⟩ | ⟨xs,h1,q⟩
  ·obtain ⟨us,_,p1,_⟩:=I1.list h1
   refine call_enumerate_list p1.isList fun h' z s1' sz kp=>wpAny_pyIter_enum z ?_
   refine⟨s1.heap.objs.size+1,[s1.heap.objs.size+1,s1.heap.objs.size],_,_,H1,rfl,I1.kept (t':=s1.toks) kp,
    aL6 a' _ _ (Nat.succ_ne_self _),⟨⟨_,z⟩,s1'⟩,fun c hc=>?_,q⟩
   simp only [bg4,bh3,bk7] at hc
   rcases hc with rfl | rfl
   ·exact I1.fpOk (bn7 _ _) (fresh 1)
   ·exact I1.fpOk (bg1 _) (fresh 0)
  ·obtain ⟨us,_,p1,_⟩:=I1.tuple h1
   refine Zp.aM1 p1 fun h' z s1' sz kp=>wpAny_pyIter_enum z ?_
   refine⟨s1.heap.objs.size+1,[s1.heap.objs.size+1,s1.heap.objs.size],_,_,H1,rfl,I1.kept (t':=s1.toks) kp,
    aM3 a' _ _ (Nat.succ_ne_self _),⟨⟨_,z⟩,s1'⟩,fun c hc=>?_,q⟩
   simp only [bg4,bh3,bk7] at hc
   rcases hc with rfl | rfl
   ·exact I1.fpOk (bn7 _ _) (fresh 1)
   ·exact I1.fpOk (bg1 _) (fresh 0)
end
end L2
namespace PP
open PySem L2 PyProof.Rows
def jB (xs:List PV):List PV:=xs.mapIdx fun i x=>PV.tup [.int (i:Int),x]
theorem xC (xs:List PV):(jB xs).length=xs.length:=by unfold jB; rw [List.length_mapIdx]
theorem V4 {xs:List PV}{i:Nat}{x:PV} (h:xs[i]? = some x):(jB xs)[i]? = some (.tup [.int (i:Int),x]):=by
 unfold jB; rw [List.getElem?_mapIdx,h]; rfl
theorem aM5 {xs:List PV}{i:Nat}{z:PV} (h:(jB xs)[i]? = some z):∃ x,xs[i]? = some x/\z = .tup [.int (i:Int),x]:=by
 unfold jB at h
 rw [List.getElem?_mapIdx] at h
 cases e:xs[i]? with
 | none=>rw [e] at h; cases h
 | some x=>rw [e] at h; exact⟨x,rfl,(bi5 h).symm⟩
def xD (te:aE):eD:=fun ρ Q=>te ρ fun x g=>∃ xs,(x = .lst xs ∨ x = .tup xs)/\(g = .rd->flat x=true)/\Q (jB xs) (qX g xs)
theorem aM6 {K:PySem.W.Frag}{H0:Hp}{W:Addr->Prop}{g:Bool}{H1:Hp}{a:Addr}{us:List V}{xs:List PV} (tw:∀ a,W a->∃ o,H1 a=some o/\fZ o=true) (ha:∀ W' H',Ev W H1 W' H'->aN K H' a us) (r:Reps K (Ms H0 W g) H1 us xs):lW K H0 W g H1 (xA K a) (jB xs):=by
 have lr:=r.length
 have ll:=xC xs
 refine⟨fun W' H' i e hi=>⟨us,us[i]'(by omega),ha W' H' e,by simp⟩,fun W' H' i v H2 e y hi=>?_,fun W' H' e=>⟨us,ha W' H' e,by omega⟩⟩
 obtain ⟨T,x,hT,rfl,rfl,y⟩:=y
 obtain ⟨z,hz,rz⟩:=r.get (y us (ha W' _ e))
 have sm:=bE hT (HO.tup [.int (i:Int),x])
 exact⟨sm,_,V4 hz,.tup b8 (.cons (.int _) (.cons ((rz.keep (e.keep tw)).same sm fun _ q=>q) .nil))⟩
theorem aM7 {K:PySem.W.Frag}{H0:Hp}{W:Addr->Prop}{g:Bool}{H1:Hp}{a:Addr}{us:List V}{xs:List PV} (tw:∀ a,W a->∃ o,H1 a=some o/\fZ o=true) (ha:∀ W' H',Ev W H1 W' H'->aL K H' a us) (r:Reps K (Ms H0 W g) H1 us xs):lW K H0 W g H1 (xB K a) (jB xs):=by
 have lr:=r.length
 have ll:=xC xs
 refine⟨fun W' H' i e hi=>⟨us,us[i]'(by omega),ha W' H' e,by simp⟩,fun W' H' i v H2 e y hi=>?_,fun W' H' e=>⟨us,ha W' H' e,by omega⟩⟩
 obtain ⟨T,x,hT,rfl,rfl,y⟩:=y
 obtain ⟨z,hz,rz⟩:=r.get (y us (ha W' _ e))
 have sm:=bE hT (HO.tup [.int (i:Int),x])
 exact⟨sm,_,V4 hz,.tup b8 (.cons (.int _) (.cons ((rz.keep (e.keep tw)).same sm fun _ q=>q) .nil))⟩
section
variable {X : Cx} {σ : L2.St} {H : Hp} {te : aE} {R : It → Hp → Prop}
theorem aM8 (h:LI X (xD te) σ H R):V3 X.K (iP (LE X te) kC) σ H R:=by
 obtain ⟨W,ρ,Q,px,q,k⟩:=h
 refine⟨W,ρ,_,px,q,?_⟩
 rintro v H1 x g s r ⟨xs,hx,hg,q⟩
 have px1:=px.mono s
 have tw:∀ a,W a->∃ o,H1 a=some o/\fZ o=true:=fun a z=>(px1.wm a z).2
 rcases hx with rfl | rfl
 ·obtain ⟨a,us,rfl,m,h,r⟩:=r.sqL
  have wa : ¬ W a:=by
   cases g with
   | fr=>exact (px.new m).1
   | nw=>exact m.1
   | sh=>exact m
   | rd=>have:=hg rfl; unfold flat at this; cases this
  exact⟨a,rfl,.inl ⟨us,aN.of h,k _ _ _ _ s (aM6 tw (fun W' H' e=>aN.of (e _ _ h wa).1) (lX px (fun z=>by have:=hg z; unfold flat at this; cases this) r)) q⟩⟩
 ·obtain ⟨a,us,rfl,h,r⟩:=r.sqT
  refine⟨a,rfl,.inr ⟨us,aL.of h,k _ _ _ _ s (aM7 tw (fun W' H' e=>aL.of (e _ _ h fun z=>?_).1) (lX px (fun z=>by have:=hg z; unfold flat at this; exact this) r)) q⟩⟩
  obtain ⟨o,h',mu⟩:=tw _ z; rw [h] at h'; cases h'; cases mu
theorem aM9 {elts:List Expr}{kt:Nat}{pt p2 pos:Pos}{a:Expr}{ta:aE} (hg:Gl X "enumerate") (hm:X.mg "enumerate" = none) (ha:QE X a ta) (hs:starEach [a] X.env = [(false,eval a X.env)]:=by rfl):QI X (.Tuple elts kt pt) (.Call (.Name "enumerate" p2) [a] [] pos) (xD ta):=
 rA (aM4 hg hm (cV ha dM hs) hs) fun _ _ _=>aM8
end
section
variable {X : Cx} {e : Expr} {te : aE} {pos p2 : Pos} {scope : Scope} {N : List Str} {fr : List (Option Nat)} {x y : Str} {tp xp yp : Pos} {kt : Nat} {iter elt : Expr} {ti : eD}
abbrev xE (x y:Str) (xp yp:Pos) (kt:Nat) (tp:Pos):Expr:=.Tuple [.Name x xp,.Name y yp] kt tp
theorem aN0 {ifs:List Expr}{tcs:bT} (hc:X.calm=true) (he:∀ (s:Shared) (H:Hp) (C:Addr) (fp:List Addr),QE (bD X scope N s H C fp bV) elt te) (hi:∀ (s:Shared) (H:Hp) (C:Addr) (fp:List Addr),iT (bD X scope N s H C fp bV) ifs (LT (bD X scope N s H C fp bV) tcs))
  (hN:N.Nodup) (h0:N[0]? = some x) (h1:N[1]? = some y) (hl:∀ (s:Shared) (H:Hp) (C:Addr) (fp:List Addr),(bD X scope N s H C fp bV).env.scope.names.lookup x=some .local) (hl2:∀ (s:Shared) (H:Hp) (C:Addr) (fp:List Addr),(bD X scope N s H C fp bV).env.scope.names.lookup y=some .local) (s:Shared) (H:Hp) :
  kG X scope N (xE x y xp yp kt tp) ifs elt s H (jG X.K 2 (eO (cF 0) (eO (cF 1) jF))) (LT (X.frm H) tcs) (LE (X.frm H) te):=
 ⟨fun C fp=>lH (X:=bD X scope N s H C fp bV) hc (fT (eB hN h0 (.inl (hl s H C fp)) (.inr (hl s H C fp))) (fT (eB hN h1 (.inl (hl2 s H C fp)) (.inr (hl2 s H C fp))) lG)),fun C fp=>hi s H C fp,fun C fp=>he s H C fp⟩
theorem aN1 {c:Expr}{tcs:bT} (hi:QI X (xE x y xp yp kt tp) iter ti) (ht:∀ (s:Shared) (H:Hp) (C:Addr) (fp:List Addr),QT (bD X scope N s H C fp bV) c tcs) (he:∀ (s:Shared) (H:Hp) (C:Addr) (fp:List Addr),QE (bD X scope N s H C fp bV) elt te)
  (hc:X.calm=true:=by rfl) (S:cO X scope N fr:=by exact cO.of rfl rfl) (hN:N.Nodup:=by decide +kernel) (h0:N[0]? = some x:=by rfl) (h1:N[1]? = some y:=by rfl) (hl:∀ (s:Shared) (H:Hp) (C:Addr) (fp:List Addr),(bD X scope N s H C fp bV).env.scope.names.lookup x=some .local:=by intro _ _ _ _; rfl) (hl2:∀ (s:Shared) (H:Hp) (C:Addr) (fp:List Addr),(bD X scope N s H C fp bV).env.scope.names.lookup y=some .local:=by intro _ _ _ _; rfl) (hf:fr[0]? = some none:=by rfl) (hf2:fr[1]? = some none:=by rfl)
  (hs:∀ x,foldedSetIterable iter X.env x=pure x:=by intro _; rfl):QE X (.ListComp elt [⟨xE x y xp yp kt tp,iter,[c],0⟩] scope pos) (cP ti fr (oF 0 1) tcs te):=
 bQ (qH (gh:=fun _=>jG X.K 2 (eO (cF 0) (eO (cF 1) jF))) (tch:=fun H=>LT (X.frm H) tcs) (teh:=fun H=>LE (X.frm H) te) hc S hi (aN0 hc he (fun s H C fp=>uV (ht s H C fp)) hN h0 h1 hl hl2) hs) fun _ _ _=>oG (J6 _ 0 1) (fun i e=>by rcases e with e | e <;> (subst e; assumption))
end
end PP
namespace Core
open PySem L2 PP
section
variable (ws : List Int) (ls : List (Int × Int)) (os ns : List Int)
def fN:Nat->List Int
 | 0=>[]
 | k+1=>fN k ++ (os.find? (kin ws ls (ns ++ fN k))).toList
def p6 (k:Nat):Option Int:=os.find? (kin ws ls (ns ++ fN ws ls os ns k))
end
section
variable {ws : List Int} {ls : List (Int × Int)} {os ns : List Int}
theorem aN2 {k:Nat}{h:Int} (e:p6 ws ls os ns k=some h):fN ws ls os ns (k+1)=fN ws ls os ns k ++ [h]:=by
 show fN ws ls os ns k ++ (p6 ws ls os ns k).toList=_
 rw [e]; rfl
theorem aN3 {k:Nat}{h:Int} (e:p6 ws ls os ns k=some h):h ∈ os/\h ∉ ns ++ fN ws ls os ns k:=
 ⟨List.mem_of_find?_eq_some e,of_decide_eq_false (wT (List.find?_some e))⟩
theorem aN4 (po:os.Perm (rng ws.length)) (hs:aT ws.length ns=true):∀ k,(ns ++ fN ws ls os ns k).Nodup/\∀ x ∈ ns ++ fN ws ls os ns k,x ∈ rng ws.length
 | 0=>by
  rw [show fN ws ls os ns 0 = [] from rfl,bi9]
  exact⟨(gI (dG hs).1).imp fun h=>Int.ne_of_lt h,fun x hx=>mP.mpr ((dG hs).2 x hx)⟩
 | k+1=>by
  obtain ⟨i1,i2⟩:=aN4 po hs k
  cases e:p6 ws ls os ns k with
  | none=>
   have:fN ws ls os ns (k+1)=fN ws ls os ns k:=by
    show fN ws ls os ns k ++ (p6 ws ls os ns k).toList=_
    rw [e]; exact bi9 _
   rw [this]; exact⟨i1,i2⟩
  | some h=>
   obtain ⟨n1,n2⟩:=aN3 e
   rw [aN2 e,<- bi4]
   refine⟨bt2.mpr ⟨i1,bo7 _ _,fun x hx y hy=>?_⟩,fun x hx=>?_⟩
   ·rw [bh6.mp hy]; intro z; subst z; exact n2 hx
   ·rcases bk1.mp hx with hx | hx
    ·exact i2 x hx
    ·rw [bh6.mp hx]; exact po.mem_iff.mp n1
theorem V5 (hs:aT ws.length ns=true):∀ k,(aY ws ls ns k).Nodup
 | 0=>(gI (dG hs).1).imp fun h=>Int.ne_of_lt h
 | k+1=>by
  show (aY ws ls ns k ++ nextOf ws ls (aY ws ls ns k)).Nodup
  refine bt2.mpr ⟨V5 hs k,(V0 ws.length).filter _,fun x hx y hy=>?_⟩
  intro z; subst z
  exact of_decide_eq_false (wT (bn2.mp hy).2) hx
end
theorem sM {i:Nat}{h:Int}{g:Bool}{ρ:bG}{Q:bG->Prop} (q:Q (ρ.set i (some (.sh true (.int h))))):bI i (.int h) g ρ Q:=by
 show Q (ρ.set i (some (.sh (g || true) (.int h))))
 rw [Bool.or_true]; exact q
def hV (ns S:List Int):Int:=(ns.length:Int) - (((ns.filter fun x=>decide (x ∈ S)).length:Nat):Int)
def sN:bC:=fun xs Q=>∃ x ns ps S,xs = [x,.dK ps]/\cQ x ns/\DS ps S/\ns.length<=10000/\Q (.int (hV ns S))
def V6:aK:=(aZ (m7 (aC dD (a6 (a5 0) a9)) (aC jY (a6 (a5 0) (a6 (a5 1) a9)))))
theorem aN5:cN V6 ["hearths","inside"] sN:=by
 rintro xs Q ⟨x,ns,ps,S,rfl,hx,d,hl,q⟩
 exact⟨_,rfl,_,_,rfl,hx.len,_,rfl,_,rfl,x,ns,ps,S,rfl,hx,d,hl,_,_,rfl,rfl,trivial,q⟩
def mR:bC:=fun xs Q=>∃ x ns y ms,xs = [x,y]/\cQ x ns/\cQ y ms/\ns.length<=10000/\ms.length<=1000/\Q (.tup (intz (ns.filter fun z=>!decide (z ∈ ms))))
def V7:aK:=(aP (b9 2 (aC hJ (a6 (a5 1) a9)))
 (aZ (aC dF (a6 (cP (dI (a5 0)) [none,some 2] (bI 0) (aR (j4 true (a5 0) (a5 1))) (a5 0)) a9))))
theorem aN6:cN V7 ["hearths","some","gone"] mR:=by
 rintro xs Q ⟨x,ns,y,ms,rfl,hx,hy,hl,hm,q⟩
 refine⟨_,rfl,y,ms,rfl,hy,hm,fun ps d=>⟨trivial,?_⟩⟩
 refine⟨_,rfl,_,hx.seq,mQ hx,by rw [b7]; omega,fun i acc=>acc=intz ((ns.take i).filter fun z=>!decide (z ∈ ms)),rfl,?_,?_⟩
 ·rintro i z acc hz rfl
  obtain ⟨n,rfl,hn⟩:=eL hz
  have tk:=jX (p:=fun z=>!decide (z ∈ ms)) hn
  refine⟨_,rfl,_,rfl,_,.inl ⟨ps,Sum.inl n,rfl,rfl,rfl⟩,_,rfl,?_⟩
  show if (!(bX ps (Sum.inl n:aA)).isSome)=true then _ else _
  rw [d.has n]
  by_cases h:n ∈ ms
  ·rw [bg3 h] at tk ⊢
   refine aO ?_
   show _=intz (List.filter _ (List.take (i+1) ns))
   rw [tk]; exact congrArg intz (bi9 _).symm
  ·rw [bg2 h] at tk ⊢
   refine aW ⟨_,rfl,trivial,?_⟩
   show _=intz (List.filter _ (List.take (i+1) ns))
   rw [tk,e8]; rfl
 ·rintro acc rfl
  rw [b7,bk9]
  exact⟨⟨_,_,rfl,rfl,cE _,trivial,q⟩,fun ns z=>by cases z⟩
def eY (ws:List Int) (ls:List (Int × Int)) (S:List Int) (h:Int):Bool:=decide (hV (bW ls h) S < ws.getD h.toNat 0)
def stay (ws:List Int) (ls:List (Int × Int)) (S:List Int):List Int:=S.filter (eY ws ls S)
theorem sO {n:Nat}{S:List Int} (h:aT n S=true) (p:Int->Bool):aT n (S.filter p)=true:=by
 obtain ⟨h1,h2⟩:=dG h
 have u:p5 (n:Int) (S.filter p):=⟨(gI h1).filter p,fun x hx=>h2 x (bn2.mp hx).1,by
  have:=gJ h
  have:=br9 p S
  omega⟩
 exact u.set
def l0:bC:=fun xs Q=>∃ ws ls x S,xs = [bJ ws ls,.lst (jZ ws.length ls),x]/\Wb ws ls/\cQ x S/\aT ws.length S=true/\Q (.tup (intz (stay ws ls S)))
def V8:aK:=(aP (b9 3 (aC hJ (a6 (a5 2) a9)))
 (aZ (aC dF (a6 (cP (dI (a5 2)) [none,some 3,some 1,some 0] (bI 0) (aR (r9 (aC sN (a6 (dQ (a5 2) (a5 0)) (a6 (a5 1) a9))) (dQ (dQ (a5 3) (qC (.int 0))) (a5 0)))) (a5 0)) a9))))
theorem aN7:cN V8 ["web","around","block","inside"] l0:=by
 rintro xs Q ⟨ws,ls,x,S,rfl,wb,hx,hs,q⟩
 have few:=wb.few
 have ln:=gJ hs
 have most:=wb.most
 refine⟨_,rfl,x,S,rfl,hx,by omega,fun ps d=>⟨trivial,?_⟩⟩
 refine⟨_,rfl,_,hx.seq,mQ hx,by rw [b7]; omega,fun i acc=>acc=intz ((S.take i).filter (eY ws ls S)),rfl,?_,?_⟩
 ·rintro i z acc hz rfl
  obtain ⟨h,rfl,hh⟩:=eL hz
  have hm:=(dG hs).2 h (bk6 hh)
  have nl:=o7 ls h
  have tk:=jX (p:=eY ws ls S) hh
  refine⟨_,rfl,_,rfl,_,_,_,rfl,rfl,T5 hm.1 hm.2,_,rfl,_,bW ls h,ps,S,rfl,.inr rfl,d,by omega,_,rfl,_,_,_,rfl,rfl,rfl,_,rfl,_,_,_,rfl,rfl,x4 hm.1 hm.2,_,_,rfl,rfl,_,rfl,?_⟩
  show if eY ws ls S h=true then _ else _
  cases hk:eY ws ls S h with
  | true=>
   rw [hk,if_pos rfl] at tk
   refine aW ⟨_,rfl,trivial,?_⟩
   show _=intz (List.filter _ (List.take (i+1) S))
   rw [tk,e8]; rfl
  | false=>
   rw [hk,if_neg (by decide),bi9] at tk
   refine aO ?_
   show _=intz (List.filter _ (List.take (i+1) S))
   rw [tk]
 ·rintro acc rfl
  rw [b7,bk9]
  exact⟨⟨_,_,rfl,rfl,cE _,trivial,q⟩,fun ns z=>by cases z⟩
def bO (ws:List Int) (ls:List (Int × Int)) (S:List Int):Nat->List Int
 | 0=>S
 | k+1=>stay ws ls (bO ws ls S k)
theorem p9 {ws:List Int}{ls:List (Int × Int)}{S:List Int} (hs:aT ws.length S=true):∀ k,aT ws.length (bO ws ls S k)=true
 | 0=>hs
 | k+1=>sO (p9 hs k) _
theorem V9 {S:List Int}{p:Int->Bool} (h:S.filter p ≠ S):(S.filter p).length < S.length:=by
 rcases bl3 (S.filter p).length S.length with z | z
 ·exact z
 ·exact absurd (List.filter_sublist.eq_of_length_le z) h
section
variable {ws : List Int} {ls : List (Int × Int)} {S T : List Int}
theorem aN8 {ns:List Int} (st:∀ x ∈ T,x ∈ S):hV ns S<=hV ns T:=by
 have h2:(ns.filter fun x=>decide (x ∈ T)).length<=(ns.filter fun x=>decide (x ∈ S)).length:=by
  rw [<- List.countP_eq_length_filter,<- List.countP_eq_length_filter]
  exact List.countP_mono_left fun x _ hx=>bg3 (st x (bq1 hx))
 unfold hV; omega
theorem W0 {h:Int} (st:∀ x ∈ T,x ∈ S) (hs:eY ws ls T h=true):eY ws ls S h=true:=by
 unfold eY at hs ⊢
 have h1:=bq1 hs
 have h2:=aN8 (ns:=bW ls h) st
 exact bg3 (by omega)
theorem aN9 (hT:stay ws ls T=T) (st:∀ x ∈ T,x ∈ S):∀ x ∈ T,x ∈ stay ws ls S:=fun x hx=>
 bn2.mpr ⟨st x hx,W0 st (bn2.mp (show x ∈ stay ws ls T by rw [hT]; exact hx)).2⟩
theorem W5 (hT:stay ws ls T=T) (st:∀ x ∈ T,x ∈ S):∀ k,∀ x ∈ T,x ∈ bO ws ls S k
 | 0=>st
 | k+1=>aN9 hT (W5 hT st k)
theorem W6:∀ k,∀ x ∈ bO ws ls S k,x ∈ S
 | 0,x,hx=>hx
 | k+1,x,hx=>W6 k x (bn2.mp (show x ∈ stay ws ls (bO ws ls S k) from hx)).1
structure pA (ws:List Int) (ls:List (Int × Int)) (S G:List Int):Prop where
 cold:stay ws ls G=G
 sub:∀ x ∈ G,x ∈ S
 most:∀ U,stay ws ls U=U->(∀ x ∈ U,x ∈ S)->∀ x ∈ U,x ∈ G
theorem W7 {k:Nat} (h:stay ws ls (bO ws ls S k)=bO ws ls S k):pA ws ls S (bO ws ls S k):=⟨h,W6 k,fun U hU st=>W5 hU st k⟩
theorem W8 {n:Nat}{A B:List Int} (ha:aT n A=true) (hb:aT n B=true) (h:∀ x,x ∈ A ↔ x ∈ B):A=B:=by
 have ua:=gI (dG ha).1
 have ub:=gI (dG hb).1
 have p:A.Perm B:=(List.perm_ext_iff_of_nodup (ua.imp fun z=>Int.ne_of_lt z) (ub.imp fun z=>Int.ne_of_lt z)).mpr h
 exact aL0 p (ua.imp fun z=>Int.le_of_lt z) (ub.imp fun z=>Int.le_of_lt z)
theorem W9 {n:Nat}{A B:List Int} (ha:pA ws ls S A) (hb:pA ws ls S B) (na:aT n A=true) (nb:aT n B=true):A=B:=
 W8 na nb fun x=>⟨fun h=>hb.most A ha.cold ha.sub x h,fun h=>ha.most B hb.cold hb.sub x h⟩
theorem aO0 {S T:List Int}{h:Int} (hin:h ∉ S) (ht:∀ x,x ∈ bW ls h->(x ∈ T ↔ x ∉ S)):kin ws ls S h = !eY ws ls T h:=by
 have e:(((bW ls h).filter fun x=>decide (x ∈ S)).length:Int)=hV (bW ls h) T:=by
  unfold hV
  have:∀ L:List Int,(∀ x,x ∈ L->(x ∈ T ↔ x ∉ S))->(L.filter fun x=>decide (x ∈ S)).length+(L.filter fun x=>decide (x ∈ T)).length=L.length:=fun L hL=>by
   induction L with
   | nil=>rfl
   | cons a r ih=>
    have i:=ih fun x hx=>hL x (bh5 _ hx)
    have ha:=hL a bg7
    by_cases h1:a ∈ S
    ·have h2:a ∉ T:=fun z=>ha.mp z h1
     simp only [bu1,bg3 h1,bg2 h2,if_true,bi0,bm6,bj0]; omega
    ·have h2:a ∈ T:=ha.mpr h1
     simp only [bu1,bg3 h2,bg2 h1,if_true,bi0,bm6,bj0]; omega
  have:=this _ ht
  omega
 unfold kin eY
 rw [e,bg2 hin]
 simp only [Bool.not_false,Bool.true_and]
 by_cases hc:ws.getD h.toNat 0<=hV (bW ls h) T
 ·rw [bg3 hc,bg2 (by omega)]; rfl
 ·rw [bg2 hc,bg3 (by omega)]; rfl
end
structure aO1 (ws:List Int) (ls:List (Int × Int)) (G L:List Int):Prop where
 cold:stay ws ls L=L
 set:aT ws.length L=true
 sub:∀ x ∈ L,x ∈ G
 emp:L = [] ↔ G = []
 least:∀ h ∈ L,∀ U,stay ws ls U=U->(∀ x ∈ U,x ∈ L)->h ∉ U->U = []
section
variable {ws : List Int} {ls : List (Int × Int)} {ns : List Int}
theorem aO2 (wb:Wb ws ls) {h x:Int} (hx:x ∈ bW ls h):x ∈ rng ws.length:=by
 unfold bW at hx
 obtain ⟨l,hl,hx⟩:=List.mem_flatMap.mp hx
 have:=wb.links l hl
 rcases bk1.mp hx with hx | hx
 ·split at hx
  ·rw [bh6.mp hx]; exact mP.mpr this.2
  ·cases hx
 ·split at hx
  ·rw [bh6.mp hx]; exact mP.mpr this.1
  ·cases hx
def bP (n:Nat) (S:List Int):List Int:=(rng n).filter fun x=>!decide (x ∈ S)
theorem fO {n:Nat}{S:List Int}{x:Int}:x ∈ bP n S ↔ x ∈ rng n/\x ∉ S:=by
 unfold bP; rw [bn2]; simp
theorem xF (n:Nat) (S:List Int):aT n (bP n S)=true:=by
 have u:p5 (n:Int) (bP n S):=⟨by
   refine List.Pairwise.filter _ ?_
   unfold rng
   rw [bq0]
   exact List.pairwise_lt_range.imp fun h=>by omega,fun x hx=>mP.mp (fO.mp hx).1,by
   have:=br9 (fun x=>!decide (x ∈ S)) (rng n)
   rw [kX] at this
   show ((List.filter (fun x=>!decide (x ∈ S)) (rng n)).length:Int)<=_
   omega⟩
 exact u.set
theorem X0 (wb:Wb ws ls) {S:List Int}{h:Int} (hin:h ∉ S):kin ws ls S h = !eY ws ls (bP ws.length S) h:=
 aO0 hin fun x hx=>⟨fun z=>(fO.mp z).2,fun z=>fO.mpr ⟨aO2 wb hx,z⟩⟩
theorem aO3 (wb:Wb ws ls) {m:Nat} (en:c9 ws ls ns m):pA ws ls (bP ws.length ns) (bP ws.length (aY ws ls ns m)):=by
 have grow:∀ k,∀ x ∈ ns,x ∈ aY ws ls ns k:=fun k x hx=>by
  induction k with
  | zero=>exact hx
  | succ k ih=>exact bs6 _ ih
 refine⟨List.filter_eq_self.mpr fun h hh=>?_,fun x hx=>?_,fun U hU us x hx=>?_⟩
 ·have hm:=fO.mp hh
  have h1:=List.filter_eq_nil_iff.mp (show (rng ws.length).filter (kin ws ls (aY ws ls ns m)) = [] from en.2) h hm.1
  rw [X0 wb hm.2] at h1
  simpa using h1
 ·have hm:=fO.mp hx
  exact fO.mpr ⟨hm.1,fun z=>hm.2 (grow m x z)⟩
 ·have key:∀ k,∀ y ∈ U,y ∉ aY ws ls ns k:=fun k=>by
   induction k with
   | zero=>exact fun y hy=>(fO.mp (us y hy)).2
   | succ k ih=>
    intro y hy z
    rcases bk1.mp (show y ∈ aY ws ls ns k ++ nextOf ws ls (aY ws ls ns k) from z) with z | z
    ·exact ih y hy z
    ·have hk:=(bn2.mp z).2
     rw [X0 wb (ih y hy)] at hk
     have sy:eY ws ls U y=true:=(bn2.mp (show y ∈ stay ws ls U by rw [hU]; exact hy)).2
     have:=W0 (S:=bP ws.length (aY ws ls ns k)) (fun v hv=>fO.mpr ⟨(fO.mp (us v hv)).1,ih v hv⟩) sy
     rw [this] at hk; cases hk
  exact fO.mpr ⟨(fO.mp (us x hx)).1,key m x hx⟩
end
end Core
namespace Raw
open PySem PySem.W PyProof.Rows
section
variable {prog : Program} {w : World} {A : Around} {E : Value → Shared → Prop} {s : Shared} {T : String} {r d : Addr} {n : Nat} {P : Nat → Value → Prop} {OK : Heap → Prop}
theorem aO4 {R:Result->Shared->Prop} (K:KdlSrc prog w T r d n P OK) (hh:A.handled=none) (hok:OK s.heap) (hn:n<=sizeLine)
  (hR:∀ h' tk acc c,(∀ b o,b ≠ s.heap.objs.size->(s.heap.push { cls:=.type "list",data:=.seq ([]:List Value).toArray }).get? b=some o->h'.get? b=some o)->h'.get? s.heap.objs.size=some { cls:=.type "list",dict:=none,data:=.seq acc c,slots:=#[] }->ItemsOf P acc n->R (.ok (.ret (.ref s.heap.objs.size))) { s with heap:=h',toks:=tk }) :
  codeAny (model prog w) A (.builtin "proto.collect" ⟨[.ref r],[]⟩) R s:=by
 have lt:=K.there _ hok
 refine br5 PySem.F.entry_proto_collect ?_
 rw [bq9 PySem.F.plain_proto_collect _]
 show wpAny _ A.in1 (newList [] >>= fun l=>again (.builtin "list.__iadd__" ⟨[l,.ref r],[]⟩)) _ _ s
 refine bf5 (bj2 ?_)
 refine bf8 ⟨plainId_quiet PySem.F.plain_list_iadd _,br5 PySem.F.entry_list_iadd ?_⟩
 rw [bq9 PySem.F.plain_list_iadd _]
 show wpAny _ A.in1 (Builtin.List.listExtendWith (.ref s.heap.objs.size) (.ref r) (.ref s.heap.objs.size)) _ _ _
 exact kdl_extend (s:={ s with heap:=s.heap.push { cls:=.type "list",data:=.seq ([]:List Value).toArray } }) (R:=R) K hh (K.keep _ _ hok fun b _ o e=>bf7 _ e) s.heap.objs.size (bm4 lt.1) (bm4 lt.2) _ 0 (bg6 _ rfl) hR hn
theorem aO5 {Q:List Value->Shared->Prop} (K:KdlSrc prog w T r d n P OK) (hh:A.handled=none) (hok:OK s.heap) (hn:n<=sizeLine)
  (hQ:∀ h' tk acc,(∀ b o,s.heap.get? b=some o->h'.get? b=some o)->s.heap.objs.size<=h'.objs.size->ItemsOf P acc n->Q acc.toList { s with heap:=h',toks:=tk }) :
  wpAny (model prog w) A (collect (.ref r)) Q E s:=by
 unfold collect
 refine bf5 (wpAny_runValue (aO4 (s:=s) K hh hok hn fun h' tk acc c kp at1 it=>?_))
 show wpAny _ A (load s.heap.objs.size >>= _) _ _ _
 refine bf5 (wpAny_load at1 ?_)
 exact bf8 (hQ h' tk acc (fun b o e=>kp b o (bi6 (bg8 e)) (bf7 _ e)) (bm3 (bg8 at1)) it)
theorem aO6 {Q:Value->Shared->Prop}{G:List Int->Prop} (K:KdlSrc prog w T r d n P OK) (hh:A.handled=none) (hok:OK s.heap) (hn:n < 64)
  (hI:∀ acc,ItemsOf P acc n->∃ ns,IntsAre acc.toList ns/\G ns)
  (h:∀ h' tk a (out:Array Value) (ns ns':List Int) e,(∀ b o,s.heap.get? b=some o->h'.get? b=some o)->s.heap.objs.size<=a->h'.get? a=some (seqObj "list" out e)->IntsAre out.toList ns'->G ns->ns'.Perm ns->ns'.Pairwise (· <= ·)->Q (.ref a) { s with heap:=h',toks:=tk }) :
  wpAny (model prog w) A (call (.builtin "sorted") [.ref r]) Q E s:=by
 have hsl:n<=sizeLine:=bk0 (bm3 hn) (by decide)
 refine Calls.call_function_entry kind_sorted plain_sorted entry_sorted (args_sorted1 _) ?_
 unfold Builtin.«sorted»
 refine bf5 (m:=checkCount "sorted" 1 1 _) (bf8 ?_)
 refine bf5 (aO5 (s:=s) K hh hok hsl fun h' tk acc kp hs it=>?_)
 obtain ⟨ns,hi,g⟩:=hI acc it
 have hz:acc.toList.length < 64:=by rw [bi3,it.1]; exact hn
 refine bf5 (wpAny_newList ?_ (bk0 (bm3 hz) (by decide)))
 have hoL:(h'.push (seqObj "list" acc.toList.toArray 0)).get? h'.objs.size=some (seqObj "list" acc.toList.toArray 0):=bg6 _ rfl
 show wpAny _ _ _ _ _ { s with heap:=h'.push (seqObj "list" acc.toList.toArray 0),toks:=tk }
 refine bf5 (bl6 (bj4 slot_list_sort ⟨_,hoL,rfl⟩ entry_list_sort (list_sort_tree hoL hi hz fun out ns' a1 a2 a3=>⟨_,rfl,?_⟩) (args_list_sort _)))
 obtain ⟨e,he⟩:=sortedHeap_at (vs:=acc.toList) (out:=out) hoL
 refine bf8 ⟨_,rfl,h _ tk h'.objs.size out ns ns' e (fun b o hb=>?_) hs he a1 g a2 a3⟩
 have lt:=bg8 (kp b o hb)
 rw [sortedHeap_old (bi6 lt) (by rw [size_push']; exact bv5 lt)]
 exact bf7 _ (kp b o hb)
end
end Raw
namespace L2
open PySem PySem.Spec PyProof.Rows
section
variable {X : Cx}
theorem aO7 (hc:X.calm=true):cS X (.builtin "sorted") (fun xs H Q=>∃ a kvs ns,xs = [.ref a]/\H a=some (.dK kvs)/\kvs.map (·.1)=ns.map Sum.inl/\ns.length < 64/\∀ l (ms:List Int),H l=none->ms.Perm ns->ms.Pairwise (· <= ·)->Q (.ref l) (upd H l (.lst (ms.map V.int)))):=by
 intro pins s σ H xs us Q I r h
 obtain ⟨a,kvs,ns,rfl,ha,hk,h64,q⟩:=h
 obtain ⟨u,rfl,ru⟩:=gP r
 cases ru
 obtain ⟨es,ep,rd,far,vk,z⟩:=ar6 I ha
 have hl:=vk.length
 have hl2:=congrArg List.length hk
 rw [bg5,bg5] at hl hl2
 have hsz:es.toList.length=es.size:=bi3
 have e1:(kvs.map fun p=>kV p.1)=ns.map V.int:=by
  have:(kvs.map fun p=>kV p.1)=(kvs.map (·.1)).map kV:=by rw [bq4]; rfl
  rw [this,hk,bq4]; rfl
 rw [e1] at vk
 refine Raw.aO6 (G:=fun ms=>ms=ns) (Raw.E3 far) (I.ok.hd hc) rd (by omega) (fun acc it=>⟨ns,by rw [E5 it]; exact uA vk,rfl⟩) fun h' tk l out ns1 ns' e kp hn he a1 g a2 a3=>?_
 subst g
 have hlen:ns'.length=ns1.length:=a2.length_eq
 refine⟨.ref l,upd H l (.lst (ns'.map V.int)),I.laid (t':=tk) kp hn ⟨?_,out.toList,e,pV a1,by simpa using he⟩,rfl,q _ ns' (I.hok.fresh hn) a2 a3⟩
 rw [bg5,hlen]
 exact bm3 (pX (by omega))
end
end L2
namespace PP
open PySem L2 PyProof.Rows
section
variable {X : Cx} {a b e : Expr} {ta tb te : aE} {tr : cK} {pos p2 : Pos}
def xG:List PV->(PV->Prop)->Prop:=fun xs Q=>∃ (ps:List (aA × PV)) (ns:List Int),xs = [.dK ps]/\ps.map (·.1)=ns.map Sum.inl/\ns.length < 64/\∀ ms:List Int,ms.Perm ns->ms.Pairwise (· <= ·)->Q (.lst (intz ms))
theorem aO8:gC X xG (fun xs H Q=>∃ a kvs ns,xs = [.ref a]/\H a=some (.dK kvs)/\kvs.map (·.1)=ns.map Sum.inl/\ns.length < 64/\∀ l (ms:List Int),H l=none->ms.Perm ns->ms.Pairwise (· <= ·)->Q (.ref l) (upd H l (.lst (ms.map V.int)))):=by
 rintro H vs xs Q Q' r ⟨ps,ns,rfl,e,hl,q⟩ k
 obtain ⟨v,rfl,r1⟩:=r.one
 cases r1 with
 | @dK a kvs _ m h e2 r2=>
  exact⟨a,kvs,ns,rfl,h,e2.trans e,hl,fun l ms hl' p o=>k _ _ _ (bE hl' _) (.lst hl' b8 (Reps.intz ms)) (q ms p o)⟩
theorem aO9 (B:Bt X.mg) (hc:X.calm=true) (ha:QA X [e] tr) (hg:Gl X "sorted":=by rfl) (he:starEach [e] X.env=(false,eval e X.env) :: starEach [] X.env:=by rfl) (hpl:(backTo pos (starEach [] X.env)).any (·.1)=false:=by rfl):QE X (.Call (.Name "sorted" p2) [e] [] pos) (aC xG tr):=
 mG (aO7 hc) aO8 hg B.sorted PyProof.Rows.boot_sorted ha (he:=he) (hpl:=hpl)
end
end PP
namespace Core
open PySem L2 PP
def gL (k:Nat) (r:List Int):List (aA × PV):=r.map fun h=>((Sum.inl h:aA),PV.int (k:Int))
def jC (rs:List (List Int)):List (aA × PV):=(rs.mapIdx gL).flatten
theorem aP0 (rs:List (List Int)) (r:List Int):jC (rs ++ [r])=jC rs ++ gL rs.length r:=by
 unfold jC
 rw [List.mapIdx_append,List.flatten_append]
 simp
theorem X1 (k:Nat) (r:List Int):(gL k r).map (·.1)=r.map Sum.inl:=by
 unfold gL; rw [bq4]; rfl
theorem X2:∀ (rs:List (List Int)) (g:Nat->Nat),((rs.mapIdx fun i r=>gL (g i) r).flatten).map (·.1)=rs.flatten.map (Sum.inl:Int->aA)
 | [],_=>rfl
 | r :: t,g=>by
  rw [List.mapIdx_cons,List.flatten_cons,List.flatten_cons,bl2,bl2,X1,X2 t fun i=>g (i+1)]
theorem X3 (rs:List (List Int)):(jC rs).map (·.1)=rs.flatten.map (Sum.inl:Int->aA):=X2 rs fun i=>i
theorem aP1 {ps:List (aA × PV)}{h:Int}{v:PV}{S:List Int} (e:ps.map (·.1)=S.map Sum.inl) (hn:h ∉ S):cL ps (Sum.inl h:aA) v=ps ++ [(Sum.inl h,v)]:=by
 unfold cL
 rw [if_neg]
 intro z
 rw [List.any_eq_true] at z
 obtain ⟨p,hp,hq⟩:=z
 have:p.1 ∈ ps.map (·.1):=bm8.mpr ⟨p,hp,rfl⟩
 rw [e,bq1 hq] at this
 obtain ⟨y,hy,e2⟩:=bm8.mp this
 exact hn (Sum.inl.inj e2 ▸ hy)
theorem aP2 {k:Nat}{r:List Int}{i:Nat}{n:Int} (h:r[i]? = some n):gL k (r.take (i+1))=gL k (r.take i) ++ [(Sum.inl n,PV.int (k:Int))]:=by
 unfold gL
 rw [bt0,h,bl2]; rfl
theorem qJ {ls:List (Int × Int)}{wts:List Int} (e:wts.length=ls.length):(ls.zip wts).map (·.2)=wts:=by
 rw [List.map_snd_zip]; omega
section
variable {ws : List Int} {ls : List (Int × Int)} {ns wts : List Int} {m : Nat}
def loose (ls:List (Int × Int)) (wts ns:List Int):List ((Int × Int) × Int):=(ls.zip wts).filter fun z=>!(decide (z.1.1 ∈ ns) && decide (z.1.2 ∈ ns))
end
end Core
set_option maxHeartbeats 1000000
set_option maxHeartbeats 1000000
set_option maxHeartbeats 1000000
set_option maxHeartbeats 1000000
namespace PP
open PySem L2 PyProof.Rows
abbrev cY:=(Str->Prop)->bC
def EX (K:PySem.W.Frag) (H0:Hp) (Ep:Str->Prop):XK:=fun c d H'=>d=none/\aD H0 H'/\∃ n C,c = .ref C/\PySem.W.nsIn K mainGlobals n=some (some (.ref C))/\Ep n
def X4 (K:PySem.W.Frag) (p:cY):Sp:=fun vs H Q E=>∃ xs Qp Ep,Reps K (fun _=>True) H vs xs/\p Ep xs Qp/\(∀ v H' x,aD H H'->aF K (fun a=>H a=none) H' v x->Qp x->Q v H')/\
 ∀ n C H',aD H H'->PySem.W.nsIn K mainGlobals n=some (some (.ref C))->Ep n->E (.ref C) none H'
structure bA (P:Program) (w:World) (K:PySem.W.Frag) (mg:Str->Option Value) (base:Heap) (k:Nat) (x:Str) (ps:List Str) (p:cY):Prop where
 ex:∃ f fd,cT P w K mg base (dS P w) k f fd ps (X4 K p)/\gQ K fd ps []/\PySem.W.keepIn K (.ref f)=true/\mg x=some (.ref f)
section
variable {X : Cx} {σ : L2.St} {H : Hp} {D : c9} {tr : cK} {Q' : VK} {a b c e : Expr} {es : List Expr} {pos p2 cp np hp : Pos} {t : aK} {te : aE} {tc : bT}
def eZ (Ep:Str->Prop) (p:cY) (t:cK):aE:=aC (p Ep) t
theorem X5 {p:cY}{Ep:Str->Prop} (h:LE X (eZ Ep p tr) σ H Q'):u7 (X4 X.K p) [] (EX X.K X.H₀ Ep) (LA X tr) σ H Q':=by
 obtain ⟨W,ρ,Q,px,q,k⟩:=h
 refine⟨W,ρ,_,px,q,fun vs H1 xs s1 r1 q1=>⟨_,_,Ep,by rw [bi9]; exact r1.any,q1,fun v H' x s2 r2 q2=>k v H' x .fr (s1.trans s2) (r2.same (aD.refl _) fun _ z=>s1.free z) q2,fun n C H' s2 z1 z2=>⟨rfl,(px.same.trans s1).trans s2,n,C,rfl,z1,z2⟩⟩⟩
theorem fP {Ep:Str->Prop}{k j:Nat}{x:Str}{ps:List Str}{p:cY} (hX:mO X (EX X.K X.H₀ Ep)) (d:bA X.prog X.w X.K X.mg X.base k x ps p) (hr:bS j X.A) (ha:QA X (e :: es) tr) (hkj:k<=j:=by decide) (hg:Gl X x:=by rfl) (hdb:(x == ("__debug__" : Str))=false:=by decide)
  (he:starEach (e :: es) X.env=(false,eval e X.env) :: starEach es X.env:=by rfl) (hpl:(backTo pos (starEach es X.env)).any (·.1)=false:=by rfl):QE X (.Call (.Name x p2) (e :: es) [] pos) (eZ Ep p tr):=by
 obtain ⟨f,fd,F,b,kp,m⟩:=d.ex
 exact bQ (pN F (hr.mono hkj) hg m kp b .nil hX.pass ha hdb he hpl) fun _ _ _=>X5
theorem mS {k j:Nat}{x:Str}{ps:List Str}{p:cY} (d:bA X.prog X.w X.K X.mg X.base k x ps p) (hr:bS j X.A) (ha:QA X (e :: es) tr) (hkj:k<=j:=by decide) (hg:Gl X x:=by rfl) (hdb:(x == ("__debug__" : Str))=false:=by decide)
  (he:starEach (e :: es) X.env=(false,eval e X.env) :: starEach es X.env:=by rfl) (hpl:(backTo pos (starEach es X.env)).any (·.1)=false:=by rfl):QE X (.Call (.Name x p2) (e :: es) [] pos) (aC (p fun _=>False) tr):=by
 obtain ⟨f,fd,F,b,kp,m⟩:=d.ex
 refine bQ (pN F (E:=EX X.K X.H₀ fun _=>False) (hr.mono hkj) hg m kp b .nil (fun _ _ _ _ _ _ _ h=>?_) ha hdb he hpl) fun _ _ _ h=>X5 (Ep:=fun _=>False) h
 obtain ⟨_,_,_,_,_,_,_,_,_,_,_,_,z⟩:=h
 exact z.elim
def xH (Ep:Str->Prop) (n:Str) (t:cK):aK:=fun _ ρ=>t ρ fun xs=>xs.length<=1000/\Ep n
theorem aP3 {Ep:Str->Prop}{n:Str}{C:Addr} (hn:PySem.W.nsIn X.K mainGlobals n=some (some (.ref C))) (h:LS X (xH Ep n tr) D σ H):Q6 (EX X.K X.H₀ Ep) C (LA X tr) D σ H:=by
 obtain ⟨W,ρ,D',px,q,k⟩:=h
 exact⟨W,ρ,_,px,q,fun vs H1 xs s1 r z=>⟨by rw [r.length]; exact qT z.1,rfl,px.same.trans s1,n,C,rfl,hn,z.2⟩⟩
structure Xc (K:PySem.W.Frag) (mg:Str->Option Value) (base:Heap) (n:Str):Prop where
 ex:∃ C B newId initId bm,OwnCls n C bm newId mg base/\ExcBaseFacts B newId initId bm/\PySem.W.nsIn K mainGlobals n=some (some (.ref C))
theorem aP4 {Ep:Str->Prop}{n:Str} (hX:mO X (EX X.K X.H₀ Ep)) (x:Xc X.K X.mg X.base n) (ha:QA X (e :: es) tr) (hc:X.calm=true:=by rfl) (hg:Gl X n:=by rfl) (hd:(n == ("__debug__" : Str))=false:=by decide)
  (he:starEach (e :: es) X.env=(false,eval e X.env) :: starEach es X.env:=by rfl) (hpl:(backTo cp (starEach es X.env)).any (·.1)=false:=by rfl):QS X (.Raise (some (.Call (.Name n np) (e :: es) [] cp)) none pos) (xH Ep n tr):=by
 obtain ⟨C,B,newId,initId,bm,O,FB,hn⟩:=x.ex
 exact dC (aF2 hX hc O FB ha hg hd he hpl) fun _ _ _=>aP3 hn
abbrev jD:=iX->(Str->Prop)->bG->Prop
def LB (X:Cx) (t:jD):TB:=fun D Ex σ H=>∃ (W:Addr->Prop) (ρ:bG) (D':iX) (Ep:Str->Prop),PX X.K X.H₀ W σ ρ H/\t D' Ep ρ/\lR X W H D' D/\∀ n C H',aD H H'->PySem.W.nsIn X.K mainGlobals n=some (some (.ref C))->Ep n->Ex (.ref C) none H'
def QB (X:Cx) (sts:List Stmt) (t:jD):Prop:=PB X sts (LB X t)
theorem X6 {sts:List Stmt}{t t':TB} (h:PB X sts t) (m:∀ D Ex σ H,t' D Ex σ H->t D Ex σ H):PB X sts t':=fun pins s σ H D Ex I q=>h pins s σ H D Ex I (m D Ex σ H q)
def xI (p:cY) (t:cK):jD:=fun D Ep ρ=>t ρ fun xs=>p Ep (xs.map (·.1)) fun _=>D.nx ρ
def X7 (c:bT) (t u:jD):jD:=fun D Ep ρ=>c ρ fun b=>if b=true then t D Ep ρ else u D Ep ρ
theorem X8 {k j:Nat}{x:Str}{ps:List Str}{p:cY} (d:bA X.prog X.w X.K X.mg X.base k x ps p) (hr:bS j X.A) (ha:∀ E,QA (X.wish E) (e :: es) tr) (hkj:k<=j:=by decide) (hg:Gl X x:=by rfl) (hdb:(x == ("__debug__" : Str))=false:=by decide)
  (he:starEach (e :: es) X.env=(false,eval e X.env) :: starEach es X.env:=by rfl) (hpl:(backTo cp (starEach es X.env)).any (·.1)=false:=by rfl) (hsw:swapsWith (.Call (.Name x p2) (e :: es) [] cp) none pos.line X.env=pure false:=by rfl):QB X [.Expr (.Call (.Name x p2) (e :: es) [] cp) pos] (xI p tr):=by
 obtain ⟨f,fd,F,b,kp,m⟩:=d.ex
 refine X6 (aF7 (t:=LA X tr) F (hr.mono hkj) hg m kp b (fun E=>ha E) hdb he hpl hsw) fun D Ex σ H h=>?_
 obtain ⟨W,ρ,D',Ep,px,q,k,ke⟩:=h
 exact⟨W,ρ,_,px,q,fun vs H1 xs s1 r q1=>⟨_,_,Ep,r.any,q1,fun v H' x s2 r2 q2=>k.nx W σ H' ρ (Ev.same (s1.trans s2)) (px.mono (s1.trans s2)) q2,fun n C H' s2 z1 z2=>ke n C H' (s1.trans s2) z1 z2⟩⟩
theorem aP5 {sa sb:List Stmt}{tb ub:jD} (hc:∀ E,QT (X.wish E) c tc) (ha:QB X sa tb) (hb:QB X sb ub):QB X [.If c sa sb pos] (X7 tc tb ub):=by
 refine X6 (aF8 (tc:=LT X tc) (fun E=>hc E) ha hb) fun D Ex σ H h=>?_
 obtain ⟨W,ρ,D',Ep,px,q,k,ke⟩:=h
 refine⟨W,ρ,_,px,q,fun b H1 s1 q1=>?_⟩
 have ke':∀ n C H',aD H1 H'->PySem.W.nsIn X.K mainGlobals n=some (some (.ref C))->Ep n->Ex (.ref C) none H':=fun n C H' s2 z1 z2=>ke n C H' (s1.trans s2) z1 z2
 cases b with
 | true=>exact aW ⟨W,ρ,D',Ep,px.mono s1,by simpa using q1,k.step (Ev.same s1),ke'⟩
 | false=>exact aO ⟨W,ρ,D',Ep,px.mono s1,by simpa using q1,k.step (Ev.same s1),ke'⟩
def X9 (D:iX) (i:Nat):iX:={ nx:=fun ρ=>D.nx (ρ.set i none),rt:=D.rt,bk:=fun ρ=>D.bk (ρ.set i none),ct:=fun ρ=>D.ct (ρ.set i none) }
def sP:List Str:=["BadWeb","BadSet","BadOrder","BadPrices","BadBoard","BadDeed","NotWood","NoPaper","NoSuch","TooMany","NoText","OddRound"]
def l8 (n m:Str):Option Bool:=if sP.contains n then some (n == m || m == "HearthError" || m == "ValueError") else none
def xJ (m:Str) (i:Nat) (tb:jD) (ts:aK):aK:=fun D ρ=>tb D (fun n=>l8 n m=some true/\ts (X9 D i) (ρ.set i (some (.sh true (.exc n))))) ρ
theorem aP6 {m:Str}{Ch:Addr}{i:Nat}{tb:jD}{ts:aK} (hs:∀ n C,l8 n m=some true->PySem.W.nsIn X.K mainGlobals n=some (some (.ref C))->PySem.W.subIn X.K (.ref C) (.ref Ch)=some true) (h:LS X (xJ m i tb ts) D σ H):Q8 X.K Ch i (LB X tb) (LS X ts) D σ H:=by
 obtain ⟨W,ρ,D',px,q,k⟩:=h
 refine⟨W,ρ,D',_,px,q,k,fun n C H' s z1 z2 a C' oe hc na hcl=>?_⟩
 cases hc
 refine⟨hs n C z2.1 z1,W,_,X9 D' i,(px.mono (s.trans (bE na _))).setSh (g:=true) (.exc b8 z1 hcl),z2.2,?_⟩
 have k':=k.step (Ev.same (W:=W) (s.trans (bE na (.frz oe (.own a)))))
 exact⟨fun W' σ' H2 ρ' ev px' q'=>k'.nx W' _ H2 _ ev px'.setNone q',k'.rt,fun W' σ' H2 ρ' ev px' q'=>k'.bk W' _ H2 _ ev px'.setNone q',fun W' σ' H2 ρ' ev px' q'=>k'.ct W' _ H2 _ ev px'.setNone q'⟩
structure xK (K:PySem.W.Frag) (mg:Str->Option Value) (m:Str):Prop where
 ex:∃ Ch,mg m=some (.ref Ch)/\wQ K Ch/\∀ n C,l8 n m=some true->PySem.W.nsIn K mainGlobals n=some (some (.ref C))->PySem.W.subIn K (.ref C) (.ref Ch)=some true
theorem aP7 (i:Nat) {m n:Str}{b₀:Stmt}{suite body:List Stmt}{tb:jD}{ts:aK} (ct:xK X.K X.mg m) (hN:X.N.Nodup) (hb:QB X body tb) (hs:∀ a,eG (X.suite a) (b₀ :: suite) ts) (hstk:X.stack=X.env :: X.outer/\X.env.frame=some X.env.locals:=by exact⟨rfl,rfl⟩) (hi:X.N[i]? = some n:=by rfl) (hl:X.env.scope.names.lookup n=some .local:=by rfl) (hg:Gl X m:=by rfl)
  (hd:(m == ("__debug__" : Str))=false:=by decide):QS X (.Try body [.ExceptHandler (some (.Name m np)) (some n) (b₀ :: suite) hp] [] [] pos) (xJ m i tb ts):=by
 obtain ⟨Ch,hm,c,sub⟩:=ct.ex
 exact dC (aF9 (ts:=LS X ts) hstk hb hg hm c hN hi hl (fun a=>vY (hs a) fun _ _ _ ⟨W,ρ,D',px,q,k⟩=>⟨W,ρ,D',px,q,⟨k.nx,k.rt,k.bk,k.ct⟩⟩) hd) fun _ _ _=>aP6 sub
def fX:V->Value
 | .ref a=>.ref a
 | .ty n=>.type n
 | _=>.none
def aP8 (K:PySem.W.Frag):List V->Hp->VK->Prop:=fun xs H Q=>∃ v v2 b,xs = [v,v2]/\fX v2 ≠ .none/\((∃ a o C,v = .ref a/\H a=some (.frz o (.own a))/\o.cls = .ref C/\iG K C/\PySem.W.kitOne K (.ref C) (fX v2)=some b) ∨ (v = .non/\PySem.W.kitOne K (.type "NoneType") (fX v2)=some b))/\Q (.bl b) H
theorem aP9:cS X (.builtin "isinstance") (aP8 X.K):=by
 intro pins s σ H xs us Q I r h
 obtain ⟨v,v2,b,rfl,hv,hk,q⟩:=h
 obtain ⟨u,u',rfl,ru,ru'⟩:=nR r
 obtain rfl:u'=fX v2:=by
  cases v2 <;> first | exact ru' | exact absurd rfl hv
 rcases hk with ⟨a,o,C,rfl,hH,hc,F,e⟩ | ⟨rfl,e⟩
 ·obtain ⟨h1,_⟩:=I.hok a _ hH
  cases (show u=Value.ref a from ru)
  exact bn3 (aG6 F) I.kIn ⟨o,h1,hc⟩ e (fun z=>nomatch z) fun tk=>⟨.bl b,H,I.tok tk,rfl,q⟩
 ·cases (show u=Value.none from ru)
  exact bn3 PySem.W.kitx_none I.kIn trivial e (fun z=>nomatch z) fun tk=>⟨.bl b,H,I.tok tk,rfl,q⟩
def aQ0 (m:Str):PV->Option Bool
 | .exc n=>l8 n m
 | .non=>some false
 | _=>none
def xL (m:Str) (te:aE):aE:=fun ρ Q=>te ρ fun x _=>∃ b,aQ0 m x=some b/\Q (.bl b) .fr
structure Y0 (K:PySem.W.Frag) (m:Str) (v2:V):Prop where
 nn:fX v2 ≠ .none
 ex:∀ n C b,PySem.W.nsIn K mainGlobals n=some (some (.ref C))->l8 n m=some b->iG K C/\PySem.W.kitOne K (.ref C) (fX v2)=some b
 no:PySem.W.kitOne K (.type "NoneType") (fX v2)=some false
theorem aQ1 {x:Str}{v2:V}{px:Pos} (B:Bt X.mg) (A:Y0 X.K x v2) (hx:PE X (.Name x px) (tC v2)) (ha:QE X a te) (hg:Gl X "isinstance":=by rfl)
  (he:starEach [a,.Name x px] X.env=(false,eval a X.env) :: starEach [.Name x px] X.env:=by rfl) (he2:starEach [.Name x px] X.env=(false,eval (.Name x px) X.env) :: starEach [] X.env:=by rfl) (hpl:(backTo pos (starEach [.Name x px] X.env)).any (·.1)=false:=by rfl):QE X (.Call (.Name "isinstance" p2) [a,.Name x px] [] pos) (xL x te):=
 bQ (lM aP9 hg B.isinst PyProof.Rows.boot_isinstance (cV ha (cV hx dM he2) he) (he:=he) (hpl:=hpl)) fun σ H Q' h=>by
  obtain ⟨W,ρ,Q,px,q,k⟩:=h
  refine⟨W,ρ,_,px,q,?_⟩
  rintro v H1 y g s r ⟨b,e,q⟩
  refine⟨v,v2,b,rfl,A.nn,?_,k _ _ _ .fr s (.bl _) q⟩
  cases r with
  | exc h z c=>
   obtain ⟨F,kt⟩:=A.ex _ _ _ z e
   exact .inl ⟨_,_,_,rfl,h,c,F,kt⟩
  | non=>cases e; exact .inr ⟨rfl,A.no⟩
  | _=>cases e
end
section
variable {X : Cx} {a : Expr} {pos p2 px : Pos} {te : aE}
structure xM (K:PySem.W.Frag) (mg:Str->Option Value) (m:Str):Prop where
 ex:∃ C,mg m=some (.ref C)/\Y0 K m (.ref C)
theorem aQ2 {x:Str} (B:Bt X.mg) (A:xM X.K X.mg x) (ha:QE X a te) (hgx:Gl X x:=by rfl) (hdx:(x == ("__debug__" : Str))=false:=by decide) (hg:Gl X "isinstance":=by rfl)
  (he:starEach [a,.Name x px] X.env=(false,eval a X.env) :: starEach [.Name x px] X.env:=by rfl) (he2:starEach [.Name x px] X.env=(false,eval (.Name x px) X.env) :: starEach [] X.env:=by rfl) (hpl:(backTo pos (starEach [.Name x px] X.env)).any (·.1)=false:=by rfl):QE X (.Call (.Name "isinstance" p2) [a,.Name x px] [] pos) (xL x te):=by
 obtain ⟨C,m,i⟩:=A.ex
 exact aQ1 B i (ah6 hgx m rfl hdx) ha hg he he2 hpl
end
structure pB (K:PySem.W.Frag) (C:Addr):Prop where
 cls:PySem.W.isClsIn K C=true
 ty:PySem.W.typeIn K (.ref C)=some (.type "type")
 ga:PySem.W.findIn K (.ref C) "__getattribute__" = some (some (.builtin "BaseException.__getattribute__"))
 gt:PySem.W.findIn K (.ref C) "__getattr__" = some none
 fc:PySem.W.findIn K (.ref C) "__class__" = some (some (.builtin "object.__class__"))
 fg:PySem.W.specialIn K (.builtin "object.__class__") "__get__" = some (some (.builtin "getset_descriptor.__get__"))
 ft:PySem.W.takesIn K (.builtin "object.__class__")=some true
 ob:PySem.W.mroIn K C (.type "object")=some true
 be:PySem.W.mroIn K C (.type "BaseException")=some true
theorem pB.exc {K:PySem.W.Frag}{C:Addr} (h:pB K C):iG K C:=⟨h.cls,h.ga,h.gt,h.fc,h.fg,h.ft,h.ob,h.be⟩
theorem aQ3 {K:PySem.W.Frag}{h₀:Heap}{mg:Str->Option Value}{x:Str}{C:Addr}{bmB:List Value}{newId:String} (X:K.In h₀) (m:mg x=some (.ref C)) (q:PySem.W.excIn K C bmB newId=true):OwnCls x C bmB newId mg h₀:=by
 refine⟨m,?_⟩
 unfold PySem.W.excIn at q
 split at q
 case h_2=>cases q
 rename_i dd cd sl ho
 split at q
 case h_2=>cases q
 rename_i C' bm k0 k1 k2 k3 n k5 hm hs
 simp only [bj5,beq_iff_eq,Bool.not_eq_true'] at q
 obtain ⟨⟨⟨⟨⟨rfl,rfl⟩,dl⟩,ht⟩,hok⟩,hni⟩:=q
 obtain ⟨nm,bs,mro,ns,qn,hd,sn,sub,ab,col,del⟩:=cd
 dsimp only at hm dl hok hni
 subst hm dl
 obtain rfl:sl = #[k0,k1,k2,k3,some (.builtin n),k5]:=by
  obtain ⟨l⟩:=sl
  exact congrArg Array.mk hs
 exact⟨bm,ns,nm,qn,bs,hd,sn,sub,ab,col,dd,k0,k1,k2,k3,k5,_,X _ _ ho,.of_isNs (PySem.W.isNs_of_in X hok),PySem.W.nsMap_none_of_in X hok hni,PySem.W.tail_of_in X ht⟩
theorem Y1 {n m:Str}{b:Bool} (h:l8 n m=some b):n ∈ sP/\b=(n == m || m == "HearthError" || m == "ValueError"):=by
 unfold l8 at h
 split at h
 ·rename_i z
  exact⟨by simpa using z,by cases h; rfl⟩
 ·cases h
theorem aQ4 {K:PySem.W.Frag}{C:Addr}:PySem.W.kitOne K (.ref C) (.ref C)=some true:=by
 unfold PySem.W.kitOne
 rw [if_pos (bo5 _)]
theorem aQ5 {K:PySem.W.Frag}{D:Addr} (hd:pB K D) (s:PySem.W.subIn K (.type "NoneType") (.ref D)=some false):PySem.W.kitOne K (.type "NoneType") (.ref D)=some false:=by
 have c:=hd.cls
 unfold PySem.W.isClsIn at c
 unfold PySem.W.kitOne PySem.W.kitCls
 rw [if_neg (fun z=>by cases beq_iff_eq.mp z)]
 dsimp only
 rw [if_pos (by rw [c,hd.ty]; decide)]
 exact s
theorem bA.of {P:Program}{w:World}{K:PySem.W.Frag}{mg:Str->Option Value}{base:Heap}{k:Nat}{x:Str}{ps N:List Str}{p:cY}{st:Stmt}{f:Addr}{fd:FuncData} (F:eC K x x st f fd) (m:mg x=some (.ref f)) (S:FnScope N ps (aQ st))
  (hb:∀ (kV doc pm:Value) (an:Option Addr) (cdv ct:Value) (us:List Value),us.length=ps.length->bindArgs (PySem.W.fnOf x x (iA st) (dN st) (aQ st) .none kV doc pm an cdv ct) ⟨us,[]⟩=pure (ps.zip us))
  (t:(Str->Prop)->aK) (len:∀ Ep xs Q,p Ep xs Q->xs.length=ps.length) (rd:∀ Ep xs Q,p Ep xs Q->t Ep { nx:=fun _=>Q .non,rt:=Q } (eF N xs))
  (body:∀ (cdv:Value) (A:Around) (outer:List Env) (s:Shared) (H:Hp) (E:XK) (Ep:Str->Prop),bS k (A.deeper (envOfC x (aQ st) s.heap.objs.size f cdv))->mO (cW (dS P w) P w K mg base N x (aQ st) f cdv A outer s H E) (EX K H Ep)->
   eG (cW (dS P w) P w K mg base N x (aQ st) f cdv A outer s H E) (dN st) (t Ep)):bA P w K mg base (k+1) x ps p:=by
 refine⟨f,fd,F.okX S (fun vs H Q E h=>?_) (fun cdv A outer s H vs Q E hr h=>?_),F.binds hb,F.kp,m⟩
 ·obtain ⟨xs,Qp,Ep,r,q,_⟩:=h
  rw [r.length]; exact len Ep xs Qp q
 ·obtain ⟨xs,Qp,Ep,r,q,k,ke⟩:=h
  have ht:=body cdv A outer s H E Ep hr (aF1 fun c d H' z=>?_)
  ·refine⟨_,ht,fun _=>False,eF N xs,_,rG r,rd Ep xs Qp q,?_,?_,?_,?_⟩
   ·exact fun W' σ' H' ρ' e px q=>k _ _ _ px.same .non q
   ·exact fun v H' x s r q=>k _ _ _ s r q
   ·exact fun W' σ' H' ρ' e px q=>q
   ·exact fun W' σ' H' ρ' e px q=>q
  ·obtain ⟨rfl,s1,n,C,rfl,z1,z2⟩:=z
   exact ke n C H' s1 z1 z2
end PP
namespace Core
open PySem L2 PP
abbrev iL (t:(Str->Prop)->aK) (N:List Str) (p:cY):Prop:=∀ Ep xs Q,p Ep xs Q->t Ep { nx:=fun _=>Q .non,rt:=Q } (eF N xs)
def fQ:cY:=fun Ep xs Q=>∃ ws ls x ns,xs = [bJ ws ls,x]/\cQ x ns/\ns.length<=1000/\(aT ws.length ns=true->Q (.tup (intz ns)))/\(aT ws.length ns=false->Ep "BadSet")
def Y2 (Ep:Str->Prop):aK:=(aP (bM (gV (aR (aC sF (a6 (a5 0) (a6 (a5 1) a9))))) (xH Ep "BadSet" (a6 (qC (.str "a set is of rising hearths of the web")) a9)) cA)
 (aZ (aC dF (a6 (a5 1) a9))))
theorem aQ6:iL Y2 ["web","hearths"] fQ:=by
 rintro Ep xs Q ⟨ws,ls,x,ns,rfl,hx,hl,q1,q2⟩
 refine⟨_,rfl,_,rfl,ws,ls,x,ns,rfl,hx,hl,_,rfl,?_⟩
 cases h:aT ws.length ns with
 | true=>exact aO ⟨_,rfl,⟨_,_,rfl,hx.seqT,cE _,trivial,q1 h⟩,hx.noscr⟩
 | false=>exact aW ⟨by decide,q2 h⟩
theorem xN {n:Nat}{ys:List Int} (h:aT n ys=true->False):aT n ys=false:=by
 cases e:aT n ys with
 | false=>rfl
 | true=>exact (h e).elim
theorem aQ7 {n k:Nat}{s:List Int}{x:Int} (hx:x ∈ s):aT n (s.take k ++ [x] ++ s.drop k)=false:=xN fun e=>by
 have p:=gI (dG e).1
 rw [bi4,bk8] at p
 rw [<- bj3 k s] at hx
 rcases bk1.mp hx with h | h
 ·exact absurd (p.2.2 x h x bg7) (Int.lt_irrefl x)
 ·exact absurd (List.rel_of_pairwise_cons p.2.1 h) (Int.lt_irrefl x)
theorem aQ8 {n k:Nat}{s:List Int}{x:Int} (hx:x < 0 ∨ (n:Int)<=x):aT n (s.take k ++ [x] ++ s.drop k)=false:=xN fun e=>by
 have:=(dG e).2 x (by simp)
 omega
end Core
namespace PP
open PySem L2
mutual
theorem aF.thaw {K:PySem.W.Frag}{M M':Addr->Prop}{H:Hp}{a:Addr}{o:Obj}{kvs:List (List aA × V)}{u:HO} (h:H a=some (.frz o (.dT kvs))):∀ {v:V}{x:PV},flat x=true->aF K M H v x->aF K M' (upd H a u) v x
 | _,_,_,.non=>.non
 | _,_,_,.bl b=>.bl b
 | _,_,_,.int i=>.int i
 | _,_,_,.str x=>.str x
 | _,_,f,.tup e r=>.tup (by rw [aH (fun z=>by rw [z,h] at e; cases e)]; exact e) (Reps.thaw h (by unfold PP.flat at f; exact f) r)
 | _,_,f,.lst m e r=>by unfold PP.flat at f; cases f
 | _,_,f,.dK m e q r=>by unfold PP.flat at f; cases f
 | _,_,f,.dT m e q r=>by unfold PP.flat at f; cases f
 | _,_,_,.scr e=>.scr (e.elim (fun ⟨o',e'⟩=>.inl ⟨o',by rw [aH (fun z=>by rw [z,h] at e'; cases e')]; exact e'⟩) .inr)
 | _,_,f,.kt e r=>.kt e (Reps.thaw h (by unfold PP.flat at f; exact f) r)
 | _,_,_,.exc e n c=>.exc (by rw [aH (fun z=>by rw [z,h] at e; cases e)]; exact e) n c
theorem Reps.thaw {K:PySem.W.Frag}{M M':Addr->Prop}{H:Hp}{a:Addr}{o:Obj}{kvs:List (List aA × V)}{u:HO} (h:H a=some (.frz o (.dT kvs))):∀ {vs:List V}{xs:List PV},flats xs=true->Reps K M H vs xs->Reps K M' (upd H a u) vs xs
 | _,_,_,.nil=>.nil
 | _,_,f,.cons r t=>by
  unfold PP.flats at f
  rw [bj5] at f
  exact .cons (aF.thaw h f.1 r) (Reps.thaw h f.2 t)
end
theorem Reps.keys {K:PySem.W.Frag}{M:Addr->Prop}{H:Hp}:∀ (k:List aA),Reps K M H (k.map kV) (k.map kP)
 | []=>.nil
 | .inl i :: r=>.cons (.int i) (Reps.keys r)
 | .inr x :: r=>.cons (.str x) (Reps.keys r)
theorem Y3 {α β:Type}{F:α->β->Prop}:∀ {l:List α}{m:List β}{i:Nat}{x:α},Paired F l m->l[i]? = some x->∃ y,m[i]? = some y/\F x y
 | _,_,_,_,.nil,e=>by simp at e
 | _,_,0,_,.cons r _,e=>by simp at e; subst e; exact⟨_,rfl,r⟩
 | _,_,i+1,x,.cons _ t,e=>by
  rw [bj8] at e
  obtain ⟨y,h1,h2⟩:=Y3 t e
  exact⟨y,by rw [bj8]; exact h1,h2⟩
theorem Y4:∀ {xs:List PV}{y:PV},flats xs=true->flat y=true->flats (xs ++ [y])=true
 | [],y,_,f=>by show (flat y && flats [])=true; rw [f]; rfl
 | x :: r,y,h,f=>by
  unfold flats at h
  rw [bj5] at h
  show (flat x && flats (r ++ [y]))=true
  rw [h.1,Y4 h.2 f]; rfl
theorem aQ9 {K:PySem.W.Frag}{H0:Hp}{W:Addr->Prop}{σ:St}{ρ:bG}{H1 H':Hp}{D a:Addr}{o:Obj}{kvs:List (List aA × V)}{acc:List V}{fr:List (Option Nat)} (px:PX K H0 W σ ρ H1) (ha:H1 a=some (.dT kvs)) (hD:upd H1 a (.frz o (.dT kvs)) D=none) (s:aD (upd H1 a (.frz o (.dT kvs))) H') (hl:H' D=some (.lst acc))
  (fl:∀ m,some m ∈ fK fr ρ->flat m.val=true):PX K (upd H1 a (.frz o (.dT kvs))) (gF D) (dO fr σ) (fK fr ρ) H':=by
 refine⟨by unfold dO fK; rw [bg5,bg5],s,fun b z=>by cases z; exact⟨hD,_,hl,rfl⟩,fun i m h=>?_,fun i j x y b h1=>?_⟩
 ·have fm:=fl m (bk6 h)
  unfold fK at h
  rw [bh1] at h
  cases ef:fr[i]? with
  | none=>rw [ef] at h; cases h
  | some o2=>
   rw [ef] at h
   cases o2 with
   | none=>cases h
   | some j=>
    have h:some ((ρ[j]?).join.map fun m=>Slot.sh false m.val)=some (some m):=h
    cases er:ρ[j]? with
    | none=>rw [er] at h; cases h
    | some o3=>
     rw [er] at h
     cases o3 with
     | none=>cases h
     | some m0=>
      cases h
      obtain ⟨v,ev,r⟩:=px.sl j m0 er
      refine⟨v,?_,?_⟩
      ·unfold dO
       rw [bh1,ef]
       show some ((σ[j]?).join)=_
       rw [ev]; rfl
      ·have r':aF K (fun _=>False) H1 v m0.val:=(qP (Hs:=H1) r).flat fm
       refine r'.keep ⟨fun _ _ z=>z.elim,fun _ _ z=>z.elim,fun _ _ z=>z.elim,fun b _ e=>s _ _ ?_,fun b _ _ e=>s _ _ ?_⟩
       ·rw [aH (fun z=>by rw [z,ha] at e; cases e)]; exact e
       ·rw [aH (fun z=>by rw [z,ha] at e; cases e)]; exact e
 ·unfold fK at h1
  rw [bh1] at h1
  cases ef:fr[i]? with
  | none=>rw [ef] at h1; cases h1
  | some o2=>
   rw [ef] at h1
   cases o2 with
   | none=>cases h1
   | some j=>
    have h1:some ((ρ[j]?).join.map fun m=>Slot.sh false m.val)=some (some (Slot.own x)):=h1
    cases er:ρ[j]? with
    | none=>rw [er] at h1; cases h1
    | some o3=>
     rw [er] at h1
     cases o3 with
     | none=>cases h1
     | some m0=>cases h1
section
variable {X : Cx} {σ : St} {H : Hp} {Q' : VK}
def sQ (tl:aE) (fr:List (Option Nat)) (p:iC) (tc:bT) (te:aE):aE:=fun ρ Q=>tl ρ fun x _=>∃ ps:List (List aA × PV),x = .dT ps/\ps.length<=16000000/\(∀ m,some m ∈ fK fr ρ->flat m.val=true)/\∃ I:Nat->List PV->Prop,I 0 []/\
 (∀ i k acc,(ps.map (·.1))[i]? = some k->I i acc->p (.tup (k.map kP)) false (fK fr ρ) fun ρ2=>tc ρ2 fun b=>if b=true then te ρ2 fun y gy=>(Nw gy y/\flat y=true)/\I (i+1) (acc ++ [y]) else I (i+1) acc)/\∀ acc,I ps.length acc->Q (.lst acc) .fr
theorem aR0 {tl:aE}{fr:List (Option Nat)}{p:iC}{g:TG}{tc:bT}{te:aE}{own:Nat->Prop} (hg:lY X.K own p g) (ho:∀ i,own i->fr[i]? = some none) (h:LE X (sQ tl fr p tc te) σ H Q') :
  R4 X (qG (R3 (LE X tl)) fr (fun _=>g) (fun H1=>LT (X.frm H1) tc) (fun H1=>LE (X.frm H1) te)) σ H Q':=by
 obtain ⟨W,ρ,Q,px,q,k⟩:=h
 refine⟨W,ρ,_,px,q,?_⟩
 rintro v H1 x g0 s r ⟨ps,rfl,hl,fl,I,i0,turn,fin⟩
 cases r with
 | @dT a kvs _ m ha ek rv=>
 refine⟨a,kvs,rfl,ha,fun o ys pk D hD=>?_⟩
 have px1:=px.mono s
 have lk:ys.length=ps.length:=by
  have:=pk.length
  rw [bg5] at this
  rw [this]; exact oI ek
 have hDa:D ≠ a:=fun z=>by rw [z,b8] at hD; cases hD
 have hD1:H1 D=none:=by rw [aH hDa] at hD; exact hD
 have nofr:∀ o' v',X.H₀ a ≠ some (.frz o' v'):=fun o' v' e=>by have:=px1.same _ _ e; rw [ha] at this; cases this
 refine⟨fun i m acc H'=>m=ps.length - i/\i<=ps.length/\aD (upd H1 a (.frz o (.dT kvs))) H'/\H' D=some (.lst acc)/\∃ zs,Reps X.K (fun _=>False) H' acc zs/\flats zs=true/\zs.length<=i/\I i zs,⟨ps.length,by omega,bk5 _,bE hD _,b8,[],.nil,rfl,bg1 _,i0⟩,?_⟩
 rintro i m acc H' ⟨rfl,hi,sm,hl',zs,rz,fz,hz,iz⟩
 refine⟨hl',?_⟩
 have fro:H' a=some (.frz o (.dT kvs)):=sm _ _ b8
 by_cases hlt:i < ps.length
 ·refine .inr ⟨⟨⟨_,fro⟩,by omega⟩,fun v2 H2 y=>?_⟩
  obtain ⟨rfl,hy⟩:=y
  obtain ⟨key,hk,q2,rfl,hq2⟩:=Y3 pk hy
  rw [ek] at hk
  have rx:aF X.K (Ms (upd H1 a (.frz o (.dT kvs))) (gF D) false) H2 (.ref q2) (.tup (key.map kP)):=.tup (sm _ _ (by rw [aH (fun z=>by rw [z,ha] at hq2; cases hq2)]; exact hq2)) (Reps.keys key)
  have pxb:=aQ9 (fr:=fr) px1 ha hD sm hl' fl
  refine hg (upd H1 a (.frz o (.dT kvs))) (gF D) _ _ H2 _ _ false _ _ pxb rx (turn i key zs hk iz) fun σ2 ρ2 px2 hown hlen q2=>⟨⟨hlen.symm,fun j w e=>?_⟩,?_⟩
  ·by_cases oj:own j
   ·have:=ho j oj
    unfold dO at e
    rw [bh1,this] at e
    cases e
   ·rw [hown j oj]; exact e
  ·refine⟨gF D,ρ2,_,px2,q2,fun b H4 s4 q4=>?_⟩
   have hl4:=s4 _ _ hl'
   have sm4:=sm.trans s4
   cases b with
   | false=>exact aO ⟨ps.length - (i+1),by omega,rfl,hlt,sm4,hl4,zs,rz.same s4 fun _ z=>z,fz,by omega,by simpa using q4⟩
   | true=>
    refine aW ⟨gF D,ρ2,_,px2.mono s4,by simpa using q4,?_⟩
    rintro w H5 y gy s5 ryy ⟨⟨nw,fy⟩,q5⟩
    have hl5:=s5 _ _ hl4
    have lr:=rz.length
    refine⟨hl5,gT (by omega),ps.length - (i+1),by omega,rfl,hlt,fun b o' e=>?_,b8,zs ++ [y],?_,Y4 fz fy,by rw [bh9,bq2]; omega,q5⟩
    ·rw [aH (fun z=>by rw [z,hD] at e; cases e)]
     exact s5 _ _ (sm4 _ _ e)
    ·exact ((rz.same (s4.trans s5) fun _ z=>z).append (.cons (ryy.flat fy) .nil)).keep (.upd hl5 rfl fun b z=>z.elim)
 ·obtain rfl:i=ps.length:=by omega
  refine .inl ⟨⟨⟨_,fro⟩,lk.symm⟩,a,o,.dT kvs,fro,nofr,k _ _ _ .fr (fun b x e=>?_) (.lst (s.free hD1) (by rw [aH hDa]; exact hl') (Reps.thaw fro fz rz)) (fin zs iz)⟩
  have e1:=s _ _ e
  by_cases hb:b=a
  ·subst hb
   rw [ha] at e1; cases e1
   exact b8
  ·rw [aH hb]
   exact sm _ _ (by rw [aH hb]; exact e1)
end
section
variable {X : Cx} {scope : Scope} {N : List Str} {fr : List (Option Nat)} {x : Str} {tp pos : Pos} {iter elt c : Expr} {tl te : aE} {tcs : bT}
theorem aR1 (hi:QE X iter tl) (ht:∀ (s:Shared) (H:Hp) (C:Addr) (fp:List Addr),QT (bD X scope N s H C fp bV) c tcs) (he:∀ (s:Shared) (H:Hp) (C:Addr) (fp:List Addr),QE (bD X scope N s H C fp bV) elt te)
  (hc:X.calm=true:=by rfl) (S:cO X scope N fr:=by exact cO.of rfl rfl) (hN:N.Nodup:=by decide +kernel) (h0:N[0]? = some x:=by rfl) (hl:∀ (s:Shared) (H:Hp) (C:Addr) (fp:List Addr),(bD X scope N s H C fp bV).env.scope.names.lookup x=some .local:=by intro _ _ _ _; rfl) (hf:fr[0]? = some none:=by rfl)
  (hs:∀ x,foldedSetIterable iter X.env x=pure x:=by intro _; rfl):QE X (.ListComp elt [⟨.Name x tp,iter,[c],0⟩] scope pos) (sQ tl fr (bI 0) tcs te):=
 bQ (aG9 (qH (gh:=fun _=>cF 0) (tch:=fun H=>LT (X.frm H) tcs) (teh:=fun H=>LE (X.frm H) te) hc S (aG8 hi) (rH he (fun s H C fp=>uV (ht s H C fp)) hN h0 hl) hs)) fun _ _ _=>aR0 (lZ _ 0) (fun i e=>by subst e; exact hf)
end
theorem pC {us:List Value} (h:us.length=1):∃ a,us = [a]:=List.length_eq_one_iff.mp h
theorem xO {us:List Value} (h:us.length=2):∃ a b,us = [a,b]:=by
 cases us with
 | nil=>cases h
 | cons a r=>
  obtain ⟨b,rfl⟩:=pC (us:=r) (by simpa using h)
  exact⟨a,b,rfl⟩
theorem sR {us:List Value} (h:us.length=3):∃ a b c,us = [a,b,c]:=by
 cases us with
 | nil=>cases h
 | cons a r=>
  obtain ⟨b,c,rfl⟩:=xO (us:=r) (by simpa using h)
  exact⟨a,b,c,rfl⟩
theorem Y5 {us:List Value} (h:us.length=4):∃ a b c d,us = [a,b,c,d]:=by
 cases us with
 | nil=>cases h
 | cons a r=>
  obtain ⟨b,c,d,rfl⟩:=sR (us:=r) (by simpa using h)
  exact⟨a,b,c,d,rfl⟩
section
variable {K : PySem.W.Frag} {H0 : Hp} {W W' : Addr → Prop} {σ : St} {ρ : bG} {H Hs : Hp}
theorem PX.grow {nw:Addr->Prop} (p:PX K H0 W σ ρ Hs) (s:aD Hs H) (h:∀ b,nw b->Hs b=none/\∃ o,H b=some o/\fZ o=true):PX K H0 (fun b=>W b ∨ nw b) σ ρ H:=by
 have off:∀ b o,Hs b=some o->¬ nw b:=fun b o e z=>by rw [(h b z).1] at e; cases e
 have kp:∀ g,gU (Ms H0 W g) (Ms H0 (fun b=>W b ∨ nw b) g) Hs H:=fun g=>by
  have m:∀ b o,Ms H0 W g b->Hs b=some o->Ms H0 (fun b=>W b ∨ nw b) g b:=fun b o z e=>by
   cases g with
   | true=>exact⟨fun y=>y.elim z.1 (off b o e),z.2⟩
   | false=>exact fun y=>y.elim z (off b o e)
  exact⟨fun b _ z e=>⟨m b _ z e,s _ _ e⟩,fun b _ z e=>⟨m b _ z e,s _ _ e⟩,fun b _ z e=>⟨m b _ z e,s _ _ e⟩,fun _ _ e=>s _ _ e,fun _ _ _ e=>s _ _ e⟩
 refine⟨p.len,p.same.trans s,fun b z=>?_,fun j m e=>?_,p.dis⟩
 ·rcases z with z | z
  ·obtain ⟨h1,o,h2,h3⟩:=p.wm b z
   exact⟨h1,o,s _ _ h2,h3⟩
  ·exact⟨p.same.free (h b z).1,(h b z).2⟩
 ·obtain ⟨u,e1,q⟩:=p.sl j m e
  refine⟨u,e1,?_⟩
  cases m with
  | sh g y=>exact aF.keep (kp g) q
  | own y=>
   obtain ⟨b,e2,e3,q⟩:=q
   exact⟨b,e2,.inl e3,q.keep (kp true) fun o z=>s _ _ z⟩
theorem PX.name {i:Nat}{a:Addr}{x:PV} (p:PX K H0 W σ ρ H) (wa:W a) (r:g9 K (Ms H0 W true) H a x) (free:∀ j y,ρ[j]? = some (some (.own y))->j ≠ i->σ[j]? ≠ some (some (.ref a))):PX K H0 W (σ.set i (some (.ref a))) (ρ.set i (some (.own x))) H:=by
 refine⟨by rw [bl0,bl0]; exact p.len,p.same,p.wm,fun j m h=>?_,fun j k y z b h1 h2 h3 h4=>?_⟩
 ·rcases dA h with ⟨rfl,hl,e⟩ | ⟨hne,h⟩
  ·cases e
   rw [p.len] at hl
   exact⟨_,bk4 hl,a,rfl,wa,r⟩
  ·obtain ⟨u,e,q⟩:=p.sl j m h
   exact⟨u,by rw [bi1 (Ne.symm hne)]; exact e,q⟩
 ·rcases dA h1 with ⟨e1,l1,_⟩ | ⟨n1,h1⟩
  ·rcases dA h2 with ⟨e2,_,_⟩ | ⟨n2,h2⟩
   ·rw [e1,e2]
   ·rw [e1,bk4 (by rw [<- p.len]; exact l1)] at h3
    rw [bi1 (Ne.symm n2)] at h4
    cases h3
    exact absurd h4 (free k z h2 n2)
  ·rw [bi1 (Ne.symm n1)] at h3
   rcases dA h2 with ⟨e2,l2,_⟩ | ⟨n2,h2⟩
   ·rw [e2,bk4 (by rw [<- p.len]; exact l2)] at h4
    cases h4
    exact absurd h3 (free j y h1 n1)
   ·rw [bi1 (Ne.symm n2)] at h4
    exact p.dis j k y z b h1 h2 h3 h4
end
section
variable {X : Cx} {e : Expr} {te : aE} {D : c9} {σ : St} {H : Hp} {pos : Pos}
def xP (i j:Nat) (te:aE):aK:=fun D ρ=>te ρ fun x g=>∃ xs ps,i ≠ j/\g = .fr/\x = .tup [.lst xs,.dT ps]/\flats xs=true/\flats (ps.map (·.2))=true/\D.nx ((ρ.set i (some (.own (.lst xs)))).set j (some (.own (.dT ps))))
theorem aR2 {i j:Nat} (h:LS X (xP i j te) D σ H):jH (LE X te) (jG X.K 2 (eO (cF i) (eO (cF j) jF))) D σ H:=by
 obtain ⟨W,ρ,D',px,q,k⟩:=h
 refine⟨W,ρ,_,px,q,?_⟩
 rintro v H1 x g s r ⟨xs,ps,hij,rfl,rfl,f1,f2,q⟩
 obtain ⟨t,us,rfl,ht,r2⟩:=r.sqT
 obtain ⟨u1,u2,rfl,ra,rb⟩:=r2.two
 cases ra with
 | @lst a ws _ ma ea rxs=>
 cases rb with
 | @dT b kvs _ mb eb ek rvs=>
 have hab:a ≠ b:=fun z=>by rw [z,eb] at ea; cases ea
 have p1:=px.grow (nw:=fun c=>c=a ∨ c=b) s (fun c z=>by
  rcases z with rfl | rfl
  ·exact⟨ma,_,ea,rfl⟩
  ·exact⟨mb,_,eb,rfl⟩)
 have off:∀ (l:Nat) (y:PV) (c:Addr),H c=none->ρ[l]? = some (some (.own y))->σ[l]? ≠ some (some (.ref c)):=fun l y c hc h1 h2=>by
  obtain ⟨u,e1,c',e2,e3,_⟩:=px.sl l _ h1
  rw [h2] at e1
  cases e1
  cases e2
  exact (px.new hc).1 e3
 have p2:=p1.name (i:=i) (a:=a) (x:=.lst xs) (.inr (.inl rfl)) ⟨ws,ea,rxs.flat f1⟩ fun l y h1 _=>off l y a ma h1
 have p3:=p2.name (i:=j) (a:=b) (x:=.dT ps) (.inr (.inr rfl)) ⟨kvs,eb,ek,rvs.flat f2⟩ fun l y h1 hlj h2=>by
  rcases dA h1 with ⟨e1,l1,_⟩ | ⟨n1,h1⟩
  ·rw [e1,bk4 (by rw [<- px.len]; exact l1)] at h2
   cases h2
   exact hab rfl
  ·rw [bi1 (Ne.symm n1)] at h2
   exact off l y b mb h1 h2
 refine⟨t,_,rfl,aL.of ht,rfl,_,_,rfl,_,_,rfl,rfl,?_⟩
 exact k.nx _ _ H1 _ (fun c o hc nc=>⟨s _ _ hc,fun z=>z.elim nc fun z=>by
  rcases z with rfl | rfl
  ·rw [show H c=none from ma] at hc; cases hc
  ·rw [show H c=none from mb] at hc; cases hc⟩) p3 q
theorem aR3 (i j:Nat) {x y:Str}{tp xp yp:Pos}{kt:Nat} (hN:X.N.Nodup) (he:QE X e te) (hx:X.N[i]? = some x:=by rfl) (hy:X.N[j]? = some y:=by rfl) (hlx:gN X.env.scope x:=by first | exact Or.inl rfl | exact Or.inr rfl) (hly:gN X.env.scope y:=by first | exact Or.inl rfl | exact Or.inr rfl)
  (hfx:X.fn x=true ∨ X.env.scope.names.lookup x=some .local:=by first | exact .inl rfl | exact .inr rfl) (hfy:X.fn y=true ∨ X.env.scope.names.lookup y=some .local:=by first | exact .inl rfl | exact .inr rfl) (hc:X.calm=true:=by rfl)
  (hs:swapsWithSole [.Tuple [.Name x xp,.Name y yp] kt tp] e pos.line X.env=pure false:=by rfl) (hw:swappedStores [.Tuple [.Name x xp,.Name y yp] kt tp] e X.env=pure none:=by rfl):QS X (.Assign [.Tuple [.Name x xp,.Name y yp] kt tp] e pos) (xP i j te):=by
 have g:PG X (.Tuple [.Name x xp,.Name y yp] kt tp) (jG X.K 2 (eO (cF i) (eO (cF j) jF))):=lH hc (fT (eB hN hx hlx hfx) (fT (eB hN hy hly hfy) lG))
 exact dC (yI he g hs hw) fun _ _ _=>aR2
end
section
variable {X : Cx} {e : Expr} {tk : aE} {D : c9} {σ : St} {H : Hp} {pos : Pos}
def xQ (i:Nat) (tk:aE):aK:=fun D ρ=>∃ ps,ρ[i]? = some (some (.own (.dT ps)))/\tk ρ fun y _=>∃ k,y = .tup (k.map kP)/\(∃ j:Nat,(ps.map (·.1))[j]? = some k)/\∀ j:Nat,(ps.map (·.1))[j]? = some k->D.nx (ρ.set i (some (.own (.dT (ps.eraseIdx j)))))
theorem aR4 {i:Nat} (h:LS X (xQ i tk) D σ H):lD (R8 (eN i) (LE X tk)) D σ H:=by
 obtain ⟨W,ρ,D',px,⟨ps,hi,q⟩,k⟩:=h
 obtain ⟨v,ev,a,rfl,wa,kvs,ea,e1,r⟩:=px.sl i _ hi
 refine⟨_,ev,a,rfl,.inr ⟨kvs,.inl ea⟩,W,ρ,_,px,q,?_⟩
 rintro kv H2 y g s ry ⟨kk,rfl,is,q⟩
 obtain ⟨b,us,rfl,hb,rb⟩:=ry.sqT
 obtain rfl:=qZ rb
 have ea2:=s _ _ ea
 refine⟨kvs,kk,b,ea2,rfl,hb,by rw [e1]; exact is,fun j v hj=>?_⟩
 rw [e1] at hj
 refine k.nx W σ _ _ ((Ev.same s).trans (Ev.upd wa)) ((px.mono s).updT hi ev wa ⟨?_,?_⟩) (q j hj)
 ·rw [Raw.kW,Raw.kW,e1]
 ·rw [Raw.kW,Raw.kW]
  exact ((r.same s fun _ z=>z).eraseIdx j).keep (.upd ea2 rfl fun b m=>⟨iY wa m,m⟩)
theorem aR5 (i:Nat) {x:Str}{apos cpos xpos:Pos} (hu:X.A.units+1 < cLine) (he:QE X e tk) (hm:M1 X (.Name x xpos) "pop" apos e cpos:=by exact⟨rfl,rfl,rfl,rfl⟩) (hN:X.N[i]? = some x:=by rfl) (hv:eM X.env.scope x:=by first | exact Or.inl rfl | exact Or.inr (Or.inl rfl) | exact Or.inr (Or.inr rfl)) (hd:(x == ("__debug__" : Str))=false:=by decide) (hcd:(x == ("__classdict__" : Str))=false:=by decide)
  (hsw:swapsWith (.Call (.Attribute (.Name x xpos) "pop" apos) [e] [] cpos) none pos.line X.env=pure false:=by rfl):QS X (.Expr (.Call (.Attribute (.Name x xpos) "pop" apos) [e] [] cpos) pos) (xQ i tk):=
 dC (kA (aH3 hu (fS hN hv hd hcd) he hm) hsw) fun _ _ _=>aR4
end
def spS (K:PySem.W.Frag) (p:bC):Sp:=fun vs H Q _=>∃ xs Qp,Reps K (fun _=>True) H vs xs/\p xs Qp/\∀ v H' x,aD H H'->aF K (fun _=>True) H' v x->Qp x->Q v H'
structure mT (P:Program) (w:World) (K:PySem.W.Frag) (mg:Str->Option Value) (base:Heap) (k:Nat) (x:Str) (ps:List Str) (p:bC):Prop where
 ex:∃ f fd,cT P w K mg base cZ k f fd ps (spS K p)/\gQ K fd ps []/\PySem.W.keepIn K (.ref f)=true/\mg x=some (.ref f)
def mU (X:Cx) (last:TS):List aK->TS
 | []=>last
 | t :: r=>tQ (LS X t) (mU X last r)
def pD (i:Nat) (rs:PV->Prop):List aK->aK
 | []=>fun _ ρ=>∃ m,ρ[i]? = some (some m)/\rs m.val
 | t :: r=>fun D ρ=>t { D with nx:=pD i rs r D } ρ
section
variable {X : Cx} {i : Nat}
theorem Y6 {rs:PV->Prop}{D':iX}{D:c9} (hrs:∀ v H' x,aD X.H₀ H'->aF X.K (fun _=>True) H' v x->rs x->D.rt v H'):∀ (ts:List aK) {W:Addr->Prop}{ρ:bG}{H:Hp}{σ:St},PX X.K X.H₀ W σ ρ H->pD i rs ts D' ρ->lR X W H D' D->mU X (lE (eN i)) ts D σ H
 | [],W,ρ,H,σ,px,q,k=>by
  obtain ⟨m,e,q⟩:=q
  obtain ⟨v,ev,r⟩:=px.sl i m e
  exact⟨v,ev,hrs v H m.val px.same ((qP (Hs:=H) r).same (aD.refl _) fun _ _=>trivial) q⟩
 | t :: r,W,ρ,H,σ,px,q,k=>⟨W,ρ,{ D' with nx:=pD i rs r D' },px,q,⟨fun W' σ' H' ρ' e px' q'=>Y6 hrs r px' q' (k.step e),k.rt,k.bk,k.ct⟩⟩
theorem aR6 (i:Nat) {x:Str}{p2 pos:Pos} (hN:X.N[i]? = some x:=by rfl) (hv:eM X.env.scope x:=by first | exact Or.inl rfl | exact Or.inr (Or.inl rfl) | exact Or.inr (Or.inr rfl)) (hd:(x == ("__debug__" : Str))=false:=by decide) (hcd:(x == ("__classdict__" : Str))=false:=by decide) :
  cU X [.Return (some (.Name x p2)) pos] (mU X (lE (eN i)) []):=lC (lF (fS hN hv hd hcd))
theorem sS {st:Stmt}{sts:List Stmt}{t:aK}{ts:List aK}{last:TS} (h1:QS X st t) (h2:cU X sts (mU X last ts)):cU X (st :: sts) (mU X last (t :: ts)):=nK h1 h2
variable {tr : cK} {e : Expr} {es : List Expr} {pos p2 : Pos}
def xR (p:bC) (t:cK):aE:=fun ρ Q=>t ρ fun xs=>p (xs.map (·.1)) fun z=>Q z .rd
theorem aR7 {k j:Nat}{x:Str}{ps:List Str}{p:bC} (d:mT X.prog X.w X.K X.mg X.base k x ps p) (hr:bS j X.A) (ha:QA X (e :: es) tr) (hkj:k<=j:=by decide) (hg:Gl X x:=by rfl) (hdb:(x == ("__debug__" : Str))=false:=by decide)
  (he:starEach (e :: es) X.env=(false,eval e X.env) :: starEach es X.env:=by rfl) (hpl:(backTo pos (starEach es X.env)).any (·.1)=false:=by rfl):QE X (.Call (.Name x p2) (e :: es) [] pos) (xR p tr):=by
 obtain ⟨f,fd,F,b,kp,m⟩:=d.ex
 refine bQ (pN F (hr.mono hkj) hg m kp b .nil C3 ha hdb he hpl) fun σ H Q' h=>?_
 obtain ⟨W,ρ,Q,px,q,k⟩:=h
 exact⟨W,ρ,_,px,q,fun vs H1 xs s1 r1 q1=>⟨_,_,by rw [bi9]; exact r1.any,q1,fun v H' x s2 r2 q2=>k v H' x .rd (s1.trans s2) (r2.same (aD.refl _) fun _ _=>trivial) q2⟩⟩
end
theorem mT.of {P:Program}{w:World}{K:PySem.W.Frag}{mg:Str->Option Value}{base:Heap}{k:Nat}{x:Str}{ps N:List Str}{p:bC}{st:Stmt}{f:Addr}{fd:FuncData} (F:eC K x x st f fd) (m:mg x=some (.ref f)) (S:FnScope N ps (aQ st))
  (hb:∀ (kV doc pm:Value) (an:Option Addr) (cdv ct:Value) (us:List Value),us.length=ps.length->bindArgs (PySem.W.fnOf x x (iA st) (dN st) (aQ st) .none kV doc pm an cdv ct) ⟨us,[]⟩=pure (ps.zip us))
  (len:∀ xs Q,p xs Q->xs.length=ps.length) (i:Nat) (ts:List aK) (rd:∀ xs Q,p xs Q->pD i Q ts { nx:=fun _=>Q .non,rt:=Q } (eF N xs))
  (body:∀ (cdv:Value) (A:Around) (outer:List Env) (s:Shared) (H:Hp) (E:XK),bS k (A.deeper (PyProof.Rows.envOfC x (aQ st) s.heap.objs.size f cdv))->
   cU (cW cZ P w K mg base N x (aQ st) f cdv A outer s H E).nox (dN st) (mU (cW cZ P w K mg base N x (aQ st) f cdv A outer s H E).nox (lE (eN i)) ts)):mT P w K mg base (k+1) x ps p:=by
 refine⟨f,fd,F.ok S (fun vs H Q E h=>?_) (fun cdv A outer s H vs Q E hr h=>?_),F.binds hb,F.kp,m⟩
 ·obtain ⟨xs,Qp,r,q,_⟩:=h
  rw [r.length]; exact len xs Qp q
 ·obtain ⟨xs,Qp,r,q,k⟩:=h
  refine⟨_,body cdv A outer s H E hr,Y6 (rs:=Qp) (fun v H' x s' r' q'=>k v H' x s' r' q') ts (rG r) (rd xs Qp q) ⟨?_,?_,?_,?_⟩⟩
  ·exact fun W' σ' H' ρ' e px q=>k _ _ _ px.same .non q
  ·exact fun v H' x s' r' q'=>k _ _ _ s' (r'.same (aD.refl _) fun _ _=>trivial) q'
  ·exact fun W' σ' H' ρ' e px q=>q
  ·exact fun W' σ' H' ρ' e px q=>q
end PP
namespace Core
open PySem L2 PP
def mV:bC:=fun xs Q=>∃ c k:Int,xs = [.int c,.int k]/\0<=k/\k<=1000/\∀ z:Int,0<=z->Q (.int z)
def Y7:aK:=(aP (b9 2 (bY (vW (gG (gG (bY (a5 0) (qC (.int 1000000007))) (vW (a5 1) (a5 1))) (qC (.int 1))) (qC (.int 48271))) (qC (.int 2147483647))))
 (aZ (dB (bY (vW (a5 2) (a5 2)) (qC (.int 2147483647))) (qC (.int 8)))))
theorem aR8:cN Y7 ["cell","k","turn"] mV:=by
 rintro xs Q ⟨c,k,rfl,k0,k1,q⟩
 refine⟨_,rfl,_,_,rfl,rfl,(by show (0:Int) < 1000000007; decide),_,rfl,_,rfl,_,_,rfl,rfl,.inl ⟨by show -(2 ^ 64) < k; omega,by show k < 2 ^ 64; omega⟩,_,_,rfl,rfl,_,_,rfl,rfl,_,_,rfl,rfl,.inr ⟨by decide,by decide⟩,_,_,rfl,rfl,(by show (0:Int) < 2147483647; decide),trivial,?_⟩
 dsimp only
 have t0:0<=(c % 1000000007+k * k+1) * 48271 % 2147483647:=bo3 _ (by decide)
 have t1:(c % 1000000007+k * k+1) * 48271 % 2147483647 < 2147483647:=bq6 _ (by decide)
 generalize (c % 1000000007+k * k+1) * 48271 % 2147483647=t at t0 t1
 refine⟨_,rfl,_,rfl,_,_,rfl,rfl,.inl ⟨by show -(2 ^ 64) < t; omega,by show t < 2 ^ 64; omega⟩,_,_,rfl,rfl,(by show (0:Int) < 2147483647; decide),_,_,rfl,rfl,⟨by decide,by decide⟩,trivial,q _ ?_⟩
 have:=bo3 (t * t) (show (2147483647:Int) ≠ 0 by decide)
 omega
def NN (zs:List Int):Prop:=∀ z ∈ zs,(0:Int)<=z
def mW:bC:=fun xs Q=>∃ (w:Int) (ws ds:List Int),xs = [.int w,.lst (intz ws),.lst (intz ds)]/\ws.length<=1000/\ds.length=ws.length/\NN ws/\NN ds/\∀ zs,zs.length=ws.length->NN zs->Q (.lst (intz zs))
def Y8:List aK:=[(bM (aR (dP (a5 0) (qC (.int 1)))) (aZ (cP (dI (a5 1)) [none] (bI 0) eV (qC (.int 2)))) cA),
 (bM (aR (dP (a5 0) (qC (.int 2)))) (aZ (aC iZ (a6 (a5 2) a9))) cA),
 (bM (aR (dP (a5 0) (qC (.int 3)))) (aZ (cP (dI (a5 2)) [none] (bI 0) eV (aC kI (a6 (qC (.int 0)) (a6 (m7 (a5 0) (qC (.int 1))) a9))))) cA),
 (bM (aR (dP (a5 0) (qC (.int 4)))) (aZ (cP (dI (a5 2)) [none] (bI 0) eV (dB (gG (a5 0) (qC (.int 1))) (qC (.int 2))))) cA)]
theorem NN.app {zs:List Int}{z:Int} (h:NN zs) (hz:0<=z):NN (zs ++ [z]):=fun y hy=>by
 rcases bk1.mp hy with hy | hy
 ·exact h y hy
 ·rw [bh6.mp hy]; exact hz
theorem aR9:∀ xs Q,mW xs Q->pD 1 Q Y8 { nx:=fun _=>Q .non,rt:=Q } (eF ["way","wants","degrees"] xs):=by
 rintro xs Q ⟨w,ws,ds,rfl,hl,hd,nw,nd,q⟩
 have inv:∀ {i:Nat}{acc:List PV}{z:Int},(∃ zs,acc=intz zs/\zs.length=i/\NN zs)->0<=z->∃ zs,acc ++ [PV.int z]=intz zs/\zs.length=i+1/\NN zs:=fun {i acc z} h hz=>by
  obtain ⟨zs,rfl,h1,h2⟩:=h
  exact⟨zs ++ [z],by rw [e8]; rfl,by rw [bh9,h1]; rfl,h2.app hz⟩
 refine⟨_,rfl,.inl ⟨_,_,rfl,rfl,_,rfl,?_⟩⟩
 cases h1:(if false=true then !decide (w=1) else decide (w=1)) with
 | true=>
  refine aW ⟨_,rfl,_,rfl,(fun z=>by cases z),by rw [b7]; omega,fun i acc=>∃ zs,acc=intz zs/\zs.length=i/\NN zs,⟨[],rfl,rfl,fun _ h=>nomatch h⟩,?_,?_⟩
  ·rintro i y acc hy h
   obtain ⟨n,rfl,hn⟩:=eL hy
   exact⟨trivial,inv h (by decide)⟩
  ·rintro acc ⟨zs,rfl,h2,h3⟩
   exact⟨trivial,q zs (by rw [h2,b7]) h3⟩
 | false=>
 refine aO ⟨_,rfl,.inl ⟨_,_,rfl,rfl,_,rfl,?_⟩⟩
 cases h2:(if false=true then !decide (w=2) else decide (w=2)) with
 | true=>exact aW ⟨_,rfl,_,_,rfl,rfl,cE _,trivial,q ds hd nd⟩
 | false=>
 refine aO ⟨_,rfl,.inl ⟨_,_,rfl,rfl,_,rfl,?_⟩⟩
 cases h3:(if false=true then !decide (w=3) else decide (w=3)) with
 | true=>
  refine aW ⟨_,rfl,_,rfl,(fun z=>by cases z),by rw [b7]; omega,fun i acc=>∃ zs,acc=intz zs/\zs.length=i/\NN zs,⟨[],rfl,rfl,fun _ h=>nomatch h⟩,?_,?_⟩
  ·rintro i y acc hy h
   obtain ⟨n,rfl,hn⟩:=eL hy
   exact⟨_,rfl,_,_,rfl,rfl,_,_,rfl,trivial,inv h (by split <;> omega)⟩
  ·rintro acc ⟨zs,rfl,h2,h3⟩
   exact⟨trivial,q zs (by rw [h2,b7,hd]) h3⟩
 | false=>
 refine aO ⟨_,rfl,.inl ⟨_,_,rfl,rfl,_,rfl,?_⟩⟩
 cases h4:(if false=true then !decide (w=4) else decide (w=4)) with
 | true=>
  refine aW ⟨_,rfl,_,rfl,(fun z=>by cases z),by rw [b7]; omega,fun i acc=>∃ zs,acc=intz zs/\zs.length=i/\NN zs,⟨[],rfl,rfl,fun _ h=>nomatch h⟩,?_,?_⟩
  ·rintro i y acc hy h
   obtain ⟨n,rfl,hn⟩:=eL hy
   have n0:0<=n:=nd n (bk6 hn)
   exact⟨_,rfl,_,_,rfl,rfl,_,_,rfl,rfl,⟨by decide,by decide⟩,trivial,inv h (by omega)⟩
  ·rintro acc ⟨zs,rfl,h2,h3⟩
   exact⟨trivial,q zs (by rw [h2,b7,hd]) h3⟩
 | false=>exact aO ⟨_,rfl,q ws rfl nw⟩
abbrev DK (n:Int) (ps:List (List aA × PV)):Prop:=DL n ps ps.length
theorem DL.dk {n:Int}{ps:List (List aA × PV)}{i:Nat} (h:DL n ps i):DK n ps:=⟨h.key,bg1 _,h.fl,h.nd⟩
theorem DK.nil (n:Int):DK n []:=⟨(fun _ h=>nomatch h),bg1 _,rfl,.nil⟩
theorem xS:∀ (m:Nat) (l:List Nat),l.Nodup->(∀ x ∈ l,x < m)->l.length<=m
 | 0,[],_,_=>bg1 _
 | 0,x :: _,_,h=>absurd (h x bg7) (Nat.not_lt_zero _)
 | m+1,l,nd,h=>by
  by_cases hm:m ∈ l
  ·have h1:=xS m (l.erase m) (nd.erase m) fun x hx=>by
    obtain ⟨h2,h3⟩:=(nd.mem_erase_iff).mp hx
    have:=h x h3
    omega
   rw [List.length_erase_of_mem hm] at h1
   omega
  ·have h1:=xS m l nd fun x hx=>by
    have:=h x hx
    have:x ≠ m:=fun z=>hm (z ▸ hx)
    omega
   omega
def sT:bC:=fun xs Q=>∃ c n:Int,xs = [.int c,.int n]/\0<=n/\n<=40/\∀ ws ps,(ws.length:Int)=n->NN ws->DK n ps->Q (.tup [.lst (intz ws),.dT ps])
def Y9:aK:=(aP (gD 2 (jO a9))
 (aP (gD 3 (qC (.dT [])))
 (aP (fC (gE (a5 1)) (bI 4)
  (aP (qW 2 (bY (a5 0) (qC (.int 7))))
  (b9 0 (dB (a5 0) (qC (.int 7))))))
 (aP (fC (gE (a5 1)) (bI 5)
  (fC (vM (gG (a5 5) (qC (.int 1))) (a5 1)) (bI 6)
   (aP (bM (aR (dP (bY (a5 0) (qC (.int 2))) (qC (.int 1)))) (oJ 3 (gB (a6 (a5 5) (a6 (a5 6) a9))) (qC (.bl true))) cA)
   (b9 0 (dB (a5 0) (qC (.int 2)))))))
 (qU 2 (qU 3 (aZ (vD (a6 (a5 2) (a6 (a5 3) a9))))))))))
theorem aS0:cN Y9 ["cell","many","wants","links","hearth","one","other"] sT:=by
 rintro xs Q ⟨c,n,rfl,n0,n1,q⟩
 refine⟨by decide,rfl,rfl,rfl,rfl,rfl,?_⟩
 refine⟨_,rfl,n,rfl,by omega,by omega,fun i ρ=>∃ (c:Int) (y:Option Slot) (ws:List Int),ρ = [si c,si n,some (.own (.lst (intz ws))),some (.own (.dT [])),y,none,none]/\ws.length=i/\NN ws,⟨c,none,[],rfl,rfl,fun _ h=>nomatch h⟩,?_,?_⟩
 ·rintro i y ρ hy ⟨c,y0,ws,rfl,hl,hp⟩
  obtain ⟨rfl,hi⟩:=iH hy
  refine sM ?_
  refine⟨_,rfl,_,rfl,_,_,rfl,rfl,(by show (0:Int) < 7; decide),trivial,by rw [b7]; omega,?_⟩
  refine⟨_,rfl,_,_,rfl,rfl,⟨by decide,by decide⟩,trivial,c / 7,si (0+(i:Int)),ws ++ [c % 7],?_,by rw [bh9,hl]; rfl,hp.app (bo3 _ (by decide))⟩
  rw [e8]; rfl
 rintro ρ ⟨c,y0,ws,rfl,hl,hp⟩
 rw [dE] at hl
 have wl:(ws.length:Int)=n:=by omega
 refine⟨_,rfl,n,rfl,by omega,by omega,fun i ρ=>∃ (c:Int) (y z:Option Slot) (ps:List (List aA × PV)),ρ = [si c,si n,some (.own (.lst (intz ws))),some (.own (.dT ps)),y0,y,z]/\DL n ps (i * 40),⟨c,none,none,[],rfl,⟨(fun _ h=>nomatch h),bk5 _,rfl,.nil⟩⟩,?_,?_⟩
 ·rintro i y ρ hy ⟨c,y1,z1,ps,rfl,dl⟩
  obtain ⟨rfl,hi⟩:=iH hy
  refine sM ?_
  refine⟨_,rfl,_,_,rfl,rfl,_,rfl,_,n,rfl,rfl,⟨by omega,by omega,by omega,by omega⟩,fun j ρ=>∃ (c:Int) (z:Option Slot) (ps:List (List aA × PV)),ρ = [si c,si n,some (.own (.lst (intz ws))),some (.own (.dT ps)),y0,si (0+(i:Int)),z]/\DL n ps (i * 40+j),⟨c,z1,ps,rfl,dl⟩,?_,?_⟩
  ·rintro j y ρ hy ⟨c,z2,ps,rfl,dl⟩
   obtain ⟨rfl,hj⟩:=iH hy
   refine sM ?_
   have dl1:DL n ps (i * 40+(j+1)):=⟨dl.key,by have:=dl.len; omega,dl.fl,dl.nd⟩
   refine⟨_,rfl,_,_,rfl,rfl,(by show (0:Int) < 2; decide),.inl ⟨_,_,rfl,rfl,_,rfl,?_⟩⟩
   cases h:(if false=true then !decide (c % 2=1) else decide (c % 2=1)) with
   | true=>
    refine aW ⟨_,rfl,_,rfl,_,rfl,by show 2<=1000; decide,rfl,fG (0+(i:Int),0+(i:Int)+1+(j:Int)),rfl,trivial,by have:=dl.len; omega,?_⟩
    refine⟨_,rfl,_,_,rfl,rfl,⟨by decide,by decide⟩,trivial,c / 2,si (0+(i:Int)+1+(j:Int)),_,rfl,?_⟩
    exact dl.put _ ⟨by show (0:Int)<=0+(i:Int); omega,by show (0:Int)+(i:Int) < 0+(i:Int)+1+(j:Int); omega,by show (0:Int)+(i:Int)+1+(j:Int) < n; omega⟩
   | false=>exact aO ⟨_,rfl,_,_,rfl,rfl,⟨by decide,by decide⟩,trivial,c / 2,si (0+(i:Int)+1+(j:Int)),ps,rfl,dl1⟩
  ·rintro ρ ⟨c,z2,ps,rfl,dl⟩
   rw [dE] at dl
   exact⟨c,si (0+(i:Int)),z2,ps,rfl,⟨dl.key,by have:=dl.len; omega,dl.fl,dl.nd⟩⟩
 ·rintro ρ ⟨c,y1,z1,ps,rfl,dl⟩
  refine⟨_,rfl,_,rfl,_,rfl,_,rfl,by show 2<=1000; decide,?_,trivial,q ws ps wl hp dl.dk⟩
  intro p hp
  simp only [bg4,bh3,bk7] at hp
  rcases hp with rfl | rfl <;> trivial
theorem gK.seqTF {x:PV}{ns:List Int} (h:gK x ns):seqT x=some (intz ns):=by rcases h with rfl | rfl <;> rfl
theorem DK.put {n:Int}{ps:List (List aA × PV)} (h:DK n ps) (l:Int × Int) (hl:0<=l.1/\l.1 < l.2/\l.2 < n):DK n (cL ps (fG l) (.bl true)):=(DL.put h l hl).dk
theorem DK.cut {n:Int}{ps:List (List aA × PV)} (h:DK n ps) (j:Nat):DK n (ps.eraseIdx j):=
 ⟨fun p hp=>h.key p (List.mem_of_mem_eraseIdx hp),bg1 _,by
  rw [Raw.kW]
  have:∀ (j:Nat) {xs:List PV},flats xs=true->flats (xs.eraseIdx j)=true:=by
   intro j
   induction j with
   | zero=>
    intro xs h
    cases xs with
    | nil=>rfl
    | cons x r=>unfold flats at h; rw [bj5] at h; exact h.2
   | succ j ih=>
    intro xs h
    cases xs with
    | nil=>rfl
    | cons x r=>
     unfold flats at h
     rw [bj5] at h
     show (flat x && flats (r.eraseIdx j))=true
     rw [h.1,ih h.2]; rfl
  exact this j h.fl,(h.nd).sublist ((List.eraseIdx_sublist ps j).map _)⟩
theorem NN.set {zs:List Int}{z:Int} (h:NN zs) (hz:0<=z) (j:Nat):NN (zs.set j z):=fun y hy=>by
 rcases List.mem_or_eq_of_mem_set hy with hy | rfl
 ·exact h y hy
 ·exact hz
def mX:bC:=fun xs Q=>∃ c n:Int,xs = [.int c,.int n]/\0<=n/\n<=40/\∀ S,aT n.toNat S=true->Q (.tup (intz S))
def Z0:aK:=(aP (bM (aR (dP (bY (a5 0) (qC (.int 2))) (qC (.int 1)))) (aZ (aC dF (a6 (cP (gE (a5 1)) [none,some 0] (bI 0) (aR (dP (bY (az3 (a5 1) (gG (a5 0) (qC (.int 1)))) (qC (.int 2))) (qC (.int 1)))) (a5 0)) a9))) cA)
 (aZ (aC dF (a6 (cP (gE (a5 1)) [none,some 0] (bI 0) (aR (r9 (bY (aC mV (a6 (a5 1) (a6 (a5 0) a9))) (qC (.int 8))) (gG (qC (.int 1)) (bY (dB (a5 1) (qC (.int 2))) (qC (.int 7)))))) (a5 0)) a9))))
def hZ (i:Nat) (S:List Int):Prop:=S.Pairwise (· < ·)/\∀ x ∈ S,0<=x/\x < (i:Int)
theorem hZ.more {i:Nat}{S:List Int} (h:hZ i S):hZ (i+1) S:=⟨h.1,fun x hx=>by have:=h.2 x hx; omega⟩
theorem hZ.app {i:Nat}{S:List Int} (h:hZ i S):hZ (i+1) (S ++ [(0:Int)+(i:Int)]):=by
 refine⟨bk8.mpr ⟨h.1,bo7 _ _,fun a ha b hb=>?_⟩,fun x hx=>?_⟩
 ·rw [bh6.mp hb]
  have:=h.2 a ha
  omega
 ·rcases bk1.mp hx with hx | hx
  ·have:=h.2 x hx; omega
  ·rw [bh6.mp hx]; omega
theorem hZ.set {i:Nat}{S:List Int} (h:hZ i S):aT i S=true:=by
 unfold aT
 rw [wR h.1,Bool.true_and,bo6]
 intro b hb
 obtain ⟨x,hx,rfl⟩:=bm8.mp hb
 have:=h.2 x hx
 unfold inB
 simp only [id,bj5,bj9]
 exact this
theorem aS1:cN Z0 ["cell","many"] mX:=by
 rintro xs Q ⟨c,n,rfl,n0,n1,q⟩
 refine⟨_,rfl,_,_,rfl,rfl,(by show (0:Int) < 2; decide),.inl ⟨_,_,rfl,rfl,_,rfl,?_⟩⟩
 cases h1:(if false=true then !decide (c % 2=1) else decide (c % 2=1)) with
 | true=>
  refine aW ⟨_,rfl,n,rfl,by omega,by omega,by rw [dE]; omega,fun i acc=>∃ S,acc=intz S/\hZ i S,⟨[],rfl,.nil,fun _ h=>nomatch h⟩,?_,?_⟩
  ·rintro i y acc hy ⟨S,rfl,hS⟩
   obtain ⟨rfl,hi⟩:=iH hy
   refine⟨_,rfl,_,rfl,_,_,rfl,rfl,_,_,rfl,rfl,(by show (0:Int)<=0+(i:Int)+1; omega),_,_,rfl,rfl,(by show (0:Int) < 2; decide),.inl ⟨_,_,rfl,rfl,_,rfl,?_⟩⟩
   dsimp only
   generalize (if false=true then _ else _)=b
   cases b with
   | true=>exact aW ⟨_,rfl,trivial,S ++ [(0:Int)+(i:Int)],by rw [e8]; rfl,hS.app⟩
   | false=>exact aO ⟨S,rfl,hS.more⟩
  ·rintro acc ⟨S,rfl,hS⟩
   rw [dE] at hS
   exact⟨⟨_,_,rfl,rfl,cE _,trivial,q S hS.set⟩,fun ns z=>by cases z⟩
 | false=>
  refine aO ⟨_,rfl,n,rfl,by omega,by omega,by rw [dE]; omega,fun i acc=>∃ S,acc=intz S/\hZ i S,⟨[],rfl,.nil,fun _ h=>nomatch h⟩,?_,?_⟩
  ·rintro i y acc hy ⟨S,rfl,hS⟩
   obtain ⟨rfl,hi⟩:=iH hy
   refine⟨_,rfl,_,rfl,c,_,rfl,by omega,by omega,fun z z0=>⟨_,_,rfl,rfl,(by show (0:Int) < 8; decide),_,rfl,_,_,rfl,rfl,⟨by decide,by decide⟩,_,_,rfl,rfl,(by show (0:Int) < 7; decide),_,_,rfl,rfl,_,_,rfl,rfl,_,rfl,?_⟩⟩
   dsimp only
   generalize decide ((_:Int) < _)=b
   cases b with
   | true=>exact aW ⟨_,rfl,trivial,S ++ [(0:Int)+(i:Int)],by rw [e8]; rfl,hS.app⟩
   | false=>exact aO ⟨S,rfl,hS.more⟩
  ·rintro acc ⟨S,rfl,hS⟩
   rw [dE] at hS
   exact⟨⟨_,_,rfl,rfl,cE _,trivial,q S hS.set⟩,fun ns z=>by cases z⟩
def l9:cY:=fun Ep xs Q=>∃ ws ls x S,xs = [bJ ws ls,x]/\Wb ws ls/\cQ x S/\S.length<=1000/\(aT ws.length S=true->∀ k,stay ws ls (bO ws ls S k)=bO ws ls S k->Q (.tup (intz (bO ws ls S k))))/\(aT ws.length S=false->Ep "BadSet")
def Z1 (Ep:Str->Prop):aK:=(aP (b9 2 (aC kY (a6 (a5 0) a9)))
 (aP (b9 3 (eZ Ep fQ (a6 (a5 0) (a6 (a5 1) a9))))
 (aP (b9 4 (aC l0 (a6 (a5 0) (a6 (a5 2) (a6 (a5 3) a9)))))
 (aP (qV (aR (q2 (iD 2 true) (a5 4) (a5 3)))
  (aP (b9 3 (a5 4))
  (b9 4 (aC l0 (a6 (a5 0) (a6 (a5 2) (a6 (a5 3) a9)))))))
 (iB 3)))))
theorem aS2:iL Z1 ["web","some","around","left","kept"] l9:=by
 rintro Ep xs Q ⟨ws,ls,x,S,rfl,wb,hx,hl,q,qe⟩
 refine⟨_,rfl,ws,ls,rfl,wb,trivial,?_⟩
 refine⟨_,rfl,_,rfl,ws,ls,x,S,rfl,hx,hl,fun hs=>⟨trivial,?_⟩,qe⟩
 have q:=q hs
 refine⟨_,rfl,_,rfl,_,rfl,ws,ls,_,S,rfl,wb,.inl rfl,hs,trivial,?_⟩
 refine⟨fun n ρ=>∃ k,ρ = [some (.sh (flat (bJ ws ls)) (bJ ws ls)),some (.sh (flat x) x),some (.sh true (.lst (jZ ws.length ls))),some (.sh true (.tup (intz (bO ws ls S k)))),some (.sh true (.tup (intz (stay ws ls (bO ws ls S k)))))]/\n=(bO ws ls S k).length,⟨_,0,rfl,rfl⟩,?_⟩
 rintro n ρ ⟨k,rfl,rfl⟩
 refine⟨_,rfl,_,rfl,.inl ⟨_,_,rfl,rfl⟩,m5 2 _ _,_,rfl,?_⟩
 show if (!bU 3 (PV.tup (intz (stay ws ls (bO ws ls S k)))) (PV.tup (intz (bO ws ls S k))))=true then _ else _
 rw [m3]
 by_cases h:stay ws ls (bO ws ls S k)=bO ws ls S k
 ·rw [bg3 h]
  exact aO ⟨_,rfl,trivial,q k h⟩
 ·rw [bg2 h]
  refine aW ⟨_,rfl,trivial,?_⟩
  refine⟨_,rfl,_,rfl,_,rfl,ws,ls,_,_,rfl,wb,.inl rfl,p9 hs (k+1),trivial,?_⟩
  exact⟨_,V9 h,k+1,rfl,rfl⟩
def sU:bC:=fun xs Q=>∃ ws ls h,xs = [bJ ws ls,.int h]/\(∀ l ∈ ls,l.1 ≠ l.2)/\ls.length<=1700/\Q (.lst (intz (bW ls h)))
def Z2:aK:=(aZ (cP (dI (dQ (a5 0) (qC (.int 1)))) [none,none,some 1] (oF 0 1) (aR (q2 (fL false) (a5 2) (gB (a6 (a5 0) (a6 (a5 1) a9))))) (m7 (gG (a5 0) (a5 1)) (a5 2))))
theorem aS3:cN Z2 ["web","hearth"] sU:=by
 rintro xs Q ⟨ws,ls,h,rfl,hne,hl,q⟩
 refine⟨_,rfl,_,_,_,rfl,rfl,rfl,k7 ls,rfl,(fun z=>sD ls),by rw [U2]; omega,fun i acc=>acc=intz (bW (ls.take i) h),rfl,?_,?_⟩
 ·rintro i y acc hy rfl
  obtain ⟨l,rfl,hi⟩:=aJ1 hy
  have tk:=E8 hi h
  have ne:=hne l (bk6 hi)
  refine⟨_,_,rfl,_,rfl,_,rfl,_,rfl,by show 2<=1000; decide,rfl,h,[l.1,l.2],rfl,rfl,_,rfl,?_⟩
  show if decide (h ∈ [l.1,l.2])=true then _ else _
  by_cases h1:l.1=h
  ·rw [if_pos h1,if_neg (by rw [<- h1]; exact Ne.symm ne)] at tk
   rw [bg3 (by rw [<- h1]; exact bg7)]
   refine aW ⟨_,rfl,_,rfl,_,_,rfl,rfl,_,rfl,_,_,rfl,rfl,trivial,?_⟩
   dsimp only
   rw [tk,e8,show l.1+l.2 - h=l.2 by omega]
   simp
  ·by_cases h2:l.2=h
   ·rw [if_neg h1,if_pos h2] at tk
    rw [bg3 (by rw [<- h2]; simp)]
    refine aW ⟨_,rfl,_,rfl,_,_,rfl,rfl,_,rfl,_,_,rfl,rfl,trivial,?_⟩
    dsimp only
    rw [tk,e8,show l.1+l.2 - h=l.1 by omega]
    simp
   ·rw [if_neg h1,if_neg h2] at tk
    rw [bg2 (by simp; exact⟨Ne.symm h1,Ne.symm h2⟩)]
    refine aO ?_
    dsimp only
    rw [tk]; simp
 ·rintro acc rfl
  rw [U2,bk9]
  exact⟨trivial,q⟩
def sV:bC:=fun xs Q=>∃ ws ls S,xs = [bJ ws ls,.tup (intz S)]/\(∀ l ∈ ls,l.1 ≠ l.2)/\ls.length<=1700/\(∀ x ∈ S,0<=x/\x < (ws.length:Int))/\Q (.bl (decide (stay ws ls S=S)))
def Z3:aK:=(aP (fC (dI (a5 1)) (bI 2)
  (bM (aR (vX (aC dD (a6 (cP (dI (aC sU (a6 (a5 0) (a6 (a5 2) a9)))) [none,some 1] (bI 0) (aR (q2 (fL true) (a5 0) (a5 1))) (a5 0)) a9)) (dQ (dQ (a5 0) (qC (.int 0))) (a5 2)))) (aZ (qC (.bl false))) cA))
 (aZ (qC (.bl true))))
theorem aS4 (S:List Int):∀ ns:List Int,(((ns.filter fun x=>!decide (x ∈ S)).length:Nat):Int)=hV ns S:=by
 intro ns
 unfold hV
 induction ns with
 | nil=>rfl
 | cons x r ih=>
  by_cases h:x ∈ S
  ·simp only [bu1,h,decide_true,Bool.not_true,bi0,bm6,if_true,bj0]
   omega
  ·simp only [bu1,h,decide_false,Bool.not_false,bi0,bm6,if_true,bj0]
   omega
theorem aS5:cN Z3 ["web","block","hearth"] sV:=by
 rintro xs Q ⟨ws,ls,S,rfl,hne,hl,hS,q⟩
 have fw:flat (bJ ws ls)=true:=S5 ws ls
 refine⟨_,rfl,_,rfl,(fun _=>oX S),fun i ρ=>∃ y,ρ = [some (.sh (flat (bJ ws ls)) (bJ ws ls)),some (.sh (flat (.tup (intz S))) (.tup (intz S))),y]/\∀ x ∈ S.take i,eY ws ls S x=true,⟨none,rfl,fun _ h=>nomatch h⟩,?_,?_⟩
 ·rintro i y ρ hy ⟨y0,rfl,hst⟩
  obtain ⟨h,rfl,hi⟩:=eL hy
  have hb:=hS h (bk6 hi)
  have gw:ws[h.toNat]? = some (ws.getD h.toNat 0):=by
   rw [bh2,bf9 (by omega)]; rfl
  have ix:L2.atI (intz ws) h=some (.int (ws.getD h.toNat 0)):=by
   have:=pO (xs:=intz ws) (j:=h.toNat) (by rw [bh1,gw]; rfl)
   rwa [show ((h.toNat:Nat):Int)=h by omega] at this
  refine⟨_,rfl,_,rfl,ws,ls,h,rfl,hne,hl,_,rfl,(fun z=>by cases z),?_,fun j acc=>acc=intz (((bW ls h).take j).filter fun x=>!decide (x ∈ S)),rfl,?_,?_⟩
  ·rw [b7]; have:=o7 ls h; omega
  ·rintro j z acc hz rfl
   obtain ⟨n,rfl,hn⟩:=eL hz
   have tk:=jX (p:=fun z=>!decide (z ∈ S)) hn
   refine⟨_,rfl,_,rfl,n,S,rfl,rfl,_,rfl,?_⟩
   show if (!decide (n ∈ S))=true then _ else _
   by_cases hm:n ∈ S
   ·rw [bg3 hm] at tk ⊢
    refine aO ?_
    dsimp only
    rw [tk]; exact congrArg intz (bi9 _).symm
   ·rw [bg2 hm] at tk ⊢
    refine aW ⟨_,rfl,trivial,?_⟩
    dsimp only
    rw [tk,e8]; rfl
  ·rintro acc rfl
   rw [b7,bk9]
   refine⟨_,_,rfl,rfl,_,rfl,_,_,_,rfl,rfl,rfl,_,rfl,_,_,_,rfl,rfl,ix,_,_,rfl,rfl,_,rfl,?_⟩
   rw [b7,aS4]
   by_cases hc:ws.getD h.toNat 0<=hV (bW ls h) S
   ·dsimp only
    rw [bg3 hc]
    refine aW ⟨trivial,?_⟩
    rw [bg2 (fun e=>?_)] at q
    ·exact q
    ·have hm:h ∈ stay ws ls S:=by rw [e]; exact bk6 hi
     have:=(bn2.mp hm).2
     unfold eY at this
     have:=bq1 this
     omega
   ·dsimp only
    rw [bg2 hc]
    refine aO ⟨_,rfl,fun x hx=>?_⟩
    rw [bt0,hi] at hx
    rcases bk1.mp hx with hx | hx
    ·exact hst x hx
    ·have:x=h:=by simpa using hx
     subst this
     unfold eY
     exact bg3 (by omega)
 ·rintro ρ ⟨y0,rfl,hst⟩
  rw [b7,bk9] at hst
  refine⟨trivial,?_⟩
  rw [bg3 (show stay ws ls S=S from List.filter_eq_self.mpr hst)] at q
  exact q
end Core
namespace PP
open PySem L2
section
variable {X : Cx} {a b e : Expr} {ta tb : aE} {tr : cK} {D : c9} {σ : St} {H : Hp} {pos p2 p3 p4 : Pos}
def sW (i:Nat):aK:=fun D ρ=>∃ xs,ρ[i]? = some (some (.own (.lst xs)))/\D.nx (ρ.set i (some (.own (.lst xs.reverse))))
theorem Reps.rev {K:PySem.W.Frag}{M:Addr->Prop}{H:Hp}:∀ {us:List V}{xs:List PV},Reps K M H us xs->Reps K M H us.reverse xs.reverse
 | _,_,.nil=>.nil
 | _,_,.cons (v:=v) (x:=x) (vs:=vs) (xs:=xs) r t=>by
  rw [List.reverse_cons,List.reverse_cons]
  exact (Reps.rev t).append (.cons r .nil)
theorem aS6 {i:Nat} (h:LS X (sW i) D σ H):lD (A5 X.K "list" A7 (eN i)) D σ H:=by
 obtain ⟨W,ρ,D',px,⟨xs,hi,q⟩,k⟩:=h
 obtain ⟨v,ev,a,rfl,wa,us,ea,r⟩:=px.sl i _ hi
 refine⟨_,ev,o8 (aN.of ea),a,us,rfl,rfl,ea,?_⟩
 exact k.nx W σ _ _ (Ev.upd wa) (px.updL hi ev wa (r.rev.keep (.upd ea rfl fun b m=>⟨iY wa m,m⟩))) q
theorem aS7 (i:Nat) {x:Str}{apos cpos xpos:Pos} (hN:X.N[i]? = some x:=by rfl) (hv:eM X.env.scope x:=by first | exact Or.inl rfl | exact Or.inr (Or.inl rfl) | exact Or.inr (Or.inr rfl)) (hd:(x == ("__debug__" : Str))=false:=by decide) (hcd:(x == ("__classdict__" : Str))=false:=by decide)
  (hbase:attributeBase (.Name x xpos) "reverse" X.env (eval (.Name x xpos) X.env)=eval (.Name x xpos) X.env:=by rfl) (hline:(apos.endLine == cpos.line)=true:=by rfl)
  (hsw:swapsWith (.Call (.Attribute (.Name x xpos) "reverse" apos) [] [] cpos) none pos.line X.env=pure false:=by rfl):QS X (.Expr (.Call (.Attribute (.Name x xpos) "reverse" apos) [] [] cpos) pos) (sW i):=
 dC (kA (ao6 bt1 PySem.F.slot_list_reverse PySem.F.type_list_reverse ao9 (fS hN hv hd hcd) hbase hline) hsw) fun _ _ _=>aS6
def mY (i:Nat) (ta tb:aE):aK:=fun D ρ=>∃ xs,ρ[i]? = some (some (.own (.lst xs)))/\ta ρ fun x _=>∃ k:Nat,x = .int k/\k<=xs.length/\xs.length < 16000000/\tb ρ fun y g=>Nw g y/\D.nx (ρ.set i (some (.own (.lst (xs.take k ++ y :: xs.drop k)))))
theorem aS8 {i:Nat} (h:LS X (mY i ta tb) D σ H):lD (uJ X.K "list" R9 (eN i) (iP (LE X ta) (iP (LE X tb) kC))) D σ H:=by
 obtain ⟨W,ρ,D',px,⟨xs,hi,q⟩,k⟩:=h
 obtain ⟨v,ev,a,rfl,wa,us,ea,r⟩:=px.sl i _ hi
 refine⟨_,ev,o8 (aN.of ea),W,ρ,_,px,q,?_⟩
 rintro w H1 x g s rx ⟨j,rfl,hj,hl,q⟩
 cases rx
 refine⟨W,ρ,_,px.mono s,q,?_⟩
 rintro w H2 y g s2 ry ⟨n,q⟩
 have ea2:=s2 _ _ (s _ _ ea)
 have s3:=s.trans s2
 refine⟨a,us,w,j,rfl,rfl,ea2,by rw [r.length]; exact hj,gT (by rw [r.length]; omega),?_⟩
 refine k.nx W σ _ _ ((Ev.same s3).trans (Ev.upd wa)) ((px.mono s3).updL hi ev wa ?_) q
 have r2:=r.same s3 fun _ z=>z
 exact ((r2.take j).append (.cons (Nw.rep (px.mono s) n ry) (r2.drop j))).keep (.upd ea2 rfl fun b m=>⟨iY wa m,m⟩)
theorem Z4 (i:Nat) {x:Str}{apos cpos xpos:Pos} (ha:QE X a ta) (hb:QE X b tb) (hN:X.N[i]? = some x:=by rfl) (hv:eM X.env.scope x:=by first | exact Or.inl rfl | exact Or.inr (Or.inl rfl) | exact Or.inr (Or.inr rfl)) (hd:(x == ("__debug__" : Str))=false:=by decide) (hcd:(x == ("__classdict__" : Str))=false:=by decide)
  (hbase:attributeBase (.Name x xpos) "insert" X.env (eval (.Name x xpos) X.env)=eval (.Name x xpos) X.env:=by rfl)
  (hfew:((backTo cpos (starEach [a,b] X.env)).all (fun x=>!x.1) && (backToKw cpos (keywordEach [] X.env)).all (fun x=>x.1.isSome) && decide (([a,b]:List Expr).length+([]:List Keyword).length+(if ([]:List Keyword).isEmpty then 0 else 1) < 30))=true:=by rfl)
  (hline:(apos.endLine == cpos.line)=true:=by rfl) (hs:starEach [a,b] X.env=(false,eval a X.env) :: starEach [b] X.env:=by rfl) (hs2:starEach [b] X.env=(false,eval b X.env) :: starEach [] X.env:=by rfl) (hplain:(backTo cpos (starEach [b] X.env)).any (·.1)=false:=by rfl)
  (hsw:swapsWith (.Call (.Attribute (.Name x xpos) "insert" apos) [a,b] [] cpos) none pos.line X.env=pure false:=by rfl) :
  QS X (.Expr (.Call (.Attribute (.Name x xpos) "insert" apos) [a,b] [] cpos) pos) (mY i ta tb):=
 dC (kA (pP bt1 PySem.F.slot_list_insert PySem.F.type_list_insert aH6 (fS hN hv hd hcd) (cV ha (cV hb dM hs2) hs) hbase hfew hline hs hplain) hsw) fun _ _ _=>aS8
end
end PP
namespace Core
open PySem L2 PP
def sX:bC:=fun xs Q=>∃ ns ms:List Int,xs = [.tup (intz ns),.lst (intz ms)]/\ns.length<=1000/\ms.length<=1000/\Q (.bl (decide (ns=ms)))
def Z5 (K:PySem.W.Frag):aK:=(aP (bM (jM (gV (aR (jQ K "tuple" (a5 0)))) (aR (kL (aC dD (a6 (a5 0) a9)) (aC dD (a6 (a5 1) a9))))) (aZ (qC (.bl false))) cA)
 (aP (fC (dI (a5 0)) (bI 2)
  (bM (gV (aR (aC sJ (a6 (a5 2) a9)))) (aZ (qC (.bl false))) cA))
 (aZ (q2 (iD 2 false) (aC iZ (a6 (a5 0) a9)) (aC iZ (a6 (a5 1) a9))))))
theorem aS9 {K:PySem.W.Frag} (kt:PySem.W.kitOne K (.type "tuple") (.type "tuple")=some true):cN (Z5 K) ["found","due","number"] sX:=by
 rintro xs Q ⟨ns,ms,rfl,hn,hm,q⟩
 refine⟨_,rfl,_,_,rfl,kt,_,rfl,aO ⟨_,rfl,_,_,rfl,rfl,_,rfl,_,_,rfl,rfl,.inl ⟨_,_,rfl,rfl,_,rfl,?_⟩⟩⟩
 rw [b7,b7]
 by_cases hl:ns.length=ms.length
 ·show if (!decide ((ns.length:Int)=(ms.length:Int)))=true then _ else _
  rw [bg3 (by omega)]
  refine aO ⟨_,rfl,_,rfl,(fun _=>oX ns),fun i ρ=>∃ z,ρ = [some (.sh (flat (.tup (intz ns))) (.tup (intz ns))),some (.sh (flat (.lst (intz ms))) (.lst (intz ms))),z],⟨none,rfl⟩,?_,?_⟩
  ·rintro i y ρ hy ⟨z0,rfl⟩
   obtain ⟨n,rfl,hn⟩:=eL hy
   exact⟨_,rfl,_,rfl,_,rfl,aO ⟨_,rfl⟩⟩
  ·rintro ρ ⟨z0,rfl⟩
   refine⟨_,rfl,_,_,rfl,rfl,cE _,_,rfl,_,_,rfl,rfl,cE _,.inr ⟨_,_,rfl,rfl⟩,az1 2 ns ms,trivial,?_⟩
   show Q (.bl (bU 3 (.lst (intz ns)) (.lst (intz ms))))
   rw [az0]
   exact q
 ·show if (!decide ((ns.length:Int)=(ms.length:Int)))=true then _ else _
  rw [bg2 (by omega)]
  refine aW ⟨trivial,?_⟩
  rw [bg2 (fun z=>hl (by rw [z]))] at q
  exact q
def sY:bC:=fun xs Q=>∃ (s:List Int) (n:Nat) (c:Int),xs = [.tup (intz s),.int n,.int c]/\aT n s=true/\s.length<=40/\∀ ys,ys.length<=41->aT n ys=false->Q (.tup (intz ys))
def Z6:aK:=(aP (gD 3 (aC iZ (a6 (a5 0) a9)))
 (aP (b9 4 (bY (dB (a5 2) (qC (.int 1009))) (az2 (qC (.int 10)) (qC (.int 30)))))
 (aP (b9 5 (bY (dB (a5 2) (qC (.int 4))) (gG (aC dD (a6 (a5 3) a9)) (qC (.int 1)))))
 (aP (bM (jL (aR (dP (bY (a5 2) (qC (.int 4))) (qC (.int 0)))) (aR (jR (aC dD (a6 (a5 3) a9)) (qC (.int 0))))) (mY 3 (a5 5) (dQ (a5 3) (bY (dB (a5 2) (qC (.int 64))) (aC dD (a6 (a5 3) a9))))) (bM (jL (aR (dP (bY (a5 2) (qC (.int 4))) (qC (.int 1)))) (aR (jR (aC dD (a6 (a5 3) a9)) (qC (.int 1))))) (sW 3) (mY 3 (a5 5) (dQ (jO (a6 (kK (qC (.int 1))) (a6 (a5 1) (a6 (m7 (kK (qC (.int 1))) (a5 4)) (a6 (gG (a5 1) (a5 4)) a9))))) (bY (dB (a5 2) (qC (.int 64))) (qC (.int 4)))))))
 (aZ (aC dF (a6 (a5 3) a9)))))))
theorem aT0 {n:Nat}{s:List Int} (h:1 < s.length) (hs:aT n s=true):aT n s.reverse=false:=xN fun e=>by
 have p:=gI (dG hs).1
 have p2:=gI (dG e).1
 rw [List.pairwise_reverse] at p2
 cases s with
 | nil=>exact absurd h (by decide)
 | cons a r=>
  cases r with
  | nil=>exact absurd h (by show ¬ 1 < 1; decide)
  | cons b r=>
   have h1:=List.rel_of_pairwise_cons p (bg7 (a:=b))
   have h2:=List.rel_of_pairwise_cons p2 (bg7 (a:=b))
   omega
theorem aT1:cN Z6 ["some","many","cell","odd","far","spot"] sY:=by
 rintro xs Q ⟨s,n,c,rfl,hs,hl,q⟩
 refine⟨_,rfl,_,_,rfl,rfl,cE _,rfl,cE _,?_⟩
 refine⟨_,rfl,_,_,rfl,rfl,⟨by decide,by decide⟩,_,_,rfl,rfl,⟨by decide,by decide,by decide⟩,_,_,rfl,rfl,(by show (0:Int) < 10 ^ (30:Int).toNat; decide),trivial,?_⟩
 dsimp only
 have f0:0<=c / 1009 % 10 ^ (30:Int).toNat:=bo3 _ (by decide)
 generalize c / 1009 % 10 ^ (30:Int).toNat=f at f0
 refine⟨_,rfl,_,_,rfl,rfl,⟨by decide,by decide⟩,_,rfl,_,_,rfl,rfl,_,_,rfl,rfl,_,_,rfl,rfl,by omega,trivial,?_⟩
 dsimp only
 rw [b7]
 have k0:0<=c / 4 % ((s.length:Int)+1):=bo3 _ (by omega)
 have k1:c / 4 % ((s.length:Int)+1) < (s.length:Int)+1:=bq6 _ (by omega)
 generalize c / 4 % ((s.length:Int)+1)=k at k0 k1
 obtain ⟨k,rfl⟩:∃ m:Nat,k=m:=⟨k.toNat,by omega⟩
 have fin:∀ ys:List Int,ys.length<=41->aT n ys=false->aZ (aC dF (a6 (a5 3) a9)) { nx:=fun _=>Q .non,rt:=Q } [some (.sh (flat (.tup (intz s))) (.tup (intz s))),si n,si c,some (.own (.lst (intz ys))),si f,si k]:=fun ys h1 h2=>
  ⟨_,rfl,⟨_,_,rfl,rfl,cE _,trivial,q ys h1 h2⟩,fun ns z=>by cases z⟩
 have ins:∀ x:Int,aT n (s.take k ++ [x] ++ s.drop k)=false->aZ (aC dF (a6 (a5 3) a9)) { nx:=fun _=>Q .non,rt:=Q } [some (.sh (flat (.tup (intz s))) (.tup (intz s))),si n,si c,some (.own (.lst ((intz s).take k ++ PV.int x :: (intz s).drop k))),si f,si k]:=fun x hx=>by
  have e:(intz s).take k ++ PV.int x :: (intz s).drop k=intz (s.take k ++ [x] ++ s.drop k):=by
   unfold intz
   rw [bl2,bl2,List.map_take,List.map_drop,bi4]
   rfl
  rw [e]
  refine fin _ ?_ hx
  rw [bh9,bh9,bp0,bn4]
  show _+1+_<=41
  omega
 have third:mY 3 (a5 5) (dQ (jO (a6 (kK (qC (.int 1))) (a6 (a5 1) (a6 (m7 (kK (qC (.int 1))) (a5 4)) (a6 (gG (a5 1) (a5 4)) a9))))) (bY (dB (a5 2) (qC (.int 64))) (qC (.int 4)))) { nx:=aZ (aC dF (a6 (a5 3) a9)) { nx:=fun _=>Q .non,rt:=Q },rt:=Q }
   [some (.sh (flat (.tup (intz s))) (.tup (intz s))),si n,si c,some (.own (.lst (intz s))),si f,si k]:=by
  have j0:0<=c / 64 % 4:=bo3 _ (by decide)
  have j1:c / 64 % 4 < 4:=bq6 _ (by decide)
  have odd:∃ x:Int,(x < 0 ∨ (n:Int)<=x)/\L2.atI [PV.int (-1),PV.int n,PV.int (-1 - f),PV.int (n+f)] (c / 64 % 4)=some (.int x):=by
   generalize c / 64 % 4=j at j0 j1
   rcases (show j=0 ∨ j=1 ∨ j=2 ∨ j=3 by omega) with rfl | rfl | rfl | rfl
   ·exact⟨-1,by omega,rfl⟩
   ·exact⟨n,by omega,rfl⟩
   ·exact⟨-1 - f,by omega,rfl⟩
   ·exact⟨n+f,by omega,rfl⟩
  obtain ⟨x,hx,at4⟩:=odd
  refine⟨_,rfl,_,rfl,k,rfl,by rw [b7]; omega,by rw [b7]; omega,?_⟩
  refine⟨_,rfl,_,rfl,_,rfl,_,rfl,_,_,rfl,rfl,_,rfl,_,rfl,_,_,rfl,rfl,(by show 4<=1000; decide),rfl,?_⟩
  refine⟨_,rfl,_,_,rfl,rfl,⟨by decide,by decide⟩,_,_,rfl,rfl,(by show (0:Int) < 4; decide),?_⟩
  exact⟨_,_,_,rfl,rfl,at4,trivial,ins x (aQ8 hx)⟩
 have second:bM (jL (aR (dP (bY (a5 2) (qC (.int 4))) (qC (.int 1)))) (aR (jR (aC dD (a6 (a5 3) a9)) (qC (.int 1))))) (sW 3) (mY 3 (a5 5) (dQ (jO (a6 (kK (qC (.int 1))) (a6 (a5 1) (a6 (m7 (kK (qC (.int 1))) (a5 4)) (a6 (gG (a5 1) (a5 4)) a9))))) (bY (dB (a5 2) (qC (.int 64))) (qC (.int 4))))) { nx:=aZ (aC dF (a6 (a5 3) a9)) { nx:=fun _=>Q .non,rt:=Q },rt:=Q }
   [some (.sh (flat (.tup (intz s))) (.tup (intz s))),si n,si c,some (.own (.lst (intz s))),si f,si k]:=by
  refine⟨_,rfl,_,_,rfl,rfl,(by show (0:Int) < 4; decide),.inl ⟨_,_,rfl,rfl,_,rfl,?_⟩⟩
  cases h1:(if false=true then !decide (c % 4=1) else decide (c % 4=1)) with
  | false=>exact aO (aO third)
  | true=>
   refine aW ⟨_,rfl,_,_,rfl,rfl,_,_,rfl,rfl,_,rfl,?_⟩
   rw [b7]
   by_cases h2:(1:Int) < (s.length:Int)
   ·dsimp only
    rw [bg3 h2]
    refine aW ⟨_,rfl,?_⟩
    have e:(intz s).reverse=intz s.reverse:=(List.map_reverse).symm
    rw [e]
    exact fin _ (by rw [List.length_reverse]; omega) (aT0 (by omega) hs)
   ·dsimp only
    rw [bg2 h2]
    exact aO third
 refine⟨_,rfl,_,_,rfl,rfl,(by show (0:Int) < 4; decide),.inl ⟨_,_,rfl,rfl,_,rfl,?_⟩⟩
 cases h1:(if false=true then !decide (c % 4=0) else decide (c % 4=0)) with
 | false=>exact aO (aO second)
 | true=>
  refine aW ⟨_,rfl,_,_,rfl,rfl,_,_,rfl,rfl,_,rfl,?_⟩
  rw [b7]
  by_cases h2:(0:Int) < (s.length:Int)
  ·dsimp only
   rw [bg3 h2]
   have j0:0<=c / 64 % (s.length:Int):=bo3 _ (by omega)
   have j1:c / 64 % (s.length:Int) < (s.length:Int):=bq6 _ h2
   have g:∃ x,x ∈ s/\L2.atI (intz s) (c / 64 % (s.length:Int))=some (.int x):=by
    generalize c / 64 % (s.length:Int)=j at j0 j1
    have e:=bf9 (l:=s) (i:=j.toNat) (by omega)
    refine⟨_,bk6 e,?_⟩
    have:=pO (xs:=intz s) (j:=j.toNat) (by rw [bh1,e]; rfl)
    rwa [show ((j.toNat:Nat):Int)=j by omega] at this
   obtain ⟨x,hx,ax⟩:=g
   refine aW ⟨_,rfl,_,rfl,k,rfl,by rw [b7]; omega,by rw [b7]; omega,?_⟩
   refine⟨_,rfl,_,rfl,_,_,rfl,rfl,⟨by decide,by decide⟩,_,rfl,_,_,rfl,rfl,_,_,rfl,rfl,by rw [b7]; exact h2,?_⟩
   rw [b7]
   exact⟨_,_,_,rfl,rfl,ax,U0 _ _,ins x (aQ7 hx)⟩
  ·dsimp only
   rw [bg2 h2]
   exact aO second
end Core
namespace PP
open PySem L2
section
variable {X : Cx} {te : aE} {pos p2 : Pos} {scope : Scope} {N : List Str} {fr : List (Option Nat)} {x : Str} {tp : Pos} {iter elt : Expr} {ti : eD}
theorem aT2 {ifs:List Expr}{tcs:bT} (he:∀ (s:Shared) (H:Hp) (C:Addr) (fp:List Addr),QE (bD X scope N s H C fp bV) elt te) (hi:∀ (s:Shared) (H:Hp) (C:Addr) (fp:List Addr),iT (bD X scope N s H C fp bV) ifs (LT (bD X scope N s H C fp bV) tcs))
  (hN:N.Nodup) (h0:N[0]? = some x) (hl:∀ (s:Shared) (H:Hp) (C:Addr) (fp:List Addr),(bD X scope N s H C fp bV).env.scope.names.lookup x=some .cell) (ho:scope.names.lookup x=some .cell) (s:Shared) (H:Hp) :
  kG X scope N (.Name x tp) ifs elt s H (cF 0) (LT (X.frm H) tcs) (LE (X.frm H) te):=
 ⟨fun C fp=>eB (X:=bD X scope N s H C fp bV) hN h0 (.inr (hl s H C fp)) (.inl (show (scope.names.lookup x == some NameKind.cell)=true by rw [ho]; rfl)),fun C fp=>hi s H C fp,fun C fp=>he s H C fp⟩
theorem aT3 {i:Nat}{z:Str}{zp:Pos} (nd:X.N.Nodup) (hi:QI X (.Name x tp) iter ti) (he:∀ (s:Shared) (H:Hp) (C:Addr) (fp:List Addr),QE (bD X scope N s H C fp bV) elt te)
  (hz:X.N[i]? = some z:=by rfl) (hzl:X.env.scope.names.lookup z=some .local:=by rfl) (hsw:swapsWith (.ListComp elt [⟨.Name x tp,iter,[],0⟩] scope p2) (some (.Name z zp)) pos.line X.env=pure true:=by rfl)
  (hc:X.calm=true:=by rfl) (S:cO X scope N fr:=by exact cO.of rfl rfl) (hN:N.Nodup:=by decide +kernel) (h0:N[0]? = some x:=by rfl) (hl:∀ (s:Shared) (H:Hp) (C:Addr) (fp:List Addr),(bD X scope N s H C fp bV).env.scope.names.lookup x=some .cell:=by intro _ _ _ _; rfl) (ho:scope.names.lookup x=some .cell:=by rfl) (hf:fr[0]? = some none:=by rfl)
  (hs:∀ x,foldedSetIterable iter X.env x=pure x:=by intro _; rfl):QS X (.Assign [.Name z zp] (.ListComp elt [⟨.Name x tp,iter,[],0⟩] scope p2) pos) (b9 i (cP ti fr (bI 0) eV te)):=
 dC (C7 (gh:=fun _=>cF 0) (tch:=fun H=>LT (X.frm H) eV) (teh:=fun H=>LE (X.frm H) te) hc S hi (aT2 he (fun _ _ _ _=>wE) hN h0 hl ho) nd hz hzl hsw hs) fun D σ H h=>oG (lZ _ 0) (fun i e=>by subst e; exact hf) (G5 h)
end
section
variable {X : Cx} {e : Expr} {tr : cK} {pos p2 : Pos}
def sZ:List PV->(PV->Prop)->Prop:=fun xs Q=>∃ ys:List (List Int),xs = [.lst (ys.map fun r=>PV.tup (intz r))]/\ys.length<=4096/\(∀ y ∈ ys,y.length=2)/\∀ zs:List (List Int),zs.Perm ys->zs.Pairwise (fun u v=>HT.i8 v u=false)->Q (.lst (zs.map fun r=>PV.tup (intz r)))
theorem aT4:gC X sZ (Q5 X.K):=by
 rintro H vs xs Q Q' r ⟨ys,rfl,hl,hne,q⟩ k
 obtain ⟨v,rfl,r1⟩:=r.one
 obtain ⟨a,us,rfl,_,h,r2⟩:=r1.sqL
 obtain ⟨h1,h2⟩:=U5 r2
 have lr:=r2.length
 rw [bg5] at lr
 refine⟨a,us,kZ H,rfl,aN.of h,by omega,fun y hy=>?_,fun l zs hl' pm so=>?_⟩
 ·obtain ⟨b,rfl,hb⟩:=h2 y hy
  refine⟨b,rfl,aL.of hb,hne _ ?_⟩
  rw [<- h1]; exact bm8.mpr ⟨_,hy,rfl⟩
 ·have hz:∀ u ∈ zs,∃ b,u = .ref b/\H b=some (.tup ((kZ H u).map V.int)):=fun u hu=>h2 u (pm.mem_iff.mp hu)
  refine k _ _ _ (bE hl' _) (.lst hl' b8 ((U6 hz).same (bE hl' _) fun _ z=>z)) (q _ ?_ ?_)
  ·rw [<- h1]; exact pm.map _
  ·rw [bq0]; exact so
theorem aT5 (B:Bt X.mg) (ha:QA X [e] tr) (hg:Gl X "sorted":=by rfl) (he:starEach [e] X.env=(false,eval e X.env) :: starEach [] X.env:=by rfl) (hpl:(backTo pos (starEach [] X.env)).any (·.1)=false:=by rfl):QE X (.Call (.Name "sorted" p2) [e] [] pos) (aC sZ tr):=
 mG aE8 aT4 hg B.sorted PyProof.Rows.boot_sorted ha (he:=he) (hpl:=hpl)
end
end PP
namespace Core
open PySem L2 PP
structure WL (n:Int) (ws:List Int) (ls:List (Int × Int)):Prop where
 many:(ws.length:Int)=n
 inn:∀ l ∈ ls,0<=l.1/\l.1 < l.2/\l.2 < n
 most:ls.length<=1700
 ord:ls.Pairwise x6
 pos:∀ w ∈ ws,0<=w
theorem WL.perm {n:Int}{ws:List Int}{ls ls':List (Int × Int)} (h1:(ws.length:Int)=n) (h2:∀ l ∈ ls,0<=l.1/\l.1 < l.2/\l.2 < n) (h3:ls.length<=1700) (nd:ls.Nodup) (h4:∀ w ∈ ws,0<=w) (p:ls'.Perm ls) (so:(ls'.map two).Pairwise fun u v=>HT.i8 v u=false):WL n ws ls':=
 ⟨h1,fun l hl=>h2 l (p.mem_iff.mp hl),by rw [p.length_eq]; exact h3,aK5 so (p.nodup_iff.mpr nd),h4⟩
theorem WL.wb {n:Int}{ws:List Int}{ls:List (Int × Int)} (h:WL n ws ls) (hn:n<=40):Wb ws ls:=
 ⟨by have:=h.many; omega,h.most,fun l hl=>by have:=h.inn l hl; have:=h.many; omega⟩
theorem DK.few40 {n:Int}{ps:List (List aA × PV)} (h:DK n ps) (hn:n<=40):ps.length<=1600:=by
 obtain ⟨ls,_,e2,e3,e4⟩:=DL.links h.key
 have nd:ls.Nodup:=by
  have:=h.nd
  rw [e4] at this
  exact (bq0.mp this).imp fun h e=>h (congrArg fG e)
 have:=xS 1600 (ls.map fun l=>(l.1 * 40+l.2).toNat) (by
  refine bq0.mpr (nd.imp_of_mem fun {a b} ha hb hab e=>hab ?_)
  have:=e2 a ha
  have:=e2 b hb
  exact Prod.ext (by omega) (by omega)) fun x hx=>by
   obtain ⟨l,hl,rfl⟩:=bm8.mp hx
   have:=e2 l hl
   omega
 rw [bg5,e3] at this
 omega
def t5:bC:=fun xs Q=>∃ x ns,∃ n wy:Int,xs = [x,.int n,.int wy]/\gK x ns/\ns.length<=63/\0<=n/\n<=40/\∀ ws ls,WL n ws ls->Q (bJ ws ls)
def xT:aK:=(aP (fC (dI (a5 0)) (bI 5)
  (bM (aR (jR (a5 1) (qC (.int 0)))) (aP (b9 6 (aC mV (a6 (a5 5) (a6 (qC (.int 0)) a9))))
   (aP (b9 7 (bY (a5 6) (a5 1)))
   (aP (b9 8 (bY (dB (a5 6) (qC (.int 64))) (a5 1)))
   (bM (aR (dP (bY (dB (a5 6) (qC (.int 4096))) (qC (.int 4))) (qC (.int 0)))) (vG 3 (a5 7) (bY (dB (a5 6) (qC (.int 16384))) (qC (.int 5)))) (bM (jL (aR (kL (a5 7) (a5 8))) (aR (j4 false (gB (a6 (aC lU (a6 (a5 7) (a6 (a5 8) a9))) (a6 (aC kI (a6 (a5 7) (a6 (a5 8) a9))) a9))) (a5 4)))) (xQ 4 (gB (a6 (aC lU (a6 (a5 7) (a6 (a5 8) a9))) (a6 (aC kI (a6 (a5 7) (a6 (a5 8) a9))) a9)))) (bM (aR (kL (a5 7) (a5 8))) (oJ 4 (gB (a6 (aC lU (a6 (a5 7) (a6 (a5 8) a9))) (a6 (aC kI (a6 (a5 7) (a6 (a5 8) a9))) a9))) (qC (.bl true))) cA)))))) cA))
 (aP (b9 9 (cP (gE (a5 1)) [none,some 4] (bI 0) eV (aC dD (a6 (sQ (a5 1) [none,some 0] (bI 0) (aR (q2 (fL false) (a5 1) (a5 0))) (a5 0)) a9))))
 (aZ (gB (a6 (aC dF (a6 (xR mW (a6 (a5 2) (a6 (a5 3) (a6 (a5 9) a9)))) a9)) (a6 (aC dF (a6 (aC sZ (a6 (aC sI (a6 (a5 4) a9)) a9)) a9)) a9))))))
def Z7:aK:=(aP (gD 3 (cP (gE (a5 1)) [none] (bI 0) eV (gG (qC (.int 1)) (bY (a5 0) (qC (.int 2))))))
 (aP (gD 4 (qC (.dT [])))
 (aP (bM (jL (aR (jR (aC dD (a6 (a5 0) a9)) (qC (.int 0)))) (aR (dP (bY (dQ (a5 0) (qC (.int 0))) (qC (.int 2))) (qC (.int 1))))) (aP (xP 3 4 (aC sT (a6 (dB (dQ (a5 0) (qC (.int 0))) (qC (.int 2))) (a6 (a5 1) a9))))
  (b9 0 (vV (a5 0) (vU (qC (.int 1))) vT))) cA)
 xT)))
theorem Z8 {x:PV}{ns:List Int}{n wy:Int}{g:Bool}{ws:List Int}{ps:List (List aA × PV)}{Q:PV->Prop} (hx:gK x ns) (hg:(Slot.sh g x).tag = .rd->flat x=true) (n0:0<=n) (n1:n<=40) (wl:(ws.length:Int)=n) (nw:NN ws) (dk:DK n ps) (q:∀ ws ls,WL n ws ls->Q (bJ ws ls)) :
  xT { nx:=fun _=>Q .non,rt:=Q } [some (.sh g x),si n,si wy,some (.own (.lst (intz ws))),some (.own (.dT ps)),none,none,none,none,none]:=by
 refine⟨_,rfl,_,hx.seq,hg,fun i ρ=>∃ (a b c d:Option Slot) (ws:List Int) (ps:List (List aA × PV)),ρ = [some (.sh g x),si n,si wy,some (.own (.lst (intz ws))),some (.own (.dT ps)),a,b,c,d,none]/\(ws.length:Int)=n/\NN ws/\DK n ps,⟨none,none,none,none,ws,ps,rfl,wl,nw,dk⟩,?_,?_⟩
 ·rintro i y ρ hy ⟨a,b,c,d,ws,ps,rfl,wl,nw,dk⟩
  obtain ⟨cell,rfl,hc⟩:=eL hy
  generalize qX _ _=gg
  have few:=dk.few40 n1
  refine⟨_,rfl,_,_,rfl,rfl,_,rfl,?_⟩
  by_cases h1:(0:Int) < n
  ·dsimp only
   rw [bg3 h1]
   refine aW ⟨_,rfl,cell,0,rfl,by decide,by decide,fun t t0=>⟨trivial,?_⟩⟩
   refine⟨_,rfl,_,rfl,_,_,rfl,rfl,h1,trivial,?_⟩
   refine⟨_,rfl,_,_,rfl,rfl,⟨by decide,by decide⟩,_,rfl,_,_,rfl,rfl,h1,trivial,?_⟩
   dsimp only
   generalize hone:t % n=one
   generalize hoth:t / 64 % n=oth
   have o1:0<=one/\one < n:=by rw [<- hone]; exact⟨bo3 _ (by omega),bq6 _ h1⟩
   have o2:0<=oth/\oth < n:=by rw [<- hoth]; exact⟨bo3 _ (by omega),bq6 _ h1⟩
   have lk:one ≠ oth->0<=(if oth < one then oth else one)/\(if oth < one then oth else one) < (if oth > one then oth else one)/\(if oth > one then oth else one) < n:=fun ne=>by
    split <;> split <;> omega
   refine⟨_,rfl,_,_,rfl,rfl,⟨by decide,by decide⟩,_,_,rfl,rfl,(by show (0:Int) < 4; decide),.inl ⟨_,_,rfl,rfl,_,rfl,?_⟩⟩
   cases h2:(if false=true then !decide (t / 4096 % 4=0) else decide (t / 4096 % 4=0)) with
   | true=>
    refine aW ⟨_,rfl,_,_,rfl,rfl,⟨by decide,by decide⟩,_,_,rfl,rfl,(by show (0:Int) < 5; decide),_,rfl,_,rfl,one,one.toNat,rfl,?_,trivial,?_⟩
    ·rw [b7]; unfold i9; rw [if_pos o1.1,if_pos (by omega)]
    ·refine⟨some (.sh (gg || true) (.int cell)),si t,si one,si oth,ws.set one.toNat (t / 16384 % 5),ps,?_,by rw [bl0]; exact wl,nw.set (bo3 _ (by decide)) _,dk⟩
     rw [show intz (ws.set one.toNat (t / 16384 % 5))=(intz ws).set one.toNat (.int (t / 16384 % 5)) from List.map_set ..]
     rfl
   | false=>
    refine aO ⟨_,rfl,_,rfl,.inl ⟨_,_,rfl,rfl,_,rfl,?_⟩⟩
    show if (!decide (one=oth))=true then _ else _
    have third:(bM (aR (kL (a5 7) (a5 8))) (oJ 4 (gB (a6 (aC lU (a6 (a5 7) (a6 (a5 8) a9))) (a6 (aC kI (a6 (a5 7) (a6 (a5 8) a9))) a9))) (qC (.bl true))) cA) { nx:=fun ρ=>∃ (a b c d:Option Slot) (ws:List Int) (ps:List (List aA × PV)),ρ = [some (.sh g x),si n,si wy,some (.own (.lst (intz ws))),some (.own (.dT ps)),a,b,c,d,none]/\(ws.length:Int)=n/\NN ws/\DK n ps,rt:=Q,ct:=fun ρ=>∃ (a b c d:Option Slot) (ws:List Int) (ps:List (List aA × PV)),ρ = [some (.sh g x),si n,si wy,some (.own (.lst (intz ws))),some (.own (.dT ps)),a,b,c,d,none]/\(ws.length:Int)=n/\NN ws/\DK n ps,bk:=(aP (b9 9 (cP (gE (a5 1)) [none,some 4] (bI 0) eV (aC dD (a6 (sQ (a5 1) [none,some 0] (bI 0) (aR (q2 (fL false) (a5 1) (a5 0))) (a5 0)) a9)))) (aZ (gB (a6 (aC dF (a6 (xR mW (a6 (a5 2) (a6 (a5 3) (a6 (a5 9) a9)))) a9)) (a6 (aC dF (a6 (aC sZ (a6 (aC sI (a6 (a5 4) a9)) a9)) a9)) a9))))) { nx:=fun _=>Q .non,rt:=Q } }
      [some (.sh g x),si n,si wy,some (.own (.lst (intz ws))),some (.own (.dT ps)),some (.sh (gg || true) (.int cell)),si t,si one,si oth,none]:=by
     refine⟨_,rfl,_,rfl,.inl ⟨_,_,rfl,rfl,_,rfl,?_⟩⟩
     show if (!decide (one=oth))=true then _ else _
     by_cases h3:one=oth
     ·rw [bg3 h3]
      exact aO ⟨some (.sh (gg || true) (.int cell)),si t,si one,si oth,ws,ps,rfl,wl,nw,dk⟩
     ·rw [bg2 h3]
      refine aW ⟨_,rfl,_,rfl,_,rfl,_,_,rfl,_,rfl,_,rfl,_,_,rfl,by show 2<=1000; decide,rfl,fG (if oth < one then oth else one,if oth > one then oth else one),rfl,trivial,by omega,?_⟩
      exact⟨some (.sh (gg || true) (.int cell)),si t,si one,si oth,ws,_,rfl,wl,nw,dk.put _ (lk h3)⟩
    by_cases h3:one=oth
    ·rw [bg3 h3]
     exact aO (aO third)
    ·rw [bg2 h3]
     refine aW ⟨_,rfl,_,rfl,_,_,rfl,_,rfl,_,rfl,_,_,rfl,by show 2<=1000; decide,rfl,_,rfl,_,.inr ⟨ps,fG (if oth < one then oth else one,if oth > one then oth else one),rfl,rfl,rfl⟩,_,rfl,?_⟩
     cases hv:(bX ps (fG (if oth < one then oth else one,if oth > one then oth else one))).isSome with
     | false=>exact aO third
     | true=>
      have is:∃ j:Nat,(ps.map (·.1))[j]? = some (fG (if oth < one then oth else one,if oth > one then oth else one)):=by
       rw [<- sG] at hv
       obtain ⟨p,hp,e⟩:=List.any_eq_true.mp hv
       have e:=bq1 e
       obtain ⟨j,hj,ej⟩:=bo1 hp
       exact⟨j,by rw [bh1,bf9 hj,ej]; exact congrArg some e⟩
      refine aW ⟨_,rfl,_,rfl,_,rfl,_,_,rfl,_,rfl,_,rfl,_,_,rfl,by show 2<=1000; decide,rfl,fG (if oth < one then oth else one,if oth > one then oth else one),rfl,is,fun j hj=>?_⟩
      exact⟨some (.sh (gg || true) (.int cell)),si t,si one,si oth,ws,_,rfl,wl,nw,dk.cut j⟩
  ·dsimp only
   rw [bg2 h1]
   exact aO ⟨some (.sh (gg || true) (.int cell)),b,c,d,ws,ps,rfl,wl,nw,dk⟩
 rintro ρ ⟨a,b,c,d,ws,ps,rfl,wl,nw,dk⟩
 have few:=dk.few40 n1
 refine⟨_,rfl,n,rfl,by omega,by omega,by rw [dE]; omega,fun i acc=>∃ ds,acc=intz ds/\ds.length=i/\NN ds,⟨[],rfl,rfl,fun _ h=>nomatch h⟩,?_,?_⟩
 ·rintro i y acc hy ⟨ds,rfl,dl,dn⟩
  obtain ⟨rfl,hi⟩:=iH hy
  refine⟨_,rfl,ps,rfl,by omega,?_,fun j acc=>True,trivial,?_,?_⟩
  ·intro m hm
   have hm:some m ∈ [none,some (Slot.sh false (.int (0+(i:Int))))]:=hm
   simp only [bg4,bh3,bk7,Option.some.injEq,reduceCtorEq,false_or] at hm
   rw [hm]; rfl
  ·rintro j k acc hk _
   have hk':k ∈ ps.map (·.1):=bk6 hk
   obtain ⟨p,hp,rfl⟩:=bm8.mp hk'
   obtain ⟨l,e,_⟩:=dk.key p hp
   rw [e]
   refine⟨_,rfl,_,rfl,_,[l.1,l.2],rfl,rfl,_,rfl,?_⟩
   show if decide (0+(i:Int) ∈ [l.1,l.2])=true then _ else _
   cases decide (0+(i:Int) ∈ [l.1,l.2]) with
   | true=>exact aW ⟨_,rfl,⟨trivial,rfl⟩,trivial⟩
   | false=>exact aO trivial
  ·rintro acc _
   refine⟨_,_,rfl,rfl,trivial,ds ++ [(acc.length:Int)],by rw [e8]; rfl,by rw [bh9,dl]; rfl,dn.app (by omega)⟩
 rintro acc ⟨ds,rfl,dl,dn⟩
 rw [dE] at dl
 obtain ⟨ls,e1,e2,e3,e4⟩:=DL.links dk.key
 have lnd:ls.Nodup:=by
  have:=dk.nd
  rw [e4] at this
  exact (bq0.mp this).imp fun h e=>h (congrArg fG e)
 refine⟨trivial,_,rfl,_,rfl,_,rfl,wy,ws,ds,rfl,by omega,by omega,nw,dn,fun zs zl zn=>⟨⟨_,_,rfl,rfl,cE _,_,rfl,ps,rfl,ls.map two,?_,by rw [bg5]; omega,?_,fun us pz so=>?_⟩,fun ns z=>by cases z⟩⟩
 ·show [PV.lst (ps.map fun p=>PV.tup (p.1.map kP))]=_
  rw [e1,V1]
 ·intro y hy
  obtain ⟨l,_,rfl⟩:=bm8.mp hy
  rfl
 obtain ⟨ls',rfl,pl⟩:=aK4 pz
 rw [<- V1]
 exact⟨⟨_,_,rfl,rfl,sD _,by show 2<=1000; decide,aK6 _ _,trivial,q zs ls' (WL.perm (by omega) e2 (by omega) lnd zn pl so)⟩,fun ns z=>by cases z⟩
theorem aT6:cN Z7 ["flow","many","way","wants","links","cell","turn","one","other","degrees"] t5:=by
 rintro xs Q ⟨x,ns,n,wy,rfl,hx,hns,n0,n1,q⟩
 refine⟨_,rfl,n,rfl,by omega,by omega,by rw [dE]; omega,fun i acc=>∃ ws,acc=intz ws/\ws.length=i/\NN ws,⟨[],rfl,rfl,fun _ h=>nomatch h⟩,?_,?_⟩
 ·rintro i y acc hy ⟨ws,rfl,wl,nw⟩
  obtain ⟨rfl,hi⟩:=iH hy
  have e0:=bo3 (0+(i:Int)) (show (2:Int) ≠ 0 by decide)
  refine⟨_,rfl,_,_,rfl,rfl,(by show (0:Int) < 2; decide),_,_,rfl,rfl,trivial,ws ++ [1+(0+(i:Int)) % 2],by rw [e8]; rfl,by rw [bh9,wl]; rfl,nw.app (by omega)⟩
 rintro acc ⟨ws,rfl,wl,nw⟩
 rw [dE] at wl
 refine⟨rfl,cE _,rfl,rfl,?_⟩
 have last:xT { nx:=fun _=>Q .non,rt:=Q } [some (.sh (flat x) x),si n,si wy,some (.own (.lst (intz ws))),some (.own (.dT [])),none,none,none,none,none]:=
  Z8 hx (aK9 hx) n0 n1 (by omega) nw (DK.nil n) q
 refine⟨_,rfl,_,_,rfl,hx.len,_,_,rfl,rfl,_,rfl,?_⟩
 by_cases h1:(0:Int) < (ns.length:Int)
 ·dsimp only
  rw [bg3 h1]
  have g0:ns[0]? = some (ns[0]'(by omega)):=bf9 (by omega)
  have i0:L2.atI (intz ns) (0:Int)=some (.int (ns[0]'(by omega))):=pO (xs:=intz ns) (j:=0) (by rw [bh1,g0]; rfl)
  refine aW ⟨_,rfl,_,_,_,hx.seq,rfl,i0,_,_,rfl,rfl,(by show (0:Int) < 2; decide),.inl ⟨_,_,rfl,rfl,_,rfl,?_⟩⟩
  cases h2:(if false=true then !decide (ns[0]'(by omega) % 2=1) else decide (ns[0]'(by omega) % 2=1)) with
  | true=>
   refine aW ⟨_,rfl,_,_,_,hx.seq,rfl,i0,_,_,rfl,rfl,⟨by decide,by decide⟩,_,rfl,_,n,rfl,n0,by omega,fun ws2 ps wl2 nw2 dk=>⟨_,_,by decide,rfl,rfl,cE _,dk.fl,?_⟩⟩
   refine⟨_,rfl,_,rfl,_,hx.seqTF,cE _,trivial,?_⟩
   have hc:gK (vS x (iE (intz ns) (some 1) none)) (ns.drop 1):=by
    rcases hx with rfl | rfl
    ·exact .inr (by show PV.lst (iE (intz ns) (some 1) none)=_; rw [x9 ns (by decide)]; rfl)
    ·exact .inr (by show PV.lst (iE (intz ns) (some 1) none)=_; rw [x9 ns (by decide)]; rfl)
   exact Z8 (g:=true) hc (fun z=>by cases z) n0 n1 wl2 nw2 dk q
  | false=>exact aO last
 ·dsimp only
  rw [bg2 h1]
  exact aO (aO last)
def t6:cY:=fun Ep xs Q=>∃ ws ls x S,xs = [bJ ws ls,x]/\Wb ws ls/\cQ x S/\S.length<=1000/\(aT ws.length S=true->Q (.bl (decide (stay ws ls S=S))))/\(aT ws.length S=false->Ep "BadSet")
def Z9 (Ep:Str->Prop):aK:=(aP (b9 2 (eZ Ep fQ (a6 (a5 0) (a6 (a5 1) a9))))
 (aZ (q2 (iD 2 false) (aC l0 (a6 (a5 0) (a6 (aC kY (a6 (a5 0) a9)) (a6 (a5 2) a9)))) (a5 2))))
theorem aT7:iL Z9 ["web","block","chosen"] t6:=by
 rintro Ep xs Q ⟨ws,ls,x,S,rfl,wb,hx,hl,q,qe⟩
 refine⟨_,rfl,_,rfl,ws,ls,x,S,rfl,hx,hl,fun hs=>⟨trivial,?_⟩,qe⟩
 have q:=q hs
 refine⟨_,rfl,_,rfl,ws,ls,rfl,wb,_,rfl,ws,ls,_,S,rfl,wb,.inl rfl,hs,_,rfl,.inl ⟨_,_,rfl,rfl⟩,m5 2 _ _,trivial,?_⟩
 show Q (.bl (bU 3 (.tup (intz (stay ws ls S))) (.tup (intz S))))
 rw [m3]; exact q
def t7:bC:=fun xs Q=>∃ c:Int,xs = [.int c]/\∀ z:Int,0<=z->z<=40->Q (.int z)
def aa0:aK:=(aP (bM (aR (dP (bY (dB (a5 0) (qC (.int 8))) (qC (.int 3))) (qC (.int 1)))) (aZ (bY (dB (a5 0) (qC (.int 24))) (qC (.int 41)))) cA)
 (aZ (bY (a5 0) (qC (.int 8)))))
theorem aT8:cN aa0 ["cell"] t7:=by
 rintro xs Q ⟨c,rfl,q⟩
 refine⟨_,rfl,_,_,rfl,rfl,⟨by decide,by decide⟩,_,_,rfl,rfl,(by show (0:Int) < 3; decide),.inl ⟨_,_,rfl,rfl,_,rfl,?_⟩⟩
 cases h:(if false=true then !decide (c / 8 % 3=1) else decide (c / 8 % 3=1)) with
 | true=>exact aW ⟨_,rfl,_,_,rfl,rfl,⟨by decide,by decide⟩,_,_,rfl,rfl,(by show (0:Int) < 41; decide),trivial,q _ (bo3 _ (by decide)) (by have:=bq6 (c / 24) (show (0:Int) < 41 by decide); omega)⟩
 | false=>exact aO ⟨_,rfl,_,_,rfl,rfl,(by show (0:Int) < 8; decide),trivial,q _ (bo3 _ (by decide)) (by have:=bq6 c (show (0:Int) < 8 by decide); omega)⟩
def mZ (f:List Int->List (Int × Int)->List Int->(PV->Prop)->Prop):cY:=fun Ep xs Q=>∃ ws ls x ns,xs = [bJ ws ls,x]/\Wb ws ls/\cQ x ns/\ns.length<=1000/\(aT ws.length ns=true->f ws ls ns Q)/\(aT ws.length ns=false->Ep "BadSet")
def t8:cY:=mZ fun ws ls ns Q=>∀ m,c9 ws ls ns m->Q (.lst (tups (ns :: after ws ls ns m)))
def t9:cY:=mZ fun ws ls ns Q=>∀ m,c9 ws ls ns m->Q (.dK (jC (ns :: after ws ls ns m)))
def tD:cY:=mZ fun ws ls ns Q=>∀ ms m,c9 ws ls ns m->ms.Perm (aY ws ls ns m)->ms.Pairwise (· <= ·)->Q (.tup (intz ms))
def tE:cY:=mZ fun ws ls ns Q=>∀ m,c9 ws ls ns m->Q (.bl (decide (((aY ws ls ns m).length:Int)=(ws.length:Int))))
def aa1 (Ep:Str->Prop):aK:=(aP (gD 2 (jO (a6 (eZ Ep fQ (a6 (a5 0) (a6 (a5 1) a9))) a9)))
 (aP (gD 3 (aC hJ (a6 (dQ (a5 2) (qC (.int 0))) a9)))
 (aP (b9 4 (aC kY (a6 (a5 0) a9)))
 (aP (b9 5 (aC oY (a6 (a5 0) (a6 (a5 4) (a6 (a5 3) a9)))))
 (aP (qV (oE (a5 5))
  (aP (qW 2 (a5 5))
  (aP (vP 3 (aC hJ (a6 (a5 5) a9)))
  (b9 5 (aC oY (a6 (a5 0) (a6 (a5 4) (a6 (a5 3) a9))))))))
 (iB 2))))))
theorem aT9:iL aa1 ["web","seeds","told","burning","around","lit"] t8:=by
 rintro Ep xs Q ⟨ws,ls,x,ns,rfl,wb,hx,hl,q,qe⟩
 have few:=wb.few
 refine⟨_,rfl,_,rfl,ws,ls,x,ns,rfl,hx,hl,fun hs=>?_,qe⟩
 have q:=q hs
 have ln:=gJ hs
 refine⟨by show 1<=1000; decide,?_,rfl,?_,?_⟩
 ·show (flat (.tup (intz ns)) && true)=true
  rw [oX]; rfl
 ·show (flat (.tup (intz ns)) && true)=true
  rw [oX]; rfl
 refine⟨_,rfl,_,_,_,rfl,rfl,rfl,_,ns,rfl,.inl rfl,by omega,fun ps d=>⟨rfl,d.fl,?_⟩⟩
 refine⟨_,rfl,ws,ls,rfl,wb,trivial,?_⟩
 refine⟨_,rfl,_,rfl,_,rfl,ws,ls,ps,ns,rfl,wb,d,trivial,?_⟩
 refine⟨fun n ρ=>∃ k ps,ρ = [some (.sh (flat (bJ ws ls)) (bJ ws ls)),some (.sh (flat x) x),some (.own (.lst (tups (ns :: after ws ls ns k)))),some (.own (.dK ps)),some (.sh true (.lst (jZ ws.length ls))),some (.sh true (.tup (intz (nextOf ws ls (aY ws ls ns k)))))]/\
   n=cold ws (aY ws ls ns k)/\DS ps (aY ws ls ns k)/\∀ j < k,nextOf ws ls (aY ws ls ns j) ≠ [],⟨_,0,ps,rfl,rfl,d,fun _ z=>absurd z (Nat.not_lt_zero _)⟩,?_⟩
 rintro n ρ ⟨k,ps,rfl,rfl,d,ne⟩
 refine⟨_,rfl,_,rfl,?_⟩
 cases hn:nextOf ws ls (aY ws ls ns k) with
 | nil=>exact aO ⟨_,rfl,trivial,q k ⟨ne,hn⟩⟩
 | cons y yr=>
  refine aW ?_
  rw [<- hn]
  have cs:=wU ws ls (aY ws ls ns k)
  have nl:1<=(nextOf ws ls (aY ws ls ns k)).length:=by rw [hn]; exact Nat.succ_le_succ (bk5 _)
  have nle:=aH8 ws ls (aY ws ls ns k)
  have sl:=x5 (ls:=ls) hs k
  have dl:=d.len
  have ke:=S3 k ne
  refine⟨_,rfl,_,rfl,trivial,?_,?_⟩
  ·rw [T8,bj0]
   unfold after
   rw [bg5,bp9]; omega
  refine⟨_,rfl,_,rfl,_,_,rfl,.inl rfl,by omega,fun mp dm=>⟨mp,rfl,.inl rfl,?_,?_⟩⟩
  ·have:=dm.len; omega
  have D7:DS (gW ps mp) (aY ws ls ns (k+1)):=d.merge dm
  refine⟨_,rfl,_,rfl,_,rfl,ws,ls,_,_,rfl,wb,D7,trivial,?_⟩
  refine⟨_,?_,k+1,gW ps mp,?_,rfl,D7,fun j hj=>?_⟩
  ·show cold ws (aY ws ls ns k ++ nextOf ws ls (aY ws ls ns k)) < _
   omega
  ·rw [S0,<- List.cons_append]
   unfold tups
   rw [bl2]; rfl
  ·by_cases e:j=k
   ·rw [e,hn]; exact fun z=>nomatch z
   ·exact ne j (by omega)
def aa2 (Ep:Str->Prop):aK:=(aP (gD 2 (qC (.dK [])))
 (aP (fC (xD (eZ Ep t8 (a6 (a5 0) (a6 (a5 1) a9)))) (oF 3 4)
  (fC (dI (a5 4)) (bI 5)
   (r6 2 (a5 5) (a5 3))))
 (iB 2)))
theorem aU0:iL aa2 ["web","seeds","ranks","rank","lit","hearth"] t9:=by
 rintro Ep xs Q ⟨ws,ls,x,ns,rfl,wb,hx,hl,q,qe⟩
 have few:=wb.few
 refine⟨rfl,rfl,_,rfl,_,rfl,ws,ls,x,ns,rfl,wb,hx,hl,fun hs m en=>⟨_,.inl rfl,fun z=>(by cases z),?_⟩,qe⟩
 have q:=q hs
 have fl:=wX ws ls ns m
 have sl:=x5 (ls:=ls) hs m
 have nd:=V5 (ls:=ls) hs m
 generalize hrs:ns :: after ws ls ns m=rs at fl
 rw [<- fl] at sl nd
 refine⟨fun i ρ=>∃ y z u,ρ = [some (.sh (flat (bJ ws ls)) (bJ ws ls)),some (.sh (flat x) x),some (.own (.dK (jC (rs.take i)))),y,z,u],⟨none,none,none,rfl⟩,?_,?_⟩
 ·rintro i y ρ hy ⟨y0,z0,u0,rfl⟩
  obtain ⟨y,hy2,rfl⟩:=aM5 hy
  obtain ⟨r,rfl,hr⟩:=aI8 hy2
  have tk:rs.take (i+1)=rs.take i ++ [r]:=by rw [bt0,hr]; rfl
  have il:(rs.take i).length=i:=by
   have:=(bh4.mp hr).1
   rw [bp0]; omega
  have nd2:((rs.take i).flatten ++ r).Nodup/\((rs.take i).flatten ++ r).length<=rs.flatten.length:=by
   have e:rs.flatten=((rs.take i).flatten ++ r) ++ (rs.drop (i+1)).flatten:=by
    rw [<- List.flatten_singleton (l:=r),<- List.flatten_append,<- tk,<- List.flatten_append,bj3]
   rw [e] at nd ⊢
   exact⟨(bt2.mp nd).1,by rw [bh9 (as:=(rs.take i).flatten ++ r)]; omega⟩
  refine⟨_,_,rfl,_,rfl,_,rfl,fun z=>(by cases z),fun j ρ=>∃ u,ρ = [some (.sh (flat (bJ ws ls)) (bJ ws ls)),some (.sh (flat x) x),some (.own (.dK (jC (rs.take i) ++ gL i (r.take j)))),some (.sh true (.int (i:Int))),some (.sh true (.tup (intz r))),u],⟨u0,?_⟩,?_,?_⟩
  ·rw [show gL i (r.take 0) = [] from rfl,bi9]
   rfl
  ·rintro j y ρ hy ⟨u1,rfl⟩
   obtain ⟨n,rfl,hn⟩:=eL hy
   have ke:(jC (rs.take i) ++ gL i (r.take j)).map (·.1)=((rs.take i).flatten ++ r.take j).map (Sum.inl:Int->aA):=by
    rw [bl2,bl2,X3,X1]
   have nn:n ∉ (rs.take i).flatten ++ r.take j:=by
    have:=nd2.1
    rw [<- bj3 j r,bp8 (bh4.mp hn).1,(bh4.mp hn).2,<- bi4] at this
    exact fun z=>(bt2.mp this).2.2 n z n bg7 rfl
   have le:(jC (rs.take i) ++ gL i (r.take j)).length<=40:=by
    have e1:=congrArg List.length ke
    have e2:=nd2.2
    rw [bg5,bg5,bh9,bh9,bp0] at e1
    rw [bh9] at e2
    rw [bh9]
    omega
   refine⟨_,rfl,_,rfl,_,rfl,Sum.inl n,rfl,trivial,by omega,si n,?_⟩
   rw [aP1 ke nn,aP2 hn,bi4]
   rfl
  ·rintro ρ ⟨u,rfl⟩
   refine⟨some (.sh true (.int i)),some (.sh true (.tup (intz r))),u,?_⟩
   rw [b7,bk9,tk,aP0,il]
 ·rintro ρ ⟨y,z,u,rfl⟩
  rw [xC,T8,bk9,<- hrs]
  exact⟨_,rfl,trivial,q m en⟩
def aa3 (Ep:Str->Prop):aK:=(aZ (aC dF (a6 (aC xG (a6 (eZ Ep t9 (a6 (a5 0) (a6 (a5 1) a9))) a9)) a9)))
theorem aU1:iL aa3 ["web","seeds"] tD:=by
 rintro Ep xs Q ⟨ws,ls,x,ns,rfl,wb,hx,hl,q,qe⟩
 have few:=wb.few
 refine⟨_,rfl,_,rfl,ws,ls,x,ns,rfl,wb,hx,hl,fun hs m en=>?_,qe⟩
 have sl:=x5 (ls:=ls) hs m
 refine⟨_,aY ws ls ns m,rfl,?_,by omega,fun ms hp ho=>⟨⟨_,_,rfl,rfl,cE _,trivial,q hs ms m en hp ho⟩,fun ns z=>by cases z⟩⟩
 rw [X3,wX]
def aa4 (Ep:Str->Prop):aK:=(aZ (dP (aC dD (a6 (eZ Ep tD (a6 (a5 0) (a6 (a5 1) a9))) a9)) (aC iI (a6 (a5 0) a9))))
theorem aU2:iL aa4 ["web","seeds"] tE:=by
 rintro Ep xs Q ⟨ws,ls,x,ns,rfl,wb,hx,hl,q,qe⟩
 refine⟨_,rfl,_,rfl,ws,ls,x,ns,rfl,wb,hx,hl,fun hs ms m en hp ho=>⟨_,_,rfl,rfl,_,rfl,ws,ls,rfl,.inl ⟨_,_,rfl,rfl,trivial,?_⟩⟩,qe⟩
 rw [b7,hp.length_eq]
 exact q hs m en
def tF:bC:=fun xs Q=>∃ ws ls y ms,xs = [bJ ws ls,y]/\cQ y ms/\ms.length<=1000/\ws.length<=1000/\Q (.tup (intz (bP ws.length ms)))
def aa5:aK:=(aZ (aC mR (a6 (T9 (aC iI (a6 (a5 0) a9))) (a6 (a5 1) a9))))
theorem aU3:cN aa5 ["web","some"] tF:=by
 rintro xs Q ⟨ws,ls,y,ms,rfl,hy,hm,hw,q⟩
 refine⟨_,rfl,ws,ls,rfl,_,rfl,by omega,by omega,?_⟩
 rw [aK3]
 refine⟨_,rfl,_,rng ws.length,y,ms,rfl,.inr rfl,hy,by rw [kX]; omega,hm,trivial,q⟩
theorem aU4 (ws:List Int) (S:List Int):(bP ws.length S).length=cold ws S:=rfl
section
variable {ws : List Int} {ls : List (Int × Int)} {S : List Int}
def cC (ws:List Int) (ls:List (Int × Int)) (S:List Int):List Int:=bO ws ls S S.length
theorem aa6 (ws:List Int) (ls:List (Int × Int)) (S:List Int):∀ k,stay ws ls (bO ws ls S k)=bO ws ls S k ∨ (bO ws ls S k).length+k<=S.length
 | 0=>.inr (bg1 _)
 | k+1=>by
  rcases aa6 ws ls S k with h | h
  ·left
   show stay ws ls (stay ws ls (bO ws ls S k))=stay ws ls (bO ws ls S k)
   rw [h,h]
  ·by_cases e:stay ws ls (bO ws ls S k)=bO ws ls S k
   ·left
    show stay ws ls (stay ws ls (bO ws ls S k))=stay ws ls (bO ws ls S k)
    rw [e,e]
   ·right
    have:=V9 e
    show (stay ws ls (bO ws ls S k)).length+(k+1)<=S.length
    unfold stay at this ⊢
    omega
theorem aa7 (ws:List Int) (ls:List (Int × Int)) (S:List Int):stay ws ls (cC ws ls S)=cC ws ls S:=by
 rcases aa6 ws ls S S.length with h | h
 ·exact h
 ·have e:bO ws ls S S.length = []:=bo8 (by omega)
  unfold cC; rw [e]; rfl
theorem xU (ws:List Int) (ls:List (Int × Int)) (S:List Int):pA ws ls S (cC ws ls S):=W7 (aa7 ws ls S)
theorem nA (hs:aT ws.length S=true):aT ws.length (cC ws ls S)=true:=p9 hs _
theorem aa8 (hs:aT ws.length S=true) {k:Nat} (h:stay ws ls (bO ws ls S k)=bO ws ls S k):bO ws ls S k=cC ws ls S:=
 W9 (W7 h) (xU ws ls S) (p9 hs k) (nA hs)
def dU (ws:List Int) (ls:List (Int × Int)):List Int->List Int->List Int
 | [],L=>L
 | h :: r,L=>dU ws ls r (if h ∈ L then (if cC ws ls (L.filter fun z=>!decide (z ∈ [h])) = [] then L else cC ws ls (L.filter fun z=>!decide (z ∈ [h]))) else L)
end
theorem aU5 {ws:List Int}{ls:List (Int × Int)}{G L:List Int}{i:Nat}{h:Int} (e:G[i]? = some h):dU ws ls (G.drop i) L=dU ws ls (G.drop (i+1)) (if h ∈ L then (if cC ws ls (L.filter fun z=>!decide (z ∈ [h])) = [] then L else cC ws ls (L.filter fun z=>!decide (z ∈ [h]))) else L):=by
 obtain ⟨hi,eh⟩:=bh4.mp e
 rw [bp8 hi,eh]
 rfl
def nB:cY:=mZ fun ws ls S Q=>Q (.tup (intz (dU ws ls (cC ws ls S) (cC ws ls S))))
def aa9 (Ep:Str->Prop):aK:=(aP (b9 2 (eZ Ep l9 (a6 (a5 0) (a6 (a5 1) a9))))
 (aP (b9 3 (a5 2))
 (aP (fC (dI (a5 2)) (bI 4)
  (bM (aR (q2 (fL false) (a5 4) (a5 3))) (aP (b9 5 (eZ Ep l9 (a6 (a5 0) (a6 (aC mR (a6 (a5 3) (a6 (jO (a6 (a5 4) a9)) a9))) a9))))
   (bM (oE (a5 5)) (b9 3 (a5 5)) cA)) cA))
 (iB 3))))
theorem aU6:iL aa9 ["web","some","whole","left","hearth","smaller"] nB:=by
 rintro Ep xs Q ⟨ws,ls,x,S,rfl,wb,hx,hl,q,qe⟩
 have few:=wb.few
 refine⟨_,rfl,_,rfl,ws,ls,x,S,rfl,wb,hx,hl,fun hs k hk=>⟨trivial,?_⟩,qe⟩
 have q:Q (.tup (intz (dU ws ls (cC ws ls S) (cC ws ls S)))):=q hs
 rw [aa8 hs hk]
 have gs:=nA (ls:=ls) hs
 generalize cC ws ls S=G at q gs
 refine⟨_,rfl,trivial,?_⟩
 refine⟨_,rfl,_,rfl,(fun z=>by cases z),fun i ρ=>∃ (L:List Int) (y4 y5:Option Slot),ρ = [some (.sh (flat (bJ ws ls)) (bJ ws ls)),some (.sh (flat x) x),some (.sh true (.tup (intz G))),some (.sh true (.tup (intz L))),y4,y5]/\
   aT ws.length L=true/\dU ws ls (G.drop i) L=dU ws ls G G,⟨G,none,none,rfl,gs,rfl⟩,?_,?_⟩
 ·rintro i y ρ hy ⟨L,y4,y5,rfl,lset,inv⟩
  obtain ⟨h,rfl,hh⟩:=eL hy
  rw [aU5 hh] at inv
  have ll:=gJ lset
  refine sM ?_
  refine⟨_,rfl,_,rfl,_,L,rfl,rfl,_,rfl,?_⟩
  show if decide (h ∈ L)=true then _ else _
  by_cases hm:h ∈ L
  ·rw [if_pos hm] at inv
   rw [bg3 hm]
   refine aW ?_
   refine⟨_,rfl,_,rfl,_,rfl,by show 1<=1000; decide,rfl,_,L,_,[h],rfl,.inl rfl,.inr rfl,by omega,by show 1<=1000; decide,?_⟩
   have ws1:aT ws.length (L.filter fun z=>!decide (z ∈ [h]))=true:=sO lset _
   refine⟨ws,ls,_,_,rfl,wb,.inl rfl,?_,fun _ k2 hk2=>⟨trivial,?_⟩,fun z=>by rw [ws1] at z; cases z⟩
   ·have:=br9 (fun z=>!decide (z ∈ [h])) L
    omega
   rw [aa8 ws1 hk2]
   have s2:=nA (ls:=ls) ws1
   generalize cC ws ls (L.filter fun z=>!decide (z ∈ [h]))=M at inv s2
   refine⟨_,rfl,_,rfl,?_⟩
   cases hM:M with
   | nil=>
    rw [hM,if_pos rfl] at inv
    exact aO ⟨L,si h,some (.sh true (.tup (intz []))),rfl,lset,inv⟩
   | cons a r=>
    rw [hM,if_neg (fun z=>nomatch z)] at inv
    rw [hM] at s2
    exact aW ⟨_,rfl,trivial,a :: r,si h,some (.sh true (.tup (intz (a :: r)))),rfl,s2,inv⟩
  ·rw [if_neg hm] at inv
   rw [bg2 hm]
   exact aO ⟨L,si h,y5,rfl,lset,inv⟩
 ·rintro ρ ⟨L,y4,y5,rfl,lset,inv⟩
  rw [b7,List.drop_of_length_le (bg1 _)] at inv
  refine⟨_,rfl,trivial,?_⟩
  rw [show L=dU ws ls G G from inv]
  exact q
section
variable {ws : List Int} {ls : List (Int × Int)}
def cne (ws:List Int) (ls:List (Int × Int)) (S:List Int):Bool:=!decide (S = []) && decide (stay ws ls S=S)
end
theorem ab0 {b:Bool}{A B:Prop} (a:A) (c:B):if b=true then A else B:=by
 cases b with
 | true=>exact aW a
 | false=>exact aO c
def far (ns S:List Int):Bool:=decide (((S.filter fun x=>decide (x ∈ ns)).length:Int)=0)
theorem aU7 {ns S:List Int}:far ns S=true ↔ ∀ x ∈ S,x ∉ ns:=by
 unfold far
 rw [bj9]
 refine⟨fun z x hx hn=>?_,fun z=>?_⟩
 ·have e0:S.filter (fun x=>decide (x ∈ ns)) = []:=bo8 (by omega)
  exact List.filter_eq_nil_iff.mp e0 x hx (bg3 hn)
 ·rw [List.filter_eq_nil_iff.mpr fun x hx h=>z x hx (bq1 h)]; rfl
theorem aU8 {ws:List Int}{ls:List (Int × Int)}{S:List Int}{k:Nat} (hS:aT ws.length S=true):decide (((aY ws ls S k).length:Int)=(ws.length:Int))=decide (bP ws.length (aY ws ls S k) = []):=by
 have len:(aY ws ls S k).length+(bP ws.length (aY ws ls S k)).length<=ws.length:=by
  have h1:=wV ws ls S k
  have h2:=wW (gI (dG hS).1) (dG hS).2
  rw [aU4]; omega
 rw [bp4,bj9,bj9]
 refine⟨fun z=>bo8 (by omega),fun z=>?_⟩
 have all:∀ x ∈ rng ws.length,x ∈ aY ws ls S k:=fun x hx=>Decidable.byContradiction fun y=>by
  have:=fO.mpr ⟨hx,y⟩
  rw [z] at this; cases this
 have:=(V0 ws.length).length_le_of_subset all
 rw [kX] at this
 omega
end Core
namespace Raw
open PySem PySem.W PySem.Calls PyProof.Rows
theorem xV {xs:List Nat} (a:xs.Pairwise (· < ·)) {i k:Nat} (hk:k < xs.length) (h:i<=k):xs.getD i 0<=xs.getD k 0:=by
 rcases bl3 i k with z | z
 ·have:=bl9.mp a i k (by omega) hk z
  rw [bh2,bh2,bf9 (by omega),bf9 hk]
  exact bm3 this
 ·rw [Nat.le_antisymm h z]; exact bg1 _
theorem aU9 {xs:Array Nat}{i j:Nat} (h:i < xs.size):xs.getD i j=xs.toList.getD i 0:=by
 rw [bh2,bk3,Array.getD_eq_getD_getElem?,bj6 h]; rfl
theorem xW {xs:Array Nat}{j:Nat} (a:xs.toList.Pairwise (· < ·)):∀ (fuel lo hi:Nat),lo<=hi->hi<=xs.size->hi - lo<=fuel->(∀ i,i < lo->xs.toList.getD i 0 < j)->(∀ i,hi<=i->i < xs.size->j<=xs.toList.getD i 0)->
  SetTable.below.go xs j fuel lo hi<=xs.size/\(∀ i,i < SetTable.below.go xs j fuel lo hi->xs.toList.getD i 0 < j)/\∀ i,SetTable.below.go xs j fuel lo hi<=i->i < xs.size->j<=xs.toList.getD i 0
 | 0,lo,hi,h1,h2,h3,h4,h5=>by
  have e:lo=hi:=by omega
  subst e
  exact⟨h2,h4,h5⟩
 | fuel+1,lo,hi,h1,h2,h3,h4,h5=>by
  have sz:xs.toList.length=xs.size:=bi3
  unfold SetTable.below.go
  by_cases lt:lo < hi
  ·rw [if_pos lt]
   dsimp only
   have m1:lo<=(lo+hi) / 2:=by omega
   have m2:(lo+hi) / 2 < hi:=by omega
   rw [aU9 (by omega)]
   by_cases c:xs.toList.getD ((lo+hi) / 2) 0 < j
   ·rw [if_pos c]
    exact xW a fuel _ _ (by omega) h2 (by omega) (fun i hi'=>Nat.lt_of_le_of_lt (xV a (by omega) (by omega)) c) h5
   ·rw [if_neg c]
    exact xW a fuel _ _ (by omega) (by omega) (by omega) h4 fun i h6 h7=>bk0 (bt9 c) (xV a (by omega) h6)
  ·rw [if_neg lt]
   have e:lo=hi:=by omega
   subst e
   exact⟨h2,h4,h5⟩
theorem xX {xs:Array Nat}{j:Nat} (a:xs.toList.Pairwise (· < ·)):SetTable.below xs j<=xs.size/\(∀ i,i < SetTable.below xs j->xs.toList.getD i 0 < j)/\∀ i,SetTable.below xs j<=i->i < xs.size->j<=xs.toList.getD i 0:=
 xW a xs.size 0 xs.size (bk5 _) (bg1 _) (by omega) (fun i h=>absurd h (Nat.not_lt_zero _)) fun i h1 h2=>absurd h2 (by omega)
theorem aV0 {α:Type} (xs:Array α) (p:Nat) (x:α):(SetTable.insertAt xs p x).toList=xs.toList.take p ++ x :: xs.toList.drop p:=by
 unfold SetTable.insertAt
 simp
 exact bn8 (by simp)
theorem aV1 {xs:Array Nat}{j:Nat} (a:xs.toList.Pairwise (· < ·)) (ne:xs[SetTable.below xs j]? ≠ some j):(SetTable.insertAt xs (SetTable.below xs j) j).toList.Pairwise (· < ·):=by
 obtain ⟨b1,b2,b3⟩:=xX (j:=j) a
 have sz:xs.toList.length=xs.size:=bi3
 rw [aV0]
 refine bk8.mpr ⟨a.sublist (List.take_sublist _ _),List.pairwise_cons.mpr ⟨fun x hx=>?_,a.sublist (List.drop_sublist _ _)⟩,fun x hx y hy=>?_⟩
 ·obtain ⟨i,hi,e⟩:=bo1 hx
  rw [bn4] at hi
  rw [List.getElem_drop] at e
  have h1:=b3 (SetTable.below xs j) (bg1 _) (by omega)
  have h2:=xV a (i:=SetTable.below xs j) (k:=SetTable.below xs j+i) (by omega) (by omega)
  have h3:xs.toList.getD (SetTable.below xs j+i) 0=x:=by rw [bh2,bf9 (by omega),e]; rfl
  rcases bl3 j x with z | z
  ·exact z
  ·exfalso
   have h4:xs.toList.getD (SetTable.below xs j) 0=j:=by omega
   rw [bh2,bf9 (by omega)] at h4
   refine ne ?_
   rw [<- bk3,bf9 (by omega)]
   exact congrArg some h4
 ·have hx':x < j:=by
   obtain ⟨i,hi,e⟩:=bo1 hx
   rw [bp0] at hi
   rw [List.getElem_take] at e
   have:=b2 i (by omega)
   rw [bh2,bf9 (by omega),e] at this
   exact this
  rcases bg4.mp hy with e | hy
  ·rw [e]; exact hx'
  ·obtain ⟨i,hi,e⟩:=bo1 hy
   rw [bn4] at hi
   rw [List.getElem_drop] at e
   have:=b3 (SetTable.below xs j+i) (by omega) (by omega)
   rw [bh2,bf9 (by omega),e] at this
   exact bh0 hx' this
structure gM (b:Bool) (t:SetTable):Prop where
 asc:t.place.toList.Pairwise (· < ·)
 dm:t.dummies = #[]
 led:t.led=b
theorem ab1 (j:Nat):SetTable.has #[] j=false:=by
 unfold SetTable.has
 simp
theorem ab2 {t:SetTable} (dm:t.dummies = #[]) {h:Int}{j:Nat}{d:Option Nat}:∀ (fuel:Nat) (p:SetTable.Probe),p.dummy=none->SetTable.probe.go t (fun _=>h+1) h fuel p=some (.empty j d)->d=none/\t.slot j = .empty
 | 0,p,_,e=>by cases e
 | fuel+1,p,hp,e=>by
  unfold SetTable.probe.go at e
  have adv:∀ p:SetTable.Probe,p.dummy=none->(t.advance p).dummy=none:=fun p hp=>by
   unfold SetTable.advance
   split <;> exact hp
  cases hs:t.slot p.j with
  | empty=>
   rw [hs] at e
   cases e
   exact⟨hp,hs⟩
  | dummy=>
   exfalso
   unfold SetTable.slot at hs
   dsimp only at hs
   rw [dm,ab1] at hs
   split at hs <;> cases hs
  | live i=>
   rw [hs] at e
   dsimp only at e
   rw [if_neg (by simp; omega)] at e
   exact ab2 dm fuel _ (adv p hp) e
theorem aV2 {t:SetTable} (dm:t.dummies = #[]) {h:Int}{sl:Nat}{d:Bool} (e:t.freeSlot h=some (sl,d)):t.slot sl = .empty:=by
 unfold SetTable.freeSlot at e
 split at e
 ·rename_i j dummy hm
  obtain ⟨e1,e2⟩:=ab2 dm _ _ rfl hm
  subst e1
  cases e
  exact e2
 ·cases e
theorem tG {b:Bool}{t:SetTable} (h:gM b t) (n:Nat):gM b (t.standIn n):=⟨by
 show (Array.range n).toList.Pairwise (· < ·)
 rw [Array.toList_range]; exact List.pairwise_lt_range,rfl,h.led⟩
theorem aV3 {b:Bool}{t:SetTable} (h:gM b t) {j:Nat} (hs:t.slot j = .empty):gM b (t.put j).1:=by
 refine⟨?_,?_,h.led⟩
 ·refine aV1 h.asc fun e=>?_
  unfold SetTable.slot at hs
  dsimp only at hs
  rw [if_pos (by rw [e]; exact bo5 _)] at hs
  cases hs
 ·show (if SetTable.has t.dummies j then SetTable.eraseAt t.dummies (SetTable.below t.dummies j) else t.dummies) = #[]
  rw [h.dm,ab1]; rfl
theorem aV4 {b:Bool}{t:SetTable} (h:gM b t) (es:Array (Int × Value)) (k:Int) (x:Value):gM b (layNew t es k x).2.1:=by
 unfold layNew
 split
 ·rename_i sl wd e
  have p:=aV3 h (aV2 h.dm e)
  show gM b (SetTable.orStandIn _ _)
  unfold SetTable.orStandIn
  split
  ·exact p
  ·exact tG p _
 ·exact tG h _
theorem aV5 {b:Bool}{t:SetTable} (h:gM b t) (es:Array (Int × Value)) (n:Nat):gM b (relayAll t es n).2.1:=by
 unfold relayAll
 split
 ·rename_i t' order e
  dsimp only
  split
  ·show gM b t'
   unfold SetTable.relaid SetTable.laid at e
   cases hc:SetTable.layClean (SetTable.sizeAbove n - 1) (es.map (·.1)) with
   | none=>rw [hc] at e; cases e
   | some owner=>
    rw [hc] at e
    cases e
    refine⟨?_,rfl,h.led⟩
    show (List.map _ _).Pairwise (· < ·)
    refine bq0.mpr (List.Pairwise.filterMap _ (R:=(· < ·)) ?_ List.pairwise_lt_range)
    intro i i' hlt x hx y hy
    cases ho:owner.getD i none with
    | none=>rw [ho] at hx; cases hx
    | some v=>
     rw [ho] at hx
     cases ho2:owner.getD i' none with
     | none=>rw [ho2] at hy; cases hy
     | some v2=>
      rw [ho2] at hy
      cases hx; cases hy
      exact hlt
  ·exact tG h _
 ·exact tG h _
theorem xY {us vs:List Value} (p:us.Perm vs):∀ {ns:List Int},IntsAre vs ns->∃ ms,IntsAre us ms/\ms.Perm ns:=by
 induction p with
 | nil=>intro ns h; exact⟨ns,h,bu7 _⟩
 | cons x _ ih=>
  intro ns h
  cases h with
  | cons n t r=>
   obtain ⟨ms,h1,h2⟩:=ih r
   exact⟨n :: ms,.cons n t h1,h2.cons n⟩
 | swap x y l=>
  intro ns h
  cases h with
  | cons n t r=>
   cases r with
   | cons n' t' r=>
    exact⟨n' :: n :: _,.cons n' t' (.cons n t r),List.Perm.swap _ _ _⟩
 | trans _ _ ih1 ih2=>
  intro ns h
  obtain ⟨ms,h1,h2⟩:=ih2 h
  obtain ⟨ms',h3,h4⟩:=ih1 h1
  exact⟨ms',h3,h4.trans h2⟩
theorem ab3:∀ {us:List Value}{ns:List Int},IntsAre us ns->∀ (k:Int) (t:Nat),IntsAre (us ++ [.int k t]) (ns ++ [k])
 | _,_,.nil,k,t=>.cons k t .nil
 | _,_,.cons n u r,k,t=>.cons n u (ab3 r k t)
theorem tH:∀ {us:List Value}{ns:List Int},IntsAre us ns->∀ k:Int,k ∈ ns ↔ ∃ t,Value.int k t ∈ us
 | _,_,.nil,k=>⟨(fun h=>nomatch h),(fun ⟨_,h⟩=>nomatch h)⟩
 | _,_,.cons n u r,k=>by
  constructor
  ·intro h
   rcases bg4.mp h with e | h
   ·exact⟨u,by rw [e]; exact bg7⟩
   ·obtain ⟨t,ht⟩:=(tH r k).mp h
    exact⟨t,bh5 _ ht⟩
  ·rintro ⟨t,h⟩
   rcases bg4.mp h with e | h
   ·cases e; exact bg7
   ·exact bh5 _ ((tH r k).mpr ⟨t,h⟩)
abbrev cJ (es:Array (Int × Value)) (ep:Nat) (t:SetTable):Obj:={ cls:=.type "set",dict:=none,data:=.set es ep t,slots:=#[] }
section
variable {prog : Program} {w : World} {A : Around} {E : Value → Shared → Prop} {s : Shared}
def nC (prog:Program) (w:World) (es:Array (Int × Value)) (t:SetTable) (ms:List Int):Prop:=ElemsOf (intKind prog w) es.toList/\IntsAre (es.toList.map (·.2)) ms/\es.size < scanBound/\t.fits es.size=true/\gM (!w.params.followText "set-order") t
def jE (prog:Program) (w:World) (h:Heap) (a:Addr) (ms:List Int):Prop:=∃ es ep t,h.get? a=some (cJ es ep t)/\nC prog w es t ms
theorem ab4 {h:Heap}{a:Addr}{es es':Array (Int × Value)}{ep:Nat}{t t':SetTable} (ho:h.get? a=some (cJ es ep t)):(h.update a (Obj.putSet es' t')).get? a=some (cJ es' (ep+1) t'):=by
 have:=bl8 (Obj.putSet es' t') ho (by rw [putSet_of es' t' (rfl:(cJ es ep t).data=_)]; rfl)
 rw [putSet_of es' t' (rfl:(cJ es ep t).data=_)] at this
 exact this
theorem add_int {a:Addr}{ms:List Int}{k:Int}{u:Nat}{Q:Bool->Shared->Prop} (hS:jE prog w s.heap a ms) (room:ms.length+1 < scanBound)
  (h:∀ b h' ms',Heap.SameBut a s.heap h'->jE prog w h' a ms'->(k ∈ ms->ms'.Perm ms)->(k ∉ ms->ms'.Perm (ms ++ [k]))->Q b { s with heap:=h' }) :
  wpAny (model prog w) A (setAddHashed a (.int k u) ((intKind prog w).hash k)) Q E s:=by
 obtain ⟨es,ep,t,ho,hel,hi,hb,hf,tk⟩:=hS
 have key:(intKind prog w).is k (.int k u)=true:=intKind_is _ _ _ _
 have ln:ms.length=es.size:=by
  have:=IntsAre.length hi
  rw [bg5,bi3] at this
  exact this.symm
 have isk:∀ v,(intKind prog w).is k v=true->∃ u,v = .int k u:=fun v hv=>Value.isInt_shape hv
 unfold setAddHashed setAddHashedIn
 refine bl6 (bf5 (bv6 ho rfl hf ?_))
 dsimp only
 rw [byScan_of (knd:=intKind prog w) (x:=.int k u) rfl hb hel,if_pos rfl]
 unfold setAddByScan
 refine bf5 (bf5 (bs2 ?_))
 refine bf5 (wpAny_setScan_of key ho rfl hf hel ?_)
 cases hr:List.findIdx? (fun e=>(intKind prog w).is k e.2) es.toList with
 | some j=>
  dsimp only
  obtain ⟨hj,hp,_⟩:=List.findIdx?_eq_some_iff_getElem.mp hr
  have km:k ∈ ms:=by
   obtain ⟨u',e⟩:=isk _ hp
   exact (tH hi k).mpr ⟨u',by rw [<- e]; exact bm8.mpr ⟨_,bp7 hj,rfl⟩⟩
  have e:s={ s with heap:=s.heap }:=by cases s; rfl
  rw [e]
  exact bf8 (bf8 (h _ s.heap ms (Heap.SameBut.refl a s.heap) ⟨es,ep,t,ho,hel,hi,hb,hf,tk⟩ (fun _=>bu7 _) fun n=>absurd km n))
 | none=>
  dsimp only
  have km:k ∉ ms:=fun z=>by
   obtain ⟨u',hm⟩:=(tH hi k).mp z
   obtain ⟨e,he,e2⟩:=bm8.mp hm
   have:=List.findIdx?_eq_none_iff.mp hr e he
   rw [e2,intKind_is _ _ _ _] at this; cases this
  have lp:=layNew_perm t es ((intKind prog w).hash k) (.int k u)
  have lf:=layNew_fits t es ((intKind prog w).hash k) (.int k u)
  have lk:=aV4 tk es ((intKind prog w).hash k) (.int k u)
  generalize hL:layNew t es ((intKind prog w).hash k) (.int k u)=L at lp lf lk ⊢
  obtain ⟨es1,t1,wd,gave⟩:=L
  dsimp only at lp lf lk ⊢
  rw [Array.toList_push] at lp
  have el1:ElemsOf (intKind prog w) es1.toList:=(hel.push key rfl).perm lp
  have sz1:es1.size=es.size+1:=by rw [<- bi3,lp.length_eq,bh9,bi3]; rfl
  obtain ⟨ms1,i1,p1⟩:∃ ms1,IntsAre (es1.toList.map (·.2)) ms1/\ms1.Perm (ms ++ [k]):=xY (lp.map (·.2)) (by rw [bl2]; exact ab3 hi k u)
  have hb1:es1.size < scanBound:=by omega
  have gw:∀ (b:Bool) (s₁:Shared) (Q':Unit->Shared->Prop),Q' () s₁->wpAny (model prog w) A (match b with | true=>rule "set.scan.the-table-gave-way" | false=>pure ()) Q' E s₁:=fun b s₁ Q' hq=>by
   cases b
   ·exact bf8 hq
   ·exact bs2 hq
  refine bf5 (gw _ _ _ ?_)
  split <;> (
   show wpAny _ _ (storeSet a es1 t1 >>= _) _ _ _
   simp only [↓reduceIte]
   refine bf5 (wpAny_storeSet_of ho rfl ?_ (fits_of_scanBound hb1))
   have ho1:=ab4 (es':=es1) (t':=t1) ho
   have sb1:=bl1 s.heap a (Obj.putSet es1 t1)
   split
   ·have rp:=relayAll_perm t1 es1 (SetTable.grown es1.size)
    have rf:=relayAll_fits t1 es1 (SetTable.grown es1.size)
    have rk:=aV5 lk es1 (SetTable.grown es1.size)
    generalize relayAll t1 es1 (SetTable.grown es1.size)=L at rp rf rk ⊢
    obtain ⟨es2,t2,gave2⟩:=L
    dsimp only at rp rf rk ⊢
    have sz2:es2.size=es1.size:=by rw [<- bi3,rp.length_eq,bi3]
    obtain ⟨ms2,i2,p2⟩:=xY (rp.map (·.2)) i1
    refine bf5 (gw _ _ _ ?_)
    refine bf5 (wpAny_storeSet_of ho1 rfl ?_ (fits_of_scanBound (by omega)))
    exact bf8 (bf8 (h _ _ ms2 (sb1.trans (bl1 _ a _)) ⟨es2,_,t2,ab4 ho1,el1.perm rp,i2,by omega,rf,rk⟩ (fun z=>absurd z km) fun _=>p2.trans p1))
   ·exact bf8 (bf8 (h _ _ ms1 sb1 ⟨es1,_,t1,ho1,el1,i1,hb1,lf,lk⟩ (fun z=>absurd z km) fun _=>p1)))
end
section
variable {prog : Program} {w : World} {A : Around} {R : Result → Shared → Prop} {I : Addr} {fp wr : List Addr} {G : Array GenState → Array GenState → Prop} {n : Nat} {P : Nat → Value → Prop} {St : Nat → Shared → Prop}
theorem jE.at' {h h':Heap}{a:Addr}{ms:List Int} (x:jE prog w h a ms) (k:∀ o,h.get? a=some o->h'.get? a=some o):jE prog w h' a ms:=by
 obtain ⟨es,ep,t,ho,r⟩:=x
 exact⟨es,ep,t,k _ ho,r⟩
theorem aV6 (W:WalksS prog w A.in1 I fp wr G n P St) (a:Addr) (af:a ∉ fp) (val:Nat->Int) (hval:∀ i v,P i v->∃ t,v = .int (val i) t) (hb:n+1 < scanBound) :
  ∀ (k i:Nat) (s:Shared) (ms:List Int),n - i=k->i<=n->St i s->jE prog w s.heap a ms->ms.Nodup->ms.length<=i->(∀ x,x ∈ ms ↔ ∃ j,j < i/\val j=x)->
   (∀ s' ms',Moved (a :: wr) G s s'->jE prog w s'.heap a ms'->ms'.Nodup->(∀ x,x ∈ ms' ↔ ∃ j,j < n/\val j=x)->R (.ok (.ret .none)) s')->
   codeAny (model prog w) A (.builtin "set.update.loop" ⟨[.ref a,.ref I],[]⟩) R s:=by
 have aw:a ∉ wr:=fun h=>af (W.sub _ h)
 have up:∀ b ∈ wr,b ∈ a :: wr:=fun b hb=>bh5 _ hb
 intro k
 induction k with
 | zero=>
  intro i s ms hk hi st hS nd _ mem hR
  obtain rfl:i=n:=by omega
  refine br5 F.entry_set_update_loop ?_
  rw [bq9 F.plain_set_update_loop _]
  show wpAny _ A.in1 (pyNext (.ref I) >>= _) _ _ s
  refine bf5 (W.done s _ _ st fun s' hm=>?_)
  show wpAny _ A.in1 (ret Value.none) _ _ s'
  exact bf8 (hR s' ms (hm.mono up) (hS.at' fun o e=>hm.heap a _ aw e) nd mem)
 | succ k ih=>
  intro i s ms hk hi st hS nd ln mem hR
  have lt:i < n:=by omega
  refine br5 F.entry_set_update_loop ?_
  rw [bq9 F.plain_set_update_loop _]
  show wpAny _ A.in1 (pyNext (.ref I) >>= _) _ _ s
  refine bf5 (W.item i s _ _ lt st fun v s' hP st' hm=>?_)
  obtain ⟨t,rfl⟩:=hval i v hP
  have hS':jE prog w s'.heap a ms:=hS.at' fun o e=>hm.heap a _ aw e
  show wpAny _ A.in1 (holding [Value.int (val i) t] (setAdd a (.int (val i) t)) >>= _) _ _ s'
  refine bf5 (bl6 ?_)
  unfold setAdd
  refine bl6 (bf5 ((intKind prog w).pyHash (k:=val i) (intKind_is _ _ _ _) ?_))
  refine add_int (s:={ s' with toks:=s'.toks+1 }) hS' (by omega) fun b h' ms' sb S2 p1 p2=>?_
  have nd':ms'.Nodup:=by
   by_cases z:val i ∈ ms
   ·exact (p1 z).nodup_iff.mpr nd
   ·exact (p2 z).nodup_iff.mpr (bt2.mpr ⟨nd,bo7 _ _,fun x hx y hy e=>z (by rw [bh6.mp hy] at e; rw [<- e]; exact hx)⟩)
  have ln':ms'.length<=i+1:=by
   by_cases z:val i ∈ ms
   ·rw [(p1 z).length_eq]; omega
   ·rw [(p2 z).length_eq,bh9,bq2]; omega
  have mem':∀ x,x ∈ ms' ↔ ∃ j,j < i+1/\val j=x:=fun x=>by
   have:x ∈ ms' ↔ x ∈ ms ∨ x=val i:=by
    by_cases z:val i ∈ ms
    ·rw [(p1 z).mem_iff]
     exact⟨.inl,fun h=>h.elim id fun e=>by rw [e]; exact z⟩
    ·rw [(p2 z).mem_iff,bk1,bh6]
   rw [this,mem x]
   constructor
   ·rintro (⟨j,hj,e⟩ | e)
    ·exact⟨j,by omega,e⟩
    ·exact⟨i,by omega,e.symm⟩
   ·rintro ⟨j,hj,e⟩
    by_cases z:j=i
    ·exact .inr (by rw [<- e,z])
    ·exact .inl ⟨j,by omega,e⟩
  refine bf8 ⟨plainId_quiet F.plain_set_update_loop _,ih (i+1) _ ms' (by omega) lt (W.frame _ s' _ _ st' (Nat.le_succ _) fun b hb o e=>?_) S2 nd' ln' mem' fun s2 ms2 m2 hS2 n2 me2=>?_⟩
  ·rw [sb.2 b fun z:b=a=>af (by rw [<- z]; exact hb)]; exact e
  ·refine hR s2 ms2 (Moved.trans W.gtrans ((hm.mono up).then_heap (Nat.le_succ _) fun b o hb e=>?_) m2) hS2 n2 me2
   rw [sb.2 b fun z:b=a=>hb (by rw [z]; exact bg7)]; exact e
end
section
variable {prog : Program} {w : World} {A : Around} {E : Value → Shared → Prop} {s : Shared} {l : Addr} {items : Array Value} {ns : List Int}
def tI (prog:Program) (w:World) (ns:List Int) (h h':Heap):Prop:=(∃ ms,jE prog w h' h.objs.size ms/\ms.Nodup/\∀ x,x ∈ ms ↔ x ∈ ns)/\∀ b o,b < h.objs.size->h.get? b=some o->h'.get? b=some o
theorem aV7 (a:Value) {Q₁:Value->Shared->Prop} (h:Q₁ (.ref s.heap.objs.size) { s with heap:=s.heap.push (gZ (!w.params.followText "set-order")) }) :
  codeAny (model prog w) A (.call (.builtin "set.__new__") ⟨[.type "set",a],[]⟩) (wants Q₁ E) s:=by
 refine codeAny_of_tree ?_
 show wpAny _ A.in1 (do checkBuiltinCall "set.__new__" ⟨[.type "set",a],[]⟩; again (.builtin "set.__new__" ⟨[.type "set",a],[]⟩)) _ _ s
 refine bf5 (wpAny_of_eq (F.newCall_set_1 a) (bf8 ⟨plainId_quiet F.plain_set_new _,br5 F.entry_set_new ?_⟩))
 rw [bq9 F.plain_set_new _]
 unfold Builtin.«set.__new__» Builtin.Frozenset.newClass
 have hsub:=sub_set_self
 obtain ⟨hp,g,d,tk,os⟩:=s
 dsimp only
 wp_walk
 refine wpAny_askSetting (bf8 ?_)
 dsimp only
 simp only [newObj]
 refine bf5 (wpAny_alloc (bf8 ?_))
 exact bf8 h
theorem aV8 {Q:Value->Shared->Prop} (hh:A.handled=none) (hl:s.heap.IsTuple l items) (hi:IntsAre items.toList ns) (hb:items.size+1 < scanBound) (h:∀ h' tk,tI prog w ns s.heap h'->Q .none { s with heap:=h',toks:=tk }) :
  wpAny (model prog w) A (Builtin.«set.__init__» ⟨[.ref s.heap.objs.size,.ref l],[]⟩) (fun fin s'=>∃ r,fin = .done (.ret r)/\Q r s') E { s with heap:=s.heap.push (gZ (!w.params.followText "set-order")) }:=by
 generalize hled:(!w.params.followText "set-order")=led
 have hS:(s.heap.push (gZ led)).get? s.heap.objs.size=some (gZ led):=bg6 _ rfl
 have hT:Shared.TypeIs { s with heap:=s.heap.push (gZ led) } (.ref s.heap.objs.size) "set":=⟨_,hS,rfl⟩
 obtain ⟨ol,mM,hcl,nl,hdl⟩:=hl
 have lt:l < s.heap.objs.size:=bg8 mM
 obtain ⟨ocls,odict,odata,oslots⟩:=ol
 dsimp only at hcl hdl
 subst hcl hdl
 have hol1:=bf7 (gZ led) mM
 have tu:(s.heap.push (gZ led)).IsTuple l items:=⟨_,hol1,rfl,nl,rfl⟩
 have t1:=aH4
 have t2:=aH5
 have t3:(Value.type "tuple" == Value.type "dict")=false:=by decide
 unfold Builtin.«set.__init__» noKeywords Builtin.Frozenset.updateFrom
 generalize pi:pyIter=PI
 wp_walk
 subst pi
 apply bs1 tu
 apply bf5
 apply wpAny_runValue
 have sz:(s.heap.push (gZ led)).objs.size=s.heap.objs.size+1:=bp3 ..
 have il:=IntsAre.length hi
 rw [bi3] at il
 refine aV6 (Walks.tuple (by simp [hh]) (s.heap.push (gZ led)).objs.size l (by rw [sz]; exact bi6 (bv5 lt)) items).toS s.heap.objs.size (fun z=>?_) (fun i=>ns.getD i 0) (fun i v hv=>IntsAre.int_at hi i v (by rw [bk3]; exact hv)) hb items.size 0 _ [] (Nat.sub_zero _) (bk5 _) ⟨⟨_,bg6 _ rfl,rfl,rfl⟩,tu.push _⟩ ⟨#[],0,.fresh 0 0 led,bf7 _ hS,(fun e he=>by simp at he),.nil,by decide,rfl,⟨List.Pairwise.nil,rfl,hled.symm⟩⟩ .nil (bg1 _) (fun x=>⟨(fun z=>nomatch z),(fun ⟨_,z,_⟩=>absurd z (Nat.not_lt_zero _))⟩) ?_
 ·simp only [bg4,bh3,bk7] at z
  rcases z with z | z
  ·rw [sz] at z
   exact bi6 (Nat.lt_succ_self _) z
  ·exact bm4 lt z
 ·rintro ⟨h',g',d',tk',os'⟩ ms hm hS' nd mem
  obtain rfl:g'=s.gens:=hm.gens
  obtain rfl:d'=s.drawn:=hm.drawn
  obtain rfl:os'=s.os:=hm.os
  change wpAny _ _ _ _ _ _
  apply bf8
  change wpAny _ _ (ret Value.none) _ _ _
  refine bf8 ⟨_,rfl,h h' tk' ⟨⟨ms,hS',nd,fun x=>?_⟩,fun b o lb e=>hm.heap b o (fun z=>?_) (bf7 _ (bf7 _ e))⟩⟩
  ·rw [mem x]
   constructor
   ·rintro ⟨j,hj,e⟩
    rw [<- e,bh2,bf9 (by omega)]
    exact bp7 _
   ·intro hx
    obtain ⟨j,hj,e⟩:=bo1 hx
    exact⟨j,by omega,by rw [bh2,bf9 hj,e]; rfl⟩
  simp only [bg4,bh3,bk7] at z
  rcases z with z | z
  ·exact bi6 lb z
  ·rw [sz] at z
   exact bi6 (bv5 lb) z
theorem aV9 {Q:Value->Shared->Prop} (hh:A.handled=none) (hl:s.heap.IsTuple l items) (hi:IntsAre items.toList ns) (hb:items.size+1 < scanBound) (h:∀ h' tk,tI prog w ns s.heap h'->Q (.ref s.heap.objs.size) { s with heap:=h',toks:=tk }) :
  wpAny (model prog w) A (call (.type "set") [.ref l]) Q E s:=by
 have C:=F.called_set
 obtain ⟨c,tl,hmro⟩:=C.mro
 have c1:=C.made
 have c2:=C.sub
 have c3:=C.notType
 have c4:=C.canCreate
 have c5:=F.typeCall_set_1 (.ref l)
 have c6:=C.init.lookup
 have c7:=C.init.bind (.ref s.heap.objs.size)
 apply wpAny_call
 apply codeAny_of_tree
 change wpAny _ _ (callAny (.type "set") _) _ _ _
 refine bf8 ⟨Code.quiet_builtin _ (by decide +kernel),br5 F.entry_type_call ?_⟩
 rw [Around.under_plain (weight_type_call_type "set" [.ref l] []) rfl]
 repeat (any_goals first | assumption | wp_step | fail)
 refine codeAny_mono (aV7 (.ref l) (E:=E) (Q₁:=fun obj s₁=>obj = .ref s.heap.objs.size/\s₁={ s with heap:=s.heap.push (gZ (!w.params.followText "set-order")) }) ⟨rfl,rfl⟩) fun r s₁ hr=>?_
 match r,hr with
 | .error _,hr=>exact hr
 | .ok (.ret obj),hr=>
  obtain ⟨rfl,rfl⟩:=hr
  have hT:Shared.TypeIs { s with heap:=s.heap.push (gZ (!w.params.followText "set-order")) } (.ref s.heap.objs.size) "set":=⟨_,bg6 _ rfl,rfl⟩
  repeat (any_goals first | assumption | wp_step | fail)
  refine codeAny_mono (codeAny_call_builtin (R:=wants (fun r s₂=>r = .none/\∃ h' tk,s₂={ s with heap:=h',toks:=tk }/\tI prog w ns s.heap h') E) C.init.plain F.entry_set_init (check_set_init_1 hT ?_)) fun r₂ s₂ hr₂=>?_
  ·refine bo4 (aV8 (E:=fun _ _=>False) (Q:=fun r s₂=>r = .none/\∃ h' tk,s₂={ s with heap:=h',toks:=tk }/\tI prog w ns s.heap h') (by simp [hh]) hl hi hb fun h' tk f=>⟨rfl,h',tk,rfl,f⟩) ?_ ?_
   ·rintro fin s' ⟨r,rfl,q⟩
    exact q
   ·exact fun _ _ h=>h.elim
  match r₂,hr₂ with
  | .error _,hr₂=>exact hr₂
  | .ok (.ret _),hr₂=>
   obtain ⟨rfl,h',tk,rfl,f⟩:=hr₂
   repeat (any_goals first | assumption | wp_step | fail)
   exact h _ _ f
end
theorem aW0:entryFor table "set.__iter__" = some Builtin.«frozenset.__iter__»:=entryFor_alias (id':="frozenset.__iter__") (by kernel_rfl) rfl (by decide +kernel) (by kernel_rfl)
theorem i6:Slot "set_iterator" "__next__" "set_iterator.__next__":=
 .of (owner:="set_iterator") (n:="__next__") (by rw [typeLookup_type,builtinLookup_eq_fast]; kernel_rfl) (by decide +kernel) (by decide +kernel) (by decide +kernel) (by first | exact .inl (by decide +kernel) | exact .inr (by decide +kernel)) (by rw [isSubtype_type]; kernel_rfl)
theorem tJ:entryFor table "set_iterator.__next__" = some Builtin.«set_iterator.__next__»:=entryFor_of_tree (by kernel_rfl)
theorem ab5:Manifest.owners.lookup (String.ofList ['r','o','t','a','r','e','t','i','_','t','e','s'].reverse)=some Manifest.sig_set_iterator:=by kernel_rfl
theorem tK (a:Value):argsOk "set_iterator.__next__" ⟨[a],[]⟩:=by
 unfold argsOk; rw [signature?_of (id:="set_iterator.__next__") (n:=['_','_','t','x','e','n','_','_']) (o:=['r','o','t','a','r','e','t','i','_','t','e','s']) (by kernel_rfl) ab5]; kernel_rfl
theorem aW1:entryFor table "set_iterator.__iter__" = some Builtin.«dict_keyiterator.__iter__»:=
 entryFor_alias (id':="dict_keyiterator.__iter__") (by kernel_rfl) (by first | rfl | decide +kernel | (unfold String.splitOn; simp +decide [String.splitOnAux])) (by decide +kernel) (by kernel_rfl)
theorem ab6:Slot "set_iterator" "__iter__" "set_iterator.__iter__":=
 .of (owner:="set_iterator") (n:="__iter__") (by rw [typeLookup_type,builtinLookup_eq_fast]; kernel_rfl) (by decide +kernel) (by decide +kernel) (by decide +kernel) (by first | exact .inl (by decide +kernel) | exact .inr (by decide +kernel)) (by rw [isSubtype_type]; kernel_rfl)
theorem aW2 (a:Value):argsOk "set_iterator.__iter__" ⟨[a],[]⟩:=by
 unfold argsOk; rw [signature?_of (id:="set_iterator.__iter__") (n:=['_','_','r','e','t','i','_','_']) (o:=['r','o','t','a','r','e','t','i','_','t','e','s']) (by kernel_rfl) ab5]; kernel_rfl
section
variable {prog : Program} {w : World} {A : Around} {E : Value → Shared → Prop} {s : Shared} {I a : Addr} {es : Array (Int × Value)} {ep : Nat} {t : SetTable}
abbrev fR (f:Value) (i:Nat) (a:Addr) (n ep:Nat):Obj:={ cls:=.type "set_iterator",data:=.fields #[f,.int i 0,.ref a,.int n 0,.int ep 0] }
theorem aW3 {f:Value}{i:Nat}{Q:Option Value->Shared->Prop} (hi:s.heap.get? I=some (fR f i a es.size ep)) (ha:s.heap.get? a=some (cJ es ep t)) (hf:t.fits es.size=true) (ne:I ≠ a) {sl sl':Nat}{x:Value} (ef:f = .int sl 0)
  (hn:∀ (s:Shared) (Q:Option (Value × Nat)->Shared->Prop) (E:Value->Shared->Prop) (A:Around),s.heap.get? a=some (cJ es ep t)->Q (some (x,sl')) s->wpAny (model prog w) A (setNext a sl i ep) Q E s)
  (hQ:∀ h',h'.get? I=some (fR (.int sl' 0) (i+1) a es.size ep)->Heap.SameBut I s.heap h'->Q (some x) { s with heap:=h' }):wpAny (model prog w) A (pyNext (.ref I)) Q E s:=by
 have hT:s.TypeIs (.ref I) "set_iterator":=⟨_,hi,rfl⟩
 subst ef
 unfold pyNext
 refine bf5 (br0 (bj7 (name:=Str.ofString "__next__") hT i6 (bj4 i6 hT tJ ?_ (tK _))))
 unfold Builtin.«set_iterator.__next__»
 refine bf5 (bf8 ?_)
 refine bf5 (wpAny_fieldsOf hi rfl ?_)
 dsimp only
 refine bf5 (wpAny_setEntries_of ha rfl hf ?_)
 rw [if_neg (by simp)]
 refine bf5 (hn _ _ _ _ ha ?_)
 dsimp only
 refine bf5 (br3 hi rfl (by simp) ?_)
 have h1:(s.heap.update I (Obj.mapFields (·.setIfInBounds 0 (rawInt sl')))).get? I=some (fR (.int sl' 0) i a es.size ep):=by
  have:=bl8 (Obj.mapFields (·.setIfInBounds 0 (rawInt sl'))) hi rfl
  exact this
 refine bf5 (br3 h1 rfl (by simp) ?_)
 have h2:=bl8 (Obj.mapFields (·.setIfInBounds 1 (rawInt ((i:Int)+1)))) h1 rfl
 exact bf8 ⟨_,rfl,bf8 (hQ _ h2 ((bl1 ..).trans (bl1 ..)))⟩
theorem aW4 {f:Value}{i:Nat}{Q:Option Value->Shared->Prop} (hh:A.handled=none) (hi:s.heap.get? I=some (fR f i a es.size ep)) (ha:s.heap.get? a=some (cJ es ep t)) (hf:t.fits es.size=true) {sl:Nat} (ef:f = .int sl 0)
  (hn:∀ (s:Shared) (Q:Option (Value × Nat)->Shared->Prop) (E:Value->Shared->Prop) (A:Around),s.heap.get? a=some (cJ es ep t)->Q none s->wpAny (model prog w) A (setNext a sl i ep) Q E s)
  (hQ:∀ h',Heap.ExtBut I s.heap h'->Q none { s with heap:=h' }):wpAny (model prog w) A (pyNext (.ref I)) Q E s:=by
 have hT:s.TypeIs (.ref I) "set_iterator":=⟨_,hi,rfl⟩
 subst ef
 unfold pyNext
 refine bf5 (br0 (bj7 (name:=Str.ofString "__next__") hT i6 (bj4 i6 hT tJ ?_ (tK _))))
 unfold Builtin.«set_iterator.__next__»
 refine bf5 (bf8 ?_)
 refine bf5 (wpAny_fieldsOf hi rfl ?_)
 dsimp only
 refine bf5 (wpAny_setEntries_of ha rfl hf ?_)
 rw [if_neg (by simp)]
 refine bf5 (hn _ _ _ _ ha ?_)
 dsimp only
 refine bf5 (br3 hi rfl (by simp) ?_)
 refine bf5 ?_
 simp only [newExc,newTuple]
 refine bf5 (bj2 ?_ (by size_fits))
 refine bf5 (m:=firstArgMember _ _) (wpAny_of_eq (a:=Value.none) (by first | rfl | (simp only [firstArgMember]; rfl)) ?_)
 refine bj2 ?_ (by size_fits)
 simp only [raiseNew]
 refine bf5 (wpAny_handled ?_)
 rw [show A.in1.handled=none from hh]
 refine bf5 (bf8 (wpAny_throw ?_))
 refine bf5 (bu0 (T:="StopIteration") (b:=true) ⟨_,bg6 _ rfl,rfl⟩ isSubtype_stop ?_)
 exact bf8 (hQ _ (((bl1 ..).extBut.push _).push _))
end
section
variable {prog : Program} {w : World} {A : Around} {E : Value → Shared → Prop} {s : Shared} {I a : Addr} {es : Array (Int × Value)} {ep : Nat} {t : SetTable}
theorem ab7 {f:Value}{i n:Nat}{Q:Value->Shared->Prop} (hi:s.heap.get? I=some (fR f i a n ep)) (h:Q (.ref I) s):wpAny (model prog w) A (pyIter (.ref I)) Q E s:=by
 have hT:s.TypeIs (.ref I) "set_iterator":=⟨_,hi,rfl⟩
 refine wpAny_pyIter_slot hT ab6 (bj4 ab6 hT aW1 ?_ (aW2 _))
 show wpAny _ _ (ret (.ref I)) _ _ s
 exact bf8 ⟨_,rfl,"set_iterator",_,hT,i6.lookup,h⟩
theorem aW5 (hh:A.handled=none) (ne:I ≠ a) (hf:t.fits es.size=true) (O:List Value) (len:O.length=es.size) (sl:Nat->Nat)
  (hn:∀ i x,O[i]? = some x->∀ (s:Shared) (Q:Option (Value × Nat)->Shared->Prop) (E:Value->Shared->Prop) (A:Around),s.heap.get? a=some (cJ es ep t)->Q (some (x,sl (i+1))) s->wpAny (model prog w) A (setNext a (sl i) i ep) Q E s)
  (he:∀ (s:Shared) (Q:Option (Value × Nat)->Shared->Prop) (E:Value->Shared->Prop) (A:Around),s.heap.get? a=some (cJ es ep t)->Q none s->wpAny (model prog w) A (setNext a (sl es.size) es.size ep) Q E s) :
  Walks prog w A I [I,a] [I] es.size (fun i v=>O[i]? = some v) (fun i h=>h.get? I=some (fR (.int (sl i) 0) i a es.size ep)/\h.get? a=some (cJ es ep t)) where
 sub:=fun b hb=>by rw [bh6.mp hb]; exact bg7
 frame:=fun _ _ _ st hk=>⟨hk I bg7 _ st.1,hk a (bh5 _ bg7) _ st.2⟩
 item:=fun i s Q E hi st hQ=>by
  have ho:O[i]? = some O[i]:=bf9 (by omega)
  refine aW3 st.1 st.2 hf ne rfl (hn i _ ho) fun h' g sb=>?_
  have e:s={ s with heap:=s.heap }:=by cases s; rfl
  exact hQ _ h' s.toks ho ⟨g,by rw [sb.2 a (Ne.symm ne)]; exact st.2⟩ fun b o hb e=>by rw [sb.2 b fun z=>hb (by rw [z]; exact List.mem_singleton_self _)]; exact e
 done:=fun s Q E st hQ=>aW4 hh st.1 st.2 hf rfl he fun h' eb=>hQ h' s.toks fun b o hb e=>eb b o (fun z=>hb (by rw [z]; exact List.mem_singleton_self _)) e
 self:=fun i s Q E st hQ=>ab7 st.1 hQ
theorem ab8 (bt:w.params.followText "set-order" = true) (hf:t.fits es.size=true) {i:Nat}{sl:Nat}{Q:Option (Value × Nat)->Shared->Prop} (ha:s.heap.get? a=some (cJ es ep t))
  (h:Q (((pickOrder (w.params.setOrder a ep) es)[i]?).map fun e=>(e.2,sl)) s):wpAny (model prog w) A (setNext a sl i ep) Q E s:=by
 unfold setNext setsByText
 refine bf5 (bv6 ha rfl hf ?_)
 refine bf5 (bf5 (wpAny_askSetting (bf8 ?_)))
 rw [show ((⟨(model prog w).prog,(model prog w).w.params⟩:Setting).params.followText "set-order")=true from bt,if_pos rfl,if_neg (by simp)]
 refine bf5 ?_
 unfold setWalk setsByText
 refine bf5 (bv6 ha rfl hf ?_)
 refine bf5 (bf5 (wpAny_askSetting (bf8 ?_)))
 rw [show ((⟨(model prog w).prog,(model prog w).w.params⟩:Setting).params.followText "set-order")=true from bt,if_pos rfl]
 refine bf5 (wpAny_askSetting (bf8 ?_))
 exact bf8 h
theorem ab9 (bt:w.params.followText "set-order" = false) (hf:t.fits es.size=true) (tk:gM (!w.params.followText "set-order") t) (pl:(!t.plain && decide (es.size > 1))=false) {i sl:Nat}{Q:Option (Value × Nat)->Shared->Prop} (ha:s.heap.get? a=some (cJ es ep t))
  (h:Q (match es[SetTable.below t.place sl]?,t.place[SetTable.below t.place sl]? with | some (_,x),some j=>some (x,j+1) | _,_=>none) s):wpAny (model prog w) A (setNext a sl i ep) Q E s:=by
 unfold setNext setsByText
 refine bf5 (bv6 ha rfl hf ?_)
 refine bf5 (bf5 (wpAny_askSetting (bf8 ?_)))
 rw [show ((⟨(model prog w).prog,(model prog w).w.params⟩:Setting).params.followText "set-order")=false from bt,if_neg (by decide)]
 have ld:t.led=true:=by rw [tk.led,bt]; rfl
 show wpAny _ _ (if (!t.plain && decide (es.size > 1))=true then _ else _) _ _ _
 rw [pl,if_neg (by decide)]
 refine bf5 ?_
 show wpAny _ _ (if (!t.led && !es.isEmpty)=true then _ else _) _ _ _
 rw [ld,if_neg (by simp)]
 exact bf8 (bf8 h)
end
theorem ac0 {α:Type}{l:List α}{i:Nat} (h:i < l.length):(l[i] :: l.eraseIdx i).Perm l:=by
 have e:l=l.take i ++ l[i] :: l.drop (i+1):=by rw [<- bp8 h,bj3]
 rw [List.eraseIdx_eq_take_drop_succ]
 exact List.perm_middle.symm.trans (by rw [<- e])
theorem ac1 {prog:Program}{w:World}{A:Around}{E:Value->Shared->Prop}{s:Shared}{p:Addr}{o:Obj}{xs:Array Value}{n:Nat}{Q:Option (Array Value)->Shared->Prop} (ho:s.heap.get? p=some o) (hd:o.data = .seq xs n) (h:Q (some xs) s):wpAny (model prog w) A (seqItems? (.ref p)) Q E s:=by
 unfold seqItems?
 refine bf5 (wpAny_load ho ?_)
 rw [hd]
 exact bf8 h
theorem ac2 {α:Type}{next:Nat->Nat}:∀ (fuel k:Nat) (left:List α) (out:Array α),left.length<=fuel->(pickOrder.go next fuel k left out).toList.Perm (out.toList ++ left)
 | 0,k,left,out,h=>by
  have:left = []:=bo8 (by omega)
  subst this
  rw [bi9]; exact bu7 _
 | fuel+1,k,left,out,h=>by
  unfold pickOrder.go
  cases hx:left[next k % left.length]? with
  | none=>
   have:left = []:=by
    cases left with
    | nil=>rfl
    | cons a r=>
     have:=List.getElem?_eq_none_iff.mp hx
     have:=Nat.mod_lt (next k) (show 0 < (a :: r).length from Nat.zero_lt_succ _)
     omega
   subst this
   rw [bi9]
  | some x=>
   obtain ⟨hi,e⟩:=bh4.mp hx
   have p:=ac0 hi
   rw [e] at p
   have lp:=p.length_eq
   rw [bj0] at lp
   refine (ac2 fuel (k+1) _ _ (by omega)).trans ?_
   rw [Array.toList_push,bi4]
   exact p.append_left _
theorem ac3 {α:Type} (next:Nat->Nat) (xs:Array α):(pickOrder next xs).toList.Perm xs.toList:=ac2 xs.size 0 xs.toList #[] (by rw [bi3]; exact bg1 _)
def k8 (xs:List Nat):Nat->Nat
 | 0=>0
 | i+1=>xs.getD i 0+1
theorem ac4 {xs:Array Nat} (a:xs.toList.Pairwise (· < ·)):∀ i,i<=xs.size->SetTable.below xs (k8 xs.toList i)=i
 | 0,_=>by
  obtain ⟨_,b2,_⟩:=xX (j:=k8 xs.toList 0) a
  rcases Nat.eq_zero_or_pos (SetTable.below xs (k8 xs.toList 0)) with z | z
  ·exact z
  ·exact absurd (b2 0 z) (Nat.not_lt_zero _)
 | i+1,hi=>by
  obtain ⟨b1,b2,b3⟩:=xX (j:=k8 xs.toList (i+1)) a
  have sz:xs.toList.length=xs.size:=bi3
  have e:k8 xs.toList (i+1)=xs.toList.getD i 0+1:=rfl
  rcases Nat.lt_trichotomy (SetTable.below xs (k8 xs.toList (i+1))) (i+1) with z | z | z
  ·have:=b3 i (by omega) (by omega)
   omega
  ·exact z
  ·have h1:=b2 (i+1) z
   have h2:=bl9.mp a i (i+1) (by omega) (by omega) (by omega)
   rw [e,bh2,bh2,bf9 (by omega),bf9 (by omega)] at h1
   exact absurd h1 (by show ¬ xs.toList[i+1] < xs.toList[i]+1; omega)
theorem aW6 {prog:Program}{w:World}{A:Around}{E:Value->Shared->Prop}{s:Shared}{src:Source}{n:Nat}{Q:Nat->Shared->Prop} (hn:n ≠ 0) (h:∀ i d,i < n->Q i { s with drawn:=d }):wpAny (model prog w) A (choose src n) Q E s:=
 fun _ _ _=>⟨hn,h _ _ (Nat.mod_lt _ (Nat.pos_of_ne_zero hn))⟩
section
variable {prog : Program} {w : World} {A : Around} {E : Value → Shared → Prop}
theorem ac5 {α:Type}:∀ (n:Nat) (xs:List α) (s:Shared) {Q:List α->Shared->Prop},xs.length<=n->(∀ ys d,ys.Perm xs->Q ys { s with drawn:=d })->wpAny (model prog w) A (drawOrder n xs) Q E s
 | 0,xs,s,Q,hl,h=>by
  have:xs = []:=bo8 (by omega)
  subst this
  exact bf8 (h [] s.drawn (bu7 _))
 | n+1,[],s,Q,hl,h=>bf8 (h [] s.drawn (bu7 _))
 | n+1,x :: r,s,Q,hl,h=>by
  unfold drawOrder
  refine bf5 (aW6 (Nat.succ_ne_zero _) fun i d hi=>?_)
  rw [bf9 hi]
  have p:=ac0 hi
  have lp:=p.length_eq
  rw [bj0] at lp
  refine bf5 (ac5 n _ _ (by omega) fun ys d' py=>bf8 ?_)
  exact h _ d' ((py.cons _).trans p)
end
section
variable {prog : Program} {w : World} {A : Around} {E : Value → Shared → Prop} {s : Shared} {I a p : Addr} {es : Array (Int × Value)} {ep : Nat} {t : SetTable}
theorem aW7 {i j:Nat}{ps:Array Value}{x:Int × Value}{Q:Option Value->Shared->Prop} (hi:s.heap.get? I=some (fR (.ref p) i a es.size ep)) (ha:s.heap.get? a=some (cJ es ep t)) (hf:t.fits es.size=true) (hp:s.heap.IsTuple p ps) (hj:ps[i]? = some (.int j 0)) (hx:es[j]? = some x)
  (hQ:∀ h',h'.get? I=some (fR (.ref p) (i+1) a es.size ep)->Heap.SameBut I s.heap h'->Q (some x.2) { s with heap:=h' }):wpAny (model prog w) A (pyNext (.ref I)) Q E s:=by
 have hT:s.TypeIs (.ref I) "set_iterator":=⟨_,hi,rfl⟩
 obtain ⟨op,hop,hc,nl,hd⟩:=hp
 unfold pyNext
 refine bf5 (br0 (bj7 (name:=Str.ofString "__next__") hT i6 (bj4 i6 hT tJ ?_ (tK _))))
 unfold Builtin.«set_iterator.__next__»
 refine bf5 (bf8 ?_)
 refine bf5 (wpAny_fieldsOf hi rfl ?_)
 dsimp only
 refine bf5 (wpAny_setEntries_of ha rfl hf ?_)
 rw [if_neg (by simp)]
 refine bf5 (ac1 hop hd ?_)
 dsimp only
 rw [bs9,hj]
 dsimp only
 unfold setNextDrawn
 refine bf5 (bf5 (bv6 ha rfl hf ?_))
 dsimp only
 rw [if_neg (by simp),bs9,hx]
 refine bf8 ?_
 refine bf5 (br3 hi rfl (by simp) ?_)
 have h2:=bl8 (Obj.mapFields (·.setIfInBounds 1 (rawInt ((i:Int)+1)))) hi rfl
 exact bf8 ⟨_,rfl,bf8 (hQ _ h2 (bl1 ..))⟩
theorem aW8 {i:Nat}{ps:Array Value}{Q:Option Value->Shared->Prop} (hh:A.handled=none) (hi:s.heap.get? I=some (fR (.ref p) i a es.size ep)) (ha:s.heap.get? a=some (cJ es ep t)) (hf:t.fits es.size=true) (hp:s.heap.IsTuple p ps) (hj:ps[i]? = none)
  (hQ:∀ h',Heap.ExtBut I s.heap h'->Q none { s with heap:=h' }):wpAny (model prog w) A (pyNext (.ref I)) Q E s:=by
 have hT:s.TypeIs (.ref I) "set_iterator":=⟨_,hi,rfl⟩
 obtain ⟨op,hop,hc,nl,hd⟩:=hp
 unfold pyNext
 refine bf5 (br0 (bj7 (name:=Str.ofString "__next__") hT i6 (bj4 i6 hT tJ ?_ (tK _))))
 unfold Builtin.«set_iterator.__next__»
 refine bf5 (bf8 ?_)
 refine bf5 (wpAny_fieldsOf hi rfl ?_)
 dsimp only
 refine bf5 (wpAny_setEntries_of ha rfl hf ?_)
 rw [if_neg (by simp)]
 refine bf5 (ac1 hop hd ?_)
 dsimp only
 rw [bs9,hj]
 dsimp only
 refine bf5 (br3 hi rfl (by simp) ?_)
 have h1:(s.heap.update I (Obj.mapFields (·.setIfInBounds 0 (rawInt 0)))).get? I=some (fR (.int 0 0) i a es.size ep):=bl8 (Obj.mapFields (·.setIfInBounds 0 (rawInt 0))) hi rfl
 refine bf5 (br3 h1 rfl (by simp) ?_)
 refine bf5 ?_
 simp only [newExc,newTuple]
 refine bf5 (bj2 ?_ (by size_fits))
 refine bf5 (m:=firstArgMember _ _) (wpAny_of_eq (a:=Value.none) (by first | rfl | (simp only [firstArgMember]; rfl)) ?_)
 refine bj2 ?_ (by size_fits)
 simp only [raiseNew]
 refine bf5 (wpAny_handled ?_)
 rw [show A.in1.handled=none from hh]
 refine bf5 (bf8 (wpAny_throw ?_))
 refine bf5 (bu0 (T:="StopIteration") (b:=true) ⟨_,bg6 _ rfl,rfl⟩ isSubtype_stop ?_)
 exact bf8 (hQ _ ((((bl1 ..).trans (bl1 ..)).extBut.push _).push _))
theorem aW9 (hh:A.handled=none) (ne:I ≠ a) (nep:I ≠ p) (hf:t.fits es.size=true) {ps:Array Value}{js:List Nat} (hps:ps=(js.map fun j:Nat=>Value.int j 0).toArray) (len:js.length=es.size) (inn:∀ j ∈ js,j < es.size) :
  Walks prog w A I [I,a,p] [I] es.size (fun i v=>(js.map fun j=>(es.toList.map (·.2)).getD j .none)[i]? = some v) (fun i h=>h.get? I=some (fR (.ref p) i a es.size ep)/\h.get? a=some (cJ es ep t)/\h.IsTuple p ps) where
 sub:=fun b hb=>by rw [bh6.mp hb]; exact bg7
 frame:=fun _ _ _ st hk=>⟨hk I bg7 _ st.1,hk a (bh5 _ bg7) _ st.2.1,st.2.2.at fun o e=>hk p (bh5 _ (bh5 _ bg7)) o e⟩
 item:=fun i s Q E hi st hQ=>by
  have hl:i < js.length:=by omega
  have hj:=inn js[i] (bp7 hl)
  have h1:ps[i]? = some (.int js[i] 0):=by rw [hps]; simp [hl]
  have h2:es[js[i]]? = some es[js[i]]:=bj6 hj
  refine aW7 st.1 st.2.1 hf st.2.2 h1 h2 fun h' g sb=>?_
  refine hQ _ h' s.toks ?_ ⟨g,by rw [sb.2 a (Ne.symm ne)]; exact st.2.1,st.2.2.at fun o e=>by rw [sb.2 p (Ne.symm nep)]; exact e⟩ fun b o hb e=>by rw [sb.2 b fun z=>hb (by rw [z]; exact List.mem_singleton_self _)]; exact e
  simp [hl,hj]
 done:=fun s Q E st hQ=>aW8 hh st.1 st.2.1 hf st.2.2 (by rw [hps]; simp [len]) fun h' eb=>hQ h' s.toks fun b o hb e=>eb b o (fun z=>hb (by rw [z]; exact List.mem_singleton_self _)) e
 self:=fun i s Q E st hQ=>ab7 st.1 hQ
end
section
variable {prog : Program} {w : World} {A : Around} {E : Value → Shared → Prop} {s : Shared} {a : Addr} {es : Array (Int × Value)} {ep : Nat} {t : SetTable} {ms : List Int}
theorem aX0 (hh:A.handled=none) (ha:s.heap.get? a=some (cJ es ep t)) (ok:nC prog w es t ms) {Q:Value->Shared->Prop}
  (h:∀ (I:Addr) (h1:Heap) (d1:Drawn) (O:List Value) (fp:List Addr) (St:Nat->Heap->Prop),(∀ b o,s.heap.get? b=some o->h1.get? b=some o)->s.heap.objs.size<=I->(∀ b ∈ fp,b=a ∨ s.heap.objs.size<=b)->O.Perm (es.toList.map (·.2))->
   Walks prog w A I fp [I] es.size (fun i v=>O[i]? = some v) St->St 0 h1->Q (.ref I) { s with heap:=h1,drawn:=d1 }):wpAny (model prog w) A (pyIter (.ref a)) Q E s:=by
 obtain ⟨hel,hi,hb,hf,tk⟩:=ok
 have hT:s.TypeIs (.ref a) "set":=⟨_,ha,rfl⟩
 have lt:=bg8 ha
 have sz:es.toList.length=es.size:=bi3
 refine wpAny_pyIter_slot hT F.slot_set_iter (bj4 F.slot_set_iter hT aW0 ?_ (F.args_set_iter_1 _))
 unfold Builtin.«frozenset.__iter__» Builtin.Frozenset.slot0 Builtin.Frozenset.sizeOf
 refine bf5 (bf5 (bf8 (bf8 ?_)))
 refine bf5 (bf5 (wpAny_setEntries_of ha rfl hf (bf8 ?_)))
 refine bf5 ?_
 unfold setDrawn setsByText
 refine bf5 (bv6 ha rfl hf ?_)
 refine bf5 (bf5 (wpAny_askSetting (bf8 ?_)))
 refine bf8 ?_
 show wpAny _ _ (if (!w.params.followText "set-order" && (!t.plain && decide (es.size > 1)))=true then _ else _) _ _ _
 have fin:∀ (d1:Drawn) (sl:Nat->Nat) (O:List Value),O.Perm (es.toList.map (·.2))->sl 0=0->
   (∀ i x,O[i]? = some x->∀ (s:Shared) (Q:Option (Value × Nat)->Shared->Prop) (E:Value->Shared->Prop) (A:Around),s.heap.get? a=some (cJ es ep t)->Q (some (x,sl (i+1))) s->wpAny (model prog w) A (setNext a (sl i) i ep) Q E s)->
   (∀ (s:Shared) (Q:Option (Value × Nat)->Shared->Prop) (E:Value->Shared->Prop) (A:Around),s.heap.get? a=some (cJ es ep t)->Q none s->wpAny (model prog w) A (setNext a (sl es.size) es.size ep) Q E s)->
   Q (.ref s.heap.objs.size) { s with heap:=s.heap.push (fR (.int 0 0) 0 a es.size ep),drawn:=d1 }:=fun d1 sl O po s0 hn he=>
  h s.heap.objs.size _ d1 O [s.heap.objs.size,a] _ (fun b o e=>bf7 _ e) (bg1 _) (fun b hb=>by
   rcases bg4.mp hb with e | hb
   ·exact .inr (Nat.le_of_eq e.symm)
   ·exact .inl (bh6.mp hb)) po (aW5 (I:=s.heap.objs.size) hh (bm4 lt) hf O (by rw [po.length_eq,bg5,sz]) sl hn he) ⟨by rw [s0]; exact bg6 _ rfl,bf7 _ ha⟩
 have last:∀ q:Q (.ref s.heap.objs.size) { s with heap:=s.heap.push (fR (.int 0 0) 0 a es.size ep) },wpAny (model prog w) A.in1 (do
   let first <- pure (rawInt 0)
   (fun first=>do
    let e <- setEpoch a
    let o <- newFields "set_iterator" [first,rawInt 0,Value.ref a,rawInt es.size,rawInt e]
    ret o) first) (fun fin s'=>∃ v,fin = .done (.ret v)/\∃ T' r,s'.TypeIs v T'/\typeLookup (.type T') (Str.ofString "__next__")=pure (some r)/\Q v s') E s:=fun q=>by
  refine bf5 (bf8 ?_)
  refine bf5 (wpAny_setEpoch_of ha rfl hf ?_)
  exact bf5 (bj2 (bf8 ⟨_,rfl,"set_iterator",_,⟨_,bg6 _ rfl,rfl⟩,i6.lookup,q⟩))
 cases bt:w.params.followText "set-order" with
 | true=>
  rw [if_neg (by simp)]
  refine last (fin s.drawn (fun _=>0) ((pickOrder (w.params.setOrder a ep) es).toList.map (·.2)) ((ac3 _ _).map _) rfl (fun i x hx s Q E A ha q=>ab8 bt hf ha ?_) fun s Q E A ha q=>ab8 bt hf ha ?_)
  ·rw [bh1,bk3] at hx
   cases hp:(pickOrder (w.params.setOrder a ep) es)[i]? with
   | none=>rw [hp] at hx; cases hx
   | some e=>rw [hp] at hx; cases hx; exact q
  ·have:=(ac3 (w.params.setOrder a ep) es).length_eq
   rw [bi3,bi3] at this
   rw [br4 (by omega)]; exact q
 | false=>
  have ps:t.place.size=es.size:=by
   unfold SetTable.fits at hf
   rw [bj5] at hf
   exact eq_of_beq hf.1
  cases pl:(!t.plain && decide (es.size > 1)) with
  | false=>
   rw [if_neg (by simp)]
   refine last (fin s.drawn (k8 t.place.toList) (es.toList.map (·.2)) (bu7 _) rfl (fun i x hx s Q E A ha q=>ab9 bt hf tk pl ha ?_) fun s Q E A ha q=>ab9 bt hf tk pl ha ?_)
   ·have il:i < es.size:=by
     have:=(bh4.mp hx).1
     rw [bg5,sz] at this; exact this
    rw [ac4 tk.asc i (by omega),bj6 il,bj6 (by omega)]
    rw [bh1,bk3,bj6 il] at hx
    cases hx
    have e:k8 t.place.toList (i+1)=t.place[i]+1:=by
     show t.place.toList.getD i 0+1=_
     rw [bh2,bk3,bj6 (by omega)]; rfl
    rw [e] at q; exact q
   ·rw [ac4 tk.asc es.size (by omega),br4 (bg1 _)]; exact q
  | true=>
   rw [if_pos (by simp)]
   refine bf5 (ac5 es.size (List.range es.size) s (by rw [bp9]; exact bg1 _) fun js d pj=>?_)
   have jl:js.length=es.size:=by rw [pj.length_eq,bp9]
   simp only [newTuple]
   refine bf5 (bj2 ?_ (by show (List.map _ js).toArray.size<=sizeLine; rw [bg0,bg5,jl]; exact fits_of_scanBound hb))
   have ha1:=bf7 { cls:=.type "tuple",data:=.seq (js.map fun (i:Nat)=>rawInt i).toArray } ha
   refine bf5 (wpAny_setEpoch_of ha1 rfl hf ?_)
   refine bf5 (bj2 (bf8 ⟨_,rfl,"set_iterator",_,⟨_,bg6 _ rfl,rfl⟩,i6.lookup,?_⟩))
   have sp:(s.heap.push { cls:=.type "tuple",data:=.seq (js.map fun (i:Nat)=>rawInt i).toArray }).objs.size=s.heap.objs.size+1:=bp3 ..
   have hp1:=bg6 s.heap (o:={ cls:=.type "tuple",data:=.seq (js.map fun (i:Nat)=>rawInt i).toArray }) rfl
   have inn:∀ j ∈ js,j < es.size:=fun j hj=>bw2.mp (pj.mem_iff.mp hj)
   refine h _ _ d (js.map fun j=>(es.toList.map (·.2)).getD j .none) [_,a,s.heap.objs.size] _ (fun b o e=>bf7 _ (bf7 _ e)) (by show _<=(s.heap.push _).objs.size; rw [sp]; exact Nat.le_succ _) (fun b hb=>?_) ?_ (aW9 (p:=s.heap.objs.size) hh (by show (s.heap.push _).objs.size ≠ a; rw [sp]; exact bm4 (bv5 lt)) (by show (s.heap.push _).objs.size ≠ s.heap.objs.size; rw [sp]; exact Nat.succ_ne_self _) hf rfl jl inn) ⟨bg6 _ rfl,bf7 _ ha1,_,bf7 _ hp1,rfl,_,rfl⟩
   ·rcases bg4.mp hb with e | hb
    ·rw [e]; exact .inr (by show _<=(s.heap.push _).objs.size; rw [sp]; exact Nat.le_succ _)
    ·rcases bg4.mp hb with e | hb
     ·exact .inl e
     ·exact .inr (Nat.le_of_eq (bh6.mp hb).symm)
   ·refine (pj.map _).trans ?_
    have e:(List.range es.size).map (fun j=>(es.toList.map (·.2)).getD j .none)=es.toList.map (·.2):=by
     refine List.ext_getElem (by simp) fun i h1 h2=>?_
     simp at h1 h2 ⊢
     simp [h2]
    rw [e]
end
end Raw
namespace Raw
open PySem PySem.W PyProof.Rows
section
variable {prog : Program} {w : World} {A : Around} {E : Value → Shared → Prop} {s : Shared} {a : Addr} {es : Array (Int × Value)} {ep : Nat} {t : SetTable} {ms : List Int}
theorem aX1 {Q:Bool->Shared->Prop} (hT:s.TypeIs (.ref a) "set") (h:Q false s):wpAny (model prog w) A (Builtin.List.listLengthHint (.ref a)) Q E s:=by
 unfold Builtin.List.listLengthHint
 refine bf5 (wpAny_specialOf hT PySem.F.slot_set_len.lookup ?_)
 generalize hid:("set.__len__" : String)=id0
 wp_delta
 rw [show splitId id0=some ("set","__len__") from by subst hid; decide +kernel]
 subst hid
 refine bf5 (bu0 (T:="set") (b:=true) hT (by rw [isSubtype_type]; kernel_rfl) ?_)
 refine wpAny_ite_split (fun hab=>absurd hab (by decide)) (fun _=>?_)
 refine wpAny_ite_split (fun _=>?_) (fun hab=>absurd (by decide +kernel) hab)
 refine bf5 (wpAny_typeOf hT ?_)
 exact bf8 h
theorem aX2 {O:List Value}{acc:Array Value}{n:Nat} (h:ItemsOf (fun i v=>O[i]? = some v) acc n) (hn:O.length=n):acc.toList=O:=by
 refine List.ext_getElem (by rw [bi3,h.1,hn]) fun i h1 h2=>?_
 rw [bi3] at h1
 have this:O[i]? = some acc[i]:=h.2 i acc[i] (bj6 h1)
 rw [bf9 h2] at this
 rw [Array.getElem_toList]
 exact (bi5 this).symm
theorem aX3 {R:Result->Shared->Prop} (hh:A.handled=none) (ha:s.heap.get? a=some (cJ es ep t)) (ok:nC prog w es t ms) (S:Addr) (nSa:S ≠ a) (res:Value) (c0:Nat) (hS:s.heap.get? S=some { cls:=.type "list",data:=.seq #[] c0 })
  (hR:∀ h' tk d acc c,(∀ b o,b ≠ S->s.heap.get? b=some o->h'.get? b=some o)->h'.get? S=some { cls:=.type "list",dict:=none,data:=.seq acc c,slots:=#[] }->acc.toList.Perm (es.toList.map (·.2))->R (.ok (.ret res)) { s with heap:=h',toks:=tk,drawn:=d }) :
  wpAny (model prog w) A.in1 (Builtin.List.listExtendWith (.ref S) (.ref a) res)
   (fun fin s'=>match fin with | .done f=>R (.ok f) s' | .again c'=>c'.quiet=true/\codeAny (model prog w) A c' R s') (fun e s'=>R (.error e) s') s:=by
 have hT:s.TypeIs (.ref a) "set":=⟨_,ha,rfl⟩
 have lS:=bg8 hS
 have hn:es.size<=sizeLine:=fits_of_scanBound ok.2.2.1
 unfold Builtin.List.listExtendWith
 refine bf5 (wpAny_typeOf (T:="set") hT ?_)
 have e1:Builtin.List.listSameRef (.ref S) (.ref a)=false:=by simp [Builtin.List.listSameRef,nSa]
 simp only [e1,show (Value.type "set" == Value.type "list")=false by decide,show (Value.type "set" == Value.type "tuple")=false by decide,Bool.or_false,bi0,bm6]
 refine bf5 (aX0 (A:=A.in1) hh ha ok fun I h1 d1 O fp St kp lI fpo po W st=>?_)
 have nSf:S ∉ fp:=fun z=>(fpo S z).elim nSa fun z=>absurd (bh0 lS z) (bm5 _)
 have ol:O.length=es.size:=by rw [po.length_eq,bg5,bi3]
 have key:∀ (h:Heap) (c1 tk:Nat),St 0 h->(∀ b o,b ≠ S->s.heap.get? b=some o->h.get? b=some o)->h.get? S=some { cls:=.type "list",data:=.seq #[] c1 }->codeAny (model prog w) A (.builtin "list.extend.loop" ⟨[.ref S,.ref I,res],[]⟩) R { s with heap:=h,toks:=tk,drawn:=d1 }:=by
  intro h c1 tk hst hk hS1
  refine codeAny_extend_loopS W.toS hn S nSf res es.size 0 _ #[] c1 rfl (bk5 _) hst hS1 (ItemsOf.nil _) fun s' acc c hm hS' it=>?_
  rw [Moved.eq_with hm]
  refine hR s'.heap s'.toks d1 acc c (fun b o hb e=>hm.heap b o (fun z=>?_) (hk b o hb e)) hS' (by rw [aX2 it ol]; exact po)
  rcases bg4.mp z with z | z
  ·exact hb z
  ·rw [bh6.mp z] at e
   exact absurd (bh0 (bg8 e) lI) (bm5 _)
 have hS1:=kp _ _ hS
 refine bf5 (bl6 (aX1 ⟨_,kp _ _ ha,rfl⟩ ?_))
 refine wpAny_ite_split (fun _=>?_) (fun _=>bf8 ⟨plainId_quiet PySem.F.plain_extend_loop _,key _ c0 _ st (fun b o _ e=>kp _ _ e) hS1⟩)
 refine bf5 (bs2 ?_)
 refine bf5 ?_
 show wpAny _ _ (updateSeq S (·.push .none) >>= fun _=>updateSeq S (·.pop)) _ _ _
 refine bf5 (wpAny_updateSeq hS1 rfl ?_)
 have hS2:=bl8 (Obj.mapSeq (·.push Value.none)) hS1 rfl
 refine wpAny_updateSeq (hz:=by seq_fits) hS2 rfl ?_
 have hS3:=bl8 (Obj.mapSeq (·.pop)) hS2 rfl
 refine bf8 ⟨plainId_quiet PySem.F.plain_extend_loop _,key _ _ _ ?_ (fun b o hb e=>?_) hS3⟩
 ·refine W.frame 0 _ _ st fun b hb o e=>?_
  have hbS:b ≠ S:=fun z=>nSf (z ▸ hb)
  exact (br2 _ _ (Ne.symm hbS)).trans ((br2 _ _ (Ne.symm hbS)).trans e)
 ·exact (br2 _ _ (Ne.symm hb)).trans ((br2 _ _ (Ne.symm hb)).trans (kp _ _ e))
theorem aX4 {R:Result->Shared->Prop} (hh:A.handled=none) (ha:s.heap.get? a=some (cJ es ep t)) (ok:nC prog w es t ms)
  (hR:∀ h' tk d acc c,(∀ b o,b ≠ s.heap.objs.size->(s.heap.push { cls:=.type "list",data:=.seq ([]:List Value).toArray }).get? b=some o->h'.get? b=some o)->h'.get? s.heap.objs.size=some { cls:=.type "list",dict:=none,data:=.seq acc c,slots:=#[] }->acc.toList.Perm (es.toList.map (·.2))->R (.ok (.ret (.ref s.heap.objs.size))) { s with heap:=h',toks:=tk,drawn:=d }) :
  codeAny (model prog w) A (.builtin "proto.collect" ⟨[.ref a],[]⟩) R s:=by
 refine br5 PySem.F.entry_proto_collect ?_
 rw [bq9 PySem.F.plain_proto_collect _]
 show wpAny _ A.in1 (newList [] >>= fun l=>again (.builtin "list.__iadd__" ⟨[l,.ref a],[]⟩)) _ _ s
 refine bf5 (bj2 ?_)
 refine bf8 ⟨plainId_quiet PySem.F.plain_list_iadd _,br5 PySem.F.entry_list_iadd ?_⟩
 rw [bq9 PySem.F.plain_list_iadd _]
 show wpAny _ A.in1 (Builtin.List.listExtendWith (.ref s.heap.objs.size) (.ref a) (.ref s.heap.objs.size)) _ _ _
 exact aX3 (s:={ s with heap:=s.heap.push { cls:=.type "list",data:=.seq ([]:List Value).toArray } }) (R:=R) hh (bf7 _ ha) ok s.heap.objs.size (bm4 (bg8 ha)) _ 0 (bg6 _ rfl) hR
theorem aX5 {Q:Value->Shared->Prop} (hh:A.handled=none) (ha:s.heap.get? a=some (cJ es ep t)) (ok:nC prog w es t ms) (hn:ms.length < 64)
  (h:∀ h' tk d l (out:Array Value) (ms':List Int) e,(∀ b o,s.heap.get? b=some o->h'.get? b=some o)->s.heap.objs.size<=l->h'.get? l=some (seqObj "list" out e)->IntsAre out.toList ms'->ms'.Perm ms->ms'.Pairwise (· <= ·)->Q (.ref l) { s with heap:=h',toks:=tk,drawn:=d }) :
  wpAny (model prog w) A (call (.builtin "sorted") [.ref a]) Q E s:=by
 refine Calls.call_function_entry kind_sorted plain_sorted entry_sorted (args_sorted1 _) ?_
 unfold Builtin.«sorted»
 refine bf5 (m:=checkCount "sorted" 1 1 _) (bf8 ?_)
 unfold collect
 refine bf5 (bf5 (wpAny_runValue (aX4 (s:=s) hh ha ok fun h' tk d acc c kp at1 pa=>?_)))
 show wpAny _ _ (load s.heap.objs.size >>= _) _ _ _
 refine bf5 (wpAny_load at1 ?_)
 refine bf8 ?_
 obtain ⟨ks,hi,pk⟩:=xY pa ok.2.1
 have hz:acc.toList.length < 64:=by rw [IntsAre.length hi,pk.length_eq]; exact hn
 refine bf5 (wpAny_newList ?_ (bk0 (bm3 hz) (by decide)))
 have hoL:(h'.push (seqObj "list" acc.toList.toArray 0)).get? h'.objs.size=some (seqObj "list" acc.toList.toArray 0):=bg6 _ rfl
 show wpAny _ _ _ _ _ { s with heap:=h'.push (seqObj "list" acc.toList.toArray 0),toks:=tk,drawn:=d }
 refine bf5 (bl6 (bj4 slot_list_sort ⟨_,hoL,rfl⟩ entry_list_sort (list_sort_tree hoL hi hz fun out ns' a1 a2 a3=>⟨_,rfl,?_⟩) (args_list_sort _)))
 obtain ⟨e,he⟩:=sortedHeap_at (vs:=acc.toList) (out:=out) hoL
 have kq:∀ b o,s.heap.get? b=some o->h'.get? b=some o:=fun b o e=>kp b o (bi6 (bg8 e)) (bf7 _ e)
 refine bf8 ⟨_,rfl,h _ tk d h'.objs.size out ns' e (fun b o hb=>?_) (bm3 (bg8 at1)) he a1 (a2.trans pk) a3⟩
 have lt:=bg8 (kq b o hb)
 rw [sortedHeap_old (bi6 lt) (by rw [size_push']; exact bv5 lt)]
 exact bf7 _ (kq b o hb)
end
end Raw
namespace L2
open PySem PySem.Spec PyProof.Rows
section
variable {X : Cx}
def ac6 (X:Cx) (o:Obj) (ms:List Int):Prop:=∃ es ep t,o=Raw.cJ es ep t/\Raw.nC X.prog X.w es t ms
theorem aX6 (hc:X.calm=true):cS X (.type "set") (fun xs H Q=>∃ (p:Addr) (ns:List Int),xs = [.ref p]/\aL X.K H p (ns.map V.int)/\ns.length<=1000/\∀ l o ms,H l=none->ac6 X o ms->ms.Nodup->(∀ x,x ∈ ms ↔ x ∈ ns)->Q (.ref l) (upd H l (.frz o (.own l)))):=by
 intro pins s σ H xs us Q I r h
 obtain ⟨p,ns,rfl,hq,hl,q⟩:=h
 obtain ⟨u,rfl,rx⟩:=gP r
 obtain rfl:u=Value.ref p:=rx
 obtain ⟨its,r',pl,hz⟩:=I.tuple hq
 have ia:=uA r'
 have len:its.length=ns.length:=by rw [<- r'.length,bg5]
 refine Raw.aV9 (items:=its.toArray) (ns:=ns) (I.ok.hd hc) pl ia (by rw [bg0,len]; exact Nat.lt_of_le_of_lt (Nat.add_le_add_right hl 1) (by decide)) fun h' tk f=>?_
 obtain ⟨⟨ms,⟨es,ep,t,ho,ok⟩,nd,mem⟩,f2⟩:=f
 exact⟨.ref s.heap.objs.size,_,I.laid (t':=tk) (fun b o e=>f2 b o (bg8 e) e) (bg1 _) (show bH X.prog X.w _ _ _ (.frz (Raw.cJ es ep t) (.own _)) from ⟨ho,_,ho⟩),rfl,q _ _ ms (I.hok.fresh (bg1 _)) ⟨es,ep,t,rfl,ok⟩ nd mem⟩
theorem a7.drew {pins:List (Addr × Obj)}{σ:St}{H:Hp}{s:Shared} (I:a7 X pins σ H s) (d:Drawn):a7 X pins σ H { s with drawn:=d }:=
 ⟨I.ok,I.os,I.bare,I.base,I.loc,I.cell,I.free,I.freeC,I.pin,I.hok,I.len⟩
theorem aX7 (hc:X.calm=true):cS X (.builtin "sorted") (fun xs H Q=>∃ (a:Addr) (o:Obj) (ms:List Int),xs = [.ref a]/\H a=some (.frz o (.own a))/\ac6 X o ms/\ms.length < 64/\∀ l (ks:List Int),H l=none->ks.Perm ms->ks.Pairwise (· <= ·)->Q (.ref l) (upd H l (.lst (ks.map V.int)))):=by
 intro pins s σ H xs us Q I r h
 obtain ⟨a,o,ms,rfl,ha,⟨es,ep,t,rfl,ok⟩,h64,q⟩:=h
 obtain ⟨u,rfl,rx⟩:=gP r
 obtain rfl:u=Value.ref a:=rx
 have ho:s.heap.get? a=some (Raw.cJ es ep t):=(show bH X.prog X.w H s.heap a (.frz (Raw.cJ es ep t) (.own a)) from I.hok a _ ha).1
 refine Raw.aX5 (I.ok.hd hc) ho ok h64 fun h' tk d l out ks e kp hn he a1 p so=>?_
 have hlen:ks.length=ms.length:=p.length_eq
 refine⟨.ref l,upd H l (.lst (ks.map V.int)),(I.drew d).laid (s:={ s with drawn:=d }) (t':=tk) kp hn ⟨?_,out.toList,e,pV a1,by simpa using he⟩,rfl,q _ ks (I.hok.fresh hn) p so⟩
 rw [bg5,hlen]
 exact bm3 (pX (by omega))
end
end L2
namespace PP
open PySem L2
section
variable {X : Cx} {e : Expr} {tr : cK} {pos p2 p3 p4 : Pos}
def ac7:List PV->(PV->Prop)->Prop:=fun xs Q=>∃ ns:List Int,xs = [.tup (intz ns)]/\ns.length<=1000/\(∀ ms:List Int,ms.Nodup->(∀ x,x ∈ ms ↔ x ∈ ns)->ms.length < 64)/\∀ ks:List Int,ks.Pairwise (· < ·)->(∀ x,x ∈ ks ↔ x ∈ ns)->Q (.lst (intz ks))
theorem aX8 (B:Bt X.mg) (bs:X.mg "set" = none) (hc:X.calm=true) (ha:QA X [e] tr) (hg:Gl X "sorted":=by rfl) (hg2:Gl X "set":=by rfl) (he:starEach [e] X.env=(false,eval e X.env) :: starEach [] X.env:=by rfl) (hpl:∀ p:Pos,(backTo p (starEach [] X.env)).any (·.1)=false:=by intro _; rfl)
  (he2:starEach [.Call (.Name "set" p3) [e] [] p4] X.env=(false,eval (.Call (.Name "set" p3) [e] [] p4) X.env) :: starEach [] X.env:=by rfl):QE X (.Call (.Name "sorted" p2) [.Call (.Name "set" p3) [e] [] p4] [] pos) (aC ac7 tr):=
 bQ (lM (aX7 hc) hg B.sorted PyProof.Rows.boot_sorted (cV (u9 (aX6 hc) hg2 bs PyProof.Rows.boot_set ha (by decide) (by decide) he (hpl _)) dM he2) (by decide) (by decide) he2 (hpl _)) fun σ H Q' h=>by
  obtain ⟨W,ρ,Q,px,q,k⟩:=h
  refine⟨W,ρ,_,px,q,fun vs H1 xs s1 r1 q1=>?_⟩
  obtain ⟨ns,e1,hl,few,q⟩:=q1
  have r2:=r1.any
  rw [e1] at r2
  obtain ⟨v,rfl,r3⟩:=r2.one
  obtain ⟨p,us,rfl,hp,r4⟩:=r3.sqT
  obtain rfl:=r4.ofInts
  refine⟨p,ns,rfl,aL.of hp,hl,fun l o ms hf sv nd mem=>⟨l,o,ms,rfl,b8,sv,few ms nd mem,fun l2 ks hf2 pk so=>?_⟩⟩
  have nk:ks.Nodup:=pk.nodup_iff.mpr nd
  have up:ks.Pairwise (· < ·):=(List.Pairwise.and so nk).imp fun z=>Int.lt_iff_le_and_ne.mpr ⟨z.1,z.2⟩
  refine k _ _ _ .fr ((s1.trans (bE hf _)).trans (bE hf2 _)) ?_ (q ks up fun x=>(pk.mem_iff).trans (mem x))
  have n2:H l2=none:=by
   cases z:H l2 with
   | none=>rfl
   | some u=>
    have:=(s1.trans (bE hf (.frz o (.own l)))) _ _ z
    rw [hf2] at this; cases this
  exact .lst n2 b8 (Reps.intz ks)
end
end PP
namespace Core
open PySem L2 PP
theorem aX9 {n:Nat}{ks:List Int} (up:ks.Pairwise (· < ·)) (inn:∀ x ∈ ks,0<=x/\x < (n:Int)):aT n ks=true:=by
 have nd:ks.Nodup:=up.imp fun h=>Int.ne_of_lt h
 have:=nd.length_le_of_subset fun x hx=>mP.mpr (inn x hx)
 rw [kX] at this
 have u:p5 (n:Int) ks:=⟨up,inn,by omega⟩
 exact u.set
end Core
namespace L2
open PySem PySem.Spec PyProof.Rows
section
variable {X : Cx} {a b : Expr} {cH : List Expr} {ta tb : TE} {pos : Pos}
def ac8 (K:PySem.W.Frag) (ta tb:TE):TE:=fun σ H Q=>ta σ H fun x H1=>∃ k,nQ K x H1 k/\if k=true then Q x H1 else tb σ H1 Q
theorem aY0 (ha:PE X a ta) (hb:PE X (.BoolOp .Or (b :: cH) pos) tb):PE X (.BoolOp .Or (a :: b :: cH) pos) (ac8 X.K ta tb):=by
 intro pins s σ H Q I h
 refine BoolOp_or (aJ (ha pins s σ H _ I h) fun v s1 ⟨x,H1,I1,r1,q1⟩=>?_)
 obtain ⟨k,t,q1⟩:=q1
 refine aJ (zF pins s1 σ H1 x v (fun c H'=>c=k/\H'=H1) I1 r1 ⟨k,t,rfl,rfl⟩) fun c s2 ⟨H2,I2,e,e'⟩=>?_
 subst e e'
 cases c with
 | false=>exact hb pins s2 σ H2 Q I2 q1
 | true=>exact⟨x,H2,I2,r1,q1⟩
end
end L2
namespace PP
open PySem L2
section
variable {X : Cx} {a b : Expr} {cH : List Expr} {ta tb : aE} {pos : Pos} {σ : St} {H : Hp} {Q' : VK}
def xZ (ta tb:aE):aE:=fun ρ Q=>ta ρ fun x g=>∃ c,vK x=some c/\if c=true then Q x g else tb ρ Q
theorem aY1 {K:PySem.W.Frag}{M:Addr->Prop}{H1:Hp}{v:V}{x:PV}{b:Bool} (r:aF K M H1 v x) (e:vK x=some b):nQ K v H1 b:=by
 cases r with
 | non=>cases e; rfl
 | bl b=>cases e; rfl
 | int i=>cases e; rfl
 | str x=>cases e
 | tup h r=>cases e; exact .inr (.inl ⟨_,aL.of h,by rw [lV r.length]⟩)
 | lst m h r=>cases e; exact .inl ⟨_,aN.of h,by rw [lV r.length]⟩
 | dK m h e' r=>
  cases e
  refine .inr (.inr ⟨_,h,?_⟩)
  have:=congrArg List.length e'
  rw [bg5,bg5] at this
  rw [lV this]
 | dT m h e' r=>cases e
 | scr h=>cases e
 | kt h r=>cases e
 | exc h e' c=>cases e
theorem aY2 (h:LE X (xZ ta tb) σ H Q'):ac8 X.K (LE X ta) (LE X tb) σ H Q':=by
 obtain ⟨W,ρ,Q,px,q,k⟩:=h
 refine⟨W,ρ,_,px,q,?_⟩
 rintro v H1 x g s1 r ⟨c,e,q⟩
 refine⟨c,aY1 r e,?_⟩
 cases c with
 | false=>exact aO ⟨W,ρ,Q,px.mono s1,by simpa using q,k.back s1⟩
 | true=>exact aW (k _ _ _ _ s1 r (by simpa using q))
theorem aY3 (ha:QE X a ta) (hb:QE X (.BoolOp .Or (b :: cH) pos) tb):QE X (.BoolOp .Or (a :: b :: cH) pos) (xZ ta tb):=bQ (aY0 ha hb) fun _ _ _=>aY2
def y3:PV->Tg->PV->Tg->PK->Prop:=fun x g y g' Q=>(x = .non/\y = .non/\Q (.bl false) .fr) ∨ iD 2 true x g y g' Q
theorem F6 (hu:X.A.units+3 < cLine):cD X (compareOp .NotEq) (fun x y H Q=>pK x y H Q ∨ oO X.K 2 true x y H Q):=by
 intro pins s σ H x y v u Q I rx ry h
 rcases h with h | h
 ·exact zA pins s σ H x y v u Q I rx ry h
 ·exact N0 2 hu pins s σ H x y v u Q I rx ry h
theorem aY4:eS X y3 (fun x y H Q=>pK x y H Q ∨ oO X.K 2 true x y H Q):=by
 rintro W Hs H u v x y g g' Q Q' s n r1 r2 h k
 rcases h with ⟨rfl,rfl,q⟩ | h
 ·cases r1; cases r2
  exact .inl ⟨rfl,k _ _ _ .fr (aD.refl _) (.bl false) q⟩
 ·exact .inr (rF W Hs H u v x y g g' Q Q' s n r1 r2 h k)
theorem aY5 (hu:X.A.units+3 < cLine) (ha:QE X a ta) (hb:QE X b tb):QT X (.Compare a [.NotEq] [b] pos) (aR (q2 y3 ta tb)):=gH (F6 hu) aY4 ha hb (dL _)
end
end PP
namespace Core
open PySem L2 PP
section
variable {ws : List Int} {ls : List (Int × Int)} {S G : List Int}
def lw (ws:List Int) (ls:List (Int × Int)) (S:List Int):List Int:=dU ws ls (cC ws ls S) (cC ws ls S)
theorem ac9:∀ (R L:List Int) (D:Int->Prop),stay ws ls L=L->aT ws.length L=true->(∀ x ∈ L,x ∈ G)->(L = [] ↔ G = [])->(∀ h,D h->h ∈ L->∀ U,stay ws ls U=U->(∀ x ∈ U,x ∈ L)->h ∉ U->U = [])->
  stay ws ls (dU ws ls R L)=dU ws ls R L/\aT ws.length (dU ws ls R L)=true/\(∀ x ∈ dU ws ls R L,x ∈ G)/\(dU ws ls R L = [] ↔ G = [])/\∀ h,D h ∨ h ∈ R->h ∈ dU ws ls R L->∀ U,stay ws ls U=U->(∀ x ∈ U,x ∈ dU ws ls R L)->h ∉ U->U = []
 | [],L,D,a,b,c,d,e=>⟨a,b,c,d,fun h hh=>e h (hh.elim id fun z=>(nomatch z))⟩
 | h :: R,L,D,lc,lset,lsub,lemp,lle=>by
  have key:∀ L',(L'=if h ∈ L then (if cC ws ls (L.filter fun z=>!decide (z ∈ [h])) = [] then L else cC ws ls (L.filter fun z=>!decide (z ∈ [h]))) else L)->stay ws ls L'=L'/\aT ws.length L'=true/\(∀ x ∈ L',x ∈ G)/\(L' = [] ↔ G = [])/\∀ h',(D h' ∨ h'=h)->h' ∈ L'->∀ U,stay ws ls U=U->(∀ x ∈ U,x ∈ L')->h' ∉ U->U = []:=by
   rintro L' rfl
   have w2:∀ x,x ∈ L.filter (fun z=>!decide (z ∈ [h])) ↔ x ∈ L/\x ≠ h:=fun x=>by rw [bn2]; simp
   have g2:=xU ws ls (L.filter fun z=>!decide (z ∈ [h]))
   have s2:=nA (ls:=ls) (sO lset fun z=>!decide (z ∈ [h]))
   generalize cC ws ls (L.filter fun z=>!decide (z ∈ [h]))=M at *
   by_cases hm:h ∈ L
   ·rw [if_pos hm]
    by_cases hM:M = []
    ·rw [if_pos hM]
     refine⟨lc,lset,lsub,lemp,fun h' z hz U hU us hn=>?_⟩
     rcases z with z | rfl
     ·exact lle h' z hz U hU us hn
     ·cases hU2:U with
      | nil=>rfl
      | cons a r=>
       have:a ∈ M:=g2.most U hU (fun x hx=>(w2 x).mpr ⟨us x hx,fun e=>hn (e ▸ hx)⟩) a (by rw [hU2]; exact bg7)
       rw [hM] at this; cases this
    ·rw [if_neg hM]
     have msub:∀ x ∈ M,x ∈ L:=fun x hx=>((w2 x).mp (g2.sub x hx)).1
     refine⟨g2.cold,s2,fun x hx=>lsub x (msub x hx),⟨fun z=>absurd z hM,fun z=>?_⟩,fun h' z hz U hU us hn=>?_⟩
     ·exact List.eq_nil_iff_forall_not_mem.mpr fun a ha=>by have:=lsub a (msub a ha); rw [z] at this; cases this
     ·rcases z with z | rfl
      ·exact lle h' z (msub _ hz) U hU (fun x hx=>msub x (us x hx)) hn
      ·exact absurd rfl ((w2 _).mp (g2.sub _ hz)).2
   ·rw [if_neg hm]
    refine⟨lc,lset,lsub,lemp,fun h' z hz U hU us hn=>?_⟩
    rcases z with z | rfl
    ·exact lle h' z hz U hU us hn
    ·exact absurd hz hm
  obtain ⟨k1,k2,k3,k4,k5⟩:=key _ rfl
  obtain ⟨i1,i2,i3,i4,i5⟩:=ac9 R _ (fun h'=>D h' ∨ h'=h) k1 k2 k3 k4 k5
  exact⟨i1,i2,i3,i4,fun h' z=>i5 h' (z.elim (fun y=>.inl (.inl y)) fun y=>(bg4.mp y).elim (fun e=>.inl (.inr e)) .inr)⟩
theorem aY6 (hs:aT ws.length S=true):aO1 ws ls (cC ws ls S) (lw ws ls S):=by
 obtain ⟨a,b,c,d,e⟩:=ac9 (G:=cC ws ls S) (cC ws ls S) (cC ws ls S) (fun _=>False) (aa7 ws ls S) (nA (ls:=ls) hs) (fun _ z=>z) Iff.rfl (fun _ z=>z.elim)
 exact⟨a,b,c,d,fun h hh=>e h (.inr (c h hh)) hh⟩
end
def nD (ws:List Int) (ls:List (Int × Int)) (ns:List Int):PV:=if lw ws ls (bP ws.length ns) = [] then .non else .tup (intz (lw ws ls (bP ws.length ns)))
def lA:cY:=mZ fun ws ls ns Q=>Q (nD ws ls ns)
def ad0 (Ep:Str->Prop):aK:=(aP (b9 2 (eZ Ep nB (a6 (a5 0) (a6 (aC tF (a6 (a5 0) (a6 (eZ Ep fQ (a6 (a5 0) (a6 (a5 1) a9))) a9))) a9))))
 (aP (bM (gV (oE (a5 2))) (aZ (qC .non)) cA)
 (iB 2)))
theorem aY7:iL ad0 ["web","seeds","found"] lA:=by
 rintro Ep xs Q ⟨ws,ls,x,ns,rfl,wb,hx,hl,q,qe⟩
 have few:=wb.few
 have oS:=xF ws.length ns
 have ol:=gJ oS
 refine⟨_,rfl,_,rfl,_,rfl,_,rfl,ws,ls,x,ns,rfl,hx,hl,fun hs=>?_,qe⟩
 have q:Q (nD ws ls ns):=q hs
 have sl:=gJ hs
 refine⟨ws,ls,_,ns,rfl,.inl rfl,by omega,by omega,?_⟩
 refine⟨ws,ls,_,_,rfl,wb,.inl rfl,by omega,fun _=>⟨trivial,?_⟩,fun z=>by rw [oS] at z; cases z⟩
 have q:Q (if lw ws ls (bP ws.length ns) = [] then .non else .tup (intz (lw ws ls (bP ws.length ns)))):=q
 rw [show dU ws ls (cC ws ls (bP ws.length ns)) (cC ws ls (bP ws.length ns))=lw ws ls (bP ws.length ns) from rfl]
 generalize lw ws ls (bP ws.length ns)=L at q ⊢
 refine⟨_,rfl,_,rfl,?_⟩
 cases hL:L with
 | nil=>rw [hL,if_pos rfl] at q; exact aW ⟨trivial,q⟩
 | cons y r=>rw [hL,if_neg (by intro z; cases z)] at q; exact aO ⟨_,rfl,trivial,q⟩
def nE (ws:List Int) (ls:List (Int × Int)) (ns S:List Int):Bool:=!decide (S = []) && (far ns S && decide (stay ws ls S=S))
def nF:cY:=fun Ep xs Q=>∃ ws ls x ns y S,xs = [bJ ws ls,x,y]/\Wb ws ls/\cQ x ns/\ns.length<=1000/\cQ y S/\S.length<=1000/\(aT ws.length ns=true->aT ws.length S=true->Q (.bl (nE ws ls ns S)))/\((aT ws.length ns && aT ws.length S)=false->Ep "BadSet")
def ad1 (Ep:Str->Prop):aK:=(aP (b9 3 (aC hJ (a6 (eZ Ep fQ (a6 (a5 0) (a6 (a5 1) a9))) a9)))
 (aP (b9 4 (eZ Ep fQ (a6 (a5 0) (a6 (a5 2) a9))))
 (aZ (jN (jR (aC dD (a6 (a5 4) a9)) (qC (.int 0))) (jN (dP (aC jY (a6 (a5 4) (a6 (a5 3) a9))) (qC (.int 0))) (eZ Ep t6 (a6 (a5 0) (a6 (a5 4) a9))))))))
theorem aY8:iL ad1 ["web","seeds","block","lit","chosen"] nF:=by
 rintro Ep xs Q ⟨ws,ls,x,ns,y,S,rfl,wb,hx,hl,hy,hm,q,qe⟩
 have few:=wb.few
 refine⟨_,rfl,_,rfl,ws,ls,x,ns,rfl,hx,hl,fun hs=>?_,fun z=>qe (by rw [z]; rfl)⟩
 refine⟨_,ns,rfl,.inl rfl,by omega,fun ps ds=>⟨trivial,?_⟩⟩
 refine⟨_,rfl,_,rfl,ws,ls,y,S,rfl,hy,hm,fun hS=>⟨trivial,?_⟩,fun z=>qe (by rw [z,bu5])⟩
 have q:Q (.bl (!decide (S = []) && (far ns S && decide (stay ws ls S=S)))):=q hs hS
 refine⟨_,rfl,_,_,rfl,rfl,_,_,rfl,rfl,_,rfl,?_⟩
 dsimp only
 rw [b7]
 by_cases hE:S = []
 ·rw [bg3 hE] at q
  rw [bg2 (by rw [hE]; decide)]
  exact aO ⟨trivial,q⟩
 have hp:0 < S.length:=List.length_pos_iff.mpr hE
 rw [bg2 hE] at q
 rw [bg3 (by omega)]
 refine aW ⟨_,rfl,_,rfl,_,S,ps,ns,rfl,.inl rfl,ds,by omega,.inl ⟨_,_,rfl,rfl,_,rfl,?_⟩⟩
 change if far ns S=true then _ else _
 cases hf:far ns S with
 | false=>rw [hf] at q; exact aO ⟨trivial,q⟩
 | true=>
  rw [hf] at q
  exact aW ⟨_,rfl,_,rfl,ws,ls,_,S,rfl,wb,.inl rfl,by omega,fun _=>⟨trivial,q⟩,fun z=>by rw [hS] at z; cases z⟩
def pE:bC:=fun xs Q=>∃ ws ls ns S,xs = [bJ ws ls,.tup (intz ns),.tup (intz S)]/\(∀ l ∈ ls,l.1 ≠ l.2)/\ls.length<=1700/\S.length<=1000/\(∀ x ∈ S,0<=x/\x < (ws.length:Int))/\Q (.bl (nE ws ls ns S))
def ad2:aK:=(aP (bM (jM (aR (q2 (iD 2 false) (a5 2) (gB a9))) (aR (jR (aC dD (a6 (cP (dI (a5 2)) [none,some 1] (bI 0) (aR (q2 (fL false) (a5 0) (a5 1))) (a5 0)) a9)) (qC (.int 0))))) (aZ (qC (.bl false))) cA)
 (aZ (aC sV (a6 (a5 0) (a6 (a5 2) a9)))))
theorem aY9:cN ad2 ["web","seeds","block"] pE:=by
 rintro xs Q ⟨ws,ls,ns,S,rfl,hne,hl,hS,hin,q⟩
 have q:Q (.bl (!decide (S = []) && (far ns S && decide (stay ws ls S=S)))):=q
 refine⟨_,rfl,by decide,rfl,.inl ⟨_,_,rfl,rfl⟩,m5 2 S [],_,rfl,?_⟩
 show if bU 3 (.tup (intz S)) (.tup (intz []))=true then _ else _
 rw [m3]
 by_cases hE:S = []
 ·rw [bg3 hE] at q ⊢
  exact aW (aW ⟨trivial,q⟩)
 rw [bg2 hE] at q ⊢
 refine aO ?_
 refine⟨_,rfl,_,rfl,mQ (.inl rfl),by rw [b7]; omega,fun i acc=>acc=intz ((S.take i).filter fun x=>decide (x ∈ ns)),rfl,?_,?_⟩
 ·rintro j z acc hz rfl
  obtain ⟨n,rfl,hn⟩:=eL hz
  have tk:=jX (p:=fun z=>decide (z ∈ ns)) hn
  refine⟨_,rfl,_,rfl,n,ns,rfl,rfl,_,rfl,?_⟩
  show if decide (n ∈ ns)=true then _ else _
  cases hm:decide (n ∈ ns) with
  | true=>
   rw [hm] at tk
   refine aW ⟨_,rfl,trivial,?_⟩
   dsimp only
   rw [tk,e8]; rfl
  | false=>
   rw [hm] at tk
   refine aO ?_
   dsimp only
   rw [tk]; exact congrArg intz (bi9 _).symm
 rintro acc rfl
 rw [b7,bk9]
 refine⟨_,_,rfl,rfl,_,_,rfl,rfl,_,rfl,?_⟩
 dsimp only
 rw [b7]
 cases hf:far ns S with
 | false=>
  rw [hf] at q
  have : ¬ ((S.filter fun x=>decide (x ∈ ns)).length:Int)=0:=of_decide_eq_false hf
  rw [bg3 (by omega)]
  exact aW ⟨trivial,q⟩
 | true=>
  rw [hf] at q
  have:((S.filter fun x=>decide (x ∈ ns)).length:Int)=0:=bq1 hf
  rw [bg2 (by omega)]
  exact aO ⟨_,rfl,_,rfl,ws,ls,S,rfl,hne,hl,hin,trivial,q⟩
def nG:bC:=fun xs Q=>∃ ws ls x ns b,xs = [bJ ws ls,x,b]/\Wb ws ls/\cQ x ns/\ns.length<=1000/\((b = .non/\aT ws.length ns=false) ∨ ∃ S,b = .tup (intz S)/\S.length<=1000/\(aT ws.length ns && aT ws.length S)=false)/\Q (.bl true)
def ad3:aK:=(aP (b9 3 (qC (.bl false)))
 (aP (xJ "HearthError" 4 (X7 (aR (K5 (a5 2) (qC .non))) (xI lA (a6 (a5 0) (a6 (a5 1) a9))) (xI nF (a6 (a5 0) (a6 (a5 1) (a6 (a5 2) a9))))) (b9 3 (xL "BadSet" (a5 4))))
 (iB 3)))
theorem aZ0:cN ad3 ["web","seeds","block","caught","e"] nG:=by
 rintro xs Q ⟨ws,ls,x,ns,b,rfl,wb,hx,hl,c,q⟩
 rcases c with ⟨rfl,hs⟩ | ⟨S,rfl,hS,hs⟩
 ·refine⟨trivial,_,rfl,rfl,_,rfl,aW ⟨_,rfl,_,rfl,ws,ls,x,ns,rfl,wb,hx,hl,fun h=>?_,fun _=>⟨by decide,_,rfl,true,(by decide),trivial,?_⟩⟩⟩
  ·rw [hs] at h; cases h
  ·exact⟨_,rfl,trivial,q⟩
 ·refine⟨trivial,_,rfl,rfl,_,rfl,aO ⟨_,rfl,_,rfl,_,rfl,ws,ls,x,ns,_,S,rfl,wb,hx,hl,.inl rfl,hS,fun h1 h2=>?_,fun _=>⟨by decide,_,rfl,true,(by decide),trivial,?_⟩⟩⟩
  ·rw [h1,h2] at hs; cases hs
  ·exact⟨_,rfl,trivial,q⟩
def tL:bC:=fun xs Q=>∃ ws ls ns,∃ (m:Nat) (c:Int),xs = [bJ ws ls,.tup (intz ns),.int m,.int c]/\Wb ws ls/\ws.length=m/\m<=40/\∀ S,aT m S=true->Q (.tup (intz S))
def ad4:aK:=(aP (b9 4 (aC mX (a6 (dB (a5 3) (qC (.int 28))) (a6 (a5 2) a9))))
 (aP (bM (aR (dP (bY (a5 3) (qC (.int 2))) (qC (.int 1)))) (aP (b9 4 (aC (l9 fun _=>False) (a6 (a5 0) (a6 (aC dF (a6 (cP (dI (a5 4)) [none,some 1] (bI 0) (aR (q2 (fL true) (a5 0) (a5 1))) (a5 0)) a9)) a9))))
  (bM (jL (aR (dP (bY (dB (a5 3) (qC (.int 2))) (qC (.int 2))) (qC (.int 1)))) (aR (jR (a5 2) (qC (.int 0))))) (aP (b9 5 (bY (dB (a5 3) (qC (.int 4))) (a5 2)))
   (b9 4 (aC dF (a6 (cP (gE (a5 2)) [none,some 4,some 5] (bI 0) (aR (kL (q2 (fL false) (a5 0) (a5 1)) (dP (a5 0) (a5 2)))) (a5 0)) a9)))) cA)) cA)
 (iB 4)))
theorem aZ1:cN ad4 ["web","seeds","many","cell","some","other"] tL:=by
 rintro xs Q ⟨ws,ls,ns,m,c,rfl,wb,wl,hm,q⟩
 refine⟨_,rfl,_,_,rfl,rfl,⟨by decide,by decide⟩,_,rfl,_,m,rfl,by omega,by omega,fun S hS=>⟨trivial,?_⟩⟩
 have hS:aT m S=true:=hS
 have sl:=gJ hS
 refine⟨_,rfl,_,_,rfl,rfl,(by show (0:Int) < 2; decide),.inl ⟨_,_,rfl,rfl,_,rfl,ab0 ?_ ⟨_,rfl,trivial,q S hS⟩⟩⟩
 refine⟨_,rfl,_,rfl,_,rfl,(fun _=>oX S),by rw [b7]; omega,fun i acc=>acc=intz ((S.take i).filter fun x=>!decide (x ∈ ns)),rfl,?_,?_⟩
 ·rintro j z acc hz rfl
  obtain ⟨n,rfl,hn⟩:=eL hz
  have tk:=jX (p:=fun z=>!decide (z ∈ ns)) hn
  refine⟨_,rfl,_,rfl,n,ns,rfl,rfl,_,rfl,?_⟩
  show if (!decide (n ∈ ns))=true then _ else _
  cases hm:(!decide (n ∈ ns)) with
  | true=>
   rw [hm] at tk
   refine aW ⟨_,rfl,trivial,?_⟩
   dsimp only
   rw [tk,e8]; rfl
  | false=>
   rw [hm] at tk
   refine aO ?_
   dsimp only
   rw [tk]; exact congrArg intz (bi9 _).symm
 rintro acc rfl
 rw [b7,bk9]
 have hT:aT ws.length (S.filter fun x=>!decide (x ∈ ns))=true:=by rw [wl]; exact sO hS _
 have tl:=gJ hT
 refine⟨⟨_,_,rfl,rfl,cE _,ws,ls,_,_,rfl,wb,.inl rfl,by omega,fun _ k hk=>⟨trivial,?_⟩,fun h=>by rw [hT] at h; cases h⟩,fun ns z=>by cases z⟩
 have hA:=p9 (ls:=ls) hT k
 generalize bO ws ls (S.filter fun x=>!decide (x ∈ ns)) k=A at hA
 rw [wl] at hA
 have qa:=q A hA
 refine⟨_,rfl,_,_,rfl,rfl,⟨by decide,by decide⟩,_,_,rfl,rfl,(by show (0:Int) < 2; decide),.inl ⟨_,_,rfl,rfl,_,rfl,ab0 ?_ (aO ⟨_,rfl,trivial,qa⟩)⟩⟩
 refine⟨_,rfl,_,_,rfl,rfl,_,rfl,?_⟩
 dsimp only
 by_cases h0:(0:Int) < (m:Int)
 ·rw [bg3 h0]
  refine aW ⟨_,rfl,_,_,rfl,rfl,⟨by decide,by decide⟩,_,rfl,_,_,rfl,rfl,h0,trivial,?_⟩
  refine⟨_,rfl,m,rfl,by omega,by omega,by rw [dE]; omega,fun i acc=>∃ S,acc=intz S/\hZ i S,⟨[],rfl,.nil,fun _ h=>nomatch h⟩,?_,?_⟩
  ·rintro i y acc hy ⟨S,rfl,hS⟩
   obtain ⟨rfl,hi⟩:=iH hy
   refine⟨_,rfl,_,rfl,_,A,rfl,rfl,_,rfl,_,rfl,.inl ⟨_,_,rfl,rfl,.inr ⟨_,_,rfl,rfl,_,rfl,?_⟩⟩⟩
   dsimp only
   generalize (if true=true then _ else _)=b
   cases b with
   | true=>exact aW ⟨_,rfl,trivial,S ++ [(0:Int)+(i:Int)],by rw [e8]; rfl,hS.app⟩
   | false=>exact aO ⟨S,rfl,hS.more⟩
  ·rintro acc ⟨S,rfl,hS⟩
   rw [dE] at hS
   exact⟨⟨_,_,rfl,rfl,cE _,trivial,_,rfl,trivial,q S hS.set⟩,fun ns z=>by cases z⟩
 ·rw [bg2 h0]
  exact aO ⟨_,rfl,trivial,qa⟩
def y6:bC:=V2
def ad5 (K:PySem.W.Frag):aK:=(aP (b9 8 (aC (nF fun _=>False) (a6 (a5 3) (a6 (aC iZ (a6 (a5 4) a9)) (a6 (aC iZ (a6 (a5 5) a9)) a9)))))
 (aP (bM (jM (gV (aR (jQ K "bool" (a5 8)))) (aR (kL (a5 8) (aC pE (a6 (a5 3) (a6 (a5 4) (a6 (a5 5) a9))))))) (aZ (qC (.bl false))) cA)
 (aP (b9 9 (aC sY (a6 (a5 5) (a6 (a5 1) (a6 (aC k6 (a6 (a5 0) (a6 (qC (.int 3)) a9))) a9)))))
 (aP (bM (jM (gV (aR (aC nG (a6 (a5 3) (a6 (a5 9) (a6 (qC .non) a9)))))) (gV (aR (aC nG (a6 (a5 3) (a6 (a5 9) (a6 (a5 5) a9))))))) (aZ (qC (.bl false))) cA)
 (aZ (aC nG (a6 (a5 3) (a6 (a5 4) (a6 (a5 9) a9)))))))))
def ad6 (K:PySem.W.Frag):aK:=(aP (b9 7 (aC dF (a6 (cP (gE (a5 1)) [none,some 4] (bI 0) (aR (q2 (fL true) (a5 0) (a5 1))) (a5 0)) a9)))
 (aP (bM (jM (aR (q2 (iD 2 true) (aC (nB fun _=>False) (a6 (a5 3) (a6 (a5 7) a9))) (xZ (a5 6) (gB a9)))) (aR (q2 y3 (aC (lA fun _=>False) (a6 (a5 3) (a6 (aC iZ (a6 (a5 4) a9)) a9))) (a5 6)))) (aZ (qC (.bl false))) cA)
 (ad5 K)))
def ad7 (K:PySem.W.Frag):aK:=(aP (b9 1 (aC t7 (a6 (aC k6 (a6 (a5 0) (a6 (qC (.int 0)) a9))) a9)))
 (aP (b9 2 (aC k6 (a6 (a5 0) (a6 (qC (.int 2)) a9))))
 (aP (b9 3 (aC t5 (a6 (vV (a5 0) (vU (qC (.int 4))) vT) (a6 (a5 1) (a6 (bY (aC k6 (a6 (a5 0) (a6 (qC (.int 1)) a9))) (qC (.int 8))) a9)))))
 (aP (b9 4 (aC mX (a6 (dB (aC k6 (a6 (a5 0) (a6 (qC (.int 1)) a9))) (qC (.int 8))) (a6 (a5 1) a9))))
 (aP (b9 5 (aC tL (a6 (a5 3) (a6 (a5 4) (a6 (a5 1) (a6 (a5 2) a9))))))
 (aP (b9 6 (aC (lA fun _=>False) (a6 (a5 3) (a6 (a5 4) a9))))
 (aP (bM (aR (kL (K5 (a5 6) (qC .non)) (aC (tE fun _=>False) (a6 (a5 3) (a6 (a5 4) a9))))) (aZ (qC (.bl false))) cA)
 (aP (bM (aR (az4 (a5 6) (qC .non))) (bM (jM (gV (aR (aC sX (a6 (a5 6) (a6 (aC ac7 (a6 (a5 6) a9)) a9))))) (gV (aR (aC pE (a6 (a5 3) (a6 (a5 4) (a6 (a5 6) a9))))))) (aZ (qC (.bl false))) cA) cA)
 (ad6 K)))))))))
theorem aZ2 {K:PySem.W.Frag} (kb:PySem.W.kitOne K (.type "bool") (.type "bool")=some true):cN (ad7 K) ["script","many","cell","web","seeds","block","paper","rest","found","odd"] y6:=by
 rintro xs Q ⟨ns,rfl,hl,q⟩
 refine⟨_,rfl,_,ns,0,rfl,.inl rfl,by decide,_,rfl,fun M m0 m1=>⟨trivial,?_⟩⟩
 obtain ⟨m,rfl⟩:∃ m:Nat,M=m:=⟨M.toNat,by omega⟩
 refine⟨_,rfl,_,ns,2,rfl,.inl rfl,by decide,trivial,?_⟩
 generalize ns.getD (2:Int).toNat 0=c
 have hc:gK (vS (.scr ns) (iE (intz ns) (some 4) none)) (ns.drop 4):=.inr (by show PV.lst (iE (intz ns) (some 4) none)=_; rw [x9 ns (by decide)]; rfl)
 refine⟨_,rfl,_,rfl,_,rfl,cE _,_,rfl,_,rfl,_,ns,1,rfl,.inl rfl,by decide,_,_,rfl,rfl,(by show (0:Int) < 8; decide),_,_,m,_,rfl,hc,by rw [bn4]; omega,by omega,by omega,fun ws ls w=>⟨trivial,?_⟩⟩
 have wl:ws.length=m:=by have:=w.many; omega
 have wb:Wb ws ls:=w.wb (by omega)
 have ne:∀ l ∈ ls,l.1 ≠ l.2:=fun l hl=>by have:=w.inn l hl; omega
 refine⟨_,rfl,_,ns,1,rfl,.inl rfl,by decide,_,_,rfl,rfl,⟨by decide,by decide⟩,_,rfl,_,m,rfl,by omega,by omega,fun S hS=>⟨trivial,?_⟩⟩
 have hS:aT m S=true:=hS
 have hS':aT ws.length S=true:=by rw [wl]; exact hS
 have sl:=gJ hS
 have no:∀ {p:Prop},aT ws.length S=false->p:=fun h=>by rw [hS'] at h; cases h
 refine⟨_,rfl,_,rfl,_,rfl,_,rfl,ws,ls,S,m,c,rfl,wb,wl,by omega,fun B hB=>⟨trivial,?_⟩⟩
 have hB':aT ws.length B=true:=by rw [wl]; exact hB
 have bl:=gJ hB
 have tailc:∀ (P:PV) (R:List Int),ad5 K { nx:=fun _=>Q .non,rt:=Q } [some (.sh (flat (.scr ns)) (.scr ns)),si m,si c,some (.sh true (bJ ws ls)),some (.sh true (.tup (intz S))),some (.sh true (.tup (intz B))),some (.sh true P),some (.sh true (.tup (intz R))),none,none]:=fun P R=>by
  refine⟨_,rfl,_,rfl,_,_,rfl,rfl,cE _,_,rfl,_,_,rfl,rfl,cE _,ws,ls,_,S,_,B,rfl,wb,.inr rfl,by omega,.inr rfl,by omega,fun _ _=>⟨trivial,?_⟩,fun h=>by rw [hS',hB'] at h; cases h⟩
  refine⟨_,rfl,_,_,rfl,kb,_,rfl,aO ⟨_,rfl,_,rfl,_,rfl,_,rfl,ws,ls,S,B,rfl,ne,w.most,by omega,(dG hB').2,.inr ⟨_,_,rfl,rfl,_,rfl,?_⟩⟩⟩
  show if (!decide (nE ws ls S B=nE ws ls S B))=true then _ else _
  rw [bg3 rfl]
  refine aO ?_
  refine⟨_,rfl,_,rfl,_,rfl,_,ns,3,rfl,.inl rfl,by decide,B,m,_,rfl,hB,by omega,fun ys yl yn=>⟨trivial,?_⟩⟩
  have yb:aT ws.length ys=false:=by rw [wl]; exact yn
  refine⟨_,rfl,_,rfl,ws,ls,_,ys,_,rfl,wb,.inl rfl,by omega,.inl ⟨rfl,yb⟩,_,rfl,aO ?_⟩
  refine⟨_,rfl,_,rfl,_,rfl,ws,ls,_,ys,_,rfl,wb,.inl rfl,by omega,.inr ⟨B,rfl,by omega,by rw [yb]; rfl⟩,_,rfl,aO ?_⟩
  exact⟨_,rfl,_,rfl,_,rfl,ws,ls,_,S,_,rfl,wb,.inl rfl,by omega,.inr ⟨ys,rfl,by omega,by rw [yb,bu5]⟩,trivial,q⟩
 have oS:=xF ws.length S
 have ol:=gJ oS
 have le:=aY6 (ls:=ls) oS
 have gs:=nA (ls:=ls) oS
 have gg:=xU ws ls (bP ws.length S)
 have tailb:∀ P:PV,P=nD ws ls S->ad6 K { nx:=fun _=>Q .non,rt:=Q } [some (.sh (flat (.scr ns)) (.scr ns)),si m,si c,some (.sh true (bJ ws ls)),some (.sh true (.tup (intz S))),some (.sh true (.tup (intz B))),some (.sh true P),none,none,none]:=fun P hP=>by
  refine⟨_,rfl,m,rfl,by omega,by omega,by rw [dE]; omega,fun i acc=>acc=intz (((rng m).take i).filter fun x=>!decide (x ∈ S)),rfl,?_,?_⟩
  ·rintro i y acc hy rfl
   obtain ⟨rfl,hi⟩:=iH hy
   rw [show (0:Int)+(i:Int)=(i:Int) by omega]
   have tk:=jX (p:=fun z=>!decide (z ∈ S)) (S4 (show i < m by omega))
   refine⟨_,rfl,_,rfl,(i:Int),S,rfl,rfl,_,rfl,?_⟩
   show if (!decide ((i:Int) ∈ S))=true then _ else _
   cases hm:(!decide ((i:Int) ∈ S)) with
   | true=>
    rw [hm] at tk
    refine aW ⟨_,rfl,trivial,?_⟩
    dsimp only
    rw [tk,e8]; rfl
   | false=>
    rw [hm] at tk
    refine aO ?_
    dsimp only
    rw [tk]; exact congrArg intz (bi9 _).symm
  rintro acc rfl
  rw [dE,show ((rng m).take (m:Int).toNat).filter (fun x=>!decide (x ∈ S))=bP ws.length S by rw [wl,bn8 (by rw [kX]; omega)]; rfl]
  refine⟨⟨_,_,rfl,rfl,cE _,trivial,?_⟩,fun ns z=>by cases z⟩
  refine⟨_,rfl,_,rfl,ws,ls,_,bP ws.length S,rfl,wb,.inl rfl,by omega,fun _=>?_,fun z=>by rw [oS] at z; cases z⟩
  dsimp only
  rw [show dU ws ls (cC ws ls (bP ws.length S)) (cC ws ls (bP ws.length S))=lw ws ls (bP ws.length S) from rfl]
  have hcp:nD ws ls S=if lw ws ls (bP ws.length S) = [] then .non else .tup (intz (lw ws ls (bP ws.length S))):=rfl
  generalize lw ws ls (bP ws.length S)=L at hcp ⊢
  by_cases hL:L = []
  ·rw [if_pos hL] at hcp
   rw [hcp] at hP
   subst hP
   refine⟨_,rfl,_,rfl,aO ⟨by decide,rfl,.inl ⟨_,_,rfl,rfl⟩,m5 2 L [],_,rfl,?_⟩⟩
   show if (!bU 3 (.tup (intz L)) (.tup (intz [])))=true then _ else _
   rw [m3,bg3 hL]
   refine aO ?_
   refine⟨_,rfl,_,rfl,_,_,rfl,rfl,cE _,ws,ls,_,S,rfl,wb,.inr rfl,by omega,fun _=>?_,no⟩
   dsimp only
   rw [hcp]
   exact⟨_,rfl,.inl ⟨rfl,rfl,_,rfl,aO (tailc _ _)⟩⟩
  ·rw [if_neg hL] at hcp
   rw [hcp] at hP
   subst hP
   have ne:(!(intz L).isEmpty)=true:=by cases L with | nil=>exact absurd rfl hL | cons a r=>rfl
   refine⟨_,rfl,_,rfl,?_⟩
   rw [if_pos ne]
   refine⟨.inl ⟨_,_,rfl,rfl⟩,m5 2 L L,_,rfl,?_⟩
   show if (!bU 3 (.tup (intz L)) (.tup (intz L)))=true then _ else _
   rw [m3,bg3 rfl]
   refine aO ?_
   refine⟨_,rfl,_,rfl,_,_,rfl,rfl,cE _,ws,ls,_,S,rfl,wb,.inr rfl,by omega,fun _=>?_,no⟩
   dsimp only
   rw [hcp]
   refine⟨_,rfl,.inr ⟨.inl ⟨_,_,rfl,rfl⟩,m5 2 L L,_,rfl,?_⟩⟩
   show if (!bU 3 (.tup (intz L)) (.tup (intz L)))=true then _ else _
   rw [m3,bg3 rfl]
   exact aO (tailc _ _)
 refine⟨_,rfl,_,rfl,ws,ls,_,S,rfl,wb,.inl rfl,by omega,fun _=>⟨(by unfold nD; split <;> trivial),?_⟩,no⟩
 have hcp:nD ws ls S=if lw ws ls (bP ws.length S) = [] then .non else .tup (intz (lw ws ls (bP ws.length S))):=rfl
 generalize lw ws ls (bP ws.length S)=L at hcp le
 have ll:=gJ le.set
 have lg:∀ k,c9 ws ls S k->decide (((aY ws ls S k).length:Int)=(ws.length:Int))=decide (L = []):=fun k en=>by
  rw [aU8 hS']
  have eg:cC ws ls (bP ws.length S)=bP ws.length (aY ws ls S k):=W9 gg (aO3 wb en) gs (xF _ _)
  rw [<- eg]
  exact decide_eq_decide.mpr le.emp.symm
 by_cases hL:L = []
 ·rw [if_pos hL] at hcp
  have tb:=tailb .non hcp.symm
  rw [hcp]
  refine⟨_,rfl,rfl,_,rfl,_,rfl,ws,ls,_,S,rfl,wb,.inl rfl,by omega,fun _ k en=>.inr ⟨_,_,rfl,rfl,_,rfl,?_⟩,no⟩
  rw [lg k en,bg3 hL]
  exact aO ⟨_,rfl,rfl,_,rfl,aO tb⟩
 ·rw [if_neg hL] at hcp
  have tb:=tailb (.tup (intz L)) hcp.symm
  rw [hcp]
  refine⟨_,rfl,rfl,_,rfl,_,rfl,ws,ls,_,S,rfl,wb,.inl rfl,by omega,fun _ k en=>.inr ⟨_,_,rfl,rfl,_,rfl,?_⟩,no⟩
  rw [lg k en,bg2 hL]
  refine aO ⟨_,rfl,rfl,_,rfl,aW ⟨_,rfl,_,rfl,L,rfl,by omega,fun ms nd mem=>?_,fun ks up mem=>?_⟩⟩
  ·have:=nd.length_le_of_subset fun x hx=>mP.mpr ((dG le.set).2 x ((mem x).mp hx))
   rw [kX] at this; omega
  obtain rfl:ks=L:=W8 (aX9 up fun x hx=>(dG le.set).2 x ((mem x).mp hx)) le.set mem
  have jc:nE ws ls S ks=true:=by
   unfold nE
   rw [bg2 hL,bg3 le.cold,aU7.mpr fun x hx=>(fO.mp (gg.sub x (le.sub x hx))).2]; rfl
  refine⟨ks,ks,rfl,by omega,by omega,_,rfl,?_⟩
  rw [bg3 rfl]
  refine aO ⟨_,rfl,_,rfl,_,rfl,ws,ls,S,ks,rfl,ne,w.most,by omega,(dG le.set).2,_,rfl,?_⟩
  rw [jc]
  exact aO tb
end Core
namespace K_k28
open PySem PySem.W L2 PP Core
theorem _root_.L2.FnScope.au {N P:List Str}{s:Scope} (a:s.kind=.function:=by rfl) (b:s.isCoroutine=false:=by rfl) (c:s.isGenerator=false:=by rfl) (d:N.Nodup:=by decide +kernel) (e:N.take P.length=P:=by rfl) (f:∀ x∈P,s.names.lookup x=some .local∨s.names.lookup x=some .cell:=by decide +kernel) (g:∀ y∈s.names,y.2≠.free:=by decide +kernel):FnScope N P s:=⟨a,b,c,d,e,f,g⟩
def aX (i:Nat):Stmt:=PySem.Challenge.pw_kindleweb_k28_cold_papers.main.body.getD i (.Pass ⟨0,0,0,0⟩)
structure FK (K:Frag) (n:Str) (i:Nat) (f:Addr) (d:FuncData):Prop where
 a:nsIn K mainGlobals n=some (some (.ref f))
 F:eC K n n (aX i) f d
structure FM (K:Frag) (mg:Str->Option Value) (n:Str) (i:Nat) (f:Addr) (d:FuncData):Prop where
 F:eC K n n (aX i) f d
 m:mg n=some (.ref f)
theorem FK.M {K:Frag}{mg:Str->Option Value}{n:Str}{i:Nat}{f:Addr}{d:FuncData}{h:Heap} (z:FK K n i f d) (X:K.In h) (G:h.Ns mainGlobals mg):FM K mg n i f d:=⟨z.F,mg_of X G z.a⟩
abbrev Hb (x:Str) (ps:List Str) (i:Nat):Prop:=∀ (kV doc pm:Value) (an:Option Addr) (cdv ct:Value) (us:List Value),us.length=ps.length->bindArgs (fnOf x x (iA (aX i)) (dN (aX i)) (aQ (aX i)) .none kV doc pm an cdv ct) ⟨us,[]⟩=pure (ps.zip us)
theorem pF {A:Around}{k:Nat} (hr:bS k A):A.units+3 < cLine:=by have:=hr.units; omega
section
variable {P : Program} {w : World} {K : Frag} {mg : Str → Option Value} {base : Heap} {f : Addr} {fd : FuncData} {k i : Nat} {x : Str} {ps N : List Str}
theorem Df.au {p:bC} (F:FM K mg x i f fd) (S:FnScope N ps (aQ (aX i))) (body:∀ (cdv:Value) (A:Around) (outer:List Env) (s:Shared) (H:Hp) (E:XK),bS k (A.deeper (PyProof.Rows.envOfC x (aQ (aX i)) s.heap.objs.size f cdv))->∃ t,eG (cW cZ P w K mg base N x (aQ (aX i)) f cdv A outer s H E).nox (dN (aX i)) t/\∀ xs Q,p xs Q->t { nx:=fun _=>Q .non,rt:=Q } (eF N xs)) (hb:Hb x ps i:=by intro _ _ _ _ _ _ us hl; first | (obtain ⟨_,rfl⟩:=pC hl; rfl) | (obtain ⟨_,_,rfl⟩:=xO hl; rfl) | (obtain ⟨_,_,_,rfl⟩:=sR hl; rfl) | (obtain ⟨_,_,_,_,rfl⟩:=Y5 hl; rfl) | (obtain ⟨_,_,_,_,_,rfl⟩:=us5 hl; rfl)) (len:∀ xs Q,p xs Q->xs.length=ps.length:=by intro xs Q h; repeat (first | (obtain ⟨rfl,_⟩:=h; rfl) | (obtain ⟨_,h⟩:=h))):Df P w K mg base (k+1) x ps p:=
 Df.of F.F F.m S hb len body
theorem bA.au {p:cY} (F:FM K mg x i f fd) (S:FnScope N ps (aQ (aX i))) (t:(Str->Prop)->aK) (rd:∀ Ep xs Q,p Ep xs Q->t Ep { nx:=fun _=>Q .non,rt:=Q } (eF N xs)) (body:∀ (cdv:Value) (A:Around) (outer:List Env) (s:Shared) (H:Hp) (E:XK) (Ep:Str->Prop),bS k (A.deeper (PyProof.Rows.envOfC x (aQ (aX i)) s.heap.objs.size f cdv))->mO (cW (dS P w) P w K mg base N x (aQ (aX i)) f cdv A outer s H E) (EX K H Ep)->eG (cW (dS P w) P w K mg base N x (aQ (aX i)) f cdv A outer s H E) (dN (aX i)) (t Ep)) (hb:Hb x ps i:=by intro _ _ _ _ _ _ us hl; first | (obtain ⟨_,rfl⟩:=pC hl; rfl) | (obtain ⟨_,_,rfl⟩:=xO hl; rfl) | (obtain ⟨_,_,_,rfl⟩:=sR hl; rfl) | (obtain ⟨_,_,_,_,rfl⟩:=Y5 hl; rfl) | (obtain ⟨_,_,_,_,_,rfl⟩:=us5 hl; rfl)) (len:∀ Ep xs Q,p Ep xs Q->xs.length=ps.length:=by intro Ep xs Q h; repeat (first | (obtain ⟨rfl,_⟩:=h; rfl) | (obtain ⟨_,h⟩:=h))):bA P w K mg base (k+1) x ps p:=
 bA.of F.F F.m S hb t len rd body
end
section
variable {P : Program} {w : World} {K : Frag} {mg : Str → Option Value} {base : Heap} {f : Addr} {fd : FuncData}
theorem nd2:(["ahead","behind"]:List Str).Nodup:=by decide +kernel
abbrev ad8:Stmt:=aX 4
theorem scR:FnScope ["things"] ["things"] (aQ ad8):=.au
theorem y7 {ns:List Int}{i:Nat}{x y:V} (h1:(ns.map V.int)[i]? = some x) (h2:((ns.map V.int).drop 1)[i]? = some y):∃ p q:Int,x = .int p/\y = .int q/\(ns.zip (ns.drop 1))[i]? = some (p,q):=by
 rw [bh1] at h1
 rw [<- List.map_drop,bh1] at h2
 cases e1:ns[i]? with
 | none=>rw [e1] at h1; cases h1
 | some p=>
  cases e2:(ns.drop 1)[i]? with
  | none=>rw [e2] at h2; cases h2
  | some q=>
   rw [e1] at h1; rw [e2] at h2
   exact⟨p,q,(bi5 h1).symm,(bi5 h2).symm,List.getElem?_zip_eq_some.mpr ⟨e1,e2⟩⟩
theorem aZ3 (B:Bt mg) (F:eC K "rises" "rises" ad8 f fd):cT P w K mg base cZ 1 f fd ["things"] (U7 K):=by
 refine F.ok scR (fun vs H Q E h=>?_) (fun cdv A outer s H vs Q E hr h=>?_)
 ·obtain ⟨a,ns,rfl,_⟩:=h
  rfl
 obtain ⟨a,ns,rfl,hS,hn,q⟩:=h
 have lz:((ns.map V.int).drop 1).length<=sizeLine:=bm3 (gT (by rw [bn4,bg5]; omega))
 have lz2:((ns.map V.int).drop 1).length<=(ns.map V.int).length:=by rw [bn4]; omega
 have lz3:(ns.zip (ns.drop 1)).length=((ns.map V.int).drop 1).length:=by rw [List.length_zip,bn4,bn4,bg5]; omega
 rcases hS with hS | hS
 ·refine⟨_,lC (lF (lM (v7 rfl) rfl B.all PyProof.Rows.boot_all (cV (C6 (N:=["ahead","behind"]) (fr:=[none,none]) rfl (cO.of rfl rfl) (as9 rfl B.zip (cV (pv 0) (cV (uD F4 (pv 0) (uC nI) uB) dM)))
   ⟨fun _ _ _ _=>show PG _ _ (jG K 2 (eO (cF 0) (eO (cF 1) jF))) from lH rfl (fT (eB (i:=0) nd2 rfl (Or.inl rfl) (.inr rfl)) (fT (eB (i:=1) nd2 rfl (Or.inl rfl) (.inr rfl)) lG)),fun _ _ _ _=>qD,fun _ _ _ _=>tY pL (pv 0) (pv 1) (dL _)⟩) dM))),?_⟩
  refine⟨_,rfl,_,rfl,1,rfl,a,_,rfl,hS,fun p hp=>?_,fun e=>?_⟩
  ·have s1:=bE hp (.tup (dW (ns.map V.int) (some 1) none))
   have hb:aL K (upd H p (.tup (dW (ns.map V.int) (some 1) none))) p ((ns.map V.int).drop 1):=aL.of (by rw [b8,vA])
   refine⟨a,p,_,_,rfl,s1.tup hS,hb,v9 (F3 (s1.tup hS) hb lz2) (fun i acc _=>acc=((ns.zip (ns.drop 1)).take i).map fun (p:Int × Int)=>V.bl (decide (p.1 < p.2))) lz (fun _ _=>rfl) (fun _ _ _ _ _ h=>h) (fun i x acc D H' hi hR c hP=>?_) (fun D acc H' hD sm hDa hlen hP=>?_)⟩
   ·obtain ⟨T,x1,y1,rfl,hT,h1,h2⟩:=hR
    obtain ⟨m,k,rfl,rfl,hz⟩:=y7 h1 h2
    refine⟨T,_,rfl,aL.of hT,rfl,_,_,rfl,_,_,rfl,rfl,((Wk.refl _).set (i:=0) rfl).set (i:=1) rfl,qL ⟨_,rfl,_,rfl,_,_,rfl,rfl,c.yes (aD.refl _) ?_⟩⟩
    rw [sC hz,hP]
   ·refine⟨D,(ns.zip (ns.drop 1)).map fun (p:Int × Int)=>decide (p.1 < p.2),rfl,aN.of ?_,q _ (s1.trans sm)⟩
    rw [hDa,hP,<- lz3,bk9,bq4]; rfl
  ·have hb:aL K H a ((ns.map V.int).drop 1):=by
    have:(ns.map V.int).drop 1=ns.map V.int:=by rw [<- vA]; exact e
    rw [this]; exact hS
   refine⟨a,a,_,_,rfl,hS,hb,v9 (F3 hS hb lz2) (fun i acc _=>acc=((ns.zip (ns.drop 1)).take i).map fun (p:Int × Int)=>V.bl (decide (p.1 < p.2))) lz (fun _ _=>rfl) (fun _ _ _ _ _ h=>h) (fun i x acc D H' hi hR c hP=>?_) (fun D acc H' hD sm hDa hlen hP=>?_)⟩
   ·obtain ⟨T,x1,y1,rfl,hT,h1,h2⟩:=hR
    obtain ⟨m,k,rfl,rfl,hz⟩:=y7 h1 h2
    refine⟨T,_,rfl,aL.of hT,rfl,_,_,rfl,_,_,rfl,rfl,((Wk.refl _).set (i:=0) rfl).set (i:=1) rfl,qL ⟨_,rfl,_,rfl,_,_,rfl,rfl,c.yes (aD.refl _) ?_⟩⟩
    rw [sC hz,hP]
   ·refine⟨D,(ns.zip (ns.drop 1)).map fun (p:Int × Int)=>decide (p.1 < p.2),rfl,aN.of ?_,q _ sm⟩
    rw [hDa,hP,<- lz3,bk9,bq4]; rfl
 ·refine⟨_,lC (lF (lM (v7 rfl) rfl B.all PyProof.Rows.boot_all (cV (C6 (N:=["ahead","behind"]) (fr:=[none,none]) rfl (cO.of rfl rfl) (at7 rfl B.zip (cV (pv 0) (cV (uD A1 (pv 0) (uC nI) uB) dM)))
   ⟨fun _ _ _ _=>show PG _ _ (jG K 2 (eO (cF 0) (eO (cF 1) jF))) from lH rfl (fT (eB (i:=0) nd2 rfl (Or.inl rfl) (.inr rfl)) (fT (eB (i:=1) nd2 rfl (Or.inl rfl) (.inr rfl)) lG)),fun _ _ _ _=>qD,fun _ _ _ _=>tY pL (pv 0) (pv 1) (dL _)⟩) dM))),?_⟩
  refine⟨_,rfl,_,rfl,1,rfl,a,_,rfl,hS,fun p hp=>?_⟩
  have s1:=bE hp (.lst (dW (ns.map V.int) (some 1) none))
  have hb:aN K (upd H p (.lst (dW (ns.map V.int) (some 1) none))) p ((ns.map V.int).drop 1):=aN.of (by rw [b8,vA])
  refine⟨a,p,_,_,rfl,s1.seq hS,hb,v9 (at8 (s1.seq hS) hb lz2) (fun i acc _=>acc=((ns.zip (ns.drop 1)).take i).map fun (p:Int × Int)=>V.bl (decide (p.1 < p.2))) lz (fun _ _=>rfl) (fun _ _ _ _ _ h=>h) (fun i x acc D H' hi hR c hP=>?_) (fun D acc H' hD sm hDa hlen hP=>?_)⟩
  ·obtain ⟨T,x1,y1,rfl,hT,h1,h2⟩:=hR
   obtain ⟨m,k,rfl,rfl,hz⟩:=y7 h1 h2
   refine⟨T,_,rfl,aL.of hT,rfl,_,_,rfl,_,_,rfl,rfl,((Wk.refl _).set (i:=0) rfl).set (i:=1) rfl,qL ⟨_,rfl,_,rfl,_,_,rfl,rfl,c.yes (aD.refl _) ?_⟩⟩
   rw [sC hz,hP]
  ·refine⟨D,(ns.zip (ns.drop 1)).map fun (p:Int × Int)=>decide (p.1 < p.2),rfl,aN.of ?_,q _ (s1.trans sm)⟩
   rw [hDa,hP,<- lz3,bk9,bq4]; rfl
abbrev ad9:Stmt:=aX 6
theorem tM:FnScope ["web","around","one","other"] ["web"] (aQ ad9):=.au
theorem aZ4 (F:eC K "near_lists" "near_lists" ad9 f fd):cT P w K mg base cZ 1 f fd ["web"] U8:=by
 refine F.ok tM (fun vs H Q E h=>?_) (fun cdv A outer s H vs Q E hr h=>?_)
 ·obtain ⟨v,ws,ls,rfl,_⟩:=h
  rfl
 obtain ⟨v,ws,ls,rfl,W,hn,hm,hin,q⟩:=h
 refine⟨_,nK (ar0 (i:=1) (N:=["want"]) (fr:=[none]) rfl (cO.of rfl rfl) (yN (nU uG (pv 0) nI (fun _ _=>rfl)))
   ⟨fun _ _ _ _=>eB (i:=0) (bo7 _ _) rfl (Or.inl rfl) (.inr rfl),fun _ _ _ _=>qD,fun _ _ _ _=>zI dM⟩ tM.nd rfl rfl rfl)
  (nK (yS PassesOwn.never rfl (yN (nU uG (pv 0) nI (fun _ _=>rfl))) (lH (n:=2) rfl (fT (eB (i:=2) tM.nd rfl (Or.inl rfl) (.inr rfl)) (fT (eB (i:=3) tM.nd rfl (Or.inl rfl) (.inr rfl)) lG)) )
   (nK (kA (pP bt1 PySem.F.slot_list_append PySem.F.type_list_append pR (nU uF (pv 1) (pv 2) (fun _ _=>rfl)) (cV (pv 3) dM)))
   (lC (kA (pP bt1 PySem.F.slot_list_append PySem.F.type_list_append pR (nU uF (pv 1) (pv 3) (fun _ _=>rfl)) (cV (pv 2) dM))))))
  (lC (lF (pv 1)))),?_⟩
 obtain ⟨a,p,q',ys,rfl,ha,hp,hq,hL⟩:=W.at_
 have lw:(ws.map V.int).length=ws.length:=bg5 _
 refine⟨_,rfl,a,_,_,_,rfl,rfl,aL.of ha,rfl,p,rfl,⟨_,aL.of hp⟩,ar2 (ar1 (aL.of hp)) (fun i acc H'=>∃ bs:List Addr,acc=bs.map V.ref/\bs.length=i/\bs.Nodup/\∀ b ∈ bs,H b=none/\H' b=some (.lst [])) (by rw [lw]; exact bm3 (pX hn))
  (fun D hD=>⟨[],rfl,rfl,List.nodup_nil,fun _ z=>nomatch z⟩) (fun i x acc D H' hx c hPv=>?_) (fun D acc H' hD sm hDa hlen hPv=>?_)⟩
 ·obtain ⟨bs,rfl,hbl,nd,hb⟩:=hPv
  refine⟨wk0 (n:=none),qL ⟨bk5 _,fun r hr'=>?_⟩⟩
  have hrD:r ≠ D:=fun z=>by rw [z,c.acc] at hr'; cases hr'
  have hrH:H r=none:=c.same.free hr'
  refine c.yes (bE hr' _) ⟨bs ++ [r],by simp,by simp [hbl],?_,fun b hm=>?_⟩
  ·refine bt2.mpr ⟨nd,bo7 _ _,fun b hb1 b' hb2 e=>?_⟩
   rw [bh6.mp hb2] at e
   rw [e] at hb1
   rw [(hb r hb1).2] at hr'; cases hr'
  ·rcases bk1.mp hm with hm | hm
   ·have hbD:b ≠ D:=fun z=>by
     rw [z] at hm
     have:=(hb D hm).2
     rw [c.acc] at this
     have:bs.map V.ref = []:=by injection this with e1; injection e1
     have:bs = []:=List.map_eq_nil_iff.mp this
     rw [this] at hm; simp at hm
    refine⟨(hb b hm).1,?_⟩
    rw [aH hbD,aH (cR (hb b hm).2 hr')]
    exact (hb b hm).2
   ·rw [bh6.mp hm]
    exact⟨hrH,by rw [aH hrD,b8]⟩
 ·obtain ⟨bs,rfl,hbl,nd,hb⟩:=hPv
  rw [lw] at hbl
  have R0:iV H H' D bs (fun k=>bW (ls.take 0) k):=by
   refine⟨hD,fun b hm=>⟨(hb b hm).1,fun z=>?_⟩,nd,hDa,fun k b hk=>(hb b (bk6 hk)).2,sm⟩
   rw [z] at hm
   have:=(hb D hm).2
   rw [hDa] at this
   have:bs.map V.ref = []:=by injection this with e1; injection e1
   have:bs = []:=List.map_eq_nil_iff.mp this
   rw [this] at hm; simp at hm
  have lL:=hL.length
  refine⟨_,rfl,a,_,_,_,rfl,rfl,aL.of (sm _ _ ha),rfl,q',rfl,⟨_,aL.of (sm _ _ hq)⟩,aj9 (K:=K) (a:=q') (xs:=ys) (fun i σ H2=>∃ x y:Option V,σ = [some (.ref a),some (.ref D),x,y]/\iV H H2 D bs (fun k=>bW (ls.take i) k))
   ⟨none,none,rfl,R0⟩ (fun i σ H2 _ ⟨_,_,_,R⟩=>aL.of (R.same _ _ hq)) ?_ ?_⟩
  ·rintro i y σ H2 hi ⟨x1,x2,rfl,R⟩
   obtain ⟨l,b,hl,rfl,hbt⟩:=hL.get hi
   have hlm:l ∈ ls:=bk6 hl
   obtain ⟨⟨h1,h2⟩,h3,h4⟩:=hin l hlm
   have k1:l.1.toNat < bs.length:=by omega
   have k2:l.2.toNat < bs.length:=by omega
   have e1:bs[l.1.toNat]? = some (bs[l.1.toNat]):=bf9 k1
   have e2:bs[l.2.toNat]? = some (bs[l.2.toNat]):=bf9 k2
   refine⟨b,_,rfl,aL.of (R.same _ _ hbt),rfl,_,_,rfl,_,_,rfl,rfl,?_⟩
   refine⟨_,rfl,_,rfl,D,_,_,.ref bs[l.1.toNat],rfl,rfl,aN.of R.row,qK h1 (by rw [bh1,e1]; rfl),o8 (aN.of (R.rows _ _ e1)),_,rfl,_,_,_,rfl,rfl,R.rows _ _ e1,?_,?_⟩
   ·rw [bg5]
    have:=o7 (ls.take i) (l.1.toNat:Nat)
    rw [bp0] at this
    exact gT (by omega)
   ·have R1:=R.app e1 l.2
    refine⟨_,rfl,_,rfl,D,_,_,.ref bs[l.2.toNat],rfl,rfl,aN.of R1.row,qK h3 (by rw [bh1,e2]; rfl),o8 (aN.of (R1.rows _ _ e2)),_,rfl,_,_,_,rfl,rfl,R1.rows _ _ e2,?_,?_⟩
    ·rw [bg5]
     have:=o7 (ls.take i) (l.2.toNat:Nat)
     rw [bp0] at this
     split
     ·rw [bh9,bq2]; exact gT (by omega)
     ·exact gT (by omega)
    ·have R2:=R1.app e2 l.1
     refine⟨_,_,rfl,R2.congr fun k hk=>?_⟩
     rw [E8 hl]
     have c1:(k=l.1.toNat) ↔ l.1=(k:Int):=by omega
     have c2:(k=l.2.toNat) ↔ l.2=(k:Int):=by omega
     by_cases d1:k=l.1.toNat
     ·by_cases d2:k=l.2.toNat
      ·rw [if_pos d2,if_pos d1,if_pos (c1.mp d1),if_pos (c2.mp d2)]; simp
      ·rw [if_neg d2,if_pos d1,if_pos (c1.mp d1),if_neg (fun z=>d2 (c2.mpr z))]; simp
     ·by_cases d2:k=l.2.toNat
      ·rw [if_pos d2,if_neg d1,if_neg (fun z=>d1 (c1.mpr z)),if_pos (c2.mp d2)]; simp
      ·rw [if_neg d2,if_neg d1,if_neg (fun z=>d1 (c1.mpr z)),if_neg (fun z=>d2 (c2.mpr z))]; simp
  ·
   rintro σ H2 ⟨x1,x2,rfl,R⟩
   refine⟨_,rfl,q D bs H2 hbl ?_⟩
   rw [lL,bk9] at R
   exact R
theorem aZ5:FnScope ["web"] ["web"] (aQ (aX 5)):=.au
theorem aZ6 (B:Bt mg) (F:FM K mg "hearths_in" 5 f fd)  : Df P w K mg base 1 "hearths_in" ["web"] iI:=
 Df.au F aZ5 (fun cdv A outer s H E hr=>by
  exact⟨(S6),(aM (bB (eJ B (a8 (eI (qv 0) aG) aB)))),aH9⟩)
theorem ae0:FnScope ["hearths","inside","hearth"] ["hearths"] (aQ (aX 10)):=.au
theorem aZ7 (B:Bt mg) (F:FM K mg "marked" 10 f fd)  : Df P w K mg base 1 "marked" ["hearths"] hJ:=
 Df.au F ae0 (fun cdv A outer s H E hr=>by
  have nd:=ae0.nd
  have hu:=kE hr
  exact⟨(T3),(aS (jT (i:=1) nd L4)
   (aS (j9 2 nd (dZ (qv 0))
    (aM (L9 hu (i:=1) (qv 2) fD)))
   (aM (jU 1)))),aI4⟩)
theorem aZ8:FnScope ["hearths","inside"] ["hearths","inside"] (aQ (aX 11)):=.au
theorem aZ9 (B:Bt mg) (F:FM K mg "count_inside" 11 f fd)  : Df P w K mg base 1 "count_inside" ["hearths","inside"] jY:=
 Df.au F aZ8 (fun cdv A outer s H E hr=>by
  have hu:=kE hr
  exact⟨(T4),(aM (bB (eJ B (a8 (gY (N:=["hearth","inside"]) (fr:=[none,some 1]) (dZ (qv 0)) (fun _ _ _ _=>(K9 hu (qv 0) (qv 1))) (fun _ _ _ _=>(qv 0))) aB)))),aI5⟩)
theorem ba0:FnScope ["script","k"] ["script","k"] (aQ (aX 31)):=.au
theorem ba1 (B:Bt mg) (F:FM K mg "_law_cell_at" 31 f fd)  : Df P w K mg base 1 "_law_cell_at" ["script","k"] k6:=
 Df.au F ba0 (fun cdv A outer s H E hr=>by
  exact⟨(U1),(aS (bZ (w5 (qv 1) (eJ B (a8 (qv 0) aB))) (aM (bB (eI (qv 0) (qv 1)))) cI)
   (aM (bB aG))),aI9⟩)
theorem ba2:FnScope ["found"] ["found"] (aQ (aX 32)):=.au
theorem ba3 (B:Bt mg) (F:FM K mg "_law_whole" 32 f fd)  : Df P w K mg base 1 "_law_whole" ["found"] sJ:=
 Df.au F ba2 (fun cdv A outer s H E hr=>by
  exact⟨(U3 K),(aM (bB (mF (aB5 B (qv 0)) (mE (aA6 (M8 B (qv 0))))))),aJ0 (sK K).ii (sK K).ib⟩)
theorem ae1:FnScope ["cell","k","turn"] ["cell","k"] (aQ (aX 33)):=.au
theorem ba4 (B:Bt mg) (F:FM K mg "_law_stir" 33 f fd)  : Df P w K mg base 1 "_law_stir" ["cell","k"] mV:=
 Df.au F ae1 (fun cdv A outer s H E hr=>by
  have nd:=ae1.nd
  exact⟨(Y7),(aS (bF (i:=2) nd (cG (vZ (iF (iF (cG (qv 0) aG) (vZ (qv 1) (qv 1))) aG) aG) aG))
   (aM (bB (dJ (cG (vZ (qv 2) (qv 2)) aG) aG)))),aR8⟩)
theorem ba5:FnScope ["way","wants","degrees"] ["way","wants","degrees"] (aQ (aX 34)):=.au
theorem ba6 (B:Bt mg) (F:FM K mg "_law_wants" 34 f fd)  : mT P w K mg base 1 "_law_wants" ["way","wants","degrees"] mW:=
 mT.of F.F F.m ba5 (fun _ _ _ _ _ _ us hl=>by obtain ⟨_,_,_,rfl⟩:=sR hl; rfl) (fun xs Q h=>by unfold mW at h; repeat (first | (obtain ⟨rfl,_⟩:=h; rfl) | (obtain ⟨_,h⟩:=h))) 1 Y8 aR9 (fun cdv A outer s H E hr=>by
  exact (sS (bZ (fE (qv 0) aG) (aM (bB (rJ (N:=["want"]) (fr:=[none]) (dZ (qv 1)) (fun _ _ _ _=>aG)))) cI)
   (sS (bZ (fE (qv 0) aG) (aM (bB (kO B (a8 (qv 2) aB)))) cI)
   (sS (bZ (fE (qv 0) aG) (aM (bB (rJ (N:=["degree"]) (fr:=[none]) (dZ (qv 2)) (fun _ _ _ _=>(rD B rfl (a8 aG (a8 (rB (qv 0) aG) aB))))))) cI)
   (sS (bZ (fE (qv 0) aG) (aM (bB (rJ (N:=["degree"]) (fr:=[none]) (dZ (qv 2)) (fun _ _ _ _=>(dJ (iF (qv 0) aG) aG))))) cI)
   (aR6 1))))))
theorem ae2:FnScope ["cell","many","wants","links","hearth","one","other"] ["cell","many"] (aQ (aX 35)):=.au
theorem ba7 (B:Bt mg) (F:FM K mg "_law_by_digits" 35 f fd)  : Df P w K mg base 1 "_law_by_digits" ["cell","many"] sT:=
 Df.au F ae2 (fun cdv A outer s H E hr=>by
  have nd:=ae2.nd
  have hu:=kE hr
  exact⟨(Y9),(aS (jT (i:=2) nd (rC aB))
   (aS (jT (i:=3) nd L5)
   (aS (j9 4 nd (j7 rfl B.range (qv 1))
    (aS (L8 2 (cG (qv 0) aG))
    (aM (bF (i:=0) nd (dJ (qv 0) aG)))))
   (aS (j9 5 nd (j7 rfl B.range (qv 1))
    (aM (j9 6 nd (aA9 rfl B.range (iF (qv 5) aG) (qv 1))
     (aS (bZ (fE (cG (qv 0) aG) aG) (aM (M0 hu (i:=3) (jS (a8 (qv 5) (a8 (qv 6) aB))) fD)) cI)
     (aM (bF (i:=0) nd (dJ (qv 0) aG)))))))
   (aM (L6 2 (L6 3 (bB (aA7 (a8 (qv 2) (a8 (qv 3) aB))))))))))),aS0⟩)
theorem ba8:FnScope ["cell"] ["cell"] (aQ (aX 38)):=.au
theorem ba9 (B:Bt mg) (F:FM K mg "_law_many" 38 f fd)  : Df P w K mg base 1 "_law_many" ["cell"] t7:=
 Df.au F ba8 (fun cdv A outer s H E hr=>by
  exact⟨(aa0),(aS (bZ (fE (cG (dJ (qv 0) aG) aG) aG) (aM (bB (cG (dJ (qv 0) aG) aG))) cI)
   (aM (bB (cG (qv 0) aG)))),aT8⟩)
theorem bb0:FnScope ["web","hearth"] ["web","hearth"] (aQ (aX 39)):=.au
theorem bb1 (B:Bt mg) (F:FM K mg "_law_near" 39 f fd)  : Df P w K mg base 1 "_law_near" ["web","hearth"] sU:=
 Df.au F bb0 (fun cdv A outer s H E hr=>by
  exact⟨(Z2),(aM (bB (aN1 (N:=["one","other","hearth"]) (fr:=[none,none,some 1]) (dZ (eI (qv 0) aG)) (fun _ _ _ _=>(rE (qv 2) (jS (a8 (qv 0) (a8 (qv 1) aB))))) (fun _ _ _ _=>(rB (iF (qv 0) (qv 1)) (qv 2)))))),aS3⟩)
theorem ae3:FnScope ["some","many","cell","odd","far","spot"] ["some","many","cell"] (aQ (aX 42)):=.au
theorem bb2 (B:Bt mg) (F:FM K mg "_law_odd_set" 42 f fd)  : Df P w K mg base 1 "_law_odd_set" ["some","many","cell"] sY:=
 Df.au F ae3 (fun cdv A outer s H E hr=>by
  have nd:=ae3.nd
  exact⟨(Z6),(aS (jT (i:=3) nd (kO B (a8 (qv 0) aB)))
   (aS (bF (i:=4) nd (cG (dJ (qv 2) aG) (az6 aG aG)))
   (aS (bF (i:=5) nd (cG (dJ (qv 2) aG) (iF (eJ B (a8 (qv 3) aB)) aG)))
   (aS (bZ (gX (oN (fE (cG (qv 2) aG) aG) (oM (m9 (eJ B (a8 (qv 3) aB)) aG)))) (aM (Z4 3 (qv 5) (eI (qv 3) (cG (dJ (qv 2) aG) (eJ B (a8 (qv 3) aB)))))) (aM (bZ (gX (oN (fE (cG (qv 2) aG) aG) (oM (m9 (eJ B (a8 (qv 3) aB)) aG)))) (aM (aS7 3)) (aM (Z4 3 (qv 5) (eI (rC (a8 (M4 aG) (a8 (qv 1) (a8 (rB (M4 aG) (qv 4)) (a8 (iF (qv 1) (qv 4)) aB))))) (cG (dJ (qv 2) aG) aG)))))))
   (aM (bB (fM B (a8 (qv 3) aB)))))))),aT1⟩)
theorem bb3:FnScope ["web","number"] ["web","number"] (aQ (aX 7)):=.au
theorem bb4 (B:Bt mg) (F:FM K mg "is_hearth" 7 f fd) (d_hearths_in:Df P w K mg base 1 "hearths_in" ["web"] iI):Df P w K mg base 2 "is_hearth" ["web","number"] sE:=
 Df.au F bb3 (fun cdv A outer s H E hr=>by
  exact⟨(S7),(aM (bB (mF (K8 (qv 1) aG) (mE (az8 (qv 1) (b6 d_hearths_in hr (a8 (qv 0) aB))))))),aI0⟩)
theorem bb5:FnScope ["hearths","inside"] ["hearths","inside"] (aQ (aX 12)):=.au
theorem bb6 (B:Bt mg) (F:FM K mg "count_outside" 12 f fd) (d_count_inside:Df P w K mg base 1 "count_inside" ["hearths","inside"] jY):Df P w K mg base 2 "count_outside" ["hearths","inside"] sN:=
 Df.au F bb5 (fun cdv A outer s H E hr=>by
  exact⟨(V6),(aM (bB (rB (eJ B (a8 (qv 0) aB)) (b6 d_count_inside hr (a8 (qv 0) (a8 (qv 1) aB)))))),aN5⟩)
theorem ae4:FnScope ["hearths","some","gone"] ["hearths","some"] (aQ (aX 13)):=.au
theorem bb7 (B:Bt mg) (F:FM K mg "without" 13 f fd) (d_marked:Df P w K mg base 1 "marked" ["hearths"] hJ):Df P w K mg base 2 "without" ["hearths","some"] mR:=
 Df.au F ae4 (fun cdv A outer s H E hr=>by
  have nd:=ae4.nd
  have hu:=kE hr
  exact⟨(V7),(aS (bF (i:=2) nd (b6 d_marked hr (a8 (qv 1) aB)))
   (aM (bB (fM B (a8 (gY (N:=["hearth","gone"]) (fr:=[none,some 2]) (dZ (qv 0)) (fun _ _ _ _=>(aA4 hu (qv 0) (qv 1))) (fun _ _ _ _=>(qv 0))) aB))))),aN6⟩)
theorem bb8:FnScope ["web","around","burning","hearth"] ["web","around","burning","hearth"] (aQ (aX 18)):=.au
theorem bb9 (B:Bt mg) (F:FM K mg "can_kindle" 18 f fd) (d_count_inside:Df P w K mg base 1 "count_inside" ["hearths","inside"] jY):Df P w K mg base 2 "can_kindle" ["web","around","burning","hearth"] sH:=
 Df.au F bb8 (fun cdv A outer s H E hr=>by
  have hu:=kE hr
  exact⟨(T6),(aM (bB (mF (aA5 hu (qv 3) (qv 2)) (mE (K8 (b6 d_count_inside hr (a8 (eI (qv 1) (qv 3)) (a8 (qv 2) aB))) (eI (eI (qv 0) aG) (qv 3))))))),aI6⟩)
theorem ae5:FnScope ["flow","many","way","wants","links","cell","turn","one","other","degrees"] ["flow","many","way"] (aQ (aX 36)):=.au
theorem bc0 (B:Bt mg) (F:FM K mg "_law_web" 36 f fd) (d__law_by_digits:Df P w K mg base 1 "_law_by_digits" ["cell","many"] sT) (d__law_stir:Df P w K mg base 1 "_law_stir" ["cell","k"] mV) (d__law_wants:mT P w K mg base 1 "_law_wants" ["way","wants","degrees"] mW):Df P w K mg base 2 "_law_web" ["flow","many","way"] t5:=
 Df.au F ae5 (fun cdv A outer s H E hr=>by
  have nd:=ae5.nd
  have hu:=kE hr
  exact⟨(Z7),(aS (aB9 (i:=3) nd (N:=["k"]) (fr:=[none]) (j7 rfl B.range (qv 1)) (fun _ _ _ _=>(iF aG (cG (qv 0) aG))))
   (aS (jT (i:=4) nd L5)
   (aS (bZ (gX (oN (m9 (eJ B (a8 (qv 0) aB)) aG) (oM (fE (cG (eI (qv 0) aG) aG) aG)))) (aS (aR3 3 4 nd (b6 d__law_by_digits hr (a8 (dJ (eI (qv 0) aG) aG) (a8 (qv 1) aB))))
    (aM (bF (i:=0) nd (N5 (qv 0) (N4 aG) N3)))) cI)
   (aS (j9 5 nd (dZ (qv 0))
    (aM (bZ (m9 (qv 1) aG) (aS (bF (i:=6) nd (b6 d__law_stir hr (a8 (qv 5) (a8 aG aB))))
     (aS (bF (i:=7) nd (cG (qv 6) (qv 1)))
     (aS (bF (i:=8) nd (cG (dJ (qv 6) aG) (qv 1)))
     (aM (bZ (fE (cG (dJ (qv 6) aG) aG) aG) (aM (aC1 (i:=3) (qv 7) (cG (dJ (qv 6) aG) aG))) (aM (bZ (gX (oN (mB (qv 7) (qv 8)) (oM (K9 hu (jS (a8 (wA B rfl (a8 (qv 7) (a8 (qv 8) aB))) (a8 (rD B rfl (a8 (qv 7) (a8 (qv 8) aB))) aB))) (qv 4))))) (aM (aR5 4 hu (jS (a8 (wA B rfl (a8 (qv 7) (a8 (qv 8) aB))) (a8 (rD B rfl (a8 (qv 7) (a8 (qv 8) aB))) aB))))) (aM (bZ (mB (qv 7) (qv 8)) (aM (M0 hu (i:=4) (jS (a8 (wA B rfl (a8 (qv 7) (a8 (qv 8) aB))) (a8 (rD B rfl (a8 (qv 7) (a8 (qv 8) aB))) aB))) fD)) cI))))))))) cI)))
   (aS (aT3 (i:=9) nd (N:=["hearth","links"]) (fr:=[none,some 4]) (j7 rfl B.range (qv 1)) (fun _ _ _ _=>(eJ B (a8 (aR1 (N:=["pair","hearth"]) (fr:=[none,some 0]) (qv 1) (fun _ _ _ _=>(rE (qv 1) (qv 0))) (fun _ _ _ _=>(qv 0))) aB))))
   (aM (bB (jS (a8 (fM B (a8 (aR7 d__law_wants hr (a8 (qv 2) (a8 (qv 3) (a8 (qv 9) aB)))) aB)) (a8 (fM B (a8 (aT5 B (a8 (aJ8 B rfl (a8 (qv 4) aB)) aB)) aB)) aB)))))))))),aT6⟩)
theorem bc1:FnScope ["cell","many"] ["cell","many"] (aQ (aX 37)):=.au
theorem bc2 (B:Bt mg) (F:FM K mg "_law_some" 37 f fd) (d__law_stir:Df P w K mg base 1 "_law_stir" ["cell","k"] mV):Df P w K mg base 2 "_law_some" ["cell","many"] mX:=
 Df.au F bc1 (fun cdv A outer s H E hr=>by
  exact⟨(Z0),(aS (bZ (fE (cG (qv 0) aG) aG) (aM (bB (fM B (a8 (gY (N:=["k","cell"]) (fr:=[none,some 0]) (j7 rfl B.range (qv 1)) (fun _ _ _ _=>(fE (cG (az7 (qv 1) (iF (qv 0) aG)) aG) aG)) (fun _ _ _ _=>(qv 0))) aB)))) cI)
   (aM (bB (fM B (a8 (gY (N:=["k","cell"]) (fr:=[none,some 0]) (j7 rfl B.range (qv 1)) (fun _ _ _ _=>(w5 (cG (b6 d__law_stir hr (a8 (qv 1) (a8 (qv 0) aB))) aG) (iF aG (cG (dJ (qv 1) aG) aG)))) (fun _ _ _ _=>(qv 0))) aB))))),aS1⟩)
theorem ae6:FnScope ["web","block","hearth"] ["web","block"] (aQ (aX 40)):=.au
theorem bc3 (B:Bt mg) (F:FM K mg "_law_is_cold" 40 f fd) (d__law_near:Df P w K mg base 1 "_law_near" ["web","hearth"] sU):Df P w K mg base 2 "_law_is_cold" ["web","block"] sV:=
 Df.au F ae6 (fun cdv A outer s H E hr=>by
  have nd:=ae6.nd
  exact⟨(Z3),(aS (j9 2 nd (dZ (qv 1))
    (aM (bZ (aA1 (eJ B (a8 (gY (N:=["other","block"]) (fr:=[none,some 1]) (dZ (b6 d__law_near hr (a8 (qv 0) (a8 (qv 2) aB)))) (fun _ _ _ _=>(wC (qv 0) (qv 1))) (fun _ _ _ _=>(qv 0))) aB)) (eI (eI (qv 0) aG) (qv 2))) (aM (bB fD)) cI)))
   (aM (bB fD))),aS5⟩)
theorem ae7:FnScope ["found","due","number"] ["found","due"] (aQ (aX 41)):=.au
theorem bc4 (B:Bt mg) (F:FM K mg "_law_set" 41 f fd) (d__law_whole:Df P w K mg base 1 "_law_whole" ["found"] sJ):Df P w K mg base 2 "_law_set" ["found","due"] sX:=
 Df.au F ae7 (fun cdv A outer s H E hr=>by
  have nd:=ae7.nd
  have hu3:=pF hr
  exact⟨(Z5 K),(aS (bZ (gX (mD (j6 (j5 (aB6 B (qv 0)))) (mC (mB (eJ B (a8 (qv 0) aB)) (eJ B (a8 (qv 1) aB)))))) (aM (bB fD)) cI)
   (aS (j9 2 nd (dZ (qv 0))
    (aM (bZ (j6 (j5 (b6 d__law_whole hr (a8 (qv 2) aB)))) (aM (bB fD)) cI)))
   (aM (bB (N2 hu3 (kO B (a8 (qv 0) aB)) (kO B (a8 (qv 1) aB))))))),aS9 (sK K).tt⟩)
theorem bc5:FnScope ["web","numbers"] ["web","numbers"] (aQ (aX 8)):=.au
theorem bc6 (B:Bt mg) (F:FM K mg "is_set" 8 f fd) (d_rises:Df P w K mg base 1 "rises" ["things"] wY) (d_is_hearth:Df P w K mg base 2 "is_hearth" ["web","number"] sE):Df P w K mg base 3 "is_set" ["web","numbers"] sF:=
 Df.au F bc5 (fun cdv A outer s H E hr=>by
  exact⟨(S8),(aM (bB (mF (b6 d_rises hr (a8 (qv 1) aB)) (mE (aB1 B rfl (a8 (rJ (N:=["number","web"]) (fr:=[none,some 0]) (dZ (qv 1)) (fun _ _ _ _=>(b6 d_is_hearth hr (a8 (qv 1) (a8 (qv 0) aB))))) aB)))))),aI1⟩)
theorem bc7:FnScope ["web","some"] ["web","some"] (aQ (aX 14)):=.au
theorem bc8 (B:Bt mg) (F:FM K mg "all_but" 14 f fd) (d_without:Df P w K mg base 2 "without" ["hearths","some"] mR) (d_hearths_in:Df P w K mg base 1 "hearths_in" ["web"] iI):Df P w K mg base 3 "all_but" ["web","some"] tF:=
 Df.au F bc7 (fun cdv A outer s H E hr=>by
  exact⟨(aa5),(aM (bB (b6 d_without hr (a8 (aJ6 B (b6 d_hearths_in hr (a8 (qv 0) aB))) (a8 (qv 1) aB))))),aU3⟩)
theorem bc9:FnScope ["web","around","burning"] ["web","around","burning"] (aQ (aX 17)):=.au
theorem bd0 (B:Bt mg) (F:FM K mg "kindling" 17 f fd) (d_can_kindle:Df P w K mg base 2 "can_kindle" ["web","around","burning","hearth"] sH) (d_hearths_in:Df P w K mg base 1 "hearths_in" ["web"] iI):Df P w K mg base 3 "kindling" ["web","around","burning"] oY:=
 Df.au F bc9 (fun cdv A outer s H E hr=>by
  exact⟨(T7),(aM (bB (fM B (a8 (gY (N:=["hearth","web","around","burning"]) (fr:=[none,some 0,some 1,some 2]) (j7 rfl B.range (b6 d_hearths_in hr (a8 (qv 0) aB))) (fun _ _ _ _=>(j5 (b6 d_can_kindle hr (a8 (qv 1) (a8 (qv 2) (a8 (qv 3) (a8 (qv 0) aB))))))) (fun _ _ _ _=>(qv 0))) aB)))),aI7⟩)
theorem ae8:FnScope ["web","around","block","inside"] ["web","around","block"] (aQ (aX 25)):=.au
theorem bd1 (B:Bt mg) (F:FM K mg "staying" 25 f fd) (d_marked:Df P w K mg base 1 "marked" ["hearths"] hJ) (d_count_outside:Df P w K mg base 2 "count_outside" ["hearths","inside"] sN):Df P w K mg base 3 "staying" ["web","around","block"] l0:=
 Df.au F ae8 (fun cdv A outer s H E hr=>by
  have nd:=ae8.nd
  exact⟨(V8),(aS (bF (i:=3) nd (b6 d_marked hr (a8 (qv 2) aB)))
   (aM (bB (fM B (a8 (gY (N:=["hearth","inside","around","web"]) (fr:=[none,some 3,some 1,some 0]) (dZ (qv 2)) (fun _ _ _ _=>(w5 (b6 d_count_outside hr (a8 (eI (qv 2) (qv 0)) (a8 (qv 1) aB))) (eI (eI (qv 3) aG) (qv 0)))) (fun _ _ _ _=>(qv 0))) aB))))),aN7⟩)
theorem bd2:FnScope ["web","seeds","block"] ["web","seeds","block"] (aQ (aX 44)):=.au
theorem bd3 (B:Bt mg) (F:FM K mg "_law_due" 44 f fd) (d__law_is_cold:Df P w K mg base 2 "_law_is_cold" ["web","block"] sV):Df P w K mg base 3 "_law_due" ["web","seeds","block"] pE:=
 Df.au F bd2 (fun cdv A outer s H E hr=>by
  have hu3:=pF hr
  exact⟨(ad2),(aS (bZ (gX (mD (aB7 hu3 (qv 2) (jS aB)) (mC (m9 (eJ B (a8 (gY (N:=["hearth","seeds"]) (fr:=[none,some 1]) (dZ (qv 2)) (fun _ _ _ _=>(rE (qv 0) (qv 1))) (fun _ _ _ _=>(qv 0))) aB)) aG)))) (aM (bB fD)) cI)
   (aM (bB (b6 d__law_is_cold hr (a8 (qv 0) (a8 (qv 2) aB)))))),aY9⟩)
theorem bd4:FnScope ["web","hearths"] ["web","hearths"] (aQ (aX 9)):=.au
theorem bd5 (B:Bt mg) (F:FM K mg "made_set" 9 f fd) (d_is_set:Df P w K mg base 3 "is_set" ["web","numbers"] sF) (x_BadSet:Xc K mg base "BadSet"):bA P w K mg base 4 "made_set" ["web","hearths"] fQ:=
 bA.au F bd4 Y2 aQ6 (fun cdv A outer s H E Ep hr hX=>by
  exact (aS (bZ (j6 (j5 (b6 d_is_set hr (a8 (qv 0) (a8 (qv 1) aB))))) (aM (aP4 hX x_BadSet (a8 az5 aB))) cI)
   (aM (bB (fM B (a8 (qv 1) aB))))))
theorem ae9:FnScope ["web","seeds","told","burning","around","lit"] ["web","seeds"] (aQ (aX 16)):=.au
theorem bd6 (B:Bt mg) (F:FM K mg "rounds" 16 f fd) (d_marked:Df P w K mg base 1 "marked" ["hearths"] hJ) (d_near_lists:Df P w K mg base 1 "near_lists" ["web"] kY) (d_kindling:Df P w K mg base 3 "kindling" ["web","around","burning"] oY) (d_made_set:bA P w K mg base 4 "made_set" ["web","hearths"] fQ):bA P w K mg base 5 "rounds" ["web","seeds"] t8:=
 bA.au F ae9 aa1 aT9 (fun cdv A outer s H E Ep hr hX=>by
  have nd:=ae9.nd
  exact (aS (jT (i:=2) nd (rC (a8 (fP hX d_made_set hr (a8 (qv 0) (a8 (qv 1) aB))) aB)))
   (aS (jT (i:=3) nd (b6 d_marked hr (a8 (eI (qv 2) aG) aB)))
   (aS (bF (i:=4) nd (b6 d_near_lists hr (a8 (qv 0) aB)))
   (aS (bF (i:=5) nd (b6 d_kindling hr (a8 (qv 0) (a8 (qv 4) (a8 (qv 3) aB)))))
   (aS (L7 hX.own (w6 (qv 5))
    (aS (L8 2 (qv 5))
    (aS (aC0 3 (b6 d_marked hr (a8 (qv 5) aB)))
    (aM (bF (i:=5) nd (b6 d_kindling hr (a8 (qv 0) (a8 (qv 4) (a8 (qv 3) aB)))))))))
   (aM (jU 2))))))))
theorem af0:FnScope ["web","block","chosen"] ["web","block"] (aQ (aX 23)):=.au
theorem bd7 (B:Bt mg) (F:FM K mg "is_cold" 23 f fd) (d_made_set:bA P w K mg base 4 "made_set" ["web","hearths"] fQ) (d_staying:Df P w K mg base 3 "staying" ["web","around","block"] l0) (d_near_lists:Df P w K mg base 1 "near_lists" ["web"] kY):bA P w K mg base 5 "is_cold" ["web","block"] t6:=
 bA.au F af0 Z9 aT7 (fun cdv A outer s H E Ep hr hX=>by
  have nd:=af0.nd
  have hu3:=pF hr
  exact (aS (bF (i:=2) nd (fP hX d_made_set hr (a8 (qv 0) (a8 (qv 1) aB))))
   (aM (bB (N2 hu3 (b6 d_staying hr (a8 (qv 0) (a8 (b6 d_near_lists hr (a8 (qv 0) aB)) (a8 (qv 2) aB)))) (qv 2))))))
theorem af1:FnScope ["web","some","around","left","kept"] ["web","some"] (aQ (aX 24)):=.au
theorem bd8 (B:Bt mg) (F:FM K mg "cold_within" 24 f fd) (d_near_lists:Df P w K mg base 1 "near_lists" ["web"] kY) (d_made_set:bA P w K mg base 4 "made_set" ["web","hearths"] fQ) (d_staying:Df P w K mg base 3 "staying" ["web","around","block"] l0):bA P w K mg base 5 "cold_within" ["web","some"] l9:=
 bA.au F af1 Z1 aS2 (fun cdv A outer s H E Ep hr hX=>by
  have nd:=af1.nd
  have hu3:=pF hr
  exact (aS (bF (i:=2) nd (b6 d_near_lists hr (a8 (qv 0) aB)))
   (aS (bF (i:=3) nd (fP hX d_made_set hr (a8 (qv 0) (a8 (qv 1) aB))))
   (aS (bF (i:=4) nd (b6 d_staying hr (a8 (qv 0) (a8 (qv 2) (a8 (qv 3) aB)))))
   (aS (L7 hX.own (N1 hu3 (qv 4) (qv 3))
    (aS (bF (i:=3) nd (qv 4))
    (aM (bF (i:=4) nd (b6 d_staying hr (a8 (qv 0) (a8 (qv 2) (a8 (qv 3) aB))))))))
   (aM (jU 3)))))))
theorem af2:FnScope ["web","seeds","ranks","rank","lit","hearth"] ["web","seeds"] (aQ (aX 19)):=.au
theorem bd9 (B:Bt mg) (F:FM K mg "ranks_of" 19 f fd) (d_rounds:bA P w K mg base 5 "rounds" ["web","seeds"] t8):bA P w K mg base 6 "ranks_of" ["web","seeds"] t9:=
 bA.au F af2 aa2 aU0 (fun cdv A outer s H E Ep hr hX=>by
  have nd:=af2.nd
  have hu:=kE hr
  exact (aS (jT (i:=2) nd L4)
   (aS (aB8 3 4 (hp:=hX.own) nd (aM9 rfl B.enum (fP hX d_rounds hr (a8 (qv 0) (a8 (qv 1) aB))))
    (aM (j9 5 (hp:=hX.own) nd (dZ (qv 4))
     (aM (L9 hu (i:=2) (qv 5) (qv 3))))))
   (aM (jU 2)))))
theorem af3:FnScope ["web","some","whole","left","hearth","smaller"] ["web","some"] (aQ (aX 27)):=.au
theorem be0 (B:Bt mg) (F:FM K mg "least_within" 27 f fd) (d_cold_within:bA P w K mg base 5 "cold_within" ["web","some"] l9) (d_without:Df P w K mg base 2 "without" ["hearths","some"] mR):bA P w K mg base 6 "least_within" ["web","some"] nB:=
 bA.au F af3 aa9 aU6 (fun cdv A outer s H E Ep hr hX=>by
  have nd:=af3.nd
  exact (aS (bF (i:=2) nd (fP hX d_cold_within hr (a8 (qv 0) (a8 (qv 1) aB))))
   (aS (bF (i:=3) nd (qv 2))
   (aS (j9 4 (hp:=hX.own) nd (dZ (qv 2))
    (aM (bZ (rE (qv 4) (qv 3)) (aS (bF (i:=5) nd (fP hX d_cold_within hr (a8 (qv 0) (a8 (b6 d_without hr (a8 (qv 3) (a8 (rC (a8 (qv 4) aB)) aB))) aB))))
     (aM (bZ (w6 (qv 5)) (aM (bF (i:=3) nd (qv 5))) cI))) cI)))
   (aM (jU 3))))))
theorem af4:FnScope ["web","seeds","block","lit","chosen"] ["web","seeds","block"] (aQ (aX 29)):=.au
theorem be1 (B:Bt mg) (F:FM K mg "judged_cold" 29 f fd) (d_marked:Df P w K mg base 1 "marked" ["hearths"] hJ) (d_made_set:bA P w K mg base 4 "made_set" ["web","hearths"] fQ) (d_is_cold:bA P w K mg base 5 "is_cold" ["web","block"] t6) (d_count_inside:Df P w K mg base 1 "count_inside" ["hearths","inside"] jY):bA P w K mg base 6 "judged_cold" ["web","seeds","block"] nF:=
 bA.au F af4 ad1 aY8 (fun cdv A outer s H E Ep hr hX=>by
  have nd:=af4.nd
  exact (aS (bF (i:=3) nd (b6 d_marked hr (a8 (fP hX d_made_set hr (a8 (qv 0) (a8 (qv 1) aB))) aB)))
   (aS (bF (i:=4) nd (fP hX d_made_set hr (a8 (qv 0) (a8 (qv 2) aB))))
   (aM (bB (mF (az9 (eJ B (a8 (qv 4) aB)) aG) (mF (w4 (b6 d_count_inside hr (a8 (qv 4) (a8 (qv 3) aB))) aG) (mE (fP hX d_is_cold hr (a8 (qv 0) (a8 (qv 4) aB)))))))))))
theorem af5:FnScope ["web","seeds","many","cell","some","other"] ["web","seeds","many","cell"] (aQ (aX 45)):=.au
theorem be2 (B:Bt mg) (F:FM K mg "_law_block" 45 f fd) (d__law_some:Df P w K mg base 2 "_law_some" ["cell","many"] mX) (d_cold_within:bA P w K mg base 5 "cold_within" ["web","some"] l9):Df P w K mg base 6 "_law_block" ["web","seeds","many","cell"] tL:=
 Df.au F af5 (fun cdv A outer s H E hr=>by
  have nd:=af5.nd
  exact⟨(ad4),(aS (bF (i:=4) nd (b6 d__law_some hr (a8 (dJ (qv 3) aG) (a8 (qv 2) aB))))
   (aS (bZ (fE (cG (qv 3) aG) aG) (aS (bF (i:=4) nd (mS d_cold_within hr (a8 (qv 0) (a8 (fM B (a8 (gY (N:=["hearth","seeds"]) (fr:=[none,some 1]) (dZ (qv 4)) (fun _ _ _ _=>(wC (qv 0) (qv 1))) (fun _ _ _ _=>(qv 0))) aB)) aB))))
    (aM (bZ (gX (oN (fE (cG (dJ (qv 3) aG) aG) aG) (oM (m9 (qv 2) aG)))) (aS (bF (i:=5) nd (cG (dJ (qv 3) aG) (qv 2)))
     (aM (bF (i:=4) nd (fM B (a8 (gY (N:=["hearth","some","other"]) (fr:=[none,some 4,some 5]) (j7 rfl B.range (qv 2)) (fun _ _ _ _=>(mB (aB2 (qv 0) (qv 1)) (w4 (qv 0) (qv 2)))) (fun _ _ _ _=>(qv 0))) aB))))) cI))) cI)
   (aM (jU 4)))),aZ1⟩)
theorem be3:FnScope ["web","seeds"] ["web","seeds"] (aQ (aX 20)):=.au
theorem be4 (B:Bt mg) (F:FM K mg "burnt" 20 f fd) (d_ranks_of:bA P w K mg base 6 "ranks_of" ["web","seeds"] t9):bA P w K mg base 7 "burnt" ["web","seeds"] tD:=
 bA.au F be3 aa3 aU1 (fun cdv A outer s H E Ep hr hX=>by
  exact (aM (bB (fM B (a8 (aO9 B rfl (a8 (fP hX d_ranks_of hr (a8 (qv 0) (a8 (qv 1) aB))) aB)) aB)))))
theorem af6:FnScope ["web","seeds","found"] ["web","seeds"] (aQ (aX 28)):=.au
theorem be5 (B:Bt mg) (F:FM K mg "cold_paper" 28 f fd) (d_least_within:bA P w K mg base 6 "least_within" ["web","some"] nB) (d_all_but:Df P w K mg base 3 "all_but" ["web","some"] tF) (d_made_set:bA P w K mg base 4 "made_set" ["web","hearths"] fQ):bA P w K mg base 7 "cold_paper" ["web","seeds"] lA:=
 bA.au F af6 ad0 aY7 (fun cdv A outer s H E Ep hr hX=>by
  have nd:=af6.nd
  exact (aS (bF (i:=2) nd (fP hX d_least_within hr (a8 (qv 0) (a8 (b6 d_all_but hr (a8 (qv 0) (a8 (fP hX d_made_set hr (a8 (qv 0) (a8 (qv 1) aB))) aB))) aB))))
   (aS (bZ (j6 (w6 (qv 2))) (aM (bB oK)) cI)
   (aM (jU 2)))))
theorem be6:FnScope ["web","seeds"] ["web","seeds"] (aQ (aX 21)):=.au
theorem be7 (B:Bt mg) (F:FM K mg "lights_all" 21 f fd) (d_hearths_in:Df P w K mg base 1 "hearths_in" ["web"] iI) (d_burnt:bA P w K mg base 7 "burnt" ["web","seeds"] tD):bA P w K mg base 8 "lights_all" ["web","seeds"] tE:=
 bA.au F be6 aa4 aU2 (fun cdv A outer s H E Ep hr hX=>by
  exact (aM (bB (w4 (eJ B (a8 (fP hX d_burnt hr (a8 (qv 0) (a8 (qv 1) aB))) aB)) (b6 d_hearths_in hr (a8 (qv 0) aB))))))
theorem af7:FnScope ["web","seeds","block","caught","e"] ["web","seeds","block"] (aQ (aX 43)):=.au
theorem be8 (B:Bt mg) (F:FM K mg "_law_refused" 43 f fd) (d_cold_paper:bA P w K mg base 7 "cold_paper" ["web","seeds"] lA) (d_judged_cold:bA P w K mg base 6 "judged_cold" ["web","seeds","block"] nF) (cat_HearthError:xK K mg "HearthError") (is_BadSet:xM K mg "BadSet"):Df P w K mg base 8 "_law_refused" ["web","seeds","block"] nG:=
 Df.au F af7 (fun cdv A outer s H E hr=>by
  have nd:=af7.nd
  exact⟨(ad3),(aS (bF (i:=3) nd fD)
   (aS (aP7 4 cat_HearthError nd (aP5 (fun _=>(aA2 (qv 2) oK)) (X8 d_cold_paper hr (fun _=>(a8 (qv 0) (a8 (qv 1) aB)))) (X8 d_judged_cold hr (fun _=>(a8 (qv 0) (a8 (qv 1) (a8 (qv 2) aB)))))) (fun _=>(aM (bF (i:=3) nd (aQ2 B is_BadSet (qv 4))))))
   (aM (jU 3)))),aZ0⟩)
theorem af8:FnScope ["script","many","cell","web","seeds","block","paper","rest","found","odd"] ["script"] (aQ (aX 46)):=.au
theorem be9 (B:Bt mg) (F:eC K "law" "law" (aX 46) f fd) (d__law_many:Df P w K mg base 1 "_law_many" ["cell"] t7) (d__law_cell_at:Df P w K mg base 1 "_law_cell_at" ["script","k"] k6) (d__law_web:Df P w K mg base 2 "_law_web" ["flow","many","way"] t5) (d__law_some:Df P w K mg base 2 "_law_some" ["cell","many"] mX) (d__law_block:Df P w K mg base 6 "_law_block" ["web","seeds","many","cell"] tL) (d_cold_paper:bA P w K mg base 7 "cold_paper" ["web","seeds"] lA) (d_judged_cold:bA P w K mg base 6 "judged_cold" ["web","seeds","block"] nF) (d__law_odd_set:Df P w K mg base 1 "_law_odd_set" ["some","many","cell"] sY) (d__law_refused:Df P w K mg base 8 "_law_refused" ["web","seeds","block"] nG) (d_lights_all:bA P w K mg base 8 "lights_all" ["web","seeds"] tE) (d_least_within:bA P w K mg base 6 "least_within" ["web","some"] nB) (d__law_due:Df P w K mg base 3 "_law_due" ["web","seeds","block"] pE) (d__law_set:Df P w K mg base 2 "_law_set" ["found","due"] sX) (bs:mg "set" = none):cT P w K mg base cZ 9 f fd ["script"] (oD K y6):=
 aL2 F af8 (fun xs Q h=>by unfold y6 at h; repeat (first | (obtain ⟨rfl,_⟩:=h; rfl) | (obtain ⟨_,h⟩:=h))) (fun cdv A outer s H E hr=>by
  have nd:=af8.nd
  have hu3:=pF hr
  exact⟨(ad7 K),(aS (bF (i:=1) nd (b6 d__law_many hr (a8 (b6 d__law_cell_at hr (a8 (qv 0) (a8 aG aB))) aB)))
   (aS (bF (i:=2) nd (b6 d__law_cell_at hr (a8 (qv 0) (a8 aG aB))))
   (aS (bF (i:=3) nd (b6 d__law_web hr (a8 (N5 (qv 0) (N4 aG) N3) (a8 (qv 1) (a8 (cG (b6 d__law_cell_at hr (a8 (qv 0) (a8 aG aB))) aG) aB)))))
   (aS (bF (i:=4) nd (b6 d__law_some hr (a8 (dJ (b6 d__law_cell_at hr (a8 (qv 0) (a8 aG aB))) aG) (a8 (qv 1) aB))))
   (aS (bF (i:=5) nd (b6 d__law_block hr (a8 (qv 3) (a8 (qv 4) (a8 (qv 1) (a8 (qv 2) aB))))))
   (aS (bF (i:=6) nd (mS d_cold_paper hr (a8 (qv 3) (a8 (qv 4) aB))))
   (aS (bZ (mB (aA0 (qv 6) oK) (mS d_lights_all hr (a8 (qv 3) (a8 (qv 4) aB)))) (aM (bB fD)) cI)
   (aS (bZ (aA3 (qv 6) oK) (aM (bZ (gX (mD (j6 (j5 (b6 d__law_set hr (a8 (qv 6) (a8 (aX8 B bs rfl (a8 (qv 6) aB)) aB))))) (mC (j6 (j5 (b6 d__law_due hr (a8 (qv 3) (a8 (qv 4) (a8 (qv 6) aB))))))))) (aM (bB fD)) cI)) cI)
   (aS (bF (i:=7) nd (fM B (a8 (gY (N:=["hearth","seeds"]) (fr:=[none,some 4]) (j7 rfl B.range (qv 1)) (fun _ _ _ _=>(wC (qv 0) (qv 1))) (fun _ _ _ _=>(qv 0))) aB)))
   (aS (bZ (gX (mD (N1 hu3 (mS d_least_within hr (a8 (qv 3) (a8 (qv 7) aB))) (aY3 (qv 6) (mE (jS aB)))) (mC (aY5 hu3 (mS d_cold_paper hr (a8 (qv 3) (a8 (kO B (a8 (qv 4) aB)) aB))) (qv 6))))) (aM (bB fD)) cI)
   (aS (bF (i:=8) nd (mS d_judged_cold hr (a8 (qv 3) (a8 (kO B (a8 (qv 4) aB)) (a8 (kO B (a8 (qv 5) aB)) aB)))))
   (aS (bZ (gX (mD (j6 (j5 (M8 B (qv 8)))) (mC (mB (qv 8) (b6 d__law_due hr (a8 (qv 3) (a8 (qv 4) (a8 (qv 5) aB)))))))) (aM (bB fD)) cI)
   (aS (bF (i:=9) nd (b6 d__law_odd_set hr (a8 (qv 5) (a8 (qv 1) (a8 (b6 d__law_cell_at hr (a8 (qv 0) (a8 aG aB))) aB)))))
   (aS (bZ (gX (mD (j6 (j5 (b6 d__law_refused hr (a8 (qv 3) (a8 (qv 9) (a8 oK aB)))))) (mC (j6 (j5 (b6 d__law_refused hr (a8 (qv 3) (a8 (qv 9) (a8 (qv 5) aB))))))))) (aM (bB fD)) cI)
   (aM (bB (b6 d__law_refused hr (a8 (qv 3) (a8 (qv 4) (a8 (qv 9) aB)))))))))))))))))))),aZ2 (sK K).bb⟩)
end
set_option autoImplicit true in
theorem bf0 {l:OpenLaw}{w:World}{K:Frag}{h:Heap}{mg:Str->Option Value} (X:K.In h) (G:h.Ns mainGlobals mg) (hfa:mg "law" = some (.ref fa))
  (h0:FK K "rises" 4 f0 d0)
  (h1:FK K "hearths_in" 5 f1 d1)
  (h2:FK K "near_lists" 6 f2 d2)
  (h3:FK K "marked" 10 f3 d3)
  (h4:FK K "count_inside" 11 f4 d4)
  (h5:FK K "_law_cell_at" 31 f5 d5)
  (h6:FK K "_law_whole" 32 f6 d6)
  (h7:FK K "_law_stir" 33 f7 d7)
  (h8:FK K "_law_wants" 34 f8 d8)
  (h9:FK K "_law_by_digits" 35 f9 d9)
  (h10:FK K "_law_many" 38 f10 d10)
  (h11:FK K "_law_near" 39 f11 d11)
  (h12:FK K "_law_odd_set" 42 f12 d12)
  (h13:FK K "is_hearth" 7 f13 d13)
  (h14:FK K "count_outside" 12 f14 d14)
  (h15:FK K "without" 13 f15 d15)
  (h16:FK K "can_kindle" 18 f16 d16)
  (h17:FK K "_law_web" 36 f17 d17)
  (h18:FK K "_law_some" 37 f18 d18)
  (h19:FK K "_law_is_cold" 40 f19 d19)
  (h20:FK K "_law_set" 41 f20 d20)
  (h21:FK K "is_set" 8 f21 d21)
  (h22:FK K "all_but" 14 f22 d22)
  (h23:FK K "kindling" 17 f23 d23)
  (h24:FK K "staying" 25 f24 d24)
  (h25:FK K "_law_due" 44 f25 d25)
  (h26:FK K "made_set" 9 f26 d26)
  (h27:FK K "rounds" 16 f27 d27)
  (h28:FK K "is_cold" 23 f28 d28)
  (h29:FK K "cold_within" 24 f29 d29)
  (h30:FK K "ranks_of" 19 f30 d30)
  (h31:FK K "least_within" 27 f31 d31)
  (h32:FK K "judged_cold" 29 f32 d32)
  (h33:FK K "_law_block" 45 f33 d33)
  (h34:FK K "burnt" 20 f34 d34)
  (h35:FK K "cold_paper" 28 f35 d35)
  (h36:FK K "lights_all" 21 f36 d36)
  (h37:FK K "_law_refused" 43 f37 d37)
  (a38:nsIn K mainGlobals "law" = some (some (.ref f38))) (l38:K.lookup f38=some ⟨oc38,od38,.func (fnOf "law" "law" (iA (aX 46)) (dN (aX 46)) (aQ (aX 46)) .none kV38 dc38 pm38 an38 cd38 ct38),sl38⟩) (c38:codeIn K cd38 "law" = true) (k38:keepIn K (.ref f38)=true)
  (z_len:nsIn K mainGlobals "len" = some none)
  (z_range:nsIn K mainGlobals "range" = some none)
  (z_tuple:nsIn K mainGlobals "tuple" = some none)
  (z_list:nsIn K mainGlobals "list" = some none)
  (z_sorted:nsIn K mainGlobals "sorted" = some none)
  (z_all:nsIn K mainGlobals "all" = some none)
  (z_any:nsIn K mainGlobals "any" = some none)
  (z_zip:nsIn K mainGlobals "zip" = some none)
  (z_min:nsIn K mainGlobals "min" = some none)
  (z_max:nsIn K mainGlobals "max" = some none)
  (z_sum:nsIn K mainGlobals "sum" = some none)
  (z_isinstance:nsIn K mainGlobals "isinstance" = some none)
  (z_int:nsIn K mainGlobals "int" = some none)
  (z_bool:nsIn K mainGlobals "bool" = some none)
  (z_enumerate:nsIn K mainGlobals "enumerate" = some none)
  (z_set:nsIn K mainGlobals "set" = some none)
  {C_HearthError C_BadSet:Addr}
  (aX_HE:nsIn K mainGlobals "HearthError" = some (some (.ref C_HearthError)))
  (aX_BS:nsIn K mainGlobals "BadSet" = some (some (.ref C_BadSet)))
  (zX_BW:nsIn K mainGlobals "BadWeb" = some none)
  (zX_BO:nsIn K mainGlobals "BadOrder" = some none)
  (zX_BP:nsIn K mainGlobals "BadPrices" = some none)
  (zX_BB:nsIn K mainGlobals "BadBoard" = some none)
  (zX_BD:nsIn K mainGlobals "BadDeed" = some none)
  (zX_NW:nsIn K mainGlobals "NotWood" = some none)
  (zX_NP:nsIn K mainGlobals "NoPaper" = some none)
  (zX_NS:nsIn K mainGlobals "NoSuch" = some none)
  (zX_TM:nsIn K mainGlobals "TooMany" = some none)
  (zX_NT:nsIn K mainGlobals "NoText" = some none)
  (zX_OR:nsIn K mainGlobals "OddRound" = some none)
  (y_fg:specialIn K (.builtin "object.__class__") "__get__" = some (some (.builtin "getset_descriptor.__get__")))
  (y_ft:takesIn K (.builtin "object.__class__")=some true)
  (z_VE:nsIn K mainGlobals "ValueError" = some none)
  (y1_HE:isClsIn K C_HearthError=true)
  (y2_HE:typeIn K (.ref C_HearthError)=some (.type "type"))
  (y3_HE:findIn K (.ref C_HearthError) "__getattribute__" = some (some (.builtin "BaseException.__getattribute__")))
  (y4_HE:findIn K (.ref C_HearthError) "__getattr__" = some none)
  (y5_HE:findIn K (.ref C_HearthError) "__class__" = some (some (.builtin "object.__class__")))
  (y6_HE:mroIn K C_HearthError (.type "object")=some true)
  (y7_HE:mroIn K C_HearthError (.type "BaseException")=some true)
  (y1_BS:isClsIn K C_BadSet=true)
  (y2_BS:typeIn K (.ref C_BadSet)=some (.type "type"))
  (y3_BS:findIn K (.ref C_BadSet) "__getattribute__" = some (some (.builtin "BaseException.__getattribute__")))
  (y4_BS:findIn K (.ref C_BadSet) "__getattr__" = some none)
  (y5_BS:findIn K (.ref C_BadSet) "__class__" = some (some (.builtin "object.__class__")))
  (y6_BS:mroIn K C_BadSet (.type "object")=some true)
  (y7_BS:mroIn K C_BadSet (.type "BaseException")=some true)
  (sB_HE:subIn K (.ref C_HearthError) (.type "BaseException")=some true)
  (s_BS_HE:subIn K (.ref C_BadSet) (.ref C_HearthError)=some true)
  (sN_BS:subIn K (.type "NoneType") (.ref C_BadSet)=some false)
  (q_BS:excIn K C_BadSet [.type "ValueError",.type "Exception",.type "BaseException",.type "object"] "ValueError.__new__" = true)
  : ∃ fd:FuncData,(∀ (s:Shared) (v:Value),BindsTo s fd ⟨[v],[]⟩ [("script",v)])/\∀ base:Heap,K.In base->base.Ns mainGlobals mg->cT l.prog w K mg base cZ 9 fa fd ["script"] (sL K):=by
 have e:=hfa.symm.trans (mg_of X G a38)
 cases e
 have F38:=aq3 (st:=aX 46) l38 c38 k38
 have m38:=mg_of X G a38
 have B:Bt mg:=⟨mg_none_of X G z_len,mg_none_of X G z_range,mg_none_of X G z_tuple,mg_none_of X G z_list,mg_none_of X G z_sorted,mg_none_of X G z_all,mg_none_of X G z_any,mg_none_of X G z_zip,mg_none_of X G z_min,mg_none_of X G z_max,mg_none_of X G z_sum,mg_none_of X G z_isinstance,mg_none_of X G z_int,mg_none_of X G z_bool,mg_none_of X G z_enumerate⟩
 have bs:=mg_none_of X G z_set
 refine⟨fnOf "law" "law" (iA (aX 46)) (dN (aX 46)) (aQ (aX 46)) .none kV38 dc38 pm38 an38 cd38 ct38,fun s v=>.of_eq rfl,fun base KB _=>?_⟩
 have XK_HearthError:pB K C_HearthError:=⟨y1_HE,y2_HE,y3_HE,y4_HE,y5_HE,y_fg,y_ft,y6_HE,y7_HE⟩
 have XK_BadSet:pB K C_BadSet:=⟨y1_BS,y2_BS,y3_BS,y4_BS,y5_BS,y_fg,y_ft,y6_BS,y7_BS⟩
 have cat_HearthError:xK K mg "HearthError":=⟨C_HearthError,mg_of X G aX_HE,⟨y1_HE,y2_HE,sB_HE⟩,fun n C h2 h1=>by
  obtain ⟨hm,hb⟩:=Y1 h2
  simp only [sP,bg4,bh3,bk7] at hm
  rcases hm with rfl | rfl | rfl | rfl | rfl | rfl | rfl | rfl | rfl | rfl | rfl | rfl
  ·rw [zX_BW] at h1; cases h1
  ·rw [aX_BS] at h1; cases h1; exact s_BS_HE
  ·rw [zX_BO] at h1; cases h1
  ·rw [zX_BP] at h1; cases h1
  ·rw [zX_BB] at h1; cases h1
  ·rw [zX_BD] at h1; cases h1
  ·rw [zX_NW] at h1; cases h1
  ·rw [zX_NP] at h1; cases h1
  ·rw [zX_NS] at h1; cases h1
  ·rw [zX_TM] at h1; cases h1
  ·rw [zX_NT] at h1; cases h1
  ·rw [zX_OR] at h1; cases h1⟩
 have is_BadSet:xM K mg "BadSet":=⟨C_BadSet,mg_of X G aX_BS,fun z=>(by cases z),(fun n C b h1 h2=>by
  obtain ⟨hm,hb⟩:=Y1 h2
  simp only [sP,bg4,bh3,bk7] at hm
  rcases hm with rfl | rfl | rfl | rfl | rfl | rfl | rfl | rfl | rfl | rfl | rfl | rfl
  ·rw [zX_BW] at h1; cases h1
  ·rw [aX_BS] at h1; cases h1; rw [hb,show (("BadSet" : Str) == "BadSet" || ("BadSet" : Str) == "HearthError" || ("BadSet" : Str) == "ValueError")=true by decide]; exact⟨XK_BadSet.exc,aQ4⟩
  ·rw [zX_BO] at h1; cases h1
  ·rw [zX_BP] at h1; cases h1
  ·rw [zX_BB] at h1; cases h1
  ·rw [zX_BD] at h1; cases h1
  ·rw [zX_NW] at h1; cases h1
  ·rw [zX_NP] at h1; cases h1
  ·rw [zX_NS] at h1; cases h1
  ·rw [zX_TM] at h1; cases h1
  ·rw [zX_NT] at h1; cases h1
  ·rw [zX_OR] at h1; cases h1),aQ5 XK_BadSet sN_BS⟩
 have x_BadSet:Xc K mg base "BadSet":=⟨C_BadSet,_,_,_,_,aQ3 KB (mg_of X G aX_BS) q_BS,PySem.F.excBase_ValueError,aX_BS⟩
 have D0:=aK0 (aZ3 (P:=l.prog) (w:=w) (base:=base) B h0.F) (h0.F.binds (ps:=["things"]) fun _ _ _ _ _ _ us hl=>by obtain ⟨_,rfl⟩:=pC hl; rfl) h0.F.kp (mg_of X G h0.a)
 have D1:=aZ6 (P:=l.prog) (w:=w) (base:=base) B (h1.M X G)
 have D2:=aK2 (aZ4 (P:=l.prog) (w:=w) (mg:=mg) (base:=base) h2.F) (h2.F.binds (ps:=["web"]) fun _ _ _ _ _ _ us hl=>by obtain ⟨_,rfl⟩:=pC hl; rfl) h2.F.kp (mg_of X G h2.a)
 have D3:=aZ7 (P:=l.prog) (w:=w) (base:=base) B (h3.M X G)
 have D4:=aZ9 (P:=l.prog) (w:=w) (base:=base) B (h4.M X G)
 have D5:=ba1 (P:=l.prog) (w:=w) (base:=base) B (h5.M X G)
 have D6:=ba3 (P:=l.prog) (w:=w) (base:=base) B (h6.M X G)
 have D7:=ba4 (P:=l.prog) (w:=w) (base:=base) B (h7.M X G)
 have D8:=ba6 (P:=l.prog) (w:=w) (base:=base) B (h8.M X G)
 have D9:=ba7 (P:=l.prog) (w:=w) (base:=base) B (h9.M X G)
 have D10:=ba9 (P:=l.prog) (w:=w) (base:=base) B (h10.M X G)
 have D11:=bb1 (P:=l.prog) (w:=w) (base:=base) B (h11.M X G)
 have D12:=bb2 (P:=l.prog) (w:=w) (base:=base) B (h12.M X G)
 have D13:=bb4 (P:=l.prog) (w:=w) (base:=base) B (h13.M X G) D1
 have D14:=bb6 (P:=l.prog) (w:=w) (base:=base) B (h14.M X G) D4
 have D15:=bb7 (P:=l.prog) (w:=w) (base:=base) B (h15.M X G) D3
 have D16:=bb9 (P:=l.prog) (w:=w) (base:=base) B (h16.M X G) D4
 have D17:=bc0 (P:=l.prog) (w:=w) (base:=base) B (h17.M X G) D9 D7 D8
 have D18:=bc2 (P:=l.prog) (w:=w) (base:=base) B (h18.M X G) D7
 have D19:=bc3 (P:=l.prog) (w:=w) (base:=base) B (h19.M X G) D11
 have D20:=bc4 (P:=l.prog) (w:=w) (base:=base) B (h20.M X G) D6
 have D21:=bc6 (P:=l.prog) (w:=w) (base:=base) B (h21.M X G) D0 D13
 have D22:=bc8 (P:=l.prog) (w:=w) (base:=base) B (h22.M X G) D15 D1
 have D23:=bd0 (P:=l.prog) (w:=w) (base:=base) B (h23.M X G) D16 D1
 have D24:=bd1 (P:=l.prog) (w:=w) (base:=base) B (h24.M X G) D3 D14
 have D25:=bd3 (P:=l.prog) (w:=w) (base:=base) B (h25.M X G) D19
 have D26:=bd5 (P:=l.prog) (w:=w) (base:=base) B (h26.M X G) D21 x_BadSet
 have D27:=bd6 (P:=l.prog) (w:=w) (base:=base) B (h27.M X G) D3 D2 D23 D26
 have D28:=bd7 (P:=l.prog) (w:=w) (base:=base) B (h28.M X G) D26 D24 D2
 have D29:=bd8 (P:=l.prog) (w:=w) (base:=base) B (h29.M X G) D2 D26 D24
 have D30:=bd9 (P:=l.prog) (w:=w) (base:=base) B (h30.M X G) D27
 have D31:=be0 (P:=l.prog) (w:=w) (base:=base) B (h31.M X G) D29 D15
 have D32:=be1 (P:=l.prog) (w:=w) (base:=base) B (h32.M X G) D3 D26 D28 D4
 have D33:=be2 (P:=l.prog) (w:=w) (base:=base) B (h33.M X G) D18 D29
 have D34:=be4 (P:=l.prog) (w:=w) (base:=base) B (h34.M X G) D30
 have D35:=be5 (P:=l.prog) (w:=w) (base:=base) B (h35.M X G) D31 D22 D26
 have D36:=be7 (P:=l.prog) (w:=w) (base:=base) B (h36.M X G) D1 D34
 have D37:=be8 (P:=l.prog) (w:=w) (base:=base) B (h37.M X G) D35 D32 cat_HearthError is_BadSet
 exact aL3 (be9 B F38 D10 D5 D17 D18 D33 D35 D32 D12 D37 D36 D31 D25 D20 bs)
theorem bf1 {l:OpenLaw}{q:Program}{loose:List Str}{XP:(Str->Option Value)->Heap->Prop}{YP:World->Heap->Prop}{d:DefRec}{K:Params->Frag} (hn:l.most=some 63) (hdf:d.params.defaults = [])
  (hY:∀ (w:World) (h:Heap),YP w h->(K w.params).In h)
  (F:∀ (w:World) (mg:Str->Option Value) (fa:Addr) (h:Heap),(K w.params).In h->h.Ns mainGlobals mg->mg d.name=some (.ref fa)->
   ∃ fd:FuncData,(∀ (s:Shared) (u:Value),BindsTo s fd ⟨[u],[]⟩ [("script",u)])/\∀ base:Heap,(K w.params).In base->base.Ns mainGlobals mg->cT l.prog w (K w.params) mg base cZ 9 fa fd ["script"] (sL (K w.params))) :
  WalkO q loose XP YP l.row.toRowW d [] (fun f vs=>PySem.call f vs):=
 L2.aq2 (n:=63) (k:=9) (x:="script") (CX:=fun _=>cZ) (sp:=fun w=>sL (K w.params)) hn (by decide) hdf ⟨rfl,by decide,by decide⟩ hY F (fun _ _ a ns hl hO hS=>⟨a,ns,rfl,aL4 hO hS,hl,fun _=>rfl⟩) fun _ _ _ _ _ z=>z
end K_k28
open PySem PySem.W PyProof.Rows
theorem PySem.W.Fast.te13052408679150730464 : True := trivial
theorem PySem.W.Fast.te16555476440528808052 : True := trivial
theorem PySem.W.Fast.te5369427470323729400 : True := trivial
set_option maxRecDepth 100000 in
set_option maxHeartbeats 0 in
theorem PySem.Challenge.cw_kindleweb_k28_cold_papers_holds : PySem.Challenge.rw_kindleweb_k28_cold_papers.Holds := by
 w_on; o_law; k_head; (case hw => w_witness2)
 k_fill
 refine K_k28.bf1 (l := PySem.Challenge.rw_kindleweb_k28_cold_papers) rfl rfl (fun w h Y => PySem.W.kIn_of Y) ?F
 case F =>
  intro w mg fa h KX G hmg
  refine' K_k28.bf0 KX G hmg ?h0 ?h1 ?h2 ?h3 ?h4 ?h5 ?h6 ?h7 ?h8 ?h9 ?h10 ?h11 ?h12 ?h13 ?h14 ?h15 ?h16 ?h17 ?h18 ?h19 ?h20 ?h21 ?h22 ?h23 ?h24 ?h25 ?h26 ?h27 ?h28 ?h29 ?h30 ?h31 ?h32 ?h33 ?h34 ?h35 ?h36 ?h37 ?a38 ?l38 ?c38 ?k38 ?z_len ?z_range ?z_tuple ?z_list ?z_sorted ?z_all ?z_any ?z_zip ?z_min ?z_max ?z_sum ?z_isinstance ?z_int ?z_bool ?z_enumerate ?z_set ?aX_HE ?aX_BS ?zX_BW ?zX_BO ?zX_BP ?zX_BB ?zX_BD ?zX_NW ?zX_NP ?zX_NS ?zX_TM ?zX_NT ?zX_OR ?y_fg ?y_ft ?z_VE ?y1_HE ?y2_HE ?y3_HE ?y4_HE ?y5_HE ?y6_HE ?y7_HE ?y1_BS ?y2_BS ?y3_BS ?y4_BS ?y5_BS ?y6_BS ?y7_BS ?sB_HE ?s_BS_HE ?sN_BS ?q_BS
  (case h0 | h1 | h2 | h3 | h4 | h5 | h6 | h7 | h8 | h9 | h10 | h11 | h12 | h13 | h14 | h15 | h16 | h17 | h18 | h19 | h20 | h21 | h22 | h23 | h24 | h25 | h26 | h27 | h28 | h29 | h30 | h31 | h32 | h33 | h34 | h35 | h36 | h37 => exact ⟨by k_is, ⟨⟨_, _, _, _, _, _, _, _, _, rfl, by k_is, by k_is⟩, by k_is⟩⟩)
  (case a38|l38|c38|k38|z_len|z_range|z_tuple|z_list|z_sorted|z_all|z_any|z_zip|z_min|z_max|z_sum|z_isinstance|z_int|z_bool|z_enumerate|z_set|aX_HE|aX_BS|zX_BW|zX_BO|zX_BP|zX_BB|zX_BD|zX_NW|zX_NP|zX_NS|zX_TM|zX_NT|zX_OR|y_fg|y_ft|z_VE|y1_HE|y2_HE|y3_HE|y4_HE|y5_HE|y6_HE|y7_HE|y1_BS|y2_BS|y3_BS|y4_BS|y5_BS|y6_BS|y7_BS|sB_HE|s_BS_HE|sN_BS => k_is)
  (case q_BS => k_exc)


