import PyProof.Rows.All
import Wide.All
import OpenK.AllK
import Wide.FinOn
import Lean
import PyProof.EqAt
import PyProof.EqKinds
import PyProof.TupleCall
import PyProof.NeKinds
import PyProof.Draws
import PyProof.ZipIter
import PyProof.DictUpdate
import PyProof.AutoSeq1
import PyProof.ListRange
import PyProof.ListMulRoad
import PyProof.FactsAll.tuple_2
import PyProof.Rows.SortShell
import PyProof.EnumFor
import PyProof.EnumMake
import PyProof.EnumStmt
import PyProof.Rows.SortWalk
import KE.KDictList
import PyProof.SumAny
import PyProof.ConsumeWalk
import PyProof.WalksMore
import PyProof.Rows.TupAssign
import PyProof.ExcArgsOwn
import PySem.Challenge.RW_kindleweb_k59_what_burns_on_boards
set_option Elab.async false
set_option linter.all false
set_option maxRecDepth 100000
set_option maxHeartbeats 4000000
section
open PySem PySem.Spec PyProof.Rows
def bh0:=@wpAny_bind
def bh1:=@Heap.get?_push_of_some
def bh2:=@decide_eq_false
def bh3:=@List.size_toArray
def bh4:=@List.getElem?_eq_getElem
def bh5:=@decide_eq_true
def bh6:=@wpAny_pure
def bh7:=@Nat.le_refl
def bh8:=@List.length_map
def bh9:=@List.mem_cons
def bi0:=@List.length_append
def bi1:=@List.mem_singleton
def bi2:=@wpS_bind
def bi3:=@List.getElem?_eq_some_iff
def bi4:=@Heap.lt_size
def bi5:=@List.not_mem_nil
def bi6:=@List.mem_cons_self
def bi7:=@List.mem_cons_of_mem
def bi8:=@Nat.lt_of_lt_of_le
def bi9:=@List.map_append
def bj0:=@wpS_pure
def bj1:=@Heap.get?_push_size
def bj2:=@List.append_assoc
def bj4:=@List.getD_eq_getElem?_getD
def bj5:=@List.getElem?_map
def bj6:=@Bool.false_ne_true
def bj8:=@decide_eq_true_eq
def bk0:=@List.append_nil
def bk2:=@List.getElem?_set_ne
def bk3:=@List.mem_filter
def bk4:=@List.mem_append
def bk5:=@Option.some.inj
def bk6:=@Nat.ne_of_lt
def bk7:=@Bool.false_eq_true
def bk9:=@List.mem_map
def bl0:=@List.mem_append_right
def bl3:=@List.length_singleton
def bl4:=@List.take_append_drop
def bl5:=@List.take_add_one
def bl6:=@List.mem_append_left
def bl7:=@List.pairwise_singleton
def bl8:=@List.take_of_length_le
def bm0:=@Array.length_toList
def bm1:=@List.take_length
def bm2:=@or_false
def bm3:=@List.pairwise_append
def bm4:=@Nat.le_trans
def bm5:=@List.length_cons
def bm6:=@List.length_set
def bm7:=@List.getElem?_set_self
def bm9:=@Bool.and_eq_true
def bn1:=@Array.getElem_mem
def bn2:=@Nat.lt_or_ge
def bn3:=@List.pairwise_iff_getElem
def bn4:=@PySem.mem_of_lookup
def bn5:=@Nat.zero_le
def bn6:=@List.mem_of_getElem?
def bn8:=@wpAny_call_entry
def bo0:=@wpAny_field
def bo1:=@wpAny_callSpecial?_slot
def bo2:=@Nat.lt_irrefl
def bo3:=@wpAny_mono
def bo5:=@PySem.W.kia_one
def bo6:=@List.length_take
def bo7:=@List.lookup_cons
def bo8:=@List.nodup_append
def bo9:=@wpAny_setField_rec
def bp2:=@Array.toList_append
def bp3:=@Bool.eq_iff_iff
def bp5:=@Bool.and_false
def bp6:=@beq_self_eq_true
def bp7:=@wpAny_holding
def bp8:=@wpAny_newObj_type
def bp9:=@Nat.le_of_lt
def bq0:=@Nat.ne_of_gt
def bq1:=@wpS_forRange
def bq2:=@Int.emod_nonneg
def bq3:=@List.map_cons
def bq4:=@List.all_eq_true
def bq5:=@List.replicate_succ
def bq6:=@Array.getElem?_toList
def bq7:=@List.length_filter_le
def bq8:=@if_false
def bq9:=@decide_eq_false_iff_not
def br3:=@Int.emod_lt_of_pos
def br5:=@List.length_drop
def br6:=@Int.mul_le_mul_of_nonneg_right
def br8:=@List.getElem_of_mem
def br9:=@wpAny_truthy_bool
def bs0:=@List.flatten_cons
def bs1:=@List.pairwise_map
def bs2:=@List.length_replicate
def bs3:=@Heap.size_push
def bs4:=@List.find?_cons
def bs5:=@List.zip_cons_cons
def bs7:=@List.getElem_mem
def bs8:=@PyProof.Rows.slot_tuple_getitem
def bs9:=@List.getElem?_append_left
def bt0:=@List.drop_eq_getElem_cons
def bt1:=@wpAny_pyIter_tuple
def bt3:=@List.pairwise_cons
def bt4:=@Nat.le_add_right
def bu0:=@Bool.false_and
def bu2:=@List.getElem?_cons_succ
def bu3:=@of_decide_eq_true
def bu5:=@wpAny_rule
def bu6:=@beq_eq_false_iff_ne
def bu7:=@Heap.SameBut.update
def bu8:=@PyProof.Rows.callWith_type1
def bv0:=@List.map_map
def bv1:=@Nat.le_of_not_lt
def bv4:=@List.getElem?_append_right
def bv6:=@wpAny_seqItems
def bv7:=@Nat.eq_or_lt_of_le
def bv8:=@of_decide_eq_false
def bw0:=@List.perm_append_comm
def bw1:=@wpAny_execs_nil
def bw2:=@wpAny_passesOwn
def bw3:=@List.nodup_cons
def bw5:=@List.length_range
def bw6:=@Int.le_refl
def bw7:=@wpS_mono
def bx0:=@List.all_cons
def bx2:=@List.drop_take
def bx3:=@List.Perm.refl
def bx5:=@True.intro
end
namespace L2
open PySem PySem.Spec PyProof.Rows
abbrev aC:=Sum Int Str
def lJ:aC->Value->Bool
 | .inl k,v=>Value.isInt k v
 | .inr x,v=>Value.isStrOf x v
def ah6 (w:World):aC->Int
 | .inl k=>hashInt k
 | .inr x=>hashStr w x
theorem iE:∀ {k:aC}{v:Value},lJ k v=true->(∃ i t,k=Sum.inl i/\v=Value.int i t) ∨ (∃ x t,k=Sum.inr x/\v=Value.str x t)
 | .inl i,v,h=>by
  obtain ⟨t,e⟩:=Value.isInt_shape (k:=i) (v:=v) h
  exact .inl ⟨i,t,rfl,e⟩
 | .inr x,v,h=>by
  obtain ⟨t,e⟩:=Value.isStrOf_shape (x:=x) (v:=v) h
  exact .inr ⟨x,t,rfl,e⟩
theorem ah7 (i:Int) (t:Tok):lJ (.inl i) (.int i t)=true:=by simp [lJ,Value.isInt]
theorem ah8 (x:Str) (t:Tok):lJ (.inr x) (.str x t)=true:=by simp [lJ,Value.isStrOf]
theorem ah9 (a b:Int):decide ((Sum.inl a:aC)=Sum.inl b)=(a == b):=by
 by_cases e:a=b
 ·subst e; simp
 ·have h : ¬ (Sum.inl a:aC)=Sum.inl b:=fun q=>e (Sum.inl.inj q)
  rw [bh2 h]
  exact (bu6.mpr e).symm
theorem ai0 (a b:Str):decide ((Sum.inr a:aC)=Sum.inr b)=decide (a=b):=by
 by_cases e:a=b
 ·subst e; simp
 ·have h : ¬ (Sum.inr a:aC)=Sum.inr b:=fun q=>e (Sum.inr.inj q)
  rw [bh2 h,bh2 e]
theorem ai1 (a:Int) (b:Str):decide ((Sum.inl a:aC)=Sum.inr b)=false:=bh2 (fun q=>nomatch q)
theorem ai2 (a:Str) (b:Int):decide ((Sum.inr a:aC)=Sum.inl b)=false:=bh2 (fun q=>nomatch q)
def eI (prog:Program) (w:World):PySem.KeyKind prog w aC where
 is:=lJ
 hash:=ah6 w
 inj:=fun v a b ha hb=>by
  rcases iE ha with ⟨i,t,rfl,rfl⟩ | ⟨x,t,rfl,rfl⟩
  ·rcases iE hb with ⟨j,u,rfl,e⟩ | ⟨y,u,rfl,e⟩
   ·injection e with e1 _; rw [e1]
   ·exact nomatch e
  ·rcases iE hb with ⟨j,u,rfl,e⟩ | ⟨y,u,rfl,e⟩
   ·exact nomatch e
   ·injection e with e1 _; rw [e1]
 byValue:=fun k v h=>by
  rcases iE h with ⟨i,t,rfl,rfl⟩ | ⟨x,t,rfl,rfl⟩ <;> rfl
 pyHash:=fun hv h=>by
  rcases iE hv with ⟨i,t,rfl,rfl⟩ | ⟨x,t,rfl,rfl⟩
  ·exact wpAny_pyHash_int h
  ·exact wpAny_pyHash_str h
 eqBool:=fun hu hv h=>by
  rcases iE hu with ⟨i,t,rfl,rfl⟩ | ⟨x,t,rfl,rfl⟩
  ·rcases iE hv with ⟨j,u,rfl,rfl⟩ | ⟨y,u,rfl,rfl⟩
   ·rw [ah9] at h; exact wpAny_eqBool_int h
   ·rw [ai1] at h; exact SeqAt.EqAt.int_str i t y u _ _ _ _ h
  ·rcases iE hv with ⟨j,u,rfl,rfl⟩ | ⟨y,u,rfl,rfl⟩
   ·rw [ai2] at h; exact SeqAt.EqAt.str_int x t j u _ _ _ _ h
   ·rw [ai0] at h; exact wpAny_eqBool_str h
 «strs»:=fun k x t v h=>by
  rcases iE h with ⟨i,u,rfl,e⟩ | ⟨y,u,rfl,e⟩
  ·exact nomatch e
  ·injection e with e1 _
   subst e1
   cases v <;> rfl
theorem ai3 (prog:Program) (w:World) (i:Int) (t:Tok):(eI prog w).is (.inl i) (.int i t)=true:=ah7 i t
theorem ai4 (prog:Program) (w:World) (x:Str) (t:Tok):(eI prog w).is (.inr x) (.str x t)=true:=ah8 x t
inductive V where
 | non | bl (b:Bool) | int (i:Int) | str (x:Str) | byt (b:Array UInt8) | flt (b:UInt64) | ref (a:Addr) | ty (n:String)
 deriving DecidableEq
def aS:V->Value->Prop
 | .non,u=>u=Value.none
 | .bl b,u=>u=Value.bool b
 | .int i,u=>∃ t,u=Value.int i t
 | .str x,u=>∃ t,u=Value.str x t
 | .byt b,u=>∃ t,u=Value.bytes b t
 | .flt b,u=>∃ t,u=Value.float b t
 | .ref a,u=>u=Value.ref a
 | .ty n,u=>u=Value.type n
abbrev aL:List V->List Value->Prop:=Paired aS
theorem aL.length {xs:List V}{us:List Value} (r:aL xs us):xs.length=us.length:=Paired.length r
theorem aL.get:∀ {xs:List V}{us:List Value}{i:Nat}{x:V},aL xs us->xs[i]? = some x->∃ u,us[i]? = some u/\aS x u
 | _,_,_,_,.nil,e=>by simp at e
 | _,_,0,_,.cons r _,e=>by simp at e; subst e; exact⟨_,rfl,r⟩
 | _,_,i+1,x,.cons _ t,e=>by
  obtain ⟨u,h1,h2⟩:=aL.get (i:=i) (x:=x) t (by simpa using e)
  exact⟨u,by simpa using h1,h2⟩
theorem aL.set {x:V}{u:Value} (r:aS x u):∀ {xs:List V}{us:List Value} (i:Nat),aL xs us->aL (xs.set i x) (us.set i u)
 | _,_,_,.nil=>.nil
 | _,_,0,.cons _ t=>.cons r t
 | _,_,i+1,.cons q t=>.cons q (aL.set r i t)
theorem aL.append:∀ {xs ys:List V}{us ws:List Value},aL xs us->aL ys ws->aL (xs ++ ys) (us ++ ws)
 | _,_,_,_,.nil,s=>s
 | _,_,_,_,.cons r t,s=>.cons r (aL.append t s)
theorem aL.take:∀ {xs:List V}{us:List Value} (n:Nat),aL xs us->aL (xs.take n) (us.take n)
 | _,_,0,_=>.nil
 | _,_,_+1,.nil=>.nil
 | _,_,n+1,.cons r t=>.cons r (aL.take n t)
theorem aL.drop:∀ {xs:List V}{us:List Value} (n:Nat),aL xs us->aL (xs.drop n) (us.drop n)
 | _,_,0,r=>r
 | _,_,_+1,.nil=>.nil
 | _,_,n+1,.cons _ t=>aL.drop n t
def fQ:Option V->Option Value->Prop
 | some v,some u=>aS v u
 | none,none=>True
 | _,_=>False
def KV {κ:Type}:List (κ × V)->List (κ × Value)->Prop:=Paired fun (p:κ × V) (q:κ × Value)=>p.1=q.1/\aS p.2 q.2
def kV:aC->V
 | .inl i=>.int i
 | .inr x=>.str x
inductive HO where
 | lst (xs:List V)
 | tup (xs:List V)
 | dK (kvs:List (aC × V)) | dT (kvs:List (List aC × V))
 | set (S:Int->Bool) (n:Nat)
 | ins (C dx:Addr) (fs:List (Str × V))
 | own (x:Addr)
 | xd (fs:List (Str × V))
 | met (f x:Addr)
 | rng (lo hi:Int)
 | frz (o:Obj) (u:HO)
 | tbl (ps:Array Value)
 | ext (φ:Heap->Prop)
abbrev Hp:=Addr->Option HO
def upd (H:Hp) (a:Addr) (o:HO):Hp:=fun b=>if b=a then some o else H b
theorem bO {H:Hp}{a:Addr}{o:HO}:upd H a o a=some o:=by unfold upd; rw [if_pos rfl]
theorem aW {H:Hp}{a b:Addr}{o:HO} (h:b ≠ a):upd H a o b=H b:=by unfold upd; rw [if_neg h]
theorem ai5 {H:Hp}{a b:Addr}{o u:HO} (h:H a=some o) (h':H b=some u) (d:o ≠ u):a ≠ b:=by
 intro e; subst e; rw [h] at h'; exact d (bk5 h')
theorem cY {H:Hp}{a b:Addr}{o:HO} (h:H a=some o) (h':H b=none):a ≠ b:=by
 intro e; subst e; rw [h] at h'; cases h'
def j8 (h:Heap) (a:Addr):Prop:=∀ o,h.get? a=some o->o.dict=none
theorem j8.new (h:Heap) (o:Obj) (d:o.dict=none) (s:o.isFreed=false:=by rfl):j8 (h.push o) h.objs.size:=fun u e=>by
 rw [bj1 h (o:=o) s] at e
 cases e; exact d
theorem j8.stay {h h':Heap}{a:Addr}{o:Obj} (n:j8 h a) (e:h.get? a=some o) (e':h'.get? a=some o):j8 h' a:=fun u hu=>by
 rw [e'] at hu; cases hu; exact n _ e
section
variable (P : Program) (w : World)
def c7 (H:Hp) (h:Heap) (a:Addr):HO->Prop
 | .lst xs=>xs.length<=sizeLine/\∃ (its:List Value) (n:Nat),aL xs its/\h.get? a=some { cls:=.type "list",data:=.seq its.toArray n }
 | .tup xs=>xs.length<=sizeLine/\∃ its:List Value,aL xs its/\IsTup h a its.toArray/\j8 h a
 | .dK kvs=>kvs.length<=sizeLine/\(a == sysModules)=false/\∃ vs,KV kvs vs/\h.DictOf (eI P w) a vs
 | .dT kvs=>kvs.length<=sizeLine/\(a == sysModules)=false/\∃ xs:List (List aC × Addr × Value),
   Paired (fun (p:List aC × V) (q:List aC × Addr × Value)=>p.1=q.1/\H q.2.1=some (.tup (p.1.map kV))/\aS p.2 q.2.2) kvs xs/\
   ∃ o es ep,h.get? a=some o/\o.ExactDict/\o.data = .dict es ep/\es.toList=xs.map (entryOfKey (tupleKind (eI P w)))/\(xs.map (·.1)).Nodup
 | .set S n=>h.SetOf (intKind P w) a S n
 | .ins C dx fs=>H dx=some (.own a)/\fs.length<=1000/\dx ≠ a/\h.get? a=some (PySem.W.instObj C dx)/\
   ∃ mA,h.Ns1 dx mA/\(∀ f,fQ (fs.lookup f) (mA f))/\PySem.Within mA (fs.map (·.1))
 | .own _=>∃ o,h.get? a=some o
 | .xd fs=>∃ mA,h.Ns1 a mA/\∀ f,fQ (fs.lookup f) (mA f)
 | .rng lo hi=>∃ t u v,h.get? a=some { cls:=.type "range",data:=.fields #[.int lo t,.int hi u,.int 1 v] }
 | .frz o u=>h.get? a=some o/\c7 H h a u
 | .tbl ps=>h.get? a=some { cls:=.none,data:=.fields ps }
 | .met f x=>h.get? a=some (PySem.W.methodObj (.ref f) (.ref x))
 | .ext φ=>φ h/\(∃ o,h.get? a=some o)/\∀ h1 h2:Heap,φ h1->(∀ o,h1.get? a=some o->h2.get? a=some o)->φ h2
def bW (H:Hp) (h:Heap):Prop:=∀ a o,H a=some o->c7 P w H h a o
end
section
variable {P : Program} {w : World} {H H' : Hp} {h h' : Heap} {a : Addr} {o : HO}
theorem c7.lt (x:c7 P w H h a o):a < h.objs.size:=by
 cases o with
 | lst xs=>obtain ⟨_,_,_,_,e⟩:=x; exact bi4 e
 | tup xs=>obtain ⟨_,_,_,p,_⟩:=x; exact p.lt
 | dK kvs=>obtain ⟨_,_,_,_,o,_,_,e,_⟩:=x; exact bi4 e
 | dT kvs=>obtain ⟨_,_,_,_,o,_,_,e,_⟩:=x; exact bi4 e
 | set S n=>obtain ⟨o,_,_,_,e,_⟩:=x; exact bi4 e
 | ins C dx fs=>obtain ⟨_,_,_,e,_⟩:=x; exact bi4 e
 | own y=>obtain ⟨_,e⟩:=x; exact bi4 e
 | xd fs=>obtain ⟨_,⟨_,_,_,e,_⟩,_⟩:=x; exact bi4 e
 | rng lo hi=>obtain ⟨_,_,_,e⟩:=x; exact bi4 e
 | frz ob u=>obtain ⟨e,_⟩:=x; exact bi4 e
 | tbl ps=>exact bi4 (show h.get? a=some _ from x)
 | met f y=>exact bi4 (show h.get? a=some _ from x)
 | ext φ=>obtain ⟨_,⟨_,e⟩,_⟩:=x; exact bi4 e
theorem Paired.mapP {α β:Type}{F G:α->β->Prop}:∀ {l₁:List α}{l₂:List β},Paired F l₁ l₂->(∀ a b,F a b->G a b)->Paired G l₁ l₂
 | _,_,.nil,_=>.nil
 | _,_,.cons r t,f=>.cons (f _ _ r) (Paired.mapP t f)
theorem c7.stay (x:c7 P w H h a o) (k:∀ b u,(b=a ∨ H b=some (.own a))->h.get? b=some u->h'.get? b=some u)
  (ho:∀ b,H b=some (.own a)->H' b=some (.own a)) (ht:∀ b xs,H b=some (.tup xs)->H' b=some (.tup xs)):c7 P w H' h' a o:=by
 induction o with
 | lst xs=>obtain ⟨z,its,n,r,e⟩:=x; exact⟨z,its,n,r,k _ _ (.inl rfl) e⟩
 | tup xs=>obtain ⟨z,its,r,⟨ob,e,c⟩,nd⟩:=x; exact⟨z,its,r,⟨ob,k _ _ (.inl rfl) e,c⟩,nd.stay e (k _ _ (.inl rfl) e)⟩
 | dK kvs=>obtain ⟨z,y,vs,r,ob,es,ep,e,c⟩:=x; exact⟨z,y,vs,r,ob,es,ep,k _ _ (.inl rfl) e,c⟩
 | dT kvs=>
  obtain ⟨z,y,xs,r,ob,es,ep,e,c⟩:=x
  exact⟨z,y,xs,Paired.mapP r fun p q z=>⟨z.1,ht _ _ z.2.1,z.2.2⟩,ob,es,ep,k _ _ (.inl rfl) e,c⟩
 | set S n=>obtain ⟨ob,es,ep,t,e,c⟩:=x; exact⟨ob,es,ep,t,k _ _ (.inl rfl) e,c⟩
 | ins C dx fs=>
  obtain ⟨d,z,ne,e,mA,⟨od,es,ep,e2,c⟩,r⟩:=x
  exact⟨ho _ d,z,ne,k _ _ (.inl rfl) e,mA,⟨od,es,ep,k _ _ (.inr d) e2,c⟩,r⟩
 | own y=>obtain ⟨ob,e⟩:=x; exact⟨ob,k _ _ (.inl rfl) e⟩
 | xd fs=>obtain ⟨mA,⟨od,es,ep,e,c⟩,r⟩:=x; exact⟨mA,⟨od,es,ep,k _ _ (.inl rfl) e,c⟩,r⟩
 | rng lo hi=>obtain ⟨t,u,v,e⟩:=x; exact⟨t,u,v,k _ _ (.inl rfl) e⟩
 | frz ob u ih=>obtain ⟨e,q⟩:=x; exact⟨k _ _ (.inl rfl) e,ih q⟩
 | tbl ps=>
  have e:h.get? a=some { cls:=.none,data:=.fields ps }:=x
  show h'.get? a=some { cls:=.none,data:=.fields ps }
  exact k a _ (.inl rfl) e
 | met f y=>
  have e:h.get? a=some (PySem.W.methodObj (.ref f) (.ref y)):=x
  show h'.get? a=some (PySem.W.methodObj (.ref f) (.ref y))
  exact k a _ (.inl rfl) e
 | ext φ=>obtain ⟨p,⟨o,e⟩,st⟩:=x; exact⟨st _ _ p fun o q=>k _ _ (.inl rfl) q,⟨o,k _ _ (.inl rfl) e⟩,st⟩
theorem bW.lt (x:bW P w H h) (e:H a=some o):a < h.objs.size:=(x a o e).lt
theorem bW.fresh (x:bW P w H h) (e:h.objs.size<=a):H a=none:=by
 cases q:H a with
 | none=>rfl
 | some u=>exact absurd (bi8 (x.lt q) e) (bo2 _)
theorem bW.kept (x:bW P w H h) (k:∀ b u,h.get? b=some u->h'.get? b=some u):bW P w H h':=fun a o e=>
 (x a o e).stay (fun b u _ q=>k b u q) (fun _ q=>q) fun _ _ q=>q
theorem bW.laid (x:bW P w H h) (k:∀ b u,h.get? b=some u->h'.get? b=some u) (hp:h.objs.size<=a) (new:c7 P w (upd H a o) h' a o):bW P w (upd H a o) h':=fun b u e=>by
 have hn:=x.fresh hp
 by_cases hb:b=a
 ·subst hb; rw [bO] at e; cases e; exact new
 ·rw [aW hb] at e
  exact (x b u e).stay (fun c v _ q=>k c v q) (fun c q=>by rw [aW (cY q hn)]; exact q) fun c xs q=>by rw [aW (cY q hn)]; exact q
end
def Rd (H:Hp) (a:Addr) (u:HO):Prop:=H a=some u ∨ ∃ o,H a=some (.frz o u)
theorem Rd.ok {P:Program}{w:World}{H:Hp}{h:Heap}{a:Addr}{u:HO} (r:Rd H a u) (x:bW P w H h):c7 P w H h a u:=by
 rcases r with r | ⟨o,r⟩
 ·exact x a u r
 ·obtain ⟨_,q⟩:=x a _ r
  exact q
def mY:Option HO->Prop
 | some (.lst _)=>True
 | some (.dK _)=>True
 | some (.dT _)=>True
 | some (.set _ _)=>True
 | some (.ins _ _ _)=>True
 | some (.ext _)=>True
 | _=>False
section
variable {P : Program} {w : World} {H : Hp} {h h' : Heap} {x e : Addr} {o' : HO}
theorem bW.write (ok:bW P w H h) (mu:mY (H x)) (he:e=x ∨ H e=some (.own x)) (k:∀ b u,b ≠ e->h.get? b=some u->h'.get? b=some u) (heo:∃ u,h'.get? e=some u)
  (new:c7 P w (upd H x o') h' x o'):bW P w (upd H x o') h':=fun b u q=>by
 have nown:∀ c y,H c=some (.own y)->c ≠ x:=fun c y r z=>by subst z; rw [r] at mu; exact mu
 have ntup:∀ c xs,H c=some (.tup xs)->c ≠ x:=fun c xs r z=>by subst z; rw [r] at mu; exact mu
 by_cases hb:b=x
 ·subst hb; rw [bO] at q; cases q; exact new
 ·rw [aW hb] at q
  by_cases hbe:b=e
  ·have q':H b=some (.own x):=by
    rcases he with z | z
    ·exact absurd (hbe.trans z) hb
    ·rw [hbe]; exact z
   rw [q] at q'; cases q'
   obtain ⟨v,hv⟩:=heo
   exact⟨v,by rw [hbe]; exact hv⟩
  ·refine (ok b u q).stay (fun c v hc r=>k c v ?_ r) (fun c r=>by rw [aW (nown c b r)]; exact r) fun c xs r=>by rw [aW (ntup c xs r)]; exact r
   rcases hc with rfl | hc
   ·exact hbe
   ·rintro rfl
    rcases he with z | z
    ·exact nown c b hc z
    ·rw [hc] at z; cases z; exact hb rfl
end
structure Un (fs ex:List Addr) (H H':Hp) (h h':Heap):Prop where
 keep:∀ b o,h.get? b=some o->H b=none->b ∉ fs->b ∉ ex->h'.get? b=some o
 slot:∀ b o,h.get? b=some o->H b=none->b ∈ fs->b ∉ ex->∃ sl,h'.get? b=some { o with slots:=sl }
 free:∀ b o,h.get? b=some o->H b=none->b ∉ ex->H' b=none
 there:∀ b o,h.get? b=some o->b ∉ ex->∃ o',h'.get? b=some o'
 tups:∀ b xs,H b=some (.tup xs)->H' b=some (.tup xs)
 frzs:∀ b o u,H b=some (.frz o u)->H' b=some (.frz o u)
 tbls:∀ b ps,H b=some (.tbl ps)->∃ more,H' b=some (.tbl (ps ++ more))
section
variable {fs fs' ex ex' : List Addr} {H H1 H2 : Hp} {h h1 h2 h' : Heap} {a x e : Addr} {o : HO}
theorem Un.any (u:Un fs ex H H1 h h1) {b:Addr}{ob:Obj} (q:h.get? b=some ob) (n:H b=none) (hx:b ∉ ex):∃ sl,h1.get? b=some { ob with slots:=sl }:=by
 by_cases hb:b ∈ fs
 ·exact u.slot b ob q n hb hx
 ·exact⟨ob.slots,u.keep b ob q n hb hx⟩
theorem Un.kept (k:∀ b u,h.get? b=some u->h'.get? b=some u):Un fs ex H H h h':=
 ⟨fun b ob q _ _ _=>k b ob q,fun b ob q _ _ _=>⟨ob.slots,k b ob q⟩,fun _ _ _ n _=>n,fun b ob q _=>⟨ob,k b ob q⟩,fun _ _ q=>q,fun _ _ _ q=>q,fun _ ps q=>⟨#[],by rw [q]; simp⟩⟩
theorem Un.refl:Un fs ex H H h h:=Un.kept fun _ _ q=>q
theorem Un.laid (k:∀ b u,h.get? b=some u->h'.get? b=some u) (hp:h.objs.size<=a) (hn:H a=none):Un fs ex H (upd H a o) h h' where
 keep:=fun b u q _ _ _=>k b u q
 slot:=fun b u q _ _ _=>⟨u.slots,k b u q⟩
 free:=fun b u q n _=>by rw [aW (bk6 (bi8 (bi4 q) hp))]; exact n
 there:=fun b u q _=>⟨u,k b u q⟩
 tups:=fun b xs q=>by rw [aW (cY q hn)]; exact q
 frzs:=fun b u xs q=>by rw [aW (cY q hn)]; exact q
 tbls:=fun b ps q=>⟨#[],by rw [aW (cY q hn),q]; simp⟩
theorem Un.write (mu:mY (H x)) (he:e=x ∨ H e=some (.own x)) (k:∀ b u,b ≠ e->h.get? b=some u->h'.get? b=some u) (heo:∃ u,h'.get? e=some u):Un fs ex H (upd H x o) h h':=by
 have hx:∀ b,H b=none->b ≠ x:=fun b n z=>by subst z; rw [n] at mu; exact mu
 have hb:∀ b,H b=none->b ≠ e:=fun b n z=>by
  subst z
  rcases he with r | r
  ·exact hx b n r
  ·rw [n] at r; cases r
 have hm:∀ b u,H b=some u->¬ mY (some u)->b ≠ x:=fun b u q nm z=>by subst z; rw [q] at mu; exact nm mu
 refine⟨fun b u q n _ _=>k b u (hb b n) q,fun b u q n _ _=>⟨u.slots,k b u (hb b n) q⟩,fun b u q n _=>by rw [aW (hx b n)]; exact n,fun b u q _=>?_,
  fun b xs q=>by rw [aW (hm b _ q fun z=>z)]; exact q,fun b u xs q=>by rw [aW (hm b _ q fun z=>z)]; exact q,fun b ps q=>⟨#[],by rw [aW (hm b _ q fun z=>z),q]; simp⟩⟩
 by_cases hbe:b=e
 ·subst hbe; exact heo
 ·exact⟨u,k b u hbe q⟩
end
def pD (h:Heap) (H:Hp):List Addr:=(List.range h.objs.size).filter fun a=>(H a).isSome
def j9 (h:Heap) (H:Hp):Heap:=PySem.W.hideAll h (pD h H)
theorem ai6 (h:Heap) (H:Hp):(j9 h H).objs.size=h.objs.size:=PySem.W.hideAll_size _ _
theorem ai7 {h:Heap}{H:Hp}{b:Addr}{o:Obj} (e:h.get? b=some o) (n:H b=none):(j9 h H).get? b=some o:=
 PySem.W.hideAll_get _ e fun hm=>by
  have q:(H b).isSome=true:=(bk3.mp hm).2
  rw [n] at q; simp at q
theorem ai8 {h:Heap}{H:Hp}{b:Addr}{o:Obj} (e:(j9 h H).get? b=some o):h.get? b=some o/\H b=none:=by
 have e':h.get? b=some o:=PySem.W.of_hideAll (pD h H) e
 refine⟨e',?_⟩
 cases q:H b with
 | none=>rfl
 | some x=>
  have hm:b ∈ pD h H:=bk3.mpr ⟨List.mem_range.mpr (bi4 e'),by simp [q]⟩
  have z:(j9 h H).get? b=none:=PySem.W.hideAll_none (pD h H) hm
  rw [z] at e; cases e
def ai9 (g h:Heap) (L:Addr):List (Addr × Obj):=(List.range h.objs.size).filterMap fun a=>if a=L ∨ (g.get? a).isSome=true then none else (h.get? a).map fun o=>(a,o)
def cZ (g h:Heap) (L d:Addr):List (Addr × Obj):=(ai9 g h L).filter fun p=>decide (p.1 ≠ d)
structure Mod (K:PySem.W.Frag) (mg:Str->Option Value) (base:Heap):Prop where
 kin:K.In base
 glob:base.Ns mainGlobals mg
 blt:∃ mb,base.Ns builtinsNs mb/\∀ x:Str,x ≠ "__name__"->mb x=bootBuiltins x
 nolimit:base.NoLimit
structure Cx where
 prog:Program
 w:World
 K:PySem.W.Frag
 mg:Str->Option Value
 base:Heap
 A:Around
 N:List Str
 s₀:Shared
 H₀:Hp
 env:Env
 outer:List Env
 stack:List Env
 ex:List Addr
 fn:Str->Bool
 calm:Bool
 pn:List (Addr × Obj)
 xe:Value->Shared->Prop
def bR (l:List Env):List Addr:=l.filterMap (·.frame)
abbrev Cx.fs (X:Cx):List Addr:=bR X.outer
def gE (sc:Scope) (x:Str):Prop:=sc.names.lookup x=some .local ∨ sc.names.lookup x=some .cell ∨ sc.names.lookup x=some .free
def gF (sc:Scope) (x:Str):Prop:=sc.names.lookup x=some .local ∨ sc.names.lookup x=some .cell
def aj0 (env:Env) (h:Heap) (m:Str->Option Value) (x:Str) (u:Value):Prop:=
 (env.kindOf x=some .local/\m x=some u) ∨ ((env.kindOf x=some .cell ∨ env.kindOf x=some .free)/\∃ c,env.cells.lookup x=some c/\h.IsCell c (some u))
structure Cx.Ok (X:Cx):Prop where
 mod:Mod X.K X.mg X.base
 kind:X.env.scope.kind = .function
 glob:X.env.globals=mainGlobals
 blt:X.env.builtins=builtinsNs
 above:X.s₀.heap.objs.size<=X.env.locals
 inj:∀ x y c,X.env.cells.lookup x=some c->X.env.cells.lookup y=some c->x=y
 has:∀ x,(X.env.kindOf x=some .cell ∨ X.env.kindOf x=some .free)->∃ c,X.env.cells.lookup x=some c
 cab:∀ x c,X.fn x=true->X.env.cells.lookup x=some c->X.s₀.heap.objs.size<=c
 hd:X.calm=true->X.A.handled=none
 frames:X.A.frames=some X.stack
 stk:X.stack=X.outer ∨ (X.stack=X.env :: X.outer/\X.env.frame=some X.env.locals)
 exf:∀ b ∈ X.ex,b ≠ X.env.locals/\∀ x c,X.env.cells.lookup x=some c->c ≠ b
 bs:∀ b o,X.base.get? b=some o->X.s₀.heap.get? b=some o/\X.H₀ b=none
 bsz:X.base.objs.size<=X.s₀.heap.objs.size
 noex:∀ b o,X.base.get? b=some o->b ∉ X.ex
 exfs:∀ b ∈ X.ex,b ∉ X.fs
 funs:X.s₀.heap.FunFrames X.base X.outer
 frf:∀ b ∈ X.fs,X.H₀ b=none
structure a8 (X:Cx) (pins:List (Addr × Obj)) (σ:List (Option V)) (H:Hp) (s:Shared):Prop where
 ok:X.Ok
 os:s.os=X.s₀.os
 bare:AllBare s.gens
 base:Un X.fs X.ex X.H₀ H X.s₀.heap s.heap
 loc:∃ m,s.heap.Ns X.env.locals m/\∀ (i:Nat) (x:Str) (v:V),X.N[i]? = some x->σ[i]? = some (some v)->gE X.env.scope x->∃ u,aS v u/\aj0 X.env s.heap m x u
 cell:∀ x c,X.env.cells.lookup x=some c->∃ v,s.heap.IsCell c v
 free:H X.env.locals=none
 freeC:∀ x c,X.env.cells.lookup x=some c->H c=none
 pin:∀ p ∈ X.pn ++ pins,s.heap.get? p.1=some p.2/\H p.1=none/\p.1 ≠ X.env.locals/\p.1 ∉ X.fs/\∀ v,p.2.data ≠ .cell v
 hok:bW X.prog X.w H s.heap
 len:σ.length=X.N.length
section
variable {X : Cx} {pins : List (Addr × Obj)} {σ : List (Option V)} {H H' : Hp} {s : Shared} {h' : Heap}
theorem Cx.Ok.nofr (ok:X.Ok) {b:Addr}{o:Obj} (e:X.base.get? b=some o):b ∉ X.fs:=fun hb=>by
 have:=(ok.funs.mem hb).1
 rw [e] at this; cases this
theorem a8.bs (I:a8 X pins σ H s):∀ b o,X.base.get? b=some o->s.heap.get? b=some o/\H b=none:=fun b o e=>
 ⟨I.base.keep b o (I.ok.bs b o e).1 (I.ok.bs b o e).2 (I.ok.nofr e) (I.ok.noex b o e),I.base.free b o (I.ok.bs b o e).1 (I.ok.bs b o e).2 (I.ok.noex b o e)⟩
theorem a8.bk (I:a8 X pins σ H s):∀ b o,X.base.get? b=some o->s.heap.get? b=some o:=fun b o e=>(I.bs b o e).1
theorem a8.mod (I:a8 X pins σ H s):Mod X.K X.mg X.base:=I.ok.mod
theorem a8.kIn (I:a8 X pins σ H s):X.K.In s.heap:=I.ok.mod.kin.keeps I.bk
theorem a8.fr (I:a8 X pins σ H s):∃ m,Fr X.base X.env.locals s.heap m:=
 let ⟨m,hn,_⟩:=I.loc
 ⟨m,hn,I.bk,bm4 I.ok.bsz I.ok.above⟩
theorem a8.lt (I:a8 X pins σ H s):X.env.locals < s.heap.objs.size:=let ⟨_,hn,_⟩:=I.loc; hn.lt
theorem a8.sz (I:a8 X pins σ H s):X.s₀.heap.objs.size<=s.heap.objs.size:=bm4 I.ok.above (bp9 I.lt)
theorem a8.nofs (I:a8 X pins σ H s) {a:Addr} (h:s.heap.objs.size<=a):a ∉ X.fs:=fun hb=>by
 obtain ⟨_,o,ho,_⟩:=I.ok.funs.mem hb
 exact absurd (bi8 (bi4 ho) (bm4 I.sz h)) (bo2 _)
theorem a8.cne (I:a8 X pins σ H s):∀ x c,X.env.cells.lookup x=some c->c ≠ X.env.locals:=fun x c e z=>by
 obtain ⟨v,o,ho,hd⟩:=I.cell x c e
 obtain ⟨m,⟨o',es,ep,ho',hd',_⟩,_⟩:=I.loc
 rw [z,ho'] at ho; cases ho; rw [hd'] at hd; cases hd
theorem a8.funs (I:a8 X pins σ H s):s.heap.FunFrames X.base X.outer:=by
 have all:∀ (l:List Env),(∀ b ∈ bR l,b ∈ X.fs)->X.s₀.heap.FunFrames X.base l->s.heap.FunFrames X.base l:=by
  intro l
  induction l with
  | nil=>intro _ _; trivial
  | cons env r ih=>
   intro hs hl
   obtain ⟨hk,⟨L,o,hf,hn,ho,hd⟩,hr⟩:=hl
   have hL:L ∈ X.fs:=hs L (by unfold bR; rw [List.filterMap_cons,hf]; exact bi6)
   obtain ⟨sl,e⟩:=I.base.slot L o ho (I.ok.frf L hL) hL fun z=>I.ok.exfs L z hL
   exact⟨hk,⟨L,_,hf,hn,e,hd⟩,ih (fun b hb=>hs b (by unfold bR; rw [List.filterMap_cons,hf]; exact bi7 _ hb)) hr⟩
 exact all X.outer (fun _ hb=>hb) I.ok.funs
theorem a8.stack (I:a8 X pins σ H s):s.heap.FunFrames X.base X.stack:=by
 rcases I.ok.stk with e | ⟨e,hf⟩
 ·rw [e]; exact I.funs
 ·rw [e]
  obtain ⟨m,hn,_⟩:=I.loc
  refine .cons (by rw [I.ok.kind]; decide) hf hn ?_ I.funs
  exact Heap.get?_none_of_le (bm4 I.ok.bsz I.ok.above)
theorem a8.stkSub (I:a8 X pins σ H s):∀ b ∈ bR X.stack,b ∈ X.env.locals :: X.fs:=fun b hb=>by
 rcases I.ok.stk with e | ⟨e,hf⟩
 ·rw [e] at hb; exact bi7 _ hb
 ·rw [e] at hb
  unfold bR at hb
  rw [List.filterMap_cons,hf] at hb
  exact hb
theorem a8.stkFree (I:a8 X pins σ H s):∀ b ∈ bR X.stack,H b=none:=fun b hb=>by
 rcases bh9.mp (I.stkSub b hb) with e | hb
 ·rw [e]; exact I.free
 ·obtain ⟨_,o,ho,_⟩:=I.ok.funs.mem hb
  exact I.base.free b o ho (I.ok.frf b hb) fun z=>I.ok.exfs b z hb
theorem a8.step {g':Array GenState}{t':Nat}{d':Drawn}{ch:List Addr} (I:a8 X pins σ H s)
  (hch:∀ b ∈ ch,(b ∈ X.ex ∨ X.s₀.heap.objs.size<=b)/\b ≠ X.env.locals/\(∀ x c,X.env.cells.lookup x=some c->c ≠ b)/\∀ p ∈ X.pn ++ pins,p.1 ≠ b)
  (keep:∀ b o,b ≠ X.env.locals->b ∉ X.fs->b ∉ ch->s.heap.get? b=some o->H b=none->h'.get? b=some o)
  (slot:∀ b o,b ≠ X.env.locals->b ∈ X.fs->b ∉ ch->s.heap.get? b=some o->H b=none->∃ sl,h'.get? b=some { o with slots:=sl }) (free:∀ b o,b ∉ ch->s.heap.get? b=some o->H b=none->H' b=none)
  (there:∀ b o,b ∉ ch->s.heap.get? b=some o->∃ o',h'.get? b=some o')
  (tups:∀ b xs,H b=some (.tup xs)->H' b=some (.tup xs)) (frzs:∀ b o u,H b=some (.frz o u)->H' b=some (.frz o u)) (tbls:∀ b ps,H b=some (.tbl ps)->∃ more,H' b=some (.tbl (ps ++ more)))
  (ns:∀ m,s.heap.Ns X.env.locals m->h'.Ns X.env.locals m) (hok:bW X.prog X.w H' h') (hg:AllBare g') :
  a8 X pins σ H' { s with heap:=h',gens:=g',drawn:=d',toks:=t' }:=by
 have neL:∀ b o,X.s₀.heap.get? b=some o->b ≠ X.env.locals:=fun b o e=>bk6 (bi8 (bi4 e) I.ok.above)
 have neC:∀ b o,X.s₀.heap.get? b=some o->b ∉ X.ex->b ∉ ch:=fun b o e hx hb=>by
  rcases (hch b hb).1 with z | z
  ·exact hx z
  ·exact absurd (bi8 (bi4 e) z) (bo2 _)
 have cellK:∀ x c,X.env.cells.lookup x=some c->∀ v,s.heap.IsCell c v->h'.IsCell c v:=fun x c e v ⟨o,ho,hd⟩=>by
  have nch:c ∉ ch:=fun z=>(hch c z).2.2.1 x c e rfl
  by_cases hc:c ∈ X.fs
  ·obtain ⟨sl,q⟩:=slot c o (I.cne x c e) hc nch ho (I.freeC x c e)
   exact⟨_,q,hd⟩
  ·exact⟨o,keep c o (I.cne x c e) hc nch ho (I.freeC x c e),hd⟩
 refine⟨I.ok,I.os,hg,⟨fun b o e n hb hx=>?_,fun b o e n hb hx=>?_,fun b o e n hx=>?_,fun b o e hx=>?_,fun b xs e=>tups b xs (I.base.tups b xs e),fun b o xs e=>frzs b o xs (I.base.frzs b o xs e),fun b ps e=>?_⟩,?_,fun x c e=>?_,?_,fun x c e=>?_,fun p hp=>?_,hok,I.len⟩
 ·exact keep b o (neL b o e) hb (neC b o e hx) (I.base.keep b o e n hb hx) (I.base.free b o e n hx)
 ·obtain ⟨sl,e1⟩:=I.base.slot b o e n hb hx
  obtain ⟨sl',e2⟩:=slot b _ (neL b o e) hb (neC b o e hx) e1 (I.base.free b o e n hx)
  exact⟨sl',e2⟩
 ·obtain ⟨o',e1⟩:=I.base.there b o e hx
  exact free b o' (neC b o e hx) e1 (I.base.free b o e n hx)
 ·obtain ⟨o',e1⟩:=I.base.there b o e hx
  exact there b o' (neC b o e hx) e1
 ·obtain ⟨m1,e1⟩:=I.base.tbls b ps e
  obtain ⟨m2,e2⟩:=tbls b _ e1
  exact⟨m1 ++ m2,by rw [e2,Array.append_assoc]⟩
 ·obtain ⟨m,hn,hl⟩:=I.loc
  refine⟨m,ns m hn,fun i x v e1 e2 e3=>?_⟩
  obtain ⟨u,r,l⟩:=hl i x v e1 e2 e3
  refine⟨u,r,?_⟩
  rcases l with l | ⟨k,c,e,z⟩
  ·exact .inl l
  ·exact .inr ⟨k,c,e,cellK x c e _ z⟩
 ·obtain ⟨v,z⟩:=I.cell x c e
  exact⟨v,cellK x c e v z⟩
 ·obtain ⟨m,⟨o,_,_,ho,_⟩,_⟩:=I.loc
  exact free _ o (fun z=>(hch _ z).2.1 rfl) ho I.free
 ·obtain ⟨v,o,ho,hd⟩:=I.cell x c e
  exact free c o (fun z=>(hch c z).2.2.1 x c e rfl) ho (I.freeC x c e)
 ·obtain ⟨e,n,ne,nf,d⟩:=I.pin p hp
  have nch:p.1 ∉ ch:=fun z=>(hch p.1 z).2.2.2 p hp rfl
  exact⟨keep p.1 p.2 ne nf nch e n,free p.1 p.2 nch e n,ne,nf,d⟩
theorem a8.un {t':Nat} (I:a8 X pins σ H s) (u:Un X.fs [] H H' s.heap h') (hok:bW X.prog X.w H' h'):a8 X pins σ H' { s with heap:=h',toks:=t' }:=by
 obtain ⟨m,⟨o,es,ep,ho,r⟩,_⟩:=id I.loc
 obtain ⟨sl,hL⟩:=u.any ho I.free (by simp)
 exact I.step (g':=s.gens) (d':=s.drawn) (ch:=[]) (fun _ z=>nomatch z) (fun b o _ hb _ e n=>u.keep b o e n hb (by simp)) (fun b o _ hb _ e n=>u.slot b o e n hb (by simp)) (fun b o _ e n=>u.free b o e n (by simp)) (fun b o _ e=>u.there b o e (by simp)) u.tups u.frzs u.tbls (fun m' hm=>by
  obtain ⟨o',es',ep',ho',r'⟩:=hm
  rw [ho] at ho'; cases ho'
  exact⟨_,es',ep',hL,r'⟩) hok I.bare
theorem a8.call {g':Array GenState}{t':Nat}{d':Drawn}{ch:List Addr} (I:a8 X pins σ H s) (u:Un (bR X.stack) ch H H' s.heap h') (hok:bW X.prog X.w H' h') (hg:AllBare g')
  (hch:∀ b ∈ ch,(b ∈ X.ex ∨ X.s₀.heap.objs.size<=b)/\b ≠ X.env.locals/\(∀ x c,X.env.cells.lookup x=some c->c ≠ b)/\∀ p ∈ X.pn ++ pins,p.1 ≠ b) :
  a8 X pins σ H' { s with heap:=h',gens:=g',drawn:=d',toks:=t' }:=by
 obtain ⟨m,⟨o,es,ep,ho,r⟩,_⟩:=id I.loc
 obtain ⟨sl,hL⟩:=u.any ho I.free fun z=>(hch _ z).2.1 rfl
 exact I.step (ch:=ch) hch (fun b o hL hb hc e n=>u.keep b o e n (fun z=>(bh9.mp (I.stkSub b z)).elim hL hb) hc) (fun b o _ _ hc e n=>u.any e n hc) (fun b o hc e n=>u.free b o e n hc) (fun b o hc e=>u.there b o e hc) u.tups u.frzs u.tbls (fun m' hm=>by
  obtain ⟨o',es',ep',ho',r'⟩:=hm
  rw [ho] at ho'; cases ho'
  exact⟨_,es',ep',hL,r'⟩) hok hg
theorem a8.turned {t':Nat}{it:Addr} (I:a8 X pins σ H s) (k:∀ b o,b ≠ it->s.heap.get? b=some o->h'.get? b=some o) (hn:H it=none) (hL:it ≠ X.env.locals)
  (h1:it ∈ X.ex ∨ X.s₀.heap.objs.size<=it) (h2:∀ x c,X.env.cells.lookup x=some c->c ≠ it) (h3:∀ p ∈ X.pn ++ pins,p.1 ≠ it):a8 X pins σ H { s with heap:=h',toks:=t' }:=by
 have nit:∀ b u,H b=some u->b ≠ it:=fun b u e z=>by rw [z,hn] at e; cases e
 refine I.step (g':=s.gens) (d':=s.drawn) (ch:=[it]) (fun b hb=>?_) (fun b o _ _ hc e _=>k b o (fun z=>hc (by simp [z])) e) (fun b o _ _ hc e _=>⟨o.slots,k b o (fun z=>hc (by simp [z])) e⟩) (fun _ _ _ _ n=>n)
  (fun b o hc e=>⟨o,k b o (fun z=>hc (by simp [z])) e⟩) (fun _ _ e=>e) (fun _ _ _ e=>e) (fun b ps e=>⟨#[],by rw [e]; simp⟩) (fun m hm=>?_) (fun b u e=>?_) I.bare
 ·have e:b=it:=by simpa using hb
  subst e
  exact⟨h1,hL,h2,h3⟩
 ·obtain ⟨o,es,ep,ho,r⟩:=hm
  exact⟨o,es,ep,k _ o (Ne.symm hL) ho,r⟩
 ·refine (I.hok b u e).stay (fun c v hc q=>k c v ?_ q) (fun _ q=>q) fun _ _ q=>q
  rcases hc with z | z
  ·rw [z]; exact nit b u e
  ·exact nit c _ z
theorem a8.tok (I:a8 X pins σ H s) (t:Nat):a8 X pins σ H { s with toks:=t }:=I.un (h':=s.heap) (t':=t) Un.refl I.hok
theorem a8.kept {t':Nat} (I:a8 X pins σ H s) (k:∀ b u,s.heap.get? b=some u->h'.get? b=some u):a8 X pins σ H { s with heap:=h',toks:=t' }:=I.un (Un.kept k) (I.hok.kept k)
theorem a8.laid {a:Addr}{o:HO}{t':Nat} (I:a8 X pins σ H s) (k:∀ b u,s.heap.get? b=some u->h'.get? b=some u) (hp:s.heap.objs.size<=a) (new:c7 X.prog X.w (upd H a o) h' a o) :
  a8 X pins σ (upd H a o) { s with heap:=h',toks:=t' }:=I.un (Un.laid k hp (I.hok.fresh hp)) (I.hok.laid k hp new)
theorem a8.write {x e:Addr}{o:HO}{t':Nat} (I:a8 X pins σ H s) (mu:mY (H x)) (he:e=x ∨ H e=some (.own x)) (k:∀ b u,b ≠ e->s.heap.get? b=some u->h'.get? b=some u) (heo:∃ u,h'.get? e=some u)
  (new:c7 X.prog X.w (upd H x o) h' x o):a8 X pins σ (upd H x o) { s with heap:=h',toks:=t' }:=I.un (Un.write mu he k heo) (I.hok.write mu he k heo new)
theorem a8.weak {σ':List (Option V)} (I:a8 X pins σ H s) (hl:σ'.length=σ.length) (w:∀ (i:Nat) v,σ'[i]? = some (some v)->σ[i]? = some (some v)):a8 X pins σ' H s:=
 ⟨I.ok,I.os,I.bare,I.base,let ⟨m,hn,hl'⟩:=I.loc; ⟨m,hn,fun i x v e1 e2 e3=>hl' i x v e1 (w i v e2) e3⟩,I.cell,I.free,I.freeC,I.pin,I.hok,hl.trans I.len⟩
theorem a8.pins_of {pins':List (Addr × Obj)} (I:a8 X pins σ H s) (h:∀ p ∈ pins',s.heap.get? p.1=some p.2/\H p.1=none/\p.1 ≠ X.env.locals/\p.1 ∉ X.fs/\∀ v,p.2.data ≠ .cell v):a8 X pins' σ H s:=
 ⟨I.ok,I.os,I.bare,I.base,I.loc,I.cell,I.free,I.freeC,fun p hp=>(bk4.mp hp).elim (fun z=>I.pin p (bl6 _ z)) (h p),I.hok,I.len⟩
theorem tR {N:List Str} (hN:N.Nodup) {i j:Nat}{x:Str} (a:N[i]? = some x) (b:N[j]? = some x):i=j:=by
 obtain ⟨h1,e1⟩:=bi3.mp a
 obtain ⟨h2,e2⟩:=bi3.mp b
 exact (List.getElem_inj hN).mp (e1.trans e2.symm)
theorem tS {M:Model}{A:Around}{E:Value->Shared->Prop}{i:Nat}{x:Str}{v:V}{u:Value}{Q:Unit->Shared->Prop} (I:a8 X pins σ H s) (hN:X.N.Nodup) (hi:X.N[i]? = some x) (hx:gF X.env.scope x) (r:aS v u)
  (h:∀ s',a8 X pins (σ.set i (some v)) H s'->(∃ a,Heap.SameBut a s.heap s'.heap/\(a=X.env.locals ∨ X.env.cells.lookup x=some a))->Q () s') (hf:X.fn x=true ∨ X.env.scope.names.lookup x=some .local:=by first | exact .inl rfl | exact .inr rfl | assumption):wpAny M A (storeName X.env x u) Q E s:=by
 obtain ⟨m,hn,hl⟩:=id I.loc
 have hcls:(X.env.scope.kind == .class || (X.env.scope.kind == .module && X.env.locals != X.env.globals))=false:=by rw [I.ok.kind]; rfl
 have hiσ:i < σ.length:=by rw [I.len]; exact (bi3.mp hi).1
 have cne:=I.cne
 have tracked:∀ {a:Addr}{h':Heap},(∃ o,s.heap.get? a=some o/\H a=none)->Heap.SameBut a s.heap h'->bW X.prog X.w H h':=fun {a h'} ha hs b ob e=>by
  obtain ⟨_,_,hfree⟩:=ha
  refine (I.hok b ob e).stay (fun c w' hc q=>(hs.2 c ?_).trans q) (fun _ q=>q) fun _ _ q=>q
  rintro rfl
  rcases hc with rfl | hc
  ·rw [hfree] at e; cases e
  ·rw [hfree] at hc; cases hc
 rcases hx with hk | hk
 ·refine wpAny_storeName_local hk hn (fun h' hn' hs=>?_) hcls
  obtain ⟨oL,_,_,hoL,_⟩:=id hn
  refine h _ ⟨I.ok,I.os,I.bare,⟨fun b o e n hb hx=>?_,fun b o e n hb hx=>?_,I.base.free,fun b o e hx=>?_,I.base.tups,I.base.frzs,I.base.tbls⟩,⟨_,hn',fun j y v' e1 e2 e3=>?_⟩,fun y c e=>?_,I.free,I.freeC,fun p hp=>?_,tracked ⟨oL,hoL,I.free⟩ hs,by simpa using I.len⟩ ⟨_,hs,.inl rfl⟩
  ·exact (hs.2 b (bk6 (bi8 (bi4 e) I.ok.above))).trans (I.base.keep b o e n hb hx)
  ·obtain ⟨sl,e1⟩:=I.base.slot b o e n hb hx
   exact⟨sl,(hs.2 b (bk6 (bi8 (bi4 e) I.ok.above))).trans e1⟩
  ·obtain ⟨o',e1⟩:=I.base.there b o e hx
   exact⟨o',(hs.2 b (bk6 (bi8 (bi4 e) I.ok.above))).trans e1⟩
  ·by_cases hj:j=i
   ·subst hj
    rw [hi] at e1; cases e1
    rw [bm7 hiσ] at e2
    cases e2
    exact⟨u,r,.inl ⟨hk,by simp⟩⟩
   ·rw [bk2 (Ne.symm hj)] at e2
    obtain ⟨u',r',q⟩:=hl j y v' e1 e2 e3
    refine⟨u',r',?_⟩
    rcases q with ⟨k,e⟩ | ⟨k,c,e,z⟩
    ·refine .inl ⟨k,?_⟩
     have:y ≠ x:=fun e=>hj (tR hN e1 (e ▸ hi))
     simp [this,e]
    ·exact .inr ⟨k,c,e,z.sameBut hs (cne y c e)⟩
  ·obtain ⟨w',z⟩:=I.cell y c e
   exact⟨w',z.sameBut hs (cne y c e)⟩
  ·obtain ⟨e,n,ne,nf,d⟩:=I.pin p hp
   exact⟨(hs.2 p.1 ne).trans e,n,ne,nf,d⟩
 ·have hfn:X.fn x=true:=by
   rcases hf with z | z
   ·exact z
   ·rw [z] at hk; cases hk
  obtain ⟨c,hc⟩:=I.ok.has x (.inl hk)
  obtain ⟨w',z⟩:=I.cell x c hc
  refine wpAny_storeName_cell I.ok.kind hk hc z (fun h' hc' hs=>?_)
  obtain ⟨oc,hoc,hocd⟩:=id z
  refine h { s with heap:=h' } ⟨I.ok,I.os,I.bare,⟨fun b o e n hb hx=>?_,fun b o e n hb hx=>?_,I.base.free,fun b o e hx=>?_,I.base.tups,I.base.frzs,I.base.tbls⟩,⟨m,hn.sameBut hs (Ne.symm (cne x c hc)),fun j y v' e1 e2 e3=>?_⟩,fun y c' e=>?_,I.free,I.freeC,fun p hp=>?_,tracked ⟨oc,hoc,I.freeC x c hc⟩ hs,by simpa using I.len⟩ ⟨c,hs,.inr hc⟩
  ·exact (hs.2 b (bk6 (bi8 (bi4 e) (I.ok.cab x c hfn hc)))).trans (I.base.keep b o e n hb hx)
  ·obtain ⟨sl,e1⟩:=I.base.slot b o e n hb hx
   exact⟨sl,(hs.2 b (bk6 (bi8 (bi4 e) (I.ok.cab x c hfn hc)))).trans e1⟩
  ·obtain ⟨o',e1⟩:=I.base.there b o e hx
   exact⟨o',(hs.2 b (bk6 (bi8 (bi4 e) (I.ok.cab x c hfn hc)))).trans e1⟩
  ·by_cases hj:j=i
   ·subst hj
    rw [hi] at e1; cases e1
    rw [bm7 hiσ] at e2
    cases e2
    exact⟨u,r,.inr ⟨.inl hk,c,hc,hc'⟩⟩
   ·rw [bk2 (Ne.symm hj)] at e2
    obtain ⟨u',r',q⟩:=hl j y v' e1 e2 e3
    refine⟨u',r',?_⟩
    rcases q with q | ⟨k,c',e,z'⟩
    ·exact .inl q
    ·refine .inr ⟨k,c',e,z'.sameBut hs ?_⟩
     rintro rfl
     exact hj (tR hN e1 (I.ok.inj _ _ _ e hc ▸ hi))
  ·by_cases hcc:c'=c
   ·subst hcc; exact⟨_,hc'⟩
   ·obtain ⟨w2,z2⟩:=I.cell y c' e
    exact⟨w2,z2.sameBut hs hcc⟩
  ·obtain ⟨e,n,ne,nf,d⟩:=I.pin p hp
   refine⟨(hs.2 p.1 ?_).trans e,n,ne,nf,d⟩
   intro q
   rw [q,hoc] at e
   have q':oc=p.2:=bk5 e
   exact d w' (by rw [<- q']; exact hocd)
theorem tT {M:Model}{A:Around}{E:Value->Shared->Prop}{i:Nat}{x:Str}{v:V}{u:Value}{Q:Unit->Shared->Prop} (I:a8 X pins σ H s) (hN:X.N.Nodup) (hi:X.N[i]? = some x) (hx:gF X.env.scope x) (r:aS v u)
  (h:∀ s',a8 X pins (σ.set i (some v)) H s'->Q () s') (hf:X.fn x=true ∨ X.env.scope.names.lookup x=some .local:=by first | exact .inl rfl | exact .inr rfl | assumption):wpAny M A (storeName X.env x u) Q E s:=
 tS I hN hi hx r (fun s' I' _=>h s' I') hf
theorem a8.call' {s':Shared}{ch:List Addr} (I:a8 X pins σ H s) (ho:s'.os=s.os) (u:Un (bR X.stack) ch H H' s.heap s'.heap) (hok:bW X.prog X.w H' s'.heap) (hg:AllBare s'.gens)
  (hch:∀ b ∈ ch,(b ∈ X.ex ∨ X.s₀.heap.objs.size<=b)/\b ≠ X.env.locals/\(∀ x c,X.env.cells.lookup x=some c->c ≠ b)/\∀ p ∈ X.pn ++ pins,p.1 ≠ b):a8 X pins σ H' s':=by
 obtain ⟨h',g',d',t',o'⟩:=s'
 have e:o'=s.os:=ho
 subst e
 exact I.call (g':=g') (t':=t') (d':=d') u hok hg hch
end
abbrev XK:=Value->Option Addr->Hp->Prop
abbrev St:=List (Option V)
abbrev VK:=V->Hp->Prop
abbrev TE:=St->Hp->VK->Prop
abbrev TT:=St->Hp->(Bool->Hp->Prop)->Prop
abbrev TA:=St->Hp->(List V->Hp->Prop)->Prop
structure cQ where
 nx:St->Hp->Prop
 rt:VK
 bk:St->Hp->Prop:=fun _ _=>False
 ct:St->Hp->Prop:=fun _ _=>False
abbrev TS:=cQ->St->Hp->Prop
def EP (X:Cx) (pins:List (Addr × Obj)) (σ:St) (Q:VK) (u:Value) (s':Shared):Prop:=∃ v H',a8 X pins σ H' s'/\aS v u/\Q v H'
def TP (X:Cx) (pins:List (Addr × Obj)) (σ:St) (Q:Bool->Hp->Prop) (b:Bool) (s':Shared):Prop:=∃ H',a8 X pins σ H' s'/\Q b H'
def AP (X:Cx) (pins:List (Addr × Obj)) (σ:St) (Q:List V->Hp->Prop) (us:List Value) (s':Shared):Prop:=∃ vs H',a8 X pins σ H' s'/\aL vs us/\Q vs H'
def SP (X:Cx) (pins:List (Addr × Obj)) (D:cQ) (f:Flow) (s':Shared):Prop:=
 match f with
 | .next=>∃ σ' H',a8 X pins σ' H' s'/\D.nx σ' H'
 | .brk=>∃ σ' H',a8 X pins σ' H' s'/\D.bk σ' H'
 | .cont=>∃ σ' H',a8 X pins σ' H' s'/\D.ct σ' H'
 | .ret u=>∃ v σ' H',a8 X pins σ' H' s'/\aS v u/\D.rt v H'
def PE (X:Cx) (e:Expr) (t:TE):Prop:=
 ∀ (pins:List (Addr × Obj)) (s:Shared) (σ:St) (H:Hp) (Q:VK),a8 X pins σ H s->t σ H Q->wpAny (model X.prog X.w) X.A (eval e X.env) (EP X pins σ Q) X.xe s
def PT (X:Cx) (e:Expr) (t:TT):Prop:=
 ∀ (pins:List (Addr × Obj)) (s:Shared) (σ:St) (H:Hp) (Q:Bool->Hp->Prop),a8 X pins σ H s->t σ H Q->wpAny (model X.prog X.w) X.A (isTrue e X.env (eval e X.env)) (TP X pins σ Q) X.xe s
def PW (X:Cx) (e:Expr) (t:TT):Prop:=
 ∀ (whole:Sem Value) (pins:List (Addr × Obj)) (s:Shared) (σ:St) (H:Hp) (Q:Bool->Hp->Prop),a8 X pins σ H s->t σ H Q->wpAny (model X.prog X.w) X.A (isTrue e X.env whole) (TP X pins σ Q) X.xe s
theorem PW.pt {X:Cx}{e:Expr}{t:TT} (h:PW X e t):PT X e t:=h _
def PA (X:Cx) (es:List Expr) (t:TA):Prop:=
 ∀ (pos:Pos) (pins:List (Addr × Obj)) (s:Shared) (σ:St) (H:Hp) (Q:List V->Hp->Prop),a8 X pins σ H s->t σ H Q->wpAny (model X.prog X.w) X.A (spliced (backTo pos (starEach es X.env))) (AP X pins σ Q) X.xe s
def PS (X:Cx) (st:Stmt) (t:TS):Prop:=
 ∀ (pins:List (Addr × Obj)) (s:Shared) (σ:St) (H:Hp) (D:cQ),a8 X pins σ H s->t D σ H->wpAny (model X.prog X.w) X.A (exec st X.env) (SP X pins D) X.xe s
def dQ (X:Cx) (st:List Stmt) (t:TS):Prop:=
 ∀ (pins:List (Addr × Obj)) (s:Shared) (σ:St) (H:Hp) (D:cQ),a8 X pins σ H s->t D σ H->wpAny (model X.prog X.w) X.A (execs st X.env) (SP X pins D) X.xe s
theorem aM {α:Type}{t:Sem α}{Q Q':α->Shared->Prop}{M:Model}{A:Around}{E:Value->Shared->Prop}{s:Shared} (h:wpAny M A t Q E s) (hQ:∀ a s,Q a s->Q' a s):wpAny M A t Q' E s:=bo3 h hQ fun _ _ x=>x
section
variable {X : Cx}
theorem bin {a b:Expr}{ta tb:TE} (ha:PE X a ta) (hb:PE X b tb) {pins:List (Addr × Obj)}{s:Shared}{σ:St}{H:Hp}{R:V->V->Hp->Prop} (I:a8 X pins σ H s) (h:ta σ H fun x H1=>tb σ H1 fun y H2=>R x y H2)
  {α:Type}{Q:α->Shared->Prop}{f:Value->Value->Sem α}
  (hf:∀ v u s2 x y H2,a8 X pins σ H2 s2->aS x v->aS y u->R x y H2->wpAny (model X.prog X.w) X.A (f v u) Q X.xe s2) :
  wpAny (model X.prog X.w) X.A (eval a X.env) (fun v s₁=>wpAny (model X.prog X.w) X.A (eval b X.env) (fun u s₂=>wpAny (model X.prog X.w) X.A (f v u) Q X.xe s₂) X.xe s₁) X.xe s:=by
 refine aM (ha pins s σ H _ I h) fun v s1 ⟨x,H1,I1,r1,q1⟩=>?_
 refine aM (hb pins s1 σ H1 _ I1 q1) fun u s2 ⟨y,H2,I2,r2,q2⟩=>?_
 exact hf v u s2 x y H2 I2 r1 r2 q2
def gV (i:Nat):TE:=fun σ H Q=>∃ v,σ[i]? = some (some v)/\Q v H
def tC (v:V):TE:=fun _ H Q=>Q v H
theorem iF {i:Nat}{x:Str}{pos:Pos} (hN:X.N[i]? = some x) (hv:gE X.env.scope x) (hd:(x == ("__debug__" : Str))=false:=by decide) (hcd:(x == ("__classdict__" : Str))=false:=by decide):PE X (.Name x pos) (gV i):=by
 intro pins s σ H Q I h
 obtain ⟨v,e,h⟩:=h
 obtain ⟨m,hn,hl⟩:=I.loc
 obtain ⟨u,r,l⟩:=hl i x v hN e hv
 have fin:EP X pins σ Q u s:=⟨v,H,I,r,h⟩
 rcases l with ⟨hk,hm⟩ | ⟨hk,c,hc,hcell⟩
 ·exact wpAny_Name (wpAny_loadName_local I.ok.kind hk hn hm fin) hd
 ·rcases hk with hk | hk
  ·exact wpAny_Name (wpAny_loadName_cell I.ok.kind hk hc hcell fin) hd
  ·exact wpAny_Name (wpAny_loadName_free I.ok.kind hk hc hcell fin hcd) hd
theorem tU {i j pos}:PE X (.Constant (.int i) j pos) (tC (.int i)):=fun _ _ _ H _ I h=>wpAny_Constant_int ⟨.int i,H,I.tok _,⟨_,rfl⟩,h⟩
theorem aj1 {b j pos}:PE X (.Constant (.bool b) j pos) (tC (.bl b)):=fun _ _ _ H _ I h=>Constant_bool ⟨.bl b,H,I,rfl,h⟩
theorem aj2 {j pos}:PE X (.Constant .none j pos) (tC .non):=fun _ _ _ H _ I h=>Constant_none ⟨.non,H,I,rfl,h⟩
theorem aj3 {x j pos}:PE X (.Constant (.str x) j pos) (tC (.str x)):=fun _ _ _ H _ I h=>Calls.Constant_str ⟨.str x,H,I.tok _,⟨_,rfl⟩,h⟩
def Gl (X:Cx) (x:Str):Prop:=X.env.kindOf x=some .globalImplicit
theorem mZ {E:Value->Shared->Prop}{pins:List (Addr × Obj)}{s:Shared}{σ:St}{H:Hp}{x:Str}{u:Value}{pos:Pos}{Q:Value->Shared->Prop} (I:a8 X pins σ H s) (hg:Gl X x) (hm:X.mg x=some u) (h:Q u s)
  (hd:(x == ("__debug__" : Str))=false:=by decide):wpAny (model X.prog X.w) X.A (eval (.Name x pos) X.env) Q E s:=
 Calls.Name_function_global I.ok.kind hg (Calls.loadGlobal_global (by rw [I.ok.glob]; exact I.mod.glob.keeps I.bk) hm h) hd
theorem lK {E:Value->Shared->Prop}{pins:List (Addr × Obj)}{s:Shared}{σ:St}{H:Hp}{x:Str}{u:Value}{pos:Pos}{Q:Value->Shared->Prop} (I:a8 X pins σ H s) (hg:Gl X x) (hm:X.mg x=none) (hv:bootBuiltins x=some u) (h:Q u s)
  (hn:x ≠ "__name__":=by decide) (hd:(x == ("__debug__" : Str))=false:=by decide):wpAny (model X.prog X.w) X.A (eval (.Name x pos) X.env) Q E s:=by
 obtain ⟨mb,h1,h2⟩:=I.mod.blt
 exact Calls.Name_function_global I.ok.kind hg (Calls.loadGlobal_builtin (by rw [I.ok.glob]; exact I.mod.glob.keeps I.bk) hm (by rw [I.ok.blt]; exact h1.keeps I.bk) ((h2 x hn).trans hv) h) hd
theorem yZ {x:Str}{v:V}{u:Value}{pos:Pos} (hg:Gl X x) (hm:X.mg x=some u) (r:aS v u) (hd:(x == ("__debug__" : Str))=false:=by decide):PE X (.Name x pos) (tC v):=
 fun _ _ _ H _ I h=>mZ I hg hm ⟨v,H,I,r,h⟩ hd
theorem z9 {x:Str}{v:V}{u:Value}{pos:Pos} (hg:Gl X x) (hm:X.mg x=none) (hv:bootBuiltins x=some u) (r:aS v u) (hn:x ≠ "__name__":=by decide) (hd:(x == ("__debug__" : Str))=false:=by decide):PE X (.Name x pos) (tC v):=
 fun _ _ _ H _ I h=>lK I hg hm hv ⟨v,H,I,r,h⟩ hn hd
variable {a b : Expr} {ta tb : TE} {pos : Pos}
def PC (X:Cx) (op:CmpOp) (a b:Expr) (t:TE):Prop:=
 ∀ (pins:List (Addr × Obj)) (s:Shared) (σ:St) (H:Hp) (Q:VK),a8 X pins σ H s->t σ H Q->
  wpAny (model X.prog X.w) X.A (eval a X.env) (fun v s₁=>wpAny (model X.prog X.w) X.A (eval b X.env) (fun u s₂=>wpAny (model X.prog X.w) X.A (compareOp op v u) (EP X pins σ Q) X.xe s₂) X.xe s₁) X.xe s
def tB (t:TE):TT:=fun σ H Q=>t σ H fun x H1=>∃ c,x = .bl c/\Q c H1
theorem aj4 {op:CmpOp}{t:TE} (h:PC X op a b t) (h1:behindInMarks op b=false:=by first | exact nobehind _ (by decide) (by decide) | rfl):PE X (.Compare a [op] [b] pos) t:=fun pins s σ H Q I hw=>wpAny_Compare1 (h pins s σ H Q I hw) h1
theorem zA {op:CmpOp}{t:TE} (h:PC X op a b t) (h1:behindInMarks op b=false:=by first | exact nobehind _ (by decide) (by decide) | rfl):PT X (.Compare a [op] [b] pos) (tB t):=by
 intro pins s σ H Q I hw
 refine wpAny_isTrue_Compare1 (aM (h pins s σ H _ I hw) fun v s1 h1=>aM h1 fun u s2 h2=>aM h2 fun c s3 ⟨x,H1,I1,r1,q1⟩=>?_) h1
 obtain ⟨d,rfl,q⟩:=q1
 cases r1
 exact br9 ⟨H1,I1,q⟩
theorem aj5 {e:Expr}{t:TE} (h:PE X e t) (he:∀ whole,isTrue e X.env whole=(do let v <- whole; standAt e.pos; holding [v] (truthy v)):=by intro _; rfl):PT X e (tB t):=by
 intro pins s σ H Q I hw
 refine isTrue_plain (aM (h pins s σ H _ I hw) fun v s1 ⟨x,H1,I1,r1,q1⟩=>?_) (he _)
 obtain ⟨d,rfl,q⟩:=q1
 cases r1
 exact br9 ⟨H1,I1,q⟩
variable {tA tB' : TT} {cZ : List Expr}
def zB (t u:TT):TT:=fun σ H Q=>t σ H fun c H1=>if c=true then u σ H1 Q else Q false H1
def zC (t u:TT):TT:=fun σ H Q=>t σ H fun c H1=>if c=true then Q true H1 else u σ H1 Q
def zD (t:TT):TT:=fun σ H Q=>t σ H fun c H1=>Q (!c) H1
theorem aj6 (ha:PT X a tA):PW X (.BoolOp .And [a] pos) tA:=by
 intro wh pins s σ H Q I h
 refine isTrue_and (aM (ha pins s σ H Q I h) fun c s1 e=>?_)
 cases c with
 | true=>exact isTrue_and_nil e
 | false=>exact e
theorem aj7 (ha:PT X a tA):PW X (.BoolOp .Or [a] pos) tA:=by
 intro wh pins s σ H Q I h
 refine isTrue_or (aM (ha pins s σ H Q I h) fun c s1 e=>?_)
 cases c with
 | false=>exact isTrue_or_nil e
 | true=>exact e
theorem aj8 (ha:PT X a tA) (hb:PW X (.BoolOp .And (b :: cZ) pos) tB'):PW X (.BoolOp .And (a :: b :: cZ) pos) (zB tA tB'):=by
 intro wh pins s σ H Q I h
 refine isTrue_and (aM (ha pins s σ H _ I h) fun c s1 ⟨H1,I1,q1⟩=>?_)
 cases c with
 | true=>exact hb wh pins s1 σ H1 Q I1 q1
 | false=>exact⟨H1,I1,q1⟩
theorem aj9 (ha:PT X a tA) (hb:PW X (.BoolOp .Or (b :: cZ) pos) tB'):PW X (.BoolOp .Or (a :: b :: cZ) pos) (zC tA tB'):=by
 intro wh pins s σ H Q I h
 refine isTrue_or (aM (ha pins s σ H _ I h) fun c s1 ⟨H1,I1,q1⟩=>?_)
 cases c with
 | true=>exact⟨H1,I1,q1⟩
 | false=>exact hb wh pins s1 σ H1 Q I1 q1
theorem ak0 (ha:PT X a tA):PT X (.UnaryOp .Not a pos) (zD tA):=by
 intro pins s σ H Q I h
 exact isTrue_not (ha pins s σ H (fun c H1=>Q (!c) H1) I h)
def zE (ta tb:TE):TE:=fun σ H Q=>ta σ H fun x H1=>∃ c,x = .bl c/\if c=true then tb σ H1 Q else Q (.bl false) H1
def zF (ta:TE):TE:=fun σ H Q=>ta σ H fun x H1=>∃ c,x = .bl c/\Q (.bl (!c)) H1
theorem ak1 {op}{t:TE} (h:PE X a t):PE X (.BoolOp op [a] pos) t:=fun pins s σ H Q I hw=>BoolOp_one (h pins s σ H Q I hw)
theorem ak2 (ha:PE X a ta) (hb:PE X (.BoolOp .And (b :: cZ) pos) tb):PE X (.BoolOp .And (a :: b :: cZ) pos) (zE ta tb):=by
 intro pins s σ H Q I h
 refine BoolOp_and (aM (ha pins s σ H _ I h) fun v s1 ⟨x,H1,I1,r1,q1⟩=>?_)
 obtain ⟨c,rfl,q1⟩:=q1
 cases r1
 refine br9 ?_
 cases c with
 | true=>exact hb pins s1 σ H1 Q I1 q1
 | false=>exact⟨.bl false,H1,I1,rfl,q1⟩
theorem ak3 (ha:PE X a ta):PE X (.UnaryOp .Not a pos) (zF ta):=by
 intro pins s σ H Q I h
 refine UnaryOp_ (aM (ha pins s σ H _ I h) fun v s1 ⟨x,H1,I1,r1,q1⟩=>?_)
 obtain ⟨c,rfl,q1⟩:=q1
 cases r1
 exact not_of (br9 ⟨.bl (!c),H1,I1,rfl,q1⟩)
end
def aR (K:PySem.W.Frag) (H:Hp) (a:Addr) (xs:List V):Prop:=
 Rd H a (.lst xs) ∨
  ∃ (o:Obj) (its:Array Value) (n:Nat),K.lookup a=some o/\o.cls = .type "list"/\o.dict=none/\o.data = .seq its n/\its.size<=sizeLine/\aL xs its.toList
def aO (K:PySem.W.Frag) (H:Hp) (a:Addr) (xs:List V):Prop:=
 Rd H a (.tup xs) ∨
  ∃ (o:Obj) (its:Array Value) (n:Nat),K.lookup a=some o/\o.cls = .type "tuple"/\o.data = .seq its n/\its.size<=sizeLine/\aL xs its.toList
def ak4:Value->Option V
 | .none=>some .non
 | .bool b=>some (.bl b)
 | .int i _=>some (.int i)
 | .str x _=>some (.str x)
 | .bytes b _=>some (.byt b)
 | .float b _=>some (.flt b)
 | .ref a=>some (.ref a)
 | .type n=>some (.ty n)
 | _=>none
theorem aS.abs {x:V}{u:Value} (r:aS x u):ak4 u=some x:=by
 cases x with
 | non=>cases r; rfl
 | bl _=>cases r; rfl
 | int _=>obtain ⟨t,rfl⟩:=r; rfl
 | str _=>obtain ⟨t,rfl⟩:=r; rfl
 | byt _=>obtain ⟨t,rfl⟩:=r; rfl
 | flt _=>obtain ⟨t,rfl⟩:=r; rfl
 | ref _=>cases r; rfl
 | ty _=>cases r; rfl
theorem aS.inj {x y:V}{u:Value} (r:aS x u) (q:aS y u):x=y:=bk5 (r.abs.symm.trans q.abs)
theorem aL.inj:∀ {xs ys:List V}{us:List Value},aL xs us->aL ys us->xs=ys
 | _,_,_,.nil,.nil=>rfl
 | _,_,_,.cons r t,.cons r' t'=>by rw [r.inj r',aL.inj t t']
section
variable {X : Cx} {pins : List (Addr × Obj)} {σ : St} {H : Hp} {s : Shared} {a : Addr} {xs ys : List V}
theorem aR.of {K:PySem.W.Frag} (h:H a=some (.lst xs)):aR K H a xs:=.inl (.inl h)
theorem aO.of {K:PySem.W.Frag} (h:H a=some (.tup xs)):aO K H a xs:=.inl (.inl h)
theorem a8.list (I:a8 X pins σ H s) (h:aR X.K H a xs):∃ its:List Value,aL xs its/\PlainL s.heap a its.toArray/\xs.length<=sizeLine:=by
 rcases h with h | ⟨o,its,n,hk,hc,hd,hs,hz,r⟩
 ·obtain ⟨z,its,n,r,e⟩:=h.ok I.hok
  exact⟨its,r,⟨_,n,e,rfl,rfl,rfl⟩,z⟩
 ·refine⟨its.toList,r,⟨o,n,I.kIn a o hk,hc,hd,by simpa using hs⟩,?_⟩
  have e:=r.length
  simp only [bm0] at e
  omega
theorem a8.tuple (I:a8 X pins σ H s) (h:aO X.K H a xs):∃ its:List Value,aL xs its/\IsTup s.heap a its.toArray/\xs.length<=sizeLine:=by
 rcases h with h | ⟨o,its,n,hk,hc,hs,hz,r⟩
 ·obtain ⟨z,its,r,p,_⟩:=h.ok I.hok
  exact⟨its,r,p,z⟩
 ·refine⟨its.toList,r,⟨o,I.kIn a o hk,hc,n,by simpa using hs⟩,?_⟩
  have e:=r.length
  simp only [bm0] at e
  omega
theorem a8.list_inj (I:a8 X pins σ H s) (h:aR X.K H a xs) (h':aR X.K H a ys):xs=ys:=by
 obtain ⟨its,r,⟨o,n,e,_,_,d⟩,_⟩:=I.list h
 obtain ⟨its',r',⟨o',n',e',_,_,d'⟩,_⟩:=I.list h'
 rw [e] at e'; cases e'
 rw [d] at d'
 injection d' with d1 _
 have:its=its':=by simpa using congrArg Array.toList d1
 subst this
 exact r.inj r'
theorem a8.tuple_inj (I:a8 X pins σ H s) (h:aO X.K H a xs) (h':aO X.K H a ys):xs=ys:=by
 obtain ⟨its,r,⟨o,e,_,n,d⟩,_⟩:=I.tuple h
 obtain ⟨its',r',⟨o',e',_,n',d'⟩,_⟩:=I.tuple h'
 rw [e] at e'; cases e'
 rw [d] at d'
 injection d' with d1 _
 have:its=its':=by simpa using congrArg Array.toList d1
 subst this
 exact r.inj r'
end
abbrev Cx.wish (X:Cx) (E:Value->Shared->Prop):Cx:={ X with xe:=E }
abbrev Cx.nox (X:Cx):Cx:=X.wish fun _ _=>False
theorem Cx.Ok.wish {X:Cx} (ok:X.Ok) (E:Value->Shared->Prop):(X.wish E).Ok:=
 ⟨ok.mod,ok.kind,ok.glob,ok.blt,ok.above,ok.inj,ok.has,ok.cab,ok.hd,ok.frames,ok.stk,ok.exf,ok.bs,ok.bsz,ok.noex,ok.exfs,ok.funs,ok.frf⟩
theorem Cx.Ok.unwish {X:Cx}{E:Value->Shared->Prop} (ok:(X.wish E).Ok):X.Ok:=
 ⟨ok.mod,ok.kind,ok.glob,ok.blt,ok.above,ok.inj,ok.has,ok.cab,ok.hd,ok.frames,ok.stk,ok.exf,ok.bs,ok.bsz,ok.noex,ok.exfs,ok.funs,ok.frf⟩
section
variable {X : Cx} {pins : List (Addr × Obj)} {σ : St} {H : Hp} {s : Shared} {E : Value → Shared → Prop}
theorem a8.wish (I:a8 X pins σ H s) (E:Value->Shared->Prop):a8 (X.wish E) pins σ H s:=⟨I.ok.wish E,I.os,I.bare,I.base,I.loc,I.cell,I.free,I.freeC,I.pin,I.hok,I.len⟩
theorem a8.unwish (I:a8 (X.wish E) pins σ H s):a8 X pins σ H s:=⟨I.ok.unwish,I.os,I.bare,I.base,I.loc,I.cell,I.free,I.freeC,I.pin,I.hok,I.len⟩
theorem SP.unwish {D:cQ}{f:Flow}{s':Shared} (h:SP (X.wish E) pins D f s'):SP X pins D f s':=by
 cases f with
 | next=>obtain ⟨σ',H',I,q⟩:=h; exact⟨σ',H',I.unwish,q⟩
 | brk=>obtain ⟨σ',H',I,q⟩:=h; exact⟨σ',H',I.unwish,q⟩
 | cont=>obtain ⟨σ',H',I,q⟩:=h; exact⟨σ',H',I.unwish,q⟩
 | ret u=>obtain ⟨v,σ',H',I,r,q⟩:=h; exact⟨v,σ',H',I.unwish,r,q⟩
theorem dQ.nox {st:List Stmt}{t:TS} (h:dQ X.nox st t):dQ X st t:=fun pins s σ H D I hw=>
 bo3 (h pins s σ H D (I.wish _) hw) (fun _ _ q=>q.unwish) fun _ _ z=>False.elim z
end
section
variable {X : Cx} {st : Stmt} {cZ : List Stmt} {t u : TS} {e : Expr} {te : TE} {pos : Pos}
def zG:TS:=fun D σ H=>D.nx σ H
def zH (t u:TS):TS:=fun D σ H=>t { D with nx:=u D } σ H
theorem ak5:dQ X [] zG:=fun _ _ σ H _ I h=>bw1 ⟨σ,H,I,h⟩
theorem pE (h1:PS X st t) (h2:dQ X cZ u):dQ X (st :: cZ) (zH t u):=by
 intro pins s σ H D I h
 refine wpAny_execs_cons (aM (h1 pins s σ H { D with nx:=u D } I h) fun f s1 q=>?_)
 cases f with
 | next=>
  obtain ⟨σ',H',I',q⟩:=q
  exact h2 pins s1 σ' H' D I' q
 | ret v=>exact q
 | brk=>exact q
 | cont=>exact q
theorem tV (h1:PS X st t):dQ X [st] t:=by
 intro pins s σ H D I h
 refine wpAny_execs_cons (aM (h1 pins s σ H D I h) fun f s1 q=>?_)
 cases f with
 | next=>exact bw1 q
 | ret v=>exact q
 | brk=>exact q
 | cont=>exact q
theorem a8.quiet {pins:List (Addr × Obj)}{σ:St}{H:Hp}{s:Shared} (I:a8 X pins σ H s):interactive X.env=false:=by simp [interactive,I.ok.kind]
def pF (te:TE):TS:=fun D σ H=>te σ H fun _ H1=>D.nx σ H1
theorem nA (he:PE X e te) (hs:swapsWith e none pos.line X.env=pure false:=by rfl):PS X (.Expr e pos) (pF te):=by
 intro pins s σ H D I h
 exact wpAny_Expr_any (aM (he pins s σ H _ I h) fun v s1 ⟨x,H1,I1,r1,q1⟩=>⟨σ,H1,I1,q1⟩) I.quiet hs
def tW (te:TE):TS:=fun D σ H=>te σ H D.rt
theorem tX (he:PE X e te):PS X (.Return (some e) pos) (tW te):=by
 intro pins s σ H D I h
 exact wpAny_Return_some (aM (he pins s σ H _ I h) fun v s1 ⟨x,H1,I1,r1,q1⟩=>⟨x,σ,H1,I1,r1,q1⟩)
def zI (c:TT) (t u:TS):TS:=fun D σ H=>c σ H fun b H1=>if b=true then t D σ H1 else u D σ H1
theorem ak6 {c:Expr}{a b:List Stmt}{tc:TT} (hc:PT X c tc) (ha:dQ X a t) (hb:dQ X b u):PS X (.If c a b pos) (zI tc t u):=by
 intro pins s σ H D I h
 refine wpAny_If (aM (hc pins s σ H _ I h) fun d s1 ⟨H1,I1,q1⟩=>?_)
 cases d with
 | true=>exact ha pins s1 σ H1 D I1 q1
 | false=>exact hb pins s1 σ H1 D I1 q1
def ak7:TS:=fun _ _ _=>False
theorem ak8:PS X st ak7:=fun _ _ _ _ _ _ h=>h.elim
end
abbrev TG:=V->St->Hp->(St->Hp->Prop)->Prop
abbrev kQ:=List V->St->Hp->(St->Hp->Prop)->Prop
def PG (X:Cx) (target:Expr) (t:TG):Prop:=
 ∀ (pins:List (Addr × Obj)) (s:Shared) (σ:St) (H:Hp) (v:V) (u:Value) (Q:St->Hp->Prop),a8 X pins σ H s->aS v u->t v σ H Q->
  wpAny (model X.prog X.w) X.A (assign target X.env u) (fun _ s'=>∃ σ' H',a8 X pins σ' H' s'/\Q σ' H') X.xe s
def pG (X:Cx) (ts:List Expr) (t:kQ):Prop:=
 ∀ (pins:List (Addr × Obj)) (s:Shared) (σ:St) (H:Hp) (vs:List V) (us:List Value) (Q:St->Hp->Prop),a8 X pins σ H s->aL vs us->t vs σ H Q->
  wpAny (model X.prog X.w) X.A (assignInOrder ((assignEach ts X.env).map (·.2)) us) (fun _ s'=>∃ σ' H',a8 X pins σ' H' s'/\Q σ' H') X.xe s
abbrev tY:=V->V->V->Hp->(Hp->Prop)->Prop
def zJ (X:Cx) (t:tY):Prop:=
 ∀ (pins:List (Addr × Obj)) (s:Shared) (σ:St) (H:Hp) (o i v:V) (ov iv u:Value) (Q:Hp->Prop),a8 X pins σ H s->aS o ov->aS i iv->aS v u->t o i v H Q->
  wpAny (model X.prog X.w) X.A (setItem ov iv u) (fun _ s'=>∃ H',a8 X pins σ H' s'/\Q H') X.xe s
section
variable {X : Cx} {pos : Pos}
def dF (i:Nat):TG:=fun v σ H Q=>Q (σ.set i (some v)) H
theorem gW {i:Nat}{x:Str} (hN:X.N.Nodup) (hi:X.N[i]? = some x) (hx:gF X.env.scope x) (hf:X.fn x=true ∨ X.env.scope.names.lookup x=some .local:=by first | exact .inl rfl | exact .inr rfl | assumption):PG X (.Name x pos) (dF i):=by
 intro pins s σ H v u Q I r h
 exact wpAny_assign_Name (tT I hN hi hx r (fun s' I'=>⟨_,H,I',h⟩) hf)
def lM:kQ:=fun vs σ H Q=>vs = []/\Q σ H
def gX (t:TG) (u:kQ):kQ:=fun vs σ H Q=>∃ v r,vs=v :: r/\t v σ H fun σ' H'=>u r σ' H' Q
theorem nB:pG X [] lM:=by
 intro pins s σ H vs us Q I r h
 obtain ⟨e,h⟩:=h
 subst e
 cases r
 exact assignInOrder_nil ⟨σ,H,I,h⟩
theorem iG {e:Expr}{es:List Expr}{t:TG}{u:kQ} (h1:PG X e t) (h2:pG X es u)
  (hs:(assignEach (e :: es) X.env).map (·.2)=assign e X.env :: (assignEach es X.env).map (·.2):=by rfl):pG X (e :: es) (gX t u):=by
 intro pins s σ H vs us Q I r h
 obtain ⟨v,vr,e1,h⟩:=h
 subst e1
 cases r with
 | cons r rr=>
  rw [hs]
  refine assignInOrder_cons (aM (h1 pins s σ H _ _ _ I r h) fun _ s1 ⟨σ1,H1,I1,q1⟩=>?_)
  exact h2 pins s1 σ1 H1 _ _ Q I1 rr q1
def lN (K:PySem.W.Frag) (n:Nat) (t:kQ):TG:=fun v σ H Q=>∃ a xs,v = .ref a/\aO K H a xs/\xs.length=n/\t xs σ H Q
theorem nC {es:List Expr}{k:Nat}{t:kQ}{n:Nat} (hc:X.calm=true) (h:pG X es t)
  (hn:(assignEach es X.env).length=n:=by rfl) (hst:(assignEach es X.env).findIdx? (·.1)=none:=by rfl):PG X (.Tuple es k pos) (lN X.K n t):=by
 intro pins s σ H v u Q I r hw
 obtain ⟨a,xs,e1,hq,hl,hw⟩:=hw
 subst e1
 cases r
 obtain ⟨its,rv,ht,hz⟩:=I.tuple hq
 refine assign_Tuple_tuple (I.ok.hd hc) ht (by simp [hn,<- hl,rv.length]) hst fun h' hx=>?_
 have I1:a8 X pins σ H { s with heap:=h' }:=I.kept (t':=s.toks) fun b o e=>hx b o (bk6 (bi4 e)) e
 exact h pins _ σ H xs _ Q I1 (by simpa using rv) hw
def nD (to ti:TE) (t:tY):TG:=fun v σ H Q=>to σ H fun o H1=>ti σ H1 fun i H2=>t o i v H2 fun H3=>Q σ H3
theorem zK {o i:Expr}{to ti:TE}{t:tY} (ho:PE X o to) (hi:PE X i ti) (hs:zJ X t)
  (ha:∀ v,assign (.Subscript o i pos) X.env v=(do
   let ov <- holding [v] (eval o X.env)
   let iv <- holding [v,ov] (eval i X.env)
   standAt pos
   holding [v,ov,iv] (setItem ov iv v)
   release [v,ov,iv] []):=by intro _; rfl):PG X (.Subscript o i pos) (nD to ti t):=by
 intro pins s σ H v u Q I r h
 rw [ha]
 refine bh0 (bp7 (aM (ho pins s σ H _ I h) fun ov s1 ⟨x,H1,I1,r1,q1⟩=>?_))
 refine bh0 (bp7 (aM (hi pins s1 σ H1 _ I1 q1) fun iv s2 ⟨y,H2,I2,r2,q2⟩=>?_))
 refine bh0 (wpAny_standAt (bh0 (bp7 (aM (hs pins s2 σ H2 x y v ov iv u _ I2 r1 r2 r q2) fun _ s3 ⟨H3,I3,q3⟩=>?_))))
 exact wpAny_release ⟨σ,H3,I3,q3⟩
def jA (te:TE) (g:TG):TS:=fun D σ H=>te σ H fun x H1=>g x σ H1 D.nx
theorem zL {tg e:Expr}{te:TE}{g:TG} (he:PE X e te) (hg:PG X tg g) (hs:swapsWithSole [tg] e pos.line X.env=pure false:=by rfl) (hw:swappedStores [tg] e X.env=pure none:=by rfl)
  (h1:(assignEach [tg] X.env).map (·.2) = [assign tg X.env]:=by rfl):PS X (.Assign [tg] e pos) (jA te g):=by
 intro pins s σ H D I h
 refine wpAny_Assign_stores (aM (he pins s σ H _ I h) fun v s1 ⟨x,H1,I1,r1,q1⟩=>?_) hs hw
 rw [h1]
 exact aM (hg pins s1 σ H1 x v _ I1 r1 q1) fun _ s2 q=>q
theorem tZ {i:Nat}{x:Str}{e:Expr}{te:TE}{pos':Pos} (hN:X.N.Nodup) (hi:X.N[i]? = some x) (hx:gF X.env.scope x) (he:PE X e te) (hs:swapsWith e (some (.Name x pos')) pos.line X.env=pure false:=by rfl) (hf:X.fn x=true ∨ X.env.scope.names.lookup x=some .local:=by first | exact .inl rfl | exact .inr rfl | assumption) :
  PS X (.Assign [.Name x pos'] e pos) (jA te (dF i)):=by
 intro pins s σ H D I h
 refine wpAny_Assign_Name (aM (he pins s σ H _ I h) fun v s1 ⟨y,H1,I1,r1,q1⟩=>?_) hs
 exact tT I1 hN hi hx r1 (fun s2 I2=>⟨_,H1,I2,q1⟩) hf
end
section
variable {X : Cx} {pos : Pos}
def zM (c:TT) (tb:TS):TS:=fun D σ H=>∃ W:Nat->St->Hp->Prop,(∃ m,W m σ H)/\∀ m σ H,W m σ H->
 c σ H fun b H1=>if b=true then ∃ N:St->Hp->Prop,(∀ σ' H',N σ' H'->∃ m',m' < m/\W m' σ' H')/\tb { D with nx:=N,ct:=N,bk:=D.nx } σ H1 else D.nx σ H1
theorem ak9 {c:Expr}{body:List Stmt}{tc:TT}{tb:TS} (hp:PassesOwn (model X.prog X.w) X.A X.env X.xe) (hc:PT X c tc) (hb:dQ X body tb):PS X (.While c body [] pos) (zM tc tb):=by
 intro pins s σ H D I h
 obtain ⟨W,⟨m0,w0⟩,turn⟩:=h
 refine wpAny_While (codeAny_whileLoop (fun n s'=>∃ σ' H',a8 X pins σ' H' s'/\W n σ' H') ?_ m0 ⟨σ,H,I,w0⟩)
 rintro n s1 ⟨σ1,H1,I1,w1⟩
 refine bw2 hp (aM (hc pins s1 σ1 H1 _ I1 (turn n σ1 H1 w1)) fun b s2 ⟨H2,I2,q2⟩=>?_)
 cases b with
 | true=>
  obtain ⟨N,hN,q2⟩:=q2
  rw [if_pos rfl]
  refine bw2 hp (aM (hb pins s2 σ1 H2 _ I2 q2) fun f s3 q3=>?_)
  cases f with
  | next=>
   obtain ⟨σ3,H3,I3,n3⟩:=q3
   obtain ⟨m',hm,w3⟩:=hN σ3 H3 n3
   exact⟨m',hm,σ3,H3,I3,w3⟩
  | cont=>
   obtain ⟨σ3,H3,I3,n3⟩:=q3
   obtain ⟨m',hm,w3⟩:=hN σ3 H3 n3
   exact⟨m',hm,σ3,H3,I3,w3⟩
  | brk=>exact q3
  | ret v=>exact q3
 | false=>
  rw [if_neg bj6]
  exact bw1 ⟨σ1,H2,I2,q2⟩
end
structure It where
 go:Nat->Hp->Prop
 yld:Nat->Hp->V->Hp->Prop
 stop:Nat->Hp->Prop
def fR (X:Cx) (pins:List (Addr × Obj)) (H:Hp) (b:Addr):Prop:=
 H b=none/\b ≠ X.env.locals/\b ∉ X.fs/\(b ∈ X.ex ∨ X.s₀.heap.objs.size<=b)/\(∀ x c,X.env.cells.lookup x=some c->c ≠ b)/\∀ p ∈ X.pn ++ pins,p.1 ≠ b
theorem a8.fpOk {X:Cx}{pins:List (Addr × Obj)}{σ:St}{H H':Hp}{s:Shared}{b:Addr} (I:a8 X pins σ H s) (hb:s.heap.objs.size<=b) (hn:H' b=none):fR X pins H' b:=by
 refine⟨hn,bq0 (bi8 I.lt hb),I.nofs hb,.inr (bm4 I.sz hb),fun x c e z=>?_,fun p hp z=>?_⟩
 ·obtain ⟨v,q⟩:=I.cell x c e
  exact absurd (bi8 q.lt (by rw [z]; exact hb)) (bo2 _)
 ·exact absurd (bi8 (bi4 (I.pin p hp).1) (by rw [z]; exact hb)) (bo2 _)
structure iH (P:Program) (w:World) (K:PySem.W.Frag) (tg:Expr) (J:It) (fp:List Addr) (it:Addr) (tn:Nat->Heap->Prop):Prop where
 mem:it ∈ fp
 obj:∀ i h,tn i h->∀ b ∈ fp,∃ o,h.get? b=some o/\∀ v,o.data ≠ .cell v
 keep:∀ i h h',tn i h->(∀ b ∈ fp,∀ o,h.get? b=some o->h'.get? b=some o)->tn i h'
 item:∀ (X:Cx),X.prog=P->X.w=w->X.K=K->X.calm=true->∀ (i:Nat) (pins:List (Addr × Obj)) (s:Shared) (σ:St) (H:Hp) (E:Value->Shared->Prop),a8 X pins σ H s->(∀ b ∈ fp,fR X pins H b)->tn i s.heap->J.go i H->
  wpAny (model P w) X.A (pyNext (.ref it)) (fun r s1=>∃ u,r=some u/\
   wpAny (model P w) X.A (letOwnedTupleGo tg (.ref it) u) (fun _ s2=>∃ x H',a8 X pins σ H' s2/\aS x u/\J.yld i H x H'/\tn (i+1) s2.heap/\∀ b ∈ fp,H' b=none) E s1) E s
 done:∀ (X:Cx),X.prog=P->X.w=w->X.K=K->X.calm=true->∀ (i:Nat) (pins:List (Addr × Obj)) (s:Shared) (σ:St) (H:Hp) (E:Value->Shared->Prop),a8 X pins σ H s->(∀ b ∈ fp,fR X pins H b)->tn i s.heap->J.stop i H->
  wpAny (model P w) X.A (pyNext (.ref it)) (fun r s1=>r=none/\a8 X pins σ H s1) E s
 self:∀ (A:Around) (i:Nat) (s:Shared) (Q:Value->Shared->Prop) (E:Value->Shared->Prop),tn i s.heap->Q (.ref it) s->wpAny (model P w) A (pyIter (.ref it)) Q E s
abbrev TI:=St->Hp->(It->Hp->Prop)->Prop
def zN (X:Cx) (pins:List (Addr × Obj)) (σ:St) (tg:Expr) (R:It->Hp->Prop) (itv:Value) (s2:Shared):Prop:=
 ∃ (it:Addr) (fp:List Addr) (tn:Nat->Heap->Prop) (J:It) (H':Hp),itv = .ref it/\a8 X pins σ H' s2/\iH X.prog X.w X.K tg J fp it tn/\tn 0 s2.heap/\(∀ b ∈ fp,fR X pins H' b)/\R J H'
def PI (X:Cx) (tg iter:Expr) (wi:TI):Prop:=
 ∀ (pins:List (Addr × Obj)) (s:Shared) (σ:St) (H:Hp) (R:It->Hp->Prop),a8 X pins σ H s->wi σ H R->
  wpAny (model X.prog X.w) X.A (eval iter X.env) (fun v s1=>wpAny (model X.prog X.w) X.A (pyIter v) (zN X pins σ tg R) X.xe s1) X.xe s
theorem u5 {M:Model}{A:Around}{E:Value->Shared->Prop}{s:Shared}{tg:Expr}{it:Addr}{u:Value}{o:Obj}{n:String}{vs:Array Value}{Q:Unit->Shared->Prop} (ho:s.heap.get? it=some o) (hc:o.cls = .type n) (hd:o.data = .fields vs)
    (hn : ["enumerate","zip","dict_itemiterator","dict_reverseitemiterator","odict_iterator","itertools.zip_longest","itertools.pairwise"].contains n=false) (hQ:Q () s):wpAny M A (letOwnedTupleGo tg (.ref it) u) Q E s:=by
  unfold letOwnedTupleGo
  cases tg <;> first
    | exact bh6 hQ
    | (cases u <;> first
        | exact bh6 hQ
        | (refine bh0 (wpAny_load ho ?_)
           rw [hc,hd]
           show wpAny M A (if (["enumerate","zip","dict_itemiterator","dict_reverseitemiterator","odict_iterator","itertools.zip_longest","itertools.pairwise"].contains n && vs[0]? == some (rawInt _))=true then _ else _) Q E s
           rw [if_neg (by intro h; rw [hn,bu0] at h; cases h)]
           exact bh6 hQ))
def lO (K:PySem.W.Frag) (a:Addr):It:=
 ⟨fun i H=>∃ xs x,aR K H a xs/\xs[i]? = some x,fun i H x H'=>H'=H/\∀ xs,aR K H a xs->xs[i]? = some x,fun i H=>∃ xs,aR K H a xs/\xs.length<=i⟩
def jX (K:PySem.W.Frag) (a:Addr):It:=
 ⟨fun i H=>∃ xs x,aO K H a xs/\xs[i]? = some x,fun i H x H'=>H'=H/\∀ xs,aO K H a xs->xs[i]? = some x,fun i H=>∃ xs,aO K H a xs/\xs.length<=i⟩
def pH (lo:Int) (n:Nat):It:=⟨fun i _=>i < n,fun i H x H'=>H'=H/\x = .int (lo+i),fun i _=>n<=i⟩
theorem al0 {P:Program}{w:World}{K:PySem.W.Frag}{tg:Expr} (a it:Addr):iH P w K tg (lO K a) [it] it (fun i h=>h.IsListIter it a i) where
 mem:=by simp
 obj:=fun i h st b hb=>by
  have e:b=it:=by simpa using hb
  subst e
  obtain ⟨o,e,c,d⟩:=st
  exact⟨o,e,fun v z=>by rw [d] at z; cases z⟩
 keep:=fun i h h' st k=>st.at fun o e=>k it (by simp) o e
 item:=by
  intro X hP hw hK hc i pins s σ H E I hf st hg
  subst hP hw hK
  obtain ⟨xs,x,hq,hx⟩:=hg
  obtain ⟨its,rv,p,hz⟩:=I.list hq
  obtain ⟨u,hu,ru⟩:=rv.get hx
  obtain ⟨f0,f1,f2,f3,f4,f5⟩:=hf it (by simp)
  refine wpAny_pyNext_list_item st p.isList (x:=u) (by simpa using hu) fun h' st' sb=>?_
  have I1:a8 X pins σ H { s with heap:=h' }:=I.turned (t':=s.toks) (fun b o hb e=>(sb.2 b hb).trans e) f0 f1 f3 f4 f5
  obtain ⟨o,e,c,d⟩:=id st'
  exact⟨u,rfl,u5 (s:={ s with heap:=h' }) e c d (by decide) ⟨x,H,I1,ru,⟨rfl,fun ys hy=>by rw [I.list_inj hy hq]; exact hx⟩,st',fun b hb=>(hf b hb).1⟩⟩
 done:=by
  intro X hP hw hK hc i pins s σ H E I hf st hg
  subst hP hw hK
  obtain ⟨xs,hq,hx⟩:=hg
  obtain ⟨its,rv,p,hz⟩:=I.list hq
  obtain ⟨f0,f1,f2,f3,f4,f5⟩:=hf it (by simp)
  have hl:=rv.length
  exact wpAny_pyNext_list_end (I.ok.hd hc) st p.isList (by simp; omega) fun h' eb=>⟨rfl,I.turned (t':=s.toks) (fun b o hb e=>eb b o hb e) f0 f1 f3 f4 f5⟩
 self:=fun _ _ _ _ _ st h=>wpAny_pyIter_listiter st h
theorem zO {P:Program}{w:World}{K:PySem.W.Frag}{tg:Expr} (a it:Addr):iH P w K tg (jX K a) [it] it (fun i h=>h.IsTupleIter it a i) where
 mem:=by simp
 obj:=fun i h st b hb=>by
  have e:b=it:=by simpa using hb
  subst e
  obtain ⟨o,e,c,d⟩:=st
  exact⟨o,e,fun v z=>by rw [d] at z; cases z⟩
 keep:=fun i h h' st k=>st.at fun o e=>k it (by simp) o e
 item:=by
  intro X hP hw hK hc i pins s σ H E I hf st hg
  subst hP hw hK
  obtain ⟨xs,x,hq,hx⟩:=hg
  obtain ⟨its,rv,p,hz⟩:=I.tuple hq
  obtain ⟨u,hu,ru⟩:=rv.get hx
  obtain ⟨f0,f1,f2,f3,f4,f5⟩:=hf it (by simp)
  refine wpAny_pyNext_tuple_item st (show s.heap.IsTuple a its.toArray from p) (x:=u) (by simpa using hu) fun h' st' sb=>?_
  have I1:a8 X pins σ H { s with heap:=h' }:=I.turned (t':=s.toks) (fun b o hb e=>(sb.2 b hb).trans e) f0 f1 f3 f4 f5
  obtain ⟨o,e,c,d⟩:=id st'
  exact⟨u,rfl,u5 (s:={ s with heap:=h' }) e c d (by decide) ⟨x,H,I1,ru,⟨rfl,fun ys hy=>by rw [I.tuple_inj hy hq]; exact hx⟩,st',fun b hb=>(hf b hb).1⟩⟩
 done:=by
  intro X hP hw hK hc i pins s σ H E I hf st hg
  subst hP hw hK
  obtain ⟨xs,hq,hx⟩:=hg
  obtain ⟨its,rv,p,hz⟩:=I.tuple hq
  obtain ⟨f0,f1,f2,f3,f4,f5⟩:=hf it (by simp)
  have hl:=rv.length
  exact wpAny_pyNext_tuple_end (I.ok.hd hc) st (show s.heap.IsTuple a its.toArray from p) (by simp; omega) fun h' eb=>⟨rfl,I.turned (t':=s.toks) (fun b o hb e=>eb b o hb e) f0 f1 f3 f4 f5⟩
 self:=fun _ _ _ _ _ st h=>wpAny_pyIter_tupleiter st h
theorem al1 {P:Program}{w:World}{K:PySem.W.Frag}{tg:Expr} (it:Addr) (lo:Int) (n:Nat):iH P w K tg (pH lo n) [it] it (fun i h=>IsRangeIter h it (lo+(i:Nat) * 1) ((n:Int) - (i:Nat)) 1) where
 mem:=by simp
 obj:=fun i h st b hb=>by
  have e:b=it:=by simpa using hb
  subst e
  exact⟨_,st,fun v z=>by
   have z':Data.fields _=Data.cell v:=z
   cases z'⟩
 keep:=fun i h h' st k=>k it (by simp) _ st
 item:=by
  intro X hP hw hK hc i pins s σ H E I hf st hg
  subst hP hw hK
  obtain ⟨f0,f1,f2,f3,f4,f5⟩:=hf it (by simp)
  have W:=Walks.range (prog:=X.prog) (w:=X.w) (I.ok.hd hc) it lo 1 n
  refine W.item i s _ _ hg st fun v h' tk hv st' kk=>?_
  obtain ⟨t,rfl⟩:=hv
  have I1:a8 X pins σ H { s with heap:=h',toks:=tk }:=I.turned (fun b o hb e=>kk b o (by simpa using hb) e) f0 f1 f3 f4 f5
  refine⟨_,rfl,u5 (s:={ s with heap:=h',toks:=tk }) (n:="range_iterator") st' rfl rfl (by decide) ⟨.int (lo+i),H,I1,⟨t,?_⟩,⟨rfl,rfl⟩,st',fun b hb=>(hf b hb).1⟩⟩
  rw [Int.mul_one]
 done:=by
  intro X hP hw hK hc i pins s σ H E I hf st hg
  subst hP hw hK
  obtain ⟨f0,f1,f2,f3,f4,f5⟩:=hf it (by simp)
  exact wpAny_pyNext_range_end (I.ok.hd hc) st (by have:n<=i:=hg; omega) fun h' eb=>⟨rfl,I.turned (t':=s.toks) (fun b o hb e=>eb b o hb e) f0 f1 f3 f4 f5⟩
 self:=fun _ _ _ _ _ st h=>wpAny_pyIter_rangeiter st h
section
variable {X : Cx} {tg : Expr}
def al2 (K:PySem.W.Frag) (tl:TE):TI:=fun σ H R=>tl σ H fun x H1=>∃ a,x = .ref a/\(∃ xs,aO K H1 a xs)/\R (jX K a) H1
theorem zP {l:Expr}{tl:TE} (hl:PE X l tl):PI X tg l (al2 X.K tl):=by
 intro pins s σ H R I h
 refine aM (hl pins s σ H _ I h) fun v s1 ⟨x,H1,I1,r1,q1⟩=>?_
 obtain ⟨a,e,⟨xs,hq⟩,q⟩:=q1
 subst e
 cases r1
 obtain ⟨its,rv,p,hz⟩:=I1.tuple hq
 refine bt1 (show s1.heap.IsTuple a its.toArray from p) ?_
 refine⟨s1.heap.objs.size,[s1.heap.objs.size],_,_,H1,rfl,I1.kept (t':=s1.toks) fun b o e=>bh1 _ e,zO a _,⟨_,bj1 _ rfl,rfl,rfl⟩,fun b hb=>?_,q⟩
 have e:b=s1.heap.objs.size:=by simpa using hb
 subst e
 exact I1.fpOk (bh7 _) (I1.hok.fresh (bh7 _))
theorem al3 {pins:List (Addr × Obj)}{σ:St}{H:Hp}{s:Shared}{R:It->Hp->Prop}{E:Value->Shared->Prop}{lo hi:Int}{t u v:Tok}{tk:Nat} (I:a8 X pins σ H s) (h1 : -(2 ^ 62)<=lo) (h2:lo < 2 ^ 62) (h3 : -(2 ^ 62)<=hi) (h4:hi < 2 ^ 62)
  (q:R (pH lo (hi - lo).toNat) H):wpAny (model X.prog X.w) X.A (pyIter (.ref s.heap.objs.size)) (zN X pins σ tg R) E { s with heap:=s.heap.push { cls:=.type "range",data:=.fields #[.int lo t,.int hi u,.int 1 v] },toks:=tk }:=by
 refine wpAny_pyIter_range (IsRange.new ..) (small_one h1 h2 h3 h4) ?_
 have I1:a8 X pins σ H { s with heap:=s.heap.push { cls:=.type "range",data:=.fields #[.int lo t,.int hi u,.int 1 v] },toks:=tk }:=I.kept fun b o e=>bh1 _ e
 refine⟨(s.heap.push { cls:=.type "range",data:=.fields #[.int lo t,.int hi u,.int 1 v] }).objs.size,[(s.heap.push { cls:=.type "range",data:=.fields #[.int lo t,.int hi u,.int 1 v] }).objs.size],_,_,H,rfl,
  I1.kept (t':=tk) fun b o e=>bh1 _ e,al1 _ lo (hi - lo).toNat,?_,fun b hb=>?_,q⟩
 ·have e1:lo+((0:Nat):Int) * 1=lo:=by simp
  have e2:(((hi - lo).toNat:Nat):Int) - ((0:Nat):Int)=Builtin.Range.rangeSize lo hi 1:=by rw [rangeSize_one]; split <;> omega
  show IsRangeIter _ _ (lo+((0:Nat):Int) * 1) ((((hi - lo).toNat:Nat):Int) - ((0:Nat):Int)) 1
  rw [e1,e2]
  exact bj1 _ rfl
 ·have e:b=(s.heap.push { cls:=.type "range",data:=.fields #[.int lo t,.int hi u,.int 1 v] }).objs.size:=by simpa using hb
  subst e
  exact I1.fpOk (bh7 _) (I1.hok.fresh (bh7 _))
def zQ (ta:TA):TI:=fun σ H R=>ta σ H fun vs H1=>∃ j:Int,vs = [.int j]/\-(2 ^ 62)<=j/\j < 2 ^ 62/\R (pH 0 j.toNat) H1
theorem al4 {a:Expr}{ta:TA}{p pos:Pos} (hg:Gl X "range") (hm:X.mg "range" = none) (ha:PA X [a] ta) (hs:starEach [a] X.env = [(false,eval a X.env)]:=by rfl):PI X tg (.Call (.Name "range" p) [a] [] pos) (zQ ta):=by
 intro pins s σ H R I h
 refine Call_ (lK I hg hm boot_range (bu8 (aM (ha pos pins s σ H _ I h) fun us s1 ⟨vs,H1,I1,r1,q1⟩=>?_) hs rfl))
 obtain ⟨j,e,q1,q2,q⟩:=q1
 subst e
 cases r1 with
 | cons r rr=>
  cases rr
  obtain ⟨t,rfl⟩:=r
  exact call_range_1 (al3 I1 (by omega) (by omega) q1 q2 (by simpa using q))
def zR (wi:TI) (g:TG) (tb:TS):TS:=fun D σ H=>wi σ H fun J H1=>∃ W:Nat->Nat->St->Hp->Prop,(∃ m,W 0 m σ H1)/\∀ i m σ H,W i m σ H->
 (J.stop i H/\D.nx σ H) ∨ (J.go i H/\∃ N:St->Hp->Prop,(∀ σ' H',N σ' H'->∃ m',m' < m/\W (i+1) m' σ' H')/\∀ x H',J.yld i H x H'->g x σ H' fun σ2 H2=>tb { D with nx:=N,ct:=N,bk:=D.nx } σ2 H2)
def nE (fp:List Addr) (h:Heap):List (Addr × Obj):=fp.filterMap fun b=>(h.get? b).map fun o=>(b,o)
theorem pI {fp:List Addr}{h:Heap}{b:Addr}{o:Obj} (hb:b ∈ fp) (e:h.get? b=some o):(b,o) ∈ nE fp h:=List.mem_filterMap.mpr ⟨b,hb,by rw [e]; rfl⟩
theorem al5 {fp:List Addr}{h:Heap}{p:Addr × Obj} (hp:p ∈ nE fp h):p.1 ∈ fp/\h.get? p.1=some p.2:=by
 obtain ⟨b,hb,e⟩:=List.mem_filterMap.mp hp
 cases q:h.get? b with
 | none=>rw [q] at e; cases e
 | some o=>
  rw [q] at e
  have e':(b,o)=p:=bk5 e
  subst e'
  exact⟨hb,q⟩
theorem a8.pinned {pins:List (Addr × Obj)}{σ:St}{H:Hp}{s:Shared}{fp:List Addr} (I:a8 X pins σ H s) (hf:∀ b ∈ fp,fR X pins H b) (ho:∀ b ∈ fp,∃ o,s.heap.get? b=some o/\∀ v,o.data ≠ .cell v):a8 X (pins ++ nE fp s.heap) σ H s:=
 I.pins_of fun p hp=>(bk4.mp hp).elim (fun z=>I.pin p (bl0 _ z)) fun z=>by
  obtain ⟨hb,e⟩:=al5 z
  obtain ⟨f0,f1,f2,_⟩:=hf p.1 hb
  obtain ⟨o,e',d⟩:=ho p.1 hb
  rw [e] at e'; cases e'
  exact⟨e,f0,f1,f2,d⟩
theorem a8.unpinned {pins pl:List (Addr × Obj)}{σ:St}{H:Hp}{s:Shared} (I:a8 X (pins ++ pl) σ H s):a8 X pins σ H s:=I.pins_of fun p hp=>I.pin p (bl0 _ (bl6 _ hp))
theorem zS {iter:Expr}{body:List Stmt}{wi:TI}{g:TG}{tb:TS}{pos:Pos} (hp:PassesOwn (model X.prog X.w) X.A X.env X.xe) (hc:X.calm=true) (hi:PI X tg iter wi) (hg:PG X tg g) (hb:dQ X body tb)
  (hs:∀ x,foldedSetIterable iter X.env x=pure x:=by intro _; rfl):PS X (.For tg iter body [] pos) (zR wi g tb):=by
 intro pins s σ H D I h
 refine wpAny_For (aM (hi pins s σ H _ I h) fun v s1 h1=>aM h1 fun itv s2 h2=>?_) hs
 obtain ⟨it,fp,tn,J,H2,e,I2,T,st2,f2,W,⟨m0,w0⟩,turn⟩:=h2
 subst e
 have stat:∀ {H':Hp},(∀ b ∈ fp,H' b=none)->∀ b ∈ fp,fR X pins H' b:=fun hn b hb=>⟨hn b hb,(f2 b hb).2⟩
 refine codeAny_forLoop_any (fun n s'=>∃ i σ' H',a8 X pins σ' H' s'/\tn i s'.heap/\(∀ b ∈ fp,H' b=none)/\W i n σ' H') ?_ m0 ⟨0,σ,H2,I2,st2,fun b hb=>(f2 b hb).1,w0⟩
 rintro n s3 ⟨i,σ3,H3,I3,st3,fr3,w3⟩
 rcases turn i n σ3 H3 w3 with ⟨stop,qn⟩ | ⟨go,N,hN,step⟩
 ·refine bw2 hp (aM (T.done X rfl rfl rfl hc i pins s3 σ3 H3 X.xe I3 (stat fr3) st3 stop) fun r s4 ⟨hr,I4⟩=>?_)
  subst hr
  exact bw1 ⟨σ3,H3,I4,qn⟩
 ·refine bw2 hp (aM (T.item X rfl rfl rfl hc i pins s3 σ3 H3 X.xe I3 (stat fr3) st3 go) fun r s4 ⟨u,hr,h4⟩=>?_)
  subst hr
  refine bw2 hp (aM h4 fun _ s5 ⟨x,H5,I5,r5,y5,st5,fr5⟩=>?_)
  have I5':=I5.pinned (stat fr5) (T.obj _ _ st5)
  refine bw2 hp (aM (hg _ s5 σ3 H5 x u _ I5' r5 (step x H5 y5)) fun _ s6 ⟨σ6,H6,I6,q6⟩=>?_)
  refine bw2 hp (aM (hb _ s6 σ6 H6 _ I6 q6) fun f s7 q7=>?_)
  have again:∀ {σ7:St}{H7:Hp},a8 X (pins ++ nE fp s5.heap) σ7 H7 s7->N σ7 H7->∃ m,m < n/\∃ i σ' H',a8 X pins σ' H' s7/\tn i s7.heap/\(∀ b ∈ fp,H' b=none)/\W i m σ' H':=fun {σ7 H7} I7 n7=>by
   obtain ⟨m',hm,w7⟩:=hN σ7 H7 n7
   refine⟨m',hm,i+1,σ7,H7,I7.unpinned,T.keep _ _ _ st5 fun b hb o e=>(I7.pin (b,o) (bl0 _ (bl0 _ (pI hb e)))).1,fun b hb=>?_,w7⟩
   obtain ⟨o,e,d⟩:=T.obj _ _ st5 b hb
   exact (I7.pin (b,o) (bl0 _ (bl0 _ (pI hb e)))).2.1
  cases f with
  | next=>obtain ⟨σ7,H7,I7,n7⟩:=q7; exact again I7 n7
  | cont=>obtain ⟨σ7,H7,I7,n7⟩:=q7; exact again I7 n7
  | brk=>obtain ⟨σ7,H7,I7,q7⟩:=q7; exact⟨σ7,H7,I7.unpinned,q7⟩
  | ret v=>obtain ⟨x7,σ7,H7,I7,r7,q7⟩:=q7; exact⟨x7,σ7,H7,I7.unpinned,r7,q7⟩
end
theorem bg5 {K:PySem.W.Frag}{a:Addr}{xs:List V}{g:TG}{tb:TS}{D:cQ}{σ:St}{H:Hp} (Pv:Nat->St->Hp->Prop) (h0:Pv 0 σ H) (hl:∀ i σ H,i<=xs.length->Pv i σ H->aR K H a xs)
  (hs:∀ i x σ H,xs[i]? = some x->Pv i σ H->g x σ H fun σ2 H2=>tb { D with nx:=Pv (i+1),ct:=Pv (i+1),bk:=D.nx } σ2 H2) (hd:∀ σ H,Pv xs.length σ H->D.nx σ H) :
  ∃ W:Nat->Nat->St->Hp->Prop,(∃ m,W 0 m σ H)/\∀ i m σ H,W i m σ H->
   ((lO K a).stop i H/\D.nx σ H) ∨ ((lO K a).go i H/\∃ N:St->Hp->Prop,(∀ σ' H',N σ' H'->∃ m',m' < m/\W (i+1) m' σ' H')/\∀ x H',(lO K a).yld i H x H'->g x σ H' fun σ2 H2=>tb { D with nx:=N,ct:=N,bk:=D.nx } σ2 H2):=by
 refine⟨fun i m σ H=>m=xs.length - i/\i<=xs.length/\Pv i σ H,⟨xs.length,by simp,bn5 _,h0⟩,?_⟩
 rintro i m σ H ⟨rfl,hi,p⟩
 have q:=hl i σ H hi p
 by_cases hlt:i < xs.length
 ·refine .inr ⟨⟨xs,xs[i],q,by simp [hlt]⟩,Pv (i+1),fun σ' H' p'=>⟨xs.length - (i+1),by omega,rfl,hlt,p'⟩,fun x H' y=>?_⟩
  obtain ⟨e,y⟩:=y
  subst e
  exact hs i x σ _ (y xs q) p
 ·have e:i=xs.length:=by omega
  subst e
  exact .inl ⟨⟨xs,q,bh7 _⟩,hd σ H p⟩
theorem al6 {K:PySem.W.Frag}{a:Addr}{xs:List V}{g:TG}{tb:TS}{D:cQ}{σ:St}{H:Hp} (Pv:Nat->St->Hp->Prop) (h0:Pv 0 σ H) (hl:∀ i σ H,i<=xs.length->Pv i σ H->aO K H a xs)
  (hs:∀ i x σ H,xs[i]? = some x->Pv i σ H->g x σ H fun σ2 H2=>tb { D with nx:=Pv (i+1),ct:=Pv (i+1),bk:=D.nx } σ2 H2) (hd:∀ σ H,Pv xs.length σ H->D.nx σ H) :
  ∃ W:Nat->Nat->St->Hp->Prop,(∃ m,W 0 m σ H)/\∀ i m σ H,W i m σ H->
   ((jX K a).stop i H/\D.nx σ H) ∨ ((jX K a).go i H/\∃ N:St->Hp->Prop,(∀ σ' H',N σ' H'->∃ m',m' < m/\W (i+1) m' σ' H')/\∀ x H',(jX K a).yld i H x H'->g x σ H' fun σ2 H2=>tb { D with nx:=N,ct:=N,bk:=D.nx } σ2 H2):=by
 refine⟨fun i m σ H=>m=xs.length - i/\i<=xs.length/\Pv i σ H,⟨xs.length,by simp,bn5 _,h0⟩,?_⟩
 rintro i m σ H ⟨rfl,hi,p⟩
 have q:=hl i σ H hi p
 by_cases hlt:i < xs.length
 ·refine .inr ⟨⟨xs,xs[i],q,by simp [hlt]⟩,Pv (i+1),fun σ' H' p'=>⟨xs.length - (i+1),by omega,rfl,hlt,p'⟩,fun x H' y=>?_⟩
  obtain ⟨e,y⟩:=y
  subst e
  exact hs i x σ _ (y xs q) p
 ·have e:i=xs.length:=by omega
  subst e
  exact .inl ⟨⟨xs,q,bh7 _⟩,hd σ H p⟩
abbrev R2:=V->V->Hp->VK->Prop
def bX (X:Cx) (f:Value->Value->Sem Value) (r:R2):Prop:=
 ∀ (pins:List (Addr × Obj)) (s:Shared) (σ:St) (H:Hp) (x y:V) (v u:Value) (Q:VK),a8 X pins σ H s->aS x v->aS y u->r x y H Q->
  wpAny (model X.prog X.w) X.A (f v u) (EP X pins σ Q) X.xe s
def u6 (X:Cx) (f:Value->Sem Value) (r:V->Hp->VK->Prop):Prop:=
 ∀ (pins:List (Addr × Obj)) (s:Shared) (σ:St) (H:Hp) (x:V) (v:Value) (Q:VK),a8 X pins σ H s->aS x v->r x H Q->
  wpAny (model X.prog X.w) X.A (f v) (EP X pins σ Q) X.xe s
def dA (X:Cx) (f:Value) (r:List V->Hp->VK->Prop):Prop:=
 ∀ (pins:List (Addr × Obj)) (s:Shared) (σ:St) (H:Hp) (xs:List V) (us:List Value) (Q:VK),a8 X pins σ H s->aL xs us->r xs H Q->
  wpAny (model X.prog X.w) X.A (call f us) (EP X pins σ Q) X.xe s
def al7 (X:Cx) (r:V->Hp->(Bool->Hp->Prop)->Prop):Prop:=
 ∀ (pins:List (Addr × Obj)) (s:Shared) (σ:St) (H:Hp) (x:V) (v:Value) (Q:Bool->Hp->Prop),a8 X pins σ H s->aS x v->r x H Q->
  wpAny (model X.prog X.w) X.A (truthy v) (TP X pins σ Q) X.xe s
def nF (r:R2) (ta tb:TE):TE:=fun σ H Q=>ta σ H fun x H1=>tb σ H1 fun y H2=>r x y H2 Q
def tUn (r:V->Hp->VK->Prop) (ta:TE):TE:=fun σ H Q=>ta σ H fun x H1=>r x H1 Q
def rI (C:Int->Int->Prop) (g:Int->Int->V):R2:=fun x y H Q=>∃ i j,x = .int i/\y = .int j/\C i j/\Q (g i j) H
def fS (g:Int->Int->V):R2:=fun x y H Q=>∃ i j,x = .int i/\y = .int j/\Q (g i j) H
def rU (g:Int->V):V->Hp->VK->Prop:=fun x H Q=>∃ i,x = .int i/\Q (g i) H
section
variable {X : Cx} {a b c : Expr} {ta tb tc : TE} {pos : Pos}
theorem u7 (ha:PE X a ta) (hb:PE X b tb) {pins:List (Addr × Obj)}{s:Shared}{σ:St}{H:Hp}{R:V->V->Hp->Prop} (I:a8 X pins σ H s)
  (h:ta σ H fun x H1=>tb σ H1 fun y H2=>R x y H2) {Q:Value->Shared->Prop}{f:Value->Value->Sem Value}
  (hf:∀ v u s2 x y H2,a8 X pins σ H2 s2->aS x v->aS y u->R x y H2->wpAny (model X.prog X.w) X.A (f v u) Q X.xe s2) :
  wpAny (model X.prog X.w) X.A (eval a X.env) (fun v s₁=>wpAny (model X.prog X.w) X.A (eval b X.env) (fun u s₂=>wpAny (model X.prog X.w) X.A (f v u) Q X.xe s₂) X.xe s₁) X.xe s:=by
 refine aM (ha pins s σ H _ I h) fun v s1 ⟨x,H1,I1,r1,q1⟩=>?_
 refine aM (hb pins s1 σ H1 _ I1 q1) fun u s2 ⟨y,H2,I2,r2,q2⟩=>?_
 exact hf v u s2 x y H2 I2 r1 r2 q2
theorem al8 {op:Operator}{r:R2} (ho:bX X (binaryOp op) r) (ha:PE X a ta) (hb:PE X b tb):PE X (.BinOp a op b pos) (nF r ta tb):=by
 intro pins s σ H Q I h
 exact wpAny_BinOp (u7 ha hb I h fun v u s2 x y H2 I2 rx ry q=>ho pins s2 σ H2 x y v u Q I2 rx ry q)
theorem al9 {op:UnaryOp}{r:V->Hp->VK->Prop} (ho:u6 X (unaryOp op) r) (ha:PE X a ta):PE X (.UnaryOp op a pos) (tUn r ta):=by
 intro pins s σ H Q I h
 exact UnaryOp_ (aM (ha pins s σ H _ I h) fun v s1 ⟨x,H1,I1,r1,q1⟩=>ho pins s1 σ H1 x v Q I1 r1 q1)
theorem pJ {f:Value->Value->Sem Value}{C:Int->Int->Prop}{g:Int->Int->Int}
  (rule:∀ (i j:Int) (t u:Tok) (s:Shared) (Q:Value->Shared->Prop) (E:Value->Shared->Prop),C i j->Q (.int (g i j) s.toks) { s with toks:=s.toks+1 }->wpAny (model X.prog X.w) X.A (f (.int i t) (.int j u)) Q E s) :
  bX X f (rI C fun i j=>.int (g i j)):=by
 intro pins s σ H x y v u Q I rx ry h
 obtain ⟨i,j,rfl,rfl,hc,q⟩:=h
 obtain ⟨t,rfl⟩:=rx
 obtain ⟨t',rfl⟩:=ry
 exact rule i j t t' s _ _ hc ⟨.int (g i j),H,I.tok _,⟨_,rfl⟩,q⟩
theorem zT {f:Value->Value->Sem Value}{g:Int->Int->Int}
  (rule:∀ (i j:Int) (t u:Tok) (s:Shared) (Q:Value->Shared->Prop) (E:Value->Shared->Prop),Q (.int (g i j) s.toks) { s with toks:=s.toks+1 }->wpAny (model X.prog X.w) X.A (f (.int i t) (.int j u)) Q E s) :
  bX X f (fS fun i j=>.int (g i j)):=by
 intro pins s σ H x y v u Q I rx ry h
 obtain ⟨i,j,rfl,rfl,q⟩:=h
 obtain ⟨t,rfl⟩:=rx
 obtain ⟨t',rfl⟩:=ry
 exact rule i j t t' s _ _ ⟨.int (g i j),H,I.tok _,⟨_,rfl⟩,q⟩
theorem pL {f:Value->Value->Sem Value}{g:Int->Int->Bool}
  (rule:∀ (i j:Int) (t u:Tok) (s:Shared) (Q:Value->Shared->Prop) (E:Value->Shared->Prop),Q (.bool (g i j)) s->wpAny (model X.prog X.w) X.A (f (.int i t) (.int j u)) Q E s) :
  bX X f (fS fun i j=>.bl (g i j)):=by
 intro pins s σ H x y v u Q I rx ry h
 obtain ⟨i,j,rfl,rfl,q⟩:=h
 obtain ⟨t,rfl⟩:=rx
 obtain ⟨t',rfl⟩:=ry
 exact rule i j t t' s _ _ ⟨.bl (g i j),H,I,rfl,q⟩
def u8 (i j:Int):Prop:=0 < j/\j < 1073741824
def u9 (i j:Int):Prop:=0<=j/\j<=1000000/\i.natAbs < 2 ^ 64
def nG (i j:Int):Prop:=(-(2 ^ 64) < i/\i < 2 ^ 64) ∨ (-(2 ^ 64) < j/\j < 2 ^ 64)
theorem nG.ok {i j:Int} (h:nG i j):IntMulOk i j:=by
 rcases h with ⟨h1,h2⟩ | ⟨h1,h2⟩
 ·exact .of_left (intBits_le_64 h1 h2)
 ·exact .of_right (intBits_le_64 h1 h2)
theorem am0:bX X (binaryOp .Add) (fS fun i j=>.int (i+j)):=zT fun _ _ _ _ _ _ _ q=>add_int q
theorem am1:bX X (binaryOp .Sub) (fS fun i j=>.int (i - j)):=zT fun _ _ _ _ _ _ _ q=>sub_int q
theorem am2:bX X (binaryOp .Mult) (rI nG fun i j=>.int (i * j)):=pJ fun _ _ _ _ _ _ _ hc q=>mul_int q hc.ok
theorem am3:bX X (binaryOp .FloorDiv) (rI u8 fun i j=>.int (i / j)):=pJ fun i j _ _ _ _ _ hc q=>by
 have h1:(0:Int) < j:=hc.1
 have h2:j < 1073741824:=hc.2
 exact floordiv_int (by omega) (by rw [Int.fdiv_eq_ediv_of_nonneg i (by omega)]; exact q) (.inl (PyProof.noPylong_small (by omega)))
theorem am4:bX X (binaryOp .Mod) (rI (fun _ j=>0 < j) fun i j=>.int (i % j)):=pJ fun i j _ _ _ _ _ hc q=>by
 have h1:(0:Int) < j:=hc
 exact mod_int' (by omega) (by rw [Int.fmod_eq_emod_of_nonneg i (by omega)]; exact q)
theorem am5:bX X (binaryOp .Pow) (rI u9 fun i j=>.int (i ^ j.toNat)):=pJ fun _ _ _ _ _ _ _ hc q=>pow_int_small hc.1 hc.2.1 hc.2.2 q
theorem unI {f:Value->Sem Value}{g:Int->Int}
  (rule:∀ (i:Int) (t:Tok) (s:Shared) (Q:Value->Shared->Prop) (E:Value->Shared->Prop),Q (.int (g i) s.toks) { s with toks:=s.toks+1 }->wpAny (model X.prog X.w) X.A (f (.int i t)) Q E s) :
  u6 X f (rU fun i=>.int (g i)):=by
 intro pins s σ H x v Q I rx h
 obtain ⟨i,rfl,q⟩:=h
 obtain ⟨t,rfl⟩:=rx
 exact rule i t s _ _ ⟨.int (g i),H,I.tok _,⟨_,rfl⟩,q⟩
theorem am6:u6 X (unaryOp .USub) (rU fun i=>.int (-i)):=unI fun _ _ _ _ _ q=>neg_int q
end
def zU:V->V->Bool
 | .non,.non=>true | .non,.int _=>true | .int _,.non=>true | .non,.bl _=>true | .bl _,.non=>true | .non,.str _=>true | .str _,.non=>true
 | .int _,.int _=>true | .bl _,.bl _=>true | .str _,.str _=>true | .byt _,.byt _=>true
 | .int _,.str _=>true | .str _,.int _=>true | .bl _,.str _=>true | .str _,.bl _=>true
 | _,_=>false
def zV:R2:=fun x y H Q=>zU x y=true/\Q (.bl (decide (x=y))) H
def uA:R2:=fun x y H Q=>zU x y=true/\Q (.bl (!decide (x=y))) H
theorem zW {i j:Int}:decide (V.int i=V.int j)=(i == j):=by
 rw [bp3]
 simp
theorem zX {i j:Bool}:decide (V.bl i=V.bl j)=(i == j):=by
 rw [bp3]
 simp
theorem zY {i j:Str}:decide (V.str i=V.str j)=(i == j):=by
 rw [bp3]
 simp
theorem zZ {i j:Array UInt8}:decide (V.byt i=V.byt j)=(i.toList == j.toList):=by
 rw [bp3]
 cases i
 cases j
 simp
section
variable {X : Cx} {a b c : Expr} {ta tb tc : TE} {pos : Pos}
theorem c9 {pins:List (Addr × Obj)}{σ:St}{H:Hp}{s:Shared}{Q:VK}{k k':Bool} (I:a8 X pins σ H s) (q:Q (.bl k) H) (e:k=k'):EP X pins σ Q (.bool k') s:=by
 subst e
 exact⟨.bl k,H,I,rfl,q⟩
theorem am7:bX X (compareOp .Eq) zV:=by
 intro pins s σ H x y v u Q I rx ry h
 obtain ⟨hs,q⟩:=h
 cases x with
 | non=>
  cases rx
  cases y with
  | non=>cases ry; exact PySem.EqNone.eq_none_none (c9 I q (by simp))
  | bl j=>cases ry; exact PySem.EqNone.eq_none_bool (c9 I q (by simp))
  | int j=>obtain ⟨t',rfl⟩:=ry; exact PySem.EqNone.eq_none_int (c9 I q (by simp))
  | str j=>obtain ⟨t',rfl⟩:=ry; exact PySem.EqNone.eq_none_str (c9 I q (by simp))
  | _=>exact absurd (show false=true from hs) bj6
 | bl i=>
  cases rx
  cases y with
  | non=>cases ry; exact PySem.EqNone.eq_bool_none (c9 I q (by simp))
  | bl j=>cases ry; exact eq_bool (c9 I q zX)
  | str j=>obtain ⟨t',rfl⟩:=ry; exact PySem.EqMixed.eq_bool_str (c9 I q (by simp))
  | _=>exact absurd (show false=true from hs) bj6
 | int i=>
  obtain ⟨t,rfl⟩:=rx
  cases y with
  | non=>cases ry; exact PySem.EqNone.eq_int_none (c9 I q (by simp))
  | int j=>obtain ⟨t',rfl⟩:=ry; exact eq_int (c9 I q zW)
  | str j=>obtain ⟨t',rfl⟩:=ry; exact PySem.EqMixed.eq_int_str (c9 I q (by simp))
  | _=>exact absurd (show false=true from hs) bj6
 | str i=>
  obtain ⟨t,rfl⟩:=rx
  cases y with
  | non=>cases ry; exact PySem.EqNone.eq_str_none (c9 I q (by simp))
  | bl j=>cases ry; exact PySem.EqMixed.eq_str_bool (c9 I q (by simp))
  | int j=>obtain ⟨t',rfl⟩:=ry; exact PySem.EqMixed.eq_str_int (c9 I q (by simp))
  | str j=>obtain ⟨t',rfl⟩:=ry; exact eq_str (c9 I q zY)
  | _=>exact absurd (show false=true from hs) bj6
 | byt i=>
  obtain ⟨t,rfl⟩:=rx
  cases y with
  | byt j=>obtain ⟨t',rfl⟩:=ry; exact PySem.W.eq_bytes (c9 I q zZ)
  | _=>exact absurd (show false=true from hs) bj6
 | _=>cases y <;> exact absurd (show false=true from hs) bj6
theorem A0:bX X (compareOp .NotEq) uA:=by
 intro pins s σ H x y v u Q I rx ry h
 obtain ⟨hs,q⟩:=h
 cases x with
 | non=>
  cases rx
  cases y with
  | non=>cases ry; exact PySem.EqNone.ne_none_none (c9 I q (by simp))
  | bl j=>cases ry; exact PySem.EqNone.ne_none_bool (c9 I q (by simp))
  | int j=>obtain ⟨t',rfl⟩:=ry; exact PySem.EqNone.ne_none_int (c9 I q (by simp))
  | str j=>obtain ⟨t',rfl⟩:=ry; exact PySem.EqNone.ne_none_str (c9 I q (by simp))
  | _=>exact absurd (show false=true from hs) bj6
 | bl i=>
  cases rx
  cases y with
  | non=>cases ry; exact PySem.EqNone.ne_bool_none (c9 I q (by simp))
  | bl j=>cases ry; exact ne_bool (c9 I q (congrArg not zX))
  | str j=>obtain ⟨t',rfl⟩:=ry; exact PySem.EqMixed.ne_bool_str (c9 I q (by simp))
  | _=>exact absurd (show false=true from hs) bj6
 | int i=>
  obtain ⟨t,rfl⟩:=rx
  cases y with
  | non=>cases ry; exact PySem.EqNone.ne_int_none (c9 I q (by simp))
  | int j=>obtain ⟨t',rfl⟩:=ry; exact ne_int (c9 I q (congrArg not zW))
  | str j=>obtain ⟨t',rfl⟩:=ry; exact PySem.EqMixed.ne_int_str (c9 I q (by simp))
  | _=>exact absurd (show false=true from hs) bj6
 | str i=>
  obtain ⟨t,rfl⟩:=rx
  cases y with
  | non=>cases ry; exact PySem.EqNone.ne_str_none (c9 I q (by simp))
  | bl j=>cases ry; exact PySem.EqMixed.ne_str_bool (c9 I q (by simp))
  | int j=>obtain ⟨t',rfl⟩:=ry; exact PySem.EqMixed.ne_str_int (c9 I q (by simp))
  | str j=>obtain ⟨t',rfl⟩:=ry; exact ne_str (c9 I q (congrArg not zY))
  | _=>exact absurd (show false=true from hs) bj6
 | byt i=>
  obtain ⟨t,rfl⟩:=rx
  cases y with
  | byt j=>obtain ⟨t',rfl⟩:=ry; exact PySem.W.ne_bytes (c9 I q (congrArg not zZ))
  | _=>exact absurd (show false=true from hs) bj6
 | _=>cases y <;> exact absurd (show false=true from hs) bj6
theorem pM:bX X (compareOp .Lt) (fS fun i j=>.bl (decide (i < j))):=pL fun _ _ _ _ _ _ _ q=>lt_int q
theorem am8:bX X (compareOp .LtE) (fS fun i j=>.bl (decide (i<=j))):=pL fun _ _ _ _ _ _ _ q=>le_int q
theorem am9:bX X (compareOp .Gt) (fS fun i j=>.bl (decide (j < i))):=pL fun _ _ _ _ _ _ _ q=>gt_int q
theorem A1:bX X (compareOp .GtE) (fS fun i j=>.bl (decide (j<=i))):=pL fun _ _ _ _ _ _ _ q=>ge_int q
theorem an0:bX X (compareOp .Is) (fun x y H Q=>y = .non/\Q (.bl (decide (x = .non))) H):=by
 intro pins s σ H x y v u Q I rx ry h
 obtain ⟨rfl,q⟩:=h
 cases ry
 refine is_none_gen (c9 I q ?_)
 cases x <;> first
  | (cases rx; rfl)
  | (obtain ⟨t,rfl⟩:=rx; rfl)
theorem gY (b:Expr) {op:CmpOp} (h:op ≠ .In:=by decide) (h2:op ≠ .NotIn:=by decide):behindInMarks op b=false:=by
 have e1:(op == CmpOp.In)=false:=by cases op <;> first | rfl | exact absurd rfl h
 have e2:(op == CmpOp.NotIn)=false:=by cases op <;> first | rfl | exact absurd rfl h2
 cases b <;> simp [behindInMarks,e1,e2]
theorem an1 {op:CmpOp}{r:R2} (ho:bX X (compareOp op) r) (ha:PE X a ta) (hb:PE X b tb) (hm:behindInMarks op b=false):PE X (.Compare a [op] [b] pos) (nF r ta tb):=by
 intro pins s σ H Q I h
 exact wpAny_Compare1 (u7 ha hb I h fun v u s2 x y H2 I2 rx ry q=>ho pins s2 σ H2 x y v u Q I2 rx ry q) hm
def A2 (t:TE):TT:=fun σ H Q=>t σ H fun x H'=>∃ k,x = .bl k/\Q k H'
theorem an2 {op:CmpOp}{r:R2} (ho:bX X (compareOp op) r) (ha:PE X a ta) (hb:PE X b tb) (hm:behindInMarks op b=false):PT X (.Compare a [op] [b] pos) (A2 (nF r ta tb)):=by
 intro pins s σ H Q I h
 refine wpAny_isTrue_Compare1 (aM (ha pins s σ H _ I h) fun v s1 ⟨x,H1,I1,r1,q1⟩=>aM (hb pins s1 σ H1 _ I1 q1) fun u s2 ⟨y,H2,I2,r2,q2⟩=>
  aM (ho pins s2 σ H2 x y v u _ I2 r1 r2 q2) fun c s3 ⟨z,H3,I3,r3,k,e,q3⟩=>?_) hm
 subst e
 cases r3
 exact br9 ⟨H3,I3,q3⟩
def A3 (r r':R2) (ta tb tc:TE):TE:=fun σ H Q=>ta σ H fun x H1=>tb σ H1 fun y H2=>r x y H2 fun z H3=>∃ k,z = .bl k/\
 (if k=true then tc σ H3 fun w' H4=>r' y w' H4 Q else Q (.bl false) H3)
theorem an3 {op op':CmpOp}{r r':R2} (ho:bX X (compareOp op) r) (ho':bX X (compareOp op') r') (ha:PE X a ta) (hb:PE X b tb) (hc:PE X c tc)
  (hm:lastMarks [op,op'] [b,c]=false:=by with_unfolding_all rfl):PT X (.Compare a [op,op'] [b,c] pos) (A2 (A3 r r' ta tb tc)):=by
 intro pins s σ H Q I h
 refine isTrue_chain (aM (ha pins s σ H _ I h) fun v s1 ⟨x,H1,I1,r1,q1⟩=>test_link (aM (hb pins s1 σ H1 _ I1 q1) fun u s2 ⟨y,H2,I2,r2,q2⟩=>
  aM (ho pins s2 σ H2 x y v u _ I2 r1 r2 q2) fun d s3 ⟨z,H3,I3,r3,k,e,q3⟩=>?_)) hm
 subst e
 cases r3
 refine br9 ?_
 cases k with
 | false=>
  obtain ⟨k',e',q'⟩:=q3
  cases e'
  exact ite_ff ⟨H3,I3,q'⟩
 | true=>
  refine ite_tt (test_last (aM (hc pins s3 σ H3 _ I3 q3) fun w' s4 ⟨z',H4,I4,r4,q4⟩=>aM (ho' pins s4 σ H4 y z' u w' _ I4 r2 r4 q4) fun d' s5 ⟨z2,H5,I5,r5,k2,e2,q5⟩=>?_))
  subst e2
  cases r5
  exact br9 ⟨H5,I5,q5⟩
def uB (K:PySem.W.Frag) (x:V) (H:Hp) (k:Bool):Prop:=
 match x with
 | .non=>k=false
 | .bl b=>k=b
 | .int i=>k=(i != 0)
 | .str y=>y.length<=sizeLine/\k=((y.length:Int) != 0)
 | .byt y=>y.size<=sizeLine/\k=((y.size:Int) != 0)
 | .ref p=>(∃ xs,aR K H p xs/\k = !xs.isEmpty) ∨ (∃ xs,aO K H p xs/\k = !xs.isEmpty) ∨ ∃ kvs,H p=some (.dK kvs)/\k = !kvs.isEmpty
 | _=>False
theorem an4 {κ:Type}{kvs:List (κ × V)}{vs:List (κ × Value)} (r:KV kvs vs):(!vs.isEmpty) = !kvs.isEmpty:=by
 cases r <;> rfl
theorem A4 {xs:List V}{its:List Value} (r:aL xs its):(!its.toArray.isEmpty) = !xs.isEmpty:=by
 cases r <;> simp
theorem lP:(sizeLine:Nat) < 2 ^ 63:=by rw [sizeLine_eq]; decide
theorem an5:al7 X (fun x H Q=>∃ k,uB X.K x H k/\Q k H):=by
 intro pins s σ H x v Q I rx h
 obtain ⟨k,e,q⟩:=h
 have hl:=lP
 have hs:sizeLine=16777216:=sizeLine_eq
 cases x with
 | non=>
  cases rx
  have e':k=false:=e
  subst e'
  exact truthy_none ⟨H,I,q⟩
 | bl b=>
  cases rx
  have e':k=b:=e
  subst e'
  exact br9 ⟨H,I,q⟩
 | int i=>
  obtain ⟨t,rfl⟩:=rx
  have e':k=(i != 0):=e
  subst e'
  exact PySem.P.truthy_int ⟨H,I,q⟩
 | str y=>
  obtain ⟨t,rfl⟩:=rx
  obtain ⟨hy,e'⟩:y.length<=sizeLine/\k=((y.length:Int) != 0):=e
  subst e'
  exact PySem.P.truthy_str (by omega) ⟨H,I.tok _,q⟩
 | byt y=>
  obtain ⟨t,rfl⟩:=rx
  obtain ⟨hy,e'⟩:y.size<=sizeLine/\k=((y.size:Int) != 0):=e
  subst e'
  exact PySem.W.truthy_bytes (by omega) ⟨H,I.tok _,q⟩
 | ref p=>
  cases rx
  have e':(∃ xs,aR X.K H p xs/\k = !xs.isEmpty) ∨ (∃ xs,aO X.K H p xs/\k = !xs.isEmpty) ∨ ∃ kvs,H p=some (.dK kvs)/\k = !kvs.isEmpty:=e
  rcases e' with ⟨xs,hx,e'⟩ | ⟨xs,hx,e'⟩ | ⟨kvs,hx,e'⟩
  ·subst e'
   obtain ⟨its,r,pl,hz⟩:=I.list hx
   have hlen:=r.length
   exact wpAny_truthy_list pl.isList (by simp only [bh3]; omega) ⟨H,I.tok _,by rw [A4 r]; exact q⟩
  ·subst e'
   obtain ⟨its,r,pl,hz⟩:=I.tuple hx
   have hlen:=r.length
   exact truthy_tuple pl (by simp only [bh3]; omega) ⟨H,I.tok _,by rw [A4 r]; exact q⟩
  ·subst e'
   obtain ⟨hz,hS,vs,r,m⟩:kvs.length<=sizeLine/\(p == sysModules)=false/\∃ vs,KV kvs vs/\s.heap.DictOf (eI X.prog X.w) p vs:=I.hok p _ hx
   have hlen:kvs.length=vs.length:=Paired.length r
   exact wpAny_truthy_dict hS m (by omega) ⟨H,I.tok _,by rw [an4 r]; exact q⟩
 | _=>exact (show False from e).elim
theorem an6 (ha:PE X a ta) (he:∀ whole,isTrue a X.env whole=(do let v <- whole; standAt a.pos; holding [v] (truthy v))) :
  PT X a (fun σ H Q=>ta σ H fun x H'=>∃ k,uB X.K x H' k/\Q k H'):=by
 intro pins s σ H Q I h
 exact isTrue_plain (aM (ha pins s σ H _ I h) fun v s1 ⟨x,H1,I1,r1,q1⟩=>an5 pins s1 σ H1 x v Q I1 r1 q1) (he _)
theorem an7:bX X (binaryOp .Add) (fun x y H Q=>∃ i j,x = .str i/\y = .str j/\i.length+j.length<=sizeLine/\Q (.str (i ++ j)) H):=by
 intro pins s σ H x y v u Q I rx ry h
 obtain ⟨i,j,rfl,rfl,hz,q⟩:=h
 obtain ⟨t,rfl⟩:=rx
 obtain ⟨t',rfl⟩:=ry
 exact add_str (fun t' tk=>⟨.str (i ++ j),H,I.tok _,⟨_,rfl⟩,q⟩) hz
theorem gG {x:V}{us:List Value} (r:aL [x] us):∃ u,us = [u]/\aS x u:=by
 cases r with
 | cons r1 r2=>cases r2; exact⟨_,rfl,r1⟩
theorem nH {x y:V}{us:List Value} (r:aL [x,y] us):∃ u w',us = [u,w']/\aS x u/\aS y w':=by
 cases r with
 | cons r1 r2=>
  cases r2 with
  | cons r3 r4=>cases r4; exact⟨_,_,rfl,r1,r3⟩
theorem an8 (hc:X.calm=true):dA X (.builtin "max") (fun xs H Q=>∃ i j,xs = [.int i,.int j]/\Q (.int (if j > i then j else i)) H):=by
 intro pins s σ H xs us Q I r h
 obtain ⟨i,j,rfl,q⟩:=h
 obtain ⟨u,w',rfl,⟨t,rfl⟩,⟨t',rfl⟩⟩:=nH r
 refine max_two_ints (I.ok.hd hc) fun h' tk k=>⟨_,H,I.kept k,?_,q⟩
 by_cases hj:j > i
 ·rw [if_pos hj,if_pos hj]; exact⟨_,rfl⟩
 ·rw [if_neg hj,if_neg hj]; exact⟨_,rfl⟩
theorem an9 (hc:X.calm=true):dA X (.builtin "min") (fun xs H Q=>∃ i j,xs = [.int i,.int j]/\Q (.int (if j < i then j else i)) H):=by
 intro pins s σ H xs us Q I r h
 obtain ⟨i,j,rfl,q⟩:=h
 obtain ⟨u,w',rfl,⟨t,rfl⟩,⟨t',rfl⟩⟩:=nH r
 refine min_two_ints (I.ok.hd hc) fun h' tk k=>⟨_,H,I.kept k,?_,q⟩
 by_cases hj:j < i
 ·rw [if_pos hj,if_pos hj]; exact⟨_,rfl⟩
 ·rw [if_neg hj,if_neg hj]; exact⟨_,rfl⟩
theorem ao0:dA X (.type "int") (fun xs H Q=>(∃ i,xs = [.int i]/\Q (.int i) H) ∨ ∃ k,xs = [.bl k]/\Q (.int (if k then 1 else 0)) H):=by
 intro pins s σ H xs us Q I r h
 rcases h with ⟨i,rfl,q⟩ | ⟨k,rfl,q⟩
 ·obtain ⟨u,rfl,t,rfl⟩:=gG r
  exact call_int_int ⟨.int i,H,I,⟨_,rfl⟩,q⟩
 ·obtain ⟨u,rfl,r1⟩:=gG r
  cases r1
  exact call_int_bool ⟨.int (if k then 1 else 0),H,I.tok _,⟨_,rfl⟩,q⟩
end
structure uC (h:Heap) (x dx C:Addr) (mA:Str->Option Value):Prop where
 obj:h.get? x=some (PySem.W.instObj C dx)
 ns:h.Ns1 dx mA
 ne:dx ≠ x
theorem ao1 {h:Heap}{dx:Addr}{mA:Str->Option Value} (n:h.Ns1 dx mA):∃ od,h.get? dx=some od/\∀ name,PySem.W.lookIn name od=some (mA name):=by
 obtain ⟨o,es,ep,ho,hd,hk,_,hm⟩:=n
 refine⟨o,ho,fun name=>?_⟩
 have e:=hm name
 unfold nsFind findBy at e
 rw [<- Array.find?_toList] at e
 unfold PySem.W.lookIn
 rw [hd]
 dsimp only
 split
 ·rename_i y q
  rw [q] at e
  exact congrArg some e
 ·rename_i q
  rw [q] at e
  have a:es.toList.any (·.refKey)=false:=by
   rw [List.any_eq_false]
   intro y hy
   obtain ⟨z,t,hkey⟩:=hk y (Array.mem_toList_iff.mp hy)
   simp [DictEntry.refKey,hkey]
  have a' : ¬ es.toList.any (·.refKey)=true:=by rw [a]; exact bj6
  rw [if_neg a']
  exact congrArg some e
theorem uC.look {h:Heap}{x dx C:Addr}{mA:Str->Option Value} (I:uC h x dx C mA):∃ od,PySem.W.InstAt h x (PySem.W.instObj C dx) C (some od)/\∀ name,PySem.W.lookIn name od=some (mA name):=
 let ⟨od,ho,hl⟩:=ao1 I.ns
 ⟨od,⟨I.obj,rfl,rfl,ho⟩,hl⟩
theorem fQ.some_of {v:V}{o:Option Value} (r:fQ (some v) o):∃ u,o=some u/\aS v u:=by
 cases o with
 | none=>exact (show False from r).elim
 | some u=>exact⟨u,rfl,r⟩
section
variable {P : Program} {w : World} {H H' : Hp} {h h' : Heap} {a C dx : Addr} {fs fs' : List (Str × V)}
theorem ao2 (hok:bW P w H h) (e:H a=some (.ins C dx fs)):∃ mA,uC h a dx C mA/\(∀ f,fQ (fs.lookup f) (mA f))/\PySem.Within mA (fs.map (·.1))/\fs.length<=1000/\H dx=some (.own a):=by
 obtain ⟨d,z,ne,ob,mA,n,r,q⟩:=(show c7 P w H h a (.ins C dx fs) from hok a _ e)
 exact⟨mA,⟨ob,n,ne⟩,r,q,z,d⟩
end
structure uD (K:PySem.W.Frag) (C:Addr):Prop where
 pg:PySem.W.plainGet K C Str.empty=true
 hd:PySem.W.hasDictIn K C=true
 po:PySem.W.plainOver K C=true
 sa:PySem.W.findIn K (.ref C) "__setattr__" = some (some (.builtin "object.__setattr__"))
theorem uD.get {K:PySem.W.Frag}{C:Addr} (c:uD K C) (f:Str):PySem.W.plainGet K C f=true:=c.pg
section
variable {X : Cx} {pins : List (Addr × Obj)} {σ : St} {H : Hp} {s : Shared} {A : Around} {E : Value → Shared → Prop} {Q : Value → Shared → Prop} {c : Value} {b : Bool}
inductive fI (K:PySem.W.Frag) (H:Hp):V->Value->Prop where
 | non:fI K H .non (.type "NoneType")
 | bl (x:Bool):fI K H (.bl x) (.type "bool")
 | int (i:Int):fI K H (.int i) (.type "int")
 | str (x:Str):fI K H (.str x) (.type "str")
 | flt (x:UInt64):fI K H (.flt x) (.type "float")
 | lst {a:Addr}{xs:List V} (e:H a=some (.lst xs)):fI K H (.ref a) (.type "list")
 | frz {a:Addr}{o:Obj}{xs:List V} (e:H a=some (.frz o (.lst xs))):fI K H (.ref a) (.type "list")
 | tup {a:Addr}{xs:List V} (e:H a=some (.tup xs)):fI K H (.ref a) (.type "tuple")
 | dK {a:Addr}{kvs:List (aC × V)} (e:H a=some (.dK kvs)):fI K H (.ref a) (.type "dict")
 | dT {a:Addr}{kvs:List (List aC × V)} (e:H a=some (.dT kvs)):fI K H (.ref a) (.type "dict")
 | ins {a C dx:Addr}{fs:List (Str × V)} (e:H a=some (.ins C dx fs)) (cl:uD K C) (ha:PySem.W.findIn K (.ref C) "__class__" = some (some (.builtin "object.__class__")))
   (hn:PySem.W.specialIn K (.builtin "object.__class__") "__get__" = some (some (.builtin "getset_descriptor.__get__"))) (htk:PySem.W.takesIn K (.builtin "object.__class__")=some true)
   (hm:PySem.W.mroIn K C (.type "object")=some true):fI K H (.ref a) (.ref C)
theorem ao3 {x:V}{u t:Value} (I:a8 X pins σ H s) (rx:aS x u) (ty:fI X.K H x t) (e:PySem.W.kitOne X.K t c=some b) (h:∀ tk,Q (.bool b) { s with toks:=tk }) :
  wpAny (model X.prog X.w) A (call (.builtin "isinstance") [u,c]) Q E s:=by
 cases ty with
 | non=>cases (show u=Value.none from rx); exact bo5 PySem.W.kitx_none I.kIn bx5 e (fun z=>nomatch z) h
 | bl y=>cases (show u=Value.bool y from rx); exact bo5 PySem.W.kitx_bool I.kIn bx5 e (fun z=>nomatch z) h
 | int i=>obtain ⟨t,q⟩:=(show ∃ t,u=Value.int i t from rx); cases q; exact bo5 PySem.W.kitx_int I.kIn bx5 e (fun z=>nomatch z) h
 | str y=>obtain ⟨t,q⟩:=(show ∃ t,u=Value.str y t from rx); cases q; exact bo5 PySem.W.kitx_str I.kIn bx5 e (fun z=>nomatch z) h
 | flt y=>obtain ⟨t,q⟩:=(show ∃ t,u=Value.float y t from rx); cases q; exact bo5 PySem.W.kitx_float I.kIn bx5 e (fun z=>nomatch z) h
 | @lst a xs ea=>
  cases (show u=Value.ref a from rx)
  obtain ⟨_,_,n,_,h1⟩:=(show c7 X.prog X.w H s.heap a (.lst xs) from I.hok a _ ea)
  exact bo5 PySem.W.kitx_list I.kIn ⟨_,h1,rfl⟩ e (fun z=>nomatch z) h
 | @frz a ob xs ea=>
  cases (show u=Value.ref a from rx)
  obtain ⟨_,_,_,n,_,h1⟩:=(show c7 X.prog X.w H s.heap a (.frz ob (.lst xs)) from I.hok a _ ea)
  exact bo5 PySem.W.kitx_list I.kIn ⟨_,h1,rfl⟩ e (fun z=>nomatch z) h
 | @tup a xs ea=>
  cases (show u=Value.ref a from rx)
  obtain ⟨_,_,_,p,_⟩:=(show c7 X.prog X.w H s.heap a (.tup xs) from I.hok a _ ea)
  obtain ⟨o,h1,h2,_⟩:=p
  exact bo5 PySem.W.kitx_tuple I.kIn ⟨o,h1,h2⟩ e (fun z=>nomatch z) h
 | @dK a kvs ea=>
  cases (show u=Value.ref a from rx)
  obtain ⟨_,_,vs,_,p⟩:=(show c7 X.prog X.w H s.heap a (.dK kvs) from I.hok a _ ea)
  obtain ⟨o,es,ep,h1,h2,_⟩:=p
  exact bo5 PySem.W.kitx_dict I.kIn ⟨o,h1,h2.1⟩ e (fun z=>nomatch z) h
 | @dT a kvs ea=>
  cases (show u=Value.ref a from rx)
  obtain ⟨_,_,xs,_,o,es,ep,h1,h2,_⟩:=(show c7 X.prog X.w H s.heap a (.dT kvs) from I.hok a _ ea)
  exact bo5 PySem.W.kitx_dict I.kIn ⟨o,h1,h2.1⟩ e (fun z=>nomatch z) h
 | @ins a C dx fs ea cl ha hn htk hm=>
  cases (show u=Value.ref a from rx)
  obtain ⟨mA,O,_⟩:=ao2 I.hok ea
  obtain ⟨od,J,_⟩:=O.look
  exact bo5 (PySem.W.kitx_own (cl.get _) cl.hd ha hn htk hm) I.kIn J e (fun z=>nomatch z) h
end
structure cE (k:Nat) (A:Around):Prop where
 hd:A.handled=none
 dp:A.depth+3 * k+5 < recursionLimit
 un:A.units+16 * k+200 < cLine
theorem cE.mono {j k:Nat}{A:Around} (r:cE k A) (h:j<=k):cE j A:=⟨r.hd,by have:=r.dp; omega,by have:=r.un; omega⟩
theorem cE.deeper {k:Nat}{A:Around} (r:cE (k+1) A) (env:Env):cE k (A.deeper env):=
 ⟨r.hd,by have:=r.dp; show A.depth+1+3 * k+5 < _; omega,by have:=r.un; show A.units+3+16 * k+200 < _; omega⟩
theorem cE.depth {k:Nat}{A:Around} (r:cE k A):A.depth < recursionLimit:=by have:=r.dp; omega
theorem cE.units {k:Nat}{A:Around} (r:cE k A):A.units+64 < cLine:=by have:=r.un; omega
def lQ:TA:=fun _ H Q=>Q [] H
def kR (ta:TE) (tr:TA):TA:=fun σ H Q=>ta σ H fun x H1=>tr σ H1 fun xs H2=>Q (x :: xs) H2
section
variable {X : Cx} {e : Expr} {es : List Expr} {te : TE} {t : TA} {pos : Pos}
theorem iI:PA X [] lQ:=fun _ _ _ _ H Q I h=>Calls.spliced_nil ⟨[],H,I,.nil,h⟩
theorem gH (ha:PE X e te) (hr:PA X es t) (hs:starEach (e :: es) X.env=(false,eval e X.env) :: starEach es X.env:=by rfl):PA X (e :: es) (kR te t):=by
 intro pos pins s σ H Q I h
 rw [hs]
 show wpAny _ _ (spliced ((false,eval e X.env) :: backTo pos (starEach es X.env))) _ _ s
 refine Calls.spliced_cons (aM (ha pins s σ H _ I h) fun u s1 ⟨x,H1,I1,r1,q1⟩=>?_)
 exact aM (hr pos pins s1 σ H1 _ I1 q1) fun us s2 ⟨xs,H2,I2,r2,q2⟩=>⟨x :: xs,H2,I2,.cons r1 r2,q2⟩
def A5 (t:TA):TE:=fun σ H Q=>t σ H fun xs H1=>xs.length<=sizeLine/\∀ p,H1 p=none->Q (.ref p) (upd H1 p (.tup xs))
def A6 (t:TA):TE:=fun σ H Q=>t σ H fun xs H1=>xs.length<=sizeLine/\∀ p,H1 p=none->Q (.ref p) (upd H1 p (.lst xs))
theorem ao4 {x1} (h:PA X es t):PE X (.Tuple es x1 pos) (A5 t):=by
 intro pins s σ H Q I hq
 refine wpAny_Tuple_spliced (aM (h pos pins s σ H _ I hq) fun us s1 ⟨xs,H1,I1,r,z,q⟩=>⟨by rw [<- r.length]; exact z,?_⟩)
 have hf:H1 s1.heap.objs.size=none:=I1.hok.fresh (bh7 _)
 refine⟨.ref s1.heap.objs.size,upd H1 s1.heap.objs.size (.tup xs),I1.laid (t':=s1.toks) (fun b u e=>bh1 _ e) (bh7 _) ?_,rfl,q _ hf⟩
 exact⟨z,us,r,⟨_,bj1 _ rfl,rfl,_,rfl⟩,j8.new _ _ rfl⟩
theorem A7 (h:PA X es t):PE X (.List es pos) (A6 t):=by
 intro pins s σ H Q I hq
 refine wpAny_List_spliced (aM (h pos pins s σ H _ I hq) fun us s1 ⟨xs,H1,I1,r,z,q⟩=>⟨by rw [<- r.length]; exact z,?_⟩)
 have hf:H1 s1.heap.objs.size=none:=I1.hok.fresh (bh7 _)
 refine⟨.ref s1.heap.objs.size,upd H1 s1.heap.objs.size (.lst xs),I1.laid (t':=s1.toks) (fun b u e=>bh1 _ e) (bh7 _) ?_,rfl,q _ hf⟩
 exact⟨z,us,0,r,bj1 _ rfl⟩
end
abbrev Sp:=List V->Hp->VK->XK->Prop
abbrev gI:=List Env->Hp->Shared->XK->Value->Shared->Prop
structure pN (P:Program) (w:World) (K:PySem.W.Frag) (mg:Str->Option Value) (base:Heap) (A:Around) (outer:List Env) (s:Shared) (H:Hp):Prop where
 frames:A.frames=some outer
 mod:Mod K mg base
 bs:∀ b o,base.get? b=some o->s.heap.get? b=some o/\H b=none
 bsz:base.objs.size<=s.heap.objs.size
 funs:s.heap.FunFrames base outer
 frf:∀ b ∈ bR outer,H b=none
 hok:bW P w H s.heap
 bare:AllBare s.gens
def CE (outer:List Env) (P:Program) (w:World) (H:Hp) (s:Shared) (Q:VK) (u:Value) (s':Shared):Prop:=
 ∃ v H',s'.os=s.os/\AllBare s'.gens/\Un (bR outer) [] H H' s.heap s'.heap/\bW P w H' s'.heap/\aS v u/\Q v H'
def CR (CX:gI) (outer:List Env) (P:Program) (w:World) (H:Hp) (s:Shared) (Q:VK) (E:XK) (r:Result) (s':Shared):Prop:=
 match r with
 | .ok (.ret u)=>CE outer P w H s Q u s'
 | .ok _=>False
 | .error e=>CX outer H s E e s'
structure dE (P:Program) (w:World) (K:PySem.W.Frag) (mg:Str->Option Value) (base:Heap) (CX:gI) (k:Nat) (f:Addr) (fd:FuncData) (ps:List Str) (sp:Sp):Prop where
 len:∀ vs H Q E,sp vs H Q E->vs.length=ps.length
 run:∀ (A:Around) (outer:List Env) (s:Shared) (H:Hp) (args:Args) (us:List Value) (vs:List V) (Q:VK) (E:XK),cE k A->pN P w K mg base A outer s H->BindsTo s fd args (ps.zip us)->aL vs us->sp vs H Q E->
  codeAny (model P w) A (.call (.ref f) args) (CR CX outer P w H s Q E) s
theorem dE.imp {P:Program}{w:World}{K:PySem.W.Frag}{mg:Str->Option Value}{base:Heap}{CX:gI}{k:Nat}{f:Addr}{fd:FuncData}{ps:List Str}{sp sp':Sp} (F:dE P w K mg base CX k f fd ps sp)
  (h:∀ vs H Q E,sp' vs H Q E->sp vs H Q E):dE P w K mg base CX k f fd ps sp':=
 ⟨fun vs H Q E q=>F.len vs H Q E (h _ _ _ _ q),fun A outer s H args us vs Q E hr he hb hv hs=>F.run A outer s H args us vs Q E hr he hb hv (h _ _ _ _ hs)⟩
section
variable {X : Cx} {pins : List (Addr × Obj)} {σ : St} {H : Hp} {s s' : Shared}
theorem a8.env0 (I:a8 X pins σ H s):pN X.prog X.w X.K X.mg X.base X.A X.stack s H:=
 ⟨I.ok.frames,I.ok.mod,I.bs,bm4 I.ok.bsz I.sz,I.stack,I.stkFree,I.hok,I.bare⟩
theorem a8.after {Q:VK}{u:Value} (I:a8 X pins σ H s) (h:CE X.stack X.prog X.w H s Q u s'):EP X pins σ Q u s':=by
 obtain ⟨v,H',os,bare,un,hok,r,q⟩:=h
 obtain ⟨hh,g,d,t,os'⟩:=s'
 obtain rfl:os'=s.os:=os
 exact⟨v,H',I.call (h':=hh) (g':=g) (d':=d) (t':=t) (ch:=[]) un hok bare (fun b z=>absurd z (by simp)),r,q⟩
end
def uE (sp:Sp) (dvs:List V) (E:XK) (t:TA):TE:=fun σ H Q=>t σ H fun vs H1=>sp (vs ++ dvs) H1 Q E
def iJ (K:PySem.W.Frag) (fd:FuncData) (ps:List Str) (ds:List Value):Prop:=
 ∀ (s:Shared) (us:List Value),K.In s.heap->(us ++ ds).length=ps.length->BindsTo s fd ⟨us,[]⟩ (ps.zip (us ++ ds))
theorem iJ.all {K:PySem.W.Frag}{fd:FuncData}{ps:List Str} (h:∀ us:List Value,us.length=ps.length->bindArgs fd ⟨us,[]⟩=pure (ps.zip us)):iJ K fd ps []:=fun s us _ hl=>by
 rw [bk0] at hl ⊢
 exact .of_eq (h us hl)
def nI (CX:gI) (X:Cx) (E:XK):Prop:=∀ (pins:List (Addr × Obj)) (σ:St) (H:Hp) (s:Shared) (e:Value) (s':Shared),a8 X pins σ H s->CX X.stack H s E e s'->X.xe e s'
section
variable {X : Cx} {CX : gI} {k : Nat} {f C : Addr} {fd : FuncData} {ps : List Str} {sp : Sp} {dvs : List V} {ds : List Value} {E : XK} {x m : Str} {p pos apos : Pos} {e o : Expr} {es : List Expr} {ta : TE} {t : TA}
theorem ao5 {pins:List (Addr × Obj)}{σ:St}{H:Hp}{s:Shared}{Q:VK}{us:List Value}{vs:List V} (F:dE X.prog X.w X.K X.mg X.base CX k f fd ps sp) (hr:cE k X.A) (hb:iJ X.K fd ps ds) (hd:aL dvs ds) (hx:nI CX X E)
  (I:a8 X pins σ H s) (r:aL vs us) (h:sp (vs ++ dvs) H Q E):wpAny (model X.prog X.w) X.A (call (.ref f) us) (EP X pins σ Q) X.xe s:=by
 have r2:aL (vs ++ dvs) (us ++ ds):=r.append hd
 have hl:(us ++ ds).length=ps.length:=by rw [<- r2.length]; exact F.len _ _ _ _ h
 refine wpAny_call (codeAny_mono (F.run X.A X.stack s H ⟨us,[]⟩ (us ++ ds) (vs ++ dvs) Q E hr I.env0 (hb s us I.kIn hl) r2 h) fun r s' hq=>?_)
 cases r with
 | error e=>exact hx pins σ H s e s' I hq
 | ok fl=>
  cases fl with
  | ret u=>exact I.after hq
  | next=>exact False.elim hq
  | brk=>exact False.elim hq
  | cont=>exact False.elim hq
theorem uF (F:dE X.prog X.w X.K X.mg X.base CX k f fd ps sp) (hr:cE k X.A) (hg:Gl X x) (hm:X.mg x=some (.ref f)) (hk:PySem.W.keepIn X.K (.ref f)=true) (hb:iJ X.K fd ps ds) (hd:aL dvs ds) (hx:nI CX X E)
  (ha:PA X (e :: es) t) (hdb:(x == ("__debug__" : Str))=false:=by decide) (he:starEach (e :: es) X.env=(false,eval e X.env) :: starEach es X.env:=by rfl) (hpl:(backTo pos (starEach es X.env)).any (·.1)=false:=by rfl) :
  PE X (.Call (.Name x p) (e :: es) [] pos) (uE sp dvs E t):=by
 intro pins s σ H Q I h
 refine wpAny_Call_Name_kw (mZ I hg hm ?_ hdb)
 refine PySem.W.callWith_K (h₀:=X.base) I.ok.mod.kin hk (aM (ha pos pins s σ H _ I h) fun us s1 ⟨vs,H1,I1,r,q⟩=>⟨I1.kIn,?_⟩) he hpl
 exact ao5 F hr hb hd hx I1 r q
end
def PK (X:Cx) (kws:List Keyword) (t:TA):Prop:=
 ∀ (pos:Pos) (pins:List (Addr × Obj)) (s:Shared) (σ:St) (H:Hp) (Q:List V->Hp->Prop),a8 X pins σ H s->t σ H Q->wpAny (model X.prog X.w) X.A (evalAll ((backToKw pos (keywordEach kws X.env)).map (·.2))) (AP X pins σ Q) X.xe s
structure FnScope (N P:List Str) (sc:Scope):Prop where
 kind:sc.kind = .function
 co:sc.isCoroutine=false
 gen:sc.isGenerator=false
 nd:N.Nodup
 pre:N.take P.length=P
 par:∀ x ∈ P,sc.names.lookup x=some .local ∨ sc.names.lookup x=some .cell
 nofree:∀ y ∈ sc.names,y.2 ≠ .free
theorem A8 {kindOf:Str->Option NameKind}{x:Str}:∀ {binds:List (Str × Value)}{m:Str->Option Value},(∀ v,(x,v) ∉ binds)->bindL kindOf binds m x=m x
 | [],_,_=>rfl
 | (n,v) :: r,m,h=>by
  unfold bindL
  rw [A8 fun w hw=>h w (bi7 _ hw)]
  split
  ·have:x ≠ n:=by rintro rfl; exact h v bi6
   simp [this]
  ·rfl
theorem A9 {kindOf:Str->Option NameKind}{x:Str}:∀ {binds:List (Str × Value)}{m:Str->Option Value},(∀ v,(x,v) ∉ binds)->bindC kindOf binds m x=m x
 | [],_,_=>rfl
 | (n,v) :: r,m,h=>by
  unfold bindC
  rw [A9 fun w hw=>h w (bi7 _ hw)]
  split
  ·rfl
  ·have:x ≠ n:=by rintro rfl; exact h v bi6
   simp [this]
theorem B0 {kindOf:Str->Option NameKind}{x:Str}{v:Value}:∀ {P:List Str}{vs:List Value}{i:Nat}{m:Str->Option Value},P.Nodup->P[i]? = some x->vs[i]? = some v->kindOf x=some .local->
  bindL kindOf (P.zip vs) m x=some v
 | [],_,_,_,_,h,_,_=>by simp at h
 | _ :: _,[],_,_,_,_,h,_=>by simp at h
 | p :: P,w :: vs,0,m,nd,h1,h2,hk=>by
  simp at h1 h2; subst h1; subst h2
  show bindL kindOf ((p,w) :: P.zip vs) m p=_
  unfold bindL
  rw [A8 fun v hv=>(bw3.mp nd).1 (List.of_mem_zip hv).1,if_pos hk]
  simp
 | p :: P,w :: vs,i+1,m,nd,h1,h2,hk=>by
  show bindL kindOf ((p,w) :: P.zip vs) m x=_
  unfold bindL
  exact B0 (i:=i) (bw3.mp nd).2 (by simpa using h1) (by simpa using h2) hk
theorem B1 {kindOf:Str->Option NameKind}{x:Str}{v:Value}:∀ {P:List Str}{vs:List Value}{i:Nat}{m:Str->Option Value},P.Nodup->P[i]? = some x->vs[i]? = some v->kindOf x ≠ some .local->
  bindC kindOf (P.zip vs) m x=some v
 | [],_,_,_,_,h,_,_=>by simp at h
 | _ :: _,[],_,_,_,_,h,_=>by simp at h
 | p :: P,w :: vs,0,m,nd,h1,h2,hk=>by
  simp at h1 h2; subst h1; subst h2
  show bindC kindOf ((p,w) :: P.zip vs) m p=_
  unfold bindC
  rw [A9 fun v hv=>(bw3.mp nd).1 (List.of_mem_zip hv).1,if_neg hk]
  simp
 | p :: P,w :: vs,i+1,m,nd,h1,h2,hk=>by
  show bindC kindOf ((p,w) :: P.zip vs) m x=_
  unfold bindC
  exact B1 (i:=i) (bw3.mp nd).2 (by simpa using h1) (by simpa using h2) hk
def gJ (N:List Str) (vs:List V):St:=vs.map some ++ List.replicate (N.length - vs.length) none
def dG (CX:gI) (P:Program) (w:World) (K:PySem.W.Frag) (mg:Str->Option Value) (base:Heap) (N:List Str) (qual:Str) (scope:Scope) (f:Addr) (cd:Value) (A:Around) (outer:List Env) (s:Shared) (H:Hp) (E:XK):Cx where
 prog:=P
 w:=w
 K:=K
 mg:=mg
 base:=base
 A:=A.deeper (envOfC qual scope s.heap.objs.size f cd)
 N:=N
 s₀:=s
 H₀:=H
 env:=envOfC qual scope s.heap.objs.size f cd
 outer:=outer
 stack:=envOfC qual scope s.heap.objs.size f cd :: outer
 ex:=[]
 calm:=true
 fn:=fun _=>true
 pn:=[]
 xe:=fun e s'=>wpAny (model P w) (A.deeper (envOfC qual scope s.heap.objs.size f cd)) (leaving (envOfC qual scope s.heap.objs.size f cd) e) (fun _ s''=>CX outer H s E e s'') (fun e' s''=>CX outer H s E e' s'') s'
theorem B2 {sc:Scope}{n:Nat}{x:Str} (h:sc.names.lookup x=some .cell):∃ c,(cellsFrom n sc.names []).lookup x=some c:=by
 have q:=PySem.W.cellsFrom_some sc.names n [] (.inl h)
 exact Option.isSome_iff_exists.mp q
theorem ao6 {CX:gI}{P:Program}{w:World}{K:PySem.W.Frag}{mg:Str->Option Value}{base:Heap}{N ps:List Str}{qual:Str}{scope:Scope}{f:Addr}{cd:Value}{A:Around}{outer:List Env}{s s1:Shared}{H:Hp}{E:XK}{us:List Value}{vs:List V}
  (S:FnScope N ps scope) (hd:A.handled=none) (e0:pN P w K mg base A outer s H) (hl:vs.length=ps.length) (r:aL vs us)
  (x:InCallC s s.heap.objs.size (bindL (envOfC qual scope s.heap.objs.size f cd).kindOf (ps.zip us) fun _=>none) (cellsFrom (s.heap.objs.size+1) scope.names []) (bindC (envOfC qual scope s.heap.objs.size f cd).kindOf (ps.zip us) fun _=>none) s1) :
  a8 (dG CX P w K mg base N qual scope f cd A outer s H E) [] (gJ N vs) H s1:=by
 have hpl:ps.length<=N.length:=by have:=congrArg List.length S.pre; rw [bo6] at this; omega
 obtain ⟨h1,tk,rfl,hk⟩:=x.done
 have noA:∀ b:Addr,b ∉ (dG CX P w K mg base N qual scope f cd A outer s H E).ex:=fun b z=>absurd (show b ∈ ([]:List Addr) from z) (by simp)
 refine⟨⟨e0.mod,S.kind,rfl,rfl,bh7 _,fun y z c h1 h2=>?_,fun y hy=>?_,fun y c _ h=>?_,fun _=>hd,Around.frames_deeper e0.frames,.inr ⟨rfl,rfl⟩,fun b z=>absurd z (noA b),e0.bs,e0.bsz,fun b _ _=>noA b,fun b z=>absurd z (noA b),e0.funs,e0.frf⟩,
  rfl,e0.bare,Un.kept hk,⟨_,x.toInCall.ns,fun i y v h1 h2 h3=>?_⟩,fun y c h=>⟨_,x.cell y c h⟩,e0.hok.fresh (bh7 _),fun y c h=>?_,fun p hp=>absurd (show p ∈ ([]:List (Addr × Obj)) from hp) (by simp),e0.hok.kept hk,?_⟩
 ·exact name_of_addr x.apart (bn4 h1) (bn4 h2)
 ·have hy:scope.names.lookup y=some .cell ∨ scope.names.lookup y=some .free:=hy
  rcases hy with hy | hy
  ·exact B2 hy
  ·exact absurd rfl (S.nofree _ (bn4 hy))
 ·exact bp9 (x.above y c (bn4 h))
 ·have hi:i < vs.length:=by
   unfold gJ at h2
   by_cases hi:i < vs.length
   ·exact hi
   ·rw [bv4 (by simpa using hi)] at h2
    rw [List.getElem?_replicate] at h2
    split at h2 <;> cases h2
  have ha:vs[i]? = some v:=by
   unfold gJ at h2
   rw [bs9 (by simpa using hi),bj5] at h2
   cases e:vs[i]? with
   | none=>rw [e] at h2; cases h2
   | some a=>rw [e] at h2; cases h2; rfl
  obtain ⟨u,hu,rv⟩:=r.get ha
  have hp:ps[i]? = some y:=by
   rw [<- S.pre,List.getElem?_take_of_lt (by omega)]; exact h1
  have ndP:ps.Nodup:=by rw [<- S.pre]; exact S.nd.sublist (List.take_sublist _ _)
  refine⟨u,rv,?_⟩
  rcases S.par y (bn6 hp) with k | k
  ·exact .inl ⟨k,B0 ndP hp hu k⟩
  ·obtain ⟨c,e⟩:=B2 (n:=s.heap.objs.size+1) k
   refine .inr ⟨.inl k,c,e,?_⟩
   have q:=x.cell y c e
   rw [B1 ndP hp hu (by show scope.names.lookup y ≠ _; rw [k]; decide)] at q
   exact q
 ·exact e0.hok.fresh (bp9 (x.above y c (bn4 h)))
 ·unfold gJ
  show _=N.length
  rw [bi0,bh8,bs2]
  omega
theorem B3 {CX:gI}{P:Program}{w:World}{K:PySem.W.Frag}{mg:Str->Option Value}{base:Heap}{k:Nat}{f:Addr}{name qual:Str}{params:Arguments}{body:List Stmt}{scope:Scope}{dV kV doc pm cdv ct oc:Value}{an od:Option Addr}
  {osl:Array (Option Value)}{N ps:List Str}{sp:Sp} (lk:K.lookup f=some ⟨oc,od,.func (PySem.W.fnOf name qual params body scope dV kV doc pm an cdv ct),osl⟩) (hcd:PySem.W.codeIn K cdv qual=true) (S:FnScope N ps scope)
  (len:∀ vs H Q E,sp vs H Q E->vs.length=ps.length)
  (hbody:∀ (A:Around) (outer:List Env) (s:Shared) (H:Hp) (vs:List V) (Q:VK) (E:XK),cE k (A.deeper (envOfC qual scope s.heap.objs.size f cdv))->sp vs H Q E->
   ∃ t,dQ (dG CX P w K mg base N qual scope f cdv A outer s H E) body t/\t { nx:=fun _ H'=>Q .non H',rt:=Q } (gJ N vs) H) :
  dE P w K mg base CX (k+1) f (PySem.W.fnOf name qual params body scope dV kV doc pm an cdv ct) ps sp:=by
 refine⟨len,fun A outer s H args us vs Q E hr e0 hb r hsp=>?_⟩
 have hl:=len _ _ _ _ hsp
 have KX:K.In s.heap:=e0.mod.kin.keeps fun b o e=>(e0.bs b o e).1
 have lim:s.heap.NoLimit:=e0.mod.nolimit.keeps fun b o e=>(e0.bs b o e).1
 have hkind:∀ y ∈ ps.zip us,scope.names.lookup y.1=some .local ∨ (scope.names.lookup y.1=some .cell/\((cellsFrom (s.heap.objs.size+1) scope.names []).lookup y.1).isSome=true):=fun ⟨n,v⟩ hy=>by
  rcases S.par n (List.of_mem_zip hy).1 with q | q
  ·exact .inl q
  ·exact .inr ⟨q,PySem.W.cellsFrom_some _ _ _ (.inl q)⟩
 refine codeAny_call_function hr.depth (KX _ _ lk) rfl S.co S.gen rfl (PySem.W.codeRec_of KX hcd) (hb _ _ _ _ ?_)
 refine wpAny_newFunctionEnv_cells S.kind hkind fun env he s1 x=>?_
 subst he
 refine⟨lim.keeps x.toInCall.keep,codeAny_func ?_⟩
 obtain ⟨t,ht,hq⟩:=hbody A outer s H vs Q E (hr.deeper _) hsp
 have I:a8 (dG CX P w K mg base N qual scope f cdv A outer s H E) [] (gJ N vs) H s1:=ao6 S hr.hd e0 hl r x
 refine bo3 (ht [] s1 (gJ N vs) H _ I hq) (fun fl s' hs=>?_) fun e s' hs=>hs
 have fin:∀ {σ':St}{H':Hp}{v:V}{u:Value},a8 (dG CX P w K mg base N qual scope f cdv A outer s H E) [] σ' H' s'->aS v u->Q v H'->CE outer P w H s Q u s':=
  fun {σ' H' v u} J rv q=>⟨v,H',J.os,J.bare,J.base,J.hok,rv,q⟩
 cases fl with
 | ret u=>
  obtain ⟨v,σ',H',J,rv,q⟩:=hs
  exact fin J rv q
 | next=>
  obtain ⟨σ',H',J,q⟩:=hs
  exact fin (v:=V.non) (u:=Value.none) J rfl q
 | brk=>
  obtain ⟨_,_,_,q⟩:=hs
  exact False.elim q
 | cont=>
  obtain ⟨_,_,_,q⟩:=hs
  exact False.elim q
section
variable {X : Cx} {x : Str} {p pos : Pos} {e : Expr} {es : List Expr} {t : TA} {id T : String} {r : List V → Hp → VK → Prop}
def uG (r:List V->Hp->VK->Prop) (t:TA):TE:=fun σ H Q=>t σ H fun vs H1=>r vs H1 Q
theorem uH (hc:dA X (.builtin id) r) (hg:Gl X x) (hm:X.mg x=none) (hv:bootBuiltins x=some (.builtin id)) (ha:PA X (e :: es) t) (hn:x ≠ "__name__":=by decide) (hdb:(x == ("__debug__" : Str))=false:=by decide)
  (he:starEach (e :: es) X.env=(false,eval e X.env) :: starEach es X.env:=by rfl) (hpl:(backTo pos (starEach es X.env)).any (·.1)=false:=by rfl):PE X (.Call (.Name x p) (e :: es) [] pos) (uG r t):=by
 intro pins s σ H Q I h
 refine wpAny_Call_Name_kw (lK I hg hm hv ?_ hn hdb)
 exact PyProof.Rows.callWith_builtin1 (aM (ha pos pins s σ H _ I h) fun us s1 ⟨vs,H1,I1,r1,q1⟩=>hc pins s1 σ H1 vs us Q I1 r1 q1) he hpl
theorem ao7 (hc:dA X (.type T) r) (hg:Gl X x) (hm:X.mg x=none) (hv:bootBuiltins x=some (.type T)) (ha:PA X (e :: es) t) (hn:x ≠ "__name__":=by decide) (hdb:(x == ("__debug__" : Str))=false:=by decide)
  (he:starEach (e :: es) X.env=(false,eval e X.env) :: starEach es X.env:=by rfl) (hpl:(backTo pos (starEach es X.env)).any (·.1)=false:=by rfl):PE X (.Call (.Name x p) (e :: es) [] pos) (uG r t):=by
 intro pins s σ H Q I h
 refine wpAny_Call_Name_kw (lK I hg hm hv ?_ hn hdb)
 exact bu8 (aM (ha pos pins s σ H _ I h) fun us s1 ⟨vs,H1,I1,r1,q1⟩=>hc pins s1 σ H1 vs us Q I1 r1 q1) he hpl
end
end L2
namespace HT
open PySem PyProof.Rows
def cA:List Int->List Int->Bool
 | [],[]=>false
 | [],_ :: _=>true
 | _ :: _,[]=>false
 | x :: xs,y :: ys=>if x=y then cA xs ys else decide (x < y)
theorem iK (x y:Int) (xs ys:List Int):cA (x :: xs) (y :: ys)=if x=y then cA xs ys else decide (x < y):=rfl
theorem pO:cA [] []=false:=rfl
theorem ao8 (y:Int) (ys:List Int):cA [] (y :: ys)=true:=rfl
theorem ao9 (x:Int) (xs:List Int):cA (x :: xs) []=false:=rfl
theorem ap0 (A:Around) (s:Shared) (a:Int) (t:Tok) (c:Int) (u:Tok):∃ e,SeqAt.EqAt A s (.int a t) (.int c u) e/\(e=true ↔ a=c):=
 ⟨(a == c),SeqAt.EqAt.int_int a t c u,by simp⟩
theorem ap1 (A:Around) (s:Shared) (a:Int) (t:Tok) (c:Int) (u:Tok) (prog:Program) (w:World) (E:Value->Shared->Prop) (Q:Value->Shared->Prop) (h:Q (.bool (decide (a < c))) s) :
  wpAny (model prog w) A (richCompare .Lt (.int a t) (.int c u)) Q E s:=
 (PyProof.Rows.lt_int h:wpAny (model prog w) A (compareOp .Lt (.int a t) (.int c u)) Q E s)
section
open PySem.SeqAt
open PySem.AutoSeq1 (wpAny_loadPart')
open PySem.MeetsSeq PySem.MeetsSeq2 PySem.MeetsSeq3
theorem ap2 (l b:Addr) (items items2:Array Value) (n n2:Nat) (dd dd2:Option Addr) (sl sl2:Array (Option Value)) (ns ms:List Int) (hi:IntsAre items.toList ns) (hj:IntsAre items2.toList ms) :
  Meets (Builtin.«tuple.__lt__» ⟨[.ref l,.ref b],[]⟩)
   (fun _ R s=>s.heap.get? l=some { cls:=.type "tuple",dict:=dd,data:=.seq items n,slots:=sl }/\s.heap.get? b=some { cls:=.type "tuple",dict:=dd2,data:=.seq items2 n2,slots:=sl2 }/\
    R (.ok (.ret (.bool (cA ns ms)))) s):=
 .of_wp fun prog w A R s h=>by
  obtain ⟨hp,g,d,tk,os⟩:=s; obtain ⟨hl,hb,h⟩:=h
  have f2:=AutoSeq1.sub_tuple_tuple
  have z1:items.size=ns.length:=by rw [<- hi.length]; simp
  have z2:items2.size=ms.length:=by rw [<- hj.length]; simp
  wp_walk using wpAny_loadPart' hl,wpAny_loadPart' hb,wpAny_forIn_list _ (fun cZ b s'=>b.1=none/\s'=⟨hp,g,d,tk,os⟩/\∃ (vs ws:List Value) (ns' ms':List Int),cZ=vs.zip ws/\
   IntsAre vs ns'/\IntsAre ws ms'/\ns'.length+items2.size=ms'.length+items.size/\R (.ok (.ret (.bool (cA ns' ms')))) ⟨hp,g,d,tk,os⟩) _
  case turn=>
   rintro ⟨y,x⟩ cZ b s' ⟨hb',rfl,vs,ws,ns',ms',hz,hvi,hwi,hlen,hR⟩
   cases hvi with
   | nil=>rw [List.zip_nil_left] at hz; cases hz
   | cons a t hvi'=>
    cases hwi with
    | nil=>rw [List.zip_nil_right] at hz; cases hz
    | cons c u hwi'=>
     rw [bs5] at hz
     injection hz with hyx hrest
     injection hyx with hy hx
     subst hy hx
     rw [iK] at hR
     simp only [bm5] at hlen
     obtain ⟨e,he,hiff⟩:=ap0 A.in1 ⟨hp,g,d,tk,os⟩ a t c u
     refine bh0 (he prog w _ _ ?_)
     cases e with
     | true=>
      rw [if_pos (hiff.mp rfl)] at hR
      wp_walk
      exact⟨rfl,rfl,_,_,_,_,hrest,hvi',hwi',by omega,hR⟩
     | false=>
      rw [if_neg (fun q=>absurd (hiff.mpr q) bj6)] at hR
      have hri:=ap1 A.in1 ⟨hp,g,d,tk,os⟩ a t c u prog w
      wp_walk using hri
      exact⟨_,rfl,by simpa using hR⟩
  case fin=>
   rintro ⟨b1,b2⟩ s' ⟨hb',rfl,vs,ws,ns',ms',hz,hvi,hwi,hlen,hR⟩
   simp only at hb'
   subst hb'
   have hv:cA ns' ms'=decide (items.size < items2.size):=by
    cases hvi with
    | nil=>
     cases hwi with
     | nil=>
      simp only [List.length_nil] at hlen
      rw [pO]
      exact (bh2 (by omega)).symm
     | cons c u hw=>
      simp only [List.length_nil,bm5] at hlen
      rw [ao8]
      exact (bh5 (by omega)).symm
    | cons a t hv=>
     cases hwi with
     | nil=>
      simp only [List.length_nil,bm5] at hlen
      rw [ao9]
      exact (bh2 (by omega)).symm
     | cons c u hw=>
      rw [bs5] at hz
      cases hz
   rw [hv] at hR
   wp_walk
   exact⟨_,rfl,by simpa [Builtin.Tuple.tupleCompareSizes] using hR⟩
  case h=>
   exact⟨rfl,rfl,items.toList,items2.toList,ns,ms,rfl,hi,hj,by omega,h⟩
end
section
variable {prog : Program} {w : World} {A : Around} {E : Value → Shared → Prop} {s : Shared}
theorem ap3 {l b:Addr}{items items2:Array Value}{ns ms:List Int}{Q:Value->Shared->Prop} (hl:IsTup s.heap l items) (hb:IsTup s.heap b items2) (hi:IntsAre items.toList ns) (hj:IntsAre items2.toList ms)
  (hu:A.units < cLine) (h:Q (.bool (cA ns ms)) s):wpAny (model prog w) A (compareOp .Lt (.ref l) (.ref b)) Q E s:=by
 obtain ⟨⟨cls,dd,data,sl⟩,ho,hc,n,hd⟩:=id hl
 obtain ⟨⟨cls2,dd2,data2,sl2⟩,ho2,hc2,n2,hd2⟩:=id hb
 simp only at hc hd hc2 hd2
 subst hc hd hc2 hd2
 exact richCompare_meets_room (op:=.Lt) ⟨_,ho,rfl⟩ ⟨_,ho2,rfl⟩ PySem.F.slot_tuple_lt PySem.F.entry_tuple_lt (PySem.F.args_tuple_lt_2 _ _) (ap2 l b items items2 n n2 dd dd2 sl sl2 ns ms hi hj)
  ⟨ho,ho2,show Value.bool (cA ns ms) ≠ Value.notImplemented/\Q (.bool (cA ns ms)) s from ⟨(fun x=>nomatch x),h⟩⟩ hu
def aX (n d:Nat):Option Int->Nat
 | none=>d
 | some v=>if v < 0 then (v+(n:Int)).toNat else min v.toNat n
theorem ap4 (n d:Nat):aX n d none=d:=rfl
theorem ap5 (n d k:Nat):aX n d (some (k:Int))=min k n:=by
 show (if (k:Int) < 0 then ((k:Int)+(n:Int)).toNat else min (k:Int).toNat n)=min k n
 rw [if_neg (by omega),Int.toNat_natCast]
theorem ap6 (n d:Nat) (hd:d<=n) (o:Option Int):aX n d o<=n:=by
 cases o with
 | none=>exact hd
 | some v=>
  show (if v < 0 then (v+(n:Int)).toNat else min v.toNat n)<=n
  by_cases hv:v < 0
  ·rw [if_pos hv]; omega
  ·rw [if_neg hv]; exact Nat.min_le_right _ _
theorem B4 (v:Int) (n d:Nat):(if v < 0 then max (v+(n:Int)) 0 else min v (n:Int))=((aX n d (some v):Nat):Int):=by
 show (if v < 0 then max (v+(n:Int)) 0 else min v (n:Int))=(((if v < 0 then (v+(n:Int)).toNat else min v.toNat n):Nat):Int)
 by_cases hv:v < 0
 ·simp only [if_pos hv]; omega
 ·simp only [if_neg hv]; omega
theorem ap7 (lo hi:Option Int) (n:Nat):Builtin.Slice.sliceAdjust lo hi 1 (n:Int)=(((aX n 0 lo:Nat):Int),((aX n n hi:Nat):Int)):=by
 have h1 : ¬ ((1:Int) < 0):=by omega
 unfold Builtin.Slice.sliceAdjust
 simp only [h1,bq8]
 refine Prod.ext ?_ ?_
 ·cases lo with
  | none=>rfl
  | some v=>exact B4 v n 0
 ·cases hi with
  | none=>rfl
  | some v=>exact B4 v n n
theorem ap8 (i j:Nat):Builtin.Slice.slicePlaces (i:Int) (j:Int) 1=j - i:=by
 unfold Builtin.Slice.slicePlaces
 have h1:(1:Int) > 0:=by omega
 simp only [h1,if_true,Int.ediv_one]
 split <;> omega
theorem B5 {v:Value}{o:Option Int}{Q:Option Int->Shared->Prop} (p:IsPart v o) (h:Q o s):wpAny (model prog w) A (Builtin.Slice.slicePartIndex v) Q E s:=by
 cases p with
 | none=>exact slicePart_none h
 | int i t=>exact slicePart_int h
theorem B6 {sl:Addr}{vl vu:Value}{lo hi:Option Int}{n:Nat}{Q:Int × Int × Nat->Shared->Prop} (hs:s.heap.IsSliceOf sl vl vu .none) (pl:IsPart vl lo) (pu:IsPart vu hi)
  (h:Q (((aX n 0 lo:Nat):Int),1,aX n n hi - aX n 0 lo) s):wpAny (model prog w) A (Builtin.Slice.sliceApplied (.ref sl) (pure (n:Int))) Q E s:=by
 obtain ⟨os,hos,hcs,hds⟩:=id hs
 unfold Builtin.Slice.sliceApplied Builtin.Slice.sliceFields
 refine bh0 (bh0 (bo0 hos hds (x:=vl) rfl (bh0 (bo0 hos hds (x:=vu) rfl (bh0 (bo0 hos hds (x:=.none) rfl (bh6 ?_)))))))
 refine bh0 (slicePart_none ?_)
 show wpAny _ _ (if ((1:Int) == 0)=true then _ else _) _ _ s
 rw [if_neg (by decide)]
 refine bh0 (B5 pl (bh0 (B5 pu (bh0 (bh6 ?_)))))
 show wpAny _ _ (match Builtin.Slice.sliceAdjust lo hi 1 (n:Int) with | (lo,hi)=>pure (lo,(1:Int),Builtin.Slice.slicePlaces lo hi 1)) _ _ s
 rw [ap7 lo hi n]
 show wpAny _ _ (pure (((aX n 0 lo:Nat):Int),(1:Int),Builtin.Slice.slicePlaces ((aX n 0 lo:Nat):Int) ((aX n n hi:Nat):Int) 1)) _ _ s
 rw [ap8]
 exact bh6 h
theorem ap9 (xs:Array Value) (i k:Nat):((List.range k).filterMap fun (m:Nat)=>xs[((i:Int)+(m:Int) * 1).toNat]?).toArray=((xs.toList.drop i).take k).toArray:=by
 have e:(fun (m:Nat)=>xs[((i:Int)+(m:Int) * 1).toNat]?)=fun m=>xs[i+m]?:=by
  funext m
  have:((i:Int)+(m:Int) * 1).toNat=i+m:=by omega
  rw [this]
 rw [e]
 have:=pick_run xs i k
 rw [List.filterMap_map] at this
 have e2:((fun x=>xs[x]?) ∘ fun x=>i+x)=fun m=>xs[i+m]?:=rfl
 rw [e2] at this
 rw [this]
theorem aq0 {t sl:Addr}{items:Array Value}{vl vu:Value}{lo hi:Option Int}{Q:Value->Shared->Prop} (ht:IsTup s.heap t items) (hs:s.heap.IsSliceOf sl vl vu .none) (pl:IsPart vl lo) (pu:IsPart vu hi)
  (hw : ¬ (aX items.size 0 lo=0/\aX items.size items.size hi=items.size))
  (h:Q (.ref s.heap.objs.size) { s with heap:=s.heap.push { cls:=.type "tuple",data:=.seq ((items.toList.drop (aX items.size 0 lo)).take (aX items.size items.size hi - aX items.size 0 lo)).toArray } })
  (hsz:items.size<=sizeLine):wpAny (model prog w) A (getItem (.ref t) (.ref sl)) Q E s:=by
 have htake:sizeOk (.seq ((items.toList.drop (aX items.size 0 lo)).take (aX items.size items.size hi - aX items.size 0 lo)).toArray):=by
  show ((items.toList.drop (aX items.size 0 lo)).take (aX items.size items.size hi - aX items.size 0 lo)).toArray.size<=sizeLine
  rw [bh3,bo6,br5,bm0]
  omega
 have hj:aX items.size items.size hi<=items.size:=ap6 _ _ (bh7 _) hi
 obtain ⟨os,hos,hcs,hds⟩:=id hs
 have hTs:s.TypeIs (.ref sl) "slice":=⟨os,hos,hcs⟩
 unfold getItem
 try with_reducible refine bp7 ?_
 first | refine bh0 (bh6 ?_) | skip
 refine bh0 (wpAny_sequenceKey ht.typeIs (by decide) ?_)
 refine bh0 (bo1 (name:=Str.ofString "__getitem__") ht.typeIs bs8
  (bn8 bs8 ht.typeIs entry_tuple_getitem ?_ (args_tuple_getitem _ _)))
 show wpAny _ _ (Builtin.Tuple.tupleItemsOf (.ref t) >>= _) _ _ s
 refine bh0 (tupleItemsOf_ ht ?_)
 refine bh0 (wpAny_typeOf hTs ?_)
 rw [if_pos (by decide)]
 refine bh0 (B6 hs pl pu ?_)
 have hno : ¬ ((((aX items.size 0 lo:Nat):Int) == 0 && (1:Int) == 1 && (aX items.size items.size hi - aX items.size 0 lo) == items.size)=true):=by
  intro q
  rw [bm9,bm9] at q
  have q1:((aX items.size 0 lo:Nat):Int)=0:=eq_of_beq q.1.1
  have q2:aX items.size items.size hi - aX items.size 0 lo=items.size:=eq_of_beq q.2
  exact hw ⟨by omega,by omega⟩
 show wpAny _ _ (if (((aX items.size 0 lo:Nat):Int) == 0 && (1:Int) == 1 && (aX items.size items.size hi - aX items.size 0 lo) == items.size)=true then _ else _) _ _ s
 rw [if_neg hno,ap9]
 first
  | exact bh0 (m:=Builtin.Tuple.tupleExact _) (bp8 (bh6 ⟨_,rfl,bh6 h⟩) htake)
  | exact bh0 (m:=Builtin.Tuple.tupleExact _) (bp8 (bh0 (bh6 (bh6 ⟨_,rfl,bh6 h⟩))) htake)
  | exact bh0 (bh0 (m:=Builtin.Tuple.tupleExact _) (bp8 (bh6 (bh6 ⟨_,rfl,bh6 h⟩)) htake))
  | exact bh0 (bh0 (m:=Builtin.Tuple.tupleExact _) (bp8 (bh6 ⟨_,rfl,bh6 h⟩) htake))
end
end HT
namespace L2
open PySem PySem.Spec PyProof.Rows
abbrev TO:=St->Hp->(Option Int->Hp->Prop)->Prop
def PO (X:Cx) (e:Option Expr) (t:TO):Prop:=
 ∀ (pins:List (Addr × Obj)) (s:Shared) (σ:St) (H:Hp) (Q:Option Int->Hp->Prop),a8 X pins σ H s->t σ H Q->
  wpAny (model X.prog X.w) X.A (evalPart e X.env) (fun u s'=>∃ o H',a8 X pins σ H' s'/\IsPart u o/\Q o H') X.xe s
def aq1:TO:=fun _ H Q=>Q none H
def aq2 (t:TE):TO:=fun σ H Q=>t σ H fun x H1=>∃ i,x = .int i/\Q (some i) H1
theorem kS {ns:List Int}:∀ {us:List Value},aL (ns.map V.int) us->IntsAre us ns:=by
 induction ns with
 | nil=>intro us r; rw [List.map_nil] at r; cases r; exact .nil
 | cons n ns ih=>
  intro us r
  rw [bq3] at r
  cases r with
  | cons r1 r2=>
   obtain ⟨t,e⟩:=r1
   subst e
   exact .cons n t (ih r2)
section
variable {X : Cx} {e : Expr} {te : TE} {lo hi : Option Expr} {tl th : TO} {pos p2 : Pos}
theorem aq3:PO X none aq1:=by
 intro pins s σ H Q I h
 rw [evalPart_none]
 exact bh6 ⟨none,H,I,.none,h⟩
theorem aq4 (h:PE X e te):PO X (some e) (aq2 te):=by
 intro pins s σ H Q I hw
 rw [evalPart_some]
 refine aM (h pins s σ H _ I hw) fun u s1 ⟨x,H1,I1,r1,q1⟩=>?_
 obtain ⟨i,rfl,q⟩:=q1
 obtain ⟨t,rfl⟩:=r1
 exact⟨some i,H1,I1,.int i t,q⟩
def jY (X:Cx) (r:V->Option Int->Option Int->Hp->VK->Prop):Prop:=
 ∀ (pins:List (Addr × Obj)) (s:Shared) (σ:St) (H:Hp) (x:V) (v vl vu:Value) (lo hi:Option Int) (sl:Addr) (Q:VK),a8 X pins σ H s->aS x v->s.heap.IsSliceOf sl vl vu .none->IsPart vl lo->IsPart vu hi->r x lo hi H Q->
  ∃ T id,typeLookup (.type T) "__getitem__" = pure (some (.builtin id))/\s.TypeIs v T/\wpAny (model X.prog X.w) X.A (getItem v (.ref sl)) (EP X pins σ Q) X.xe s
theorem jY.or {r r':V->Option Int->Option Int->Hp->VK->Prop} (h:jY X r) (h':jY X r'):jY X (fun x lo hi H Q=>r x lo hi H Q ∨ r' x lo hi H Q):=by
 intro pins s σ H x v vl vu lo hi sl Q I rx hs pl pu q
 rcases q with q | q
 ·exact h pins s σ H x v vl vu lo hi sl Q I rx hs pl pu q
 ·exact h' pins s σ H x v vl vu lo hi sl Q I rx hs pl pu q
def tSl (r:V->Option Int->Option Int->Hp->VK->Prop) (te:TE) (tl th:TO):TE:=fun σ H Q=>te σ H fun x H1=>tl σ H1 fun l H2=>th σ H2 fun u H3=>r x l u H3 Q
theorem aq5 {r:V->Option Int->Option Int->Hp->VK->Prop} (hr:jY X r) (he:PE X e te) (hl:PO X lo tl) (hu:PO X hi th):PE X (.Subscript e (.Slice lo hi none p2) pos) (tSl r te tl th):=by
 intro pins s σ H Q I h
 refine Subscript_ (aM (he pins s σ H _ I h) fun v s1 ⟨x,H1,I1,r1,q1⟩=>?_)
 refine wpAny_Slice (aM (hl pins s1 σ H1 _ I1 q1) fun vl s2 ⟨l,H2,I2,pl,q2⟩=>aM (hu pins s2 σ H2 _ I2 q2) fun vu s3 ⟨u,H3,I3,pu,q3⟩=>?_)
 rw [evalPart_none]
 refine bh6 ?_
 have I4:a8 X pins σ H3 { s3 with heap:=s3.heap.push { cls:=.type "slice",data:=.fields #[vl,vu,.none] } }:=I3.kept (t':=s3.toks) fun b ob q=>bh1 _ q
 obtain ⟨T,id,hT,ht,hg⟩:=hr pins { s3 with heap:=s3.heap.push { cls:=.type "slice",data:=.fields #[vl,vu,.none] } } σ H3 x v vl vu l u s3.heap.objs.size Q I4 r1 (Heap.IsSliceOf.new ..) pl pu q3
 show wpAny (model X.prog X.w) X.A (subscriptTail e (.Slice lo hi none p2) v (.ref s3.heap.objs.size)) (EP X pins σ Q) X.xe { s3 with heap:=s3.heap.push { cls:=.type "slice",data:=.fields #[vl,vu,.none] } }
 exact tail_any (ops:=[.ref s3.heap.objs.size,v]) ht hT hg (by with_unfolding_all rfl)
def gZ (xs:List V) (lo hi:Option Int):List V:=(xs.drop (HT.aX xs.length 0 lo)).take (HT.aX xs.length xs.length hi - HT.aX xs.length 0 lo)
theorem B7 (xs:List V) (lo hi:Option Int):(gZ xs lo hi).length<=xs.length:=by
 unfold gZ
 rw [bo6,br5]
 omega
def aq6 (K:PySem.W.Frag):V->Option Int->Option Int->Hp->VK->Prop:=fun x lo hi H Q=>∃ a xs,x = .ref a/\aO K H a xs/\
 ¬ (HT.aX xs.length 0 lo=0/\HT.aX xs.length xs.length hi=xs.length)/\∀ p,H p=none->Q (.ref p) (upd H p (.tup (gZ xs lo hi)))
theorem aq7:jY X (aq6 X.K):=by
 intro pins s σ H x v vl vu lo hi sl Q I rx hs pl pu h
 obtain ⟨a,xs,rfl,hx,hw,q⟩:=h
 cases rx
 obtain ⟨its,r,ht,hz⟩:=I.tuple hx
 have hlen:its.toArray.size=xs.length:=by rw [bh3]; exact r.length.symm
 refine⟨"tuple",_,PyProof.Rows.slot_tuple_getitem.lookup,ht.typeIs,?_⟩
 refine HT.aq0 ht hs pl pu (by rw [hlen]; exact hw) ?_ (by rw [hlen]; exact hz)
 rw [hlen]
 refine⟨.ref s.heap.objs.size,_,I.laid (t':=s.toks) (o:=.tup (gZ xs lo hi)) (fun b ob q=>bh1 _ q) (bh7 _) ?_,rfl,q _ (I.hok.fresh (bh7 _))⟩
 exact⟨bm4 (B7 xs lo hi) hz,_,(r.drop (HT.aX xs.length 0 lo)).take (HT.aX xs.length xs.length hi - HT.aX xs.length 0 lo),IsTup.new _ _,j8.new _ _ rfl⟩
def uI (K:PySem.W.Frag):R2:=fun x y H Q=>∃ a b ns ms,x = .ref a/\y = .ref b/\aO K H a (ns.map V.int)/\aO K H b (ms.map V.int)/\Q (.bl (HT.cA ns ms)) H
theorem aq8 (hu:X.A.units < cLine):bX X (compareOp .Lt) (uI X.K):=by
 intro pins s σ H x y v u Q I rx ry h
 obtain ⟨a,b,ns,ms,rfl,rfl,ha,hb,q⟩:=h
 cases rx
 cases ry
 obtain ⟨its,r1,p1,_⟩:=I.tuple ha
 obtain ⟨its2,r2,p2,_⟩:=I.tuple hb
 have i1:IntsAre its.toArray.toList ns:=kS r1
 have i2:IntsAre its2.toArray.toList ms:=kS r2
 exact HT.ap3 p1 p2 i1 i2 hu ⟨.bl (HT.cA ns ms),H,I,rfl,q⟩
end
def fJ (n:Nat) (i:Int):Option Nat:=if 0<=i then (if i < n then some i.toNat else none) else if -(n:Int)<=i then some (i+n).toNat else none
def atI {α:Type} (xs:List α) (i:Int):Option α:=(fJ xs.length i).bind fun j=>xs[j]?
theorem B8 {n:Nat}{i:Int}{j:Nat} (h:fJ n i=some j):seqIndex? i n=some j/\j < n/\-(n:Int)<=i/\i < n:=by
 unfold fJ at h
 by_cases h0:0<=i
 ·rw [if_pos h0] at h
  by_cases h1:i < n
  ·rw [if_pos h1] at h
   have e:i.toNat=j:=bk5 h
   exact⟨by rw [seqIndex_of h0 h1,e],by omega,by omega,h1⟩
  ·rw [if_neg h1] at h; cases h
 ·rw [if_neg h0] at h
  by_cases h1 : -(n:Int)<=i
  ·rw [if_pos h1] at h
   have e:(i+n).toNat=j:=bk5 h
   exact⟨by rw [seqIndex_neg (by omega) h1,e],by omega,h1,by omega⟩
  ·rw [if_neg h1] at h; cases h
theorem uJ {α:Type}{xs:List α}{i:Int}{v:α} (h:atI xs i=some v):∃ j,seqIndex? i xs.length=some j/\xs[j]? = some v/\j < xs.length/\-(xs.length:Int)<=i/\i < xs.length:=by
 unfold atI at h
 cases e:fJ xs.length i with
 | none=>rw [e] at h; cases h
 | some j=>
  rw [e] at h
  obtain ⟨h1,h2,h3,h4⟩:=B8 e
  exact⟨j,h1,h,h2,h3,h4⟩
theorem pP {α:Type}{xs:List α}{j:Nat}{v:α} (h:xs[j]? = some v):atI xs (j:Int)=some v:=by
 have hj:j < xs.length:=(bi3.mp h).1
 have e:fJ xs.length (j:Int)=some j:=by
  unfold fJ
  rw [if_pos (by omega),if_pos (by omega)]; simp
 unfold atI; rw [e]; exact h
def B9 (b:Expr):Prop:=∀ o i,subscripted b false o i=operate [o,i] (getItem o i)
def jB (X:Cx) (r:R2):Prop:=
 ∀ (value slice:Expr) (pins:List (Addr × Obj)) (s:Shared) (σ:St) (H:Hp) (x y:V) (v u:Value) (Q:VK),a8 X pins σ H s->aS x v->aS y u->r x y H Q->
  subscripted slice false v u=operate [v,u] (getItem v u)->wpAny (model X.prog X.w) X.A (subscriptTail value slice v u) (EP X pins σ Q) X.xe s
def C0 (X:Cx) (id:String) (r:V->List V->Hp->VK->Prop):Prop:=
 ∀ (pins:List (Addr × Obj)) (s:Shared) (σ:St) (H:Hp) (x:V) (xs:List V) (v:Value) (us:List Value) (Q:VK),a8 X pins σ H s->aS x v->aL xs us->r x xs H Q->
  wpAny (model X.prog X.w) X.A (call (.builtin id) (v :: us)) (EP X pins σ Q) X.xe s
section
variable {X : Cx} {a b : Expr} {ta tb : TE} {pos : Pos}
theorem jB.or {r r':R2} (h:jB X r) (h':jB X r'):jB X (fun x y H Q=>r x y H Q ∨ r' x y H Q):=by
 intro value slice pins s σ H x y v u Q I rx ry q hs
 rcases q with q | q
 ·exact h value slice pins s σ H x y v u Q I rx ry q hs
 ·exact h' value slice pins s σ H x y v u Q I rx ry q hs
theorem nJ {r:R2} (hr:jB X r) (ha:PE X a ta) (hb:PE X b tb) (hs:B9 b):PE X (.Subscript a b pos) (nF r ta tb):=by
 intro pins s σ H Q I h
 exact Subscript_ (u7 ha hb I h fun v u s2 x y H2 I2 rx ry q=>hr a b pins s2 σ H2 x y v u Q I2 rx ry q (hs _ _))
def C1 (K:PySem.W.Frag):R2:=fun x y H Q=>∃ p xs i v,x = .ref p/\y = .int i/\aR K H p xs/\atI xs i=some v/\Q v H
def C2 (K:PySem.W.Frag):R2:=fun x y H Q=>∃ p xs i v,x = .ref p/\y = .int i/\aO K H p xs/\atI xs i=some v/\Q v H
def C3:R2:=fun x y H Q=>∃ z i c,x = .str z/\y = .int i/\z.length<=sizeLine/\atI z.cps.toList i=some c/\Q (.str ⟨#[c]⟩) H
theorem uK:jB X (C1 X.K):=by
 intro value slice pins s σ H x y v u Q I rx ry h hs
 obtain ⟨p,xs,i,z,rfl,rfl,hq,he,q⟩:=h
 cases rx
 obtain ⟨t,rfl⟩:=ry
 obtain ⟨its,r,pl,hz⟩:=I.list hq
 obtain ⟨j,h1,h2,h3,h4,h5⟩:=uJ he
 obtain ⟨w,ew,rw'⟩:=r.get h2
 have hl:=r.length
 have hn:=lP
 have fin:EP X pins σ Q w s:=⟨z,H,I,rw',q⟩
 by_cases h0:0<=i
 ·have hj:i.toNat=j:=by
   rw [seqIndex_of h0 h5] at h1
   exact bk5 h1
  exact item_listR pl.isList h0 (by omega) (by rw [hj]; simpa using ew) fin hs
 ·have hj:(i+(its.toArray.size:Int)).toNat=j:=by
   rw [seqIndex_neg (by omega) h4] at h1
   rw [bh3,<- hl]
   exact bk5 h1
  exact subscriptTail_builtinR (x:=w) pl.isList.typeIs slot_list_getitem.lookup
   (wpAny_getItem_list_neg (Q:=fun r s'=>r=w/\EP X pins σ Q r s') pl.isList (by omega) (by rw [bh3] <;> omega) (by omega) (by rw [hj]; simpa using ew) ⟨rfl,fin⟩) hs
theorem uL:jB X (C2 X.K):=by
 intro value slice pins s σ H x y v u Q I rx ry h hs
 obtain ⟨p,xs,i,z,rfl,rfl,hq,he,q⟩:=h
 cases rx
 obtain ⟨t,rfl⟩:=ry
 obtain ⟨its,r,pl,hz⟩:=I.tuple hq
 obtain ⟨j,h1,h2,h3,h4,h5⟩:=uJ he
 obtain ⟨w,ew,rw'⟩:=r.get h2
 have hl:=r.length
 have hn:=lP
 have fin:EP X pins σ Q w s:=⟨z,H,I,rw',q⟩
 exact subscriptTail_builtinR (x:=w) pl.typeIs slot_tuple_getitem.lookup
  (getItem_tuple (j:=j) (Q:=fun r s'=>r=w/\EP X pins σ Q r s') pl (by omega) (by omega) (by rw [bh3,<- hl]; exact h1) (by simpa using ew) ⟨rfl,fin⟩) hs
theorem aq9:jB X C3:=by
 intro value slice pins s σ H x y v u Q I rx ry h hs
 obtain ⟨z,i,c,rfl,rfl,hz,he,q⟩:=h
 obtain ⟨t,rfl⟩:=rx
 obtain ⟨t',rfl⟩:=ry
 obtain ⟨j,h1,h2,h3,h4,h5⟩:=uJ he
 have hl:z.cps.toList.length=z.length:=by simp [Str.length]
 rw [hl] at h1 h4 h5
 have hn:=lP
 exact tail_any (typeIs_str s z t) slot_str_getitem.lookup (getItem_str (c:=c) (by
  have e1:decide (i < -(2 ^ 63:Int))=false:=bh2 (by omega)
  have e2:decide (i >= 2 ^ 63)=false:=bh2 (by omega)
  rw [e1,e2,Bool.or_false]) (by rw [h1]; simpa using h2) ⟨.str ⟨#[c]⟩,H,I.tok _,⟨_,rfl⟩,q⟩) hs
def C4 (K:PySem.W.Frag):R2:=fun x y H Q=>C1 K x y H Q ∨ C2 K x y H Q ∨ C3 x y H Q
theorem ar0:jB X (C4 X.K):=uK.or (uL.or aq9)
theorem ar1 (its:List Value) (n j:Nat) (u:Value):Obj.mapSeq (·.setIfInBounds j u) { cls:=.type "list",data:=.seq its.toArray n }={ cls:=.type "list",data:=.seq (its.set j u).toArray n }:=by
 simp [Obj.mapSeq]
theorem a8.lst {pins:List (Addr × Obj)}{σ:St}{H:Hp}{s:Shared}{p:Addr}{xs:List V} (I:a8 X pins σ H s) (h:H p=some (.lst xs)) :
  ∃ (its:List Value) (n:Nat),aL xs its/\s.heap.get? p=some { cls:=.type "list",data:=.seq its.toArray n }/\xs.length<=sizeLine:=by
 obtain ⟨z,its,n,r,e⟩:=I.hok p _ h
 exact⟨its,n,r,e,z⟩
theorem a8.lstUpd {pins:List (Addr × Obj)}{σ:St}{H:Hp}{s:Shared}{p:Addr}{xs ys:List V}{its its':List Value}{n n':Nat}{f:Obj->Obj} (I:a8 X pins σ H s) (h:H p=some (.lst xs))
  (ho:s.heap.get? p=some { cls:=.type "list",data:=.seq its.toArray n }) (hf:f { cls:=.type "list",data:=.seq its.toArray n }={ cls:=.type "list",data:=.seq its'.toArray n' }) (r:aL ys its') (hz:ys.length<=sizeLine) (t:Nat) :
  a8 X pins σ (upd H p (.lst ys)) { s with heap:=s.heap.update p f,toks:=t }:=by
 have e:(s.heap.update p f).get? p=some { cls:=.type "list",data:=.seq its'.toArray n' }:=by
  rw [Heap.get?_update_self f ho (by rw [hf] <;> rfl),hf]
 refine I.write (x:=p) (e:=p) (by rw [h]; trivial) (.inl rfl) (fun b u hb q=>(Heap.get?_update_other _ _ (Ne.symm hb)).trans q) ⟨_,e⟩ ?_
 exact⟨hz,its',n',r,e⟩
def nL:V->V->V->Hp->(Hp->Prop)->Prop:=fun o i v H Q=>∃ p xs k j,o = .ref p/\i = .int k/\H p=some (.lst xs)/\fJ xs.length k=some j/\Q (upd H p (.lst (xs.set j v)))
theorem C5:zJ X nL:=by
 intro pins s σ H o i v ov iv u Q I ro ri rv h
 obtain ⟨p,xs,k,j,rfl,rfl,hp,hj,q⟩:=h
 cases ro
 obtain ⟨t,rfl⟩:=ri
 obtain ⟨its,n,r,ho,hz⟩:=I.lst hp
 obtain ⟨h1,h2,h3,h4⟩:=B8 hj
 have hl:=r.length
 have hn:=lP
 have I':a8 X pins σ (upd H p (.lst (xs.set j v))) { s with heap:=s.heap.update p (Obj.mapSeq (·.setIfInBounds j u)) }:=
  I.lstUpd hp ho (ar1 its n j u) (r.set rv j) (by rw [bm6]; exact hz) s.toks
 by_cases h0:0<=k
 ·have hk:k.toNat=j:=by
   rw [seqIndex_of h0 h4] at h1
   exact bk5 h1
  exact PySem.W.ki_setAt ho h0 (by omega) (by rw [bh3,<- hl]; exact h4) (by rw [hk]; exact⟨_,I',q⟩)
 ·have hk:(k+(its.toArray.size:Int)).toNat=j:=by
   rw [seqIndex_neg (by omega) h3] at h1
   rw [bh3,<- hl]
   exact bk5 h1
  exact PySem.W.ki_setBack ho (by omega) (by rw [bh3,<- hl]; exact h3) (by omega) (by rw [hk]; exact⟨_,I',q⟩)
theorem ar2 (lo hi:Option Int) (n:Nat):(sliceBounds lo hi none n).1=((HT.aX n 0 lo:Nat):Int)/\(sliceBounds lo hi none n).2.1=((HT.aX n n hi:Nat):Int)/\(sliceBounds lo hi none n).2.2=1:=by
 refine⟨?_,?_,rfl⟩
 ·cases lo with
  | none=>simp [sliceBounds,HT.aX]
  | some i=>
   simp only [sliceBounds,HT.aX,Option.getD_none,show (1:Int) > 0 by decide,if_true]
   by_cases h:i < 0
   ·simp only [h,if_true] <;> omega
   ·simp only [h,bq8] <;> omega
 ·cases hi with
  | none=>simp [sliceBounds,HT.aX]
  | some i=>
   simp only [sliceBounds,HT.aX,Option.getD_none,show (1:Int) > 0 by decide,if_true]
   by_cases h:i < 0
   ·simp only [h,if_true] <;> omega
   ·simp only [h,bq8] <;> omega
theorem ar3 (its:List Value) (lo hi:Option Int):slicePick its.toArray lo hi none=((its.drop (HT.aX its.length 0 lo)).take (HT.aX its.length its.length hi - HT.aX its.length 0 lo)).toArray:=by
 obtain ⟨h1,h2,h3⟩:=ar2 lo hi its.toArray.size
 unfold slicePick
 rw [h1,h2,h3]
 simp only [sliceRange_one,pick_run,bh3] <;> rfl
def ar4 (K:PySem.W.Frag):V->Option Int->Option Int->Hp->VK->Prop:=fun x lo hi H Q=>∃ a xs,x = .ref a/\aR K H a xs/\∀ p,H p=none->Q (.ref p) (upd H p (.lst (gZ xs lo hi)))
theorem ar5:jY X (ar4 X.K):=by
 intro pins s σ H x v vl vu lo hi sl Q I rx hs pl pu h
 obtain ⟨a,xs,rfl,hx,q⟩:=h
 cases rx
 obtain ⟨its,r,ht,hz⟩:=I.list hx
 have hlen:=r.length
 refine⟨"list",_,slot_list_getitem.lookup,ht.isList.typeIs,?_⟩
 refine wpAny_getItem_list_slice ht.isList hs pl pu .none (by simp) ?_ (by rw [bh3] <;> omega)
 rw [ar3,<- hlen]
 refine⟨.ref s.heap.objs.size,_,I.laid (t':=s.toks) (o:=.lst (gZ xs lo hi)) (fun b ob q=>bh1 _ q) (bh7 _) ?_,rfl,q _ (I.hok.fresh (bh7 _))⟩
 exact⟨bm4 (B7 xs lo hi) hz,_,0,(r.drop (HT.aX xs.length 0 lo)).take (HT.aX xs.length xs.length hi - HT.aX xs.length 0 lo),bj1 _ rfl⟩
theorem ar6:dA X (.builtin "len") (fun xs H Q=>∃ p ys,xs = [.ref p]/\(aR X.K H p ys ∨ aO X.K H p ys)/\Q (.int ys.length) H):=by
 intro pins s σ H xs us Q I r h
 obtain ⟨p,ys,rfl,hq,q⟩:=h
 obtain ⟨u,rfl,rx⟩:=gG r
 cases rx
 have hn:=lP
 rcases hq with hq | hq
 ·obtain ⟨its,r',pl,hz⟩:=I.list hq
  have hlen:=r'.length
  exact Calls.call_len_list pl.isList (by simp only [bh3] <;> omega) ⟨.int ys.length,H,I.tok _,⟨s.toks+1,by rw [bh3,hlen]⟩,q⟩
 ·obtain ⟨its,r',pl,hz⟩:=I.tuple hq
  have hlen:=r'.length
  exact len_tuple pl (by simp only [bh3] <;> omega) ⟨.int ys.length,H,I.tok _,⟨s.toks+1,by rw [bh3,hlen]⟩,q⟩
theorem dA.or {f:Value}{r r':List V->Hp->VK->Prop} (h:dA X f r) (h':dA X f r'):dA X f (fun xs H Q=>r xs H Q ∨ r' xs H Q):=by
 intro pins s σ H xs us Q I rs q
 rcases q with q | q
 ·exact h pins s σ H xs us Q I rs q
 ·exact h' pins s σ H xs us Q I rs q
theorem ar7:dA X (.type "list") (fun xs H Q=>∃ p ys,xs = [.ref p]/\(aR X.K H p ys ∨ aO X.K H p ys)/\∀ l,H l=none->Q (.ref l) (upd H l (.lst ys))):=by
 intro pins s σ H xs us Q I r h
 obtain ⟨p,ys,rfl,hq,q⟩:=h
 obtain ⟨u,rfl,rx⟩:=gG r
 cases rx
 have fin:∀ (its:List Value),aL ys its->ys.length<=sizeLine->∀ (h':Heap) (c':Nat),(∀ b o',s.heap.get? b=some o'->h'.get? b=some o')->
   h'.get? s.heap.objs.size=some { cls:=.type "list",dict:=none,data:=.seq its.toArray c',slots:=#[] }->EP X pins σ Q (.ref s.heap.objs.size) { s with heap:=h' }:=fun its r' hz h' c' kp e=>
  ⟨.ref s.heap.objs.size,_,I.laid (t':=s.toks) kp (bh7 _) (show c7 X.prog X.w _ h' _ (.lst ys) from ⟨hz,its,c',r',e⟩),rfl,q _ (I.hok.fresh (bh7 _))⟩
 rcases hq with hq | hq
 ·obtain ⟨its,r',pl,hz⟩:=I.list hq
  have hlen:=r'.length
  obtain ⟨o,ho,hc,n,hd⟩:=pl.isList
  exact call_list_seq p (.inl rfl) ho hc hd (fun h' c' kp e=>fin its r' hz h' c' kp e) (by simp only [bh3] <;> omega)
 ·obtain ⟨its,r',pl,hz⟩:=I.tuple hq
  have hlen:=r'.length
  obtain ⟨o,ho,hc,n,hd⟩:=pl
  exact call_list_seq p (.inr rfl) ho hc hd (fun h' c' kp e=>fin its r' hz h' c' kp e) (by simp only [bh3] <;> omega)
theorem ar8:dA X (.type "tuple") (fun xs H Q=>∃ p ys,xs = [.ref p]/\((aR X.K H p ys/\∀ l,H l=none->Q (.ref l) (upd H l (.tup ys))) ∨ (aO X.K H p ys/\Q (.ref p) H))):=by
 intro pins s σ H xs us Q I r h
 obtain ⟨p,ys,rfl,h⟩:=h
 obtain ⟨u,rfl,rx⟩:=gG r
 cases rx
 rcases h with ⟨hq,q⟩ | ⟨hq,q⟩
 ·obtain ⟨its,r',pl,hz⟩:=I.list hq
  have hlen:=r'.length
  refine call_tuple_list pl.isList (fun h' kp=>?_) (by simp only [bh3] <;> omega)
  have I1:a8 X pins σ H { s with heap:=h' }:=I.kept (t':=s.toks) kp
  have I2:a8 X pins σ (upd H h'.objs.size (.tup ys)) { s with heap:=h'.push { cls:=.type "tuple",data:=.seq its.toArray } }:=
   I1.laid (t':=s.toks) (fun b o e=>bh1 _ e) (bh7 _) (show c7 X.prog X.w _ _ _ (.tup ys) from ⟨hz,its,r',IsTup.new _ _,j8.new _ _ rfl⟩)
  exact⟨.ref h'.objs.size,_,I2,rfl,q _ (I1.hok.fresh (bh7 _))⟩
 ·obtain ⟨its,r',pl,hz⟩:=I.tuple hq
  exact call_tuple_same pl ⟨.ref p,H,I,rfl,q⟩
def gK (K:PySem.W.Frag) (T:String) (x:V) (H:Hp):Prop:=match x with
 | .str _=>T="str"
 | .int _=>T="int"
 | .ref p=>(T="list"/\∃ xs,aR K H p xs) ∨ (T="tuple"/\∃ o,K.lookup p=some o/\o.cls = .type "tuple"/\o.dict=none) ∨
   (T="dict"/\((∃ kvs,H p=some (.dK kvs)) ∨ ∃ kvs,H p=some (.dT kvs))) ∨ (T="set"/\∃ S n,H p=some (.set S n))
 | _=>False
theorem C6 {pins:List (Addr × Obj)}{σ:St}{H:Hp}{s:Shared}{T:String}{x:V}{v:Value} (I:a8 X pins σ H s) (r:aS x v) (ty:gK X.K T x H) :
  s.TypeIs v T/\∀ a,v = .ref a->∃ ob,s.heap.get? a=some ob/\ob.dict=none:=by
 cases x with
 | str z=>
  obtain ⟨t,rfl⟩:=r
  cases (show T="str" from ty)
  exact⟨typeIs_str s z t,fun _ e=>nomatch e⟩
 | int i=>
  obtain ⟨t,rfl⟩:=r
  cases (show T="int" from ty)
  exact⟨typeIs_int s i t,fun _ e=>nomatch e⟩
 | ref p=>
  cases r
  rcases ty with ⟨rfl,xs,hq⟩ | ⟨rfl,o,hk,hc,hd⟩ | ⟨rfl,hk⟩ | ⟨rfl,S,n,hk⟩
  ·obtain ⟨its,_,pl,_⟩:=I.list hq
   refine⟨pl.isList.typeIs,fun a e=>?_⟩
   cases e
   obtain ⟨o,n,e,c,hd,_⟩:=pl
   exact⟨o,e,hd⟩
  ·refine⟨⟨o,I.kIn p o hk,hc⟩,fun a e=>?_⟩
   cases e
   exact⟨o,I.kIn _ o hk,hd⟩
  ·have z:∃ o,s.heap.get? p=some o/\o.ExactDict:=by
    rcases hk with ⟨kvs,hk⟩ | ⟨kvs,hk⟩
    ·obtain ⟨_,_,_,_,o,_,_,e,ex,_⟩:=I.hok p _ hk
     exact⟨o,e,ex⟩
    ·obtain ⟨_,_,_,_,o,_,_,e,ex,_⟩:=I.hok p _ hk
     exact⟨o,e,ex⟩
   obtain ⟨o,e,ex⟩:=z
   refine⟨⟨o,e,ex.1⟩,fun a e2=>?_⟩
   cases e2
   exact⟨o,e,ex.2.1⟩
  ·obtain ⟨o,_,_,_,e,ex,_⟩:=I.hok p _ hk
   refine⟨⟨o,e,ex.1⟩,fun a e2=>?_⟩
   cases e2
   exact⟨o,e,ex.2.1⟩
 | _=>exact False.elim ty
def C7 (K:PySem.W.Frag) (T:String) (r:V->List V->Hp->VK->Prop) (to:TE):TE:=fun σ H Q=>to σ H fun x H1=>gK K T x H1/\r x [] H1 Q
def C8 (K:PySem.W.Frag) (T:String) (r:V->List V->Hp->VK->Prop) (to:TE) (t:TA):TE:=fun σ H Q=>to σ H fun x H1=>gK K T x H1/\t σ H1 fun xs H2=>r x xs H2 Q
variable {o e : Expr} {es : List Expr} {to : TE} {t : TA} {name : Str} {apos cpos : Pos} {T id : String} {r : V → List V → Hp → VK → Prop}
theorem ar9 (pa:PlainAttrs T) (slot:Slot T name id) (hty:typeOf (.builtin id)=pure (.type "method_descriptor")) (hm:C0 X id r) (ho:PE X o to)
  (hbase:attributeBase o name X.env (eval o X.env)=eval o X.env:=by rfl) (hline:(apos.endLine == cpos.line)=true:=by rfl):PE X (.Call (.Attribute o name apos) [] [] cpos) (C7 X.K T r to):=by
 intro pins s σ H Q I h
 refine wpAny_Call_method0_late hbase hline (aM (ho pins s σ H _ I h) fun v s1 ⟨x,H1,I1,r1,ty,q1⟩=>?_)
 obtain ⟨h1,h2⟩:=C6 I1 r1 ty
 exact⟨T,id,pa,slot,hty,h1,h2,Calls.callWith_builtin rfl (PySem.evalArgs_none (hm pins s1 σ H1 x [] v [] Q I1 r1 .nil q1))⟩
theorem uM (pa:PlainAttrs T) (slot:Slot T name id) (hty:typeOf (.builtin id)=pure (.type "method_descriptor")) (hm:C0 X id r) (ho:PE X o to) (ha:PA X (e :: es) t)
  (hbase:attributeBase o name X.env (eval o X.env)=eval o X.env:=by rfl)
  (hfew:((backTo cpos (starEach (e :: es) X.env)).all (fun x=>!x.1) && (backToKw cpos (keywordEach [] X.env)).all (fun x=>x.1.isSome)
   && decide ((e :: es).length+([]:List Keyword).length+(if ([]:List Keyword).isEmpty then 0 else 1) < 30))=true:=by rfl)
  (hline:(apos.endLine == cpos.line)=true:=by rfl) (hs:starEach (e :: es) X.env=(false,eval e X.env) :: starEach es X.env:=by rfl) (hplain:(backTo cpos (starEach es X.env)).any (·.1)=false:=by rfl) :
  PE X (.Call (.Attribute o name apos) (e :: es) [] cpos) (C8 X.K T r to t):=by
 intro pins s σ H Q I h
 refine wpAny_Call_method_late hbase hfew hline rfl (aM (ho pins s σ H _ I h) fun v s1 ⟨x,H1,I1,r1,ty,q1⟩=>?_)
 obtain ⟨h1,h2⟩:=C6 I1 r1 ty
 refine⟨T,id,pa,slot,hty,h1,h2,?_⟩
 have hA:=ha cpos pins s1 σ H1 _ I1 q1
 rw [hs] at hA ⊢
 refine Calls.callWith_builtin (by show (false || (backTo cpos (starEach es X.env)).any (·.1))=false; rw [hplain] <;> rfl) (Calls.evalArgs_plain ?_)
 exact aM hA fun us s2 ⟨vs,H2,I2,r2,q2⟩=>hm pins s2 σ H2 x vs v us Q I2 r1 r2 q2
end
def uN (X:Cx) (id:String) (r:V->List V->Hp->VK->Prop):Prop:=
 ∀ (pins:List (Addr × Obj)) (s:Shared) (σ:St) (H:Hp) (x:V) (xs:List V) (v:Value) (us:List Value) (Q:VK),a8 X pins σ H s->aS x v->aL xs us->r x xs H Q->
  wpAny (model X.prog X.w) X.A (call (.builtin id) (v :: us)) (EP X pins σ Q) X.xe s
theorem aL.one {x:V}{us:List Value} (h:aL [x] us):∃ u,us = [u]/\aS x u:=by
 cases h with
 | cons r t=>
  cases t
  exact⟨_,rfl,r⟩
theorem aL.two {x y:V}{us:List Value} (h:aL [x,y] us):∃ u v,us = [u,v]/\aS x u/\aS y v:=by
 cases h with
 | cons r t=>
  cases t with
  | cons q t=>
   cases t
   exact⟨_,_,rfl,r,q⟩
theorem aL.zero:∀ {us:List Value},aL [] us->us = []
 | _,.nil=>rfl
theorem aL.dropLast {xs:List V}{us:List Value} (h:aL xs us):aL xs.dropLast us.dropLast:=by
 induction h with
 | nil=>exact .nil
 | cons r t ih=>
  cases t with
  | nil=>exact .nil
  | cons q t'=>exact .cons r ih
theorem aL.eraseIdx:∀ {xs:List V}{us:List Value} (i:Nat),aL xs us->aL (xs.eraseIdx i) (us.eraseIdx i)
 | _,_,_,.nil=>.nil
 | _,_,0,.cons _ t=>t
 | _,_,i+1,.cons r t=>.cons r (aL.eraseIdx i t)
theorem aL.rep {xs:List V}{us:List Value} (h:aL xs us):∀ k:Nat,aL (List.replicate k xs).flatten (List.replicate k us).flatten
 | 0=>.nil
 | k+1=>by
  rw [bq5,bq5,bs0,bs0]
  exact aL.append h (aL.rep h k)
theorem as0 {α:Type} (l:List α):l.eraseIdx (l.length - 1)=l.dropLast:=by
 induction l with
 | nil=>rfl
 | cons a r ih=>
  cases r with
  | nil=>rfl
  | cons b r=>
   have e:(a :: b :: r).length - 1=((b :: r).length - 1)+1:=by
    have h1:(a :: b :: r).length=r.length+2:=rfl
    have h2:(b :: r).length=r.length+1:=rfl
    omega
   rw [e,List.eraseIdx_cons_succ,ih]
   all_goals rfl
theorem C9 (its:List Value):∀ (k:Nat) (acc:List Value),
  List.foldl (fun x1 x2=>x1 ++ x2) acc.toArray (List.replicate k its.toArray)=(acc ++ (List.replicate k its).flatten).toArray
 | 0,acc=>by simp
 | k+1,acc=>by
  have e:acc.toArray ++ its.toArray=(acc ++ its).toArray:=by simp
  have e2:(acc ++ its) ++ (List.replicate k its).flatten=acc ++ (List.replicate (k+1) its).flatten:=by
   rw [bq5,bs0,bj2]
  rw [<- e2,<- C9 its k (acc ++ its),<- e,bq5,List.foldl_cons]
section
variable {X : Cx} {pins : List (Addr × Obj)} {σ : St} {H : Hp} {s : Shared} {l b : Addr} {xs ys zs : List V}
theorem a8.lset {its its':List Value}{n:Nat}{f:Array Value->Array Value}{t':Nat} (I:a8 X pins σ H s) (hH:H l=some (.lst xs))
  (e:s.heap.get? l=some { cls:=.type "list",data:=.seq its.toArray n }) (hf:f its.toArray=its'.toArray) (hv:aL ys its') (hz:ys.length<=sizeLine) :
  a8 X pins σ (upd H l (.lst ys)) { s with heap:=s.heap.update l (Obj.mapSeq f),toks:=t' }:=by
 have q:=PySem.IsL.update e f
 rw [hf] at q
 refine I.write (x:=l) (e:=l) (by rw [hH]; exact trivial) (.inl rfl) (fun b' u hb hu=>(Heap.get?_update_other s.heap (Obj.mapSeq f) (Ne.symm hb)).trans hu) ⟨_,q⟩ ?_
 exact⟨hz,its',_,hv,q⟩
theorem a8.lnew {its:List Value}{t':Nat} (I:a8 X pins σ H s) (hv:aL ys its) (hz:ys.length<=sizeLine) :
  a8 X pins σ (upd H s.heap.objs.size (.lst ys)) { s with heap:=s.heap.push { cls:=.type "list",data:=.seq its.toArray },toks:=t' }:=
 I.laid (fun _ _ q=>bh1 _ q) (bh7 _) ⟨hz,its,0,hv,bj1 _ rfl⟩
theorem a8.fresh (I:a8 X pins σ H s):H s.heap.objs.size=none:=I.hok.fresh (bh7 _)
theorem a8.lstM (I:a8 X pins σ H s) (hH:H l=some (.lst xs)):xs.length<=sizeLine/\∃ (its:List Value) (n:Nat),aL xs its/\xs.length=its.length/\s.heap.get? l=some { cls:=.type "list",data:=.seq its.toArray n }:=by
 obtain ⟨z,its,n,r,e⟩:=I.hok l _ hH
 exact⟨z,its,n,r,r.length,e⟩
theorem E1 {n:Nat} (h:n<=sizeLine):Builtin.List.listTooLong n=false:=by
 unfold Builtin.List.listTooLong
 exact bh2 (by omega)
end
section
variable {X : Cx}
def E2:V->List V->Hp->VK->Prop:=fun x vs H Q=>∃ l xs y,x = .ref l/\vs = [y]/\H l=some (.lst xs)/\xs.length < sizeLine/\Q .non (upd H l (.lst (xs ++ [y])))
theorem pQ:uN X "list.append" E2:=by
 intro pins s σ H x vs v us Q I rx rv h
 obtain ⟨l,xs,y,rfl,rfl,hH,hz,q⟩:=h
 cases rx
 obtain ⟨u,rfl,ru⟩:=rv.one
 obtain ⟨z,its,n,r,hl,e⟩:=I.lstM hH
 refine call_meets F.slot_list_append ⟨_,e,rfl⟩ F.entry_list_append (F.args_list_append_2 _ _) (PySem.list_append l its.toArray n u (by rw [bh3]; omega)) ⟨e,?_⟩
 refine⟨.non,_,I.lset (its':=its ++ [u]) hH e (by simp) (r.append (.cons ru .nil)) ?_,rfl,q⟩
 rw [bi0,bl3]
 omega
def as1:V->List V->Hp->VK->Prop:=fun x vs H Q=>∃ l b xs zs,x = .ref l/\vs = [.ref b]/\H l=some (.lst xs)/\H b=some (.lst zs)/\xs.length+zs.length<=sizeLine/\Q .non (upd H l (.lst (xs ++ zs)))
theorem bg6:uN X "list.extend" as1:=by
 intro pins s σ H x vs v us Q I rx rv h
 obtain ⟨l,b,xs,zs,rfl,rfl,hH,hB,hz,q⟩:=h
 cases rx
 obtain ⟨u,rfl,ru⟩:=rv.one
 cases ru
 obtain ⟨z,its,n,r,hl,e⟩:=I.lstM hH
 obtain ⟨z2,its2,n2,r2,hl2,e2⟩:=I.lstM hB
 have hsz:its.toArray.size+its2.toArray.size<=sizeLine:=by rw [bh3,bh3]; omega
 have hlong : ¬ (!its.toArray.isEmpty && Builtin.List.listTooLong (its.toArray.size+its2.toArray.size))=true:=by
  rw [E1 hsz,bp5]
  exact bj6
 refine call_meets F.slot_list_extend ⟨_,e,rfl⟩ F.entry_list_extend (F.args_list_extend_2 _ _)
  (AutoSeq1.list_extend_list_list_0 l its.toArray n b its2.toArray n2 hlong (by rw [bh3]; omega) (by omega)) ⟨e,e2,?_⟩
 refine⟨.non,_,I.lset (its':=its ++ its2) hH e (by simp) (r.append r2) ?_,rfl,q⟩
 rw [bi0]
 omega
def E3:V->List V->Hp->VK->Prop:=fun x vs H Q=>∃ l xs y,x = .ref l/\vs = []/\H l=some (.lst xs)/\xs[xs.length - 1]? = some y/\Q y (upd H l (.lst xs.dropLast))
theorem as2:uN X "list.pop" E3:=by
 intro pins s σ H x vs v us Q I rx rv h
 obtain ⟨l,xs,y,rfl,rfl,hH,hy,q⟩:=h
 cases rx
 have hus:=rv.zero
 subst hus
 obtain ⟨z,its,n,r,hl,e⟩:=I.lstM hH
 obtain ⟨u,hu,ru⟩:=r.get hy
 have hy':its.toArray[its.toArray.size - 1]? = some u:=by
  show its.toArray[its.length - 1]? = some u
  rw [<- bq6,<- hl]
  exact hu
 refine call_meets F.slot_list_pop ⟨_,e,rfl⟩ F.entry_list_pop (F.args_list_pop_1 _) (MeetsSeq.list_pop_last l its.toArray n u hy' (by rw [bh3]; omega)) ⟨e,?_⟩
 refine⟨y,_,I.lset (its':=its.dropLast) hH e ?_ r.dropLast ?_,ru,q⟩
 ·show its.toArray.eraseIdxIfInBounds (its.toArray.size - 1)=its.dropLast.toArray
  rw [bh3,List.eraseIdxIfInBounds_toArray,as0]
 ·rw [List.length_dropLast]
  omega
def E4:R2:=fun x y H Q=>∃ l b xs zs,x = .ref l/\y = .ref b/\H l=some (.lst xs)/\H b=some (.lst zs)/\xs.length+zs.length<=sizeLine/\∀ p,H p=none->Q (.ref p) (upd H p (.lst (xs ++ zs)))
theorem as3:bX X (binaryOp .Add) E4:=by
 intro pins s σ H x y v u Q I rx ry h
 obtain ⟨l,b,xs,zs,rfl,rfl,hH,hB,hz,q⟩:=h
 cases rx
 cases ry
 obtain ⟨z,its,n,r,hl,e⟩:=I.lstM hH
 obtain ⟨z2,its2,n2,r2,hl2,e2⟩:=I.lstM hB
 refine PySem.P.add_list e e2 ?_ (by rw [bh3,bh3]; omega)
 have ea:its.toArray ++ its2.toArray=(its ++ its2).toArray:=by simp
 rw [ea]
 exact⟨.ref _,_,I.lnew (t':=s.toks) (r.append r2) (by rw [bi0]; omega),rfl,q _ I.fresh⟩
def E5:R2:=fun x y H Q=>∃ l k xs,x = .ref l/\y = .int k/\H l=some (.lst xs)/\-(2 ^ 63)<=k/\k < 2 ^ 63/\xs.length * k.toNat<=sizeLine/\
 ∀ p,H p=none->Q (.ref p) (upd H p (.lst (List.replicate k.toNat xs).flatten))
theorem as4 {α:Type} (xs:List α) (k:Nat):(List.replicate k xs).flatten.length=k * xs.length:=by
 induction k with
 | zero=>simp
 | succ k ih=>rw [bq5,bs0,bi0,ih,Nat.succ_mul,Nat.add_comm]
theorem as5:bX X (binaryOp .Mult) E5:=by
 intro pins s σ H x y v u Q I rx ry h
 obtain ⟨l,k,xs,rfl,rfl,hH,h1,h2,hz,q⟩:=h
 cases rx
 obtain ⟨t,rfl⟩:=ry
 obtain ⟨z,its,n,r,hl,e⟩:=I.lstM hH
 have hlen:its.toArray.size * k.toNat<=sizeLine:=by rw [bh3,<- hl]; exact hz
 have hcap : ¬ its.toArray.size * k.toNat > (2 ^ 63 - 1) / 8:=by
  have:(sizeLine:Nat)<=(2 ^ 63 - 1) / 8:=by decide
  omega
 have hfit : ¬ (!Builtin.List.listFitsIndex k)=true:=by
  rw [fitsIndex_both h1 h2]
  exact bj6
 have hlong : ¬ Builtin.List.listTooLong (its.toArray.size * k.toNat)=true:=by
  rw [E1 hlen]
  exact bj6
 have hnew:List.foldl (fun x1 x2=>x1 ++ x2) #[] (List.replicate (if its.toArray.isEmpty=true then 0 else k.toNat) its.toArray)=(List.replicate k.toNat its).flatten.toArray:=by
  have f0:∀ m:Nat,List.foldl (fun x1 x2=>x1 ++ x2) #[] (List.replicate m its.toArray)=(List.replicate m its).flatten.toArray:=fun m=>by
   have:=C9 its m []
   rw [List.nil_append] at this
   exact this
  rw [f0]
  cases its with
  | nil=>simp
  | cons a r'=>rw [if_neg (by simp)]
 refine wpAny_binaryOp_repeat_ref (T:="list") (U:="int") (by decide) ⟨_,e,rfl⟩ (fun s'=>typeIs_int s' k t) noFill_list_mul F.fills_int_mul F.slot_int_rmul repeat_list F.slot_int_index.lookup
  (call_meets F.slot_int_rmul (typeIs_int s k t) F.entry_int_rmul (F.args_int_rmul_2 _ _) (int___rmul___int_list k t l its.toArray n)
   ⟨e,rfl,⟨_,e,rfl⟩,call_meets F.slot_list_mul ⟨_,e,rfl⟩ F.entry_list_mul (F.args_list_mul_2 _ _) (AutoListH.list___mul___list_int_3 l its.toArray n k t hfit hcap hlong) ⟨e,?_⟩⟩)
 rw [hnew]
 exact⟨.ref _,_,I.lnew (t':=s.toks) (r.rep k.toNat) (by rw [as4,Nat.mul_comm]; exact hz),rfl,q _ I.fresh⟩
end
section
variable {κ : Type} [DecidableEq κ]
def fD (kvs:List (κ × V)) (k:κ):Option V:=(kvs.find? fun kv=>decide (kv.1=k)).map (·.2)
def dR (kvs:List (κ × V)) (k:κ) (v:V):List (κ × V):=
 if (kvs.any fun kv=>decide (kv.1=k))=true then kvs.map (fun kv=>if kv.1=k then (kv.1,v) else kv) else kvs ++ [(k,v)]
theorem uO {p:κ × V}{r:List (κ × V)}{k:κ} (e:p.1=k):fD (p :: r) k=some p.2:=by simp [fD,bs4,e]
theorem uP {p:κ × V}{r:List (κ × V)}{k:κ} (e : ¬ p.1=k):fD (p :: r) k=fD r k:=by simp [fD,bs4,e]
theorem E6 (k:κ):∀ kvs:List (κ × V),(kvs.any fun kv=>decide (kv.1=k))=(fD kvs k).isSome
 | []=>rfl
 | p :: r=>by
  rw [List.any_cons]
  by_cases e:p.1=k
  ·simp only [uO e,bh5 e,Bool.true_or,Option.isSome_some]
  ·rw [uP e,bh2 e,Bool.false_or]; exact E6 k r
theorem uQ (kvs:List (κ × V)) (k:κ) (v:V):(dR kvs k v).length<=kvs.length+1:=by
 unfold dR
 split
 ·rw [bh8]; omega
 ·rw [bi0,bm5,List.length_nil]; omega
theorem fQ.isSome_eq {o:Option V}{u:Option Value} (r:fQ o u):o.isSome=u.isSome:=by
 cases o with
 | none=>cases u with
  | none=>rfl
  | some _=>exact (show False from r).elim
 | some _=>cases u with
  | none=>exact (show False from r).elim
  | some _=>rfl
theorem fQ.getD {o:Option V}{u:Option Value}{d:V}{d':Value} (r:fQ o u) (rd:aS d d'):aS (o.getD d) (u.getD d'):=by
 cases o with
 | none=>cases u with
  | none=>exact rd
  | some _=>exact (show False from r).elim
 | some _=>cases u with
  | none=>exact (show False from r).elim
  | some _=>exact r
theorem KV.val {kvs:List (κ × V)}{vs:List (κ × Value)} (r:KV kvs vs) (k:κ):fQ (fD kvs k) (valueAt vs k):=by
 unfold KV at r
 induction r with
 | nil=>exact bx5
 | @cons p q ps qs h t ih=>
  obtain ⟨h1,h2⟩:=h
  by_cases e:p.1=k
  ·have e':q.1=k:=h1.symm.trans e
   have b:valueAt (q :: qs) k=some q.2:=by simp [valueAt,bs4,e']
   rw [uO e,b]; exact h2
  ·have e' : ¬ q.1=k:=fun z=>e (h1.trans z)
   have b:valueAt (q :: qs) k=valueAt qs k:=by simp [valueAt,bs4,e']
   rw [uP e,b]; exact ih
theorem KV.any {kvs:List (κ × V)}{vs:List (κ × Value)} (r:KV kvs vs) (k:κ):(kvs.any fun kv=>decide (kv.1=k))=vs.any fun kv=>decide (kv.1=k):=by
 unfold KV at r
 induction r with
 | nil=>rfl
 | cons h t ih=>rw [List.any_cons,List.any_cons,ih,h.1]
theorem KV.repl {kvs:List (κ × V)}{vs:List (κ × Value)} (r:KV kvs vs) (k:κ) {y:V}{u:Value} (ry:aS y u) :
  KV (kvs.map fun kv=>if kv.1=k then (kv.1,y) else kv) (vs.map fun kv=>if kv.1=k then (kv.1,u) else kv):=by
 unfold KV at r ⊢
 induction r with
 | nil=>exact .nil
 | @cons p q ps qs h t ih=>
  rw [bq3,bq3]
  refine .cons ?_ ih
  obtain ⟨h1,h2⟩:=h
  by_cases e:p.1=k
  ·rw [if_pos e,if_pos (h1.symm.trans e)]; exact⟨h1,ry⟩
  ·rw [if_neg e,if_neg (fun z=>e (h1.trans z))]; exact⟨h1,h2⟩
theorem KV.put {kvs:List (κ × V)}{vs:List (κ × Value)} (r:KV kvs vs) (k:κ) {y:V}{u:Value} (ry:aS y u):KV (dR kvs k y) (stored vs k u):=by
 unfold dR stored
 rw [r.any k]
 by_cases e:(vs.any fun kv=>decide (kv.1=k))=true
 ·rw [if_pos e,if_pos e]; exact r.repl k ry
 ·rw [if_neg e,if_neg e]; exact Paired.snoc r ⟨rfl,ry⟩
theorem KV.length {kvs:List (κ × V)}{vs:List (κ × Value)} (r:KV kvs vs):kvs.length=vs.length:=Paired.length r
end
theorem lR {P:Program}{w:World}{k:aC}{u:Value} (r:aS (kV k) u):(eI P w).is k u=true:=by
 cases k with
 | inl i=>obtain ⟨t,e⟩:=(show ∃ t,u=Value.int i t from r); subst e; exact ai3 P w i t
 | inr x=>obtain ⟨t,e⟩:=(show ∃ t,u=Value.str x t from r); subst e; exact ai4 P w x t
theorem E7 {P:Program}{w:World}:∀ {ks:List aC}{us:List Value},aL (ks.map kV) us->ItemsAre (eI P w) ks us
 | [],_,r=>by rw [List.map_nil] at r; cases r; exact .nil
 | k :: ks,_,r=>by
  rw [bq3] at r
  cases r with
  | cons h t=>exact .cons (lR h) (E7 t)
abbrev KT (H:Hp):List (List aC × V)->List (List aC × Addr × Value)->Prop:=Paired fun p q=>p.1=q.1/\H q.2.1=some (.tup (p.1.map kV))/\aS p.2 q.2.2
theorem KT.val {H:Hp}{kvs:List (List aC × V)}{xs:List (List aC × Addr × Value)} (r:KT H kvs xs) (k:List aC):fQ (fD kvs k) ((atKey xs k).map (·.2)):=by
 induction r with
 | nil=>exact bx5
 | @cons p q ps qs h t ih=>
  obtain ⟨h1,_,h2⟩:=h
  by_cases e:p.1=k
  ·have e':q.1=k:=h1.symm.trans e
   have b:atKey (q :: qs) k=some q.2:=by simp [atKey,bs4,e']
   rw [uO e,b]; exact h2
  ·have e' : ¬ q.1=k:=fun z=>e (h1.trans z)
   have b:atKey (q :: qs) k=atKey qs k:=by simp [atKey,bs4,e']
   rw [uP e,b]; exact ih
theorem KT.repl {H:Hp}{kvs:List (List aC × V)}{xs:List (List aC × Addr × Value)} (r:KT H kvs xs) (k:List aC) {y:V}{u:Value} (ry:aS y u) :
  KT H (kvs.map fun kv=>if kv.1=k then (kv.1,y) else kv) (xs.map (putAt k u)):=by
 induction r with
 | nil=>exact .nil
 | @cons p q ps qs h t ih=>
  rw [bq3,bq3]
  refine .cons ?_ ih
  obtain ⟨h1,h2,h3⟩:=h
  unfold putAt
  by_cases e:p.1=k
  ·rw [if_pos e,if_pos (h1.symm.trans e)]; exact⟨h1,h2,ry⟩
  ·rw [if_neg e,if_neg (fun z=>e (h1.trans z))]; exact⟨h1,h2,h3⟩
theorem KT.put {H:Hp}{kvs:List (List aC × V)}{xs:List (List aC × Addr × Value)} (r:KT H kvs xs) (k:List aC) {b:Addr}{y:V}{u:Value} (hb:H b=some (.tup (k.map kV))) (ry:aS y u) :
  KT H (dR kvs k y) (storedH xs k b u):=by
 have e:(kvs.any fun kv=>decide (kv.1=k))=(atKey xs k).isSome:=by
  rw [E6,(r.val k).isSome_eq,Option.isSome_map]
 unfold dR storedH
 rw [e]
 by_cases q:(atKey xs k).isSome=true
 ·rw [if_pos q,if_pos q]; exact r.repl k ry
 ·rw [if_neg q,if_neg q]; exact Paired.snoc r ⟨rfl,hb,ry⟩
theorem KT.keeps {H H':Hp}{kvs:List (List aC × V)}{xs:List (List aC × Addr × Value)} (r:KT H kvs xs) (ht:∀ b ys,H b=some (.tup ys)->H' b=some (.tup ys)):KT H' kvs xs:=
 Paired.mapP r fun _ _ z=>⟨z.1,ht _ _ z.2.1,z.2.2⟩
section
variable {P : Program} {w : World} {H : Hp} {h : Heap} {a : Addr}
theorem E8 {u:HO} (ok:bW P w H h) (e:Rd H a u):c7 P w H h a u:=e.ok ok
theorem jZ {kvs:List (aC × V)} (ok:bW P w H h) (e:Rd H a (.dK kvs)):kvs.length<=sizeLine/\(a == sysModules)=false/\∃ vs,KV kvs vs/\h.DictOf (eI P w) a vs:=
 show c7 P w H h a (.dK kvs) from E8 ok e
theorem uR {kvs:List (aC × V)} (ok:bW P w H h) (e:H a=some (.dK kvs)):kvs.length<=sizeLine/\(a == sysModules)=false/\∃ vs,KV kvs vs/\h.DictOf (eI P w) a vs:=jZ ok (.inl e)
theorem lS {ks:List aC} (ok:bW P w H h) (e:H a=some (.tup (ks.map kV))):(tupleKind (eI P w)).is h ks a:=by
 obtain ⟨_,its,r,⟨o,h1,h2,n,h3⟩,_⟩:=(show c7 P w H h a (.tup (ks.map kV)) from ok a _ e)
 exact⟨o,its.toArray,n,h1,h2,h3,by simpa using E7 r⟩
theorem kT {kvs:List (List aC × V)} (ok:bW P w H h) (e:Rd H a (.dT kvs)):kvs.length<=sizeLine/\(a == sysModules)=false/\
  ∃ xs,KT H kvs xs/\h.DictOfH (tupleKind (eI P w)) a xs:=by
 obtain ⟨z,y,xs,r,o,es,ep,h1,h2,h3,h4,h5⟩:=(show c7 P w H h a (.dT kvs) from E8 ok e)
 refine⟨z,y,xs,r,o,es,ep,h1,h2,h3,h4,fun x hx=>?_,h5⟩
 have all:∀ {l:List (List aC × V)}{m:List (List aC × Addr × Value)},KT H l m->∀ x ∈ m,(tupleKind (eI P w)).is h x.1 x.2.1:=by
  intro l m q
  induction q with
  | nil=>intro x hx; exact nomatch hx
  | @cons p q ps qs hq t ih=>
   intro x hx
   rcases bh9.mp hx with e | hx
   ·subst e
    exact lS ok (by rw [<- hq.1]; exact hq.2.1)
   ·exact ih x hx
 exact all r x hx
theorem as6 {kvs:List (List aC × V)} (ok:bW P w H h) (e:H a=some (.dT kvs)):kvs.length<=sizeLine/\(a == sysModules)=false/\
  ∃ xs,KT H kvs xs/\h.DictOfH (tupleKind (eI P w)) a xs:=kT ok (.inl e)
end
def eQ (H:Hp) (a:Addr) (y:V) (r:Option V):Prop:=
 (∃ kvs k,Rd H a (.dK kvs)/\y=kV k/\r=fD kvs k) ∨ ∃ kvs k b,Rd H a (.dT kvs)/\y = .ref b/\H b=some (.tup (k.map kV))/\r=fD kvs k
def k6 (H:Hp) (a:Addr) (y v:V) (H':Hp):Prop:=
 (∃ kvs k,H a=some (.dK kvs)/\y=kV k/\kvs.length < sizeLine/\H'=upd H a (.dK (dR kvs k v))) ∨
 ∃ kvs k b,H a=some (.dT kvs)/\y = .ref b/\H b=some (.tup (k.map kV))/\kvs.length < sizeLine/\H'=upd H a (.dT (dR kvs k v))
theorem eQ.k {H:Hp}{a:Addr}{kvs:List (aC × V)}{k:aC} (e:H a=some (.dK kvs)):eQ H a (kV k) (fD kvs k):=.inl ⟨kvs,k,.inl e,rfl,rfl⟩
theorem eQ.t {H:Hp}{a b:Addr}{kvs:List (List aC × V)}{k:List aC} (e:H a=some (.dT kvs)) (eb:H b=some (.tup (k.map kV))):eQ H a (.ref b) (fD kvs k):=.inr ⟨kvs,k,b,.inl e,rfl,eb,rfl⟩
theorem k6.k {H:Hp}{a:Addr}{kvs:List (aC × V)}{k:aC}{v:V} (e:H a=some (.dK kvs)) (hl:kvs.length < sizeLine):k6 H a (kV k) v (upd H a (.dK (dR kvs k v))):=.inl ⟨kvs,k,e,rfl,hl,rfl⟩
theorem k6.t {H:Hp}{a b:Addr}{kvs:List (List aC × V)}{k:List aC}{v:V} (e:H a=some (.dT kvs)) (eb:H b=some (.tup (k.map kV))) (hl:kvs.length < sizeLine) :
  k6 H a (.ref b) v (upd H a (.dT (dR kvs k v))):=.inr ⟨kvs,k,b,e,rfl,eb,hl,rfl⟩
section
variable {X : Cx} {pins : List (Addr × Obj)} {σ : St} {H : Hp} {s : Shared} {a : Addr} {y v : V} {u r : Value} {o : Option V} {A : Around} {E : Value → Shared → Prop}
theorem a8.big (I:a8 X pins σ H s):sysModules < s.heap.objs.size:=by
 have h:mainGlobals < s.heap.objs.size:=(I.mod.glob.keeps I.bk).lt
 exact Nat.lt_trans (by decide) h
theorem as7 {Q:Value->Shared->Prop} (hu:A.units+1 < cLine) (I:a8 X pins σ H s) (g:eQ H a y (some v)) (ry:aS y u) (h:∀ w' s',a8 X pins σ H s'->aS v w'->Q w' s') :
  wpAny (model X.prog X.w) A (getItem (.ref a) u) Q E s:=by
 rcases g with ⟨kvs,k,e,ey,l⟩ | ⟨kvs,k,b,e,ey,eb,l⟩
 ·subst ey
  obtain ⟨z,hd,vs,rel,dd⟩:=jZ I.hok e
  obtain ⟨w',hw,rw'⟩:=fQ.some_of (v:=v) (o:=valueAt vs k) (by rw [l]; exact rel.val k)
  exact wpAny_getItem_of (lR ry) dd.mapOf hw (h w' _ (I.tok _) rw')
 ·subst ey
  cases (show u=Value.ref b from ry)
  obtain ⟨z,hd,xs,rel,dd⟩:=kT I.hok e
  obtain ⟨w',hw,rw'⟩:=fQ.some_of (v:=v) (o:=(atKey xs k).map (·.2)) (by rw [l]; exact rel.val k)
  obtain ⟨p,hp,hp2⟩:=Option.map_eq_some_iff.mp hw
  refine wpAny_getItem_heap (tupleKind_room_in1 hu) (lS I.hok eb) dd hp ?_
  rw [hp2]
  exact h w' _ (I.tok _) rw'
theorem as8 {Q:Value->Shared->Prop} (hu:A.units+1 < cLine) (I:a8 X pins σ H s) (g:eQ H a y o) (ry:aS y u) (h:∀ s',a8 X pins σ H s'->Q (.bool o.isSome) s') :
  wpAny (model X.prog X.w) A (compareOp .In u (.ref a)) Q E s:=by
 rcases g with ⟨kvs,k,e,ey,l⟩ | ⟨kvs,k,b,e,ey,eb,l⟩
 ·subst ey
  obtain ⟨z,hd,vs,rel,dd⟩:=jZ I.hok e
  refine wpAny_in_of (lR ry) hd dd.mapOf ?_
  rw [<- (rel.val k).isSome_eq,<- l]
  exact h _ (I.tok _)
 ·subst ey
  cases (show u=Value.ref b from ry)
  obtain ⟨z,hd,xs,rel,dd⟩:=kT I.hok e
  refine wpAny_in_heap (tupleKind_room_in1 hu) (lS I.hok eb) hd dd ?_
  have q:=(rel.val k).isSome_eq
  rw [Option.isSome_map] at q
  rw [<- q,<- l]
  exact h _ (I.tok _)
theorem as9 {Q:Value->Shared->Prop} (hu:A.units+1 < cLine) (I:a8 X pins σ H s) (g:eQ H a y o) (ry:aS y u) (h:∀ s',a8 X pins σ H s'->Q (.bool (!o.isSome)) s') :
  wpAny (model X.prog X.w) A (compareOp .NotIn u (.ref a)) Q E s:=by
 rcases g with ⟨kvs,k,e,ey,l⟩ | ⟨kvs,k,b,e,ey,eb,l⟩
 ·subst ey
  obtain ⟨z,hd,vs,rel,dd⟩:=jZ I.hok e
  refine wpAny_notIn_of (lR ry) hd dd.mapOf ?_
  rw [<- (rel.val k).isSome_eq,<- l]
  exact h _ (I.tok _)
 ·subst ey
  cases (show u=Value.ref b from ry)
  obtain ⟨z,hd,xs,rel,dd⟩:=kT I.hok e
  refine wpAny_notIn_heap (tupleKind_room_in1 hu) (lS I.hok eb) hd dd ?_
  have q:=(rel.val k).isSome_eq
  rw [Option.isSome_map] at q
  rw [<- q,<- l]
  exact h _ (I.tok _)
theorem uS {h':Heap}{t':Nat}{ob:HO} (I:a8 X pins σ H s) (mu:mY (H a)) (hs:Heap.SameBut a s.heap h') (he:∃ q,h'.get? a=some q) (new:c7 X.prog X.w (upd H a ob) h' a ob) :
  a8 X pins σ (upd H a ob) { s with heap:=h',toks:=t' }:=
 I.write (x:=a) (e:=a) mu (.inl rfl) (fun b q hb z=>(hs.2 b hb).trans z) he new
theorem E9 {P:Program}{w:World}{H':Hp}{h':Heap}{kvs:List (aC × V)}{vs:List (aC × Value)} (z:kvs.length<=sizeLine) (hd:(a == sysModules)=false) (rel:KV kvs vs) (dd:h'.DictOf (eI P w) a vs) :
  c7 P w H' h' a (.dK kvs):=⟨z,hd,vs,rel,dd⟩
theorem at0 {H':Hp}{Q:Unit->Shared->Prop} (hu:A.units+1 < cLine) (I:a8 X pins σ H s) (g:k6 H a y v H') (ry:aS y u) (rv:aS v r) (h:∀ s',a8 X pins σ H' s'->Q () s') :
  wpAny (model X.prog X.w) A (setItem (.ref a) u r) Q E s:=by
 rcases g with ⟨kvs,k,e,ey,l,eH⟩ | ⟨kvs,k,b,e,ey,eb,l,eH⟩
 ·subst ey eH
  obtain ⟨z,hd,vs,rel,dd⟩:=uR I.hok e
  have hz:vs.length<=sizeLine:=by rw [<- rel.length]; exact z
  have hl:(dR kvs k v).length<=sizeLine:=by have:=uQ kvs k v; omega
  refine wpAny_setItem_pairs (hsz:=hz) (lR ry) dd fun h' dd' hs=>h _ ?_
  have he:∃ q,h'.get? a=some q:=let ⟨q,_,_,hq,_⟩:=dd'; ⟨q,hq⟩
  exact uS I (by rw [e]; exact bx5) hs he (E9 hl hd (rel.put k rv) dd')
 ·subst ey eH
  cases (show u=Value.ref b from ry)
  obtain ⟨z,hd,xs,rel,dd⟩:=as6 I.hok e
  have hz:xs.length<=sizeLine:=by rw [<- Paired.length rel]; exact z
  have hl:(dR kvs k v).length<=sizeLine:=by have:=uQ kvs k v; omega
  refine wpAny_setItem_heap (hsz:=hz) (tupleKind_room_in1 hu) (lS I.hok eb) dd fun h' dd' hs=>h _ ?_
  obtain ⟨q,es,ep,hq,h2,h3,h4,_,h5⟩:=dd'
  refine uS I (by rw [e]; exact bx5) hs ⟨q,hq⟩ ⟨hl,hd,_,(rel.put k eb rv).keeps fun c ys ec=>?_,q,es,ep,hq,h2,h3,h4,h5⟩
  rw [aW (ai5 ec e (fun z=>nomatch z))]
  exact ec
end
section
variable {X : Cx} {pins : List (Addr × Obj)} {σ : St} {H : Hp} {s : Shared} {a : Addr} {kvs : List (aC × V)} {k : aC} {u : Value} {A : Around} {E : Value → Shared → Prop}
theorem at2 {Q:Value->Shared->Prop} (I:a8 X pins σ H s) (e:Rd H a (.dK kvs)) (h:∀ t s',a8 X pins σ H s'->Q (.int kvs.length t) s'):wpAny (model X.prog X.w) A (call (.builtin "len") [.ref a]) Q E s:=by
 obtain ⟨z,hd,vs,rel,dd⟩:=jZ I.hok e
 refine call_len_dict hd dd (by rw [<- rel.length]; rw [sizeLine_eq] at z; omega) ?_
 rw [<- rel.length]
 exact h _ _ (I.tok _)
end
def uT (i:Expr):Prop:=∀ ov iv,subscripted i false ov iv=operate [ov,iv] (getItem ov iv)
theorem at3 {prog:Program}{w:World}{A:Around}{E:Value->Shared->Prop}{s:Shared}{env:Env}{value slice:Expr}{pos:Pos}{T id:String}{Q:Value->Shared->Prop}
  (hl:typeLookup (.type T) "__getitem__" = pure (some (.builtin id))) (hs:uT slice)
  (h:wpAny (model prog w) A (eval value env) (fun o s₁=>wpAny (model prog w) A (eval slice env) (fun i s₂=>s₂.TypeIs o T/\wpAny (model prog w) A (getItem o i) Q E s₂) E s₁) E s) :
  wpAny (model prog w) A (eval (.Subscript value slice pos) env) Q E s:=by
 refine Subscript_ (bo3 h (fun o s₁ h₁=>bo3 h₁ (fun i s₂ h₂=>?_) fun _ _ x=>x) fun _ _ x=>x)
 obtain ⟨hT,h₂⟩:=h₂
 unfold subscriptTail
 refine bh0 ?_
 rw [getitemInPython_of_ne hT.not_modules]
 refine bh0 (wpAny_specialOf hT hl ?_)
 have fin:wpAny (model prog w) A (subscripted slice false o i) (fun r s₃=>wpAny (model prog w) A (letTemporaryGo value o r >>= fun _=>pure r) Q E s₃) E s₂:=by
  rw [hs o i]
  exact wpAny_operating (bo3 h₂ (fun r s₃ h₃=>bh0 (wpAny_letTemporaryGo (bh6 h₃))) fun _ _ x=>x)
 first
  | exact bh6 (bh0 fin)
  | exact bh0 (bh6 (bh0 fin))
  | exact bh0 fin
theorem at6 {X:Cx}{pins:List (Addr × Obj)}{σ:St}{H:Hp}{s:Shared}{a:Addr}{y:V}{o:Option V} (I:a8 X pins σ H s) (g:eQ H a y o):s.TypeIs (.ref a) "dict":=by
 rcases g with ⟨kvs,k,e,_,_⟩ | ⟨kvs,k,b,e,_,_,_⟩
 ·obtain ⟨_,_,vs,_,dd⟩:=jZ I.hok e
  exact dd.typeIs
 ·obtain ⟨_,_,xs,_,dd⟩:=kT I.hok e
  exact dd.typeIs
def F0 (td ty:TE):TE:=fun σ H Q=>td σ H fun x H1=>ty σ H1 fun y H2=>∃ a v,x = .ref a/\eQ H2 a y (some v)/\Q v H2
def F1 (ty td:TE):TE:=fun σ H Q=>ty σ H fun y H1=>td σ H1 fun x H2=>∃ a o,x = .ref a/\eQ H2 a y o/\Q (.bl o.isSome) H2
def F2 (ty td:TE):TE:=fun σ H Q=>ty σ H fun y H1=>td σ H1 fun x H2=>∃ a o,x = .ref a/\eQ H2 a y o/\Q (.bl (!o.isSome)) H2
def uU (td ty tv:TE):TS:=fun D σ H=>tv σ H fun v H1=>td σ H1 fun x H2=>ty σ H2 fun y H3=>∃ a H4,x = .ref a/\k6 H3 a y v H4/\D.nx σ H4
section
variable {X : Cx} {o i e value : Expr} {pos pos' tpos : Pos} {td ty tv : TE}
theorem at7 (hu:X.A.units+1 < cLine) (ho:PE X o td) (hi:PE X i ty) (hs:uT i):PE X (.Subscript o i pos) (F0 td ty):=by
 intro pins s σ H Q I h
 refine at3 PySem.F.slot_dict_getitem.lookup hs (aM (ho pins s σ H _ I h) fun u s1 ⟨x,H1,I1,rx,q1⟩=>aM (hi pins s1 σ H1 _ I1 q1) fun iv s2 ⟨y,H2,I2,ry,a,v,ex,g,q2⟩=>?_)
 subst ex
 obtain rfl:u=Value.ref a:=rx
 exact⟨at6 I2 g,as7 hu I2 g ry fun w' s3 I3 rw'=>⟨v,H2,I3,rw',q2⟩⟩
theorem at8 (hu:X.A.units+1 < cLine) (hi:PE X i ty) (ho:PE X o td):PC X .In i o (F1 ty td):=by
 intro pins s σ H Q I h
 refine aM (hi pins s σ H _ I h) fun iv s1 ⟨y,H1,I1,ry,q1⟩=>aM (ho pins s1 σ H1 _ I1 q1) fun u s2 ⟨x,H2,I2,rx,a,ov,ex,g,q2⟩=>?_
 subst ex
 obtain rfl:u=Value.ref a:=rx
 exact as8 hu I2 g ry fun s3 I3=>⟨.bl ov.isSome,H2,I3,rfl,q2⟩
theorem F3 (hu:X.A.units+1 < cLine) (hi:PE X i ty) (ho:PE X o td):PC X .NotIn i o (F2 ty td):=by
 intro pins s σ H Q I h
 refine aM (hi pins s σ H _ I h) fun iv s1 ⟨y,H1,I1,ry,q1⟩=>aM (ho pins s1 σ H1 _ I1 q1) fun u s2 ⟨x,H2,I2,rx,a,ov,ex,g,q2⟩=>?_
 subst ex
 obtain rfl:u=Value.ref a:=rx
 exact as9 hu I2 g ry fun s3 I3=>⟨.bl (!ov.isSome),H2,I3,rfl,q2⟩
theorem F4 (hu:X.A.units+1 < cLine) (ho:PE X o td) (hi:PE X i ty) (hv:PE X value tv) (hs:swapsWith value (some (.Subscript o i pos')) pos.line X.env=pure false) :
  PS X (.Assign [.Subscript o i pos'] value pos) (uU td ty tv):=by
 intro pins s σ H D I h
 refine wpAny_Assign_Subscript (aM (hv pins s σ H _ I h) fun r s1 ⟨v,H1,I1,rv,q1⟩=>aM (ho pins s1 σ H1 _ I1 q1) fun u s2 ⟨x,H2,I2,rx,q2⟩=>aM (hi pins s2 σ H2 _ I2 q2) fun iv s3 ⟨y,H3,I3,ry,a,H4,ex,g,q3⟩=>?_) hs
 subst ex
 obtain rfl:u=Value.ref a:=rx
 exact at0 hu I3 g ry rv fun s4 I4=>⟨σ,H4,I4,q3⟩
end
theorem at9 {P:Program}{w:World}{H:Hp} (h:Heap) (hb:sysModules < h.objs.size):c7 P w H (h.push { cls:=.type "dict",data:=.dict #[] }) h.objs.size (.dK []):=
 ⟨bn5 _,bu6.mpr (Ne.symm (bk6 hb)),[],.nil,Heap.DictOf.new h⟩
theorem au0 {P:Program}{w:World}{H:Hp} (h:Heap) (hb:sysModules < h.objs.size):c7 P w H (h.push { cls:=.type "dict",data:=.dict #[] }) h.objs.size (.dT []):=
 ⟨bn5 _,bu6.mpr (Ne.symm (bk6 hb)),[],.nil,_,#[],0,bj1 _ rfl,⟨rfl,rfl,rfl⟩,rfl,rfl,List.nodup_nil⟩
def F5:TE:=fun _ H Q=>∀ p,H p=none->Q (.ref p) (upd H p (.dK []))
def F6:TE:=fun _ H Q=>∀ p,H p=none->Q (.ref p) (upd H p (.dT []))
section
variable {X : Cx} {pos : Pos}
theorem au1:PE X (.Dict [] [] pos) F5:=fun pins s σ H Q I h=>
 wpAny_Dict_empty ⟨.ref s.heap.objs.size,_,I.laid (a:=s.heap.objs.size) (o:=.dK []) (t':=s.toks) (fun _ _ q=>bh1 _ q) (bh7 _) (at9 s.heap I.big),rfl,h _ (I.hok.fresh (bh7 _))⟩
theorem au2:PE X (.Dict [] [] pos) F6:=fun pins s σ H Q I h=>
 wpAny_Dict_empty ⟨.ref s.heap.objs.size,_,I.laid (a:=s.heap.objs.size) (o:=.dT []) (t':=s.toks) (fun _ _ q=>bh1 _ q) (bh7 _) (au0 s.heap I.big),rfl,h _ (I.hok.fresh (bh7 _))⟩
end
def kU (kvs more:List (aC × V)):List (aC × V):=more.foldl (fun acc kv=>dR acc kv.1 kv.2) kvs
theorem KV.merge:∀ {more:List (aC × V)}{rs:List (aC × Value)}{kvs:List (aC × V)}{vs:List (aC × Value)},KV more rs->KV kvs vs->KV (kU kvs more) (merged vs rs):=by
 intro more rs kvs vs r
 unfold KV at r
 induction r generalizing kvs vs with
 | nil=>intro q; exact q
 | @cons p q ps qs h t ih=>
  intro r0
  have e:KV (dR kvs p.1 p.2) (stored vs q.1 q.2):=by
   have:=r0.put p.1 h.2
   rw [<- h.1]; exact this
  exact ih e
theorem F7:∀ (more kvs:List (aC × V)),(kU kvs more).length<=kvs.length+more.length
 | [],kvs=>by show kvs.length<=kvs.length+0; omega
 | p :: r,kvs=>by
  have h1:=F7 r (dR kvs p.1 p.2)
  have h2:=uQ kvs p.1 p.2
  show (kU (dR kvs p.1 p.2) r).length<=_
  rw [bm5]; omega
structure M1 (X:Cx) (o:Expr) (m:Str) (apos:Pos) (e:Expr) (cpos:Pos):Prop where
 base:attributeBase o m X.env (eval o X.env)=eval o X.env
 few:((backTo cpos (starEach [e] X.env)).all (fun x=>!x.1) && (backToKw cpos (keywordEach [] X.env)).all (fun x=>x.1.isSome)
  && decide (([e]:List Expr).length+([]:List Keyword).length+(if ([]:List Keyword).isEmpty then 0 else 1) < 30))=true
 line:(apos.endLine == cpos.line)=true
 trees:backTo cpos (starEach [e] X.env) = [(false,eval e X.env)]
structure M2 (X:Cx) (o:Expr) (m:Str) (apos:Pos) (e f:Expr) (cpos:Pos):Prop where
 base:attributeBase o m X.env (eval o X.env)=eval o X.env
 few:((backTo cpos (starEach [e,f] X.env)).all (fun x=>!x.1) && (backToKw cpos (keywordEach [] X.env)).all (fun x=>x.1.isSome)
  && decide (([e,f]:List Expr).length+([]:List Keyword).length+(if ([]:List Keyword).isEmpty then 0 else 1) < 30))=true
 line:(apos.endLine == cpos.line)=true
 trees:backTo cpos (starEach [e,f] X.env) = [(false,eval e X.env),(false,eval f X.env)]
def uV (H:Hp) (a:Addr):Prop:=(∃ kvs,Rd H a (.dK kvs)) ∨ ∃ kvs,Rd H a (.dT kvs)
theorem F8 {X:Cx}{pins:List (Addr × Obj)}{σ:St}{H:Hp}{s:Shared}{a:Addr} (I:a8 X pins σ H s) (d:uV H a) :
  s.TypeIs (.ref a) "dict"/\(∀ b,Value.ref a = .ref b->∃ ob,s.heap.get? b=some ob/\ob.dict=none)/\(a == sysModules)=false:=by
 rcases d with ⟨kvs,e⟩ | ⟨kvs,e⟩
 ·obtain ⟨_,hd,vs,_,dd⟩:=jZ I.hok e
  refine⟨dd.typeIs,fun b q=>?_,hd⟩
  cases q
  obtain ⟨ob,_,_,h1,h2,_⟩:=dd
  exact⟨ob,h1,h2.2.1⟩
 ·obtain ⟨_,hd,xs,_,dd⟩:=kT I.hok e
  refine⟨dd.typeIs,fun b q=>?_,hd⟩
  cases q
  obtain ⟨ob,_,_,h1,h2,_⟩:=dd
  exact⟨ob,h1,h2.2.1⟩
section
variable {X : Cx} {pins : List (Addr × Obj)} {σ : St} {H : Hp} {s : Shared} {a : Addr} {y d : V} {u r : Value} {o : Option V} {A : Around} {E : Value → Shared → Prop}
theorem au3 {Q:Value->Shared->Prop} (hu:A.units+1 < cLine) (I:a8 X pins σ H s) (g:eQ H a y o) (ry:aS y u) (rd:aS d r) (h:∀ w' s',a8 X pins σ H s'->aS (o.getD d) w'->Q w' s') :
  wpAny (model X.prog X.w) A (call (.builtin "dict.get") [.ref a,u,r]) Q E s:=by
 rcases g with ⟨kvs,k,e,ey,l⟩ | ⟨kvs,k,b,e,ey,eb,l⟩
 ·subst ey
  obtain ⟨z,hd,vs,rel,dd⟩:=jZ I.hok e
  refine call_meetsIn PySem.F.slot_dict_get dd.typeIs PySem.F.entry_dict_get (PySem.F.args_dict_get_3 _ _ _) (meets_dict_get_default (eI X.prog X.w) a (lR ry) hd r) ⟨_,dd.mapOf,h _ _ (I.tok _) ?_⟩
  rw [l]
  exact (rel.val k).getD rd
 ·subst ey
  cases (show u=Value.ref b from ry)
  obtain ⟨z,hd,xs,rel,dd⟩:=kT I.hok e
  refine call_meetsIn PySem.F.slot_dict_get dd.typeIs PySem.F.entry_dict_get (PySem.F.args_dict_get_3 _ _ _) (meetsH_dict_get_default (tupleKind (eI X.prog X.w)) a b hd r) ⟨tupleKind_room_in1 hu,k,xs,lS I.hok eb,dd,h _ _ (I.tok _) ?_⟩
  rw [l]
  exact (rel.val k).getD rd
end
def F9 (td ty tx:TE):TE:=fun σ H Q=>td σ H fun x H1=>∃ a,x = .ref a/\uV H1 a/\ty σ H1 fun y H2=>tx σ H2 fun z H3=>∃ o,eQ H3 a y o/\Q (o.getD z) H3
section
variable {X : Cx} {o e f : Expr} {apos cpos : Pos} {td ty tx : TE}
theorem au4 (hu:X.A.units+1 < cLine) (ho:PE X o td) (he:PE X e ty) (hf:PE X f tx) (m:M2 X o "get" apos e f cpos):PE X (.Call (.Attribute o "get" apos) [e,f] [] cpos) (F9 td ty tx):=by
 intro pins s σ H Q I h
 refine wpAny_Call_method m.base m.few m.line PySem.F.plainAttrs_dict PySem.F.slot_dict_get PySem.F.type_dict_get (aM (ho pins s σ H _ I h) fun u s1 ⟨x,H1,I1,rx,a,ex,d,q1⟩=>?_)
 subst ex
 obtain rfl:u=Value.ref a:=rx
 obtain ⟨t1,t2,_⟩:=F8 I1 d
 refine⟨t1,t2,?_⟩
 rw [m.trees]
 refine Calls.callWith_builtin rfl (Calls.evalArgs_plain (Calls.spliced_cons (aM (he pins s1 σ H1 _ I1 q1) fun iv s2 ⟨y,H2,I2,ry,q2⟩=>
  Calls.spliced_cons (aM (hf pins s2 σ H2 _ I2 q2) fun fv s3 ⟨z,H3,I3,rz,ov,g,q3⟩=>Calls.spliced_nil ?_))))
 exact au3 hu I3 g ry rz fun w' s4 I4 rw'=>⟨_,H3,I4,rw',q3⟩
end
end L2
namespace Att
open PySem PySem.W PySem.Calls PyProof.Rows
theorem au5 {P:Params}{h:Heap}:∀ (ns:List Int) (vs:List Value),WellAll P h vs (ns.map WData.int)->IntsAre vs ns:=by
 intro ns
 induction ns with
 | nil=>
  intro vs w
  rw [List.map_nil] at w
  cases w
  exact .nil
 | cons n ns ih=>
  intro vs w
  rw [bq3] at w
  cases w with
  | cons a b=>
   cases a
   exact .cons _ _ (ih _ b)
theorem G0 {l:OpenLaw}{n:Nat} (hn:l.most=some n) {P:Params}{h:Heap}{args:List WData}{vals:List Value}
  (hpre:l.row.toRowW.claim.pre args=true) (hwl:WellAll P h vals args) :
  ∃ a vs ns,vals = [Value.ref a]/\args = [WData.list (ns.map WData.int)]/\h.get? a=some { cls:=.type "list",data:=.seq vs.toArray }/\IntsAre vs ns/\ns.length<=n:=by
 have hsh:WShape.hasAll [] args [.list .int]=true:=(pre_splitW hpre).1
 have hc:l.pre.holds [] { args:=args }=true:=(pre_splitW hpre).2
 obtain ⟨d,r,rfl,h1,h2⟩:=hasAllW_cons hsh
 obtain rfl:=hasAllW_nil h2
 obtain ⟨xs,rfl,h3⟩:=hasW_list h1
 obtain ⟨ns,rfl⟩:=items_int h3
 have hlen:ns.length<=n:=by
  unfold OpenLaw.pre at hc
  have h4:(WTm.not (.lt (.lit (.int (n:Int))) (.len (.arg 0)))).holds [] { args:=[.list (ns.map .int)] }=true:=by
   have h4:=(holds_andW hc).1
   rw [hn] at h4
   exact h4
  have h5:=condW_of h4 (w_not (w_lt w_lit (w_len_list (w_arg rfl))))
  rw [bh8] at h5
  refine bv1 fun q=>?_
  have q':(n:Int) < ((ns.length:Nat):Int):=by omega
  first
   | (rw [bh5 q'] at h5; exact absurd h5 (by decide))
   | (simp at h5; omega)
 cases hwl with
 | cons w1 w2=>
  cases w2
  cases w1 with
  | list ho hall=>exact⟨_,_,ns,rfl,rfl,ho,au5 ns _ hall,hlen⟩
theorem G1 (l:OpenLaw) (args:List WData):l.row.toRowW.claim.post args (.bool true) args=true:=
 postW_of (r:=l.row.toRowW) (X:=(true == true))
  (show WShape.has [] (.bool true) .bool=true by first | rfl | decide | simp [WShape.has,WShape.arms,WShape.armsAll])
  (show (WTm.eq .res (.lit (.bool true))).value [] { args:=args,res:=some (.bool true),after:=args }=some (.bool (true == true)) from w_eq_bool (w_res rfl) w_lit) rfl
theorem bg7 {l:OpenLaw}{n:Nat}{q:Program}{loose:List Str}{XP:(Str->Option Value)->Heap->Prop}{YP:World->Heap->Prop}{d:DefRec}{x:Str}
  (hn:l.most=some n) (hdf:d.params.defaults = [])
  (hbind:∀ pm cd doc v:Value,bindArgs (docDef d.name d.params d.body d.scope pm cd doc) ⟨[v],[]⟩=pure [(x,v)])
  (hx:d.scope.names.lookup x=some .local ∨ d.scope.names.lookup x=some .cell)
  (hk:d.scope.kind = .function) (hco:d.scope.isCoroutine=false) (hgen:d.scope.isGenerator=false)
  (body:∀ (w:World) (s₀ s₁ s:Shared) (mg mb:Str->Option Value) (fa:Addr) (o:Obj) (pm cd doc:Value) (a:Addr) (vs:List Value) (ns:List Int),
   Ground q loose [] XP w s₀ mg mb s₁.heap->YP w s₁.heap->
   s₁.heap.get? fa=some o->o.data = .func (docDef d.name d.params d.body d.scope pm cd doc)->s₁.heap.CodeRec cd d.name->mg d.name=some (.ref fa)->
   s₁.heap.get? a=some { cls:=.type "list",data:=.seq vs.toArray }->IntsAre vs ns->ns.length<=n->
   s.gens = #[]->s.os=s₁.os->
   Fr s₁.heap s₁.heap.objs.size s.heap (bindL (envOfC d.name d.scope s₁.heap.objs.size fa cd).kindOf [(x,.ref a)] fun _=>none)->
   Cl s₁.heap.objs.size (cellsFrom (s₁.heap.objs.size+1) d.scope.names []) s.heap (bindC (envOfC d.name d.scope s₁.heap.objs.size fa cd).kindOf [(x,.ref a)] fun _=>none)->
   wpAny (model l.prog w) (callerA.deeper (envOfC d.name d.scope s₁.heap.objs.size fa cd)) (execs d.body (envOfC d.name d.scope s₁.heap.objs.size fa cd))
    (fun f s'=>f = .ret (.bool true)/\OldK s₁.heap s'.heap/\s'.os=s₁.os/\AllBare s'.gens) (fun _ _=>False) s) :
  WalkO q loose XP YP l.row.toRowW d [] (fun f vs=>PySem.call f vs):=by
 intro w s₀ s₁ mg mb G Y fa o pm cd doc dV kV ho hd hcd hD hmg hg args vals as hpre hlay hrd hwl hlo
 obtain rfl:dV = .none:=Dflts.none hD hdf
 obtain rfl:kV = .none:=Dflts.noKw hD
 obtain ⟨a,vs,ns,rfl,rfl,hobj,hints,hlen⟩:=G0 hn hpre hwl
 refine enter_call ?_
 refine call_cells_ret (o:=o) (by rw [depth_caller]; decide) ho (fd_plain hd) G.T.nolimit hcd (hbind pm cd doc (.ref a)) (fun y hy=>?_) (fun h₁ tk F X=>?_) hco hgen hk
 ·obtain rfl:y=(x,Value.ref a):=bi1.mp hy
  rcases hx with e | e
  ·exact .inl e
  ·exact .inr ⟨e,cellsFrom_some _ _ _ (.inl e)⟩
 ·refine bo3 (body w s₀ s₁ { s₁ with heap:=h₁,toks:=tk } mg mb fa o pm cd doc a vs ns G Y ho (fd_plain hd) hcd hmg hobj hints hlen hg rfl F X) (fun f s' hq=>?_) (fun _ _ hq=>hq)
  obtain ⟨rfl,h2,h3,h4⟩:=hq
  exact⟨.inl ⟨.bool true,.bool true,[],rfl,fun _=>rfl,.bool true,G1 l _,fun _=>⟨List.Pairwise.nil,fun _ hm=>(nomatch hm)⟩⟩,h2,h3,h4⟩
theorem au6 {l:OpenLaw}{n:Nat}{q:Program}{loose:List Str}{XP:(Str->Option Value)->Heap->Prop}{YP:World->Heap->Prop}{d:DefRec}
  (hn:l.most=some n) (hdf:d.params.defaults = [])
  (call:∀ (w:World) (s₀ s₁:Shared) (mg mb:Str->Option Value) (fa:Addr) (o:Obj) (pm cd doc:Value) (a:Addr) (vs:List Value) (ns:List Int),
   Ground q loose [] XP w s₀ mg mb s₁.heap->YP w s₁.heap->
   s₁.heap.get? fa=some o->o.data = .func (docDef d.name d.params d.body d.scope pm cd doc)->s₁.heap.CodeRec cd d.name->mg d.name=some (.ref fa)->
   s₁.heap.get? a=some { cls:=.type "list",data:=.seq vs.toArray }->IntsAre vs ns->ns.length<=n->s₁.gens = #[]->
   codeAny (model l.prog w) callerA (.call (.ref fa) ⟨[.ref a],[]⟩) (fun r s'=>r = .ok (.ret (.bool true))/\OldK s₁.heap s'.heap/\s'.os=s₁.os/\AllBare s'.gens) s₁) :
  WalkO q loose XP YP l.row.toRowW d [] (fun f vs=>PySem.call f vs):=by
 intro w s₀ s₁ mg mb G Y fa o pm cd doc dV kV ho hd hcd hD hmg hg args vals as hpre hlay hrd hwl hlo
 obtain rfl:dV = .none:=Dflts.none hD hdf
 obtain rfl:kV = .none:=Dflts.noKw hD
 obtain ⟨a,vs,ns,rfl,rfl,hobj,hints,hlen⟩:=G0 hn hpre hwl
 refine enter_call (codeAny_mono (call w s₀ s₁ mg mb fa o pm cd doc a vs ns G Y ho (fd_plain hd) hcd hmg hobj hints hlen hg) fun r s' hq=>?_)
 obtain ⟨rfl,h2,h3,h4⟩:=hq
 exact⟨.inl ⟨.bool true,.bool true,[],rfl,fun _=>rfl,.bool true,G1 l _,fun _=>⟨List.Pairwise.nil,fun _ hm=>(nomatch hm)⟩⟩,h2,h3,h4⟩
end Att
namespace L2
open PySem PySem.Spec PyProof.Rows
theorem uW:∀ {vs:List Value}{ns:List Int},IntsAre vs ns->aL (ns.map V.int) vs
 | _,_,.nil=>.nil
 | _,_,.cons n t h=>.cons ⟨t,rfl⟩ (uW h)
def pR (H:Hp):Prop:=∀ b,H b=none ∨ ∃ o xs,H b=some (.frz o (.lst xs))
theorem au7 {P:Program}{w:World}{K:PySem.W.Frag}{mg mb:Str->Option Value}{CX:gI}{k:Nat}{fa a:Addr}{fd:FuncData}{x:Str}{sp:Sp}{s₁:Shared}{vs:List Value}{ns:List Int}
  (KX:K.In s₁.heap) (hns:s₁.heap.Ns mainGlobals mg) (hb:s₁.heap.Ns builtinsNs mb) (hbb:∀ x:Str,x ≠ "__name__"->mb x=bootBuiltins x) (hlim:s₁.heap.NoLimit) (hg:s₁.gens = #[])
  (ha:s₁.heap.get? a=some { cls:=.type "list",data:=.seq vs.toArray }) (hi:IntsAre vs ns) (hl:ns.length<=sizeLine) (hr:cE k callerA)
  (F:∀ base:Heap,K.In base->base.Ns mainGlobals mg->dE P w K mg base CX k fa fd [x] sp) (hbind:∀ (s:Shared) (u:Value),BindsTo s fd ⟨[u],[]⟩ [(x,u)])
  (hsp:∀ H:Hp,pR H->aR K H a (ns.map V.int)->sp [.ref a] H (fun v _=>v = .bl true) fun _ _ _=>False)
  (hCX:∀ H e s',CX [] H s₁ (fun _ _ _=>False) e s'->False) :
  codeAny (model P w) callerA (.call (.ref fa) ⟨[.ref a],[]⟩) (fun r s'=>r = .ok (.ret (.bool true))/\OldK s₁.heap s'.heap/\s'.os=s₁.os/\AllBare s'.gens) s₁:=by
 have rv:=uW hi
 have lenV:=hi.length
 have core:∀ H:Hp,pR H->aR K H a (ns.map V.int)->bW P w H s₁.heap->(∀ b,H b ≠ none->b=a)->(H a ≠ none->K.lookup a=none)->
   codeAny (model P w) callerA (.call (.ref fa) ⟨[.ref a],[]⟩) (fun r s'=>r = .ok (.ret (.bool true))/\OldK s₁.heap s'.heap/\s'.os=s₁.os/\AllBare s'.gens) s₁:=by
  intro H hO hS hok hA hK
  have base_of:∀ {b:Addr}{o:Obj},s₁.heap.get? b=some o->H b=none->(j9 s₁.heap H).get? b=some o:=fun e n=>ai7 e n
  have noA:∀ {b:Addr}{o:Obj}{es:Array DictEntry}{ep:Nat},s₁.heap.get? b=some o->o.data = .dict es ep->H b=none:=fun {b o es ep} e d=>by
   cases q:H b with
   | none=>rfl
   | some u=>
    have e':b=a:=hA b (by rw [q]; simp)
    subst e'
    rw [ha] at e; cases e
    have d':Data.seq vs.toArray _=Data.dict es ep:=d
    cases d'
  have nsK:∀ {b:Addr}{m:Str->Option Value},s₁.heap.Ns b m->(j9 s₁.heap H).Ns b m:=fun {b m} ⟨o,es,ep,e,d,r⟩=>⟨o,es,ep,base_of e (noA e d),d,r⟩
  have hKb:K.In (j9 s₁.heap H):=fun b o e=>base_of (KX b o e) (by
   cases q:H b with
   | none=>rfl
   | some u=>
    have e':b=a:=hA b (by rw [q]; simp)
    subst e'
    rw [hK (by rw [q]; simp)] at e; cases e)
  have hM:Mod K mg (j9 s₁.heap H):=⟨hKb,nsK hns,⟨mb,nsK hb,hbb⟩,let ⟨mc,h1,h2⟩:=hlim; ⟨mc,nsK h1,h2⟩⟩
  have e0:pN P w K mg (j9 s₁.heap H) callerA [] s₁ H:=⟨rfl,hM,fun b o e=>ai8 e,Nat.le_of_eq (ai6 _ _),trivial,fun b hb=>absurd (show b ∈ ([]:List Addr) from hb) (by simp),hok,.of_eq hg⟩
  refine codeAny_mono ((F _ hKb (nsK hns)).run callerA [] s₁ H ⟨[.ref a],[]⟩ [.ref a] [.ref a] _ _ hr e0 (hbind s₁ (.ref a)) (.cons rfl .nil) (hsp H hO hS)) fun r s' h=>?_
  cases r with
  | error e=>exact (hCX H e s' h).elim
  | ok fl=>
   cases fl with
   | next=>exact False.elim h
   | brk=>exact False.elim h
   | cont=>exact False.elim h
   | ret u=>
    obtain ⟨v,H',os,bare,un,hok',r',q⟩:=h
    have q':v = .bl true:=q
    subst q'
    obtain rfl:u=Value.bool true:=r'
    refine⟨rfl,OldK.of_keep fun b o e=>?_,os,bare⟩
    cases q:H b with
    | none=>exact un.keep b o e q (by intro z; exact absurd (show b ∈ ([]:List Addr) from z) (by simp)) (by simp)
    | some u=>
     rcases hO b with z | ⟨ob,xs,z⟩
     ·rw [q] at z; cases z
     ·have z2:=un.frzs b ob _ z
      obtain ⟨e1,_⟩:=hok b _ z
      obtain ⟨e2,_⟩:=hok' b _ z2
      rw [e] at e1; cases e1
      exact e2
 cases hk:K.lookup a with
 | some o=>
  have e:=KX a o hk
  rw [ha] at e
  cases e
  refine core (fun _=>none) (fun _=>.inl rfl) (.inr ⟨_,vs.toArray,_,hk,rfl,rfl,rfl,by rw [bh3,lenV]; exact hl,by simpa using rv⟩) (fun b u z=>by have z':(none:Option HO)=some u:=z; cases z') (fun b z=>absurd rfl z) fun z=>absurd rfl z
 | none=>
  refine core (fun b=>if b=a then some (.frz { cls:=.type "list",data:=.seq vs.toArray } (.lst (ns.map V.int))) else none) (fun b=>?_) (.inl (.inr ⟨{ cls:=.type "list",data:=.seq vs.toArray },if_pos rfl⟩)) (fun b u z=>?_) (fun b z=>?_) fun _=>hk
  ·by_cases hb:b=a
   ·exact .inr ⟨_,_,if_pos hb⟩
   ·exact .inl (if_neg hb)
  ·by_cases hb:b=a
   ·have z':=(if_pos hb).symm.trans z
    cases z'
    subst hb
    exact⟨ha,by rw [bh8]; exact hl,vs,_,rv,ha⟩
   ·have z':=(if_neg hb).symm.trans z
    cases z'
  ·by_cases hb:b=a
   ·exact hb
   ·exact absurd (if_neg hb) z
theorem au8 {l:PySem.W.OpenLaw}{n k:Nat}{q:Program}{loose:List Str}{XP:(Str->Option Value)->Heap->Prop}{YP:World->Heap->Prop}{d:DefRec}{K:Params->PySem.W.Frag}{CX:World->gI}{sp:World->Sp}{x:Str}
  (hn:l.most=some n) (hn2:n<=sizeLine) (hdf:d.params.defaults = []) (hr:cE k callerA)
  (hY:∀ (w:World) (h:Heap),YP w h->(K w.params).In h)
  (F:∀ (w:World) (mg:Str->Option Value) (fa:Addr) (h:Heap),(K w.params).In h->h.Ns mainGlobals mg->mg d.name=some (.ref fa)->
   ∃ fd:FuncData,(∀ (s:Shared) (u:Value),BindsTo s fd ⟨[u],[]⟩ [(x,u)])/\
    ∀ base:Heap,(K w.params).In base->base.Ns mainGlobals mg->dE l.prog w (K w.params) mg base (CX w) k fa fd [x] (sp w))
  (hsp:∀ (w:World) (H:Hp) (a:Addr) (ns:List Int),ns.length<=n->pR H->aR (K w.params) H a (ns.map V.int)->sp w [.ref a] H (fun v _=>v = .bl true) fun _ _ _=>False)
  (hCX:∀ (w:World) (H:Hp) (s:Shared) (e:Value) (s':Shared),CX w [] H s (fun _ _ _=>False) e s'->False) :
  PySem.W.WalkO q loose XP YP l.row.toRowW d [] (fun f vs=>PySem.call f vs):=by
 refine Att.au6 hn hdf fun w s₀ s₁ mg mb fa o pm cd doc a vs ns G Y ho hd hcd hmg hobj hints hlen hg=>?_
 have KX:=hY w _ Y
 obtain ⟨fd,hb,hF⟩:=F w mg fa _ KX G.T.g hmg
 exact au7 KX G.T.g G.T.b G.T.builtins G.T.nolimit hg hobj hints (bm4 hlen hn2) hr hF hb (fun H hO hS=>hsp w H a ns hlen hO hS) fun H e s'=>hCX w H s₁ e s'
def jC (s:Stmt):Arguments:=match s with
 | .FunctionDef _ a _ _ _ _ _ _ _ _=>a
 | _=>{ posonlyargs:=[],args:=[],vararg:=none,kwonlyargs:=[],kw_defaults:=[],kwarg:=none,defaults:=[] }
def eR (s:Stmt):List Stmt:=match s with
 | .FunctionDef _ _ b _ _ _ _ _ _ _=>b
 | _=>[]
def aU (s:Stmt):Scope:=match s with
 | .FunctionDef _ _ _ _ _ _ sc _ _ _=>sc
 | _=>{ kind:=.function,names:=[],isGenerator:=false,isCoroutine:=false }
abbrev eJ:gI:=fun _ _ _ _ _ _=>False
abbrev E0:XK:=fun _ _ _=>False
theorem au9 {X:Cx}:nI eJ X E0:=fun _ _ _ _ _ _ _ h=>h.elim
structure fL (K:PySem.W.Frag) (x qual:Str) (st:Stmt) (f:Addr) (fd:FuncData):Prop where
 ex:∃ (oc:Value) (od:Option Addr) (kV doc pm:Value) (an:Option Addr) (cdv ct:Value) (osl:Array (Option Value)),
  fd=PySem.W.fnOf x qual (jC st) (eR st) (aU st) .none kV doc pm an cdv ct/\K.lookup f=some ⟨oc,od,.func fd,osl⟩/\PySem.W.codeIn K cdv qual=true
 kp:PySem.W.keepIn K (.ref f)=true
section
variable {P : Program} {w : World} {K : PySem.W.Frag} {mg : Str → Option Value} {base : Heap}
theorem fL.ok {x qual:Str}{st:Stmt}{f:Addr}{fd:FuncData}{N ps:List Str}{k:Nat}{sp:Sp} (F:fL K x qual st f fd) (S:FnScope N ps (aU st)) (len:∀ vs H Q E,sp vs H Q E->vs.length=ps.length)
  (hbody:∀ (cdv:Value) (A:Around) (outer:List Env) (s:Shared) (H:Hp) (vs:List V) (Q:VK) (E:XK),cE k (A.deeper (envOfC qual (aU st) s.heap.objs.size f cdv))->sp vs H Q E->
   ∃ t,dQ (dG eJ P w K mg base N qual (aU st) f cdv A outer s H E).nox (eR st) t/\t { nx:=fun _ H'=>Q .non H',rt:=Q } (gJ N vs) H):dE P w K mg base eJ (k+1) f fd ps sp:=by
 obtain ⟨oc,od,kV,doc,pm,an,cdv,ct,osl,rfl,lk,hcd⟩:=F.ex
 refine B3 lk hcd S len fun A outer s H vs Q E hr hsp=>?_
 obtain ⟨t,h,q⟩:=hbody cdv A outer s H vs Q E hr hsp
 exact⟨t,h.nox,q⟩
theorem fL.binds {x qual:Str}{st:Stmt}{f:Addr}{fd:FuncData}{ps:List Str} (F:fL K x qual st f fd)
  (h:∀ (kV doc pm:Value) (an:Option Addr) (cdv ct:Value) (us:List Value),us.length=ps.length->bindArgs (PySem.W.fnOf x qual (jC st) (eR st) (aU st) .none kV doc pm an cdv ct) ⟨us,[]⟩=pure (ps.zip us)):iJ K fd ps []:=by
 obtain ⟨oc,od,kV,doc,pm,an,cdv,ct,osl,rfl,lk,hcd⟩:=F.ex
 exact .all (h kV doc pm an cdv ct)
theorem av0 {x qual:Str}{st:Stmt}{f:Addr}{oc:Value}{od an:Option Addr}{osl:Array (Option Value)}{kV doc pm cdv ct:Value} (l:K.lookup f=some ⟨oc,od,.func (PySem.W.fnOf x qual (jC st) (eR st) (aU st) .none kV doc pm an cdv ct),osl⟩)
  (c:PySem.W.codeIn K cdv qual=true) (k:PySem.W.keepIn K (.ref f)=true):fL K x qual st f (PySem.W.fnOf x qual (jC st) (eR st) (aU st) .none kV doc pm an cdv ct):=⟨⟨oc,od,kV,doc,pm,an,cdv,ct,osl,rfl,l,c⟩,k⟩
end
theorem k7 {A:Around}{k:Nat} (hr:cE k A):A.units+1 < cLine:=Nat.lt_of_le_of_lt (Nat.add_le_add_left (by decide:1<=64) _) hr.units
theorem uX {n:Nat} (h:n<=1000):n < sizeLine:=Nat.lt_of_le_of_lt h (by decide)
section
variable {X : Cx}
theorem pv (i:Nat) {x:Str}{pos:Pos} (hN:X.N[i]? = some x:=by rfl) (hv:gE X.env.scope x:=by first | exact Or.inl rfl | exact Or.inr (Or.inl rfl) | exact Or.inr (Or.inr rfl)) (hd:(x == ("__debug__" : Str))=false:=by decide)
  (hcd:(x == ("__classdict__" : Str))=false:=by decide):PE X (.Name x pos) (gV i):=iF hN hv hd hcd
theorem av1:dA X (.builtin "len") (fun xs H Q=>∃ a kvs,xs = [V.ref a]/\H a=some (.dK kvs)/\Q (.int kvs.length) H):=by
 intro pins s σ H xs us Q I r h
 obtain ⟨a,kvs,rfl,ha,q⟩:=h
 obtain ⟨u,rfl,ru⟩:=gG r
 cases ru
 exact at2 I (.inl ha) fun t s' I'=>⟨.int kvs.length,H,I',⟨t,rfl⟩,q⟩
end
theorem aN {A B:Prop} (h:B):if false=true then A else B:=by
 rw [if_neg bj6]
 exact h
theorem aY {A B:Prop} (h:A):if true=true then A else B:=by
 rw [if_pos rfl]
 exact h
def aG (H H':Hp):Prop:=∀ b o,H b=some o->H' b=some o
theorem aG.refl (H:Hp):aG H H:=fun _ _ h=>h
theorem aG.trans {H H1 H2:Hp} (a:aG H H1) (b:aG H1 H2):aG H H2:=fun c o h=>b c o (a c o h)
theorem aG.free {H H':Hp} (e:aG H H') {l:Addr} (h:H' l=Option.none):H l=Option.none:=by
 cases q:H l with
 | none=>rfl
 | some o=>
  rw [e l o q] at h
  cases h
def eL (cells:List (Str × Addr)):List (Str × NameKind)->List (Str × Addr)->List (Str × Addr)
 | [],cs=>cs
 | (n,k) :: r,cs=>eL cells r (if k == .free then (n,(cells.lookup n).getD 0) :: cs else cs)
theorem uY {env:Env}:∀ (ns:List (Str × NameKind)) (cs:List (Str × Addr)),(∀ x ∈ ns,x.2 = .free->∃ c,env.cells.lookup x.1=some c)->
  (forIn ns cs (fun (x:Str × NameKind) r=>(match x with
   | (name,kind)=>if (kind == .free)=true then (do let y <- cellOf env name; pure (ForInStep.yield ((name,y) :: r))) else pure (ForInStep.yield r)):_->_->Sem _))=(pure (eL env.cells ns cs):Sem (List (Str × Addr)))
 | [],cs,_=>by rw [List.forIn_nil]; rfl
 | (n,k) :: r,cs,h=>by
  rw [List.forIn_cons]
  have hr:∀ x ∈ r,x.2 = .free->∃ c,env.cells.lookup x.1=some c:=fun x hx=>h x (bi7 _ hx)
  cases hk:(k == NameKind.free) with
  | true=>
   have e:k = .free:=by simpa using hk
   obtain ⟨c,hc⟩:=h (n,k) bi6 e
   simp only [hk,if_true]
   have e1:cellOf env n=pure c:=by unfold cellOf; rw [hc]
   rw [e1]
   show ((pure c >>= fun y=>pure (ForInStep.yield ((n,y) :: cs))) >>= _:Sem _)=_
   rw [pure_bind,pure_bind]
   have:=uY (env:=env) r ((n,c) :: cs) hr
   refine this.trans ?_
   unfold eL
   simp only [hk,if_true,hc,Option.getD_some]
   cases r <;> rfl
  | false=>
   simp only [hk,bk7,bq8]
   rw [pure_bind]
   have:=uY (env:=env) r cs hr
   refine this.trans ?_
   conv=>rhs; unfold eL
   simp only [hk,bk7,bq8]
theorem uZ {scope:Scope}{env:Env} (h:∀ x ∈ scope.names,x.2 = .free->∃ c,env.cells.lookup x.1=some c):closureFor scope env=pure (eL env.cells scope.names []):=by
 have e:=uY (env:=env) scope.names [] h
 unfold closureFor
 rw [show (pure (eL env.cells scope.names []):Sem (List (Str × Addr)))=(pure (eL env.cells scope.names []) >>= pure) by rw [pure_bind]]
 rw [<- e]
theorem pS {cells:List (Str × Addr)}:∀ (ns:List (Str × NameKind)) (cs:List (Str × Addr)) {x:Str}{c:Addr},(∀ y ∈ ns,y.2 = .free->∃ c,cells.lookup y.1=some c)->
  (∀ x c,cs.lookup x=some c->cells.lookup x=some c)->(eL cells ns cs).lookup x=some c->cells.lookup x=some c
 | [],cs,x,c,_,hc,h=>hc x c h
 | (n,k) :: r,cs,x,c,hn,hc,h=>by
  unfold eL at h
  have hr:∀ y ∈ r,y.2 = .free->∃ c,cells.lookup y.1=some c:=fun y hy=>hn y (bi7 _ hy)
  cases hk:(k == NameKind.free) with
  | false=>
   simp only [hk,bk7,bq8] at h
   exact pS r cs hr hc h
  | true=>
   simp only [hk,if_true] at h
   refine pS r _ hr (fun y d e=>?_) h
   obtain ⟨c0,h0⟩:=hn (n,k) bi6 (by simpa using hk)
   have h0:cells.lookup n=some c0:=h0
   rw [h0] at e
   rw [bo7] at e
   by_cases hyn:y=n
   ·subst hyn
    simp only [bp6,Option.getD_some] at e
    rw [h0]; exact e
   ·have:(y == n)=false:=bu6.mpr hyn
    simp only [this] at e
    exact hc y d e
theorem v3 {cells:List (Str × Addr)}:∀ (ns:List (Str × NameKind)) (cs:List (Str × Addr)) {x:Str},((x,NameKind.free) ∈ ns ∨ ∃ c,cs.lookup x=some c)->∃ c,(eL cells ns cs).lookup x=some c
 | [],cs,x,h=>by
  rcases h with h | h
  ·simp at h
  ·exact h
 | (n,k) :: r,cs,x,h=>by
  unfold eL
  refine v3 r _ ?_
  rcases h with h | ⟨c,h⟩
  ·rcases bh9.mp h with e | e
   ·cases e
    exact .inr ⟨_,by simp [bo7]; rfl⟩
   ·exact .inl e
  ·right
   cases hk:(k == NameKind.free) with
   | false=>exact⟨c,by simpa [hk] using h⟩
   | true=>
    simp only [if_true]
    rw [bo7]
    by_cases hxn:(x == n)=true
    ·simp only [hxn]; exact⟨_,rfl⟩
    ·simp only [Bool.eq_false_iff.mpr hxn]; exact⟨c,h⟩
theorem pT {env:Env}:∀ {names:List (Str × NameKind)}{x:Str}{k:NameKind},(names.map fun (n,k)=>if (k == NameKind.free && env.scope.kind == .function && env.kindOf n == some .cell) then (n,NameKind.cell) else (n,k)).lookup x=some k->
  names.lookup x=some k ∨ (names.lookup x=some .free/\k = .cell)
 | [],_,_,h=>by simp at h
 | (n,q) :: r,x,k,h=>by
  have ih:=@pT env r x k
  rw [bq3] at h
  by_cases hx:(x == n)=true
  ·have e:x=n:=by simpa using hx
   subst e
   by_cases hc:(q == NameKind.free && env.scope.kind == .function && env.kindOf x == some .cell)=true
   ·simp only [hc,if_true,bo7,bp6] at h
    have hq:q = .free:=by simp at hc; exact hc.1.1
    exact .inr ⟨by simp [bo7,hq],(bk5 h).symm⟩
   ·simp only [hc,bk7,bq8,bo7,bp6] at h
    exact .inl (by simp [bo7]; exact bk5 h)
  ·have hx':(x == n)=false:=Bool.eq_false_iff.mpr hx
   have h':(r.map fun (n,k)=>if (k == NameKind.free && env.scope.kind == .function && env.kindOf n == some .cell) then (n,NameKind.cell) else (n,k)).lookup x=some k:=by
    by_cases hc:(q == NameKind.free && env.scope.kind == .function && env.kindOf n == some .cell)=true
    ·simp only [hc,if_true,bo7,hx'] at h; exact h
    ·simp only [hc,bk7,bq8,bo7,hx'] at h; exact h
   simp only [bo7,hx']
   exact ih h'
def fM (fr:List (Option Nat)) (σ:St):St:=fr.map fun o=>o.bind fun j=>(σ[j]?).join
def Wk (σ₁ σ₂:St):Prop:=σ₁.length=σ₂.length/\∀ (i:Nat) v,σ₁[i]? = some (some v)->σ₂[i]? = some (some v)
theorem Wk.refl (σ:St):Wk σ σ:=⟨rfl,fun _ _ h=>h⟩
theorem Wk.set {σ τ:St}{i:Nat}{v:V} (h:Wk σ τ) (hi:σ[i]? = some none):Wk σ (τ.set i (some v)):=by
 refine⟨by rw [bm6]; exact h.1,fun j w e=>?_⟩
 by_cases hj:j=i
 ·subst hj; rw [hi] at e; cases e
 ·rw [bk2 (Ne.symm hj)]; exact h.2 j w e
theorem jD:∀ (ns:List (Str × NameKind)) (n:Nat) (cs:List (Str × Addr)),cellsFrom n ns cs=cellsFrom n ns [] ++ cs
 | [],_,_=>rfl
 | (x,k) :: r,n,cs=>by
  unfold cellsFrom
  split
  ·rw [jD r (n+1) ((x,n) :: cs),jD r (n+1) [(x,n)]]; simp
  ·exact jD r n cs
theorem v4:∀ (ns:List (Str × NameKind)) (n:Nat) {x:Str}{c:Addr},(x,c) ∈ cellsFrom n ns []->(x,NameKind.cell) ∈ ns
 | [],_,_,_,h=>by simp [cellsFrom] at h
 | (y,k) :: r,n,x,c,h=>by
  unfold cellsFrom at h
  split at h
  ·rename_i hk
   rw [jD] at h
   rcases bk4.mp h with z | z
   ·exact bi7 _ (v4 r _ z)
   ·rw [bi1] at z
    cases z
    have:k = .cell:=by simpa using hk
    rw [this]; exact bi6
  ·exact bi7 _ (v4 r _ h)
theorem pU:∀ (ns:List (Str × NameKind)) (n:Nat) {x:Str},(x,NameKind.cell) ∈ ns->∃ c,(x,c) ∈ cellsFrom n ns []
 | (y,k) :: r,n,x,h=>by
  unfold cellsFrom
  rcases bh9.mp h with z | z
  ·cases z
   rw [if_pos (by rfl),jD]
   exact⟨n,bl0 _ (by simp)⟩
  ·split
   ·obtain ⟨c,hc⟩:=pU r (n+1) z
    rw [jD]
    exact⟨c,bl6 _ hc⟩
   ·exact pU r n z
theorem v7 {α:Type}:∀ {l:List (Str × α)}{x:Str}{c:α},(x,c) ∈ l->∃ d,l.lookup x=some d
 | (y,v) :: r,x,c,h=>by
  rw [bo7]
  cases hb:x == y with
  | true=>exact⟨v,rfl⟩
  | false=>
   rcases bh9.mp h with z | z
   ·cases z; simp at hb
   ·exact v7 z
theorem pV {α:Type}{x:Str}:∀ (l r:List (Str × α)),(l ++ r).lookup x=(match l.lookup x with | some v=>some v | none=>r.lookup x)
 | [],_=>rfl
 | (y,v) :: l,r=>by
  rw [List.cons_append,bo7,bo7]
  cases hb:x == y with
  | true=>rfl
  | false=>exact pV l r
def gL (X:Cx) (scope:Scope) (C:Addr):List (Str × Addr):=cellsFrom (C+1) scope.names (eL X.env.cells scope.names [])
theorem kW {X:Cx}{scope:Scope}{C:Addr}{x:Str}{c:Addr} (h:(gL X scope C).lookup x=some c) :
  (x,c) ∈ cellsFrom (C+1) scope.names [] ∨ ((∀ d,(x,d) ∉ cellsFrom (C+1) scope.names [])/\(eL X.env.cells scope.names []).lookup x=some c):=by
 unfold gL at h
 rw [jD,pV] at h
 cases e:(cellsFrom (C+1) scope.names []).lookup x with
 | some v=>rw [e] at h; cases h; exact .inl (bn4 e)
 | none=>
  rw [e] at h
  refine .inr ⟨fun d hd=>?_,h⟩
  obtain ⟨d',z⟩:=v7 hd
  rw [e] at z; cases z
theorem av2 {X:Cx}{scope:Scope}{C:Addr}{x:Str}{c:Addr} (hn:(x,NameKind.cell) ∉ scope.names) (h:(eL X.env.cells scope.names []).lookup x=some c):(gL X scope C).lookup x=some c:=by
 unfold gL
 rw [jD,pV]
 cases e:(cellsFrom (C+1) scope.names []).lookup x with
 | some v=>exact absurd (v4 _ _ (bn4 e)) hn
 | none=>exact h
theorem G2 {X:Cx}{scope:Scope}{C:Addr}{x:Str} (h:(x,NameKind.cell) ∈ scope.names ∨ ∃ c,(eL X.env.cells scope.names []).lookup x=some c):∃ c,(gL X scope C).lookup x=some c:=by
 unfold gL
 rw [jD,pV]
 cases e:(cellsFrom (C+1) scope.names []).lookup x with
 | some v=>exact⟨v,rfl⟩
 | none=>
  rcases h with h | h
  ·obtain ⟨c,hc⟩:=pU scope.names (C+1) h
   obtain ⟨d,hd⟩:=v7 hc
   rw [e] at hd; cases hd
  ·exact h
def bT (X:Cx) (scope:Scope) (N:List Str) (s:Shared) (H:Hp) (C:Addr) (fp:List Addr) (E:Value->Shared->Prop):Cx:=
 { X with N:=N,s₀:=s,H₀:=H,env:=compEnvC scope (gL X scope C) C X.env,outer:=X.stack,ex:=fp,fn:=fun x=>scope.names.lookup x == some .cell,pn:=[],xe:=E }
structure dJ (X:Cx) (scope:Scope) (N:List Str) (fr:List (Option Nat)):Prop where
 kind:scope.kind = .function
 own:∀ y ∈ scope.names,y.2 = .cell->scope.names.lookup y.1=some .cell
 names:∀ y ∈ scope.names,y.2 = .local->scope.names.lookup y.1=some .local
 free:∀ y ∈ scope.names,y.2 = .free->X.env.scope.names.lookup y.1=some .cell ∨ X.env.scope.names.lookup y.1=some .free
 len:fr.length=N.length
 from_:∀ (i j:Nat),fr[i]? = some (some j)->∃ x,N[i]? = some x/\X.N[j]? = some x/\scope.names.lookup x=some .free
section
variable {X : Cx} {pins : List (Addr × Obj)} {σ : St} {H : Hp} {s : Shared} {scope : Scope} {N : List Str} {fr : List (Option Nat)}
theorem dJ.cells (S:dJ X scope N fr) (I:a8 X pins σ H s):∀ y ∈ scope.names,y.2 = .free->∃ c,X.env.cells.lookup y.1=some c:=fun y hy hk=>I.ok.has y.1 (S.free y hy hk)
theorem av3 {C D:Addr}{fp:List Addr}{E:Value->Shared->Prop}{h1:Heap}{tk:Nat}{m:Str->Option Value} (S:dJ X scope N fr) (I:a8 X pins σ H s)
  (hf:∀ b ∈ fp,fR X pins H b) (hfl:∀ b ∈ fp,b < s.heap.objs.size) (hD:s.heap.objs.size<=D) (hC:s.heap.objs.size<=C) (hDC:D < C)
  (old:∀ b o,s.heap.get? b=some o->h1.get? b=some o) (hns:h1.Ns C m) (hacc:h1.get? D=some { cls:=.type "list",data:=.seq #[] 0 }) (hco:CellsOk h1 (C+1) (cellsFrom (C+1) scope.names [])) :
  a8 (bT X scope N s H C fp E) [] (fM fr σ) (upd H D (.lst [])) { s with heap:=h1,toks:=tk }:=by
 have hHD:H D=none:=I.hok.fresh hD
 have cl:=S.cells I
 have cs:∀ {x:Str}{c:Addr},(eL X.env.cells scope.names []).lookup x=some c->X.env.cells.lookup x=some c:=fun {x c} h=>pS scope.names [] cl (fun _ _ z=>by simp at z) h
 have clt:∀ {x:Str}{c:Addr},X.env.cells.lookup x=some c->c < s.heap.objs.size:=fun {x c} h=>by obtain ⟨v,z⟩:=I.cell x c h; exact z.lt
 have nge:∀ {x:Str}{c:Addr},(x,c) ∈ cellsFrom (C+1) scope.names []->C < c:=fun {x c} h=>(hco.empty x c h).2
 refine⟨⟨I.ok.mod,?_,I.ok.glob,I.ok.blt,hC,?_,?_,?_,I.ok.hd,I.ok.frames,.inl rfl,?_,I.bs,bm4 I.ok.bsz I.sz,?_,?_,I.stack,I.stkFree⟩,rfl,I.bare,Un.laid old hD hHD,⟨m,hns,?_⟩,?_,?_,?_,fun p hp=>absurd (show p ∈ ([]:List (Addr × Obj)) from hp) (by simp),?_,?_⟩
 ·exact S.kind
 ·intro x y c h1 h2
  rcases kW h1 with a | ⟨_,a⟩ <;> rcases kW h2 with b | ⟨_,b⟩
  ·exact name_of_addr hco.apart a b
  ·exact absurd (bi8 (Nat.lt_trans (nge a) (clt (cs b))) hC) (bo2 _)
  ·exact absurd (bi8 (Nat.lt_trans (nge b) (clt (cs a))) hC) (bo2 _)
  ·exact I.ok.inj x y c (cs a) (cs b)
 ·intro x hx
  have hx:(relabel scope X.env).names.lookup x=some .cell ∨ (relabel scope X.env).names.lookup x=some .free:=hx
  have fin:(x,NameKind.free) ∈ scope.names->∃ c,(gL X scope C).lookup x=some c:=fun z=>G2 (.inr (v3 scope.names [] (.inl z)))
  rcases hx with hx | hx
  ·rcases pT hx with z | z
   ·exact G2 (.inl (bn4 z))
   ·exact fin (bn4 z.1)
  ·rcases pT hx with z | z
   ·exact fin (bn4 z)
   ·exact absurd z.2 (by decide)
 ·intro x c hx h
  have hx:(scope.names.lookup x == some NameKind.cell)=true:=hx
  have hx:scope.names.lookup x=some .cell:=by simpa using hx
  rcases kW h with a | ⟨a,_⟩
  ·exact bm4 hC (bp9 (nge a))
  ·obtain ⟨d,hd⟩:=pU scope.names (C+1) (bn4 hx)
   exact absurd hd (a d)
 ·intro b hb
  refine⟨bk6 (bi8 (hfl b hb) hC),fun x c e=>?_⟩
  rcases kW e with a | ⟨_,a⟩
  ·exact bq0 (Nat.lt_trans (bi8 (hfl b hb) hC) (nge a))
  ·exact (hf b hb).2.2.2.2.1 x c (cs a)
 ·intro b o e hb
  rcases (hf b hb).2.2.2.1 with z | z
  ·exact I.ok.noex b o e z
  ·exact absurd (bi8 (bi4 e) (bm4 I.ok.bsz z)) (bo2 _)
 ·intro b hb z
  rcases bh9.mp (I.stkSub b z) with e | e
  ·exact (hf b hb).2.1 e
  ·exact (hf b hb).2.2.1 e
 ·intro i x v e1 e2 e3
  have e2:(fr.map fun o=>o.bind fun j=>(σ[j]?).join)[i]? = some (some v):=e2
  rw [bj5] at e2
  cases ef:fr[i]? with
  | none=>rw [ef] at e2; cases e2
  | some o=>
   rw [ef] at e2
   cases o with
   | none=>cases e2
   | some j=>
    have e2:some ((σ[j]?).join)=some (some v):=e2
    have ej:σ[j]? = some (some v):=by
     cases q:σ[j]? with
     | none=>rw [q] at e2; cases e2
     | some w=>rw [q] at e2; cases w with
      | none=>cases e2
      | some w=>cases e2; rfl
    obtain ⟨y,a1,a2,a4⟩:=S.from_ i j ef
    have e1:N[i]? = some x:=e1
    rw [e1] at a1
    cases a1
    have a3:(x,NameKind.free) ∈ scope.names:=bn4 a4
    have vis:gE X.env.scope x:=(S.free _ a3 rfl).elim (fun z=>.inr (.inl z)) fun z=>.inr (.inr z)
    obtain ⟨m0,hn0,hl0⟩:=I.loc
    obtain ⟨u,r,l⟩:=hl0 j x v a2 ej vis
    refine⟨u,r,.inr ⟨?_,?_⟩⟩
    ·have e3:(relabel scope X.env).names.lookup x=some .local ∨ (relabel scope X.env).names.lookup x=some .cell ∨ (relabel scope X.env).names.lookup x=some .free:=e3
     rcases e3 with z | z | z
     ·rcases pT z with y | y
      ·rw [a4] at y; cases y
      ·exact absurd y.2 (by decide)
     ·exact .inl z
     ·exact .inr z
    ·obtain ⟨c,hc⟩:=v3 (cells:=X.env.cells) scope.names [] (x:=x) (.inl a3)
     refine⟨c,av2 (fun z=>by have:=S.own _ z rfl; rw [a4] at this; cases this) hc,?_⟩
     have hc':=cs hc
     have S1:=S.free (x,.free) a3 rfl
     rcases l with ⟨k,_⟩ | ⟨_,c2,hc2,z⟩
     ·have k:X.env.scope.names.lookup x=some .local:=k
      rcases S1 with q | q <;> (have q:X.env.scope.names.lookup x=_:=q; rw [k] at q; cases q)
     ·rw [hc'] at hc2; cases hc2
      obtain ⟨oc,ho,hd⟩:=z
      exact⟨oc,old c oc ho,hd⟩
 ·intro x c e
  rcases kW e with a | ⟨_,a⟩
  ·exact⟨_,(hco.empty x c a).1⟩
  ·obtain ⟨v,oc,ho,hd⟩:=I.cell x c (cs a)
   exact⟨v,oc,old c oc ho,hd⟩
 ·show upd H D (.lst []) C=none
  rw [aW (bq0 hDC)]; exact I.hok.fresh hC
 ·intro x c e
  show upd H D (.lst []) c=none
  rcases kW e with a | ⟨_,a⟩
  ·rw [aW (bq0 (Nat.lt_trans hDC (nge a)))]; exact I.hok.fresh (bm4 hC (bp9 (nge a)))
  ·have q:=cs a
   rw [aW (bk6 (bi8 (clt q) hD))]
   exact I.freeC x c q
 ·exact I.hok.laid old hD ⟨bn5 _,[],0,.nil,hacc⟩
 ·show (fM fr σ).length=N.length
  unfold fM; rw [bh8]; exact S.len
end
def k8 (X:Cx) (ifs:List Expr) (t:TT):Prop:=
 ∀ (pins:List (Addr × Obj)) (s:Shared) (σ:St) (H:Hp) (Q:Bool->Hp->Prop),a8 X pins σ H s->t σ H Q->
  wpAny (model X.prog X.w) X.A (forIn ifs true fun c r=>if r=true then do let ok <- isTrue c X.env (eval c X.env); pure (ForInStep.yield ok) else pure (ForInStep.yield r)) (TP X pins σ Q) X.xe s
def v8:TT:=fun _ H Q=>Q true H
theorem G3 {X:Cx}:k8 X [] v8:=fun _ _ _ H _ I h=>wpAny_tests_nil ⟨H,I,h⟩
theorem G4 {X:Cx}{c:Expr}{t:TT} (h:PT X c t):k8 X [c] t:=fun pins s σ H Q I hq=>wpAny_tests_one (h pins s σ H Q I hq)
section
variable {prog : Program} {w : World} {A : Around}
def v9 (prog:Program) (w:World) (A:Around) (elt tg:Expr) (ifs:List Expr) (it acc:Value) (env:Env) (lost:Value->Shared->Prop) (stop next:Shared->Prop) (s:Shared):Prop:=
 let M:=model prog w
 let tests:Sem Bool:=forIn ifs true fun c r=>if r=true then do let ok <- isTrue c env (eval c env); pure (ForInStep.yield ok) else pure (ForInStep.yield r)
 let put:Shared->Prop:=wpAny M A (eval elt env) (fun x=>wpAny M A (call (.builtin "list.append") [acc,x]) (fun _=>next) lost) lost
 let taken:Value->Shared->Prop:=fun v=>wpAny M A (letOwnedTupleGo tg it v) (fun _=>wpAny M A (assign tg env v) (fun _=>wpAny M A tests (fun ok s'=>if ok=true then put s' else next s') lost) lost) lost
 wpAny M A (pyNext it) (fun r s'=>match r with
  | none=>stop s'
  | some v=>taken v s') lost s
theorem av4 {R:Result->Shared->Prop}{s:Shared}{elt tg iter:Expr}{ifs:List Expr}{scope:Scope}{pos:Pos}{it acc:Value}{env:Env} (I:Nat->Shared->Prop)
  (turn:∀ n s,I n s->v9 prog w A elt tg ifs it acc env (notedBy (model prog w) A env fun e=>R (.error e)) (R (.ok .next)) (fun s'=>∃ m,m < n/\I m s') s) (n:Nat) (h:I n s) :
  codeAny (model prog w) A (.compLoop (.ListComp elt [⟨tg,iter,ifs,0⟩] scope pos) 0 it acc env) R s:=by
 apply codeAny_loop rfl I _ n h
 intro k s1 h1
 change wpAny _ A ((compTurn _ 0 it acc env).onRaise (fun x=>do noteFrame x env; theTreesLotGoes x)) _ _ s1
 apply wpAny_noted
 rw [compTurn_list]
 have t:=turn k s1 h1
 unfold v9 at t
 apply bh0
 apply wpAny_standAt
 apply bh0
 refine bo3 t (fun r s2 h2=>?_) fun _ _ z=>z
 cases r with
 | none=>exact bh6 h2
 | some v=>
  apply bh0
  refine bo3 h2 (fun _ s3 h3=>?_) fun _ _ z=>z
  apply bh0
  refine bo3 h3 (fun _ s4 h4=>?_) fun _ _ z=>z
  apply bh0
  refine bo3 h4 (fun ok s5 h5=>?_) fun _ _ z=>z
  cases ok with
  | false=>exact bh6 ⟨rfl,h5⟩
  | true=>
   apply bh0
   apply bh0
   refine bo3 h5 (fun x s6 h6=>?_) fun _ _ z=>z
   apply bh0
   exact bo3 h6 (fun _ s7 h7=>bh6 (bh6 ⟨rfl,h7⟩)) fun _ _ z=>z
end
def pW (g:TG) (tc:TT) (te:TE) (σ0:St) (J:It) (D:Addr) (Q:VK) (W:Nat->Nat->List V->Hp->Prop):Prop:=
 ∀ i m acc H',W i m acc H'->H' D=some (.lst acc)/\((J.stop i H'/\Q (.ref D) H') ∨ (J.go i H'/\∀ x H2,J.yld i H' x H2->g x σ0 H2 fun σ2 H3=>Wk σ0 σ2/\tc σ2 H3 fun b H4=>
  if b=true then te σ2 H4 fun v H5=>H5 D=some (.lst acc)/\acc.length < sizeLine/\∃ m',m' < m/\W (i+1) m' (acc ++ [v]) (upd H5 D (.lst (acc ++ [v]))) else ∃ m',m' < m/\W (i+1) m' acc H4))
def av5 (wi:TI) (fr:List (Option Nat)) (g:TG) (tc:TT) (te:TE):TE:=fun σ H Q=>wi σ H fun J H1=>∀ D,H1 D=none->
 ∃ W:Nat->Nat->List V->Hp->Prop,(∃ m,W 0 m [] (upd H1 D (.lst [])))/\pW g tc te (fM fr σ) J D Q W
section
variable {M : Model} {A : Around} {E : Value → Shared → Prop} {s : Shared}
theorem av6 {scope:Scope}{globals:Addr}{cl:List (Str × Addr)}{qual:Str}{func:Option Addr}{code:Value}{builtins:Addr}{outer:Env}{Q:Env->Shared->Prop}
  (hQ:∀ h',h'.Ns s.heap.objs.size (fun _=>none)->(∀ b o,s.heap.get? b=some o->h'.get? b=some o)->CellsOk h' (s.heap.objs.size+1) (cellsFrom (s.heap.objs.size+1) scope.names [])->
   Q (newEnv scope s.heap.objs.size globals (cellsFrom (s.heap.objs.size+1) scope.names cl) qual func code (some outer) builtins) { s with heap:=h' }) :
  wpAny M A (newFunctionEnv scope globals cl [] qual func code (some outer) builtins) Q E s:=by
 simp only [newFunctionEnv,Option.isSome_some,if_true]
 refine bh0 (wpAny_alloc ?_)
 refine bh0 (wpAny_layCells _ (fun name kind cells=>by cases hkc:kind == NameKind.cell <;> simp [hkc]) _ _ _ _ ?_)
 have ok:=cellsFrom_ok scope.names (s.heap.push { cls:=.type "dict",data:=.dict #[] }) (s.heap.objs.size+1) [] ⟨fun _ _ hm=>(nomatch hm),List.Pairwise.nil⟩ (by rw [bs3]; exact bh7 _)
 rw [bs3] at ok
 rw [show ({ s with heap:=s.heap.push { cls:=.type "dict",data:=.dict #[] } }:Shared).heap.objs.size=s.heap.objs.size+1 from bs3 ..]
 rw [List.forIn_nil]
 refine bh0 (bh6 (bh6 (hQ _ ((Heap.Ns.new s.heap (.type "dict")).keeps (pushCells_keeps _ _)) (fun b o e=>pushCells_keeps _ _ b o (bh1 _ e)) ok)))
end
section
variable {X : Cx} {pins : List (Addr × Obj)} {σ : St} {H : Hp} {s : Shared} {scope : Scope} {N : List Str} {fr : List (Option Nat)} {tg iter elt : Expr} {ifs : List Expr} {pos : Pos} {wi : TI} {g : TG} {tc : TT} {te : TE}
structure lT (X:Cx) (scope:Scope) (N:List Str) (tg:Expr) (ifs:List Expr) (elt:Expr) (s:Shared) (H:Hp) (g:TG) (tc:TT) (te:TE):Prop where
 tg:∀ (C:Addr) (fp:List Addr),PG (bT X scope N s H C fp fun _ _=>False) tg g
 ifs:∀ (C:Addr) (fp:List Addr),k8 (bT X scope N s H C fp fun _ _=>False) ifs tc
 elt:∀ (C:Addr) (fp:List Addr),PE (bT X scope N s H C fp fun _ _=>False) elt te
structure vA (X:Cx) (scope:Scope) (N:List Str) (tg:Expr) (ifs:List Expr) (elt:Expr) (g:TG) (tc:TT) (te:TE):Prop where
 tg:∀ (s:Shared) (H:Hp) (C:Addr) (fp:List Addr),PG (bT X scope N s H C fp fun _ _=>False) tg g
 ifs:∀ (s:Shared) (H:Hp) (C:Addr) (fp:List Addr),k8 (bT X scope N s H C fp fun _ _=>False) ifs tc
 elt:∀ (s:Shared) (H:Hp) (C:Addr) (fp:List Addr),PE (bT X scope N s H C fp fun _ _=>False) elt te
theorem vA.at (B:vA X scope N tg ifs elt g tc te) (s:Shared) (H:Hp):lT X scope N tg ifs elt s H g tc te:=⟨B.tg s H,B.ifs s H,B.elt s H⟩
theorem av7 {C:Addr}{fp:List Addr}{E:Value->Shared->Prop}{pins':List (Addr × Obj)}{σ':St}{H':Hp}{s':Shared} (I:a8 X pins σ H s) (hf:∀ b ∈ fp,fR X pins H b) (I':a8 (bT X scope N s H C fp E) pins' σ' H' s'):a8 X pins σ H' s':=
 I.call' (ch:=fp) I'.os I'.base I'.hok I'.bare fun b hb=>⟨(hf b hb).2.2.2.1,(hf b hb).2.1,(hf b hb).2.2.2.2.1,(hf b hb).2.2.2.2.2⟩
theorem vB {Rr:Value->Addr->Result->Shared->Prop}{J:It}{fp:List Addr}{it:Addr}{tn:Nat->Heap->Prop}{Q:VK}
  (hc:X.calm=true) (S:dJ X scope N fr) (B:lT X scope N tg ifs elt s H g tc te) (I:a8 X pins σ H s) (T:iH X.prog X.w X.K tg J fp it tn) (hst:tn 0 s.heap) (hf:∀ b ∈ fp,fR X pins H b)
  (h:∀ D,H D=none->∃ W:Nat->Nat->List V->Hp->Prop,(∃ m,W 0 m [] (upd H D (.lst [])))/\pW g tc te (fM fr σ) J D Q W)
  (hend:∀ (D C:Addr) (s':Shared) (H':Hp) (m:Str->Option Value),s.heap.objs.size<=C->s.heap.objs.size<=D->a8 X pins σ H' s'->s'.heap.Ns C m->H' C=none->Q (.ref D) H'->Rr (.ref D) C (.ok .next) s') :
  wpAny (model X.prog X.w) X.A (newList []) (fun acc s₃=>wpAny (model X.prog X.w) X.A (newFunctionEnv scope X.env.globals (eL X.env.cells scope.names []) [] X.env.qual none .none (some X.env)) (fun cenv s₄=>
   codeAny (model X.prog X.w) X.A (.compStart (.ListComp elt [⟨tg,iter,ifs,0⟩] scope pos) 0 (.ref it) acc { cenv with scope:=relabel scope X.env }) (Rr acc cenv.locals) s₄) X.xe s₃) X.xe s:=by
 refine bp8 (av6 (fun h₁ hns₁ keep₁ hco₁=>?_))
 dsimp only at hns₁ keep₁ hco₁ ⊢
 generalize hH2:s.heap.push { cls:=.type "list",dict:=none,data:=.seq ([]:List Value).toArray }=H2 at hns₁ keep₁ hco₁ ⊢
 have hC:H2.objs.size=s.heap.objs.size+1:=by rw [<- hH2,bs3]
 have hDC:s.heap.objs.size < H2.objs.size:=by rw [hC]; exact Nat.lt_succ_self _
 have hCle:s.heap.objs.size<=H2.objs.size:=by rw [hC]; exact Nat.le_succ _
 have old:∀ b o,s.heap.get? b=some o->h₁.get? b=some o:=fun b o e=>keep₁ b o (hH2 ▸ bh1 _ e)
 have hacc:h₁.get? s.heap.objs.size=some { cls:=.type "list",data:=.seq #[] 0 }:=keep₁ _ _ (hH2 ▸ bj1 _ rfl)
 have hfl:∀ b ∈ fp,b < s.heap.objs.size:=fun b hb=>by obtain ⟨o,e,_⟩:=T.obj _ _ hst b hb; exact bi4 e
 obtain ⟨W,⟨m0,w0⟩,turn⟩:=h s.heap.objs.size (I.hok.fresh (bh7 _))
 have st1:tn 0 h₁:=T.keep _ _ _ hst fun b _ o e=>old b o e
 have fr0:∀ b ∈ fp,upd H s.heap.objs.size (.lst []) b=none:=fun b hb=>by rw [aW (bk6 (hfl b hb))]; exact (hf b hb).1
 have stat:∀ {H':Hp},(∀ b ∈ fp,H' b=none)->∀ b ∈ fp,fR (bT X scope N s H H2.objs.size fp fun _ _=>False) [] H' b:=fun {H'} hn b hb=>by
  have f:=hf b hb
  refine⟨hn b hb,bk6 (bi8 (hfl b hb) hCle),fun z=>?_,.inl hb,fun x c e=>(kW e).elim (fun z=>bq0 (Nat.lt_trans (bi8 (hfl b hb) hCle) (hco₁.empty x c z).2)) fun z=>f.2.2.2.2.1 x c (pS scope.names [] (S.cells I) (fun _ _ z=>by simp at z) z.2),fun p hp=>absurd (show p ∈ ([]:List (Addr × Obj)) from hp) (by simp)⟩
  rcases bh9.mp (I.stkSub b z) with e | e
  ·exact f.2.1 e
  ·exact f.2.2.1 e
 generalize hX:bT X scope N s H H2.objs.size fp (fun _ _=>False)=Y at stat
 have I0:a8 Y [] (fM fr σ) (upd H s.heap.objs.size (.lst [])) { s with heap:=h₁ }:=hX ▸ av3 S I hf hfl (bh7 _) hCle hDC old hns₁ hacc hco₁
 have bt:PG Y tg g:=hX ▸ B.tg H2.objs.size fp
 have bi:k8 Y ifs tc:=hX ▸ B.ifs H2.objs.size fp
 have be:PE Y elt te:=hX ▸ B.elt H2.objs.size fp
 have eP:Y.prog=X.prog:=by rw [<- hX]; rfl
 have ew:Y.w=X.w:=by rw [<- hX]; rfl
 have eK:Y.K=X.K:=by rw [<- hX]; rfl
 have eA:Y.A=X.A:=by rw [<- hX]; rfl
 have eE:Y.env=compEnvC scope (gL X scope H2.objs.size) H2.objs.size X.env:=by rw [<- hX]; rfl
 have eX:Y.xe=fun _ _=>False:=by rw [<- hX]; rfl
 have ec:Y.calm=true:=by rw [<- hX]; exact hc
 have never:∀ {E:Value->Shared->Prop} (e:Value) (s':Shared),Y.xe e s'->E e s':=fun {E} e s' z=>by rw [eX] at z; exact z.elim
 have out:∀ {pins' σ' H' s'},a8 Y pins' σ' H' s'->a8 X pins σ H' s':=fun {_ _ _ _} I'=>av7 (C:=H2.objs.size) (E:=fun _ _=>False) (scope:=scope) (N:=N) I hf (hX ▸ I')
 have loop:codeAny (model X.prog X.w) X.A (.compLoop (.ListComp elt [⟨tg,iter,ifs,0⟩] scope pos) 0 (.ref it) (.ref s.heap.objs.size) (compEnvC scope (gL X scope H2.objs.size) H2.objs.size X.env))
   (Rr (.ref s.heap.objs.size) H2.objs.size) { s with heap:=h₁ }:=by
  refine av4 (fun n s'=>∃ i acc H',a8 Y [] (fM fr σ) H' s'/\tn i s'.heap/\(∀ b ∈ fp,H' b=none)/\W i n acc H') ?_ m0 ⟨0,[],_,I0,st1,fr0,w0⟩
  rintro n s3 ⟨i,acc,H3,I3,st3,fr3,w3⟩
  unfold v9
  dsimp only
  obtain ⟨hD3,step⟩:=turn i n acc H3 w3
  rcases step with ⟨stop,qn⟩ | ⟨go,step⟩
  ·have z:=T.done Y eP ew eK ec i [] s3 _ H3 (notedBy (model X.prog X.w) X.A (compEnvC scope (gL X scope H2.objs.size) H2.objs.size X.env) fun e s'=>Rr (.ref s.heap.objs.size) H2.objs.size (.error e) s') I3 (stat fr3) st3 stop
   rw [eA] at z
   refine aM z fun r s4 ⟨hr,I4⟩=>?_
   subst hr
   obtain ⟨m4,hn4,_⟩:=I4.loc
   rw [eE] at hn4
   have f4:=I4.free
   rw [eE] at f4
   exact hend _ _ s4 H3 m4 hCle (bh7 _) (out I4) hn4 f4 qn
  ·have z:=T.item Y eP ew eK ec i [] s3 _ H3 (notedBy (model X.prog X.w) X.A (compEnvC scope (gL X scope H2.objs.size) H2.objs.size X.env) fun e s'=>Rr (.ref s.heap.objs.size) H2.objs.size (.error e) s') I3 (stat fr3) st3 go
   rw [eA] at z
   refine aM z fun r s4 ⟨u,hr,h4⟩=>?_
   subst hr
   refine aM h4 fun _ s5 ⟨x,H5,I5,r5,y5,st5,fr5⟩=>?_
   have I5':=I5.pinned (stat fr5) (T.obj _ _ st5)
   have q1:=bt _ s5 _ H5 x u _ I5' r5 (step x H5 y5)
   rw [eP,ew,eA,eE] at q1
   refine bo3 q1 (fun _ s6 ⟨σ6,H6,I6,wk,q6⟩=>?_) never
   have q2:=bi _ s6 σ6 H6 _ I6 q6
   rw [eP,ew,eA,eE] at q2
   refine bo3 q2 (fun b s7 ⟨H7,I7,q7⟩=>?_) never
   have again:∀ {H8:Hp}{s8:Shared}{acc':List V},a8 Y ([] ++ nE fp s5.heap) σ6 H8 s8->(∃ m',m' < n/\W (i+1) m' acc' H8)->∃ m,m < n/\∃ i acc H',a8 Y [] (fM fr σ) H' s8/\tn i s8.heap/\(∀ b ∈ fp,H' b=none)/\W i m acc H':=fun {H8 s8 acc'} I8 n8=>by
    obtain ⟨m',hm,w8⟩:=n8
    refine⟨m',hm,i+1,acc',H8,(I8.unpinned).weak wk.1 wk.2,T.keep _ _ _ st5 fun b hb o e=>(I8.pin (b,o) (bl0 _ (bl0 _ (pI hb e)))).1,fun b hb=>?_,w8⟩
    obtain ⟨o,e,d⟩:=T.obj _ _ st5 b hb
    exact (I8.pin (b,o) (bl0 _ (bl0 _ (pI hb e)))).2.1
   cases b with
   | false=>
    rw [if_neg bj6] at q7 ⊢
    exact again I7 q7
   | true=>
    rw [if_pos rfl] at q7 ⊢
    have q3:=be _ s7 σ6 H7 _ I7 q7
    rw [eP,ew,eA,eE] at q3
    refine bo3 q3 (fun v s8 ⟨y,H8,I8,r8,hD8,hz8,q8⟩=>?_) never
    have q4:=pQ _ s8 σ6 H8 (.ref s.heap.objs.size) [y] (.ref s.heap.objs.size) [v] (fun _ H9=>∃ m',m' < n/\W (i+1) m' (acc ++ [y]) H9) I8 rfl (.cons r8 .nil) ⟨_,_,_,rfl,rfl,hD8,hz8,q8⟩
    rw [eP,ew,eA] at q4
    exact bo3 q4 (fun _ s9 ⟨_,H9,I9,_,q9⟩=>again I9 q9) never
 exact codeAny_compStart_list loop (T.self _ 0 _ _ _ st1 loop)
end
section
variable {X : Cx} {scope : Scope} {N : List Str} {fr : List (Option Nat)} {tg iter elt : Expr} {ifs : List Expr} {pos : Pos} {wi : TI} {g : TG} {tc : TT} {te : TE}
theorem a8.drop {pins:List (Addr × Obj)}{σ:St}{H H':Hp}{s s':Shared}{C:Addr}{h':Heap} (I0:a8 X pins σ H s) (hC:s.heap.objs.size<=C) {σ':St} (I:a8 X pins σ' H' s') (hn:H' C=none) (sb:Heap.SameBut C s'.heap h'):a8 X pins σ' H' { s' with heap:=h' }:=by
 refine I.turned (t':=s'.toks) (it:=C) (fun b o hb e=>(sb.2 b hb).trans e) hn (bq0 (bi8 I0.lt hC)) (.inr (bm4 I0.sz hC)) (fun x c e z=>?_) fun p hp z=>?_
 ·obtain ⟨v,q⟩:=I0.cell x c e
  exact absurd (bi8 q.lt (by rw [z]; exact hC)) (bo2 _)
 ·exact absurd (bi8 (bi4 (I0.pin p hp).1) (by rw [z]; exact hC)) (bo2 _)
theorem av8 {i:Nat}{x:Str}{px spos:Pos} (hc:X.calm=true) (S:dJ X scope N fr) (hi:PI X tg iter wi) (B:vA X scope N tg ifs elt g tc te) (hN:X.N.Nodup) (hix:X.N[i]? = some x) (hx:X.env.scope.names.lookup x=some .local)
  (hsw:swapsWith (.ListComp elt [⟨tg,iter,ifs,0⟩] scope pos) (some (.Name x px)) spos.line X.env=pure true) (hs:∀ x,foldedSetIterable iter X.env x=pure x:=by intro _; rfl) :
  PS X (.Assign [.Name x px] (.ListComp elt [⟨tg,iter,ifs,0⟩] scope pos) spos) (jA (av5 wi fr g tc te) (dF i)):=by
 intro pins s σ H D I h
 rw [exec_Assign_Name_used _ _ _ _ hsw]
 refine bh0 (wpAny_standAt (bh0 ?_))
 show wpAny _ _ (do let _ <- comprehension (.ListComp elt [⟨tg,iter,ifs,0⟩] scope pos) scope X.env _ (newList []) false (eval iter X.env) (some (assign (.Name x px) X.env))) _ _ s
 refine bh0 (bo3 (wpAny_comprehension_free (Q:=fun _ s'=>SP X pins D .next s') (use:=some (assign (.Name x px) X.env)) rfl hs (uZ (S.cells I)) S.kind S.names (aM (hi pins s σ H _ I h) fun v s1 h1=>aM h1 fun itv s2 h2=>?_))
  (fun _ s' hq=>bh6 (bh6 hq)) fun _ _ e=>e)
 obtain ⟨it,fp,tn,J,H2,e,I2,T,st2,f2,hW⟩:=h2
 subst e
 refine vB (Rr:=fun acc C=>compPost (model X.prog X.w) X.A X.xe (some (assign (.Name x px) X.env)) (fun _ s'=>SP X pins D .next s') acc C) hc S (B.at _ _) I2 T st2 f2 hW ?_
 intro D' C s' H' m hC hD I' hns hHC q
 refine wpAny_assign_Name (tS I' hN hix (.inl hx) (v:=.ref D') rfl (fun s'' I'' sb=>?_) (.inr hx))
 obtain ⟨a,sb,ha⟩:=sb
 have hCa:C ≠ a:=by
  rcases ha with z | z
  ·rw [z]; exact bq0 (bi8 I2.lt hC)
  ·intro e; subst e
   obtain ⟨v,q⟩:=I2.cell x _ z
   exact absurd (bi8 q.lt hC) (bo2 _)
 exact⟨m,hns.sameBut sb hCa,fun h' sb'=>⟨_,H',I2.drop hC I'' hHC sb',q⟩⟩
variable {gh : Hp → TG} {tch : Hp → TT} {teh : Hp → TE}
def vC (wi:TI) (fr:List (Option Nat)) (gh:Hp->TG) (tch:Hp->TT) (teh:Hp->TE):TE:=fun σ H Q=>wi σ H fun J H1=>∀ D,H1 D=none->
 ∃ W:Nat->Nat->List V->Hp->Prop,(∃ m,W 0 m [] (upd H1 D (.lst [])))/\pW (gh H1) (tch H1) (teh H1) (fM fr σ) J D Q W
theorem vD (hc:X.calm=true) (S:dJ X scope N fr) (hi:PI X tg iter wi) (B:∀ (s:Shared) (H:Hp),lT X scope N tg ifs elt s H (gh H) (tch H) (teh H))
  (hs:∀ x,foldedSetIterable iter X.env x=pure x:=by intro _; rfl):PE X (.ListComp elt [⟨tg,iter,ifs,0⟩] scope pos) (vC wi fr gh tch teh):=by
 intro pins s σ H Q I h
 rw [eval_ListComp]
 refine wpAny_comprehension_free (use:=none) rfl hs (uZ (S.cells I)) S.kind S.names (aM (hi pins s σ H _ I h) fun v s1 h1=>aM h1 fun itv s2 h2=>?_)
 obtain ⟨it,fp,tn,J,H2,e,I2,T,st2,f2,hW⟩:=h2
 subst e
 refine vB (Rr:=fun acc C=>compPost (model X.prog X.w) X.A X.xe none (EP X pins σ Q) acc C) hc S (B _ _) I2 T st2 f2 hW ?_
 intro D C s' H' m hC hD I' hns hHC q
 exact⟨m,hns,fun h' sb=>⟨.ref D,H',I2.drop hC I' hHC sb,rfl,q⟩⟩
theorem G5 {i:Nat}{x:Str}{px spos:Pos} (hc:X.calm=true) (S:dJ X scope N fr) (hi:PI X tg iter wi) (B:∀ (s:Shared) (H:Hp),lT X scope N tg ifs elt s H (gh H) (tch H) (teh H)) (hN:X.N.Nodup) (hix:X.N[i]? = some x) (hx:X.env.scope.names.lookup x=some .local)
  (hsw:swapsWith (.ListComp elt [⟨tg,iter,ifs,0⟩] scope pos) (some (.Name x px)) spos.line X.env=pure true) (hs:∀ x,foldedSetIterable iter X.env x=pure x:=by intro _; rfl) :
  PS X (.Assign [.Name x px] (.ListComp elt [⟨tg,iter,ifs,0⟩] scope pos) spos) (jA (vC wi fr gh tch teh) (dF i)):=by
 intro pins s σ H D I h
 rw [exec_Assign_Name_used _ _ _ _ hsw]
 refine bh0 (wpAny_standAt (bh0 ?_))
 show wpAny _ _ (do let _ <- comprehension (.ListComp elt [⟨tg,iter,ifs,0⟩] scope pos) scope X.env _ (newList []) false (eval iter X.env) (some (assign (.Name x px) X.env))) _ _ s
 refine bh0 (bo3 (wpAny_comprehension_free (Q:=fun _ s'=>SP X pins D .next s') (use:=some (assign (.Name x px) X.env)) rfl hs (uZ (S.cells I)) S.kind S.names (aM (hi pins s σ H _ I h) fun v s1 h1=>aM h1 fun itv s2 h2=>?_))
  (fun _ s' hq=>bh6 (bh6 hq)) fun _ _ e=>e)
 obtain ⟨it,fp,tn,J,H2,e,I2,T,st2,f2,hW⟩:=h2
 subst e
 refine vB (Rr:=fun acc C=>compPost (model X.prog X.w) X.A X.xe (some (assign (.Name x px) X.env)) (fun _ s'=>SP X pins D .next s') acc C) hc S (B _ _) I2 T st2 f2 hW ?_
 intro D' C s' H' m hC hD I' hns hHC q
 refine wpAny_assign_Name (tS I' hN hix (.inl hx) (v:=.ref D') rfl (fun s'' I'' sb=>?_) (.inr hx))
 obtain ⟨a,sb,ha⟩:=sb
 have hCa:C ≠ a:=by
  rcases ha with z | z
  ·rw [z]; exact bq0 (bi8 I2.lt hC)
  ·intro e; subst e
   obtain ⟨v,q⟩:=I2.cell x _ z
   exact absurd (bi8 q.lt hC) (bo2 _)
 exact⟨m,hns.sameBut sb hCa,fun h' sb'=>⟨_,H',I2.drop hC I'' hHC sb',q⟩⟩
end
theorem bU {H:Hp}{p:Addr} (h:H p=none) (o:HO):aG H (upd H p o):=fun b u q=>by rw [aW (cY q h)]; exact q
theorem aG.tup {K:PySem.W.Frag}{H H':Hp}{a:Addr}{xs:List V} (e:aG H H') (h:aO K H a xs):aO K H' a xs:=by
 rcases h with (h | ⟨o,h⟩) | h
 ·exact .inl (.inl (e _ _ h))
 ·exact .inl (.inr ⟨o,e _ _ h⟩)
 ·exact .inr h
structure G6 (H:Hp) (J:It) (xs:List V):Prop where
 go:∀ i H',aG H H'->i < xs.length->J.go i H'
 yld:∀ i H' x H2,aG H H'->J.yld i H' x H2->i < xs.length->xs[i]? = some x/\H2=H'
 stop:∀ H',aG H H'->J.stop xs.length H'
theorem av9 {K:PySem.W.Frag}{H:Hp}{a:Addr}{xs:List V} (h:aO K H a xs):G6 H (jX K a) xs:=
 ⟨fun i H' e hi=>⟨xs,xs[i],e.tup h,by simp [hi]⟩,fun i H' x H2 e y hi=>⟨y.2 xs (e.tup h),y.1⟩,fun H' e=>⟨xs,e.tup h,bh7 _⟩⟩
def CW (H1:Hp) (D:Addr) (n:Nat) (Pv:Nat->List V->Hp->Prop):Nat->Nat->List V->Hp->Prop:=fun i m acc H'=>m=n - i/\i<=n/\acc.length<=i/\aG H1 H'/\H' D=some (.lst acc)/\Pv i acc H'
def G7 (H1:Hp) (D:Addr) (n:Nat) (Pv:Nat->List V->Hp->Prop) (i:Nat) (acc:List V) (v:V) (H5:Hp):Prop:=H5 D=some (.lst acc)/\acc.length < sizeLine/\∃ m',m' < n - i/\CW H1 D n Pv (i+1) m' (acc ++ [v]) (upd H5 D (.lst (acc ++ [v])))
def CNo (H1:Hp) (D:Addr) (n:Nat) (Pv:Nat->List V->Hp->Prop) (i:Nat) (acc:List V) (H4:Hp):Prop:=∃ m',m' < n - i/\CW H1 D n Pv (i+1) m' acc H4
structure vE (H1:Hp) (D:Addr) (n i:Nat) (acc:List V) (H':Hp):Prop where
 lt:i < n
 few:acc.length<=i
 sz:n<=sizeLine
 same:aG H1 H'
 new:H1 D=none
 acc:H' D=some (.lst acc)
theorem vE.yes {H1:Hp}{D:Addr}{n i:Nat}{acc:List V}{H' H5:Hp}{Pv:Nat->List V->Hp->Prop}{v:V} (c:vE H1 D n i acc H') (s:aG H' H5) (p:Pv (i+1) (acc ++ [v]) (upd H5 D (.lst (acc ++ [v])))):G7 H1 D n Pv i acc v H5:=by
 refine⟨s _ _ c.acc,Nat.lt_of_le_of_lt c.few (bi8 c.lt c.sz),_,?_,rfl,c.lt,?_,fun b o e=>?_,bO,p⟩
 ·have:=c.lt; omega
 ·rw [bi0,bl3]; exact Nat.succ_le_succ c.few
 ·rw [aW (cY e c.new)]; exact s _ _ (c.same _ _ e)
theorem aw0 {H1:Hp}{J:It}{xs:List V}{g:TG}{tc:TT}{te:TE}{σ0:St}{Q:VK} (O:G6 H1 J xs) (Pv:Nat->List V->Hp->Prop) (hn:xs.length<=sizeLine)
  (h0:∀ D,H1 D=none->Pv 0 [] (upd H1 D (.lst [])))
  (hs:∀ i x acc D H',xs[i]? = some x->vE H1 D xs.length i acc H'->Pv i acc H'->g x σ0 H' fun σ2 H3=>Wk σ0 σ2/\tc σ2 H3 fun b H4=>
   if b=true then te σ2 H4 fun v H5=>G7 H1 D xs.length Pv i acc v H5 else CNo H1 D xs.length Pv i acc H4)
  (hd:∀ D acc H',H1 D=none->aG H1 H'->H' D=some (.lst acc)->acc.length<=xs.length->Pv xs.length acc H'->Q (.ref D) H') :
  ∀ D,H1 D=none->∃ W:Nat->Nat->List V->Hp->Prop,(∃ m,W 0 m [] (upd H1 D (.lst [])))/\pW g tc te σ0 J D Q W:=by
 intro D hD
 refine⟨CW H1 D xs.length Pv,⟨xs.length,rfl,bn5 _,bh7 _,bU hD _,bO,h0 D hD⟩,?_⟩
 rintro i m acc H' ⟨rfl,hi,ha,sm,hDa,p⟩
 refine⟨hDa,?_⟩
 by_cases hlt:i < xs.length
 ·refine .inr ⟨O.go i H' sm hlt,fun x H2 y=>?_⟩
  obtain ⟨hx,e⟩:=O.yld i H' x H2 sm y hlt
  subst e
  exact hs i x acc D H2 hx ⟨hlt,ha,hn,sm,hD,hDa⟩ p
 ·have e:i=xs.length:=by omega
  subst e
  exact .inl ⟨O.stop H' sm,hd D acc H' hD sm hDa ha p⟩
end L2
namespace Srt
open PySem PySem.W PyProof.Rows
abbrev G (p:Array Nat) (i:Nat):Nat:=p.getD i 0
def PP (n:Nat) (p:Array Nat):Prop:=p.toList.Perm (List.range n)
structure G8 (c:Nat->Nat->Bool):Prop where
 asym:∀ {i j},c i j=true->c j i=false
 ntr:∀ {i j k},c i j=false->c j k=false->c i k=false
section
variable {c : Nat → Nat → Bool} (O : G8 c)
def Le (c:Nat->Nat->Bool) (i j:Nat):Prop:=c j i=false
include O
theorem le_refl (i:Nat):Le c i i:=by
 unfold Le
 cases h:c i i with
 | false=>rfl
 | true=>have:=O.asym h; rw [h] at this; exact this
theorem le_trans {i j k:Nat} (h1:Le c i j) (h2:Le c j k):Le c i k:=O.ntr h2 h1
end
end Srt
namespace L2
open PySem PySem.Spec PyProof.Rows
theorem vF:∀ {xs:List V}{us:List Value} (i:Nat),i < xs.length->aL xs us->aS (xs.getD i .non) (us.getD i Value.none)
 | _,_,_,h,.nil=>by simp at h
 | _,_,0,_,.cons r _=>by simpa using r
 | _,_,i+1,h,.cons _ t=>by
  have:=vF i (by simpa using h) t
  simpa using this
theorem pX {α:Type}:∀ l:List α,(l.zip l).map (·.2)=l
 | []=>rfl
 | a :: l=>by
  show a :: ((l.zip l).map (·.2))=a :: l
  rw [pX l]
theorem G9 {prog:Program}{w:World}{A:Around}{E:Value->Shared->Prop}{s:Shared}{a:Addr}{vs:List Value}{n:Nat}{P:PySem.Fin->Shared->Prop} (e:s.heap.get? a=some (seqObj "list" vs.toArray n)) (few:vs.length < 2)
  (q:P (.done (.ret .none)) { s with heap:=sortedHeap s.heap a vs vs.toArray }):wpAny (model prog w) A (Builtin.«list.sort» ⟨[.ref a],[]⟩) P E s:=by
 have big:vs.length<=sizeLine:=bm4 (bp9 few) (by decide)
 have la:=bi4 e
 have c:vs.toArray.size < 2:=by simpa using few
 have same:(arrOf (SortSt.mk' general' (vs.toArray.zip vs.toArray) #[] 7 none)).map (·.2)=vs.toArray:=by
  change (vs.toArray.zip vs.toArray).map (·.2)=vs.toArray
  apply Array.ext'
  simpa using pX vs
 obtain ⟨k,ek⟩:∃ k,(s.heap.update a (Obj.mapSeq fun _=>#[])).get? a=some (seqObj "list" #[] k):=⟨_,get?_update_seq e fun _=>#[]⟩
 have there:(((s.heap.update a (Obj.mapSeq fun _=>#[])).push (seqObj "tuple" vs.toArray 0)).push (seqObj "list" #[] 0)).get? a=some (seqObj "list" #[] k):=
  bh1 _ (bh1 _ ek)
 rw [list_sort_plain]
 apply bh0
 apply listItems_at e rfl
 apply bh0
 refine listUpdate_at e rfl ?_ (by simpa using big) (bn5 _)
 apply bh0
 apply seqEpoch_at ek rfl
 apply bh0
 refine wpAny_newTuple ?_ big
 apply bh0
 refine wpAny_newList ?_ (bn5 _)
 apply bp7
 simp only [c,if_true,StateT.run_pure]
 apply bh0
 apply bh6
 apply bh0
 apply bh6
 apply bh0
 apply seqEpoch_at there rfl
 apply bh0
 refine listUpdate_at there rfl ?_ (bn5 _) (by rw [same,bh3]; exact Nat.le_succ_of_le big)
 rw [same]
 simp only [bne_self_eq_false,bk7,bq8]
 exact bh6 q
theorem aw1 {prog:Program}{w:World}{A:Around}{E:Value->Shared->Prop}{s:Shared}{l:Addr}{vs:List Value}{Q:Value->Shared->Prop} (hl:s.heap.IsList l vs.toArray) (few:vs.length < 2)
  (q:Q (.ref (s.heap.objs.size+1)) { s with heap:=sortedAll s.heap vs vs.toArray }):wpAny (model prog w) A (call (.builtin "sorted") [.ref l]) Q E s:=by
 have big:vs.length<=sizeLine:=bm4 (bp9 few) (by decide)
 apply Calls.call_function_entry kind_sorted plain_sorted entry_sorted (args_sorted1 _)
 simp only [Builtin.«sorted»]
 apply bh0 (m:=checkCount "sorted" 1 1 _)
 apply bh6
 apply bh0
 refine collect_list hl ?_ big
 apply bh0
 refine wpAny_newList ?_ big
 have one:((s.heap.push (seqObj "list" #[] 0)).update s.heap.objs.size (Obj.mapSeq (· ++ vs.toArray))).objs.size=s.heap.objs.size+1:=(Heap.size_update _ _ _).trans (size_push' _ _)
 have at1:(((s.heap.push (seqObj "list" #[] 0)).update s.heap.objs.size (Obj.mapSeq (· ++ vs.toArray))).push (seqObj "list" vs.toArray 0)).get? (s.heap.objs.size+1)=some (seqObj "list" vs.toArray 0):=one ▸ bj1 _ rfl
 change wpAny _ _ _ _ _ { s with heap:=((s.heap.push (seqObj "list" #[] 0)).update s.heap.objs.size (Obj.mapSeq (· ++ vs.toArray))).push (seqObj "list" vs.toArray 0) }
 rw [one]
 apply bh0
 apply bp7
 refine bn8 slot_list_sort ⟨_,at1,rfl⟩ entry_list_sort ?_ (args_list_sort _)
 refine G9 at1 few ⟨_,rfl,?_⟩
 exact bh6 ⟨_,rfl,q⟩
def J0 (H:Hp):V->List Int
 | .ref b=>match H b with
  | some (.tup xs)=>xs.map fun x=>match x with
   | .int i=>i
   | _=>0
  | _=>[]
 | _=>[]
section
variable {prog : Program} {w : World} {A : Around} {s : Shared} {Q : Bool → Shared → Prop}
theorem J1:∀ {us ws:List Value}{xs ys:List Int} (i:Nat),IntsAre us xs->IntsAre ws ys->Q (HT.cA xs ys) s->PySem.W.KatLex prog w A true (decide (us.length < ws.length)) Q (us.zip ws) i s
 | _,_,_,_,_,.nil,.nil,h=>h
 | _,_,_,_,_,.nil,.cons _ _ _,h=>h
 | _,_,_,_,_,.cons _ _ _,.nil,h=>h
 | _,_,_,_,i,.cons (vs:=us) x t hx,.cons (vs:=ws) y u hy,h=>by
  refine PySem.W.kat_cons (wpAny_eqBool_int ?_)
  rw [HT.iK] at h
  by_cases e:x=y
  ·rw [if_pos e] at h
   have eb:(x == y)=true:=by simpa using e
   rw [eb]
   refine PySem.W.kat_yes ?_
   have e2:decide ((Value.int x t :: us).length < (Value.int y u :: ws).length)=decide (us.length < ws.length):=by simp
   rw [e2]
   exact J1 (i+1) hx hy h
  ·rw [if_neg e] at h
   have eb:(x == y)=false:=by simpa using e
   rw [eb]
   refine PySem.W.kat_no ?_
   cases hi:(true && i == 0) with
   | true=>exact PySem.W.kat_lt_int h
   | false=>exact PySem.W.kat_one _ _ (lt_int h)
end
end L2
namespace Raw
open PySem PySem.W PySem.Calls PyProof.Rows
def fU (h:Heap) (d:Addr) (es:Array DictEntry) (ep:Nat):Prop:=∃ o,h.get? d=some o/\o.ExactDict/\o.data = .dict es ep
theorem fU.ty {s:Shared}{d:Addr}{es:Array DictEntry}{ep:Nat} (x:fU s.heap d es ep):s.TypeIs (.ref d) "dict":=x.elim fun o y=>⟨o,y.1,y.2.1.1⟩
theorem fU.lt {h:Heap}{d:Addr}{es:Array DictEntry}{ep:Nat} (x:fU h d es ep):d < h.objs.size:=x.elim fun _ y=>bi4 y.1
theorem fU.keep {h h':Heap}{d:Addr}{es:Array DictEntry}{ep:Nat} (x:fU h d es ep) (k:∀ o,h.get? d=some o->h'.get? d=some o):fU h' d es ep:=x.elim fun o y=>⟨o,k o y.1,y.2⟩
section
variable {prog : Program} {w : World} {A : Around} {E : Value → Shared → Prop} {s : Shared} {d it : Addr} {es : Array DictEntry} {ep i : Nat}
theorem made (far:(d == sysModules)=false) (x:fU s.heap d es ep) {Q:Value->Shared->Prop}
  (q:Q (.ref s.heap.objs.size) { s with heap:=s.heap.push { cls:=.type "dict_keyiterator",data:=.fields #[.ref d,.int 0 0,.int es.size 0,.int ep 0] } }):wpAny (model prog w) A (pyIter (.ref d)) Q E s:=by
 have T:=x.ty
 obtain ⟨o,e1,e2,e3⟩:=x
 apply wpAny_pyIter_slot T PySem.F.slot_dict_iter
 apply bn8 PySem.F.slot_dict_iter T PySem.F.entry_dict_iter _ (PySem.F.args_dict_iter_1 _)
 simp only [Builtin.«dict.__iter__»,Builtin.Dict.dictSlotNone]
 apply bh0
 apply bh0
 apply wpAny_notOrdered_dict T
 apply bh6
 change wpAny _ _ (Builtin.Dict.showsAll d >>= _) _ _ s
 have far':Builtin.Dict.showsAll d=pure ():=by
  unfold Builtin.Dict.showsAll
  simp only [far,bk7,bq8]
 rw [far',pure_bind]
 apply bh0
 apply wpAny_dictEntries e1 e3
 apply bh0
 apply wpAny_dictEpoch e1 e3
 apply bh0
 refine bp8 (bh6 ?_)
 refine⟨.ref s.heap.objs.size,rfl,"dict_keyiterator",_,⟨_,bj1 _ rfl,rfl⟩,PySem.F.slot_dict_keyiterator_next.lookup,?_⟩
 simpa only [rawInt] using q
theorem turn (hh:A.handled=none) (hi:s.heap.IsKeyIter it d i es.size ep) (x:fU s.heap d es ep) {Q:Option Value->Shared->Prop}
  (yes:∀ (lt:i < es.size) h',h'.IsKeyIter it d (i+1) es.size ep->Heap.SameBut it s.heap h'->Q (some es[i].key) { s with heap:=h' })
  (no:es.size<=i->∀ h',Heap.ExtBut it s.heap h'->Q none { s with heap:=h' }):wpAny (model prog w) A (pyNext (.ref it)) Q E s:=by
 have T:=hi.typeIs
 obtain ⟨oi,f1,f2,f3⟩:=hi
 obtain ⟨o,e1,e2,e3⟩:=x
 have slot:=PySem.F.slot_dict_keyiterator_next
 have plain:Builtin.Dict_items.ownsTuple "dict_keyiterator" = false:=by decide
 have isref:(Value.ref d == Value.none)=false:=rfl
 have nn : ¬ (i:Int) < 0:=by omega
 unfold pyNext
 apply bh0
 apply wpAny_attempt
 apply bo1 (name:=Str.ofString "__next__") T slot
 apply bn8 slot T PySem.F.entry_dict_keyiterator_next _ (PySem.F.args_dict_keyiterator_next_1 _)
 apply bh0
 apply bh6
 apply bh0
 apply bh0
 apply bh0
 first
  | apply wpAny_typeNameOfWhole_keyiter T
  | apply wpAny_typeNameOf_keyiter T
 apply bh6
 apply bh0
 apply wpAny_fieldsOf f1 f3
 simp only [plain,bk7,bq8]
 change wpAny _ _ (if (Value.ref d == Value.none)=true then _ else _) _ _ s
 have adr:Builtin.Dict_items.addrOf (Value.ref d)=pure d:=rfl
 simp only [isref,bk7,bq8,adr,pure_bind]
 apply bh0
 apply wpAny_dictEntries e1 e3
 simp only [bne_self_eq_false,bk7,bq8]
 apply bh0
 apply wpAny_dictEpoch e1 e3
 simp only [bne_self_eq_false,bk7,bq8]
 apply bh6
 simp only [nn,bq8,Int.toNat_natCast]
 by_cases lt:i < es.size
 ·simp only [Array.getElem?_eq_getElem lt]
  apply bh0
  apply bh0
  first
   | apply wpAny_typeNameOfWhole_keyiter T
   | apply wpAny_typeNameOf_keyiter T
  apply bh6
  apply bh0
  apply wpAny_isOneOf_keyiter T
  change wpAny _ _ (setField (.ref it) 1 (rawInt ((i:Int)+1)) >>= _) _ _ s
  apply bh0
  refine wpAny_setField f1 f3 (by simp) ?_
  have again:(s.heap.update it (Obj.mapFields (·.setIfInBounds 1 (rawInt ((i:Int)+1))))).IsKeyIter it d (i+1) es.size ep:=by
   refine⟨_,Heap.get?_update_self _ f1 (Obj.isFreed_of_fields (Obj.data_mapFields f3 _)),?_,?_⟩
   ·rw [Obj.cls_mapFields]; exact f2
   ·rw [Obj.data_mapFields f3]; simp [rawInt]
  apply bh0
  apply bp7
  apply bh0
  refine wpAny_isOneOf_keyiter (s:={ s with heap:=s.heap.update it (Obj.mapFields (·.setIfInBounds 1 (rawInt ((i:Int)+1)))) }) again.typeIs ?_
  change wpAny _ _ (pure es[i].key) _ _ _
  apply bh6
  apply bh6
  exact⟨es[i].key,rfl,bh6 (yes lt _ again (bu7 ..))⟩
 ·have ge:es.size<=i:=bv1 lt
  simp only [Array.getElem?_eq_none ge]
  apply bh0
  apply bh0
  first
   | apply wpAny_typeNameOfWhole_keyiter T
   | apply wpAny_typeNameOf_keyiter T
  apply bh6
  change wpAny _ _ (setField (.ref it) 0 .none >>= _) _ _ s
  apply bh0
  refine wpAny_setField f1 f3 (by simp) ?_
  apply bh0
  simp only [newExc,newTuple]
  apply bh0
  refine bp8 ?_ (by size_fits)
  apply bh0
  refine wpAny_of_eq (a:=Value.none) (by first | rfl | (simp only [firstArgMember]; rfl)) ?_
  refine bp8 ?_ (by size_fits)
  unfold raiseNew
  apply bh0
  apply wpAny_handled
  have quiet:A.in1.handled=none:=hh
  rw [quiet]
  refine wpAny_throw ?_
  apply bh0
  refine wpAny_isInstance (T:="StopIteration") (b:=true) ⟨_,bj1 _ rfl,rfl⟩ isSubtype_stop ?_
  exact bh6 (no ge _ (((bu7 ..).extBut.push _).push _))
theorem aw2 (hh:A.handled=none) (ne:d ≠ it):Walks prog w A it [it,d] [it] es.size (fun i v=>∃ lt:i < es.size,es[i].key=v) (fun i h=>h.IsKeyIter it d i es.size ep/\fU h d es ep) where
 sub:=by intro b hb; rw [bi1.mp hb]; exact bi6
 frame:=by
  intro i h h' st hk
  exact⟨st.1.at (hk it bi6),st.2.keep (hk d (bi7 _ bi6))⟩
 item:=by
  intro i s Q E lt st hQ
  refine turn hh st.1 st.2 (fun lt' h' again sb=>?_) fun ge=>absurd lt (Nat.not_lt.mpr ge)
  exact hQ _ h' s.toks ⟨lt',rfl⟩ ⟨again,st.2.keep fun o e=>sb.extBut d o ne e⟩ fun b o hb e=>sb.extBut b o (fun z=>hb (bi1.mpr z)) e
 done:=by
  intro s Q E st hQ
  refine turn hh st.1 st.2 (fun lt=>absurd lt (bo2 _)) fun _ h' eb=>?_
  exact hQ h' s.toks fun b o hb e=>eb b o (fun z=>hb (bi1.mpr z)) e
 self:=by intro i s Q E st hQ; exact wpAny_pyIter_keyiter st.1 hQ
theorem J2 (far:(d == sysModules)=false):KdlSrc prog w "dict" d d es.size (fun i v=>∃ lt:i < es.size,es[i].key=v) (fun h=>fU h d es ep) where
 type:=fun _ x=>x.ty
 there:=fun _ x=>⟨x.lt,x.lt⟩
 keep:=fun _ _ x k=>x.keep (k d (.inl rfl))
 notList:=by decide
 notTuple:=by decide
 hint:=fun _ _ _ _ x q=>kdl_hint_dict x.ty q
 iter:=fun _ _ hh x=>⟨_,_,fun _ _ q=>made far x q,aw2 hh (bk6 x.lt),⟨_,bj1 _ rfl,rfl,rfl⟩,x.keep fun o e=>bh1 _ e⟩
end
end Raw
namespace L2
open PySem PySem.Spec PyProof.Rows
section
variable {X : Cx} {pins : List (Addr × Obj)} {σ : St} {H : Hp} {s : Shared} {a : Addr}
def k9 (H:Hp) (y:V) (k:List aC):Prop:=∃ q,y = .ref q/\H q=some (.tup (k.map kV))
theorem aw3 {kvs:List (aC × V)} (I:a8 X pins σ H s) (h:H a=some (.dK kvs)):∃ es ep,Raw.fU s.heap a es ep/\(a == sysModules)=false/\aL (kvs.map fun p=>kV p.1) (es.toList.map (·.key))/\kvs.length<=sizeLine:=by
 obtain ⟨z,far,vs,rel,o,es,ep,e1,e2,e3,kk,pr,nd⟩:=(show c7 X.prog X.w H s.heap a (.dK kvs) from I.hok a _ h)
 refine⟨es,ep,⟨o,e1,e2,e3⟩,far,?_,z⟩
 clear z far e1 e2 e3 kk nd h
 generalize es.toList=l at pr
 induction pr generalizing kvs with
 | nil=>cases rel; exact .nil
 | @cons e k es' kvs' h1 h2 _ ih=>
  cases rel with
  | @cons p q ps qs r rs=>
   refine .cons ?_ (ih rs)
   obtain ⟨r1,_⟩:=r
   show aS (kV p.1) e.key
   rw [r1]
   rcases iE h1 with ⟨n,t,e4,e5⟩ | ⟨x,t,e4,e5⟩
   ·rw [e4,e5]; exact⟨t,rfl⟩
   ·rw [e4,e5]; exact⟨t,rfl⟩
theorem aw4 {kvs:List (List aC × V)} (I:a8 X pins σ H s) (h:H a=some (.dT kvs)):∃ es ep ys,Raw.fU s.heap a es ep/\(a == sysModules)=false/\Paired (k9 H) ys (kvs.map (·.1))/\aL ys (es.toList.map (·.key))/\kvs.length<=sizeLine:=by
 obtain ⟨z,far,xs,rel,o,es,ep,e1,e2,e3,e4,nd⟩:=(show c7 X.prog X.w H s.heap a (.dT kvs) from I.hok a _ h)
 refine⟨es,ep,xs.map fun q=>V.ref q.2.1,⟨o,e1,e2,e3⟩,far,?_,?_,z⟩
 ·clear e4 nd h z
  induction rel with
  | nil=>exact .nil
  | cons r rs ih=>exact .cons ⟨_,rfl,r.2.1⟩ ih
 ·rw [e4]
  clear rel e4 nd
  induction xs with
  | nil=>exact .nil
  | cons q qs ih=>exact .cons rfl ih
theorem vG {es:Array DictEntry}{acc:Array Value} (h:ItemsOf (fun i v=>∃ lt:i < es.size,es[i].key=v) acc es.size):acc.toList=es.toList.map (·.key):=by
 apply List.ext_getElem?
 intro j
 have h1:=h.1
 by_cases hj:j < es.size
 ·have hj':j < acc.size:=by rw [h1]; exact hj
  obtain ⟨_,e⟩:=h.2 j acc[j] (by simp [hj'])
  rw [bj5]
  simp [hj,hj',e]
 ·have hj' : ¬ j < acc.size:=by rw [h1]; exact hj
  rw [bj5]
  simp [bv1 hj,bv1 hj']
end
section
variable {X : Cx}
theorem aw5:dA X (.builtin "isinstance") (fun xs H Q=>∃ x t n b,xs = [x,.ty n]/\fI X.K H x t/\PySem.W.kitOne X.K t (.type n)=some b/\Q (.bl b) H):=by
 intro pins s σ H xs us Q I r h
 obtain ⟨x,t,n,b,rfl,ty,e,q⟩:=h
 obtain ⟨u,u',rfl,ru,ru'⟩:=nH r
 cases ru'
 exact ao3 I ru ty e fun tk=>⟨.bl b,H,I.tok tk,rfl,q⟩
end
def J3 (outer:List (Str × NameKind)) (XN:List Str) (names:List (Str × NameKind)) (N:List Str) (fr:List (Option Nat)):Bool:=
 names.all (fun y=>!(y.2 == .cell) || names.lookup y.1 == some .cell) && names.all (fun y=>!(y.2 == .local) || names.lookup y.1 == some .local) &&
 names.all (fun y=>!(y.2 == .free) || (outer.lookup y.1 == some .cell || outer.lookup y.1 == some .free)) && fr.length == N.length &&
 (fr.zip N).all (fun p=>match p.1 with
  | none=>true
  | some j=>XN[j]? == some p.2 && names.lookup p.2 == some .free)
theorem dJ.of {X:Cx}{scope:Scope}{N:List Str}{fr:List (Option Nat)} (hk:scope.kind = .function) (h:J3 X.env.scope.names X.N scope.names N fr=true):dJ X scope N fr:=by
 unfold J3 at h
 simp only [bm9] at h
 obtain ⟨⟨⟨⟨h1,h2⟩,h3⟩,h4⟩,h5⟩:=h
 refine⟨hk,fun y hy e=>?_,fun y hy e=>?_,fun y hy e=>?_,by simpa using h4,fun i j e=>?_⟩
 ·have:=bq4.mp h1 y hy
  rw [e] at this; simpa using this
 ·have:=bq4.mp h2 y hy
  rw [e] at this; simpa using this
 ·have:=bq4.mp h3 y hy
  rw [e] at this; simpa using this
 ·have hl:fr.length=N.length:=by simpa using h4
  have hi:i < fr.length:=(bi3.mp e).1
  have m:(some j,N[i]'(by omega)) ∈ fr.zip N:=by
   have:(fr.zip N)[i]? = some (some j,N[i]'(by omega)):=by
    rw [List.getElem?_zip_eq_some]
    exact⟨e,by simp⟩
   exact bn6 this
  have:=bq4.mp h5 _ m
  simp only [bm9,beq_iff_eq] at this
  exact⟨N[i]'(by omega),by simp,this.1,this.2⟩
theorem wk0 {n:Option V}{r:St}{v:V}:Wk (none :: r) (some v :: r):=(Wk.refl (none :: r)).set (i:=0) rfl
def lU (H:Hp) (ys:List V) (ls:List (Int × Int)):Prop:=Paired (fun y l=>∃ b,y = .ref b/\H b=some (.tup [.int l.1,.int l.2])) ys ls
structure J4 (H:Hp) (v:V) (ws:List Int) (ls:List (Int × Int)):Prop where
 at_:∃ a p q ys,v = .ref a/\H a=some (.tup [.ref p,.ref q])/\H p=some (.tup (ws.map V.int))/\H q=some (.tup ys)/\lU H ys ls
theorem lU.get {H:Hp}:∀ {ys:List V}{ls:List (Int × Int)}{i:Nat}{y:V},lU H ys ls->ys[i]? = some y->∃ l b,ls[i]? = some l/\y = .ref b/\H b=some (.tup [.int l.1,.int l.2])
 | _,_,_,_,.nil,e=>by simp at e
 | _,_,0,_,.cons (b:=l) ⟨b,h1,h2⟩ _,e=>by simp at e; subst e; exact⟨l,b,rfl,h1,h2⟩
 | _,_,i+1,_,.cons _ t,e=>by
  obtain ⟨l,b,h1,h2⟩:=lU.get (i:=i) t (by simpa using e)
  exact⟨l,b,by simpa using h1,h2⟩
def bD (ls:List (Int × Int)) (k:Int):List Int:=ls.flatMap fun l=>(if l.1=k then [l.2] else []) ++ (if l.2=k then [l.1] else [])
theorem aw6 (ls:List (Int × Int)) (l:Int × Int) (k:Int):bD (ls ++ [l]) k=bD ls k ++ ((if l.1=k then [l.2] else []) ++ (if l.2=k then [l.1] else [])):=by
 unfold bD; rw [List.flatMap_append]; simp
theorem aw7 {ls:List (Int × Int)}{i:Nat}{l:Int × Int} (h:ls[i]? = some l) (k:Int):bD (ls.take (i+1)) k=bD (ls.take i) k ++ ((if l.1=k then [l.2] else []) ++ (if l.2=k then [l.1] else [])):=by
 rw [bl5,h]; exact aw6 _ _ _
structure jE (H H':Hp) (r:Addr) (bs:List Addr) (f:Nat->List Int):Prop where
 new:H r=none
 news:∀ b ∈ bs,H b=none/\b ≠ r
 nd:bs.Nodup
 row:H' r=some (.lst (bs.map V.ref))
 rows:∀ (k:Nat) (b:Addr),bs[k]? = some b->H' b=some (.lst ((f k).map V.int))
 same:aG H H'
theorem jE.congr {H H':Hp}{r:Addr}{bs:List Addr}{f g:Nat->List Int} (h:jE H H' r bs f) (e:∀ k,k < bs.length->f k=g k):jE H H' r bs g:=
 ⟨h.new,h.news,h.nd,h.row,fun k b hb=>by rw [<- e k (bi3.mp hb).1]; exact h.rows k b hb,h.same⟩
theorem jE.app {H H':Hp}{r:Addr}{bs:List Addr}{f:Nat->List Int} (h:jE H H' r bs f) {k:Nat}{b:Addr} (hb:bs[k]? = some b) (x:Int) :
  jE H (upd H' b (.lst ((f k).map V.int ++ [V.int x]))) r bs (fun j=>if j=k then f j ++ [x] else f j):=by
 have hm:b ∈ bs:=bn6 hb
 refine⟨h.new,h.news,h.nd,by rw [aW (Ne.symm (h.news b hm).2)]; exact h.row,fun j c hc=>?_,fun c o e=>by rw [aW (cY e (h.news b hm).1)]; exact h.same c o e⟩
 by_cases hj:j=k
 ·subst hj
  rw [hb] at hc; cases hc
  rw [bO,if_pos rfl]; simp
 ·rw [if_neg hj]
  have ne:c ≠ b:=fun z=>by
   subst z
   obtain ⟨i1,e1⟩:=bi3.mp hb
   obtain ⟨i2,e2⟩:=bi3.mp hc
   refine hj (Nat.le_antisymm (bv1 fun z=>?_) (bv1 fun z=>?_))
   ·exact bn3.mp h.nd _ _ i1 i2 z (e1.trans e2.symm)
   ·exact bn3.mp h.nd _ _ i2 i1 z (e2.trans e1.symm)
  rw [aW ne]; exact h.rows j c hc
theorem vH (ls:List (Int × Int)) (k:Int):(bD ls k).length<=2 * ls.length:=by
 induction ls with
 | nil=>exact bh7 _
 | cons l r ih=>
  have e:bD (l :: r) k=((if l.1=k then [l.2] else []) ++ (if l.2=k then [l.1] else [])) ++ bD r k:=rfl
  rw [e,bi0,bi0,bm5]
  have h1:(if l.1=k then [l.2] else []).length<=1:=by split <;> simp
  have h2:(if l.2=k then [l.1] else []).length<=1:=by split <;> simp
  omega
theorem pY {α:Type}{xs:List α}{i:Int}{v:α} (h0:0<=i) (h:xs[i.toNat]? = some v):atI xs i=some v:=by
 have:=pP h
 rwa [show ((i.toNat:Nat):Int)=i by omega] at this
theorem kA {n:Nat} (h:n<=16000000):n < sizeLine:=by rw [sizeLine_eq]; omega
theorem aw8 {σ:St}{H:Hp}{A B:Hp->Prop} (h:A H):v8 σ H fun b H4=>if b=true then A H4 else B H4:=by
 show if true=true then A H else B H
 rw [if_pos rfl]; exact h
theorem pZ {K:PySem.W.Frag}{H:Hp}{p:Addr}{xs:List V} (h:aR K H p xs):gK K "list" (.ref p) H:=.inl ⟨rfl,xs,h⟩
def nM (H:Hp) (y:V):Int × Int:=match J0 H y with
 | [a,b]=>(a,b)
 | _=>(0,0)
theorem qA {H:Hp}:∀ {zs:List V},(∀ y ∈ zs,∃ b,y = .ref b/\H b=some (.tup [.int (nM H y).1,.int (nM H y).2])/\J0 H y = [(nM H y).1,(nM H y).2])->lU H zs (zs.map (nM H))
 | [],_=>.nil
 | y :: zs,h=>by
  obtain ⟨b,e,hb,_⟩:=h y bi6
  exact .cons ⟨b,e,hb⟩ (qA fun z hz=>h z (bi7 _ hz))
theorem vI {l:Int × Int}{k x:Int}:x ∈ (if l.1=k then [l.2] else []) ++ (if l.2=k then [l.1] else []) ↔ (l.1=k/\x=l.2) ∨ (l.2=k/\x=l.1):=by
 rw [bk4]
 by_cases h1:l.1=k <;> by_cases h2:l.2=k <;> simp [h1,h2]
theorem vJ {ls:List (Int × Int)}{k x:Int}:x ∈ bD ls k ↔ (k,x) ∈ ls ∨ (x,k) ∈ ls:=by
 unfold bD
 rw [List.mem_flatMap]
 constructor
 ·rintro ⟨l,hl,hx⟩
  rcases vI.mp hx with ⟨h1,h2⟩ | ⟨h1,h2⟩
  ·left; rw [<- h1,h2]; exact hl
  ·right; rw [<- h1,h2]; exact hl
 ·rintro (h | h)
  ·exact⟨_,h,vI.mpr (.inl ⟨rfl,rfl⟩)⟩
  ·exact⟨_,h,vI.mpr (.inr ⟨rfl,rfl⟩)⟩
end L2
namespace Zp
open PySem PyProof.Rows
section
variable {prog : Program} {w : World} {A : Around} {E : Value → Shared → Prop} {s : Shared}
theorem J5 {it t:Addr}{i:Nat}{items:Array Value}{x:Value}{Q:Value->Shared->Prop} (hi:s.heap.IsTupleIter it t i) (ht:s.heap.IsTuple t items) (hx:items[i]? = some x)
  (q:∀ h',h'.IsTupleIter it t (i+1)->Heap.SameBut it s.heap h'->Q x { s with heap:=h' }):wpAny (model prog w) A (Builtin.SmallTypes.nextOf (.ref it)) Q E s:=by
 have T:=hi.typeIs
 obtain ⟨o,e1,e2,e3⟩:=hi
 obtain ⟨u,f1,_,k,f3⟩:=ht
 have slot:=PySem.F.slot_tuple_iterator_next
 have isref:(Value.ref t == Value.none)=false:=rfl
 unfold Builtin.SmallTypes.nextOf
 apply bh0
 apply bo1 (name:=Str.ofString "__next__") T slot
 apply bn8 slot T PySem.F.entry_tuple_iterator_next _ (PySem.F.args_tuple_iterator_next_1 _)
 change wpAny _ _ (field (.ref it) 0 >>= _) _ _ s
 apply bh0
 refine bo0 e1 e3 (x:=.ref t) rfl ?_
 change wpAny _ _ (if (Value.ref t == Value.none)=true then _ else _) _ _ s
 simp only [isref,bk7,bq8]
 change wpAny _ _ (field (.ref it) 1 >>= _) _ _ s
 apply bh0
 refine bo0 e1 e3 (x:=.int i 0) rfl ?_
 change wpAny _ _ (seqItems? (.ref t) >>= _) _ _ s
 apply bh0
 apply bv6 f1 f3
 simp only [Int.toNat_natCast,hx]
 apply bh0
 refine wpAny_setField e1 e3 (by simp) ?_
 apply bh6
 refine⟨x,rfl,bh6 (q _ ⟨_,Heap.get?_update_self _ e1 (Obj.isFreed_of_fields (Obj.data_mapFields e3 _)),?_,?_⟩ (bu7 ..))⟩
 ·rw [Obj.cls_mapFields]; exact e2
 ·rw [Obj.data_mapFields e3]; simp [rawInt]
theorem J6 {it t:Addr}{i:Nat}{items:Array Value}{Q:Value->Shared->Prop} (hh:A.handled=none) (hi:s.heap.IsTupleIter it t i) (ht:s.heap.IsTuple t items) (hx:items[i]? = none)
  (q:∀ h' e,Heap.ExtBut it s.heap h'->(∃ o,h'.get? e=some o/\o.cls = .type "StopIteration")->E (.ref e) { s with heap:=h' }):wpAny (model prog w) A (Builtin.SmallTypes.nextOf (.ref it)) Q E s:=by
 have T:=hi.typeIs
 obtain ⟨o,e1,e2,e3⟩:=hi
 obtain ⟨u,f1,_,k,f3⟩:=ht
 have slot:=PySem.F.slot_tuple_iterator_next
 have isref:(Value.ref t == Value.none)=false:=rfl
 unfold Builtin.SmallTypes.nextOf
 apply bh0
 apply bo1 (name:=Str.ofString "__next__") T slot
 apply bn8 slot T PySem.F.entry_tuple_iterator_next _ (PySem.F.args_tuple_iterator_next_1 _)
 change wpAny _ _ (field (.ref it) 0 >>= _) _ _ s
 apply bh0
 refine bo0 e1 e3 (x:=.ref t) rfl ?_
 change wpAny _ _ (if (Value.ref t == Value.none)=true then _ else _) _ _ s
 simp only [isref,bk7,bq8]
 change wpAny _ _ (field (.ref it) 1 >>= _) _ _ s
 apply bh0
 refine bo0 e1 e3 (x:=.int i 0) rfl ?_
 change wpAny _ _ (seqItems? (.ref t) >>= _) _ _ s
 apply bh0
 apply bv6 f1 f3
 simp only [Int.toNat_natCast,hx]
 apply bh0
 apply bu5
 apply bh0
 refine wpAny_setField e1 e3 (by simp) ?_
 apply bh0
 simp only [newExc,newTuple]
 apply bh0
 refine bp8 ?_ (by size_fits)
 apply bh0
 refine wpAny_of_eq (a:=Value.none) (by first | rfl | (simp only [firstArgMember]; rfl)) ?_
 refine bp8 ?_ (by size_fits)
 unfold raiseNew
 apply bh0
 apply wpAny_handled
 have quiet:A.in1.handled=none:=hh
 rw [quiet]
 refine wpAny_throw ?_
 exact q _ _ (((bu7 ..).extBut.push _).push _) ⟨_,bj1 _ rfl,rfl⟩
theorem aw9 (hh:A.handled=none) (it t:Addr) (ne:t ≠ it) (items:Array Value):Draws prog w A it [it,t] items.size (fun i v=>items[i]? = some v) (fun i h=>h.IsTupleIter it t i/\h.IsTuple t items) where
 live:=fun _ _ st=>st.1.elim fun o y=>⟨o,y.1⟩
 frame:=fun _ _ _ st k=>⟨st.1.at fun o e=>k it bi6 o e,st.2.elim fun o y=>⟨o,k t (bi7 _ bi6) o y.1,y.2⟩⟩
 item:=fun i s Q E lt st q=>J5 st.1 st.2 (Array.getElem?_eq_getElem lt) fun h' again sb=>q _ h' s.toks (Array.getElem?_eq_getElem lt) ⟨again,st.2.elim fun o y=>⟨o,sb.extBut t o ne y.1,y.2⟩⟩ sb
 done:=fun s Q E st q=>J6 hh st.1 st.2 (Array.getElem?_eq_none (bh7 _)) q
end
structure Ap (z TI TO i1 i2:Addr) (fp1 fp2:List Addr):Prop where
 TIz:TI ≠ z
 TOz:TO ≠ z
 TITO:TI ≠ TO
 z1:z ∉ fp1
 z2:z ∉ fp2
 o1:TO ∉ fp1
 o2:TO ∉ fp2
 t1:TI ∉ fp1
 t2:TI ∉ fp2
 m1:i1 ∈ fp1
 m2:i2 ∈ fp2
 n1:i1 ∉ fp2
 n2:i2 ∉ fp1
structure vK (z TI TO i1 i2:Addr) (St1 St2:Nat->Heap->Prop) (f0:Value) (i j:Nat) (h:Heap):Prop where
 zz:IsZip h z TI TO f0
 ti:IsPair h TI (.ref i1) (.ref i2)
 to_:∃ a b,IsPair h TO a b
 s1:St1 i h
 s2:St2 j h
section
variable {prog : Program} {w : World} {A : Around} {E : Value → Shared → Prop} {s : Shared} {z TI TO i1 i2 : Addr} {fp1 fp2 : List Addr} {n1 n2 : Nat} {P1 P2 : Nat → Value → Prop} {St1 St2 : Nat → Heap → Prop}
theorem lV (ap:Ap z TI TO i1 i2 fp1 fp2) {b:Addr} (h:b ∉ fp1):b ≠ i1:=fun e=>h (e ▸ ap.m1)
theorem qB (ap:Ap z TI TO i1 i2 fp1 fp2) {b:Addr} (h:b ∉ fp2):b ≠ i2:=fun e=>h (e ▸ ap.m2)
theorem item (D1:Draws prog w A.in1 i1 fp1 n1 P1 St1) (D2:Draws prog w A.in1 i2 fp2 n2 P2 St2) (ap:Ap z TI TO i1 i2 fp1 fp2) {i:Nat} (l1:i < n1) (l2:i < n2) (st:vK z TI TO i1 i2 St1 St2 .none i i s.heap) {Q:Option Value->Shared->Prop}
  (q:∀ x y h' tk,P1 i x->P2 i y->vK z TI TO i1 i2 St1 St2 (rawInt s.heap.objs.size) (i+1) (i+1) h'->IsPair h' s.heap.objs.size x y->(∀ c o,c ≠ z->c ≠ TO->c ≠ i1->c ≠ i2->s.heap.get? c=some o->h'.get? c=some o)->
   h'.objs.size=s.heap.objs.size+1->Q (some (.ref s.heap.objs.size)) { s with heap:=h',toks:=tk }):wpAny (model prog w) A (pyNext (.ref z)) Q E s:=by
 obtain ⟨hz,hti,⟨a,b,hto⟩,h1,h2⟩:=st
 have T:s.TypeIs (.ref z) "zip":=⟨_,hz,rfl⟩
 have slot:=PySem.F.slot_zip_next
 unfold pyNext
 apply bh0
 apply wpAny_attempt
 apply bo1 (name:=Str.ofString "__next__") T slot
 apply bn8 slot T PySem.F.entry_zip_next _ (PySem.F.args_zip_next_1 _)
 change wpAny _ _ (field (.ref z) 2 >>= _) _ _ _
 apply bh0
 refine bo0 hz rfl (x:=.bool false) rfl ?_
 change wpAny _ _ (field (.ref z) 3 >>= _) _ _ _
 apply bh0
 refine bo0 hz rfl (x:=.ref TI) rfl ?_
 apply bh0
 apply bv6 hti rfl
 change wpAny _ _ (Builtin.SmallTypes.ownedTupleIsFree (.ref z) >>= _) _ _ _
 apply bh0
 unfold Builtin.SmallTypes.ownedTupleIsFree
 apply bh0
 refine bo0 hz rfl (x:=.none) rfl (bh6 ?_)
 simp only [if_true]
 apply bh0
 apply bu5
 apply bh0
 refine bo0 hz rfl (x:=.ref TO) rfl ?_
 apply bh0
 refine bo9 hz (by simp) fun g1 hz1 sb1=>?_
 have k1:∀ c o,c ≠ z->s.heap.get? c=some o->g1.get? c=some o:=fun c o c1 e=>sb1.extBut c o c1 e
 apply bh0
 simp only [List.zipIdx_cons,List.zipIdx_nil,List.forIn_cons,List.forIn_nil]
 apply bh0
 apply bh0
 apply wpAny_onRaise
 change wpAny _ _ (Builtin.SmallTypes.nextOf (.ref i1) >>= _) _ _ _
 apply bh0
 refine D1.item i { s with heap:=g1 } _ _ l1 (D1.frame _ _ _ h1 fun c hc o e=>k1 c o (fun y=>ap.z1 (y ▸ hc)) e) fun x g2 tk2 px st1 sb2=>bh6 ?_
 have k2:∀ c o,c ≠ z->c ≠ i1->s.heap.get? c=some o->g2.get? c=some o:=fun c o c1 c2 e=>sb2.extBut c o c2 (k1 c o c1 e)
 have to2:IsPair g2 TO a b:=k2 _ _ ap.TOz (lV ap ap.o1) hto
 apply bh0
 apply bv6 to2 rfl
 apply bh0
 refine wpAny_updateSeq_pair to2 fun g3 to3 sb3=>?_
 have to3:IsPair g3 TO x b:=to3
 apply bh0
 apply wpAny_letGo
 apply bh6
 apply bh0
 apply bh0
 apply wpAny_onRaise
 change wpAny _ _ (Builtin.SmallTypes.nextOf (.ref i2) >>= _) _ _ _
 apply bh0
 have k3:∀ c o,c ≠ z->c ≠ i1->c ≠ TO->s.heap.get? c=some o->g3.get? c=some o:=fun c o c1 c2 c3 e=>sb3.extBut c o c3 (k2 c o c1 c2 e)
 refine D2.item i { s with heap:=g3,toks:=tk2 } _ _ l2 (D2.frame _ _ _ h2 fun c hc o e=>k3 c o (fun y=>ap.z2 (y ▸ hc)) (fun y=>ap.n1 (y ▸ hc)) (fun y=>ap.o2 (y ▸ hc)) e) fun y g4 tk4 py st2 sb4=>bh6 ?_
 have to4:IsPair g4 TO x b:=sb4.extBut _ _ (qB ap ap.o2) to3
 apply bh0
 apply bv6 to4 rfl
 apply bh0
 refine wpAny_updateSeq_pair to4 fun g5 to5 sb5=>?_
 have to5:IsPair g5 TO x y:=to5
 apply bh0
 apply wpAny_letGo
 apply bh6
 apply bh6
 apply bh0
 apply bv6 to5 rfl
 apply bh0
 refine wpAny_newTuple ?_ (by show 2<=sizeLine; decide)
 have size:g5.objs.size=s.heap.objs.size:=by rw [sb5.1,sb4.1,sb3.1,sb2.1,sb1.1]
 have k5:∀ c o,c ≠ z->c ≠ TO->c ≠ i1->c ≠ i2->s.heap.get? c=some o->g5.get? c=some o:=fun c o c1 c2 c3 c4 e=>sb5.extBut c o c2 (sb4.extBut c o c4 (k3 c o c1 c3 c2 e))
 have z5:IsZip g5 z TI TO .ellipsis:=sb5.extBut _ _ (Ne.symm ap.TOz) (sb4.extBut _ _ (qB ap ap.z2) (sb3.extBut _ _ (Ne.symm ap.TOz) (sb2.extBut _ _ (lV ap ap.z1) hz1)))
 change wpAny _ _ (Builtin.SmallTypes.ownedTupleHandOut (.ref z) (.ref g5.objs.size) >>= _) _ _ _
 apply bh0
 unfold Builtin.SmallTypes.ownedTupleHandOut
 apply bh0
 have z6:IsZip (g5.push { cls:=.type "tuple",data:=.seq #[x,y] }) z TI TO .ellipsis:=bh1 _ z5
 refine bo9 z6 (by simp) fun g7 z7 sb7=>?_
 have z7:IsZip g7 z TI TO (rawInt g5.objs.size):=z7
 refine bo9 z7 (by simp) fun g8 z8 sb8=>?_
 have z8:IsZip g8 z TI TO (rawInt g5.objs.size):=z8
 have zlt:z < g5.objs.size:=bi4 z5
 have up:∀ c o,c ≠ z->g5.get? c=some o->g8.get? c=some o:=fun c o c1 e=>sb8.extBut c o c1 (sb7.extBut c o c1 (bh1 _ e))
 have p8:IsPair g8 g5.objs.size x y:=sb8.extBut _ _ (bq0 zlt) (sb7.extBut _ _ (bq0 zlt) (bj1 _ rfl))
 have s8:g8.objs.size=g5.objs.size+1:=by rw [sb8.1,sb7.1,bs3]
 have f1:St1 (i+1) g8:=D1.frame _ _ _ st1 fun c hc o e=>up c o (fun y=>ap.z1 (y ▸ hc)) (sb5.extBut c o (fun y=>ap.o1 (y ▸ hc)) (sb4.extBut c o (fun y=>ap.n2 (y ▸ hc)) (sb3.extBut c o (fun y=>ap.o1 (y ▸ hc)) e)))
 have f2:St2 (i+1) g8:=D2.frame _ _ _ st2 fun c hc o e=>up c o (fun y=>ap.z2 (y ▸ hc)) (sb5.extBut c o (fun y=>ap.o2 (y ▸ hc)) e)
 have ti8:IsPair g8 TI (.ref i1) (.ref i2):=up _ _ ap.TIz (k5 _ _ ap.TIz ap.TITO (lV ap ap.t1) (qB ap ap.t2) hti)
 rw [size] at z8 p8 s8
 apply bh6
 refine⟨_,rfl,bh6 ?_⟩
 change Q (some (.ref g5.objs.size)) _
 rw [size]
 exact q x y g8 tk4 px py ⟨z8,ti8,⟨x,y,up _ _ ap.TOz to5⟩,f1,f2⟩ p8 (fun c o c1 c2 c3 c4 e=>up c o c1 (k5 c o c1 c2 c3 c4 e)) s8
theorem fin (D1:Draws prog w A.in1 i1 fp1 n1 P1 St1) (D2:Draws prog w A.in1 i2 fp2 n2 P2 St2) (ap:Ap z TI TO i1 i2 fp1 fp2) {i:Nat} (le:i=n1 ∨ (i < n1/\i=n2)) (st:vK z TI TO i1 i2 St1 St2 .none i i s.heap) {Q:Option Value->Shared->Prop}
  (q:∀ h' tk,(∀ c o,c ≠ z->c ≠ TO->c ≠ i1->c ≠ i2->s.heap.get? c=some o->h'.get? c=some o)->Q none { s with heap:=h',toks:=tk }):wpAny (model prog w) A (pyNext (.ref z)) Q E s:=by
 obtain ⟨hz,hti,⟨a,b,hto⟩,h1,h2⟩:=st
 have T:s.TypeIs (.ref z) "zip":=⟨_,hz,rfl⟩
 have slot:=PySem.F.slot_zip_next
 unfold pyNext
 apply bh0
 apply wpAny_attempt
 apply bo1 (name:=Str.ofString "__next__") T slot
 apply bn8 slot T PySem.F.entry_zip_next _ (PySem.F.args_zip_next_1 _)
 change wpAny _ _ (field (.ref z) 2 >>= _) _ _ _
 apply bh0
 refine bo0 hz rfl (x:=.bool false) rfl ?_
 change wpAny _ _ (field (.ref z) 3 >>= _) _ _ _
 apply bh0
 refine bo0 hz rfl (x:=.ref TI) rfl ?_
 apply bh0
 apply bv6 hti rfl
 change wpAny _ _ (Builtin.SmallTypes.ownedTupleIsFree (.ref z) >>= _) _ _ _
 apply bh0
 unfold Builtin.SmallTypes.ownedTupleIsFree
 apply bh0
 refine bo0 hz rfl (x:=.none) rfl (bh6 ?_)
 simp only [if_true]
 apply bh0
 apply bu5
 apply bh0
 refine bo0 hz rfl (x:=.ref TO) rfl ?_
 apply bh0
 refine bo9 hz (by simp) fun g1 hz1 sb1=>?_
 have k1:∀ c o,c ≠ z->s.heap.get? c=some o->g1.get? c=some o:=fun c o c1 e=>sb1.extBut c o c1 e
 apply bh0
 simp only [List.zipIdx_cons,List.zipIdx_nil,List.forIn_cons,List.forIn_nil]
 apply bh0
 apply bh0
 apply wpAny_onRaise
 change wpAny _ _ (Builtin.SmallTypes.nextOf (.ref i1) >>= _) _ _ _
 apply bh0
 have z1:IsZip g1 z TI TO .ellipsis:=hz1
 rcases le with rfl | ⟨lt,rfl⟩
 ·refine D1.done { s with heap:=g1 } _ _ (D1.frame _ _ _ h1 fun c hc o e=>k1 c o (fun y=>ap.z1 (y ▸ hc)) e) fun g2 e eb ex=>?_
  have z2:IsZip g2 z TI TO .ellipsis:=eb _ _ (lV ap ap.z1) z1
  refine bo9 z2 (by simp) fun g3 z3 sb3=>?_
  obtain ⟨oe,eo,co⟩:=ex
  have ne:e ≠ z:=fun y=>by
   rw [y,z2] at eo
   have:=bk5 eo
   rw [<- this] at co; exact absurd (show Value.type "zip" = Value.type "StopIteration" from co) (by decide)
  apply bh0
  refine wpAny_isInstance (T:="StopIteration") (b:=true) ⟨oe,sb3.extBut _ _ ne eo,co⟩ isSubtype_stop ?_
  exact bh6 (q g3 s.toks fun c o c1 _ c3 _ e=>sb3.extBut c o c1 (eb c o c3 (k1 c o c1 e)))
 ·refine D1.item i { s with heap:=g1 } _ _ lt (D1.frame _ _ _ h1 fun c hc o e=>k1 c o (fun y=>ap.z1 (y ▸ hc)) e) fun x g2 tk2 px st1 sb2=>bh6 ?_
  have k2:∀ c o,c ≠ z->c ≠ i1->s.heap.get? c=some o->g2.get? c=some o:=fun c o c1 c2 e=>sb2.extBut c o c2 (k1 c o c1 e)
  have to2:IsPair g2 TO a b:=k2 _ _ ap.TOz (lV ap ap.o1) hto
  apply bh0
  apply bv6 to2 rfl
  apply bh0
  refine wpAny_updateSeq_pair to2 fun g3 to3 sb3=>?_
  apply bh0
  apply wpAny_letGo
  apply bh6
  apply bh0
  apply bh0
  apply wpAny_onRaise
  change wpAny _ _ (Builtin.SmallTypes.nextOf (.ref i2) >>= _) _ _ _
  apply bh0
  have k3:∀ c o,c ≠ z->c ≠ i1->c ≠ TO->s.heap.get? c=some o->g3.get? c=some o:=fun c o c1 c2 c3 e=>sb3.extBut c o c3 (k2 c o c1 c2 e)
  refine D2.done { s with heap:=g3,toks:=tk2 } _ _ (D2.frame _ _ _ h2 fun c hc o e=>k3 c o (fun y=>ap.z2 (y ▸ hc)) (fun y=>ap.n1 (y ▸ hc)) (fun y=>ap.o2 (y ▸ hc)) e) fun g4 e eb ex=>?_
  have z4:IsZip g4 z TI TO .ellipsis:=eb _ _ (qB ap ap.z2) (sb3.extBut _ _ (Ne.symm ap.TOz) (sb2.extBut _ _ (lV ap ap.z1) z1))
  refine bo9 z4 (by simp) fun g5 z5 sb5=>?_
  obtain ⟨oe,eo,co⟩:=ex
  have ne:e ≠ z:=fun y=>by
   rw [y,z4] at eo
   have:=bk5 eo
   rw [<- this] at co; exact absurd (show Value.type "zip" = Value.type "StopIteration" from co) (by decide)
  apply bh0
  refine wpAny_isInstance (T:="StopIteration") (b:=true) ⟨oe,sb5.extBut _ _ ne eo,co⟩ isSubtype_stop ?_
  exact bh6 (q g5 tk2 fun c o c1 c2 c3 c4 e=>sb5.extBut c o c1 (eb c o c4 (k3 c o c1 c3 c2 e)))
end
def fV (h:Heap) (t u:Addr):Heap:=
 ((((h.push { cls:=.type "tuple_iterator",data:=.fields #[.ref t,.int 0 0] }).push { cls:=.type "tuple_iterator",data:=.fields #[.ref u,.int 0 0] }).push { cls:=.type "tuple",data:=.seq #[.ref h.objs.size,.ref (h.objs.size+1)] }).push
  { cls:=.type "tuple",data:=.seq #[.none,.none] }).push { cls:=.type "zip",data:=.fields #[.none,.bool false,.bool false,.ref (h.objs.size+2),.ref (h.objs.size+3)] }
theorem ax0 (t u:Addr) (xs ys:Array Value):Meets (Builtin.«zip.__new__» ⟨[.type "zip",.ref t,.ref u],[]⟩) (fun _ R s=>s.heap.IsTuple t xs/\s.heap.IsTuple u ys/\R (.ok (.ret (.ref (s.heap.objs.size+4)))) { s with heap:=fV s.heap t u }):=
 .of_wp fun prog w A R s h=>by
  obtain ⟨hp,g,d,tk,os⟩:=s
  obtain ⟨ht,hu,h⟩:=h
  have sub:=sub_zip
  have a1:Heap.IsTuple (Shared.heap ⟨hp,g,d,tk,os⟩) t xs:=ht
  have a2:Heap.IsTuple (Shared.heap ⟨hp.push { cls:=.type "tuple_iterator",data:=.fields #[.ref t,.int 0 0] },g,d,tk,os⟩) u ys:=hu.elim fun o y=>⟨o,bh1 _ y.1,y.2⟩
  wp_walk using bt1 a1,bt1 a2
  have e:∀ (o:Obj) (k:Heap),(k.push o).objs.size=k.objs.size+1:=fun o k=>bs3 ..
  refine⟨_,rfl,?_⟩
  simp only [fV,e] at h ⊢
  exact h
section
variable {prog : Program} {w : World} {A : Around} {E : Value → Shared → Prop} {s : Shared}
theorem ax1 {t u:Addr}{xs ys:Array Value}{Q:Value->Shared->Prop} (ht:s.heap.IsTuple t xs) (hu:s.heap.IsTuple u ys)
  (q:∀ h',IsZip h' (s.heap.objs.size+4) (s.heap.objs.size+2) (s.heap.objs.size+3) .none->IsPair h' (s.heap.objs.size+2) (.ref s.heap.objs.size) (.ref (s.heap.objs.size+1))->
   IsPair h' (s.heap.objs.size+3) .none .none->h'.IsTupleIter s.heap.objs.size t 0->h'.IsTupleIter (s.heap.objs.size+1) u 0->(∀ c o,s.heap.get? c=some o->h'.get? c=some o)->Q (.ref (s.heap.objs.size+4)) { s with heap:=h' }) :
  wpAny (model prog w) A (call (.type "zip") [.ref t,.ref u]) Q E s:=by
 refine callType_new PySem.F.called_zip (by decide) (PySem.F.typeCall_zip_2 _ _) (PySem.F.newCall_zip_2 _ _) (fun obj=>PySem.F.args_object_init_3 obj _ _) PySem.F.entry_zip_new (ax0 t u xs ys) ⟨ht,hu,?_⟩
 have e:∀ (o:Obj) (k:Heap),(k.push o).objs.size=k.objs.size+1:=fun o k=>bs3 ..
 have p0:∀ (k:Heap) (o:Obj) (m:Nat),o.isFreed=false->m=k.objs.size->(k.push o).get? m=some o:=fun k o m f z=>by rw [z]; exact bj1 _ f
 have g0:(fV s.heap t u).get? s.heap.objs.size=some { cls:=.type "tuple_iterator",data:=.fields #[.ref t,.int 0 0] }:=by
  unfold fV
  exact bh1 _ (bh1 _ (bh1 _ (bh1 _ (p0 _ _ _ rfl rfl))))
 have g1:(fV s.heap t u).get? (s.heap.objs.size+1)=some { cls:=.type "tuple_iterator",data:=.fields #[.ref u,.int 0 0] }:=by
  unfold fV
  exact bh1 _ (bh1 _ (bh1 _ (p0 _ _ _ rfl (by simp only [e]))))
 have g2:(fV s.heap t u).get? (s.heap.objs.size+2)=some { cls:=.type "tuple",data:=.seq #[.ref s.heap.objs.size,.ref (s.heap.objs.size+1)] }:=by
  unfold fV
  exact bh1 _ (bh1 _ (p0 _ _ _ rfl (by simp only [e])))
 have g3:(fV s.heap t u).get? (s.heap.objs.size+3)=some { cls:=.type "tuple",data:=.seq #[.none,.none] }:=by
  unfold fV
  exact bh1 _ (p0 _ _ _ rfl (by simp only [e]))
 have g4:(fV s.heap t u).get? (s.heap.objs.size+4)=some { cls:=.type "zip",data:=.fields #[.none,.bool false,.bool false,.ref (s.heap.objs.size+2),.ref (s.heap.objs.size+3)] }:=by
  unfold fV
  exact p0 _ _ _ rfl (by simp only [e])
 refine⟨⟨_,g4,rfl⟩,q _ g4 g2 g3 ⟨_,g0,rfl,rfl⟩ ⟨_,g1,rfl,rfl⟩ fun c o z=>?_⟩
 unfold fV
 exact bh1 _ (bh1 _ (bh1 _ (bh1 _ (bh1 _ z))))
end
end Zp
namespace L2
open PySem PySem.Spec PyProof.Rows
def vL (K:PySem.W.Frag) (a b:Addr):It:=
  ⟨fun i H=>∃ xs ys x y,aO K H a xs/\aO K H b ys/\xs[i]? = some x/\ys[i]? = some y,
   fun i H v H'=>∃ T x y,H T=none/\v = .ref T/\H'=upd H T (.tup [x,y])/\∀ xs ys,aO K H a xs->aO K H b ys->xs[i]? = some x/\ys[i]? = some y,
   fun i H=>∃ xs ys,aO K H a xs/\aO K H b ys/\(i=xs.length ∨ (i < xs.length/\i=ys.length))⟩
def Sq (t:Bool) (K:PySem.W.Frag) (H:Hp) (a:Addr) (xs:List V):Prop:=match t with
 | true=>aO K H a xs
 | false=>aR K H a xs
def fW (t:Bool) (h:Heap) (i a:Addr) (n:Nat):Prop:=match t with
 | true=>h.IsTupleIter i a n
 | false=>h.IsListIter i a n
def J7 (t:Bool) (h:Heap) (a:Addr) (xs:Array Value):Prop:=match t with
 | true=>h.IsTuple a xs
 | false=>h.IsList a xs
theorem fW.at {h h':Heap}{i a:Addr}{n:Nat}:∀ {t:Bool},fW t h i a n->(∀ o,h.get? i=some o->h'.get? i=some o)->fW t h' i a n
 | true,x,k=>Heap.IsTupleIter.at x k
 | false,x,k=>Heap.IsListIter.at x k
theorem fW.ob {h:Heap}{i a:Addr}{n:Nat}:∀ {t:Bool},fW t h i a n->∃ o,h.get? i=some o/\∀ v,o.data ≠ .cell v
 | true,⟨o,f,_,d⟩=>⟨o,f,fun v q=>by rw [d] at q; cases q⟩
 | false,⟨o,f,_,d⟩=>⟨o,f,fun v q=>by rw [d] at q; cases q⟩
theorem fW.draws {prog:Program}{w:World}{A:Around}:∀ (t:Bool) (hh:A.handled=none) (it a:Addr) (ne:a ≠ it) (items:Array Value),Draws prog w A it [it,a] items.size (fun i v=>items[i]? = some v) (fun i h=>fW t h it a i/\J7 t h a items)
 | true,hh,it,a,ne,items=>Zp.aw9 hh it a ne items
 | false,hh,it,a,ne,items=>Draws.list hh it a ne items
section
variable {X : Cx} {pins : List (Addr × Obj)} {σ : St} {H : Hp} {s : Shared} {a : Addr} {xs ys : List V}
theorem Sq.get (I:a8 X pins σ H s):∀ {t:Bool},Sq t X.K H a xs->∃ us,aL xs us/\J7 t s.heap a us.toArray
 | true,h=>by obtain ⟨us,r,p,_⟩:=I.tuple h; exact⟨us,r,p⟩
 | false,h=>by obtain ⟨us,r,p,_⟩:=I.list h; exact⟨us,r,p.isList⟩
theorem Sq.inj (I:a8 X pins σ H s):∀ {t:Bool},Sq t X.K H a xs->Sq t X.K H a ys->xs=ys
 | true,h,g=>I.tuple_inj h g
 | false,h,g=>I.list_inj h g
theorem Sq.off (I:a8 X pins σ H s) (he:H a=none) (hb:X.base.get? a=none):∀ {t:Bool},Sq t X.K H a xs->False
 | true,h=>by
  rcases h with (h | ⟨_,h⟩) | ⟨o,_,_,h,_⟩
  ·rw [he] at h; cases h
  ·rw [he] at h; cases h
  ·have:=I.ok.mod.kin a o h
   rw [hb] at this; cases this
 | false,h=>by
  rcases h with (h | ⟨_,h⟩) | ⟨o,_,_,h,_⟩
  ·rw [he] at h; cases h
  ·rw [he] at h; cases h
  ·have:=I.ok.mod.kin a o h
   rw [hb] at this; cases this
end
def ax2 (t1 t2:Bool) (K:PySem.W.Frag) (a b:Addr):It:=
  ⟨fun i H=>∃ xs ys x y,Sq t1 K H a xs/\Sq t2 K H b ys/\xs[i]? = some x/\ys[i]? = some y,
   fun i H v H'=>∃ T x y,H T=none/\v = .ref T/\H'=upd H T (.tup [x,y])/\∀ xs ys,Sq t1 K H a xs->Sq t2 K H b ys->xs[i]? = some x/\ys[i]? = some y,
   fun i H=>∃ xs ys,Sq t1 K H a xs/\Sq t2 K H b ys/\(i=xs.length ∨ (i < xs.length/\i=ys.length))⟩
structure vM (t1 t2:Bool) (z TI TO i1 i2 a b:Addr) (i:Nat) (h:Heap):Prop where
 zz:IsZip h z TI TO .none
 ti:IsPair h TI (.ref i1) (.ref i2)
 to_:∃ x y,IsPair h TO x y
 s1:fW t1 h i1 a i
 s2:fW t2 h i2 b i
theorem J8 (t1 t2:Bool) {P:Program}{w:World}{K:PySem.W.Frag}{elts:List Expr}{k:Nat}{pos:Pos} (a b z TI TO i1 i2:Addr) (d : [z,TI,TO,i1,i2].Nodup) :
  iH P w K (.Tuple elts k pos) (ax2 t1 t2 K a b) [z,TI,TO,i1,i2] z (vM t1 t2 z TI TO i1 i2 a b):=by
 have nd:z ≠ TI/\z ≠ TO/\z ≠ i1/\z ≠ i2/\TI ≠ TO/\TI ≠ i1/\TI ≠ i2/\TO ≠ i1/\TO ≠ i2/\i1 ≠ i2:=by
  simp only [bw3,bh9,bi5,bm2,not_or] at d
  obtain ⟨⟨a1,a2,a3,a4⟩,⟨b1,b2,b3⟩,⟨c1,c2⟩,e1,_⟩:=d
  exact⟨a1,a2,a3,a4,b1,b2,b3,c1,c2,e1⟩
 obtain ⟨n1,n2,n3,n4,n5,n6,n7,n8,n9,n10⟩:=nd
 have offBase:∀ {X:Cx}{pins:List (Addr × Obj)}{σ:St}{H:Hp}{s:Shared},a8 X pins σ H s->(∀ c ∈ [z,TI,TO,i1,i2],fR X pins H c)->∀ c ∈ [z,TI,TO,i1,i2],X.base.get? c=none:=by
  intro X pins σ H s I hf c hc
  cases q:X.base.get? c with
  | none=>rfl
  | some o=>
   rcases (hf c hc).2.2.2.1 with h | h
   ·exact absurd h (I.ok.noex c o q)
   ·exact absurd (bi8 (bi4 q) (bm4 I.ok.bsz h)) (bo2 _)
 have off:∀ {t:Bool}{X:Cx}{pins:List (Addr × Obj)}{σ:St}{H:Hp}{s:Shared}{c:Addr}{zs:List V},a8 X pins σ H s->(∀ c ∈ [z,TI,TO,i1,i2],fR X pins H c)->Sq t X.K H c zs->c ∉ [z,TI,TO,i1,i2]:=by
  intro t X pins σ H s c zs I hf hc hm
  exact Sq.off I (hf c hm).1 (offBase I hf c hm) hc
 have ap:∀ {c e:Addr},c ∉ [z,TI,TO,i1,i2]->e ∉ [z,TI,TO,i1,i2]->Zp.Ap z TI TO i1 i2 [i1,c] [i2,e]:=fun {c e} hc he=>by
  simp only [bh9,bi5,bm2,not_or] at hc he
  obtain ⟨c1,c2,c3,c4,c5⟩:=hc
  obtain ⟨e1,e2,e3,e4,e5⟩:=he
  have two:∀ {q u v:Addr},q ≠ u->q ≠ v->q ∉ [u,v]:=fun {q u v} h1 h2 hm=>by
   simp only [bh9,bi5,bm2] at hm
   exact hm.elim h1 h2
  exact⟨n1.symm,n2.symm,n5,two n3 (Ne.symm c1),two n4 (Ne.symm e1),two n8 (Ne.symm c3),two n9 (Ne.symm e3),two n6 (Ne.symm c2),two n7 (Ne.symm e2),bi6,bi6,two n10 (Ne.symm e4),two n10.symm (Ne.symm c5)⟩
 refine⟨by simp,fun i h st c hc=>?_,fun i h h' st kp=>?_,?_,?_,fun A i s Q E st q=>wpAny_pyIter_zip st.zz q⟩
 ·simp only [bh9,bi5,bm2] at hc
  obtain ⟨x,y,to⟩:=st.to_
  rcases hc with rfl | rfl | rfl | rfl | rfl
  ·exact⟨_,st.zz,fun v q=>by cases q⟩
  ·exact⟨_,st.ti,fun v q=>by cases q⟩
  ·exact⟨_,to,fun v q=>by cases q⟩
  ·exact st.s1.ob
  ·exact st.s2.ob
 ·obtain ⟨x,y,to⟩:=st.to_
  exact⟨kp z (by simp) _ st.zz,kp TI (by simp) _ st.ti,⟨x,y,kp TO (by simp) _ to⟩,st.s1.at fun o e=>kp i1 (by simp) o e,st.s2.at fun o e=>kp i2 (by simp) o e⟩
 ·
  intro X hP hw hK hc i pins s σ H E I hf st hg
  subst hP hw hK
  obtain ⟨xs,ys,x,y,ha,hb,hx,hy⟩:=hg
  obtain ⟨us,ru,pu⟩:=Sq.get I ha
  obtain ⟨vs,rv,pv'⟩:=Sq.get I hb
  obtain ⟨ux,eux,rux⟩:=ru.get hx
  obtain ⟨vy,evy,rvy⟩:=rv.get hy
  have fa:=off I hf ha
  have fb:=off I hf hb
  have hh:X.A.in1.handled=none:=I.ok.hd hc
  have l1:i < us.toArray.size:=by simpa using (bi3.mp eux).1
  have l2:i < vs.toArray.size:=by simpa using (bi3.mp evy).1
  have fa':a ≠ i1:=fun q=>fa (by rw [q]; simp)
  have fb':b ≠ i2:=fun q=>fb (by rw [q]; simp)
  have D1:=fW.draws t1 (prog:=X.prog) (w:=X.w) hh i1 a fa' us.toArray
  have D2:=fW.draws t2 (prog:=X.prog) (w:=X.w) hh i2 b fb' vs.toArray
  refine Zp.item D1 D2 (ap fa fb) l1 l2 ⟨st.zz,st.ti,st.to_,⟨st.s1,pu⟩,⟨st.s2,pv'⟩⟩ fun p q h' tk hp hq st' pr kp sz=>⟨_,rfl,?_⟩
  obtain rfl:p=ux:=by
   have:us.toArray[i]? = some ux:=by simpa using eux
   rw [this] at hp; exact (bk5 hp).symm
  obtain rfl:q=vy:=by
   have:vs.toArray[i]? = some vy:=by simpa using evy
   rw [this] at hq; exact (bk5 hq).symm
  refine wpAny_letOwnedTupleGo_zip (s:={ s with heap:=h',toks:=tk }) st'.zz fun g zz sb=>?_
  have hzl:z < s.heap.objs.size:=bi4 st.zz
  have up:∀ c o,c ≠ z->c ≠ TO->c ≠ i1->c ≠ i2->s.heap.get? c=some o->g.get? c=some o:=fun c o c1 c2 c3 c4 e=>sb.extBut c o c1 (kp c o c1 c2 c3 c4 e)
  have hT:H s.heap.objs.size=none:=I.hok.fresh (bh7 _)
  have prG:IsPair g s.heap.objs.size p q:=sb.extBut _ _ (bq0 hzl) pr
  have fpn:∀ c u,H c=some u->c ∉ [z,TI,TO,i1,i2]:=fun c u e hm=>by rw [(hf c hm).1] at e; cases e
  have upH:∀ c o u,H c=some u->s.heap.get? c=some o->g.get? c=some o:=fun c o u e z=>by
   have:=fpn c u e
   simp only [bh9,bi5,bm2,not_or] at this
   exact up c o this.1 this.2.2.1 this.2.2.2.1 this.2.2.2.2 z
  have ns:∀ m,s.heap.Ns X.env.locals m->g.Ns X.env.locals m:=fun m hm=>by
   obtain ⟨o,es,ep,e1,e2⟩:=hm
   exact⟨o,es,ep,up _ o (Ne.symm (hf z (by simp)).2.1) (Ne.symm (hf TO (by simp)).2.1) (Ne.symm (hf i1 (by simp)).2.1) (Ne.symm (hf i2 (by simp)).2.1) e1,e2⟩
  have I2:a8 X pins σ (upd H s.heap.objs.size (.tup [x,y])) { s with heap:=g,toks:=tk }:=by
   refine I.step (g':=s.gens) (d':=s.drawn) (ch:=[z,TO,i1,i2]) (fun c hc'=>?_) (fun c o _ _ hc' e _=>?_) (fun c o _ _ hc' e _=>⟨o.slots,?_⟩) (fun c o _ e n=>?_) (fun c o hc' e=>⟨o,?_⟩)
    (fun c zs e=>by rw [aW (cY e hT)]; exact e) (fun c u zs e=>by rw [aW (cY e hT)]; exact e) (fun c ps e=>⟨#[],by rw [aW (cY e hT),e]; simp⟩) ns (fun c u e=>?_) I.bare
   ·have hm:c ∈ [z,TI,TO,i1,i2]:=by
     simp only [bh9,bi5,bm2] at hc' ⊢
     rcases hc' with h | h | h | h <;> simp [h]
    exact⟨(hf c hm).2.2.2.1,(hf c hm).2.1,(hf c hm).2.2.2.2.1,(hf c hm).2.2.2.2.2⟩
   ·simp only [bh9,bi5,bm2,not_or] at hc'
    exact up c o hc'.1 hc'.2.1 hc'.2.2.1 hc'.2.2.2 e
   ·simp only [bh9,bi5,bm2,not_or] at hc'
    exact up c o hc'.1 hc'.2.1 hc'.2.2.1 hc'.2.2.2 e
   ·rw [aW (bk6 (bi4 e))]; exact n
   ·simp only [bh9,bi5,bm2,not_or] at hc'
    exact up c o hc'.1 hc'.2.1 hc'.2.2.1 hc'.2.2.2 e
   ·by_cases hcT:c=s.heap.objs.size
    ·subst hcT
     rw [bO] at e; cases e
     exact⟨by show 2<=sizeLine; decide,[p,q],.cons rux (.cons rvy .nil),⟨_,prG,rfl,_,rfl⟩,fun u e=>by rw [prG] at e; cases e; rfl⟩
    ·rw [aW hcT] at e
     refine (I.hok c u e).stay (fun c' o' hc2 q'=>?_) (fun c' q'=>by rw [aW (cY q' hT)]; exact q') fun c' zs q'=>by rw [aW (cY q' hT)]; exact q'
     rcases hc2 with rfl | hc2
     ·exact upH _ _ _ e q'
     ·exact upH _ _ _ hc2 q'
  obtain ⟨x',y',to'⟩:=st'.to_
  refine⟨.ref s.heap.objs.size,_,I2,rfl,⟨_,x,y,hT,rfl,rfl,fun xs' ys' ha' hb'=>?_⟩,⟨zz,sb.extBut _ _ n1.symm st'.ti,⟨x',y',sb.extBut _ _ n2.symm to'⟩,st'.s1.1.at fun o e=>sb.extBut _ o n3.symm e,st'.s2.1.at fun o e=>sb.extBut _ o n4.symm e⟩,fun c hc'=>?_⟩
  ·rw [Sq.inj I ha' ha,Sq.inj I hb' hb]; exact⟨hx,hy⟩
  ·obtain ⟨o,e,_⟩:∃ o,s.heap.get? c=some o/\True:=by
    simp only [bh9,bi5,bm2] at hc'
    obtain ⟨x2,y2,to2⟩:=st.to_
    obtain ⟨o1,f1,_⟩:=st.s1.ob
    obtain ⟨o2,f2,_⟩:=st.s2.ob
    rcases hc' with rfl | rfl | rfl | rfl | rfl
    ·exact⟨_,st.zz,trivial⟩
    ·exact⟨_,st.ti,trivial⟩
    ·exact⟨_,to2,trivial⟩
    ·exact⟨_,f1,trivial⟩
    ·exact⟨_,f2,trivial⟩
   rw [aW (bk6 (bi4 e))]; exact (hf c hc').1
 ·
  intro X hP hw hK hc i pins s σ H E I hf st hg
  subst hP hw hK
  obtain ⟨xs,ys,ha,hb,hi⟩:=hg
  obtain ⟨us,ru,pu⟩:=Sq.get I ha
  obtain ⟨vs,rv,pv'⟩:=Sq.get I hb
  have fa:=off I hf ha
  have fb:=off I hf hb
  have hh:X.A.in1.handled=none:=I.ok.hd hc
  have fa':a ≠ i1:=fun q=>fa (by rw [q]; simp)
  have fb':b ≠ i2:=fun q=>fb (by rw [q]; simp)
  have D1:=fW.draws t1 (prog:=X.prog) (w:=X.w) hh i1 a fa' us.toArray
  have D2:=fW.draws t2 (prog:=X.prog) (w:=X.w) hh i2 b fb' vs.toArray
  have e1:=ru.length
  have e2:=rv.length
  refine Zp.fin D1 D2 (ap fa fb) (by simp only [bh3]; omega) ⟨st.zz,st.ti,st.to_,⟨st.s1,pu⟩,⟨st.s2,pv'⟩⟩ fun g tk kp=>⟨rfl,?_⟩
  have fpn:∀ c u,H c=some u->c ∉ [z,TI,TO,i1,i2]:=fun c u e hm=>by rw [(hf c hm).1] at e; cases e
  have upH:∀ c o u,H c=some u->s.heap.get? c=some o->g.get? c=some o:=fun c o u e z=>by
   have:=fpn c u e
   simp only [bh9,bi5,bm2,not_or] at this
   exact kp c o this.1 this.2.2.1 this.2.2.2.1 this.2.2.2.2 z
  have ns:∀ m,s.heap.Ns X.env.locals m->g.Ns X.env.locals m:=fun m hm=>by
   obtain ⟨o,es,ep,e1,e2⟩:=hm
   exact⟨o,es,ep,kp _ o (Ne.symm (hf z (by simp)).2.1) (Ne.symm (hf TO (by simp)).2.1) (Ne.symm (hf i1 (by simp)).2.1) (Ne.symm (hf i2 (by simp)).2.1) e1,e2⟩
  refine I.step (g':=s.gens) (d':=s.drawn) (ch:=[z,TO,i1,i2]) (fun c hc'=>?_) (fun c o _ _ hc' e _=>?_) (fun c o _ _ hc' e _=>⟨o.slots,?_⟩) (fun c o _ e n=>n) (fun c o hc' e=>⟨o,?_⟩)
   (fun c zs e=>e) (fun c u zs e=>e) (fun c ps e=>⟨#[],by rw [e]; simp⟩) ns (fun c u e=>?_) I.bare
  ·have hm:c ∈ [z,TI,TO,i1,i2]:=by
    simp only [bh9,bi5,bm2] at hc' ⊢
    rcases hc' with h | h | h | h <;> simp [h]
   exact⟨(hf c hm).2.2.2.1,(hf c hm).2.1,(hf c hm).2.2.2.2.1,(hf c hm).2.2.2.2.2⟩
  ·simp only [bh9,bi5,bm2,not_or] at hc'
   exact kp c o hc'.1 hc'.2.1 hc'.2.2.1 hc'.2.2.2 e
  ·simp only [bh9,bi5,bm2,not_or] at hc'
   exact kp c o hc'.1 hc'.2.1 hc'.2.2.1 hc'.2.2.2 e
  ·simp only [bh9,bi5,bm2,not_or] at hc'
   exact kp c o hc'.1 hc'.2.1 hc'.2.2.1 hc'.2.2.2 e
  ·refine (I.hok c u e).stay (fun c' o' hc2 q'=>?_) (fun _ q'=>q') fun _ _ q'=>q'
   rcases hc2 with rfl | hc2
   ·exact upH _ _ _ e q'
   ·exact upH _ _ _ hc2 q'
abbrev ax3:=vM true true
theorem ax4 {P:Program}{w:World}{K:PySem.W.Frag}{elts:List Expr}{k:Nat}{pos:Pos} (a b z TI TO i1 i2:Addr) (d : [z,TI,TO,i1,i2].Nodup) :
  iH P w K (.Tuple elts k pos) (vL K a b) [z,TI,TO,i1,i2] z (ax3 z TI TO i1 i2 a b):=J8 true true a b z TI TO i1 i2 d
section
variable {X : Cx}
theorem ax5 (hc:X.calm=true):dA X (.builtin "all") (fun xs H Q=>∃ (a:Addr) (bs:List Bool),xs = [.ref a]/\aR X.K H a (bs.map V.bl)/\Q (.bl (bs.all id)) H):=by
 intro pins s σ H xs us Q I r h
 obtain ⟨a,bs,rfl,hq,q⟩:=h
 obtain ⟨u,rfl,ru⟩:=gG r
 cases ru
 obtain ⟨its,rv,p,hz⟩:=I.list hq
 have hl:=rv.length
 rw [bh8] at hl
 have hlt:a < s.heap.objs.size:=by obtain ⟨o,e,_⟩:=p.isList; exact bi4 e
 refine call_all_walk (wpAny_pyIter_list p.isList ?_)
 have hh:X.A.in1.handled=none:=I.ok.hd hc
 refine⟨s.heap.objs.size,_,_,_,_,_,fun i=>bs.getD i false,rfl,Walks.list hh s.heap.objs.size a (bk6 hlt) its.toArray,⟨⟨_,bj1 _ rfl,rfl,rfl⟩,p.isList.push _⟩,?_,fun h' tk kp=>?_⟩
 ·intro i v s' Q' E' hP hQ'
  have hi:its[i]? = some v:=by simpa using hP
  have hil:i < bs.length:=by rw [hl]; exact (bi3.mp hi).1
  obtain ⟨u,e1,e2⟩:=rv.get (i:=i) (x:=.bl bs[i]) (by simp [hil])
  rw [hi] at e1; cases e1
  cases e2
  have:bs.getD i false=bs[i]:=by rw [bj4,bh4 hil]; rfl
  have hQ2:Q' (bs.getD i false) s':=hQ'
  rw [this] at hQ2
  exact br9 hQ2
 ·have all_eq:(List.range its.toArray.size).all (fun i=>bs.getD i false)=bs.all id:=by
   rw [bh3,<- hl]
   clear q rv hz hl hq hlt p hh kp
   induction bs with
   | nil=>rfl
   | cons b r ih=>
    rw [bm5,List.range_succ_eq_map,bx0,List.all_map,bx0,<- ih]
    rfl
  rw [all_eq]
  refine⟨.bl (bs.all id),H,I.kept (t':=tk) (h':=h') fun b o e=>kp b o (fun z=>?_) (bh1 _ e),rfl,q⟩
  rw [bi1.mp z] at e
  exact absurd (bi4 e) (bo2 _)
end
end L2
namespace HT
open PySem PyProof.Rows
section
variable {prog : Program} {w : World} {A : Around} {E : Value → Shared → Prop} {s : Shared}
theorem ax6 {t sl:Addr}{items:Array Value}{vl vu:Value}{lo hi:Option Int}{Q:Value->Shared->Prop} (ht:IsTup s.heap t items) (hs:s.heap.IsSliceOf sl vl vu .none) (pl:IsPart vl lo) (pu:IsPart vu hi)
  (h1:aX items.size 0 lo=0) (h2:aX items.size items.size hi=items.size) (h:Q (.ref t) s):wpAny (model prog w) A (getItem (.ref t) (.ref sl)) Q E s:=by
 obtain ⟨o,e1,e2,e3⟩:=id hs
 have T:s.TypeIs (.ref sl) "slice":=⟨o,e1,e2⟩
 unfold getItem
 try with_reducible refine bp7 ?_
 first | refine bh0 (bh6 ?_) | skip
 apply bh0
 apply wpAny_sequenceKey ht.typeIs (by decide)
 apply bh0
 apply bo1 (name:=Str.ofString "__getitem__") ht.typeIs bs8
 apply bn8 bs8 ht.typeIs entry_tuple_getitem _ (args_tuple_getitem _ _)
 change wpAny _ _ (Builtin.Tuple.tupleItemsOf (.ref t) >>= _) _ _ s
 apply bh0
 apply tupleItemsOf_ ht
 apply bh0
 apply wpAny_typeOf T
 rw [if_pos (by decide)]
 apply bh0
 apply B6 hs pl pu
 rw [h1,h2]
 have yes:((((0:Nat):Int) == 0 && (1:Int) == 1 && (items.size - 0) == items.size)=true):=by simp
 change wpAny _ _ (if ((((0:Nat):Int) == 0 && (1:Int) == 1 && (items.size - 0) == items.size)=true) then _ else _) _ _ s
 rw [if_pos yes]
 apply bh0
 unfold Builtin.Tuple.tupleIsExact
 apply bh0
 apply wpAny_typeOf ht.typeIs
 apply bh6
 change wpAny _ _ (rule "tuple.getitem.whole" >>= fun _=>ret (Value.ref t)) _ _ s
 apply bh0
 apply bu5
 exact bh6 ⟨_,rfl,bh6 h⟩
end
end HT
namespace L2
open PySem PySem.Spec PyProof.Rows
section
variable {X : Cx}
def ax7 (K:PySem.W.Frag):V->Option Int->Option Int->Hp->VK->Prop:=fun x lo hi H Q=>∃ a xs,x = .ref a/\aO K H a xs/\(∀ p,H p=none->Q (.ref p) (upd H p (.tup (gZ xs lo hi))))/\(gZ xs lo hi=xs->Q (.ref a) H)
theorem ax8:jY X (ax7 X.K):=by
 intro pins s σ H x v vl vu lo hi sl Q I rx hs pl pu h
 obtain ⟨a,xs,ex,hx,q1,q2⟩:=h
 by_cases hw:HT.aX xs.length 0 lo=0/\HT.aX xs.length xs.length hi=xs.length
 ·subst ex
  cases rx
  obtain ⟨its,r,ht,hz⟩:=I.tuple hx
  have hlen:its.toArray.size=xs.length:=by rw [bh3]; exact r.length.symm
  refine⟨"tuple",_,PyProof.Rows.slot_tuple_getitem.lookup,ht.typeIs,?_⟩
  refine HT.ax6 ht hs pl pu (by rw [hlen]; exact hw.1) (by rw [hlen]; exact hw.2) ⟨.ref a,H,I,rfl,q2 ?_⟩
  unfold gZ
  rw [hw.1,hw.2]
  simp
 ·exact aq7 pins s σ H x v vl vu lo hi sl Q I rx hs pl pu ⟨a,xs,ex,hx,hw,q1⟩
end
def vN (K:PySem.W.Frag) (a b:Addr):It:=
  ⟨fun i H=>∃ xs ys x y,aR K H a xs/\aR K H b ys/\xs[i]? = some x/\ys[i]? = some y,
   fun i H v H'=>∃ T x y,H T=none/\v = .ref T/\H'=upd H T (.tup [x,y])/\∀ xs ys,aR K H a xs->aR K H b ys->xs[i]? = some x/\ys[i]? = some y,
   fun i H=>∃ xs ys,aR K H a xs/\aR K H b ys/\(i=xs.length ∨ (i < xs.length/\i=ys.length))⟩
abbrev ax9:=vM false false
theorem ay0 {P:Program}{w:World}{K:PySem.W.Frag}{elts:List Expr}{k:Nat}{pos:Pos} (a b z TI TO i1 i2:Addr) (d : [z,TI,TO,i1,i2].Nodup) :
  iH P w K (.Tuple elts k pos) (vN K a b) [z,TI,TO,i1,i2] z (ax9 z TI TO i1 i2 a b):=J8 false false a b z TI TO i1 i2 d
section
variable {X : Cx} {pins : List (Addr × Obj)} {σ : St} {H : Hp} {s : Shared} {a b : Addr} {A : Around} {E : Value → Shared → Prop}
theorem ay1 {kvs more:List (aC × V)}{Q:Value->Shared->Prop} (I:a8 X pins σ H s) (ea:H a=some (.dK kvs)) (eb:H b=some (.dK more)) (hne:a ≠ b) (hl:kvs.length+more.length<=sizeLine)
  (h:∀ s',a8 X pins σ (upd H a (.dK (kU kvs more))) s'->Q .none s'):wpAny (model X.prog X.w) A (call (.builtin "dict.update") [.ref a,.ref b]) Q E s:=by
 obtain ⟨z,hd,vs,rel,dd⟩:=uR I.hok ea
 obtain ⟨z2,hd2,rs,rel2,dd2⟩:=uR I.hok eb
 have l1:=rel.length
 have l2:=rel2.length
 refine call_meetsIn PySem.F.slot_dict_update dd.typeIs PySem.F.entry_dict_update (PySem.F.args_dict_update_2 _ _) (meets_dict_update (eI X.prog X.w) a b hne hd2) ⟨vs,rs,dd,dd2,by omega,fun h' dd' _ hs=>h _ ?_⟩
 have he:∃ q,h'.get? a=some q:=let ⟨q,_,_,hq,_⟩:=dd'; ⟨q,hq⟩
 refine uS I (by rw [ea]; exact bx5) hs he (E9 ?_ hd (rel2.merge rel) dd')
 have:=F7 more kvs
 omega
end
def K0 (td ty:TE):TE:=fun σ H Q=>td σ H fun x H1=>∃ a,x = .ref a/\uV H1 a/\ty σ H1 fun y H2=>∃ (b:Addr) (kvs more:List (aC × V)),y = .ref b/\a ≠ b/\H2 a=some (.dK kvs)/\H2 b=some (.dK more)/\kvs.length+more.length<=sizeLine/\Q .non (upd H2 a (.dK (kU kvs more)))
section
variable {X : Cx} {o e : Expr} {apos cpos : Pos} {td ty : TE}
theorem ay2 (ho:PE X o td) (he:PE X e ty) (m:M1 X o "update" apos e cpos):PE X (.Call (.Attribute o "update" apos) [e] [] cpos) (K0 td ty):=by
 intro pins s σ H Q I h
 refine wpAny_Call_method m.base m.few m.line PySem.F.plainAttrs_dict PySem.F.slot_dict_update PySem.F.type_dict_update (aM (ho pins s σ H _ I h) fun u s1 ⟨x,H1,I1,rx,a,ex,d,q1⟩=>?_)
 subst ex
 obtain rfl:u=Value.ref a:=rx
 obtain ⟨t1,t2,_⟩:=F8 I1 d
 refine⟨t1,t2,?_⟩
 rw [m.trees]
 refine Calls.callWith_builtin rfl (Calls.evalArgs_plain (Calls.spliced_cons (aM (he pins s1 σ H1 _ I1 q1) fun iv s2 ⟨y,H2,I2,ry,b,kvs,more,ey,ne,ea,eb,l,q2⟩=>Calls.spliced_nil ?_)))
 subst ey
 obtain rfl:iv=Value.ref b:=ry
 exact ay1 I2 ea eb ne l fun s3 I3=>⟨.non,_,I3,rfl,q2⟩
end
end L2
namespace PP
open PySem L2
inductive PV where
 | non | bl (b:Bool) | int (i:Int) | str (x:Str) | tup (xs:List PV) | lst (xs:List PV)
 | dK (kvs:List (aC × PV)) | dT (kvs:List (List aC × PV)) | scr (ns:List Int) | kt (xs:List PV) | exc (c:Str) | fK (kvs:List (aC × PV)) | fT (kvs:List (List aC × PV))
mutual
def flat:PV->Bool
 | .tup xs=>flats xs
 | .lst _=>false
 | .dK _=>false
 | .dT _=>false
 | .non=>true
 | .bl _=>true
 | .int _=>true
 | .str _=>true
 | .scr _=>true
 | .kt xs=>flats xs
 | .exc _=>true
 | .fK _=>false
 | .fT _=>false
def flats:List PV->Bool
 | []=>true
 | x :: r=>flat x && flats r
end
def jF (K:PySem.W.Frag) (H:Hp) (a:Addr) (ns:List Int):Prop:=(∃ o,H a=some (.frz o (.lst (ns.map V.int)))) ∨
  ∃ (o:Obj) (its:Array Value) (n:Nat),K.lookup a=some o/\o.cls = .type "list"/\o.dict=none/\o.data = .seq its n/\its.size<=sizeLine/\aL (ns.map V.int) its.toList
def lW (K:PySem.W.Frag) (a:Addr) (us:List V):Prop:=∃ (o:Obj) (its:Array Value) (n:Nat),K.lookup a=some o/\o.cls = .type "tuple"/\o.data = .seq its n/\its.size<=sizeLine/\aL us its.toList
mutual
inductive aJ (K:PySem.W.Frag) (M:Addr->Prop) (H:Hp):V->PV->Prop
 | non:aJ K M H .non .non
 | bl (b:Bool):aJ K M H (.bl b) (.bl b)
 | int (i:Int):aJ K M H (.int i) (.int i)
 | str (x:Str):aJ K M H (.str x) (.str x)
 | tup {a:Addr}{us:List V}{xs:List PV}:H a=some (.tup us)->Reps K M H us xs->aJ K M H (.ref a) (.tup xs)
 | lst {a:Addr}{us:List V}{xs:List PV}:M a->H a=some (.lst us)->Reps K M H us xs->aJ K M H (.ref a) (.lst xs)
 | dK {a:Addr}{kvs:List (aC × V)}{ps:List (aC × PV)}:M a->H a=some (.dK kvs)->kvs.map (·.1)=ps.map (·.1)->Reps K M H (kvs.map (·.2)) (ps.map (·.2))->aJ K M H (.ref a) (.dK ps)
 | dT {a:Addr}{kvs:List (List aC × V)}{ps:List (List aC × PV)}:M a->H a=some (.dT kvs)->kvs.map (·.1)=ps.map (·.1)->Reps K M H (kvs.map (·.2)) (ps.map (·.2))->aJ K M H (.ref a) (.dT ps)
 | scr {a:Addr}{ns:List Int}:jF K H a ns->aJ K M H (.ref a) (.scr ns)
 | kt {a:Addr}{us:List V}{xs:List PV}:lW K a us->Reps K M H us xs->aJ K M H (.ref a) (.kt xs)
 | exc {a C:Addr}{o:Obj}{c:Str}:H a=some (.frz o (.own a))->PySem.W.nsIn K mainGlobals c=some (some (.ref C))->o.cls = .ref C->aJ K M H (.ref a) (.exc c)
 | fK {a:Addr}{o:Obj}{kvs:List (aC × V)}{ps:List (aC × PV)}:H a=some (.frz o (.dK kvs))->kvs.map (·.1)=ps.map (·.1)->Reps K M H (kvs.map (·.2)) (ps.map (·.2))->aJ K M H (.ref a) (.fK ps)
 | fT {a:Addr}{o:Obj}{kvs:List (List aC × V)}{ps:List (List aC × PV)}:H a=some (.frz o (.dT kvs))->kvs.map (·.1)=ps.map (·.1)->Reps K M H (kvs.map (·.2)) (ps.map (·.2))->aJ K M H (.ref a) (.fT ps)
inductive Reps (K:PySem.W.Frag) (M:Addr->Prop) (H:Hp):List V->List PV->Prop
 | nil:Reps K M H [] []
 | cons {v:V}{x:PV}{vs:List V}{xs:List PV}:aJ K M H v x->Reps K M H vs xs->Reps K M H (v :: vs) (x :: xs)
end
structure hJ (M M':Addr->Prop) (H H':Hp):Prop where
 lst:∀ a us,M a->H a=some (.lst us)->M' a/\H' a=some (.lst us)
 dK:∀ a kvs,M a->H a=some (.dK kvs)->M' a/\H' a=some (.dK kvs)
 dT:∀ a kvs,M a->H a=some (.dT kvs)->M' a/\H' a=some (.dT kvs)
 tup:∀ a us,H a=some (.tup us)->H' a=some (.tup us)
 frz:∀ a o u,H a=some (.frz o u)->H' a=some (.frz o u)
theorem jF.keep {K:PySem.W.Frag}{H H':Hp}{a:Addr}{ns:List Int} (k:∀ a o u,H a=some (.frz o u)->H' a=some (.frz o u)) (h:jF K H a ns):jF K H' a ns:=
 h.elim (fun ⟨o,e⟩=>.inl ⟨o,k _ _ _ e⟩) .inr
mutual
theorem aJ.keep {K:PySem.W.Frag}{M M':Addr->Prop}{H H':Hp} (k:hJ M M' H H'):∀ {v:V}{x:PV},aJ K M H v x->aJ K M' H' v x
 | _,_,.non=>.non
 | _,_,.bl b=>.bl b
 | _,_,.int i=>.int i
 | _,_,.str x=>.str x
 | _,_,.tup h r=>.tup (k.tup _ _ h) (Reps.keep k r)
 | _,_,.lst m h r=>.lst (k.lst _ _ m h).1 (k.lst _ _ m h).2 (Reps.keep k r)
 | _,_,.dK m h e r=>.dK (k.dK _ _ m h).1 (k.dK _ _ m h).2 e (Reps.keep k r)
 | _,_,.dT m h e r=>.dT (k.dT _ _ m h).1 (k.dT _ _ m h).2 e (Reps.keep k r)
 | _,_,.scr h=>.scr (h.keep k.frz)
 | _,_,.kt h r=>.kt h (Reps.keep k r)
 | _,_,.exc h e c=>.exc (k.frz _ _ _ h) e c
 | _,_,.fK h e r=>.fK (k.frz _ _ _ h) e (Reps.keep k r)
 | _,_,.fT h e r=>.fT (k.frz _ _ _ h) e (Reps.keep k r)
theorem Reps.keep {K:PySem.W.Frag}{M M':Addr->Prop}{H H':Hp} (k:hJ M M' H H'):∀ {vs:List V}{xs:List PV},Reps K M H vs xs->Reps K M' H' vs xs
 | _,_,.nil=>.nil
 | _,_,.cons r t=>.cons (aJ.keep k r) (Reps.keep k t)
end
mutual
theorem aJ.flat {K:PySem.W.Frag}{M M':Addr->Prop}{H:Hp}{v:V}{x:PV} (f:flat x=true) (r:aJ K M H v x):aJ K M' H v x:=by
 cases r with
 | non=>exact .non
 | bl b=>exact .bl b
 | int i=>exact .int i
 | str x=>exact .str x
 | tup h r=>exact .tup h (Reps.flat (by unfold PP.flat at f; exact f) r)
 | lst m h r=>unfold PP.flat at f; cases f
 | dK m h e r=>unfold PP.flat at f; cases f
 | dT m h e r=>unfold PP.flat at f; cases f
 | scr h=>exact .scr h
 | kt h r=>exact .kt h (Reps.flat (by unfold PP.flat at f; exact f) r)
 | exc h e c=>exact .exc h e c
 | fK h e r=>unfold PP.flat at f; cases f
 | fT h e r=>unfold PP.flat at f; cases f
theorem Reps.flat {K:PySem.W.Frag}{M M':Addr->Prop}{H:Hp}{vs:List V}{xs:List PV} (f:flats xs=true) (r:Reps K M H vs xs):Reps K M' H vs xs:=by
 cases r with
 | nil=>exact .nil
 | cons r t=>
  unfold PP.flats at f
  rw [bm9] at f
  exact .cons (aJ.flat f.1 r) (Reps.flat f.2 t)
end
theorem hJ.same {M M':Addr->Prop}{H H':Hp} (s:aG H H') (m:∀ a,M a->M' a):hJ M M' H H':=
 ⟨fun a _ h e=>⟨m a h,s _ _ e⟩,fun a _ h e=>⟨m a h,s _ _ e⟩,fun a _ h e=>⟨m a h,s _ _ e⟩,fun _ _ e=>s _ _ e,fun _ _ _ e=>s _ _ e⟩
theorem aJ.same {K:PySem.W.Frag}{M M':Addr->Prop}{H H':Hp}{v:V}{x:PV} (r:aJ K M H v x) (s:aG H H') (m:∀ a,M a->M' a):aJ K M' H' v x:=r.keep (.same s m)
theorem Reps.same {K:PySem.W.Frag}{M M':Addr->Prop}{H H':Hp}{v:List V}{x:List PV} (r:Reps K M H v x) (s:aG H H') (m:∀ a,M a->M' a):Reps K M' H' v x:=r.keep (.same s m)
def fN:HO->Bool
 | .lst _=>true
 | .dK _=>true
 | .dT _=>true
 | _=>false
theorem hJ.upd {M M':Addr->Prop}{H:Hp}{a:Addr}{o o':HO} (h:H a=some o') (mu:fN o'=true) (m:∀ b,M b->b ≠ a/\M' b):hJ M M' H (upd H a o):=
 ⟨fun b _ hb e=>⟨(m b hb).2,by rw [aW (m b hb).1]; exact e⟩,fun b _ hb e=>⟨(m b hb).2,by rw [aW (m b hb).1]; exact e⟩,fun b _ hb e=>⟨(m b hb).2,by rw [aW (m b hb).1]; exact e⟩,
  fun b _ e=>by rw [aW (fun z=>by rw [z,h] at e; cases e; cases mu)]; exact e,
  fun b _ _ e=>by rw [aW (fun z=>by rw [z,h] at e; cases e; cases mu)]; exact e⟩
theorem Reps.length {K:PySem.W.Frag}{M:Addr->Prop}{H:Hp}:∀ {vs:List V}{xs:List PV},Reps K M H vs xs->vs.length=xs.length
 | _,_,.nil=>rfl
 | _,_,.cons _ t=>congrArg (· + 1) t.length
theorem Reps.get {K:PySem.W.Frag}{M:Addr->Prop}{H:Hp}:∀ {vs:List V}{xs:List PV}{i:Nat}{v:V},Reps K M H vs xs->vs[i]? = some v->∃ x,xs[i]? = some x/\aJ K M H v x
 | _,_,_,_,.nil,e=>by simp at e
 | _,_,0,_,.cons r _,e=>by simp at e; subst e; exact⟨_,rfl,r⟩
 | _,_,i+1,v,.cons _ t,e=>by
  rw [bu2] at e
  obtain ⟨x,h1,h2⟩:=t.get e
  exact⟨x,by rw [bu2]; exact h1,h2⟩
theorem Reps.at {K:PySem.W.Frag}{M:Addr->Prop}{H:Hp}:∀ {vs:List V}{xs:List PV}{i:Nat}{x:PV},Reps K M H vs xs->xs[i]? = some x->∃ v,vs[i]? = some v/\aJ K M H v x
 | _,_,_,_,.nil,e=>by simp at e
 | _,_,0,_,.cons r _,e=>by simp at e; subst e; exact⟨_,rfl,r⟩
 | _,_,i+1,v,.cons _ t,e=>by
  rw [bu2] at e
  obtain ⟨x,h1,h2⟩:=t.at e
  exact⟨x,by rw [bu2]; exact h1,h2⟩
theorem Reps.append {K:PySem.W.Frag}{M:Addr->Prop}{H:Hp}:∀ {vs:List V}{xs:List PV}{us:List V}{ys:List PV},Reps K M H vs xs->Reps K M H us ys->Reps K M H (vs ++ us) (xs ++ ys)
 | _,_,_,_,.nil,s=>s
 | _,_,_,_,.cons r t,s=>.cons r (t.append s)
theorem Reps.set {K:PySem.W.Frag}{M:Addr->Prop}{H:Hp}{v:V}{x:PV} (q:aJ K M H v x):∀ (i:Nat) {vs:List V}{xs:List PV},Reps K M H vs xs->Reps K M H (vs.set i v) (xs.set i x)
 | _,_,_,.nil=>.nil
 | 0,_,_,.cons r t=>.cons q t
 | i+1,_,_,.cons r t=>.cons r (Reps.set q i t)
theorem Reps.take {K:PySem.W.Frag}{M:Addr->Prop}{H:Hp}:∀ (n:Nat) {vs:List V}{xs:List PV},Reps K M H vs xs->Reps K M H (vs.take n) (xs.take n)
 | 0,_,_,_=>by simp; exact .nil
 | _+1,_,_,.nil=>.nil
 | n+1,_,_,.cons r t=>.cons r (Reps.take n t)
theorem Reps.drop {K:PySem.W.Frag}{M:Addr->Prop}{H:Hp}:∀ (n:Nat) {vs:List V}{xs:List PV},Reps K M H vs xs->Reps K M H (vs.drop n) (xs.drop n)
 | 0,_,_,r=>r
 | _+1,_,_,.nil=>.nil
 | n+1,_,_,.cons _ t=>Reps.drop n t
theorem Reps.eraseIdx {K:PySem.W.Frag}{M:Addr->Prop}{H:Hp}:∀ (n:Nat) {vs:List V}{xs:List PV},Reps K M H vs xs->Reps K M H (vs.eraseIdx n) (xs.eraseIdx n)
 | _,_,_,.nil=>.nil
 | 0,_,_,.cons _ t=>t
 | n+1,_,_,.cons r t=>.cons r (Reps.eraseIdx n t)
abbrev intz (ns:List Int):List PV:=ns.map PV.int
theorem Reps.intz {K:PySem.W.Frag}{M:Addr->Prop}{H:Hp}:∀ (ns:List Int),Reps K M H (ns.map V.int) (intz ns)
 | []=>.nil
 | n :: r=>.cons (.int n) (Reps.intz r)
theorem Reps.ofInts {K:PySem.W.Frag}{M:Addr->Prop}{H:Hp}:∀ {ns:List Int}{us:List V},Reps K M H us (PP.intz ns)->us=ns.map V.int
 | [],_,.nil=>rfl
 | n :: r,_,.cons q t=>by
  cases q
  rw [Reps.ofInts t]; rfl
theorem iL:∀ (ns:List Int),flats (intz ns)=true
 | []=>rfl
 | n :: r=>by show (flat (.int n) && flats (intz r))=true; rw [iL r]; rfl
inductive Tg | rd | sh | nw | fr
inductive Slot | sh (g:Bool) (x:PV) | own (x:PV)
def Slot.val:Slot->PV
 | .sh _ x=>x
 | .own x=>x
def Slot.tag:Slot->Tg
 | .sh true _=>.nw
 | .sh false _=>.sh
 | .own _=>.rd
abbrev bH:=List (Option Slot)
def Ms (H0:Hp) (W:Addr->Prop):Bool->Addr->Prop
 | false,a=>¬ W a
 | true,a=>¬ W a/\H0 a=none
def Mg (H0:Hp) (W:Addr->Prop) (Hs:Hp):Tg->Addr->Prop
 | .rd,_=>True
 | .sh,a=>¬ W a
 | .nw,a=>¬ W a/\H0 a=none
 | .fr,a=>Hs a=none
def hU (K:PySem.W.Frag) (M:Addr->Prop) (H:Hp) (a:Addr):PV->Prop
 | .lst xs=>∃ us,H a=some (.lst us)/\Reps K M H us xs
 | .dK ps=>∃ kvs,H a=some (.dK kvs)/\kvs.map (·.1)=ps.map (·.1)/\Reps K M H (kvs.map (·.2)) (ps.map (·.2))
 | .dT ps=>∃ kvs,H a=some (.dT kvs)/\kvs.map (·.1)=ps.map (·.1)/\Reps K M H (kvs.map (·.2)) (ps.map (·.2))
 | _=>False
def K1 (K:PySem.W.Frag) (H0:Hp) (W:Addr->Prop) (H:Hp) (v:V):Slot->Prop
 | .sh g x=>aJ K (Ms H0 W g) H v x
 | .own x=>∃ a,v = .ref a/\W a/\hU K (Ms H0 W true) H a x
structure PX (K:PySem.W.Frag) (H0:Hp) (W:Addr->Prop) (σ:St) (ρ:bH) (H:Hp):Prop where
 len:ρ.length=σ.length
 same:aG H0 H
 wm:∀ a,W a->H0 a=none/\∃ o,H a=some o/\fN o=true
 sl:∀ (i:Nat) (m:Slot),ρ[i]? = some (some m)->∃ v,σ[i]? = some (some v)/\K1 K H0 W H v m
 dis:∀ (i j:Nat) (x y:PV) (a:Addr),ρ[i]? = some (some (.own x))->ρ[j]? = some (some (.own y))->σ[i]? = some (some (.ref a))->σ[j]? = some (some (.ref a))->i=j
theorem hU.keep {K:PySem.W.Frag}{M M':Addr->Prop}{H H':Hp}{a:Addr} (k:hJ M M' H H') (ha:∀ o,H a=some o->H' a=some o):∀ {x:PV},hU K M H a x->hU K M' H' a x
 | .lst _,⟨us,e,r⟩=>⟨us,ha _ e,r.keep k⟩
 | .dK _,⟨us,e,q,r⟩=>⟨us,ha _ e,q,r.keep k⟩
 | .dT _,⟨us,e,q,r⟩=>⟨us,ha _ e,q,r.keep k⟩
theorem hU.at {K:PySem.W.Frag}{M:Addr->Prop}{H:Hp}{a:Addr}:∀ {x:PV},hU K M H a x->∃ o,H a=some o/\fN o=true
 | .lst _,⟨us,e,r⟩=>⟨_,e,rfl⟩
 | .dK _,⟨us,e,q,r⟩=>⟨_,e,rfl⟩
 | .dT _,⟨us,e,q,r⟩=>⟨_,e,rfl⟩
theorem hU.rep {K:PySem.W.Frag}{M M':Addr->Prop}{H:Hp}{a:Addr} (m:∀ b,M b->M' b) (ha:M' a):∀ {x:PV},hU K M H a x->aJ K M' H (.ref a) x
 | .lst _,⟨us,e,r⟩=>.lst ha e (r.same (aG.refl _) m)
 | .dK _,⟨us,e,q,r⟩=>.dK ha e q (r.same (aG.refl _) m)
 | .dT _,⟨us,e,q,r⟩=>.dT ha e q (r.same (aG.refl _) m)
section
variable {K : PySem.W.Frag} {H0 : Hp} {W W' : Addr → Prop} {σ : St} {ρ : bH} {H H' : Hp}
theorem PX.mono (p:PX K H0 W σ ρ H) (s:aG H H'):PX K H0 W σ ρ H':=by
 refine⟨p.len,p.same.trans s,fun a h=>⟨(p.wm a h).1,let ⟨o,e,m⟩:=(p.wm a h).2; ⟨o,s _ _ e,m⟩⟩,fun i m h=>?_,p.dis⟩
 obtain ⟨v,e,r⟩:=p.sl i m h
 refine⟨v,e,?_⟩
 cases m with
 | sh g x=>exact aJ.same r s fun _ z=>z
 | own x=>
  obtain ⟨a,e1,e2,r⟩:=r
  exact⟨a,e1,e2,r.keep (.same s fun _ z=>z) fun _ z=>s _ _ z⟩
theorem PX.new (p:PX K H0 W σ ρ H) {a:Addr} (h:H a=none) : ¬ W a/\H0 a=none:=
 ⟨fun z=>(by obtain ⟨_,o,e,_⟩:=p.wm a z; rw [h] at e; cases e),p.same.free h⟩
theorem Mg.back {g:Tg}{H1:Hp} (s:aG H H1) {a:Addr} (h:Mg H0 W H1 g a):Mg H0 W H g a:=by
 cases g with
 | fr=>exact s.free h
 | rd=>exact h
 | sh=>exact h
 | nw=>exact h
end
abbrev PK:=PV->Tg->Prop
abbrev aE:=bH->PK->Prop
abbrev cM:=bH->(Bool->Prop)->Prop
abbrev cR:=bH->(List (PV × Tg)->Prop)->Prop
inductive hV (K:PySem.W.Frag) (H0:Hp) (W:Addr->Prop) (Hs H:Hp):List V->List (PV × Tg)->Prop
 | nil:hV K H0 W Hs H [] []
 | cons {v:V}{x:PV}{g:Tg}{vs:List V}{xs:List (PV × Tg)}:aJ K (Mg H0 W Hs g) H v x->hV K H0 W Hs H vs xs->hV K H0 W Hs H (v :: vs) ((x,g) :: xs)
def qD (K:PySem.W.Frag) (H0:Hp) (W:Addr->Prop) (H:Hp) (Q:PK) (Q':VK):Prop:=∀ v H' x g,aG H H'->aJ K (Mg H0 W H g) H' v x->Q x g->Q' v H'
def LE (X:Cx) (t:aE):TE:=fun σ H Q'=>∃ (W:Addr->Prop) (ρ:bH) (Q:PK),PX X.K X.H₀ W σ ρ H/\t ρ Q/\qD X.K X.H₀ W H Q Q'
def LT (X:Cx) (t:cM):TT:=fun σ H Q'=>∃ (W:Addr->Prop) (ρ:bH) (Q:Bool->Prop),PX X.K X.H₀ W σ ρ H/\t ρ Q/\∀ b H',aG H H'->Q b->Q' b H'
def LA (X:Cx) (t:cR):TA:=fun σ H Q'=>∃ (W:Addr->Prop) (ρ:bH) (Q:List (PV × Tg)->Prop),PX X.K X.H₀ W σ ρ H/\t ρ Q/\∀ vs H' xs,aG H H'->hV X.K X.H₀ W H H' vs xs->Q xs->Q' vs H'
theorem hV.same {K:PySem.W.Frag}{H0:Hp}{W:Addr->Prop}{Hs Hs' H H':Hp} (s:aG H H') (b:aG Hs' Hs):∀ {vs:List V}{xs:List (PV × Tg)},hV K H0 W Hs H vs xs->hV K H0 W Hs' H' vs xs
 | _,_,.nil=>.nil
 | _,_,.cons r t=>.cons (r.same s fun _ z=>Mg.back b z) (t.same s b)
theorem hV.any {K:PySem.W.Frag}{H0:Hp}{W:Addr->Prop}{Hs H:Hp}:∀ {vs:List V}{xs:List (PV × Tg)},hV K H0 W Hs H vs xs->Reps K (fun _=>True) H vs (xs.map (·.1))
 | _,_,.nil=>.nil
 | _,_,.cons r t=>.cons (r.same (aG.refl _) fun _ _=>trivial) t.any
def Nw:Tg->PV->Prop
 | .fr,_=>True
 | .nw,_=>True
 | _,x=>flat x=true
section
variable {K : PySem.W.Frag} {H0 Hs H : Hp} {W : Addr → Prop} {σ : St} {ρ : bH}
theorem Nw.rep {g:Tg}{x:PV}{v:V} (px:PX K H0 W σ ρ Hs) (n:Nw g x) (r:aJ K (Mg H0 W Hs g) H v x):aJ K (Ms H0 W true) H v x:=by
 cases g with
 | fr=>exact r.same (aG.refl _) fun a z=>px.new z
 | nw=>exact r.same (aG.refl _) fun a z=>z
 | sh=>exact r.flat n
 | rd=>exact r.flat n
theorem K4 {v:V}{m:Slot} (r:K1 K H0 W H v m):aJ K (Mg H0 W Hs m.tag) H v m.val:=by
 cases m with
 | sh g x=>
  cases g with
  | true=>exact aJ.same r (aG.refl _) fun _ z=>z
  | false=>exact aJ.same r (aG.refl _) fun _ z=>z
 | own x=>
  obtain ⟨a,rfl,_,r⟩:=r
  exact r.rep (fun _ _=>trivial) trivial
end
section
variable {X : Cx} {σ : St} {H : Hp} {Q' : VK} {ta tb : aE}
def a5 (i:Nat):aE:=fun ρ Q=>∃ m,ρ[i]? = some (some m)/\Q m.val m.tag
def qC (x:PV):aE:=fun _ Q=>Q x .fr
theorem ay3 {i:Nat} (h:LE X (a5 i) σ H Q'):gV i σ H Q':=by
 obtain ⟨W,ρ,Q,px,⟨m,e,q⟩,k⟩:=h
 obtain ⟨v,ev,r⟩:=px.sl i m e
 exact⟨v,ev,k v H _ _ (aG.refl _) (K4 r) q⟩
theorem nN {x:PV}{v:V} (hr:∀ M,aJ X.K M H v x) (h:LE X (qC x) σ H Q'):tC v σ H Q':=by
 obtain ⟨W,ρ,Q,px,q,k⟩:=h
 exact k v H _ _ (aG.refl _) (hr _) q
def dL (X:Cx) (R:PV->Tg->PV->Tg->PK->Prop) (r:R2):Prop:=∀ (W:Addr->Prop) (Hs H:Hp) (u v:V) (x y:PV) (g g':Tg) (Q:PK) (Q':VK),aG Hs H->
 (∀ a,Hs a=none->¬ W a/\X.H₀ a=none)->aJ X.K (Mg X.H₀ W Hs g) H u x->aJ X.K (Mg X.H₀ W Hs g') H v y->R x g y g' Q->(∀ w H' z gz,aG H H'->aJ X.K (Mg X.H₀ W Hs gz) H' w z->Q z gz->Q' w H')->r u v H Q'
def q2 (R:PV->Tg->PV->Tg->PK->Prop) (ta tb:aE):aE:=fun ρ Q=>ta ρ fun x g=>tb ρ fun y g'=>R x g y g' Q
theorem qE {R:PV->Tg->PV->Tg->PK->Prop}{r:R2} (c:dL X R r) (h:LE X (q2 R ta tb) σ H Q'):nF r (LE X ta) (LE X tb) σ H Q':=by
 obtain ⟨W,ρ,Q,px,q,k⟩:=h
 refine⟨W,ρ,_,px,q,fun u H1 x g s1 r1 q1=>⟨W,ρ,_,px.mono s1,q1,fun v H2 y g' s2 r2 q2=>?_⟩⟩
 exact c W H H2 u v x y g g' Q Q' (s1.trans s2) (fun a z=>px.new z) (r1.same s2 fun _ z=>z) (r2.same (aG.refl _) fun _ z=>Mg.back s1 z) q2 fun w H' z gz s3 r3 q3=>k w H' z gz ((s1.trans s2).trans s3) r3 q3
def RI (C:Int->Int->Prop) (f:Int->Int->PV):PV->Tg->PV->Tg->PK->Prop:=fun x _ y _ Q=>∃ i j,x = .int i/\y = .int j/\C i j/\Q (f i j) .fr
def fE (f:Int->Int->PV):PV->Tg->PV->Tg->PK->Prop:=fun x _ y _ Q=>∃ i j,x = .int i/\y = .int j/\Q (f i j) .fr
theorem qF {C:Int->Int->Prop}{f:Int->Int->Int}:dL X (RI C fun i j=>.int (f i j)) (rI C fun i j=>.int (f i j)):=by
 rintro W Hs H u v x y g g' Q Q' s n r1 r2 ⟨i,j,rfl,rfl,c,q⟩ k
 cases r1; cases r2
 exact⟨i,j,rfl,rfl,c,k _ _ _ _ (aG.refl _) (.int _) q⟩
theorem K5 {f:Int->Int->Int}:dL X (fE fun i j=>.int (f i j)) (fS fun i j=>.int (f i j)):=by
 rintro W Hs H u v x y g g' Q Q' s n r1 r2 ⟨i,j,rfl,rfl,q⟩ k
 cases r1; cases r2
 exact⟨i,j,rfl,rfl,k _ _ _ _ (aG.refl _) (.int _) q⟩
theorem lX {f:Int->Int->Bool}:dL X (fE fun i j=>.bl (f i j)) (fS fun i j=>.bl (f i j)):=by
 rintro W Hs H u v x y g g' Q Q' s n r1 r2 ⟨i,j,rfl,rfl,q⟩ k
 cases r1; cases r2
 exact⟨i,j,rfl,rfl,k _ _ _ _ (aG.refl _) (.bl _) q⟩
def lY (neg:Bool):PV->Tg->PV->Tg->PK->Prop:=fun x _ y _ Q=>(∃ i j,x = .int i/\y = .int j/\Q (.bl (if neg=true then !decide (i=j) else decide (i=j))) .fr) ∨ (∃ i j,x = .bl i/\y = .bl j/\Q (.bl (if neg=true then !decide (i=j) else decide (i=j))) .fr)
theorem K6 (i j:Int):decide (V.int i=V.int j)=decide (i=j):=by
 rw [bp3,bj8,bj8]; exact⟨fun z=>V.int.inj z,fun z=>congrArg V.int z⟩
theorem K7 (i j:Bool):decide (V.bl i=V.bl j)=decide (i=j):=by
 rw [bp3,bj8,bj8]; exact⟨fun z=>V.bl.inj z,fun z=>congrArg V.bl z⟩
theorem ay4:dL X (lY false) zV:=by
 rintro W Hs H u v x y g g' Q Q' s n r1 r2 (⟨i,j,rfl,rfl,q⟩ | ⟨i,j,rfl,rfl,q⟩) k
 ·cases r1; cases r2
  exact⟨rfl,by rw [K6]; exact k _ _ _ _ (aG.refl _) (.bl _) q⟩
 ·cases r1; cases r2
  exact⟨rfl,by rw [K7]; exact k _ _ _ _ (aG.refl _) (.bl _) q⟩
theorem ay5:dL X (lY true) uA:=by
 rintro W Hs H u v x y g g' Q Q' s n r1 r2 (⟨i,j,rfl,rfl,q⟩ | ⟨i,j,rfl,rfl,q⟩) k
 ·cases r1; cases r2
  exact⟨rfl,by rw [K6]; exact k _ _ _ _ (aG.refl _) (.bl _) q⟩
 ·cases r1; cases r2
  exact⟨rfl,by rw [K7]; exact k _ _ _ _ (aG.refl _) (.bl _) q⟩
def aT (t:aE):cM:=fun ρ Q=>t ρ fun x _=>∃ b,x = .bl b/\Q b
theorem nO {t:aE}{Q':Bool->Hp->Prop} (h:LT X (aT t) σ H Q'):LE X t σ H fun x H'=>∃ k,x = .bl k/\Q' k H':=by
 obtain ⟨W,ρ,Q,px,q,k⟩:=h
 refine⟨W,ρ,_,px,q,?_⟩
 rintro v H1 x g s r ⟨b,rfl,q⟩
 cases r
 exact⟨b,rfl,k _ _ s q⟩
def kB (t u:cM):cM:=fun ρ Q=>t ρ fun c=>if c=true then u ρ Q else Q false
def fO (t u:cM):cM:=fun ρ Q=>t ρ fun c=>if c=true then Q true else u ρ Q
def hZ (t:cM):cM:=fun ρ Q=>t ρ fun c=>Q (!c)
variable {t u : cM} {Qb : Bool → Hp → Prop}
theorem ay6 (h:LT X (kB t u) σ H Qb):zB (LT X t) (LT X u) σ H Qb:=by
 obtain ⟨W,ρ,Q,px,q,k⟩:=h
 refine⟨W,ρ,_,px,q,fun b H1 s1 q1=>?_⟩
 cases b with
 | true=>exact aY ⟨W,ρ,Q,px.mono s1,by simpa using q1,fun b H2 s2 q2=>k _ _ (s1.trans s2) q2⟩
 | false=>exact aN (k _ _ s1 (by simpa using q1))
theorem ay7 (h:LT X (fO t u) σ H Qb):zC (LT X t) (LT X u) σ H Qb:=by
 obtain ⟨W,ρ,Q,px,q,k⟩:=h
 refine⟨W,ρ,_,px,q,fun b H1 s1 q1=>?_⟩
 cases b with
 | false=>exact aN ⟨W,ρ,Q,px.mono s1,by simpa using q1,fun b H2 s2 q2=>k _ _ (s1.trans s2) q2⟩
 | true=>exact aY (k _ _ s1 (by simpa using q1))
theorem ay8 (h:LT X (hZ t) σ H Qb):zD (LT X t) σ H Qb:=by
 obtain ⟨W,ρ,Q,px,q,k⟩:=h
 exact⟨W,ρ,_,px,q,fun b H1 s1 q1=>k _ _ s1 q1⟩
def iM (ta tb:aE):aE:=fun ρ Q=>ta ρ fun x _=>∃ c,x = .bl c/\if c=true then tb ρ Q else Q (.bl false) .fr
def vO (ta:aE):aE:=fun ρ Q=>ta ρ fun x _=>∃ c,x = .bl c/\Q (.bl (!c)) .fr
theorem qD.back {K:PySem.W.Frag}{H0:Hp}{W:Addr->Prop}{H H1:Hp}{Q:PK} (k:qD K H0 W H Q Q') (s:aG H H1):qD K H0 W H1 Q Q':=fun v H' x g s' r q=>k v H' x g (s.trans s') (r.same (aG.refl _) fun _ z=>Mg.back s z) q
theorem ay9 (h:LE X (iM ta tb) σ H Q'):zE (LE X ta) (LE X tb) σ H Q':=by
 obtain ⟨W,ρ,Q,px,q,k⟩:=h
 refine⟨W,ρ,_,px,q,?_⟩
 rintro v H1 x g s1 r ⟨c,rfl,q⟩
 cases r
 refine⟨c,rfl,?_⟩
 cases c with
 | true=>exact aY ⟨W,ρ,Q,px.mono s1,by simpa using q,k.back s1⟩
 | false=>exact aN (k _ _ _ _ s1 (.bl _) (by simpa using q))
theorem az0 (h:LE X (vO ta) σ H Q'):zF (LE X ta) σ H Q':=by
 obtain ⟨W,ρ,Q,px,q,k⟩:=h
 refine⟨W,ρ,_,px,q,?_⟩
 rintro v H1 x g s1 r ⟨c,rfl,q⟩
 cases r
 exact⟨c,rfl,k _ _ _ _ s1 (.bl _) q⟩
def aA:cR:=fun _ Q=>Q []
def a6 (te:aE) (tr:cR):cR:=fun ρ Q=>te ρ fun x g=>tr ρ fun xs=>Q ((x,g) :: xs)
variable {Qa : List V → Hp → Prop} {tr : cR}
theorem az1 (h:LA X aA σ H Qa):lQ σ H Qa:=by
 obtain ⟨W,ρ,Q,px,q,k⟩:=h
 exact k _ _ _ (aG.refl _) .nil q
theorem az2 (h:LA X (a6 ta tr) σ H Qa):kR (LE X ta) (LA X tr) σ H Qa:=by
 obtain ⟨W,ρ,Q,px,q,k⟩:=h
 refine⟨W,ρ,_,px,q,fun v H1 x g s1 r1 q1=>⟨W,ρ,_,px.mono s1,q1,fun vs H2 xs s2 r2 q2=>?_⟩⟩
 exact k _ _ _ (s1.trans s2) (.cons (r1.same s2 fun _ z=>z) (r2.same (aG.refl _) s1)) q2
def cF (t:cR):aE:=fun ρ Q=>t ρ fun xs=>xs.length<=1000/\flats (xs.map (·.1))=true/\Q (.tup (xs.map (·.1))) .fr
def eS (t:cR):aE:=fun ρ Q=>t ρ fun xs=>xs.length<=1000/\flats (xs.map (·.1))=true/\Q (.lst (xs.map (·.1))) .fr
theorem hV.length {K:PySem.W.Frag}{H0:Hp}{W:Addr->Prop}{Hs H:Hp}:∀ {vs:List V}{xs:List (PV × Tg)},hV K H0 W Hs H vs xs->vs.length=xs.length
 | _,_,.nil=>rfl
 | _,_,.cons _ t=>congrArg (· + 1) t.length
theorem qG {n:Nat} (h:n<=1000):n<=sizeLine:=bp9 (uX h)
theorem az3 (h:LE X (cF tr) σ H Q'):A5 (LA X tr) σ H Q':=by
 obtain ⟨W,ρ,Q,px,q,k⟩:=h
 refine⟨W,ρ,_,px,q,?_⟩
 rintro vs H1 xs s1 r ⟨hl,n,q⟩
 refine⟨by rw [r.length]; exact qG hl,fun p hp=>k _ _ _ .fr (s1.trans (bU hp _)) (.tup bO ?_) q⟩
 exact (r.any.flat n).same (bU hp _) fun _ z=>z
theorem az4 (h:LE X (eS tr) σ H Q'):A6 (LA X tr) σ H Q':=by
 obtain ⟨W,ρ,Q,px,q,k⟩:=h
 refine⟨W,ρ,_,px,q,?_⟩
 rintro vs H1 xs s1 r ⟨hl,n,q⟩
 refine⟨by rw [r.length]; exact qG hl,fun p hp=>k _ _ _ .fr (s1.trans (bU hp _)) (.lst (s1.free hp) bO ?_) q⟩
 exact (r.any.flat n).same (bU hp _) fun _ z=>z
def fF (X:Cx) (R:List PV->(PV->Prop)->Prop) (r:List V->Hp->VK->Prop):Prop:=∀ (H:Hp) (vs:List V) (xs:List PV) (Q:PV->Prop) (Q':VK),Reps X.K (fun _=>True) H vs xs->R xs Q->
 (∀ w H' z,aG H H'->aJ X.K (fun a=>H a=none) H' w z->Q z->Q' w H')->r vs H Q'
def aI (R:List PV->(PV->Prop)->Prop) (t:cR):aE:=fun ρ Q=>t ρ fun xs=>R (xs.map (·.1)) fun z=>Q z .fr
theorem K8 {R:List PV->(PV->Prop)->Prop}{r:List V->Hp->VK->Prop} (c:fF X R r) (h:LE X (aI R tr) σ H Q'):uG r (LA X tr) σ H Q':=by
 obtain ⟨W,ρ,Q,px,q,k⟩:=h
 refine⟨W,ρ,_,px,q,fun vs H1 xs s1 r1 q1=>c H1 vs _ _ Q' r1.any q1 fun w H' z s2 r2 q2=>k w H' z .fr (s1.trans s2) (r2.same (aG.refl _) fun _ z=>s1.free z) q2⟩
end
structure kC where
 nx:bH->Prop
 rt:PV->Prop
 bk:bH->Prop:=fun _=>False
 ct:bH->Prop:=fun _=>False
abbrev aP:=kC->bH->Prop
def Ev (W:Addr->Prop) (H:Hp) (W':Addr->Prop) (H':Hp):Prop:=∀ b o,H b=some o->¬ W b->H' b=some o/\¬ W' b
theorem Ev.trans {W W1 W2:Addr->Prop}{H H1 H2:Hp} (a:Ev W H W1 H1) (b:Ev W1 H1 W2 H2):Ev W H W2 H2:=fun c o h n=>let ⟨h1,n1⟩:=a c o h n; b c o h1 n1
theorem Ev.same {W:Addr->Prop}{H H':Hp} (s:aG H H'):Ev W H W H':=fun c o h n=>⟨s _ _ h,n⟩
theorem Ev.refl (W:Addr->Prop) (H:Hp):Ev W H W H:=Ev.same (aG.refl _)
structure nQ (X:Cx) (W:Addr->Prop) (H:Hp) (D':kC) (D:cQ):Prop where
 nx:∀ W' σ' H' ρ',Ev W H W' H'->PX X.K X.H₀ W' σ' ρ' H'->D'.nx ρ'->D.nx σ' H'
 rt:∀ v H' x,aG X.H₀ H'->aJ X.K (fun a=>X.H₀ a=none) H' v x->D'.rt x->D.rt v H'
 bk:∀ W' σ' H' ρ',Ev W H W' H'->PX X.K X.H₀ W' σ' ρ' H'->D'.bk ρ'->D.bk σ' H'
 ct:∀ W' σ' H' ρ',Ev W H W' H'->PX X.K X.H₀ W' σ' ρ' H'->D'.ct ρ'->D.ct σ' H'
theorem nQ.step {X:Cx}{W W1:Addr->Prop}{H H1:Hp}{D':kC}{D:cQ} (k:nQ X W H D' D) (e:Ev W H W1 H1):nQ X W1 H1 D' D:=
 ⟨fun W' σ' H' ρ' e'=>k.nx W' σ' H' ρ' (e.trans e'),k.rt,fun W' σ' H' ρ' e'=>k.bk W' σ' H' ρ' (e.trans e'),fun W' σ' H' ρ' e'=>k.ct W' σ' H' ρ' (e.trans e')⟩
def LS (X:Cx) (t:aP):TS:=fun D σ H=>∃ (W:Addr->Prop) (ρ:bH) (D':kC),PX X.K X.H₀ W σ ρ H/\t D' ρ/\nQ X W H D' D
theorem fX {α:Type}{l:List α}{i j:Nat}{a b:α} (h:(l.set i a)[j]? = some b):(j=i/\i < l.length/\b=a) ∨ (j ≠ i/\l[j]? = some b):=by
 by_cases e:j=i
 ·subst e
  have hl:j < (l.set j a).length:=(bi3.mp h).1
  rw [bm6] at hl
  rw [bm7 hl] at h
  exact .inl ⟨rfl,hl,(bk5 h).symm⟩
 ·rw [bk2 (Ne.symm e)] at h
  exact .inr ⟨e,h⟩
section
variable {K : PySem.W.Frag} {H0 : Hp} {W W' : Addr → Prop} {σ : St} {ρ : bH} {H H' Hs : Hp}
theorem PX.setSh {i:Nat}{v:V}{g:Bool}{x:PV} (p:PX K H0 W σ ρ H) (r:aJ K (Ms H0 W g) H v x):PX K H0 W (σ.set i (some v)) (ρ.set i (some (.sh g x))) H:=by
 refine⟨by rw [bm6,bm6]; exact p.len,p.same,p.wm,fun j m h=>?_,fun j k y z a h1 h2 h3 h4=>?_⟩
 ·rcases fX h with ⟨rfl,hl,e⟩ | ⟨hne,h⟩
  ·cases e
   rw [p.len] at hl
   exact⟨v,bm7 hl,r⟩
  ·obtain ⟨u,e,q⟩:=p.sl j m h
   exact⟨u,by rw [bk2 (Ne.symm hne)]; exact e,q⟩
 ·rcases fX h1 with ⟨_,_,e⟩ | ⟨n1,h1⟩
  ·cases e
  ·rcases fX h2 with ⟨_,_,e⟩ | ⟨n2,h2⟩
   ·cases e
   ·rw [bk2 (Ne.symm n1)] at h3
    rw [bk2 (Ne.symm n2)] at h4
    exact p.dis j k y z a h1 h2 h3 h4
theorem PX.setNone {i:Nat}{o:Option V} (p:PX K H0 W σ ρ H):PX K H0 W (σ.set i o) (ρ.set i none) H:=by
 refine⟨by rw [bm6,bm6]; exact p.len,p.same,p.wm,fun j m h=>?_,fun j k y z a h1 h2 h3 h4=>?_⟩
 ·rcases fX h with ⟨rfl,hl,e⟩ | ⟨hne,h⟩
  ·cases e
  ·obtain ⟨u,e,q⟩:=p.sl j m h
   exact⟨u,by rw [bk2 (Ne.symm hne)]; exact e,q⟩
 ·rcases fX h1 with ⟨_,_,e⟩ | ⟨n1,h1⟩
  ·cases e
  ·rcases fX h2 with ⟨_,_,e⟩ | ⟨n2,h2⟩
   ·cases e
   ·rw [bk2 (Ne.symm n1)] at h3
    rw [bk2 (Ne.symm n2)] at h4
    exact p.dis j k y z a h1 h2 h3 h4
def lZ (W:Addr->Prop) (a:Addr):Addr->Prop:=fun b=>W b ∨ b=a
theorem vP {g:Bool}{a b:Addr} (n:b ≠ a) (h:Ms H0 W g b):Ms H0 (lZ W a) g b:=by
 cases g with
 | true=>exact⟨fun z=>z.elim h.1 n,h.2⟩
 | false=>exact fun z=>z.elim h n
theorem PX.setOwn {i:Nat}{a:Addr}{x:PV} (p:PX K H0 W σ ρ Hs) (s:aG Hs H) (ha:Hs a=none) (r:hU K (Ms H0 (lZ W a) true) H a x):PX K H0 (lZ W a) (σ.set i (some (.ref a))) (ρ.set i (some (.own x))) H:=by
 have old:∀ b o,Hs b=some o->b ≠ a:=fun b o e z=>by rw [z,ha] at e; cases e
 have kp:∀ g,hJ (Ms H0 W g) (Ms H0 (lZ W a) g) Hs H:=fun g=>⟨fun b _ m e=>⟨vP (old _ _ e) m,s _ _ e⟩,fun b _ m e=>⟨vP (old _ _ e) m,s _ _ e⟩,fun b _ m e=>⟨vP (old _ _ e) m,s _ _ e⟩,fun _ _ e=>s _ _ e,fun _ _ _ e=>s _ _ e⟩
 have wa : ¬ W a:=(p.new ha).1
 refine⟨by rw [bm6,bm6]; exact p.len,p.same.trans s,fun b z=>?_,fun j m h=>?_,fun j k y z b h1 h2 h3 h4=>?_⟩
 ·rcases z with z | rfl
  ·obtain ⟨h1,o,h2,h3⟩:=p.wm b z
   exact⟨h1,o,s _ _ h2,h3⟩
  ·exact⟨(p.new ha).2,r.at⟩
 ·rcases fX h with ⟨rfl,hl,e⟩ | ⟨hne,h⟩
  ·cases e
   rw [p.len] at hl
   exact⟨_,bm7 hl,a,rfl,.inr rfl,r⟩
  ·obtain ⟨u,e,q⟩:=p.sl j m h
   refine⟨u,by rw [bk2 (Ne.symm hne)]; exact e,?_⟩
   cases m with
   | sh g y=>exact aJ.keep (kp g) q
   | own y=>
    obtain ⟨b,e1,e2,q⟩:=q
    exact⟨b,e1,.inl e2,q.keep (kp true) fun o z=>s _ _ z⟩
 ·have ne:∀ {j:Nat}{y:PV},ρ[j]? = some (some (.own y))->σ[j]? ≠ some (some (.ref a)):=fun {j y} h1 h2=>by
   obtain ⟨u,e,c,e1,e2,_⟩:=p.sl j _ h1
   rw [h2] at e
   cases e
   cases e1
   exact wa e2
  rcases fX h1 with ⟨e1,l1,_⟩ | ⟨n1,h1⟩
  ·rcases fX h2 with ⟨e2,_,_⟩ | ⟨n2,h2⟩
   ·rw [e1,e2]
   ·rw [e1,bm7 (by rw [<- p.len]; exact l1)] at h3
    rw [bk2 (Ne.symm n2)] at h4
    cases h3
    exact absurd h4 (ne h2)
  ·rw [bk2 (Ne.symm n1)] at h3
   rcases fX h2 with ⟨e2,l2,_⟩ | ⟨n2,h2⟩
   ·rw [e2,bm7 (by rw [<- p.len]; exact l2)] at h4
    cases h4
    exact absurd h3 (ne h1)
   ·rw [bk2 (Ne.symm n2)] at h4
    exact p.dis j k y z b h1 h2 h3 h4
theorem Ev.own {a:Addr} (s:aG Hs H) (ha:Hs a=none):Ev W Hs (lZ W a) H:=fun b o e n=>⟨s _ _ e,fun z=>z.elim n fun z=>by rw [z,ha] at e; cases e⟩
theorem iN {g:Bool}{a b:Addr} (wa:W a) (h:Ms H0 W g b):b ≠ a:=by
 cases g with
 | true=>exact fun z=>h.1 (by rw [z]; exact wa)
 | false=>exact fun z=>h (by rw [z]; exact wa)
theorem PX.updOwn {i:Nat}{a:Addr}{x y:PV}{o:HO} (p:PX K H0 W σ ρ H) (hi:ρ[i]? = some (some (.own x))) (ha:σ[i]? = some (some (.ref a))) (wa:W a) (mu:fN o=true) (r:hU K (Ms H0 W true) (upd H a o) a y) :
  PX K H0 W σ (ρ.set i (some (.own y))) (upd H a o):=by
 obtain ⟨w0,o',e',mu'⟩:=p.wm a wa
 have kp:∀ g,hJ (Ms H0 W g) (Ms H0 W g) H (upd H a o):=fun g=>.upd e' mu' fun b m=>⟨iN wa m,m⟩
 refine⟨by rw [bm6]; exact p.len,fun b u e=>by rw [aW (fun z=>by rw [z,w0] at e; cases e)]; exact p.same _ _ e,fun b z=>?_,fun j m h=>?_,fun j k y' z b h1 h2 h3 h4=>?_⟩
 ·by_cases e:b=a
  ·subst e; exact⟨w0,o,bO,mu⟩
  ·obtain ⟨h1,o2,h2,h3⟩:=p.wm b z
   exact⟨h1,o2,by rw [aW e]; exact h2,h3⟩
 ·rcases fX h with ⟨rfl,hl,e⟩ | ⟨hne,h⟩
  ·cases e
   exact⟨_,ha,a,rfl,wa,r⟩
  ·obtain ⟨u,e,q⟩:=p.sl j m h
   refine⟨u,e,?_⟩
   cases m with
   | sh g y=>exact aJ.keep (kp g) q
   | own y=>
    obtain ⟨b,e1,e2,q⟩:=q
    have hb:b ≠ a:=fun z=>by
     subst e1
     rw [z] at e
     exact hne (p.dis j i _ _ a h hi e ha)
    exact⟨b,e1,e2,q.keep (kp true) fun o z=>by rw [aW hb]; exact z⟩
 ·have g1:∃ y,ρ[j]? = some (some (.own y)):=by
   rcases fX h1 with ⟨e,_,_⟩ | ⟨_,h⟩
   ·exact⟨x,by rw [e]; exact hi⟩
   ·exact⟨_,h⟩
  have g2:∃ y,ρ[k]? = some (some (.own y)):=by
   rcases fX h2 with ⟨e,_,_⟩ | ⟨_,h⟩
   ·exact⟨x,by rw [e]; exact hi⟩
   ·exact⟨_,h⟩
  obtain ⟨y1,g1⟩:=g1
  obtain ⟨y2,g2⟩:=g2
  exact p.dis j k y1 y2 b g1 g2 h3 h4
theorem Ev.upd {a:Addr}{o:HO} (wa:W a):Ev W H W (upd H a o):=fun b u e n=>⟨by rw [aW (fun z=>n (by rw [z]; exact wa))]; exact e,n⟩
end
section
variable {X : Cx} {σ : St} {H : Hp} {D : cQ} {te : aE} {t u : aP}
def c8:aP:=fun D ρ=>D.nx ρ
def aF (t u:aP):aP:=fun D ρ=>t { D with nx:=u D } ρ
theorem az5 (h:LS X c8 D σ H):zG D σ H:=by
 obtain ⟨W,ρ,D',px,q,k⟩:=h
 exact k.nx W σ H ρ (Ev.refl _ _) px q
theorem az6 (h:LS X (aF t u) D σ H):zH (LS X t) (LS X u) D σ H:=by
 obtain ⟨W,ρ,D',px,q,k⟩:=h
 exact⟨W,ρ,_,px,q,fun W' σ' H' ρ' e px' q'=>⟨W',ρ',D',px',q',k.step e⟩,k.rt,k.bk,k.ct⟩
def vQ:Tg->PV->Bool
 | .fr,_=>true
 | .nw,_=>true
 | _,x=>flat x
def vR:Tg->PV->Prop
 | .rd,x=>flat x=true
 | _,_=>True
theorem K9 {K:PySem.W.Frag}{H0 Hs H:Hp}{W:Addr->Prop}{σ:St}{ρ:bH}{g:Tg}{x:PV}{v:V} (px:PX K H0 W σ ρ Hs) (n:vR g x) (r:aJ K (Mg H0 W Hs g) H v x):aJ K (Ms H0 W (vQ g x)) H v x:=by
 cases g with
 | fr=>exact Nw.rep (g:=.fr) px trivial r
 | nw=>exact Nw.rep (g:=.nw) px trivial r
 | sh=>
  show aJ K (Ms H0 W (flat x)) H v x
  cases e:flat x with
  | true=>exact r.flat e
  | false=>exact r.same (aG.refl _) fun _ z=>z
 | rd=>exact r.flat n
def b6 (i:Nat) (te:aE):aP:=fun D ρ=>te ρ fun x g=>vR g x/\D.nx (ρ.set i (some (.sh (vQ g x) x)))
theorem vS {i:Nat} (h:LS X (b6 i te) D σ H):jA (LE X te) (dF i) D σ H:=by
 obtain ⟨W,ρ,D',px,q,k⟩:=h
 refine⟨W,ρ,_,px,q,?_⟩
 rintro v H1 x g s r ⟨n,q⟩
 exact k.nx W _ H1 _ (Ev.same s) ((px.mono s).setSh (K9 px n r)) q
def L4:PV->Bool
 | .lst xs=>flats xs
 | .dK ps=>flats (ps.map (·.2))
 | .dT ps=>flats (ps.map (·.2))
 | _=>false
theorem az7 {K:PySem.W.Frag}{M:Addr->Prop}{H:Hp}{v:V}{x:PV} (r:aJ K M H v x) (o:L4 x=true):∃ a,v = .ref a/\M a/\∀ M',hU K M' H a x:=by
 cases r with
 | lst m e r=>exact⟨_,rfl,m,fun _=>⟨_,e,r.flat o⟩⟩
 | dK m e q r=>exact⟨_,rfl,m,fun _=>⟨_,e,q,r.flat o⟩⟩
 | dT m e q r=>exact⟨_,rfl,m,fun _=>⟨_,e,q,r.flat o⟩⟩
 | _=>cases o
def dY (i:Nat) (te:aE):aP:=fun D ρ=>te ρ fun x g=>g = .fr/\L4 x=true/\D.nx (ρ.set i (some (.own x)))
theorem az8 {i:Nat} (h:LS X (dY i te) D σ H):jA (LE X te) (dF i) D σ H:=by
 obtain ⟨W,ρ,D',px,q,k⟩:=h
 refine⟨W,ρ,_,px,q,?_⟩
 rintro v H1 x g s r ⟨rfl,o,q⟩
 obtain ⟨a,rfl,m,w⟩:=az7 r o
 exact k.nx _ _ H1 _ (Ev.own s m) (px.setOwn s m (w _)) q
def qH (te:aE):aP:=fun D ρ=>te ρ fun _ _=>D.nx ρ
theorem az9 (h:LS X (qH te) D σ H):pF (LE X te) D σ H:=by
 obtain ⟨W,ρ,D',px,q,k⟩:=h
 exact⟨W,ρ,_,px,q,fun v H1 x g s r q=>k.nx W σ H1 ρ (Ev.same s) (px.mono s) q⟩
def bC (te:aE):aP:=fun D ρ=>te ρ fun x g=>Nw g x/\D.rt x
theorem aA0 (h:LS X (bC te) D σ H):tW (LE X te) D σ H:=by
 obtain ⟨W,ρ,D',px,q,k⟩:=h
 refine⟨W,ρ,_,px,q,?_⟩
 rintro v H1 x g s r ⟨n,q⟩
 exact k.rt v H1 x (px.same.trans s) ((Nw.rep px n r).same (aG.refl _) fun _ z=>z.2) q
def Slot.nw:Slot->Prop
 | .own _=>True
 | .sh true _=>True
 | .sh false x=>flat x=true
def kX (i:Nat):aP:=fun D ρ=>∃ m,ρ[i]? = some (some m)/\m.nw/\D.rt m.val
theorem aA1 {i:Nat} (h:LS X (kX i) D σ H):tW (gV i) D σ H:=by
 obtain ⟨W,ρ,D',px,⟨m,hi,n,q⟩,k⟩:=h
 obtain ⟨v,ev,r⟩:=px.sl i _ hi
 refine⟨v,ev,k.rt v H _ px.same ?_ q⟩
 cases m with
 | own x=>
  obtain ⟨a,rfl,wa,r⟩:=r
  exact r.rep (fun _ z=>z.2) (px.wm a wa).1
 | sh g x=>
  cases g with
  | true=>exact aJ.same r (aG.refl _) fun _ z=>z.2
  | false=>exact aJ.flat n r
def bY (c:cM) (t u:aP):aP:=fun D ρ=>c ρ fun b=>if b=true then t D ρ else u D ρ
theorem aA2 {c:cM} (h:LS X (bY c t u) D σ H):zI (LT X c) (LS X t) (LS X u) D σ H:=by
 obtain ⟨W,ρ,D',px,q,k⟩:=h
 refine⟨W,ρ,_,px,q,fun b H1 s q1=>?_⟩
 cases b with
 | true=>exact aY ⟨W,ρ,D',px.mono s,by simpa using q1,k.step (Ev.same s)⟩
 | false=>exact aN ⟨W,ρ,D',px.mono s,by simpa using q1,k.step (Ev.same s)⟩
def nR (c:cM) (tb:aP):aP:=fun D ρ=>∃ I:Nat->bH->Prop,(∃ m,I m ρ)/\∀ m ρ',I m ρ'->c ρ' fun b=>if b=true then tb { D with nx:=fun ρ2=>∃ m',m' < m/\I m' ρ2,ct:=fun ρ2=>∃ m',m' < m/\I m' ρ2,bk:=D.nx } ρ' else D.nx ρ'
theorem aA3 {c:cM}{tb:aP} (h:LS X (nR c tb) D σ H):zM (LT X c) (LS X tb) D σ H:=by
 obtain ⟨W,ρ,D',px,⟨I,⟨m0,i0⟩,turn⟩,k⟩:=h
 refine⟨fun m σ2 H2=>∃ W2 ρ2,PX X.K X.H₀ W2 σ2 ρ2 H2/\Ev W H W2 H2/\I m ρ2,⟨m0,W,ρ,px,Ev.refl _ _,i0⟩,?_⟩
 rintro m σ2 H2 ⟨W2,ρ2,px2,e2,i2⟩
 refine⟨W2,ρ2,_,px2,turn m ρ2 i2,fun b H3 s3 q3=>?_⟩
 cases b with
 | true=>
  refine aY ⟨fun σ4 H4=>∃ W4 ρ4,PX X.K X.H₀ W4 σ4 ρ4 H4/\Ev W H W4 H4/\∃ m',m' < m/\I m' ρ4,fun σ4 H4 ⟨W4,ρ4,a,b,m',c,d⟩=>⟨m',c,W4,ρ4,a,b,d⟩,W2,ρ2,_,px2.mono s3,by simpa using q3,?_⟩
  have e3:Ev W H W2 H3:=e2.trans (Ev.same s3)
  exact⟨fun W' σ' H' ρ' e p q=>⟨W',ρ',p,e3.trans e,q⟩,k.rt,fun W' σ' H' ρ' e p q=>k.nx W' σ' H' ρ' (e3.trans e) p q,fun W' σ' H' ρ' e p q=>⟨W',ρ',p,e3.trans e,q⟩⟩
 | false=>exact aN (k.nx W2 σ2 H3 ρ2 (e2.trans (Ev.same s3)) (px2.mono s3) (by simpa using q3))
end
theorem lim {n:Nat} (h:n<=16000000):n<=sizeLine:=bp9 (kA h)
theorem aJ.sqT {K:PySem.W.Frag}{M:Addr->Prop}{H:Hp}{v:V}{xs:List PV} (r:aJ K M H v (.tup xs)):∃ a us,v = .ref a/\H a=some (.tup us)/\Reps K M H us xs:=by
 cases r with
 | tup e r=>exact⟨_,_,rfl,e,r⟩
theorem aJ.sqL {K:PySem.W.Frag}{M:Addr->Prop}{H:Hp}{v:V}{xs:List PV} (r:aJ K M H v (.lst xs)):∃ a us,v = .ref a/\M a/\H a=some (.lst us)/\Reps K M H us xs:=by
 cases r with
 | lst m e r=>exact⟨_,_,rfl,m,e,r⟩
theorem jF.sqL {K:PySem.W.Frag}{H:Hp}{a:Addr}{ns:List Int} (h:jF K H a ns):aR K H a (ns.map V.int):=h.elim (fun z=>.inl (.inr z)) .inr
def i4:PV->Option (List PV)
 | .tup xs=>some xs
 | .lst xs=>some xs
 | .scr ns=>some (intz ns)
 | .kt xs=>some xs
 | _=>none
theorem aJ.seq {K:PySem.W.Frag}{M:Addr->Prop}{H:Hp}{v:V}{x:PV}{xs:List PV} (r:aJ K M H v x) (e:i4 x=some xs):∃ a us,v = .ref a/\(aR K H a us ∨ aO K H a us)/\Reps K M H us xs:=by
 cases r with
 | tup h r=>cases e; exact⟨_,_,rfl,.inr (aO.of h),r⟩
 | lst m h r=>cases e; exact⟨_,_,rfl,.inl (aR.of h),r⟩
 | scr h=>cases e; exact⟨_,_,rfl,.inl h.sqL,Reps.intz _⟩
 | kt h r=>cases e; exact⟨_,_,rfl,.inr (.inr h),r⟩
 | _=>cases e
section
variable {X : Cx} {σ : St} {H : Hp} {D : cQ} {te ti to : aE} {t u : aP} {Q' : VK}
theorem _root_.PP.PX.updL {K:PySem.W.Frag}{H0:Hp}{W:Addr->Prop}{σ:St}{ρ:bH}{H:Hp}{i:Nat}{a:Addr}{x:PV}{us:List V}{ys:List PV} (p:PX K H0 W σ ρ H) (hi:ρ[i]? = some (some (.own x))) (ha:σ[i]? = some (some (.ref a))) (wa:W a) (r:Reps K (Ms H0 W true) (upd H a (.lst us)) us ys) :
  PX K H0 W σ (ρ.set i (some (.own (.lst ys)))) (upd H a (.lst us)):=p.updOwn hi ha wa rfl (y:=.lst ys) ⟨us,bO,r⟩
def kD (i:Nat) (te:aE):aP:=fun D ρ=>∃ xs,ρ[i]? = some (some (.own (.lst xs)))/\te ρ fun x g=>Nw g x/\xs.length < 16000000/\D.nx (ρ.set i (some (.own (.lst (xs ++ [x])))))
theorem aA4 {i:Nat} (h:LS X (kD i te) D σ H):pF (C8 X.K "list" E2 (gV i) (kR (LE X te) lQ)) D σ H:=by
 obtain ⟨W,ρ,D',px,⟨xs,hi,q⟩,k⟩:=h
 obtain ⟨v,ev,a,rfl,wa,us,ea,r⟩:=px.sl i _ hi
 refine⟨_,ev,pZ (aR.of ea),W,ρ,_,px,q,?_⟩
 rintro w H1 x g s rx ⟨n,hl,q⟩
 have ea1:=s _ _ ea
 refine⟨a,us,w,rfl,rfl,ea1,kA (by rw [r.length]; omega),?_⟩
 refine k.nx W σ _ _ ((Ev.same s).trans (Ev.upd wa)) ((px.mono s).updL hi ev wa ?_) q
 exact ((r.same s fun _ z=>z).append (.cons (Nw.rep px n rx) .nil)).keep (.upd ea1 rfl fun b m=>⟨iN wa m,m⟩)
def vT (i j:Nat):aP:=fun D ρ=>∃ xs y,ρ[i]? = some (some (.own (.lst (xs ++ [y]))))/\D.nx ((ρ.set i (some (.own (.lst xs)))).set j (some (.sh true y)))
theorem Reps.snoc_inv {K:PySem.W.Frag}{M:Addr->Prop}{H:Hp}{us:List V}{xs:List PV}{y:PV} (r:Reps K M H us (xs ++ [y])):∃ vs v,us=vs ++ [v]/\Reps K M H vs xs/\aJ K M H v y:=by
 have l:=r.length
 have h1:=r.take xs.length
 have h2:=r.drop xs.length
 rw [List.take_left] at h1
 rw [List.drop_left] at h2
 generalize hd:us.drop xs.length=ds at h2
 cases h2 with
 | cons q t=>
  cases t
  exact⟨_,_,by rw [<- hd,bl4],h1,q⟩
theorem aA5 {i j:Nat} (h:LS X (vT i j) D σ H):jA (C7 X.K "list" E3 (gV i)) (dF j) D σ H:=by
 obtain ⟨W,ρ,D',px,⟨xs,y,hi,q⟩,k⟩:=h
 obtain ⟨v,ev,a,rfl,wa,us,ea,r⟩:=px.sl i _ hi
 obtain ⟨vs,w,rfl,r1,ry⟩:=r.snoc_inv
 refine⟨_,ev,pZ (aR.of ea),a,_,w,rfl,rfl,ea,by simp,?_⟩
 rw [List.dropLast_concat]
 have kp:hJ (Ms X.H₀ W true) (Ms X.H₀ W true) H (upd H a (.lst vs)):=.upd ea rfl fun b m=>⟨iN wa m,m⟩
 exact k.nx W _ _ _ (Ev.upd wa) ((px.updL hi ev wa (r1.keep kp)).setSh (ry.keep kp)) q
end
theorem Reps.atI {K:PySem.W.Frag}{M:Addr->Prop}{H:Hp}{us:List V}{xs:List PV}{i:Int}{z:PV} (r:Reps K M H us xs) (h:L2.atI xs i=some z):∃ v,L2.atI us i=some v/\aJ K M H v z:=by
 unfold L2.atI at h ⊢
 rw [r.length]
 cases e:fJ xs.length i with
 | none=>rw [e] at h; cases h
 | some j=>rw [e] at h; exact r.at h
section
variable {X : Cx} {σ : St} {H : Hp} {Q' : VK} {ta tb te : aE} {tr : cR}
def vU:PV->Tg->PV->Tg->PK->Prop:=fun x g y _ Q=>∃ xs i z,i4 x=some xs/\y = .int i/\L2.atI xs i=some z/\Q z g
theorem aA6:dL X vU (C4 X.K):=by
 rintro W Hs H u v x y g g' Q Q' s n r1 r2 ⟨xs,i,z,e,rfl,hz,q⟩ k
 cases r2
 obtain ⟨a,us,rfl,hs,r⟩:=r1.seq e
 obtain ⟨v,hv,rv⟩:=r.atI hz
 rcases hs with hs | hs
 ·exact .inl ⟨a,us,i,v,rfl,rfl,hs,hv,k v H z g (aG.refl _) rv q⟩
 ·exact .inr (.inl ⟨a,us,i,v,rfl,rfl,hs,hv,k v H z g (aG.refl _) rv q⟩)
def qI:PV->Option Nat
 | .tup xs=>some xs.length
 | .lst xs=>some xs.length
 | .scr ns=>some ns.length
 | .dK ps=>some ps.length
 | .kt xs=>some xs.length
 | _=>none
def dS:List PV->(PV->Prop)->Prop:=fun xs Q=>∃ x n,xs = [x]/\qI x=some n/\Q (.int n)
theorem Reps.one {K:PySem.W.Frag}{M:Addr->Prop}{H:Hp}{vs:List V}{x:PV} (r:Reps K M H vs [x]):∃ v,vs = [v]/\aJ K M H v x:=by
 cases r with
 | cons r t=>cases t; exact⟨_,rfl,r⟩
theorem Reps.two {K:PySem.W.Frag}{M:Addr->Prop}{H:Hp}{vs:List V}{x y:PV} (r:Reps K M H vs [x,y]):∃ v w,vs = [v,w]/\aJ K M H v x/\aJ K M H w y:=by
 cases r with
 | cons r t=>
  obtain ⟨w,rfl,q⟩:=t.one
  exact⟨_,_,rfl,r,q⟩
theorem aA7:fF X dS (fun xs H Q=>(∃ p ys,xs = [.ref p]/\(aR X.K H p ys ∨ aO X.K H p ys)/\Q (.int ys.length) H) ∨ ∃ a kvs,xs = [V.ref a]/\H a=some (.dK kvs)/\Q (.int kvs.length) H):=by
 rintro H vs xs Q Q' r ⟨x,n,rfl,e,q⟩ k
 obtain ⟨v,rfl,r1⟩:=r.one
 have fin:∀ {m:Nat},m=n->Q' (.int m) H:=fun {m} z=>by rw [z]; exact k _ _ _ (aG.refl _) (.int _) q
 cases r1 with
 | tup h r2=>cases e; exact .inl ⟨_,_,rfl,.inr (aO.of h),fin r2.length⟩
 | lst m h r2=>cases e; exact .inl ⟨_,_,rfl,.inl (aR.of h),fin r2.length⟩
 | scr h=>cases e; exact .inl ⟨_,_,rfl,.inl h.sqL,fin (by rw [bh8])⟩
 | kt h r2=>cases e; exact .inl ⟨_,_,rfl,.inr (.inr h),fin r2.length⟩
 | dK m h e' r=>
  cases e
  refine .inr ⟨_,_,rfl,h,fin ?_⟩
  have:=congrArg List.length e'
  rw [bh8,bh8] at this
  exact this
 | _=>cases e
def seqT:PV->Option (List PV)
 | .kt _=>none
 | x=>i4 x
def L5:List PV->(PV->Prop)->Prop:=fun xs Q=>∃ x ys,xs = [x]/\seqT x=some ys/\flats ys=true/\Q (.tup ys)
def kY:List PV->(PV->Prop)->Prop:=fun xs Q=>∃ x ys,xs = [x]/\i4 x=some ys/\flats ys=true/\Q (.lst ys)
theorem aA8:fF X (fun xs Q=>L5 xs Q/\∀ ns,xs ≠ [.scr ns]) (fun xs H Q=>∃ p ys,xs = [.ref p]/\((aR X.K H p ys/\∀ l,H l=none->Q (.ref l) (upd H l (.tup ys))) ∨ (aO X.K H p ys/\Q (.ref p) H))):=by
 rintro H vs xs Q Q' r ⟨⟨x,ys,rfl,e,f,q⟩,nsc⟩ k
 obtain ⟨v,rfl,r1⟩:=r.one
 cases r1 with
 | tup h r2=>cases e; exact⟨_,_,rfl,.inr ⟨aO.of h,k _ _ _ (aG.refl _) (.tup h (r2.flat f)) q⟩⟩
 | lst m h r2=>cases e; exact⟨_,_,rfl,.inl ⟨aR.of h,fun l hl=>k _ _ _ (bU hl _) (.tup bO ((r2.flat f).same (bU hl _) fun _ z=>z)) q⟩⟩
 | scr h=>exact absurd rfl (nsc _)
 | _=>cases e
theorem aA9:fF X kY (fun xs H Q=>∃ p ys,xs = [.ref p]/\(aR X.K H p ys ∨ aO X.K H p ys)/\∀ l,H l=none->Q (.ref l) (upd H l (.lst ys))):=by
 rintro H vs xs Q Q' r ⟨x,ys,rfl,e,f,q⟩ k
 obtain ⟨v,rfl,r1⟩:=r.one
 obtain ⟨a,us,rfl,hs,r2⟩:=r1.seq e
 exact⟨_,_,rfl,hs,fun l hl=>k _ _ _ (bU hl _) (.lst hl bO ((r2.flat f).same (bU hl _) fun _ z=>z)) q⟩
def m3:List PV->(PV->Prop)->Prop:=fun xs Q=>∃ bs:List Bool,xs = [.lst (bs.map PV.bl)]/\Q (.bl (bs.all id))
theorem Reps.ofBls {K:PySem.W.Frag}{M:Addr->Prop}{H:Hp}:∀ {ns:List Bool}{us:List V},Reps K M H us (ns.map PV.bl)->us=ns.map V.bl
 | [],_,.nil=>rfl
 | n :: r,_,.cons q t=>by
  cases q
  rw [Reps.ofBls t]; rfl
theorem aB0:fF X m3 (fun xs H Q=>∃ (a:Addr) (bs:List Bool),xs = [.ref a]/\aR X.K H a (bs.map V.bl)/\Q (.bl (bs.all id)) H):=by
 rintro H vs xs Q Q' r ⟨bs,rfl,q⟩ k
 obtain ⟨v,rfl,r1⟩:=r.one
 obtain ⟨a,us,rfl,_,h,r2⟩:=r1.sqL
 obtain rfl:=r2.ofBls
 exact⟨a,bs,rfl,aR.of h,k _ _ _ (aG.refl _) (.bl _) q⟩
def vV:List PV->(PV->Prop)->Prop:=fun xs Q=>∃ i j,xs = [.int i,.int j]/\Q (.int (if j < i then j else i))
def qJ:List PV->(PV->Prop)->Prop:=fun xs Q=>∃ i j,xs = [.int i,.int j]/\Q (.int (if j > i then j else i))
theorem aB1:fF X vV (fun xs H Q=>∃ i j,xs = [.int i,.int j]/\Q (.int (if j < i then j else i)) H):=by
 rintro H vs xs Q Q' r ⟨i,j,rfl,q⟩ k
 obtain ⟨v,w,rfl,r1,r2⟩:=r.two
 cases r1; cases r2
 exact⟨i,j,rfl,k _ _ _ (aG.refl _) (.int _) q⟩
theorem aB2:fF X qJ (fun xs H Q=>∃ i j,xs = [.int i,.int j]/\Q (.int (if j > i then j else i)) H):=by
 rintro H vs xs Q Q' r ⟨i,j,rfl,q⟩ k
 obtain ⟨v,w,rfl,r1,r2⟩:=r.two
 cases r1; cases r2
 exact⟨i,j,rfl,k _ _ _ (aG.refl _) (.int _) q⟩
abbrev bE:=List PV->(PV->Prop)->Prop
def nS (K:PySem.W.Frag) (p:bE):Sp:=fun vs H Q _=>∃ xs Qp,Reps K (fun _=>True) H vs xs/\p xs Qp/\∀ v H' x,aG H H'->aJ K (fun a=>H a=none) H' v x->Qp x->Q v H'
theorem aB3 {p:bE}{E:XK} (h:LE X (aI p tr) σ H Q'):uE (nS X.K p) [] E (LA X tr) σ H Q':=by
 obtain ⟨W,ρ,Q,px,q,k⟩:=h
 refine⟨W,ρ,_,px,q,fun vs H1 xs s1 r1 q1=>⟨_,_,by rw [bk0]; exact r1.any,q1,fun v H' x s2 r2 q2=>k v H' x .fr (s1.trans s2) (r2.same (aG.refl _) fun _ z=>s1.free z) q2⟩⟩
def aB4:PV->Option Bool
 | .non=>some false
 | .bl b=>some b
 | .int i=>some (i != 0)
 | .tup xs=>some (!xs.isEmpty)
 | .lst xs=>some (!xs.isEmpty)
 | .dK ps=>some (!ps.isEmpty)
 | _=>none
def qL (t:aE):cM:=fun ρ Q=>t ρ fun x _=>∃ b,aB4 x=some b/\Q b
theorem vW {α β:Type}:∀ {l:List α}{m:List β},l.length=m.length->l.isEmpty=m.isEmpty
 | [],[],_=>rfl
 | _ :: _,_ :: _,_=>rfl
theorem aB5 {t:aE}{Qb:Bool->Hp->Prop} (h:LT X (qL t) σ H Qb):LE X t σ H fun x H'=>∃ k,uB X.K x H' k/\Qb k H':=by
 obtain ⟨W,ρ,Q,px,q,k⟩:=h
 refine⟨W,ρ,_,px,q,?_⟩
 rintro v H1 x g s r ⟨b,e,q⟩
 refine⟨b,?_,k _ _ s q⟩
 cases r with
 | non=>cases e; rfl
 | bl b=>cases e; rfl
 | int i=>cases e; rfl
 | str x=>cases e
 | tup h r=>cases e; exact .inr (.inl ⟨_,aO.of h,by rw [vW r.length]⟩)
 | lst m h r=>cases e; exact .inl ⟨_,aR.of h,by rw [vW r.length]⟩
 | dK m h e' r=>
  cases e
  refine .inr (.inr ⟨_,h,?_⟩)
  have:=congrArg List.length e'
  rw [bh8,bh8] at this
  rw [vW this]
 | dT m h e' r=>cases e
 | scr h=>cases e
 | kt h r=>cases e
 | exc h e' c=>cases e
 | fK h e' r=>cases e
 | fT h e' r=>cases e
def vX:PV->Bool
 | .non=>true
 | _=>false
def vY (neg:Bool):PV->Tg->PV->Tg->PK->Prop:=fun x _ y _ Q=>y = .non/\Q (.bl (if neg=true then !vX x else vX x)) .fr
theorem aB6 {K:PySem.W.Frag}{M:Addr->Prop}{H:Hp}{v:V}{x:PV} (r:aJ K M H v x):decide (v = .non)=vX x:=by
 cases r <;> rfl
theorem aB7:dL X (vY false) (fun x y H Q=>y = .non/\Q (.bl (decide (x = .non))) H):=by
 rintro W Hs H u v x y g g' Q Q' s n r1 r2 ⟨rfl,q⟩ k
 cases r2
 exact⟨rfl,by rw [aB6 r1]; exact k _ _ _ _ (aG.refl _) (.bl _) q⟩
end
structure kE (K:PySem.W.Frag) (H0:Hp) (W:Addr->Prop) (g:Bool) (H1:Hp) (J:It) (xs:List PV):Prop where
 go:∀ W' H' i,Ev W H1 W' H'->i < xs.length->J.go i H'
 yld:∀ W' H' i v H2,Ev W H1 W' H'->J.yld i H' v H2->i < xs.length->aG H' H2/\∃ x,xs[i]? = some x/\aJ K (Ms H0 W' g) H2 v x
 stop:∀ W' H',Ev W H1 W' H'->J.stop xs.length H'
abbrev fG:=bH->(List PV->Bool->Prop)->Prop
def LI (X:Cx) (t:fG):TI:=fun σ H R=>∃ (W:Addr->Prop) (ρ:bH) (Q:List PV->Bool->Prop),PX X.K X.H₀ W σ ρ H/\t ρ Q/\∀ J H1 xs g,aG H H1->kE X.K X.H₀ W g H1 J xs->Q xs g->R J H1
theorem Ev.keep {H0:Hp}{W W':Addr->Prop}{H H':Hp}{g:Bool} (e:Ev W H W' H') (tw:∀ a,W a->∃ o,H a=some o/\fN o=true):hJ (Ms H0 W g) (Ms H0 W' g) H H':=by
 have m:∀ {a:Addr}{o:HO},Ms H0 W g a->H a=some o->Ms H0 W' g a/\H' a=some o:=fun {a o} z h=>by
  cases g with
  | true=>
   obtain ⟨h1,h2⟩:=e a _ h z.1
   exact⟨⟨h2,z.2⟩,h1⟩
  | false=>
   obtain ⟨h1,h2⟩:=e a _ h z
   exact⟨h2,h1⟩
 refine⟨fun a _ z h=>m z h,fun a _ z h=>m z h,fun a _ z h=>m z h,fun a _ h=>(e a _ h fun z=>?_).1,fun a _ _ h=>(e a _ h fun z=>?_).1⟩
 ·obtain ⟨o,h',mu⟩:=tw a z; rw [h] at h'; cases h'; cases mu
 ·obtain ⟨o,h',mu⟩:=tw a z; rw [h] at h'; cases h'; cases mu
section
variable {X : Cx} {σ : St} {H : Hp} {te : aE} {tr : cR} {R : It → Hp → Prop}
def L6 (K:PySem.W.Frag) (tl:TE):TI:=fun σ H R=>tl σ H fun x H1=>∃ a,x = .ref a/\((∃ xs,aR K H1 a xs/\R (lO K a) H1) ∨ (∃ xs,aO K H1 a xs/\R (jX K a) H1))
def nT:Tg->List PV->Bool
 | .fr,_=>true
 | .nw,_=>true
 | _,xs=>flats xs
def dM (te:aE):fG:=fun ρ Q=>te ρ fun x g=>∃ xs,i4 x=some xs/\(g = .rd->flat x=true)/\Q xs (nT g xs)
theorem L7 {K:PySem.W.Frag}{H0:Hp}{W:Addr->Prop}{g:Bool}{H1:Hp}{a:Addr}{us:List V}{xs:List PV} (tw:∀ a,W a->∃ o,H1 a=some o/\fN o=true) (ha:∀ W' H',Ev W H1 W' H'->aR K H' a us) (r:Reps K (Ms H0 W g) H1 us xs):kE K H0 W g H1 (lO K a) xs:=by
 have lr:=r.length
 refine⟨fun W' H' i e hi=>⟨us,us[i]'(by omega),ha W' H' e,by simp⟩,fun W' H' i v H2 e y hi=>?_,fun W' H' e=>⟨us,ha W' H' e,by omega⟩⟩
 obtain ⟨rfl,y⟩:=y
 obtain ⟨x,hx,rx⟩:=r.get (y us (ha W' _ e))
 exact⟨aG.refl _,x,hx,rx.keep (e.keep tw)⟩
theorem L8 {K:PySem.W.Frag}{H0:Hp}{W:Addr->Prop}{g:Bool}{H1:Hp}{a:Addr}{us:List V}{xs:List PV} (tw:∀ a,W a->∃ o,H1 a=some o/\fN o=true) (ha:∀ W' H',Ev W H1 W' H'->aO K H' a us) (r:Reps K (Ms H0 W g) H1 us xs):kE K H0 W g H1 (jX K a) xs:=by
 have lr:=r.length
 refine⟨fun W' H' i e hi=>⟨us,us[i]'(by omega),ha W' H' e,by simp⟩,fun W' H' i v H2 e y hi=>?_,fun W' H' e=>⟨us,ha W' H' e,by omega⟩⟩
 obtain ⟨rfl,y⟩:=y
 obtain ⟨x,hx,rx⟩:=r.get (y us (ha W' _ e))
 exact⟨aG.refl _,x,hx,rx.keep (e.keep tw)⟩
theorem m5 {K:PySem.W.Frag}{H0 Hs H:Hp}{W:Addr->Prop}{σ:St}{ρ:bH}{g:Tg}{us:List V}{xs:List PV} (px:PX K H0 W σ ρ Hs) (hg:g = .rd->flats xs=true) (r:Reps K (Mg H0 W Hs g) H us xs):Reps K (Ms H0 W (nT g xs)) H us xs:=by
 cases g with
 | fr=>exact r.same (aG.refl _) fun _ z=>px.new z
 | nw=>exact r.same (aG.refl _) fun _ z=>z
 | sh=>
  show Reps K (Ms H0 W (flats xs)) H us xs
  cases e:flats xs with
  | true=>exact r.flat e
  | false=>exact r.same (aG.refl _) fun _ z=>z
 | rd=>exact r.flat (hg rfl)
theorem aB8 (h:LI X (dM te) σ H R):L6 X.K (LE X te) σ H R:=by
 obtain ⟨W,ρ,Q,px,q,k⟩:=h
 refine⟨W,ρ,_,px,q,?_⟩
 rintro v H1 x g s r ⟨xs,e,hg,q⟩
 have px1:=px.mono s
 have tw:∀ a,W a->∃ o,H1 a=some o/\fN o=true:=fun a z=>(px1.wm a z).2
 cases r with
 | tup h r=>
  cases e
  refine⟨_,rfl,.inr ⟨_,aO.of h,k _ _ _ _ s (L8 tw (fun W' H' e=>aO.of (e _ _ h fun z=>?_).1) (m5 px (fun z=>by have:=hg z; unfold flat at this; exact this) r)) q⟩⟩
  obtain ⟨o,h',mu⟩:=tw _ z; rw [h] at h'; cases h'; cases mu
 | @lst a us xs' m h r=>
  cases e
  have wa : ¬ W a:=by
   cases g with
   | fr=>exact (px.new m).1
   | nw=>exact m.1
   | sh=>exact m
   | rd=>have:=hg rfl; unfold flat at this; cases this
  exact⟨_,rfl,.inl ⟨_,aR.of h,k _ _ _ _ s (L7 tw (fun W' H' e=>aR.of (e _ _ h wa).1) (m5 px (fun z=>by have:=hg z; unfold flat at this; cases this) r)) q⟩⟩
 | scr h=>
  cases e
  refine⟨_,rfl,.inl ⟨_,h.sqL,k _ _ _ _ s (L7 tw (fun W' H' e=>(jF.keep (fun a o u hz=>(e _ _ hz fun z=>?_).1) h).sqL) (m5 (g:=g) px (fun z=>iL _) (Reps.intz _))) q⟩⟩
  obtain ⟨o,h',mu⟩:=tw _ z; rw [hz] at h'; cases h'; cases mu
 | kt h r=>
  cases e
  exact⟨_,rfl,.inr ⟨_,.inr h,k _ _ _ _ s (L8 tw (fun W' H' e=>.inr h) (m5 px (fun z=>by have:=hg z; unfold flat at this; exact this) r)) q⟩⟩
 | _=>cases e
def iO (lo:Int) (n:Nat):List PV:=(List.range n).map fun (i:Nat)=>PV.int (lo+(i:Int))
theorem gM (lo:Int) (n:Nat):(iO lo n).length=n:=by unfold iO; rw [bh8,bw5]
theorem L9 {lo:Int}{n i:Nat} (h:i < n):(iO lo n)[i]? = some (.int (lo+i)):=by unfold iO; rw [bj5,List.getElem?_range h]; rfl
def jG (te:aE):fG:=fun ρ Q=>te ρ fun x _=>∃ j:Int,x = .int j/\-1000000<=j/\j<=1000000/\Q (iO 0 j.toNat) true
theorem aB9 {K:PySem.W.Frag}{H0:Hp}{W:Addr->Prop}{H1:Hp} (lo:Int) (n:Nat):kE K H0 W true H1 (pH lo n) (iO lo n):=by
 refine⟨fun W' H' i e hi=>by rw [gM] at hi; exact hi,fun W' H' i v H2 e y hi=>?_,fun W' H' e=>by show n<=(iO lo n).length; rw [gM]; exact bh7 _⟩
 rw [gM] at hi
 obtain ⟨rfl,rfl⟩:=y
 exact⟨aG.refl _,_,L9 hi,.int _⟩
theorem aC0 (h:LI X (jG te) σ H R):zQ (kR (LE X te) lQ) σ H R:=by
 obtain ⟨W,ρ,Q,px,q,k⟩:=h
 refine⟨W,ρ,_,px,q,?_⟩
 rintro v H1 x g s r ⟨j,rfl,h1,h2,q⟩
 cases r
 exact⟨j,rfl,by omega,by omega,k _ _ _ _ s (aB9 0 j.toNat) q⟩
end
abbrev iP:=PV->Bool->bH->(bH->Prop)->Prop
def m6 (K:PySem.W.Frag) (own:Nat->Prop) (p:iP) (t:TG):Prop:=∀ (H0:Hp) (W:Addr->Prop) (σ:St) (ρ:bH) (H:Hp) (v:V) (x:PV) (g:Bool) (Q:bH->Prop) (Q':St->Hp->Prop),
 PX K H0 W σ ρ H->aJ K (Ms H0 W g) H v x->p x g ρ Q->(∀ σ' ρ',PX K H0 W σ' ρ' H->(∀ i,¬ own i->σ'[i]? = σ[i]?)->σ'.length=σ.length->Q ρ'->Q' σ' H)->t v σ H Q'
def cG (i:Nat):iP:=fun x g ρ Q=>Q (ρ.set i (some (.sh (g || flat x) x)))
theorem qM {K:PySem.W.Frag}{H0 H:Hp}{W:Addr->Prop}{v:V}{x:PV}{g:Bool} (r:aJ K (Ms H0 W g) H v x):aJ K (Ms H0 W (g || flat x)) H v x:=by
 cases g with
 | true=>exact r
 | false=>
  show aJ K (Ms H0 W (flat x)) H v x
  cases e:flat x with
  | true=>exact r.flat e
  | false=>exact r
theorem nU (K:PySem.W.Frag) (i:Nat):m6 K (· = i) (cG i) (dF i):=by
 intro H0 W σ ρ H v x g Q Q' px r q k
 exact k _ _ (px.setSh (qM r)) (fun j hj=>by rw [bk2 (Ne.symm hj)]) (bm6 ..) q
def iQ (i j:Nat):iP:=fun x g ρ Q=>∃ y z,x = .tup [y,z]/\Q ((ρ.set i (some (.sh (g || flat y) y))).set j (some (.sh (g || flat z) z)))
theorem vZ (K:PySem.W.Frag) (i j:Nat):m6 K (fun k=>k=i ∨ k=j) (iQ i j) (lN K 2 (gX (dF i) (gX (dF j) lM))):=by
 intro H0 W σ ρ H v x g Q Q' px r q k
 obtain ⟨y,z,rfl,q⟩:=q
 obtain ⟨a,us,rfl,h,r⟩:=r.sqT
 obtain ⟨u1,u2,rfl,r1,r2⟩:=r.two
 refine⟨a,_,rfl,aO.of h,rfl,u1,_,rfl,u2,_,rfl,rfl,k _ _ ((px.setSh (qM r1)).setSh (qM r2)) (fun k hk=>?_) (by rw [bm6,bm6]) q⟩
 rw [bk2 (fun e=>hk (.inr e.symm)),bk2 (fun e=>hk (.inl e.symm))]
section
variable {X : Cx} {σ : St} {H : Hp} {D : cQ}
def dZ (ti:fG) (p:iP) (tb:aP):aP:=fun D ρ=>ti ρ fun xs g=>∃ I:Nat->bH->Prop,I 0 ρ/\(∀ i x ρ',xs[i]? = some x->I i ρ'->p x g ρ' fun ρ2=>tb { D with nx:=I (i+1),ct:=I (i+1),bk:=D.nx } ρ2)/\∀ ρ',I xs.length ρ'->D.nx ρ'
theorem aC1 {ti:fG}{p:iP}{g:TG}{tb:aP}{own:Nat->Prop} (hg:m6 X.K own p g) (h:LS X (dZ ti p tb) D σ H):zR (LI X ti) g (LS X tb) D σ H:=by
 obtain ⟨W,ρ,D',px,q,k⟩:=h
 refine⟨W,ρ,_,px,q,?_⟩
 rintro J H1 xs gb s it ⟨I,i0,turn,fin⟩
 refine⟨fun i m σ2 H2=>m=xs.length - i/\i<=xs.length/\∃ W2 ρ2,PX X.K X.H₀ W2 σ2 ρ2 H2/\Ev W H1 W2 H2/\I i ρ2,⟨xs.length,by omega,bn5 _,W,ρ,px.mono s,Ev.refl _ _,i0⟩,?_⟩
 rintro i m σ2 H2 ⟨rfl,hi,W2,ρ2,px2,e2,i2⟩
 have e0:Ev W H W2 H2:=(Ev.same s).trans e2
 by_cases hlt:i < xs.length
 ·refine .inr ⟨it.go W2 H2 i e2 hlt,fun σ3 H3=>∃ W3 ρ3,PX X.K X.H₀ W3 σ3 ρ3 H3/\Ev W H1 W3 H3/\I (i+1) ρ3,fun σ3 H3 ⟨W3,ρ3,a,b,c⟩=>⟨xs.length - (i+1),by omega,rfl,hlt,W3,ρ3,a,b,c⟩,fun v H3 y=>?_⟩
  obtain ⟨s3,x,hx,rx⟩:=it.yld W2 H2 i v H3 e2 y hlt
  refine hg X.H₀ W2 σ2 ρ2 H3 v x gb _ _ (px2.mono s3) rx (turn i x ρ2 hx i2) fun σ4 ρ4 px4 _ _ q4=>?_
  have e3:Ev W H1 W2 H3:=e2.trans (Ev.same s3)
  have e3':Ev W H W2 H3:=e0.trans (Ev.same s3)
  exact⟨W2,ρ4,_,px4,q4,fun W' σ' H' ρ' e p q=>⟨W',ρ',p,e3.trans e,q⟩,k.rt,fun W' σ' H' ρ' e p q=>k.nx W' σ' H' ρ' (e3'.trans e) p q,fun W' σ' H' ρ' e p q=>⟨W',ρ',p,e3.trans e,q⟩⟩
 ·have e:i=xs.length:=by omega
  subst e
  exact .inl ⟨it.stop W2 H2 e2,k.nx W2 σ2 H2 ρ2 e0 px2 (fin ρ2 i2)⟩
end
def m7 (fr:List (Option Nat)) (ρ:bH):bH:=fr.map fun o=>o.bind fun j=>(ρ[j]?).join.map fun m=>Slot.sh false m.val
def kZ (D:Addr):Addr->Prop:=fun a=>a=D
theorem aC2 {K:PySem.W.Frag}{H0:Hp}{W:Addr->Prop}{σ:St}{ρ:bH}{H1 H':Hp}{D:Addr}{acc:List V}{fr:List (Option Nat)} (px:PX K H0 W σ ρ H1) (hD:H1 D=none) (s:aG H1 H') (ha:H' D=some (.lst acc)) :
  PX K H1 (kZ D) (fM fr σ) (m7 fr ρ) H':=by
 have old:∀ {a:Addr}{o:HO},H1 a=some o->a ≠ D:=fun {a o} e z=>by rw [z,hD] at e; cases e
 refine⟨by unfold fM m7; rw [bh8,bh8],s,fun a z=>by cases z; exact⟨hD,_,ha,rfl⟩,fun i m h=>?_,fun i j x y a h1=>?_⟩
 ·unfold m7 at h
  rw [bj5] at h
  cases ef:fr[i]? with
  | none=>rw [ef] at h; cases h
  | some o=>
   rw [ef] at h
   cases o with
   | none=>cases h
   | some j=>
    have h:some ((ρ[j]?).join.map fun m=>Slot.sh false m.val)=some (some m):=h
    cases er:ρ[j]? with
    | none=>rw [er] at h; cases h
    | some o=>
     rw [er] at h
     cases o with
     | none=>cases h
     | some m0=>
      cases h
      obtain ⟨v,ev,r⟩:=px.sl j m0 er
      refine⟨v,?_,?_⟩
      ·unfold fM
       rw [bj5,ef]
       show some ((σ[j]?).join)=_
       rw [ev]; rfl
      ·have r':aJ K (fun _=>True) H1 v m0.val:=(K4 (Hs:=H1) r).same (aG.refl _) fun _ _=>trivial
       exact r'.keep ⟨fun a _ _ e=>⟨old e,s _ _ e⟩,fun a _ _ e=>⟨old e,s _ _ e⟩,fun a _ _ e=>⟨old e,s _ _ e⟩,fun _ _ e=>s _ _ e,fun _ _ _ e=>s _ _ e⟩
 ·unfold m7 at h1
  rw [bj5] at h1
  cases ef:fr[i]? with
  | none=>rw [ef] at h1; cases h1
  | some o=>
   rw [ef] at h1
   cases o with
   | none=>cases h1
   | some j=>
    have h1:some ((ρ[j]?).join.map fun m=>Slot.sh false m.val)=some (some (Slot.own x)):=h1
    cases er:ρ[j]? with
    | none=>rw [er] at h1; cases h1
    | some o=>
     rw [er] at h1
     cases o with
     | none=>cases h1
     | some m0=>cases h1
section
variable {X : Cx} {σ : St} {H : Hp} {Q' : VK}
abbrev _root_.L2.Cx.frm (X:Cx) (H1:Hp):Cx:={ X with H₀:=H1 }
def dU (ti:fG) (fr:List (Option Nat)) (p:iP) (tc:cM) (te:aE):aE:=fun ρ Q=>ti ρ fun xs g=>xs.length<=16000000/\∃ I:Nat->List PV->Prop,I 0 []/\
 (∀ i x acc,xs[i]? = some x->I i acc->p x false (m7 fr ρ) fun ρ2=>tc ρ2 fun b=>if b=true then te ρ2 fun y gy=>Nw gy y/\I (i+1) (acc ++ [y]) else I (i+1) acc)/\∀ acc,I xs.length acc->Q (.lst acc) .fr
theorem nV {ti:fG}{fr:List (Option Nat)}{p:iP}{g:TG}{tc:cM}{te:aE}{own:Nat->Prop} (hg:m6 X.K own p g) (ho:∀ i,own i->fr[i]? = some none) (h:LE X (dU ti fr p tc te) σ H Q') :
  vC (LI X ti) fr (fun _=>g) (fun H1=>LT (X.frm H1) tc) (fun H1=>LE (X.frm H1) te) σ H Q':=by
 obtain ⟨W,ρ,Q,px,q,k⟩:=h
 refine⟨W,ρ,_,px,q,?_⟩
 rintro J H1 xs gb s it ⟨hl,I,i0,turn,fin⟩ D hD
 have px1:=px.mono s
 refine⟨fun i m acc H'=>m=xs.length - i/\i<=xs.length/\aG H1 H'/\H' D=some (.lst acc)/\∃ ys,Reps X.K (Ms H1 (kZ D) true) H' acc ys/\ys.length<=i/\I i ys,⟨xs.length,by omega,bn5 _,bU hD _,bO,[],.nil,bh7 _,i0⟩,?_⟩
 rintro i m acc H' ⟨rfl,hi,sm,ha,ys,ry,hy,iy⟩
 refine⟨ha,?_⟩
 have ev:Ev W H1 (lZ W D) H':=Ev.own sm hD
 by_cases hlt:i < xs.length
 ·refine .inr ⟨it.go _ H' i ev hlt,fun v H2 y=>?_⟩
  obtain ⟨s2,x,hx,rx⟩:=it.yld _ H' i v H2 ev y hlt
  have ha2:=s2 _ _ ha
  have pxb:PX X.K H1 (kZ D) (fM fr σ) (m7 fr ρ) H2:=aC2 px1 hD (sm.trans s2) ha2
  have rx':aJ X.K (Ms H1 (kZ D) false) H2 v x:=rx.same (aG.refl _) fun a z=>by
   cases gb with
   | true=>exact fun e=>z.1 (.inr e)
   | false=>exact fun e=>z (.inr e)
  refine hg H1 (kZ D) _ _ H2 v x false _ _ pxb rx' (turn i x ys hx iy) fun σ2 ρ2 px2 hown hlen q2=>⟨⟨hlen.symm,fun j w e=>?_⟩,?_⟩
  ·by_cases oj:own j
   ·have:=ho j oj
    unfold fM at e
    rw [bj5,this] at e
    cases e
   ·rw [hown j oj]; exact e
  ·refine⟨kZ D,ρ2,_,px2,q2,fun b H4 s4 q4=>?_⟩
   have ha4:=s4 _ _ ha2
   have sm4:=(sm.trans s2).trans s4
   cases b with
   | false=>
    refine aN ⟨xs.length - (i+1),by omega,rfl,hlt,sm4,ha4,ys,ry.same (s2.trans s4) fun _ z=>z,by omega,by simpa using q4⟩
   | true=>
    refine aY ⟨kZ D,ρ2,_,px2.mono s4,by simpa using q4,?_⟩
    rintro w H5 y gy s5 ryy ⟨nw,q5⟩
    have ha5:=s5 _ _ ha4
    have lr:=ry.length
    refine⟨ha5,kA (by omega),xs.length - (i+1),by omega,rfl,hlt,fun b o e=>?_,bO,ys ++ [y],?_,by rw [bi0,bl3]; omega,q5⟩
    ·rw [aW (fun z=>by rw [z,hD] at e; cases e)]
     exact s5 _ _ (sm4 _ _ e)
    ·exact ((ry.same ((s2.trans s4).trans s5) fun _ z=>z).append (.cons (Nw.rep (px2.mono s4) nw ryy) .nil)).keep (.upd ha5 rfl fun b m=>⟨m.1,m⟩)
 ·have e:i=xs.length:=by omega
  subst e
  refine .inl ⟨it.stop _ H' ev,k _ H' _ .fr (s.trans sm) (.lst (s.free hD) ha (ry.same (aG.refl _) fun _ z=>s.free z.2)) (fin ys iy)⟩
def eU:cM:=fun _ Q=>Q true
theorem aC3 {Qb:Bool->Hp->Prop} (h:LT X eU σ H Qb):v8 σ H Qb:=by
 obtain ⟨W,ρ,Q,px,q,k⟩:=h
 exact k _ _ (aG.refl _) q
end
section
variable {κ : Type} [DecidableEq κ]
def bJ (ps:List (κ × PV)) (k:κ):Option PV:=(ps.find? fun p=>decide (p.1=k)).map (·.2)
def bZ (ps:List (κ × PV)) (k:κ) (x:PV):List (κ × PV):=if (ps.any fun p=>decide (p.1=k))=true then ps.map (fun p=>if p.1=k then (p.1,x) else p) else ps ++ [(k,x)]
variable {K : PySem.W.Frag} {M : Addr → Prop} {H : Hp}
theorem jH (k:κ):∀ {kvs:List (κ × V)}{ps:List (κ × PV)},kvs.map (·.1)=ps.map (·.1)->Reps K M H (kvs.map (·.2)) (ps.map (·.2))->(bJ ps k=none->fD kvs k=none)/\∀ x,bJ ps k=some x->∃ v,fD kvs k=some v/\aJ K M H v x
 | [],[],_,_=>⟨fun _=>rfl,fun x h=>by cases h⟩
 | [],_ :: _,e,_=>by cases e
 | _ :: _,[],e,_=>by cases e
 | (k1,v) :: kvs,(k2,x) :: ps,e,r=>by
  injection e with e1 e2
  have e1:k1=k2:=e1
  subst e1
  cases r with
  | cons r t=>
   obtain ⟨h1,h2⟩:=jH k e2 t
   unfold bJ fD at h1 h2 ⊢
   by_cases e:k1=k
   ·simp only [bs4,e,decide_true,Option.map_some]
    exact⟨fun z=>(by cases z),fun y z=>(by cases z; exact⟨v,rfl,r⟩)⟩
   ·simp only [bs4,e,decide_false]
    exact⟨h1,h2⟩
theorem aC4 (k:κ) {kvs:List (κ × V)}{ps:List (κ × PV)} (e:kvs.map (·.1)=ps.map (·.1)):(kvs.any fun p=>decide (p.1=k))=ps.any fun p=>decide (p.1=k):=by
 have h1:(kvs.any fun p=>decide (p.1=k))=(kvs.map (·.1)).any fun z=>decide (z=k):=by rw [List.any_map]; rfl
 have h2:(ps.any fun p=>decide (p.1=k))=(ps.map (·.1)).any fun z=>decide (z=k):=by rw [List.any_map]; rfl
 rw [h1,h2,e]
theorem M0 (k:κ) {w:V}{y:PV} (q:aJ K M H w y):∀ {kvs:List (κ × V)}{ps:List (κ × PV)},kvs.map (·.1)=ps.map (·.1)->Reps K M H (kvs.map (·.2)) (ps.map (·.2))->
  (kvs.map fun kv=>if kv.1=k then (kv.1,w) else kv).map (·.1)=(ps.map fun kv=>if kv.1=k then (kv.1,y) else kv).map (·.1)/\Reps K M H ((kvs.map fun kv=>if kv.1=k then (kv.1,w) else kv).map (·.2)) ((ps.map fun kv=>if kv.1=k then (kv.1,y) else kv).map (·.2))
 | [],[],_,_=>⟨rfl,.nil⟩
 | [],_ :: _,e,_=>by cases e
 | _ :: _,[],e,_=>by cases e
 | (k1,v) :: kvs,(k2,x) :: ps,e,r=>by
  injection e with e1 e2
  have e1:k1=k2:=e1
  subst e1
  cases r with
  | cons r t=>
   obtain ⟨h1,h2⟩:=M0 k q e2 t
   by_cases e:k1=k
   ·simp only [bq3,e,if_true]
    exact⟨by rw [h1],.cons q h2⟩
   ·simp only [bq3,e,bq8]
    exact⟨by rw [h1],.cons r h2⟩
theorem w4 (k:κ) {w:V}{y:PV} (q:aJ K M H w y) {kvs:List (κ × V)}{ps:List (κ × PV)} (e:kvs.map (·.1)=ps.map (·.1)) (r:Reps K M H (kvs.map (·.2)) (ps.map (·.2))) :
  (dR kvs k w).map (·.1)=(bZ ps k y).map (·.1)/\Reps K M H ((dR kvs k w).map (·.2)) ((bZ ps k y).map (·.2)):=by
 unfold dR bZ
 rw [aC4 k e]
 split
 ·exact M0 k q e r
 ·rw [bi9,bi9,bi9,bi9,e]
  exact⟨rfl,r.append (.cons q .nil)⟩
end
def kP:aC->PV
 | .inl i=>.int i
 | .inr x=>.str x
theorem w5 {K:PySem.W.Frag}{M:Addr->Prop}{H:Hp}{v:V}{k:aC} (r:aJ K M H v (kP k)):v=kV k:=by
 cases k with
 | inl i=>cases r; rfl
 | inr x=>cases r; rfl
theorem w6 {K:PySem.W.Frag}{M:Addr->Prop}{H:Hp}:∀ {ks:List aC}{us:List V},Reps K M H us (ks.map kP)->us=ks.map kV
 | [],_,.nil=>rfl
 | k :: r,_,.cons q t=>by rw [w5 q,w6 t]; rfl
def M3:PV->PV
 | .fK ps=>.dK ps
 | .fT ps=>.dT ps
 | x=>x
def w9 (x y:PV) (o:Option PV):Prop:=(∃ ps k,M3 x = .dK ps/\y=kP k/\o=bJ ps k) ∨ (∃ ps k,M3 x = .dT ps/\y = .tup (k.map kP)/\o=bJ ps k)
theorem qN {K:PySem.W.Frag}{M M2:Addr->Prop}{H:Hp}{v w:V}{x y:PV}{o:Option PV} (h:w9 x y o) (rx:aJ K M H v x) (ry:aJ K M2 H w y):∃ a o',v = .ref a/\eQ H a w o'/\(o=none->o'=none)/\∀ z,o=some z->∃ u,o'=some u/\aJ K M H u z:=by
 rcases h with ⟨ps,k,ex,rfl,rfl⟩ | ⟨ps,k,ex,rfl,rfl⟩
 ·obtain rfl:=w5 ry
  cases rx with
  | dK m h e r=>cases ex; exact⟨_,_,rfl,eQ.k h,(jH k e r).1,(jH k e r).2⟩
  | fK h e r=>cases ex; exact⟨_,_,rfl,.inl ⟨_,k,.inr ⟨_,h⟩,rfl,rfl⟩,(jH k e r).1,(jH k e r).2⟩
  | _=>cases ex
 ·obtain ⟨b,us,rfl,hb,rb⟩:=ry.sqT
  obtain rfl:=w6 rb
  cases rx with
  | dT m h e r=>cases ex; exact⟨_,_,rfl,eQ.t h hb,(jH k e r).1,(jH k e r).2⟩
  | fT h e r=>cases ex; exact⟨_,_,rfl,.inr ⟨_,k,b,.inr ⟨_,h⟩,rfl,hb,rfl⟩,(jH k e r).1,(jH k e r).2⟩
  | _=>cases ex
section
variable {X : Cx} {σ : St} {H : Hp} {D : cQ} {tk td te : aE} {Q' : VK}
def jI (neg:Bool) (tk td:aE):aE:=fun ρ Q=>tk ρ fun y _=>td ρ fun x _=>∃ o,w9 x y o/\Q (.bl (if neg=true then !o.isSome else o.isSome)) .fr
theorem M4 {α β:Type}{o:Option α}{o':Option β}{P:β->α->Prop} (h1:o=none->o'=none) (h2:∀ z,o=some z->∃ u,o'=some u/\P u z):o'.isSome=o.isSome:=by
 cases o with
 | none=>rw [h1 rfl]; rfl
 | some z=>obtain ⟨u,e,_⟩:=h2 z rfl; rw [e]; rfl
theorem aC5 (h:LE X (jI false tk td) σ H Q'):F1 (LE X tk) (LE X td) σ H Q':=by
 obtain ⟨W,ρ,Q,px,q,k⟩:=h
 refine⟨W,ρ,_,px,q,fun w H1 y g s r q=>⟨W,ρ,_,px.mono s,q,?_⟩⟩
 rintro v H2 x g' s2 r2 ⟨o,ak,q⟩
 obtain ⟨a,o',rfl,dg,h1,h2⟩:=qN ak r2 (r.same s2 fun _ z=>z)
 refine⟨a,o',rfl,dg,?_⟩
 rw [M4 h1 h2]
 exact k _ _ _ .fr (s.trans s2) (.bl _) q
theorem M5 (h:LE X (jI true tk td) σ H Q'):F2 (LE X tk) (LE X td) σ H Q':=by
 obtain ⟨W,ρ,Q,px,q,k⟩:=h
 refine⟨W,ρ,_,px,q,fun w H1 y g s r q=>⟨W,ρ,_,px.mono s,q,?_⟩⟩
 rintro v H2 x g' s2 r2 ⟨o,ak,q⟩
 obtain ⟨a,o',rfl,dg,h1,h2⟩:=qN ak r2 (r.same s2 fun _ z=>z)
 refine⟨a,o',rfl,dg,?_⟩
 rw [M4 h1 h2]
 exact k _ _ _ .fr (s.trans s2) (.bl _) q
def qO (td tk:aE):aE:=fun ρ Q=>td ρ fun x g=>tk ρ fun y _=>∃ z,w9 x y (some z)/\Q z g
theorem aC6 (h:LE X (qO td tk) σ H Q'):F0 (LE X td) (LE X tk) σ H Q':=by
 obtain ⟨W,ρ,Q,px,q,k⟩:=h
 refine⟨W,ρ,_,px,q,fun v H1 x g s r q=>⟨W,ρ,_,px.mono s,q,?_⟩⟩
 rintro w H2 y g' s2 r2 ⟨z,ak,q⟩
 obtain ⟨a,o',rfl,dg,h1,h2⟩:=qN ak (r.same s2 fun _ z=>z) r2
 obtain ⟨u,rfl,ru⟩:=h2 z rfl
 exact⟨a,u,rfl,dg,k _ _ _ g (s.trans s2) ru q⟩
theorem PX.updD {K:PySem.W.Frag}{H0:Hp}{W:Addr->Prop}{σ:St}{ρ:bH}{H:Hp}{i:Nat}{a:Addr}{x:PV}{kvs:List (aC × V)}{ps:List (aC × PV)} (p:PX K H0 W σ ρ H) (hi:ρ[i]? = some (some (.own x))) (ha:σ[i]? = some (some (.ref a))) (wa:W a)
  (r:kvs.map (·.1)=ps.map (·.1)/\Reps K (Ms H0 W true) (upd H a (.dK kvs)) (kvs.map (·.2)) (ps.map (·.2))):PX K H0 W σ (ρ.set i (some (.own (.dK ps)))) (upd H a (.dK kvs)):=p.updOwn hi ha wa rfl (y:=.dK ps) ⟨kvs,bO,r⟩
theorem PX.updT {K:PySem.W.Frag}{H0:Hp}{W:Addr->Prop}{σ:St}{ρ:bH}{H:Hp}{i:Nat}{a:Addr}{x:PV}{kvs:List (List aC × V)}{ps:List (List aC × PV)} (p:PX K H0 W σ ρ H) (hi:ρ[i]? = some (some (.own x))) (ha:σ[i]? = some (some (.ref a))) (wa:W a)
  (r:kvs.map (·.1)=ps.map (·.1)/\Reps K (Ms H0 W true) (upd H a (.dT kvs)) (kvs.map (·.2)) (ps.map (·.2))):PX K H0 W σ (ρ.set i (some (.own (.dT ps)))) (upd H a (.dT kvs)):=p.updOwn hi ha wa rfl (y:=.dT ps) ⟨kvs,bO,r⟩
theorem qP {κ α β:Type}{l:List (κ × α)}{m:List (κ × β)} (e:l.map (·.1)=m.map (·.1)):l.length=m.length:=by
 have:=congrArg List.length e
 rw [bh8,bh8] at this
 exact this
def qQ (i:Nat) (tk te:aE):aP:=fun D ρ=>te ρ fun z g=>∃ ps,ρ[i]? = some (some (.own (.dK ps)))/\tk ρ fun y _=>∃ k,y=kP k/\Nw g z/\ps.length < 16000000/\D.nx (ρ.set i (some (.own (.dK (bZ ps k z)))))
def kF (i:Nat) (tk te:aE):aP:=fun D ρ=>te ρ fun z g=>∃ ps,ρ[i]? = some (some (.own (.dT ps)))/\tk ρ fun y _=>∃ k,y = .tup (k.map kP)/\Nw g z/\ps.length < 16000000/\D.nx (ρ.set i (some (.own (.dT (bZ ps k z)))))
theorem aC7 {i:Nat} (h:LS X (qQ i tk te) D σ H):uU (gV i) (LE X tk) (LE X te) D σ H:=by
 obtain ⟨W,ρ,D',px,q,k⟩:=h
 refine⟨W,ρ,_,px,q,?_⟩
 rintro w H1 z g s rz ⟨ps,hi,q⟩
 obtain ⟨v,ev,a,rfl,wa,kvs,ea,e1,r⟩:=(px.mono s).sl i _ hi
 refine⟨_,ev,W,ρ,_,px.mono s,q,?_⟩
 rintro kv H2 y g' s2 ry ⟨kk,rfl,nw,hl,q⟩
 obtain rfl:=w5 ry
 have ea2:=s2 _ _ ea
 refine⟨a,_,rfl,k6.k ea2 (kA (by rw [qP e1]; omega)),?_⟩
 refine k.nx W σ _ _ ((Ev.same (s.trans s2)).trans (Ev.upd wa)) ((px.mono (s.trans s2)).updD hi ev wa ?_) q
 obtain ⟨h1,h2⟩:=w4 kk ((Nw.rep px nw rz).same s2 fun _ z=>z) e1 (r.same s2 fun _ z=>z)
 exact⟨h1,h2.keep (.upd ea2 rfl fun b m=>⟨iN wa m,m⟩)⟩
theorem aC8 {i:Nat} (h:LS X (kF i tk te) D σ H):uU (gV i) (LE X tk) (LE X te) D σ H:=by
 obtain ⟨W,ρ,D',px,q,k⟩:=h
 refine⟨W,ρ,_,px,q,?_⟩
 rintro w H1 z g s rz ⟨ps,hi,q⟩
 obtain ⟨v,ev,a,rfl,wa,kvs,ea,e1,r⟩:=(px.mono s).sl i _ hi
 refine⟨_,ev,W,ρ,_,px.mono s,q,?_⟩
 rintro kv H2 y g' s2 ry ⟨kk,rfl,nw,hl,q⟩
 obtain ⟨b,us,rfl,hb,rb⟩:=ry.sqT
 obtain rfl:=w6 rb
 have ea2:=s2 _ _ ea
 refine⟨a,_,rfl,k6.t ea2 hb (kA (by rw [qP e1]; omega)),?_⟩
 refine k.nx W σ _ _ ((Ev.same (s.trans s2)).trans (Ev.upd wa)) ((px.mono (s.trans s2)).updT hi ev wa ?_) q
 obtain ⟨h1,h2⟩:=w4 kk ((Nw.rep px nw rz).same s2 fun _ z=>z) e1 (r.same s2 fun _ z=>z)
 exact⟨h1,h2.keep (.upd ea2 rfl fun b m=>⟨iN wa m,m⟩)⟩
theorem aC9 (h:LE X (qC (.dK [])) σ H Q'):F5 σ H Q':=by
 obtain ⟨W,ρ,Q,px,q,k⟩:=h
 exact fun p hp=>k _ _ _ .fr (bU hp _) (.dK hp bO rfl .nil) q
theorem aD0 (h:LE X (qC (.dT [])) σ H Q'):F6 σ H Q':=by
 obtain ⟨W,ρ,Q,px,q,k⟩:=h
 exact fun p hp=>k _ _ _ .fr (bU hp _) (.dT hp bO rfl .nil) q
def i5 (ps more:List (aC × PV)):List (aC × PV):=more.foldl (fun acc kv=>bZ acc kv.1 kv.2) ps
theorem M6 {K:PySem.W.Frag}{M:Addr->Prop}{H:Hp}:∀ {more:List (aC × V)}{mp:List (aC × PV)}{kvs:List (aC × V)}{ps:List (aC × PV)},more.map (·.1)=mp.map (·.1)->Reps K M H (more.map (·.2)) (mp.map (·.2))->kvs.map (·.1)=ps.map (·.1)->Reps K M H (kvs.map (·.2)) (ps.map (·.2))->
  (kU kvs more).map (·.1)=(i5 ps mp).map (·.1)/\Reps K M H ((kU kvs more).map (·.2)) ((i5 ps mp).map (·.2))
 | [],[],_,_,_,_,e,r=>⟨e,r⟩
 | [],_ :: _,_,_,e,_,_,_=>by cases e
 | _ :: _,[],_,_,e,_,_,_=>by cases e
 | (k1,v) :: more,(k2,x) :: mp,kvs,ps,e,r,e',r'=>by
  injection e with e1 e2
  have e1:k1=k2:=e1
  subst e1
  cases r with
  | cons q t=>
   obtain ⟨h1,h2⟩:=w4 k1 q e' r'
   exact M6 (more:=more) (mp:=mp) e2 t h1 h2
def wA (i:Nat) (te:aE):aP:=fun D ρ=>∃ ps,ρ[i]? = some (some (.own (.dK ps)))/\te ρ fun y g=>∃ mp,y = .dK mp/\(g = .fr ∨ (g = .nw/\False))/\ps.length+mp.length<=16000000/\D.nx (ρ.set i (some (.own (.dK (i5 ps mp)))))
theorem aD1 {i:Nat} (h:LS X (wA i te) D σ H):pF (K0 (gV i) (LE X te)) D σ H:=by
 obtain ⟨W,ρ,D',px,⟨ps,hi,q⟩,k⟩:=h
 obtain ⟨v,ev,a,rfl,wa,kvs,ea,e1,r⟩:=px.sl i _ hi
 refine⟨_,ev,a,rfl,.inl ⟨kvs,.inl ea⟩,W,ρ,_,px,q,?_⟩
 rintro w H1 y g s ry ⟨mp,rfl,hg,hl,q⟩
 rcases hg with rfl | ⟨_,z⟩
 ·cases ry with
  | @dK b more _ m hb e2 rb=>
   have hab:a ≠ b:=fun z=>by subst z; rw [show H a=none from m] at ea; cases ea
   have ea1:=s _ _ ea
   refine⟨b,kvs,more,rfl,hab,ea1,hb,lim (by rw [qP e1,qP e2]; exact hl),?_⟩
   refine k.nx W σ _ _ ((Ev.same s).trans (Ev.upd wa)) ((px.mono s).updD hi ev wa ?_) q
   obtain ⟨h1,h2⟩:=M6 e2 (rb.same (M':=Ms X.H₀ W true) (aG.refl _) fun _ z=>px.new z) e1 (r.same s fun _ z=>z)
   exact⟨h1,h2.keep (.upd ea1 rfl fun b m=>⟨iN wa m,m⟩)⟩
 ·exact z.elim
end
def bV:Nat->PV->PV->Bool
 | _,.non,.non=>true
 | _,.bl a,.bl b=>a == b
 | _,.int a,.int b=>a == b
 | _,.str a,.str b=>a == b
 | n+1,.tup xs,.tup ys=>(xs.zip ys).all (fun p=>bV n p.1 p.2) && xs.length == ys.length
 | n+1,.lst xs,.lst ys=>(xs.zip ys).all (fun p=>bV n p.1 p.2) && xs.length == ys.length
 | n+1,.kt xs,.kt ys=>(xs.zip ys).all (fun p=>bV n p.1 p.2) && xs.length == ys.length
 | _,_,_=>false
def dB:Nat->PV->PV->Bool
 | _,.non,.non=>true
 | _,.bl _,.bl _=>true
 | _,.int _,.int _=>true
 | _,.str _,.str _=>true
 | _,.non,.int _=>true
 | _,.int _,.non=>true
 | n+1,.tup xs,.tup ys=>(xs.zip ys).all (fun p=>dB n p.1 p.2)
 | n+1,.lst xs,.lst ys=>(xs.zip ys).all (fun p=>dB n p.1 p.2)
 | n+1,.kt xs,.kt ys=>(xs.zip ys).all (fun p=>dB n p.1 p.2)
 | _+1,.non,.tup _=>true
 | _+1,.tup _,.non=>true
 | _,_,_=>false
theorem aD2 (n:Nat) (a b:Int):bV n (.int a) (.int b)=(a == b):=by cases n <;> rfl
theorem M7 (n:Nat):∀ (a b:List Int),((((intz a).zip (intz b)).all fun p=>bV n p.1 p.2) && (intz a).length == (intz b).length)=decide (a=b)
 | [],[]=>rfl
 | [],_ :: _=>by simp
 | _ :: _,[]=>by simp
 | x :: a,y :: b=>by
  have ih:=M7 n a b
  simp only [bq3,bs5,bx0,bm5,aD2] at ih ⊢
  by_cases e:x=y
  ·subst e
   have:((intz a).length+1 == (intz b).length+1)=((intz a).length == (intz b).length):=by simp
   rw [this,bp6,Bool.true_and,ih]
   simp
  ·have:(x == y)=false:=bu6.mpr e
   rw [this,bu0,bu0]
   simp [e]
theorem qR (n:Nat) (a b:List Int):bV (n+1) (.tup (intz a)) (.tup (intz b))=decide (a=b):=M7 n a b
theorem M8 (n:Nat):∀ (a b:List Int),(((intz a).zip (intz b)).all fun p=>dB n p.1 p.2)=true
 | [],_=>by simp
 | _ :: _,[]=>by simp
 | x :: a,y :: b=>by
  simp only [bq3,bs5,bx0,M8 n a b,Bool.and_true]
  cases n <;> rfl
theorem qS (n:Nat) (a b:List Int):dB (n+1) (.tup (intz a)) (.tup (intz b))=true:=M8 n a b
def qT (ta:aE):aE:=fun ρ Q=>ta ρ fun x _=>∃ i,x = .int i/\Q (.int (-i)) .fr
def M9:PV->Option String
 | .non=>some "NoneType"
 | .bl _=>some "bool"
 | .int _=>some "int"
 | .str _=>some "str"
 | .tup _=>some "tuple"
 | .kt _=>some "tuple"
 | .lst _=>some "list"
 | _=>none
def kG (K:PySem.W.Frag) (n:String) (te:aE):aE:=fun ρ Q=>te ρ fun x _=>∃ T b,M9 x=some T/\PySem.W.kitOne K (.type T) (.type n)=some b/\Q (.bl b) .fr
def m8 (n:Nat) (neg:Bool):PV->Tg->PV->Tg->PK->Prop:=fun x _ y _ Q=>((∃ xs ys,x = .tup xs/\y = .tup ys) ∨ (∃ xs ys,x = .lst xs/\y = .lst ys))/\dB (n+1) x y=true/\Q (.bl (if neg=true then !bV (n+1) x y else bV (n+1) x y)) .fr
abbrev m9:=bH->(Option Int->Prop)->Prop
def i6 (xs:List PV) (lo hi:Option Int):List PV:=(xs.drop (HT.aX xs.length 0 lo)).take (HT.aX xs.length xs.length hi - HT.aX xs.length 0 lo)
def aD3:PV->List PV->PV
 | .tup _,ys=>.tup ys
 | .kt _,ys=>.tup ys
 | _,ys=>.lst ys
def iR:m9:=fun _ Q=>Q none
def iS (te:aE):m9:=fun ρ Q=>te ρ fun x _=>∃ i,x = .int i/\Q (some i)
def iT (te:aE) (tl th:m9):aE:=fun ρ Q=>te ρ fun x _=>tl ρ fun lo=>th ρ fun hi=>∃ xs,seqT x=some xs/\flats xs=true/\Q (aD3 x (i6 xs lo hi)) .fr
def eV (N:List Str) (xs:List PV):bH:=xs.map (fun x=>some (.sh (flat x) x)) ++ List.replicate (N.length - xs.length) none
abbrev cU (ta tb:aE):aE:=q2 (fE fun i j=>.int (i+j)) ta tb
abbrev gN (ta tb:aE):aE:=q2 (fE fun i j=>.int (i - j)) ta tb
abbrev jJ (ta tb:aE):aE:=q2 (RI nG fun i j=>.int (i * j)) ta tb
abbrev dW (ta tb:aE):aE:=q2 (RI u8 fun i j=>.int (i / j)) ta tb
abbrev cB (ta tb:aE):aE:=q2 (RI (fun _ j=>0 < j) fun i j=>.int (i % j)) ta tb
abbrev N0 (ta tb:aE):aE:=q2 (RI u9 fun i j=>.int (i ^ j.toNat)) ta tb
abbrev fY (ta tb:aE):aE:=q2 (fE fun i j=>.bl (decide (i < j))) ta tb
abbrev iU (ta tb:aE):aE:=q2 (fE fun i j=>.bl (decide (j < i))) ta tb
abbrev nW (ta tb:aE):aE:=q2 (fE fun i j=>.bl (decide (j<=i))) ta tb
abbrev i7 (ta tb:aE):aE:=q2 (lY false) ta tb
abbrev qNe (ta tb:aE):aE:=q2 (lY true) ta tb
abbrev aD4 (ta tb:aE):aE:=q2 (vY false) ta tb
abbrev cJ (ta tb:aE):aE:=q2 vU ta tb
def fZ:List PV->(PV->Prop)->Prop:=fun xs Q=>L5 xs Q/\∀ ns,xs ≠ [.scr ns]
def dX:aP:=fun _ _=>False
def QE (X:Cx) (e:Expr) (t:aE):Prop:=PE X e (LE X t)
def QT (X:Cx) (e:Expr) (t:cM):Prop:=PT X e (LT X t)
def QW (X:Cx) (e:Expr) (t:cM):Prop:=PW X e (LT X t)
def QA (X:Cx) (es:List Expr) (t:cR):Prop:=PA X es (LA X t)
def QS (X:Cx) (st:Stmt) (t:aP):Prop:=PS X st (LS X t)
def eW (X:Cx) (st:List Stmt) (t:aP):Prop:=dQ X st (LS X t)
def QI (X:Cx) (tg iter:Expr) (t:fG):Prop:=PI X tg iter (LI X t)
section
variable {X : Cx}
theorem cH {e:Expr}{t t':TE} (h:PE X e t) (m:∀ σ H Q,t' σ H Q->t σ H Q):PE X e t':=fun pins s σ H Q I q=>h pins s σ H Q I (m σ H Q q)
theorem l0 {e:Expr}{t t':TT} (h:PT X e t) (m:∀ σ H Q,t' σ H Q->t σ H Q):PT X e t':=fun pins s σ H Q I q=>h pins s σ H Q I (m σ H Q q)
theorem N1 {e:Expr}{t t':TT} (h:PW X e t) (m:∀ σ H Q,t' σ H Q->t σ H Q):PW X e t':=fun wh pins s σ H Q I q=>h wh pins s σ H Q I (m σ H Q q)
theorem N2 {e:List Expr}{t t':TA} (h:PA X e t) (m:∀ σ H Q,t' σ H Q->t σ H Q):PA X e t':=fun pos pins s σ H Q I q=>h pos pins s σ H Q I (m σ H Q q)
theorem dN {e:Stmt}{t t':TS} (h:PS X e t) (m:∀ D σ H,t' D σ H->t D σ H):PS X e t':=fun pins s σ H D I q=>h pins s σ H D I (m D σ H q)
theorem wB {e:List Stmt}{t t':TS} (h:dQ X e t) (m:∀ D σ H,t' D σ H->t D σ H):dQ X e t':=fun pins s σ H D I q=>h pins s σ H D I (m D σ H q)
theorem qU {tg e:Expr}{t t':TI} (h:PI X tg e t) (m:∀ σ H R,t' σ H R->t σ H R):PI X tg e t':=fun pins s σ H R I q=>h pins s σ H R I (m σ H R q)
variable {a b c e o : Expr} {es cZ : List Expr} {ta tb te to tk : aE} {tr : cR} {tA tB' tc : cM} {pos p2 px : Pos} {st : Stmt} {sts : List Stmt} {t u : aP}
theorem qv (i:Nat) {x:Str}{pos:Pos} (hN:X.N[i]? = some x:=by rfl) (hv:gE X.env.scope x:=by first | exact Or.inl rfl | exact Or.inr (Or.inl rfl) | exact Or.inr (Or.inr rfl)) (hd:(x == ("__debug__" : Str))=false:=by decide)
  (hcd:(x == ("__classdict__" : Str))=false:=by decide):QE X (.Name x pos) (a5 i):=cH (iF hN hv hd hcd) fun _ _ _=>ay3
theorem aD {i j}:QE X (.Constant (.int i) j pos) (qC (.int i)):=cH tU fun _ _ _=>nN fun _=>.int i
theorem g9 {i j}:QE X (.Constant (.bool i) j pos) (qC (.bl i)):=cH aj1 fun _ _ _=>nN fun _=>.bl i
theorem N3 {j}:QE X (.Constant .none j pos) (qC .non):=cH aj2 fun _ _ _=>nN fun _=>.non
theorem jK {i j}:QE X (.Constant (.str i) j pos) (qC (.str i)):=cH aj3 fun _ _ _=>nN fun _=>.str i
theorem iV {op:Operator}{R:PV->Tg->PV->Tg->PK->Prop}{r:R2} (ho:bX X (binaryOp op) r) (cv:dL X R r) (ha:QE X a ta) (hb:QE X b tb):QE X (.BinOp a op b pos) (q2 R ta tb):=cH (al8 ho ha hb) fun _ _ _=>qE cv
theorem cV (ha:QE X a ta) (hb:QE X b tb):QE X (.BinOp a .Add b pos) (q2 (fE fun i j=>.int (i+j)) ta tb):=iV am0 K5 ha hb
theorem i8 (ha:QE X a ta) (hb:QE X b tb):QE X (.BinOp a .Sub b pos) (q2 (fE fun i j=>.int (i - j)) ta tb):=iV am1 K5 ha hb
theorem jL (ha:QE X a ta) (hb:QE X b tb):QE X (.BinOp a .Mult b pos) (q2 (RI nG fun i j=>.int (i * j)) ta tb):=iV am2 qF ha hb
theorem eM (ha:QE X a ta) (hb:QE X b tb):QE X (.BinOp a .FloorDiv b pos) (q2 (RI u8 fun i j=>.int (i / j)) ta tb):=iV am3 qF ha hb
theorem cK (ha:QE X a ta) (hb:QE X b tb):QE X (.BinOp a .Mod b pos) (q2 (RI (fun _ j=>0 < j) fun i j=>.int (i % j)) ta tb):=iV am4 qF ha hb
theorem N4 (ha:QE X a ta) (hb:QE X b tb):QE X (.BinOp a .Pow b pos) (q2 (RI u9 fun i j=>.int (i ^ j.toNat)) ta tb):=iV am5 qF ha hb
theorem wC {op:CmpOp}{R:PV->Tg->PV->Tg->PK->Prop}{r:R2} (ho:bX X (compareOp op) r) (cv:dL X R r) (ha:QE X a ta) (hb:QE X b tb) (hm:behindInMarks op b=false):QE X (.Compare a [op] [b] pos) (q2 R ta tb):=cH (an1 ho ha hb hm) fun _ _ _=>qE cv
theorem jM {op:CmpOp}{R:PV->Tg->PV->Tg->PK->Prop}{r:R2} (ho:bX X (compareOp op) r) (cv:dL X R r) (ha:QE X a ta) (hb:QE X b tb) (hm:behindInMarks op b=false):QT X (.Compare a [op] [b] pos) (aT (q2 R ta tb)):=l0 (an2 ho ha hb hm) fun _ _ _ h=>qE cv (nO h)
theorem wD (ha:QE X a ta) (hb:QE X b tb):QE X (.Compare a [.Lt] [b] pos) (q2 (fE fun i j=>.bl (decide (i < j))) ta tb):=wC pM lX ha hb (gY _)
theorem qV (ha:QE X a ta) (hb:QE X b tb):QE X (.Compare a [.GtE] [b] pos) (q2 (fE fun i j=>.bl (decide (j<=i))) ta tb):=wC A1 lX ha hb (gY _)
theorem jN (ha:QE X a ta) (hb:QE X b tb):QT X (.Compare a [.Lt] [b] pos) (aT (q2 (fE fun i j=>.bl (decide (i < j))) ta tb)):=jM pM lX ha hb (gY _)
theorem jO (ha:QE X a ta) (hb:QE X b tb):QT X (.Compare a [.Gt] [b] pos) (aT (q2 (fE fun i j=>.bl (decide (j < i))) ta tb)):=jM am9 lX ha hb (gY _)
theorem aD5 (ha:QE X a ta) (hb:QE X b tb):QT X (.Compare a [.GtE] [b] pos) (aT (q2 (fE fun i j=>.bl (decide (j<=i))) ta tb)):=jM A1 lX ha hb (gY _)
theorem i9 (ha:QE X a ta) (hb:QE X b tb):QT X (.Compare a [.Eq] [b] pos) (aT (q2 (lY false) ta tb)):=jM am7 ay4 ha hb (gY _)
theorem aD6 (ha:QE X a ta) (hb:QE X b tb):QT X (.Compare a [.NotEq] [b] pos) (aT (q2 (lY true) ta tb)):=jM A0 ay5 ha hb (gY _)
theorem aD7 (ha:QE X a ta) (hb:QE X b tb):QT X (.Compare a [.Is] [b] pos) (aT (q2 (vY false) ta tb)):=jM an0 aB7 ha hb (gY _)
theorem aD8 (hu:X.A.units+1 < cLine) (hk:QE X a tk) (hd:QE X b te) (hm:behindInMarks .In b=false:=by rfl):QT X (.Compare a [.In] [b] pos) (aT (jI false tk te)):=l0 (zA (at8 hu hk hd) hm) fun _ _ _ h=>aC5 (nO h)
theorem N5 (hu:X.A.units+1 < cLine) (hk:QE X a tk) (hd:QE X b te) (hm:behindInMarks .NotIn b=false:=by rfl):QT X (.Compare a [.NotIn] [b] pos) (aT (jI true tk te)):=l0 (zA (F3 hu hk hd) hm) fun _ _ _ h=>M5 (nO h)
theorem aD9 (hu:X.A.units+1 < cLine) (hk:QE X a tk) (hd:QE X b te) (hm:behindInMarks .NotIn b=false:=by rfl):QE X (.Compare a [.NotIn] [b] pos) (jI true tk te):=cH (aj4 (F3 hu hk hd) hm) fun _ _ _ h=>M5 h
theorem iA (h:QE X e te) (he:∀ whole,isTrue e X.env whole=(do let v <- whole; standAt e.pos; holding [v] (truthy v)):=by intro _; rfl):QT X e (aT te):=l0 (aj5 h he) fun _ _ _ h=>nO h
theorem N6 (h:QE X e te) (he:∀ whole,isTrue e X.env whole=(do let v <- whole; standAt e.pos; holding [v] (truthy v)):=by intro _; rfl):QT X e (qL te):=l0 (an6 h he) fun _ _ _ h=>aB5 h
theorem nX (ha:QT X a tA):QW X (.BoolOp .And [a] pos) tA:=aj6 ha
theorem iB (ha:QT X a tA):QW X (.BoolOp .Or [a] pos) tA:=aj7 ha
theorem nY (ha:QT X a tA) (hb:QW X (.BoolOp .And (b :: cZ) pos) tB'):QW X (.BoolOp .And (a :: b :: cZ) pos) (kB tA tB'):=N1 (aj8 ha hb) fun _ _ _=>ay6
theorem gO (ha:QT X a tA) (hb:QW X (.BoolOp .Or (b :: cZ) pos) tB'):QW X (.BoolOp .Or (a :: b :: cZ) pos) (fO tA tB'):=N1 (aj9 ha hb) fun _ _ _=>ay7
theorem eY (h:QW X e tA):QT X e tA:=PW.pt h
theorem jP (ha:QT X a tA):QT X (.UnaryOp .Not a pos) (hZ tA):=l0 (ak0 ha) fun _ _ _=>ay8
theorem nZ {op} (h:QE X a ta):QE X (.BoolOp op [a] pos) ta:=ak1 h
theorem l8 (ha:QE X a ta) (hb:QE X (.BoolOp .And (b :: cZ) pos) tb):QE X (.BoolOp .And (a :: b :: cZ) pos) (iM ta tb):=cH (ak2 ha hb) fun _ _ _=>ay9
theorem aE0 (ha:QE X a ta):QE X (.UnaryOp .Not a pos) (vO ta):=cH (ak3 ha) fun _ _ _=>az0
theorem aB:QA X [] aA:=N2 iI fun _ _ _=>az1
theorem a7 (ha:QE X e te) (hr:QA X es tr) (hs:starEach (e :: es) X.env=(false,eval e X.env) :: starEach es X.env:=by rfl):QA X (e :: es) (a6 te tr):=N2 (gH ha hr hs) fun _ _ _=>az2
theorem cS {x1} (h:QA X es tr):QE X (.Tuple es x1 pos) (cF tr):=cH (ao4 h) fun _ _ _=>az3
theorem gP (h:QA X es tr):QE X (.List es pos) (eS tr):=cH (A7 h) fun _ _ _=>az4
theorem cO (ha:QE X a ta) (hb:QE X b tb) (hs:B9 b:=by exact fun _ _=>rfl):QE X (.Subscript a b pos) (q2 vU ta tb):=cH (nJ ar0 ha hb hs) fun _ _ _=>qE aA6
theorem N7 (hu:X.A.units+1 < cLine) (ha:QE X a ta) (hb:QE X b tb) (hs:uT b:=by exact fun _ _=>rfl):QE X (.Subscript a b pos) (qO ta tb):=cH (at7 hu ha hb hs) fun _ _ _=>aC6
theorem N8:QE X (.Dict [] [] pos) (qC (.dK [])):=cH au1 fun _ _ _=>aC9
theorem qW:QE X (.Dict [] [] pos) (qC (.dT [])):=cH au2 fun _ _ _=>aD0
theorem jQ {x:Str}{id:String}{R:List PV->(PV->Prop)->Prop}{r:List V->Hp->VK->Prop} (hc:dA X (.builtin id) r) (cv:fF X R r) (hg:Gl X x) (hm:X.mg x=none) (hv:bootBuiltins x=some (.builtin id)) (ha:QA X (e :: es) tr) (hn:x ≠ "__name__":=by decide) (hdb:(x == ("__debug__" : Str))=false:=by decide)
  (he:starEach (e :: es) X.env=(false,eval e X.env) :: starEach es X.env:=by rfl) (hpl:(backTo pos (starEach es X.env)).any (·.1)=false:=by rfl):QE X (.Call (.Name x p2) (e :: es) [] pos) (aI R tr):=cH (uH hc hg hm hv ha hn hdb he hpl) fun _ _ _=>K8 cv
theorem wE {x:Str}{T:String}{R:List PV->(PV->Prop)->Prop}{r:List V->Hp->VK->Prop} (hc:dA X (.type T) r) (cv:fF X R r) (hg:Gl X x) (hm:X.mg x=none) (hv:bootBuiltins x=some (.type T)) (ha:QA X (e :: es) tr) (hn:x ≠ "__name__":=by decide) (hdb:(x == ("__debug__" : Str))=false:=by decide)
  (he:starEach (e :: es) X.env=(false,eval e X.env) :: starEach es X.env:=by rfl) (hpl:(backTo pos (starEach es X.env)).any (·.1)=false:=by rfl):QE X (.Call (.Name x p2) (e :: es) [] pos) (aI R tr):=cH (ao7 hc hg hm hv ha hn hdb he hpl) fun _ _ _=>K8 cv
theorem cN:eW X [] c8:=wB ak5 fun _ _ _=>az5
theorem aH (h1:QS X st t) (h2:eW X sts u):eW X (st :: sts) (aF t u):=wB (pE h1 h2) fun _ _ _=>az6
theorem aQ (h1:QS X st t):eW X [st] t:=tV h1
theorem e8:QS X st dX:=dN ak8 fun _ _ _ ⟨_,_,_,_,h,_⟩=>h
theorem bA {i:Nat}{x:Str} (hN:X.N.Nodup) (he:QE X e te) (hi:X.N[i]? = some x:=by rfl) (hx:gF X.env.scope x:=by first | exact Or.inl rfl | exact Or.inr rfl) (hs:swapsWith e (some (.Name x p2)) pos.line X.env=pure false:=by rfl) (hf:X.fn x=true ∨ X.env.scope.names.lookup x=some .local:=by first | exact .inl rfl | exact .inr rfl) :
  QS X (.Assign [.Name x p2] e pos) (b6 i te):=dN (tZ hN hi hx he hs hf) fun _ _ _=>vS
theorem eZ {i:Nat}{x:Str} (hN:X.N.Nodup) (he:QE X e te) (hi:X.N[i]? = some x:=by rfl) (hx:gF X.env.scope x:=by first | exact Or.inl rfl | exact Or.inr rfl) (hs:swapsWith e (some (.Name x p2)) pos.line X.env=pure false:=by rfl) (hf:X.fn x=true ∨ X.env.scope.names.lookup x=some .local:=by first | exact .inl rfl | exact .inr rfl) :
  QS X (.Assign [.Name x p2] e pos) (dY i te):=dN (tZ hN hi hx he hs hf) fun _ _ _=>az8
theorem N9 (he:QE X e te) (hs:swapsWith e none pos.line X.env=pure false:=by rfl):QS X (.Expr e pos) (qH te):=dN (nA he hs) fun _ _ _=>az9
theorem bI (he:QE X e te):QS X (.Return (some e) pos) (bC te):=dN (tX he) fun _ _ _=>aA0
theorem o0 (i:Nat) {x:Str} (hN:X.N[i]? = some x:=by rfl) (hv:gE X.env.scope x:=by first | exact Or.inl rfl | exact Or.inr (Or.inl rfl) | exact Or.inr (Or.inr rfl)) (hd:(x == ("__debug__" : Str))=false:=by decide) (hcd:(x == ("__classdict__" : Str))=false:=by decide) :
  QS X (.Return (some (.Name x p2)) pos) (kX i):=dN (tX (iF hN hv hd hcd)) fun _ _ _=>aA1
theorem cL {sa sb:List Stmt} (hc:QT X c tc) (ha:eW X sa t) (hb:eW X sb u):QS X (.If c sa sb pos) (bY tc t u):=dN (ak6 hc ha hb) fun _ _ _=>aA2
theorem wF {body:List Stmt} (hp:PassesOwn (model X.prog X.w) X.A X.env X.xe) (hc:QT X c tc) (hb:eW X body t):QS X (.While c body [] pos) (nR tc t):=dN (ak9 hp hc hb) fun _ _ _=>aA3
theorem o3 (i:Nat) {x:Str}{apos cpos xpos:Pos} (he:QE X e te) (hN:X.N[i]? = some x:=by rfl) (hv:gE X.env.scope x:=by first | exact Or.inl rfl | exact Or.inr (Or.inl rfl) | exact Or.inr (Or.inr rfl)) (hd:(x == ("__debug__" : Str))=false:=by decide) (hcd:(x == ("__classdict__" : Str))=false:=by decide)
  (hbase:attributeBase (.Name x xpos) "append" X.env (eval (.Name x xpos) X.env)=eval (.Name x xpos) X.env:=by rfl)
  (hfew:((backTo cpos (starEach [e] X.env)).all (fun x=>!x.1) && (backToKw cpos (keywordEach [] X.env)).all (fun x=>x.1.isSome) && decide (([e]:List Expr).length+([]:List Keyword).length+(if ([]:List Keyword).isEmpty then 0 else 1) < 30))=true:=by rfl)
  (hline:(apos.endLine == cpos.line)=true:=by rfl) (hs:starEach [e] X.env=(false,eval e X.env) :: starEach [] X.env:=by rfl) (hplain:(backTo cpos (starEach [] X.env)).any (·.1)=false:=by rfl)
  (hsw:swapsWith (.Call (.Attribute (.Name x xpos) "append" apos) [e] [] cpos) none pos.line X.env=pure false:=by rfl) :
  QS X (.Expr (.Call (.Attribute (.Name x xpos) "append" apos) [e] [] cpos) pos) (kD i te):=
 dN (nA (uM PySem.F.plainAttrs_list PySem.F.slot_list_append PySem.F.type_list_append pQ (iF hN hv hd hcd) (gH he iI hs) hbase hfew hline hs hplain) hsw) fun _ _ _=>aA4
theorem O0 {i:Nat}{x:Str}{xpos tpos:Pos} (hu:X.A.units+1 < cLine) (hk:QE X a tk) (he:QE X e te) (hN:X.N[i]? = some x:=by rfl) (hv:gE X.env.scope x:=by first | exact Or.inl rfl | exact Or.inr (Or.inl rfl) | exact Or.inr (Or.inr rfl)) (hd:(x == ("__debug__" : Str))=false:=by decide) (hcd:(x == ("__classdict__" : Str))=false:=by decide)
  (hs:swapsWith e (some (.Subscript (.Name x xpos) a tpos)) pos.line X.env=pure false:=by rfl):QS X (.Assign [.Subscript (.Name x xpos) a tpos] e pos) (qQ i tk te):=dN (F4 hu (iF hN hv hd hcd) hk he hs) fun _ _ _=>aC7
theorem mB {i:Nat}{x:Str}{xpos tpos:Pos} (hu:X.A.units+1 < cLine) (hk:QE X a tk) (he:QE X e te) (hN:X.N[i]? = some x:=by rfl) (hv:gE X.env.scope x:=by first | exact Or.inl rfl | exact Or.inr (Or.inl rfl) | exact Or.inr (Or.inr rfl)) (hd:(x == ("__debug__" : Str))=false:=by decide) (hcd:(x == ("__classdict__" : Str))=false:=by decide)
  (hs:swapsWith e (some (.Subscript (.Name x xpos) a tpos)) pos.line X.env=pure false:=by rfl):QS X (.Assign [.Subscript (.Name x xpos) a tpos] e pos) (kF i tk te):=dN (F4 hu (iF hN hv hd hcd) hk he hs) fun _ _ _=>aC8
theorem aE1 {tg l:Expr}{tl:TE} (hl:PE X l tl):PI X tg l (L6 X.K tl):=by
 intro pins s σ H R I h
 refine aM (hl pins s σ H _ I h) fun v s1 ⟨x,H1,I1,r1,q1⟩=>?_
 obtain ⟨a,e,q⟩:=q1
 subst e
 cases r1
 rcases q with ⟨xs,hq,q⟩ | ⟨xs,hq,q⟩
 ·obtain ⟨its,rv,p,hz⟩:=I1.list hq
  refine wpAny_pyIter_list p.isList ?_
  refine⟨s1.heap.objs.size,[s1.heap.objs.size],_,_,H1,rfl,I1.kept (t':=s1.toks) fun b o e=>bh1 _ e,al0 a _,⟨_,bj1 _ rfl,rfl,rfl⟩,fun b hb=>?_,q⟩
  have e:b=s1.heap.objs.size:=by simpa using hb
  subst e
  exact I1.fpOk (bh7 _) (I1.hok.fresh (bh7 _))
 ·obtain ⟨its,rv,p,hz⟩:=I1.tuple hq
  refine bt1 (show s1.heap.IsTuple a its.toArray from p) ?_
  refine⟨s1.heap.objs.size,[s1.heap.objs.size],_,_,H1,rfl,I1.kept (t':=s1.toks) fun b o e=>bh1 _ e,zO a _,⟨_,bj1 _ rfl,rfl,rfl⟩,fun b hb=>?_,q⟩
  have e:b=s1.heap.objs.size:=by simpa using hb
  subst e
  exact I1.fpOk (bh7 _) (I1.hok.fresh (bh7 _))
theorem eN {tg l:Expr} (hl:QE X l te):QI X tg l (dM te):=qU (aE1 hl) fun _ _ _=>aB8
theorem l9 {tg:Expr} (hg:Gl X "range") (hm:X.mg "range" = none) (ha:QE X a ta) (hs:starEach [a] X.env = [(false,eval a X.env)]:=by rfl):QI X tg (.Call (.Name "range" p2) [a] [] pos) (jG ta):=qU (al4 hg hm (gH ha iI hs) hs) fun _ _ _=>aC0
theorem O1 {tg:Expr}{body:List Stmt}{ti:fG}{p:iP}{g:TG}{own:Nat->Prop} (hp:PassesOwn (model X.prog X.w) X.A X.env X.xe) (hc:X.calm=true) (hi:QI X tg e ti) (hg:PG X tg g) (ht:m6 X.K own p g) (hb:eW X body t)
  (hs:∀ x,foldedSetIterable e X.env x=pure x:=by intro _; rfl):QS X (.For tg e body [] pos) (dZ ti p t):=dN (zS hp hc hi hg hb hs) fun _ _ _=>aC1 ht
end
section
variable {X : Cx} {pins : List (Addr × Obj)} {σ : St} {H : Hp} {s : Shared} {K : PySem.W.Frag} {M M' : Addr → Prop}
theorem lW.inj {a:Addr}{us ws:List V} (h:lW K a us) (h':lW K a ws):us=ws:=by
 obtain ⟨o,its,n,e1,_,e2,_,v⟩:=h
 obtain ⟨o',its',n',e1',_,e2',_,v'⟩:=h'
 rw [e1] at e1'; cases e1'
 rw [e2] at e2'; cases e2'
 exact v.inj v'
theorem Reps.self_of {n:Nat} (ih:∀ {v:V}{x y:PV},aJ K M H v x->aJ K M' H v y->dB n x y=true->bV n x y=true):∀ {vs:List V}{xs ys:List PV},Reps K M H vs xs->Reps K M' H vs ys->((xs.zip ys).all fun p=>dB n p.1 p.2)=true->(((xs.zip ys).all fun p=>bV n p.1 p.2) && xs.length == ys.length)=true
 | _,_,_,.nil,.nil,_=>rfl
 | _,_,_,.cons r t,.cons r' t',o=>by
  simp only [bs5,bx0,bm9] at o
  have h1:=ih r r' o.1
  have h2:=Reps.self_of ih t t' o.2
  simp only [bs5,bx0,h1,Bool.true_and,bm5] at h2 ⊢
  rw [<- h2]
  congr 1
  simp
theorem aJ.self:∀ (n:Nat) {v:V}{x y:PV},aJ K M H v x->aJ K M' H v y->dB n x y=true->bV n x y=true:=by
 intro n
 induction n with
 | zero=>
  intro v x y r r' o
  cases r with
  | non=>cases r'; rfl
  | bl b=>cases r'; exact bp6 b
  | int i=>cases r'; exact bp6 i
  | str z=>cases r'; exact bp6 z
  | _=>cases o
 | succ n ih=>
  intro v x y r r' o
  cases r with
  | non=>cases r'; rfl
  | bl b=>cases r'; exact bp6 b
  | int i=>cases r'; exact bp6 i
  | str z=>cases r'; exact bp6 z
  | tup h rr=>
   cases r' with
   | tup h' rr'=>rw [h] at h'; cases h'; exact Reps.self_of ih rr rr' o
   | _=>cases o
  | lst _ h rr=>
   cases r' with
   | lst _ h' rr'=>rw [h] at h'; cases h'; exact Reps.self_of ih rr rr' o
   | _=>cases o
  | kt h rr=>
   cases r' with
   | kt h' rr'=>cases lW.inj h h'; exact Reps.self_of ih rr rr' o
   | _=>cases o
  | _=>cases o
theorem Reps.self (n:Nat) {vs:List V}{xs ys:List PV} (r:Reps K M H vs xs) (r':Reps K M' H vs ys) (o:((xs.zip ys).all fun p=>dB n p.1 p.2)=true):(((xs.zip ys).all fun p=>bV n p.1 p.2) && xs.length == ys.length)=true:=Reps.self_of (aJ.self n) r r' o
theorem jR (n:Nat) (xs ys:List PV):(List.range (min xs.length ys.length)).all (fun j=>bV n (xs.getD j .non) (ys.getD j .non))=(xs.zip ys).all fun p=>bV n p.1 p.2:=by
 rw [bp3]
 simp only [bq4,List.mem_range]
 constructor
 ·intro h p hp
  obtain ⟨j,hj,e⟩:=br8 hp
  have hj':j < min xs.length ys.length:=by simpa using hj
  have:=h j hj'
  rw [List.getElem_zip] at e
  subst e
  have h1:j < xs.length:=by omega
  have h2:j < ys.length:=by omega
  simpa [bj4,h1,h2] using this
 ·intro h j hj
  have h1:j < xs.length:=by omega
  have h2:j < ys.length:=by omega
  have hz:j < (xs.zip ys).length:=by simp; omega
  have:=h _ (bs7 hz)
  rw [List.getElem_zip] at this
  simpa [bj4,h1,h2] using this
theorem O2 (I:a8 X pins σ H s):∀ (n:Nat) {A:Around}{v w:V}{x y:PV}{a b:Value},A.units+n < cLine->aJ X.K M H v x->aJ X.K M' H w y->aS v a->aS w b->dB n x y=true->SeqAt.EqAt A s a b (bV n x y):=by
 intro n
 induction n with
 | zero=>
  intro A v w x y a b hu rx ry ra rb o
  cases rx with
  | non=>
   cases ra
   cases ry with
   | non=>cases rb; exact SeqAt.EqAt.same _
   | int i=>obtain ⟨t',rfl⟩:=rb; exact SeqAt.EqAt.none_int _ _
   | _=>cases o
  | bl i=>
   cases ra
   cases ry with
   | bl j=>cases rb; exact SeqAt.EqAt.bool_bool _ _
   | _=>cases o
  | int i=>
   obtain ⟨t,rfl⟩:=ra
   cases ry with
   | int j=>obtain ⟨t',rfl⟩:=rb; exact SeqAt.EqAt.int_int _ _ _ _
   | non=>cases rb; exact SeqAt.EqAt.int_none _ _
   | _=>cases o
  | str i=>
   obtain ⟨t,rfl⟩:=ra
   cases ry with
   | str j=>obtain ⟨t',rfl⟩:=rb; exact SeqAt.EqAt.str_str _ _ _ _
   | _=>cases o
  | _=>cases o
 | succ n ih=>
  intro A v w x y a b hu rx ry ra rb o
  have items:∀ {us ws:List V}{xs ys:List PV}{its its2:List Value},Reps X.K M H us xs->Reps X.K M' H ws ys->aL us its->aL ws its2->((xs.zip ys).all fun p=>dB n p.1 p.2)=true->
    ∀ j (h1:j < its.toArray.size) (h2:j < its2.toArray.size),SeqAt.EqAt A.in1 s its.toArray[j] its2.toArray[j] (bV n (xs.getD j .non) (ys.getD j .non)):=fun {us ws xs ys its its2} r1 r2 v1 v2 ok j h1 h2=>by
   have l1:=v1.length
   have l2:=v2.length
   have m1:=r1.length
   have m2:=r2.length
   have k1:j < its.length:=by simpa using h1
   have k2:j < its2.length:=by simpa using h2
   have j1:j < us.length:=by omega
   have j2:j < ws.length:=by omega
   have i1:j < xs.length:=by omega
   have i2:j < ys.length:=by omega
   obtain ⟨u,hu',ru⟩:=v1.get (bh4 j1)
   obtain ⟨u2,hu2',ru2⟩:=v2.get (bh4 j2)
   obtain ⟨x,hx,rx⟩:=r1.get (bh4 j1)
   obtain ⟨y,hy,ry⟩:=r2.get (bh4 j2)
   have e1:its.toArray[j]=u:=by
    rw [bh4 k1] at hu'
    simpa using hu'
   have e2:its2.toArray[j]=u2:=by
    rw [bh4 k2] at hu2'
    simpa using hu2'
   have ok':dB n x y=true:=by
    rw [bq4] at ok
    have hz:j < (xs.zip ys).length:=by simp; omega
    have:=ok _ (bs7 hz)
    rw [List.getElem_zip] at this
    rw [bh4 i1] at hx
    rw [bh4 i2] at hy
    cases hx; cases hy
    exact this
   rw [e1,e2]
   have g1:xs.getD j .non=x:=by rw [bj4,hx]; rfl
   have g2:ys.getD j .non=y:=by rw [bj4,hy]; rfl
   rw [g1,g2]
   exact ih (by show A.units+1+n < cLine; omega) rx ry ru ru2 ok'
  have huA:A.units < cLine:=by omega
  cases rx with
  | @kt p us xs h1 r1=>
   obtain ⟨its,v1,p1,_⟩:=I.tuple (.inr h1)
   cases (show a=Value.ref p from ra)
   cases ry with
   | @kt p2 ws ys h2 r2=>
    obtain ⟨its2,v2,p2',_⟩:=I.tuple (.inr h2)
    cases (show b=Value.ref p2 from rb)
    by_cases e:p=p2
    ·subst e
     have:=aJ.self (K:=X.K) (M:=M) (M':=M') (n+1) (.kt h1 r1) (.kt h2 r2) o
     rw [this]
     exact SeqAt.EqAt.same _
    ·have:=SeqAt.RcAt.tuples p1 p2' huA (items r1 r2 v1 v2 o)
     refine .of_refs e ?_
     have l1:=v1.length
     have l2:=v2.length
     have m1:=r1.length
     have m2:=r2.length
     rw [bh3,bh3,<- l1,<- l2,m1,m2,jR] at this
     exact this
   | _=>cases o
  | @tup p us xs h1 r1=>
   obtain ⟨its,v1,p1,_⟩:=I.tuple (aO.of (K:=X.K) h1)
   cases (show a=Value.ref p from ra)
   cases ry with
   | @tup p2 ws ys h2 r2=>
    obtain ⟨its2,v2,p2',_⟩:=I.tuple (aO.of (K:=X.K) h2)
    cases (show b=Value.ref p2 from rb)
    by_cases e:p=p2
    ·subst e
     have:=aJ.self (K:=X.K) (M:=M) (M':=M') (n+1) (.tup h1 r1) (.tup h2 r2) o
     rw [this]
     exact SeqAt.EqAt.same _
    ·have:=SeqAt.RcAt.tuples p1 p2' huA (items r1 r2 v1 v2 o)
     refine .of_refs e ?_
     have l1:=v1.length
     have l2:=v2.length
     have m1:=r1.length
     have m2:=r2.length
     rw [bh3,bh3,<- l1,<- l2,m1,m2,jR] at this
     exact this
   | non=>cases rb; exact SeqAt.EqAt.tuple_none p1 huA
   | _=>cases o
  | @lst p us xs _ h1 r1=>
   obtain ⟨its,v1,p1,_⟩:=I.list (aR.of (K:=X.K) h1)
   cases (show a=Value.ref p from ra)
   cases ry with
   | @lst p2 ws ys _ h2 r2=>
    obtain ⟨its2,v2,p2',_⟩:=I.list (aR.of (K:=X.K) h2)
    cases (show b=Value.ref p2 from rb)
    have l1:=v1.length
    have l2:=v2.length
    have m1:=r1.length
    have m2:=r2.length
    by_cases e:p=p2
    ·subst e
     rw [h1] at h2; cases h2
     have:=Reps.self n r1 r2 o
     show SeqAt.EqAt A s _ _ ((xs.zip ys).all (fun p=>bV n p.1 p.2) && xs.length == ys.length)
     rw [this]
     exact SeqAt.EqAt.same _
    ·refine .of_refs e ?_
     by_cases hl:xs.length=ys.length
     ·have:=SeqAt.RcAt.lists p1.isList p2'.isList (by rw [bh3,bh3]; omega) huA (items r1 r2 v1 v2 o)
      have hm:min xs.length ys.length=its.length:=by omega
      rw [bh3,<- hm,jR] at this
      show SeqAt.RcAt A s _ _ ((xs.zip ys).all (fun p=>bV n p.1 p.2) && xs.length == ys.length)
      rw [show (xs.length == ys.length)=true by simpa using hl,Bool.and_true]
      exact this
     ·have:=SeqAt.RcAt.lists_lengths (A:=A) p1.isList p2'.isList (by rw [bh3,bh3]; simp; omega) huA
      show SeqAt.RcAt A s _ _ ((xs.zip ys).all (fun p=>bV n p.1 p.2) && xs.length == ys.length)
      rw [show (xs.length == ys.length)=false by simpa using hl,bp5]
      exact this
   | _=>cases o
  | non=>
   cases ra
   cases ry with
   | non=>cases rb; exact SeqAt.EqAt.same _
   | int i=>obtain ⟨t',rfl⟩:=rb; exact SeqAt.EqAt.none_int _ _
   | @tup p2 ws ys h2 r2=>
    obtain ⟨its2,v2,p2',_⟩:=I.tuple (aO.of (K:=X.K) h2)
    cases (show b=Value.ref p2 from rb)
    exact SeqAt.EqAt.none_tuple p2' huA
   | _=>cases o
  | bl i=>
   cases ra
   cases ry with
   | bl j=>cases rb; exact SeqAt.EqAt.bool_bool _ _
   | _=>cases o
  | int i=>
   obtain ⟨t,rfl⟩:=ra
   cases ry with
   | int j=>obtain ⟨t',rfl⟩:=rb; exact SeqAt.EqAt.int_int _ _ _ _
   | non=>cases rb; exact SeqAt.EqAt.int_none _ _
   | _=>cases o
  | str i=>
   obtain ⟨t,rfl⟩:=ra
   cases ry with
   | str j=>obtain ⟨t',rfl⟩:=rb; exact SeqAt.EqAt.str_str _ _ _ _
   | _=>cases o
  | _=>cases o
end
structure Bt (mg:Str->Option Value):Prop where
 len:mg "len" = none
 range:mg "range" = none
 tuple:mg "tuple" = none
 list:mg "list" = none
 sorted:mg "sorted" = none
 all:mg "all" = none
 any:mg "any" = none
 zip:mg "zip" = none
 min:mg "min" = none
 max:mg "max" = none
 sum:mg "sum" = none
 isinst:mg "isinstance" = none
 int:mg "int" = none
 bool:mg "bool" = none
 enum:mg "enumerate" = none
section
variable {X : Cx} {a b c e o : Expr} {es cZ : List Expr} {ta tb te to tk : aE} {tr : cR} {tA tB' tc : cM} {pos p2 px : Pos} {st : Stmt} {sts : List Stmt} {t u : aP}
theorem fA (B:Bt X.mg) (ha:QA X [e] tr) (hg:Gl X "len":=by rfl) (he:starEach [e] X.env=(false,eval e X.env) :: starEach [] X.env:=by rfl) (hpl:(backTo pos (starEach [] X.env)).any (·.1)=false:=by rfl):QE X (.Call (.Name "len" p2) [e] [] pos) (aI dS tr):=
 jQ (ar6.or av1) aA7 hg B.len PySem.boot_len ha (he:=he) (hpl:=hpl)
theorem gQ (B:Bt X.mg) (ha:QA X [e] tr) (hg:Gl X "tuple":=by rfl) (he:starEach [e] X.env=(false,eval e X.env) :: starEach [] X.env:=by rfl) (hpl:(backTo pos (starEach [] X.env)).any (·.1)=false:=by rfl):QE X (.Call (.Name "tuple" p2) [e] [] pos) (aI fZ tr):=
 wE ar8 aA8 hg B.tuple PyProof.Rows.boot_tuple ha (he:=he) (hpl:=hpl)
theorem o4 (B:Bt X.mg) (ha:QA X [e] tr) (hg:Gl X "list":=by rfl) (he:starEach [e] X.env=(false,eval e X.env) :: starEach [] X.env:=by rfl) (hpl:(backTo pos (starEach [] X.env)).any (·.1)=false:=by rfl):QE X (.Call (.Name "list" p2) [e] [] pos) (aI kY tr):=
 wE ar7 aA9 hg B.list PyProof.Rows.boot_list ha (he:=he) (hpl:=hpl)
theorem wG (B:Bt X.mg) (hc:X.calm=true) (ha:QA X [e] tr) (hg:Gl X "all":=by rfl) (he:starEach [e] X.env=(false,eval e X.env) :: starEach [] X.env:=by rfl) (hpl:(backTo pos (starEach [] X.env)).any (·.1)=false:=by rfl):QE X (.Call (.Name "all" p2) [e] [] pos) (aI m3 tr):=
 jQ (ax5 hc) aB0 hg B.all PyProof.Rows.boot_all ha (he:=he) (hpl:=hpl)
theorem aE2 (B:Bt X.mg) (hc:X.calm=true) (ha:QA X [a,b] tr) (hg:Gl X "min":=by rfl) (he:starEach [a,b] X.env=(false,eval a X.env) :: starEach [b] X.env:=by rfl) (hpl:(backTo pos (starEach [b] X.env)).any (·.1)=false:=by rfl):QE X (.Call (.Name "min" p2) [a,b] [] pos) (aI vV tr):=
 jQ (an9 hc) aB1 hg B.min PyProof.Rows.boot_min ha (he:=he) (hpl:=hpl)
theorem O3 (B:Bt X.mg) (hc:X.calm=true) (ha:QA X [a,b] tr) (hg:Gl X "max":=by rfl) (he:starEach [a,b] X.env=(false,eval a X.env) :: starEach [b] X.env:=by rfl) (hpl:(backTo pos (starEach [b] X.env)).any (·.1)=false:=by rfl):QE X (.Call (.Name "max" p2) [a,b] [] pos) (aI qJ tr):=
 jQ (an8 hc) aB2 hg B.max PyProof.Rows.boot_max ha (he:=he) (hpl:=hpl)
theorem wH (ha:QE X a ta):QE X (.UnaryOp .USub a pos) (qT ta):=cH (al9 am6 ha) fun σ H Q' h=>by
 obtain ⟨W,ρ,Q,px,q,k⟩:=h
 refine⟨W,ρ,_,px,q,?_⟩
 rintro v H1 x g s r ⟨i,rfl,q⟩
 cases r
 exact⟨i,rfl,k _ _ _ .fr s (.int _) q⟩
theorem aJ.kt_ {K:PySem.W.Frag}{M:Addr->Prop}{H:Hp}{v:V}{xs:List PV} (r:aJ K M H v (.kt xs)):∃ a us,v = .ref a/\lW K a us/\Reps K M H us xs:=by
 cases r with
 | kt h r=>exact⟨_,_,rfl,h,r⟩
def O4 (K:PySem.W.Frag) (H:Hp) (x:V) (t:Value):Prop:=fI K H x t ∨ ∃ a us,x = .ref a/\aO K H a us/\t = .type "tuple"
theorem aE3:dA X (.builtin "isinstance") (fun xs H Q=>∃ x t n b,xs = [x,.ty n]/\O4 X.K H x t/\PySem.W.kitOne X.K t (.type n)=some b/\Q (.bl b) H):=by
 intro pins s σ H xs us Q I r h
 obtain ⟨x,t,n,b,rfl,ty,e,q⟩:=h
 rcases ty with ty | ⟨a,ws,rfl,hs,rfl⟩
 ·exact aw5 pins s σ H _ us Q I r ⟨x,t,n,b,rfl,ty,e,q⟩
 obtain ⟨u,u',rfl,ru,ru'⟩:=nH r
 cases ru'
 cases (show u=Value.ref a from ru)
 obtain ⟨its,_,⟨o,h1,h2,_⟩,_⟩:=I.tuple hs
 exact bo5 PySem.W.kitx_tuple I.kIn ⟨o,h1,h2⟩ e (fun z=>nomatch z) fun tk=>⟨.bl b,H,I.tok tk,rfl,q⟩
theorem aE4 {K:PySem.W.Frag}{M:Addr->Prop}{H:Hp}{v:V}{x:PV}{T:String} (r:aJ K M H v x) (e:M9 x=some T):O4 K H v (.type T):=by
 cases r with
 | non=>cases e; exact .inl .non
 | bl b=>cases e; exact .inl (.bl b)
 | int i=>cases e; exact .inl (.int i)
 | str i=>cases e; exact .inl (.str i)
 | tup h _=>cases e; exact .inl (.tup h)
 | lst _ h _=>cases e; exact .inl (.lst h)
 | kt h _=>cases e; exact .inr ⟨_,_,rfl,.inr h,rfl⟩
 | _=>cases e
theorem wI {x:Str}{n:String} (B:Bt X.mg) (hn:bootBuiltins x=some (.type n)) (hm:X.mg x=none) (ha:QE X a ta) (hg:Gl X "isinstance":=by rfl) (hgx:Gl X x:=by rfl) (hx:x ≠ "__name__":=by decide) (hdx:(x == ("__debug__" : Str))=false:=by decide)
  (he:starEach [a,.Name x px] X.env=(false,eval a X.env) :: starEach [.Name x px] X.env:=by rfl) (he2:starEach [.Name x px] X.env=(false,eval (.Name x px) X.env) :: starEach [] X.env:=by rfl) (hpl:(backTo pos (starEach [.Name x px] X.env)).any (·.1)=false:=by rfl):QE X (.Call (.Name "isinstance" p2) [a,.Name x px] [] pos) (kG X.K n ta):=
 cH (uH aE3 hg B.isinst PyProof.Rows.boot_isinstance (gH ha (gH (z9 (v:=.ty n) hgx hm hn rfl hx hdx) iI he2) he) (he:=he) (hpl:=hpl)) fun σ H Q' h=>by
  obtain ⟨W,ρ,Q,px,q,k⟩:=h
  refine⟨W,ρ,_,px,q,?_⟩
  rintro v H1 x g s r ⟨T,b,e,kt,q⟩
  exact⟨v,_,n,b,rfl,aE4 r e,kt,k _ _ _ .fr s (.bl _) q⟩
theorem aE5 (B:Bt X.mg) (ha:QE X a ta) (hg:Gl X "isinstance":=by rfl) (hgx:Gl X "int":=by rfl)
  (he:starEach [a,.Name "int" px] X.env=(false,eval a X.env) :: starEach [.Name "int" px] X.env:=by rfl) (he2:starEach [.Name "int" px] X.env=(false,eval (.Name "int" px) X.env) :: starEach [] X.env:=by rfl) (hpl:(backTo pos (starEach [.Name "int" px] X.env)).any (·.1)=false:=by rfl):QE X (.Call (.Name "isinstance" p2) [a,.Name "int" px] [] pos) (kG X.K "int" ta):=wI B PyProof.Rows.boot_int B.int ha (hg:=hg) (hgx:=hgx) (he:=he) (he2:=he2) (hpl:=hpl)
theorem aE6 (B:Bt X.mg) (ha:QE X a ta) (hg:Gl X "isinstance":=by rfl) (hgx:Gl X "bool":=by rfl)
  (he:starEach [a,.Name "bool" px] X.env=(false,eval a X.env) :: starEach [.Name "bool" px] X.env:=by rfl) (he2:starEach [.Name "bool" px] X.env=(false,eval (.Name "bool" px) X.env) :: starEach [] X.env:=by rfl) (hpl:(backTo pos (starEach [.Name "bool" px] X.env)).any (·.1)=false:=by rfl):QE X (.Call (.Name "isinstance" p2) [a,.Name "bool" px] [] pos) (kG X.K "bool" ta):=wI B PyProof.Rows.boot_bool B.bool ha (hg:=hg) (hgx:=hgx) (he:=he) (he2:=he2) (hpl:=hpl)
theorem O5 (B:Bt X.mg) (ha:QE X a ta) (hg:Gl X "isinstance":=by rfl) (hgx:Gl X "tuple":=by rfl)
  (he:starEach [a,.Name "tuple" px] X.env=(false,eval a X.env) :: starEach [.Name "tuple" px] X.env:=by rfl) (he2:starEach [.Name "tuple" px] X.env=(false,eval (.Name "tuple" px) X.env) :: starEach [] X.env:=by rfl) (hpl:(backTo pos (starEach [.Name "tuple" px] X.env)).any (·.1)=false:=by rfl):QE X (.Call (.Name "isinstance" p2) [a,.Name "tuple" px] [] pos) (kG X.K "tuple" ta):=wI B PyProof.Rows.boot_tuple B.tuple ha (hg:=hg) (hgx:=hgx) (he:=he) (he2:=he2) (hpl:=hpl)
def wJ (K:PySem.W.Frag) (n:Nat) (neg:Bool):R2:=fun v w H Q=>∃ x y,aJ K (fun _=>True) H v x/\aJ K (fun _=>True) H w y/\((∃ xs ys,x = .tup xs/\y = .tup ys) ∨ (∃ xs ys,x = .lst xs/\y = .lst ys) ∨ (∃ xs ys,x = .kt xs/\y = .kt ys))/\dB (n+1) x y=true/\Q (.bl (if neg=true then !bV (n+1) x y else bV (n+1) x y)) H
theorem mC {pins:List (Addr × Obj)}{σ:St}{H:Hp}{s:Shared}{M M':Addr->Prop} (I:a8 X pins σ H s) {n:Nat}{A:Around} (hu:A.units+(n+1) < cLine) {us ws:List V}{xs ys:List PV}{its its2:List Value} (r1:Reps X.K M H us xs) (r2:Reps X.K M' H ws ys) (v1:aL us its) (v2:aL ws its2)
  (ok:((xs.zip ys).all fun p=>dB n p.1 p.2)=true):∀ j (h1:j < its.toArray.size) (h2:j < its2.toArray.size),SeqAt.EqAt A.in1 s its.toArray[j] its2.toArray[j] (bV n (xs.getD j .non) (ys.getD j .non)):=by
 intro j h1 h2
 have l1:=v1.length
 have l2:=v2.length
 have m1:=r1.length
 have m2:=r2.length
 have k1:j < its.length:=by simpa using h1
 have k2:j < its2.length:=by simpa using h2
 have j1:j < us.length:=by omega
 have j2:j < ws.length:=by omega
 have i1:j < xs.length:=by omega
 have i2:j < ys.length:=by omega
 obtain ⟨u,hu',ru⟩:=v1.get (bh4 j1)
 obtain ⟨u2,hu2',ru2⟩:=v2.get (bh4 j2)
 obtain ⟨x,hx,rx⟩:=r1.get (bh4 j1)
 obtain ⟨y,hy,ry⟩:=r2.get (bh4 j2)
 have e1:its.toArray[j]=u:=by
  rw [bh4 k1] at hu'
  simpa using hu'
 have e2:its2.toArray[j]=u2:=by
  rw [bh4 k2] at hu2'
  simpa using hu2'
 have ok':dB n x y=true:=by
  rw [bq4] at ok
  have hz:j < (xs.zip ys).length:=by simp; omega
  have:=ok _ (bs7 hz)
  rw [List.getElem_zip] at this
  rw [bh4 i1] at hx
  rw [bh4 i2] at hy
  cases hx; cases hy
  exact this
 rw [e1,e2]
 have g1:xs.getD j .non=x:=by rw [bj4,hx]; rfl
 have g2:ys.getD j .non=y:=by rw [bj4,hy]; rfl
 rw [g1,g2]
 exact O2 I n (by show A.units+1+n < cLine; omega) rx ry ru ru2 ok'
theorem bg8 (n:Nat) (hu:X.A.units+(n+1) < cLine):bX X (compareOp .Eq) (wJ X.K n false):=by
 intro pins s σ H v w a b Q I ra rb h
 obtain ⟨x,y,rx,ry,kd,o,q⟩:=h
 have hu0:X.A.units < cLine:=by omega
 rcases kd with ⟨xs,ys,rfl,rfl⟩ | ⟨xs,ys,rfl,rfl⟩ | ⟨xs,ys,rfl,rfl⟩
 ·obtain ⟨p,us,rfl,h1,r1⟩:=rx.sqT
  obtain ⟨p2,ws,rfl,h2,r2⟩:=ry.sqT
  cases ra; cases rb
  obtain ⟨its,v1,p1,_⟩:=I.tuple (aO.of (K:=X.K) h1)
  obtain ⟨its2,v2,p2',_⟩:=I.tuple (aO.of (K:=X.K) h2)
  have l1:=v1.length
  have l2:=v2.length
  have m1:=r1.length
  have m2:=r2.length
  have:=SeqAt.RcAt.tuples p1 p2' hu0 (mC I hu r1 r2 v1 v2 o)
  rw [bh3,bh3,<- l1,<- l2,m1,m2,jR] at this
  exact this _ _ _ _ ⟨.bl _,H,I,rfl,q⟩
 ·obtain ⟨p,us,rfl,_,h1,r1⟩:=rx.sqL
  obtain ⟨p2,ws,rfl,_,h2,r2⟩:=ry.sqL
  cases ra; cases rb
  obtain ⟨its,v1,p1,_⟩:=I.list (aR.of (K:=X.K) h1)
  obtain ⟨its2,v2,p2',_⟩:=I.list (aR.of (K:=X.K) h2)
  have l1:=v1.length
  have l2:=v2.length
  have m1:=r1.length
  have m2:=r2.length
  have q:Q (.bl ((xs.zip ys).all (fun p=>bV n p.1 p.2) && xs.length == ys.length)) H:=q
  by_cases hl:xs.length=ys.length
  ·have:=SeqAt.RcAt.lists p1.isList p2'.isList (by rw [bh3,bh3]; omega) hu0 (mC I hu r1 r2 v1 v2 o)
   have hm:min xs.length ys.length=its.length:=by omega
   rw [bh3,<- hm,jR] at this
   rw [show (xs.length == ys.length)=true by simpa using hl,Bool.and_true] at q
   exact this _ _ _ _ ⟨.bl _,H,I,rfl,q⟩
  ·have:=SeqAt.RcAt.lists_lengths (A:=X.A) p1.isList p2'.isList (by rw [bh3,bh3]; simp; omega) hu0
   rw [show (xs.length == ys.length)=false by simpa using hl,bp5] at q
   exact this _ _ _ _ ⟨.bl _,H,I,rfl,q⟩
 ·obtain ⟨p,us,rfl,h1,r1⟩:=rx.kt_
  obtain ⟨p2,ws,rfl,h2,r2⟩:=ry.kt_
  cases ra; cases rb
  obtain ⟨its,v1,p1,_⟩:=I.tuple (.inr h1)
  obtain ⟨its2,v2,p2',_⟩:=I.tuple (.inr h2)
  have l1:=v1.length
  have l2:=v2.length
  have m1:=r1.length
  have m2:=r2.length
  have:=SeqAt.RcAt.tuples p1 p2' hu0 (mC I hu r1 r2 v1 v2 o)
  rw [bh3,bh3,<- l1,<- l2,m1,m2,jR] at this
  exact this _ _ _ _ ⟨.bl _,H,I,rfl,q⟩
theorem aE7 (n:Nat) (hu:X.A.units+(n+1) < cLine):bX X (compareOp .NotEq) (wJ X.K n true):=by
 intro pins s σ H v w a b Q I ra rb h
 obtain ⟨x,y,rx,ry,kd,o,q⟩:=h
 have hu0:X.A.units < cLine:=by omega
 rcases kd with ⟨xs,ys,rfl,rfl⟩ | ⟨xs,ys,rfl,rfl⟩ | ⟨xs,ys,rfl,rfl⟩
 ·obtain ⟨p,us,rfl,h1,r1⟩:=rx.sqT
  obtain ⟨p2,ws,rfl,h2,r2⟩:=ry.sqT
  cases ra; cases rb
  obtain ⟨its,v1,p1,_⟩:=I.tuple (aO.of (K:=X.K) h1)
  obtain ⟨its2,v2,p2',_⟩:=I.tuple (aO.of (K:=X.K) h2)
  have l1:=v1.length
  have l2:=v2.length
  have m1:=r1.length
  have m2:=r2.length
  have:=SeqAt.RcNeAt.tuples p1 p2' hu0 (mC I hu r1 r2 v1 v2 o)
  rw [bh3,bh3,<- l1,<- l2,m1,m2,jR] at this
  exact this _ _ _ _ ⟨.bl _,H,I,rfl,q⟩
 ·obtain ⟨p,us,rfl,_,h1,r1⟩:=rx.sqL
  obtain ⟨p2,ws,rfl,_,h2,r2⟩:=ry.sqL
  cases ra; cases rb
  obtain ⟨its,v1,p1,_⟩:=I.list (aR.of (K:=X.K) h1)
  obtain ⟨its2,v2,p2',_⟩:=I.list (aR.of (K:=X.K) h2)
  have l1:=v1.length
  have l2:=v2.length
  have m1:=r1.length
  have m2:=r2.length
  have q:Q (.bl (!((xs.zip ys).all (fun p=>bV n p.1 p.2) && xs.length == ys.length))) H:=q
  by_cases hl:xs.length=ys.length
  ·have:=SeqAt.RcNeAt.lists p1.isList p2'.isList (by rw [bh3,bh3]; omega) hu0 (mC I hu r1 r2 v1 v2 o)
   have hm:min xs.length ys.length=its.length:=by omega
   rw [bh3,<- hm,jR] at this
   rw [show (xs.length == ys.length)=true by simpa using hl,Bool.and_true] at q
   exact this _ _ _ _ ⟨.bl _,H,I,rfl,q⟩
  ·have:=SeqAt.RcNeAt.lists_lengths (A:=X.A) p1.isList p2'.isList (by rw [bh3,bh3]; simp; omega) hu0
   rw [show (xs.length == ys.length)=false by simpa using hl,bp5] at q
   exact this _ _ _ _ ⟨.bl _,H,I,rfl,q⟩
 ·obtain ⟨p,us,rfl,h1,r1⟩:=rx.kt_
  obtain ⟨p2,ws,rfl,h2,r2⟩:=ry.kt_
  cases ra; cases rb
  obtain ⟨its,v1,p1,_⟩:=I.tuple (.inr h1)
  obtain ⟨its2,v2,p2',_⟩:=I.tuple (.inr h2)
  have l1:=v1.length
  have l2:=v2.length
  have m1:=r1.length
  have m2:=r2.length
  have:=SeqAt.RcNeAt.tuples p1 p2' hu0 (mC I hu r1 r2 v1 v2 o)
  rw [bh3,bh3,<- l1,<- l2,m1,m2,jR] at this
  exact this _ _ _ _ ⟨.bl _,H,I,rfl,q⟩
theorem aE8 {n:Nat}{neg:Bool}:dL X (m8 n neg) (wJ X.K n neg):=by
 rintro W Hs H u v x y g g' Q Q' s n r1 r2 ⟨kd,o,q⟩ k
 exact⟨x,y,r1.same (aG.refl _) fun _ _=>trivial,r2.same (aG.refl _) fun _ _=>trivial,kd.elim .inl fun z=>.inr (.inl z),o,k _ _ _ .fr (aG.refl _) (.bl _) q⟩
theorem qX (hu:X.A.units+3 < cLine) (ha:QE X a ta) (hb:QE X b tb):QT X (.Compare a [.NotEq] [b] pos) (aT (q2 (m8 2 true) ta tb)):=jM (aE7 2 hu) aE8 ha hb (gY _)
end
end PP
namespace PP
open PySem L2 PyProof.Rows
def LO (X:Cx) (t:m9):TO:=fun σ H Q'=>∃ (W:Addr->Prop) (ρ:bH) (Q:Option Int->Prop),PX X.K X.H₀ W σ ρ H/\t ρ Q/\∀ o H',aG H H'->Q o->Q' o H'
def QO (X:Cx) (e:Option Expr) (t:m9):Prop:=PO X e (LO X t)
theorem Reps.cut {K:PySem.W.Frag}{M:Addr->Prop}{H:Hp}{us:List V}{xs:List PV} (r:Reps K M H us xs) (lo hi:Option Int):Reps K M H (gZ us lo hi) (i6 xs lo hi):=by
 unfold gZ i6
 rw [r.length]
 exact (r.drop _).take _
section
variable {X : Cx} {a b c e o : Expr} {es cZ : List Expr} {ta tb te to tk : aE} {tr : cR} {tA tB' tc : cM} {pos p2 px : Pos} {st : Stmt} {sts : List Stmt} {t u : aP}
theorem o7:QO X none iR:=fun pins s σ H Q I h=>aq3 pins s σ H Q I (by
 obtain ⟨W,ρ,Q1,px,q,k⟩:=h
 exact k _ _ (aG.refl _) q)
theorem o8 (h:QE X e te):QO X (some e) (iS te):=fun pins s σ H Q I hq=>aq4 h pins s σ H Q I (by
 obtain ⟨W,ρ,Q1,px,q,k⟩:=hq
 refine⟨W,ρ,_,px,q,?_⟩
 rintro v H1 x g s r ⟨i,rfl,q⟩
 cases r
 exact⟨i,rfl,k _ _ s q⟩)
theorem o9 {lo hi:Option Expr}{tl th:m9}{sp:Pos} (he:QE X e te) (hl:QO X lo tl) (hh:QO X hi th):QE X (.Subscript e (.Slice lo hi none sp) pos) (iT te tl th):=cH (aq5 (ar5.or ax8) he hl hh) fun σ H Q' h=>by
 obtain ⟨W,ρ,Q,px,q,k⟩:=h
 refine⟨W,ρ,_,px,q,fun v H1 x g s1 r1 q1=>⟨W,ρ,_,px.mono s1,q1,fun lo H2 s2 q2=>⟨W,ρ,_,px.mono (s1.trans s2),q2,?_⟩⟩⟩
 rintro hi H3 s3 ⟨xs,e,f,q3⟩
 have S:=(s1.trans s2).trans s3
 have r3:=r1.same (M':=Mg X.H₀ W H g) (s2.trans s3) fun _ z=>z
 cases r3 with
 | tup h r=>
  cases e
  refine .inr ⟨_,_,rfl,aO.of h,fun p hp=>k _ _ _ .fr (S.trans (bU hp _)) (.tup bO (((r.flat f).cut lo hi).same (bU hp _) fun _ z=>z)) q3,fun ec=>k _ _ _ .fr S (.tup h ?_) q3⟩
  have:=(r.flat (M':=Mg X.H₀ W H .fr) f).cut lo hi
  rw [ec] at this
  exact this
 | lst m h r=>
  cases e
  exact .inl ⟨_,_,rfl,aR.of h,fun p hp=>k _ _ _ .fr (S.trans (bU hp _)) (.lst (S.free hp) bO (((r.flat f).cut lo hi).same (bU hp _) fun _ z=>z)) q3⟩
 | scr h=>
  cases e
  exact .inl ⟨_,_,rfl,h.sqL,fun p hp=>k _ _ _ .fr (S.trans (bU hp _)) (.lst (S.free hp) bO (((Reps.intz _).cut lo hi).same (bU hp _) fun _ z=>z)) q3⟩
 | _=>cases e
structure Df (P:Program) (w:World) (K:PySem.W.Frag) (mg:Str->Option Value) (base:Heap) (k:Nat) (x:Str) (ps:List Str) (p:bE):Prop where
 ex:∃ f fd,dE P w K mg base eJ k f fd ps (nS K p)/\iJ K fd ps []/\PySem.W.keepIn K (.ref f)=true/\mg x=some (.ref f)
theorem bS {k j:Nat}{x:Str}{ps:List Str}{p:bE} (d:Df X.prog X.w X.K X.mg X.base k x ps p) (hr:cE j X.A) (ha:QA X (e :: es) tr) (hkj:k<=j:=by decide) (hg:Gl X x:=by rfl) (hdb:(x == ("__debug__" : Str))=false:=by decide)
  (he:starEach (e :: es) X.env=(false,eval e X.env) :: starEach es X.env:=by rfl) (hpl:(backTo pos (starEach es X.env)).any (·.1)=false:=by rfl):QE X (.Call (.Name x p2) (e :: es) [] pos) (aI p tr):=by
 obtain ⟨f,fd,F,b,kp,m⟩:=d.ex
 exact cH (uF F (hr.mono hkj) hg m kp b .nil au9 ha hdb he hpl) fun _ _ _=>aB3
theorem wK {K:PySem.W.Frag}{H:Hp}{N:List Str}{vs:List V}{xs:List PV} (r:Reps K (fun _=>True) H vs xs):PX K H (fun _=>False) (L2.gJ N vs) (eV N xs) H:=by
 have lr:=r.length
 have own:∀ {i:Nat}{m:Slot},(eV N xs)[i]? = some (some m)->∃ x,xs[i]? = some x/\m = .sh (flat x) x:=fun {i m} h=>by
  unfold eV at h
  by_cases hi:i < xs.length
  ·rw [bs9 (by simpa using hi),bj5] at h
   rw [bh4 hi] at h ⊢
   cases h
   exact⟨_,rfl,rfl⟩
  ·rw [bv4 (by simpa using hi),List.getElem?_replicate] at h
   split at h <;> cases h
 refine⟨by unfold L2.gJ eV; simp [lr],aG.refl _,fun a z=>z.elim,fun i m h=>?_,fun i j x y a h1=>?_⟩
 ·obtain ⟨x,hx,rfl⟩:=own h
  obtain ⟨v,hv,rx⟩:=r.at hx
  refine⟨v,?_,qM (g:=false) (rx.same (aG.refl _) fun _ _ z=>z)⟩
  have hi:i < vs.length:=(bi3.mp hv).1
  unfold L2.gJ
  rw [bs9 (by simpa using hi),bj5,hv]; rfl
 ·obtain ⟨x,_,e⟩:=own h1
  cases e
theorem Df.of {P:Program}{w:World}{K:PySem.W.Frag}{mg:Str->Option Value}{base:Heap}{k:Nat}{x:Str}{ps N:List Str}{p:bE}{st:Stmt}{f:Addr}{fd:FuncData} (F:fL K x x st f fd) (m:mg x=some (.ref f)) (S:FnScope N ps (aU st))
  (hb:∀ (kV doc pm:Value) (an:Option Addr) (cdv ct:Value) (us:List Value),us.length=ps.length->bindArgs (PySem.W.fnOf x x (jC st) (eR st) (aU st) .none kV doc pm an cdv ct) ⟨us,[]⟩=pure (ps.zip us))
  (len:∀ xs Q,p xs Q->xs.length=ps.length)
  (body:∀ (cdv:Value) (A:Around) (outer:List Env) (s:Shared) (H:Hp) (E:XK),cE k (A.deeper (envOfC x (aU st) s.heap.objs.size f cdv))->
   ∃ t,eW (dG eJ P w K mg base N x (aU st) f cdv A outer s H E).nox (eR st) t/\∀ xs Q,p xs Q->t { nx:=fun _=>Q .non,rt:=Q } (eV N xs)):Df P w K mg base (k+1) x ps p:=by
 refine⟨f,fd,F.ok S (fun vs H Q E h=>?_) (fun cdv A outer s H vs Q E hr h=>?_),F.binds hb,F.kp,m⟩
 ·obtain ⟨xs,Qp,r,q,_⟩:=h
  rw [r.length]; exact len xs Qp q
 ·obtain ⟨xs,Qp,r,q,k⟩:=h
  obtain ⟨t,ht,hq⟩:=body cdv A outer s H E hr
  refine⟨_,ht,fun _=>False,eV N xs,_,wK r,hq xs Qp q,?_,?_,?_,?_⟩
  ·exact fun W' σ' H' ρ' e px q=>k _ _ _ px.same .non q
  ·exact fun v H' x s r q=>k _ _ _ s r q
  ·exact fun W' σ' H' ρ' e px q=>q
  ·exact fun W' σ' H' ρ' e px q=>q
theorem gA (i:Nat) {x:Str}{tp:Pos}{body:List Stmt}{ti:fG} (hN:X.N.Nodup) (hi:QI X (.Name x tp) e ti) (hb:eW X body t) (hx:X.N[i]? = some x:=by rfl) (hl:gF X.env.scope x:=by first | exact Or.inl rfl | exact Or.inr rfl) (hf:X.fn x=true ∨ X.env.scope.names.lookup x=some .local:=by first | exact .inl rfl | exact .inr rfl)
  (hp:PassesOwn (model X.prog X.w) X.A X.env X.xe:=by exact PassesOwn.never) (hc:X.calm=true:=by rfl) (hs:∀ x,foldedSetIterable e X.env x=pure x:=by intro _; rfl):QS X (.For (.Name x tp) e body [] pos) (dZ ti (cG i) t):=
 O1 hp hc hi (gW hN hx hl hf) (nU _ i) hb hs
theorem aE9 (i j:Nat) {x y:Str}{tp xp yp:Pos}{kt:Nat}{body:List Stmt}{ti:fG} (hN:X.N.Nodup) (hi:QI X (.Tuple [.Name x xp,.Name y yp] kt tp) e ti) (hb:eW X body t) (hx:X.N[i]? = some x:=by rfl) (hy:X.N[j]? = some y:=by rfl) (hlx:gF X.env.scope x:=by first | exact Or.inl rfl | exact Or.inr rfl) (hly:gF X.env.scope y:=by first | exact Or.inl rfl | exact Or.inr rfl)
  (hfx:X.fn x=true ∨ X.env.scope.names.lookup x=some .local:=by first | exact .inl rfl | exact .inr rfl) (hfy:X.fn y=true ∨ X.env.scope.names.lookup y=some .local:=by first | exact .inl rfl | exact .inr rfl)
  (hp:PassesOwn (model X.prog X.w) X.A X.env X.xe:=by exact PassesOwn.never) (hc:X.calm=true:=by rfl) (hs:∀ x,foldedSetIterable e X.env x=pure x:=by intro _; rfl):QS X (.For (.Tuple [.Name x xp,.Name y yp] kt tp) e body [] pos) (dZ ti (iQ i j) t):=
 O1 hp hc hi (nC hc (iG (gW hN hx hlx hfx) (iG (gW hN hy hly hfy) nB))) (vZ _ i j) hb hs
abbrev dC:Value->Shared->Prop:=fun _ _=>False
section
variable {scope : Scope} {N : List Str} {fr : List (Option Nat)} {x y : Str} {tp xp yp : Pos} {kt : Nat} {iter elt : Expr} {ti : fG}
theorem qY {ifs:List Expr}{tcs:cM} (he:∀ (s:Shared) (H:Hp) (C:Addr) (fp:List Addr),QE (bT X scope N s H C fp dC) elt te) (hi:∀ (s:Shared) (H:Hp) (C:Addr) (fp:List Addr),k8 (bT X scope N s H C fp dC) ifs (LT (bT X scope N s H C fp dC) tcs))
  (hN:N.Nodup) (h0:N[0]? = some x) (hl:∀ (s:Shared) (H:Hp) (C:Addr) (fp:List Addr),(bT X scope N s H C fp dC).env.scope.names.lookup x=some .local) (s:Shared) (H:Hp) :
  lT X scope N (.Name x tp) ifs elt s H (dF 0) (LT (X.frm H) tcs) (LE (X.frm H) te):=
 ⟨fun C fp=>gW (X:=bT X scope N s H C fp dC) hN h0 (.inl (hl s H C fp)) (.inr (hl s H C fp)),fun C fp=>hi s H C fp,fun C fp=>he s H C fp⟩
theorem wL {Y:Cx}:k8 Y [] (LT Y eU):=fun pins s σ H Q I h=>G3 pins s σ H Q I (aC3 h)
theorem wM (hi:QI X (.Name x tp) iter ti) (he:∀ (s:Shared) (H:Hp) (C:Addr) (fp:List Addr),QE (bT X scope N s H C fp dC) elt te)
  (hc:X.calm=true:=by rfl) (S:dJ X scope N fr:=by exact dJ.of rfl rfl) (hN:N.Nodup:=by decide +kernel) (h0:N[0]? = some x:=by rfl) (hl:∀ (s:Shared) (H:Hp) (C:Addr) (fp:List Addr),(bT X scope N s H C fp dC).env.scope.names.lookup x=some .local:=by intro _ _ _ _; rfl) (hf:fr[0]? = some none:=by rfl)
  (hs:∀ x,foldedSetIterable iter X.env x=pure x:=by intro _; rfl):QE X (.ListComp elt [⟨.Name x tp,iter,[],0⟩] scope pos) (dU ti fr (cG 0) eU te):=
 cH (vD (gh:=fun _=>dF 0) (tch:=fun H=>LT (X.frm H) eU) (teh:=fun H=>LE (X.frm H) te) hc S hi (qY he (fun _ _ _ _=>wL) hN h0 hl) hs) fun _ _ _=>nV (nU _ 0) (fun i e=>by subst e; exact hf)
theorem qZ {c:Expr}{tcs:cM} (hi:QI X (.Name x tp) iter ti) (ht:∀ (s:Shared) (H:Hp) (C:Addr) (fp:List Addr),QT (bT X scope N s H C fp dC) c tcs) (he:∀ (s:Shared) (H:Hp) (C:Addr) (fp:List Addr),QE (bT X scope N s H C fp dC) elt te)
  (hc:X.calm=true:=by rfl) (S:dJ X scope N fr:=by exact dJ.of rfl rfl) (hN:N.Nodup:=by decide +kernel) (h0:N[0]? = some x:=by rfl) (hl:∀ (s:Shared) (H:Hp) (C:Addr) (fp:List Addr),(bT X scope N s H C fp dC).env.scope.names.lookup x=some .local:=by intro _ _ _ _; rfl) (hf:fr[0]? = some none:=by rfl)
  (hs:∀ x,foldedSetIterable iter X.env x=pure x:=by intro _; rfl):QE X (.ListComp elt [⟨.Name x tp,iter,[c],0⟩] scope pos) (dU ti fr (cG 0) tcs te):=
 cH (vD (gh:=fun _=>dF 0) (tch:=fun H=>LT (X.frm H) tcs) (teh:=fun H=>LE (X.frm H) te) hc S hi (qY he (fun s H C fp=>G4 (ht s H C fp)) hN h0 hl) hs) fun _ _ _=>nV (nU _ 0) (fun i e=>by subst e; exact hf)
theorem aF0 {i:Nat}{z:Str}{zp:Pos} (nd:X.N.Nodup) (hi:QI X (.Name x tp) iter ti) (he:∀ (s:Shared) (H:Hp) (C:Addr) (fp:List Addr),QE (bT X scope N s H C fp dC) elt te)
  (hz:X.N[i]? = some z:=by rfl) (hzl:X.env.scope.names.lookup z=some .local:=by rfl) (hsw:swapsWith (.ListComp elt [⟨.Name x tp,iter,[],0⟩] scope p2) (some (.Name z zp)) pos.line X.env=pure true:=by rfl)
  (hc:X.calm=true:=by rfl) (S:dJ X scope N fr:=by exact dJ.of rfl rfl) (hN:N.Nodup:=by decide +kernel) (h0:N[0]? = some x:=by rfl) (hl:∀ (s:Shared) (H:Hp) (C:Addr) (fp:List Addr),(bT X scope N s H C fp dC).env.scope.names.lookup x=some .local:=by intro _ _ _ _; rfl) (hf:fr[0]? = some none:=by rfl)
  (hs:∀ x,foldedSetIterable iter X.env x=pure x:=by intro _; rfl):QS X (.Assign [.Name z zp] (.ListComp elt [⟨.Name x tp,iter,[],0⟩] scope p2) pos) (b6 i (dU ti fr (cG 0) eU te)):=
 dN (G5 (gh:=fun _=>dF 0) (tch:=fun H=>LT (X.frm H) eU) (teh:=fun H=>LE (X.frm H) te) hc S hi (qY he (fun _ _ _ _=>wL) hN h0 hl) nd hz hzl hsw hs) fun D σ H h=>nV (nU _ 0) (fun i e=>by subst e; exact hf) (vS h)
theorem aF1 {c:Expr}{tcs:cM}{i:Nat}{z:Str}{zp:Pos} (nd:X.N.Nodup) (hi:QI X (.Name x tp) iter ti) (ht:∀ (s:Shared) (H:Hp) (C:Addr) (fp:List Addr),QT (bT X scope N s H C fp dC) c tcs) (he:∀ (s:Shared) (H:Hp) (C:Addr) (fp:List Addr),QE (bT X scope N s H C fp dC) elt te)
  (hz:X.N[i]? = some z:=by rfl) (hzl:X.env.scope.names.lookup z=some .local:=by rfl) (hsw:swapsWith (.ListComp elt [⟨.Name x tp,iter,[c],0⟩] scope p2) (some (.Name z zp)) pos.line X.env=pure true:=by rfl)
  (hc:X.calm=true:=by rfl) (S:dJ X scope N fr:=by exact dJ.of rfl rfl) (hN:N.Nodup:=by decide +kernel) (h0:N[0]? = some x:=by rfl) (hl:∀ (s:Shared) (H:Hp) (C:Addr) (fp:List Addr),(bT X scope N s H C fp dC).env.scope.names.lookup x=some .local:=by intro _ _ _ _; rfl) (hf:fr[0]? = some none:=by rfl)
  (hs:∀ x,foldedSetIterable iter X.env x=pure x:=by intro _; rfl):QS X (.Assign [.Name z zp] (.ListComp elt [⟨.Name x tp,iter,[c],0⟩] scope p2) pos) (b6 i (dU ti fr (cG 0) tcs te)):=
 dN (G5 (gh:=fun _=>dF 0) (tch:=fun H=>LT (X.frm H) tcs) (teh:=fun H=>LE (X.frm H) te) hc S hi (qY he (fun s H C fp=>G4 (ht s H C fp)) hN h0 hl) nd hz hzl hsw hs) fun D σ H h=>nV (nU _ 0) (fun i e=>by subst e; exact hf) (vS h)
end
theorem aF2 (i:Nat) {x:Str}{apos cpos xpos:Pos} (he:QE X e te) (hm:M1 X (.Name x xpos) "update" apos e cpos:=by exact⟨rfl,rfl,rfl,rfl⟩) (hN:X.N[i]? = some x:=by rfl) (hv:gE X.env.scope x:=by first | exact Or.inl rfl | exact Or.inr (Or.inl rfl) | exact Or.inr (Or.inr rfl)) (hd:(x == ("__debug__" : Str))=false:=by decide) (hcd:(x == ("__classdict__" : Str))=false:=by decide)
  (hsw:swapsWith (.Call (.Attribute (.Name x xpos) "update" apos) [e] [] cpos) none pos.line X.env=pure false:=by rfl):QS X (.Expr (.Call (.Attribute (.Name x xpos) "update" apos) [e] [] cpos) pos) (wA i te):=
 dN (nA (ay2 (iF hN hv hd hcd) he hm) hsw) fun _ _ _=>aD1
end
end PP
namespace SO
open PySem PyProof.Rows
section
variable (rk : Keyed → Int)
def Kr (xs:Array Keyed) (i:Nat):Int:=((xs[i]?).map rk).getD 0
def Up (xs:Array Keyed) (lo hi:Nat):Prop:=∀ i j,lo<=i->i<=j->j < hi->Kr rk xs i<=Kr rk xs j
def Dn (xs:Array Keyed) (lo hi:Nat):Prop:=∀ i j,lo<=i->i<=j->j < hi->Kr rk xs j<=Kr rk xs i
end
variable {rk : Keyed → Int}
theorem lA {xs ys:Array Keyed}{i j:Nat} (h:xs[i]? = ys[j]?):Kr rk xs i=Kr rk ys j:=by unfold Kr; rw [h]
theorem r6 {xs:Array Keyed}{i j:Nat} (hj:j<=xs.size) (k:Nat):Kr rk (mirror xs i j ((j - i) / 2)) k=Kr rk xs (if i<=k/\k < j then i+j - 1 - k else k):=by
 refine lA ?_
 rw [getElem?_mirror_all hj]
 split <;> rfl
theorem wN {xs:Array Keyed}{i j:Nat} (hj:j<=xs.size) (e:∀ k,i<=k->k < j->Kr rk xs k=Kr rk xs (j - 1)) (k:Nat):Kr rk (mirror xs i j ((j - i) / 2)) k=Kr rk xs k:=by
 rw [r6 hj]
 split
 ·rename_i h; rw [e k h.1 h.2,e _ (by omega) (by omega)]
 ·rfl
theorem aF3 {xs:Array Keyed}{src d:Nat} (hs:src < xs.size) (hd:d<=src) (k:Nat):Kr rk (bubble xs src d) k=Kr rk xs (if k=src - d then src else if src - d < k/\k<=src then k - 1 else k):=by
 refine lA ?_
 rw [getElem?_bubble hs d hd]
 repeat' split
 all_goals rfl
structure SB (κ:SortKind) (a0:Array Keyed) (pd:Array (Nat × Nat × Nat)) (st:SortSt):Prop where
 pm:(arrOf st).Perm a0
 kd:kindOf st=κ
 ok:failedOf st=none
 pd:pendingOf st=pd
section
variable {κ : SortKind} {a0 : Array Keyed} {pd : Array (Nat × Nat × Nat)} {st : SortSt} {prog : Program} {w : World} {A : Around} {E : Value → Shared → Prop} {s : Shared} {Ok : Keyed → Prop}
theorem SB.sz (h:SB κ a0 pd st):(arrOf st).size=a0.size:=h.pm.size_eq
theorem SB.put (h:SB κ a0 pd st) {xs:Array Keyed} (hp:xs.Perm (arrOf st)):SB κ a0 pd (setArr st xs):=⟨hp.trans h.pm,h.kd,h.ok,h.pd⟩
def cP (prog:Program) (w:World) (A:Around) (E:Value->Shared->Prop) (s:Shared) (κ:SortKind) (Ok:Keyed->Prop) (rk:Keyed->Int):Prop:=
 ∀ (x y:Keyed),Ok x->Ok y->∀ (st:SortSt) (Q:Option Bool->SortSt->Prop),kindOf st=κ->Q (some (decide (rk x < rk y))) st->wpS (model prog w) A E s (lt' x y) Q st
def bP (Ok:Keyed->Prop) (xs:Array Keyed):Prop:=∀ x ∈ xs,Ok x
theorem SB.all (h:SB κ a0 pd st) (o:bP Ok a0):bP Ok (arrOf st):=fun x hx=>o x (h.pm.mem_iff.mp hx)
theorem dD {xs:Array Keyed}{i:Nat}{Q:Keyed->SortSt->Prop} (hi:i < xs.size) (h:Q xs[i] st):wpS (model prog w) A E s (elem' xs i) Q st:=by
 rw [elem'_eq,getElem?_pos xs i hi]; exact bj0 h
theorem cI {xs:Array Keyed}{i:Nat} (hi:i < xs.size):Kr rk xs i=rk xs[i]:=by unfold Kr; rw [getElem?_pos xs i hi]; rfl
theorem oA (c:cP prog w A E s κ Ok rk) (o:bP Ok a0) (b:SB κ a0 pd st) {i j:Nat}{Q:Option Bool->SortSt->Prop} (hi:i < a0.size) (hj:j < a0.size)
  (h:Q (some (decide (Kr rk (arrOf st) i < Kr rk (arrOf st) j))) st):wpS (model prog w) A E s (ltAt' i j) Q st:=by
 have hi':i < (arrOf st).size:=by rw [b.sz]; exact hi
 have hj':j < (arrOf st).size:=by rw [b.sz]; exact hj
 rw [ltAt'_eq]
 refine bi2 (wpS_get (bi2 (dD hi' (bi2 (dD hj' ?_)))))
 refine c _ _ (b.all o _ (bn1 hi')) (b.all o _ (bn1 hj')) st Q b.kd ?_
 rw [<- cI (rk:=rk) hi',<- cI (rk:=rk) hj']; exact h
theorem r9 {i j:Nat}{Q:Unit->SortSt->Prop} (h:Q () (setArr st (mirror (arrOf st) i j ((j - i) / 2)))):wpS (model prog w) A E s (reverseSlice' i j) Q st:=by
 rw [reverseSlice'_eq]; exact wpS_modify h
abbrev CS:=Option (Option Nat) × Nat
abbrev DS:=Option (Option Nat) × Nat × Nat
def oB (lo b nrem:Nat):StateT SortSt Sem CS:=forIn [b:nrem] ((none,b):CS) fun _ r=>do
 match <- ltAt' (lo+r.2) (lo+r.2 - 1) with
 | some q=>if q=true then pure (ForInStep.done (none,r.2)) else pure (ForInStep.yield (none,r.2+1))
 | _=>pure (ForInStep.done (some none,r.2))
def wO (lo b nrem:Nat):StateT SortSt Sem DS:=forIn [b:nrem] ((none,b,0):DS) fun _ r=>do
 match <- ltAt' (lo+r.2.1) (lo+r.2.1 - 1) with
 | some q=>
  if q=true then (if r.2.2 > 0 then do reverseSlice' (lo+r.2.1 - (r.2.2+1)) (lo+r.2.1); pure (ForInStep.yield (none,r.2.1+1,0)) else pure (ForInStep.yield (none,r.2.1+1,0)))
  else do
   match <- ltAt' (lo+r.2.1 - 1) (lo+r.2.1) with
   | some q=>if q=true then pure (ForInStep.done (none,r.2.1,r.2.2)) else pure (ForInStep.yield (none,r.2.1+1,r.2.2+1))
   | _=>pure (ForInStep.done (some none,r.2.1,r.2.2))
 | _=>pure (ForInStep.done (some none,r.2.1,r.2.2))
theorem O6 (c:cP prog w A E s κ Ok rk) (o:bP Ok a0) (b:SB κ a0 pd st) {lo n nrem:Nat}{Q:CS->SortSt->Prop} (hz:lo+nrem<=a0.size) (h1:1<=n) (hn:n<=nrem) (u:Up rk (arrOf st) lo (lo+n))
  (h:∀ m,n<=m->m<=nrem->Up rk (arrOf st) lo (lo+m)->(m=nrem ∨ Kr rk (arrOf st) (lo+m) < Kr rk (arrOf st) (lo+m - 1))->Q (none,m) st):wpS (model prog w) A E s (oB lo n nrem) Q st:=by
 unfold oB
 refine bq1 (I:=fun x r st'=>st'=st/\r=(none,x)/\Up rk (arrOf st) lo (lo+x)) ?_ ?_ ⟨rfl,rfl,u⟩
 ·rintro x r st' hx hx' ⟨rfl,rfl,u'⟩
  refine bi2 (oA c o b (by omega) (by omega) ?_)
  by_cases hq:Kr rk (arrOf st') (lo+x) < Kr rk (arrOf st') (lo+x - 1)
  ·rw [bh5 hq]
   exact bj0 (h x hx (by omega) u' (.inr hq))
  ·rw [bh2 hq]
   refine bj0 ⟨rfl,rfl,fun i j hi hij hj=>?_⟩
   rcases bn2 j (lo+x) with z | z
   ·exact u' i j hi hij z
   ·have ej:j=lo+x:=by omega
    subst ej
    rcases bv7 hij with z | z
    ·rw [z]; exact bw6 _
    ·have:=u' i (lo+x - 1) hi (by omega) (by omega)
     omega
 ·rintro r st' ⟨rfl,rfl,u'⟩
  have em:max n nrem=nrem:=by omega
  rw [em] at u' ⊢
  exact h nrem hn (bh7 _) u' (.inl rfl)
structure oC (rk:Keyed->Int) (xs ys:Array Keyed) (lo m q:Nat):Prop where
 dn:Dn rk ys lo (lo+m)
 le:q+1<=m
 eq:∀ i,lo+m - (q+1)<=i->i < lo+m->Kr rk ys i=Kr rk ys (lo+m - 1)
 low:∀ i,i < lo->Kr rk ys i=Kr rk xs i
theorem aF4 (c:cP prog w A E s κ Ok rk) (o:bP Ok a0) (b:SB κ a0 pd st) {lo n nrem:Nat}{xs:Array Keyed}{Q:DS->SortSt->Prop} (hz:lo+nrem<=a0.size) (h1:1<=n) (hn:n<=nrem) (u:oC rk xs (arrOf st) lo n 0)
  (h:∀ m q st',SB κ a0 pd st'->n<=m->m<=nrem->oC rk xs (arrOf st') lo m q->Q (none,m,q) st'):wpS (model prog w) A E s (wO lo n nrem) Q st:=by
 unfold wO
 refine bq1 (I:=fun x r st'=>∃ q,r=(none,x,q)/\SB κ a0 pd st'/\oC rk xs (arrOf st') lo x q) ?_ ?_ ⟨0,rfl,b,u⟩
 ·rintro x r st' hx hx' ⟨q,rfl,b',f⟩
  have sz:=b'.sz
  dsimp only
  refine bi2 (oA c o b' (by omega) (by omega) ?_)
  by_cases hq:Kr rk (arrOf st') (lo+x) < Kr rk (arrOf st') (lo+x - 1)
  ·rw [bh5 hq]
   have nx:∀ ys:Array Keyed,(∀ k,Kr rk ys k=Kr rk (arrOf st') k)->oC rk xs ys lo (x+1) 0:=fun ys e=>by
    refine⟨fun i j hi hij hj=>?_,by omega,fun i h1 h2=>by rw [show i=lo+(x+1) - 1 by omega],fun i hi=>(e i).trans (f.low i hi)⟩
    rw [e,e]
    rcases bn2 j (lo+x) with z | z
    ·exact f.dn i j hi hij z
    ·have ej:j=lo+x:=by omega
     subst ej
     rcases bv7 hij with z | z
     ·rw [z]; exact bw6 _
     ·have:=f.dn i (lo+x - 1) hi (by omega) (by omega)
      omega
   dsimp only
   rw [if_pos rfl]
   by_cases hp:q > 0
   ·rw [if_pos hp]
    exact bi2 (r9 (bj0 ⟨0,rfl,b'.put (mirror_perm _ _ _ _),nx _ (wN (by omega) f.eq)⟩))
   ·rw [if_neg hp]
    exact bj0 ⟨0,rfl,b',nx _ fun _=>rfl⟩
  ·rw [bh2 hq]
   dsimp only
   rw [if_neg bj6]
   refine bi2 (oA c o b' (by omega) (by omega) ?_)
   by_cases hl:Kr rk (arrOf st') (lo+x - 1) < Kr rk (arrOf st') (lo+x)
   ·rw [bh5 hl]
    exact bj0 (h x q st' b' hx (by omega) f)
   ·rw [bh2 hl]
    have ex:Kr rk (arrOf st') (lo+x)=Kr rk (arrOf st') (lo+x - 1):=by omega
    refine bj0 ⟨q+1,rfl,b',fun i j hi hij hj=>?_,by have:=f.le; omega,fun i h1 h2=>?_,f.low⟩
    ·rcases bn2 j (lo+x) with z | z
     ·exact f.dn i j hi hij z
     ·have ej:j=lo+x:=by omega
      subst ej
      rcases bv7 hij with z | z
      ·rw [z]; exact bw6 _
      ·rw [ex]; exact f.dn i (lo+x - 1) hi (by omega) (by omega)
    ·rw [show lo+(x+1) - 1=lo+x by omega]
     rcases bn2 i (lo+x) with z | z
     ·rw [ex]; exact f.eq i (by omega) z
     ·rw [show i=lo+x by omega]
 ·rintro r st' ⟨q,rfl,b',f⟩
  have em:max n nrem=nrem:=by omega
  rw [em] at f ⊢
  exact h nrem q st' b' hn (bh7 _) f
theorem O7 (c:cP prog w A E s κ Ok rk) (o:bP Ok a0) (b:SB κ a0 pd st) {lo nrem:Nat} (n:Nat) {xs:Array Keyed}{Q:Option Nat->SortSt->Prop}{K:DS->StateT SortSt Sem (Option Nat)}{k:CS->StateT SortSt Sem (Option Nat)} (hz:lo+nrem<=a0.size) (hn:n+1<=nrem)
  (hK:∀ m q,K (none,m,q)=if q > 0 then reverseSlice' (lo+m - (q+1)) (lo+m) >>= fun _=>reverseSlice' lo (lo+m) >>= fun _=>oB lo m nrem >>= k else reverseSlice' lo (lo+m) >>= fun _=>oB lo m nrem >>= k)
  (hk:∀ m,k (none,m)=pure (some m)) (u:oC rk xs (arrOf st) lo (n+1) 0)
  (h:∀ m st',SB κ a0 pd st'->1<=m->m<=nrem->Up rk (arrOf st') lo (lo+m)->(∀ i,i < lo->Kr rk (arrOf st') i=Kr rk xs i)->Q (some m) st'):wpS (model prog w) A E s (liftM (rule "list.sort.descending-run") >>= fun _=>wO lo (n+1) nrem >>= K) Q st:=by
 refine bi2 (wpS_lift (bu5 ⟨rfl,?_⟩))
 refine bi2 (aF4 c o b hz (by omega) hn u fun m q st1 b1 m1 m2 f=>?_)
 have fin:∀ st2:SortSt,SB κ a0 pd st2->(∀ k,Kr rk (arrOf st2) k=Kr rk (arrOf st1) k)->
   wpS (model prog w) A E s (reverseSlice' lo (lo+m) >>= fun _=>oB lo m nrem >>= k) Q st2:=fun st2 b2 e=>by
  have sz:=b2.sz
  have low:∀ i,i < lo->Kr rk (mirror (arrOf st2) lo (lo+m) ((lo+m - lo) / 2)) i=Kr rk xs i:=fun i hi=>by
   rw [r6 (by omega),if_neg (by omega),e]
   exact f.low i hi
  refine bi2 (r9 (bi2 (O6 (κ:=κ) c o (b2.put (mirror_perm _ _ _ _)) hz (by omega) m2 ?_ fun m' h1 h2 up _=>by rw [hk]; exact bj0 (h m' _ (b2.put (mirror_perm _ _ _ _)) (by omega) h2 up low))))
  ·intro i j hi hij hj
   show Kr rk (mirror (arrOf st2) lo (lo+m) _) i<=Kr rk (mirror (arrOf st2) lo (lo+m) _) j
   rw [r6 (by omega),r6 (by omega),if_pos (by omega),if_pos (by omega),e,e]
   exact f.dn _ _ (by omega) (by omega) (by omega)
 rw [hK]
 by_cases hp:q > 0
 ·rw [if_pos hp]
  have sz:=b1.sz
  exact bi2 (r9 (fin _ (b1.put (mirror_perm _ _ _ _)) (wN (by omega) f.eq)))
 ·rw [if_neg hp]
  exact fin st1 b1 fun _=>rfl
theorem aF5 (c:cP prog w A E s κ Ok rk) (o:bP Ok a0) (b:SB κ a0 pd st) {lo nrem:Nat}{Q:Option Nat->SortSt->Prop} (hz:lo+nrem<=a0.size) (h1:1<=nrem)
  (h:∀ m st',SB κ a0 pd st'->1<=m->m<=nrem->Up rk (arrOf st') lo (lo+m)->(∀ i,i < lo->Kr rk (arrOf st') i=Kr rk (arrOf st) i)->Q (some m) st'):wpS (model prog w) A E s (countRun' lo nrem) Q st:=by
 rw [countRun'_eq]
 refine bi2 (O6 (n:=1) c o b hz (bh7 _) h1 (fun i j hi hij hj=>by rw [show i=j by omega]; exact bw6 _) fun n n1 n2 un on=>?_)
 dsimp only
 by_cases en:(n == nrem)=true
 ·rw [if_pos en]
  exact bj0 (h n st b n1 n2 un fun _ _=>rfl)
 ·rw [if_neg en]
  have en':n ≠ nrem:=by simpa using en
  have lt:=on.resolve_left en'
  have sz:=b.sz
  by_cases g:n > 1
  ·rw [if_pos g]
   refine bi2 (oA c o b (by omega) (by omega) ?_)
   by_cases hq:Kr rk (arrOf st) lo < Kr rk (arrOf st) (lo+n - 1)
   ·rw [bh5 hq]
    exact bj0 (h n st b n1 n2 un fun _ _=>rfl)
   ·rw [bh2 hq]
    dsimp only
    rw [if_neg bj6]
    have all:∀ k,lo<=k->k < lo+n->Kr rk (arrOf st) k=Kr rk (arrOf st) (lo+n - 1):=fun k k1 k2=>by
     have a1:=un lo k (bh7 _) k1 k2
     have a2:=un k (lo+n - 1) k1 (by omega) (by omega)
     omega
    have sm:=wN (rk:=rk) (xs:=arrOf st) (i:=lo) (j:=lo+n) (by omega) all
    refine bi2 (r9 (O7 (xs:=arrOf st) (κ:=κ) c o (b.put (mirror_perm _ _ _ _)) n hz (by omega) (fun _ _=>rfl) (fun _=>rfl) ⟨fun i j hi hij hj=>?_,by omega,fun i h1 h2=>by rw [show i=lo+(n+1) - 1 by omega],fun i _=>sm i⟩ h))
    show Kr rk (mirror (arrOf st) lo (lo+n) _) j<=Kr rk (mirror (arrOf st) lo (lo+n) _) i
    rw [sm,sm]
    rcases bn2 j (lo+n) with z | z
    ·rw [all i hi (by omega),all j (by omega) z]; exact bw6 _
    ·have ej:j=lo+n:=by omega
     subst ej
     rcases bv7 hij with z | z
     ·rw [z]; exact bw6 _
     ·rw [all i hi (by omega)]; exact Int.le_of_lt lt
  ·rw [if_neg g]
   have e1:n=1:=by omega
   subst e1
   refine O7 (xs:=arrOf st) c o b 1 hz (by omega) (fun _ _=>rfl) (fun _=>rfl) ⟨fun i j hi hij hj=>?_,by omega,fun i h1 h2=>by rw [show i=lo+(1+1) - 1 by omega],fun i _=>rfl⟩ h
   rcases bv7 hij with z | z
   ·rw [z]; exact bw6 _
   ·have ei:i=lo+1 - 1:=by omega
    have ej:j=lo+1:=by omega
    rw [ei,ej]; exact Int.le_of_lt lt
theorem aF6 (c:cP prog w A E s κ Ok rk) (o:bP Ok a0) (b:SB κ a0 pd st) {lo n q:Nat}{Q:Bool->SortSt->Prop} (hz:lo+n<=a0.size) (hq:q<=n) (u:Up rk (arrOf st) lo (lo+q))
  (h:∀ st',SB κ a0 pd st'->Up rk (arrOf st') lo (lo+n)->(∀ i,i < lo->Kr rk (arrOf st') i=Kr rk (arrOf st) i)->Q true st'):wpS (model prog w) A E s (binarySort' lo n q) Q st:=by
 rw [binarySort'_eq]
 refine bi2 (bw7 (bq1 (I:=fun k r st'=>r=(none,())/\SB κ a0 pd st'/\Up rk (arrOf st') lo (lo+min k n)/\∀ i,i < lo->Kr rk (arrOf st') i=Kr rk (arrOf st) i)
  (Q:=fun r st'=>r=(none,())/\SB κ a0 pd st'/\Up rk (arrOf st') lo (lo+n)/\∀ i,i < lo->Kr rk (arrOf st') i=Kr rk (arrOf st) i) ?_ ?_ ?_) ?_)
 ·rintro k r st1 hk hkn ⟨rfl,b1,u1,l1⟩
  rw [show min k n=k by omega] at u1
  have hk0:lo+k < a0.size:=by omega
  have sz:=b1.sz
  refine bi2 (bw7 (bq1 (I:=fun x r st'=>st'=st1/\∃ l g,r=(none,l,g)/\l<=g/\g<=k/\g - l<=k - x/\(∀ i,i < l->Kr rk (arrOf st1) (lo+i)<=Kr rk (arrOf st1) (lo+k))/\∀ i,g<=i->i < k->Kr rk (arrOf st1) (lo+k) < Kr rk (arrOf st1) (lo+i))
   (Q:=fun r st'=>st'=st1/\∃ l g,r=(none,l,g)/\l<=k/\(∀ i,i < l->Kr rk (arrOf st1) (lo+i)<=Kr rk (arrOf st1) (lo+k))/\∀ i,l<=i->i < k->Kr rk (arrOf st1) (lo+k) < Kr rk (arrOf st1) (lo+i)) ?_ ?_ ?_) ?_)
  ·rintro x r st2 _ hx ⟨rfl,l,g,rfl,d1,d2,d3,f1,f2⟩
   dsimp only
   by_cases hlg:l >= g
   ·rw [if_pos hlg]
    have e:g=l:=by omega
    subst e
    exact bj0 ⟨rfl,g,g,rfl,d2,f1,f2⟩
   ·rw [if_neg hlg]
    refine bi2 (oA c o b1 hk0 (by omega) ?_)
    by_cases hc:Kr rk (arrOf st2) (lo+k) < Kr rk (arrOf st2) (lo+(l+g) / 2)
    ·rw [bh5 hc]
     refine bj0 ⟨rfl,l,(l+g) / 2,rfl,by omega,by omega,by omega,f1,fun i i1 i2=>?_⟩
     have:=u1 (lo+(l+g) / 2) (lo+i) (by omega) (by omega) (by omega)
     omega
    ·rw [bh2 hc]
     refine bj0 ⟨rfl,(l+g) / 2+1,g,rfl,by omega,d2,by omega,fun i i1=>?_,f2⟩
     have:=u1 (lo+i) (lo+(l+g) / 2) (by omega) (by omega) (by omega)
     omega
  ·rintro r st2 ⟨rfl,l,g,rfl,d1,d2,d3,f1,f2⟩
   have e:g=l:=by omega
   subst e
   exact⟨rfl,g,g,rfl,d2,f1,f2⟩
  ·exact⟨rfl,0,k,rfl,by omega,by omega,by omega,fun i hi=>absurd hi (by omega),fun i i1 i2=>absurd i1 (by omega)⟩
  ·rintro r st2 ⟨rfl,l,g,rfl,d,f1,f2⟩
   dsimp only
   rw [moveDown'_eq]
   have kb:∀ i,Kr rk (bubble (arrOf st2) (lo+k) (lo+k - (lo+l))) i=Kr rk (arrOf st2) (if i=lo+l then lo+k else if lo+l < i/\i<=lo+k then i - 1 else i):=fun i=>by
    rw [aF3 (by omega) (by omega),show lo+k - (lo+k - (lo+l))=lo+l by omega]
   refine bi2 (wpS_modify (bj0 ⟨rfl,b1.put (bubble_perm _ _ _),fun i j hi hij hj=>?_,fun i hi=>?_⟩))
   ·show Kr rk (bubble (arrOf st2) (lo+k) (lo+k - (lo+l))) i<=Kr rk (bubble (arrOf st2) (lo+k) (lo+k - (lo+l))) j
    rw [kb,kb]
    rw [show min (k+1) n=k+1 by omega] at hj
    have v1:∀ p,lo<=p->p < lo+l->Kr rk (arrOf st2) p<=Kr rk (arrOf st2) (lo+k):=fun p p1 p2=>by have:=f1 (p - lo) (by omega); rwa [show lo+(p - lo)=p by omega] at this
    have v2:∀ p,lo+l<=p->p < lo+k->Kr rk (arrOf st2) (lo+k) < Kr rk (arrOf st2) p:=fun p p1 p2=>by have:=f2 (p - lo) (by omega) (by omega); rwa [show lo+(p - lo)=p by omega] at this
    repeat' split
    all_goals first
     | (exfalso; omega)
     | exact bw6 _
     | exact v1 _ (by omega) (by omega)
     | exact Int.le_of_lt (v2 _ (by omega) (by omega))
     | exact u1 _ _ (by omega) (by omega) (by omega)
   ·show Kr rk (bubble (arrOf st2) (lo+k) (lo+k - (lo+l))) i=_
    rw [kb,if_neg (by omega),if_neg (by omega)]
    exact l1 i hi
 ·rintro r st1 ⟨rfl,b1,u1,l1⟩
  rw [show min (max (max q 1) n) n=n by omega] at u1
  exact⟨rfl,b1,u1,l1⟩
 ·refine⟨rfl,b,fun i j hi hij hj=>?_,fun _ _=>rfl⟩
  rcases bn2 j (lo+q) with z | z
  ·exact u i j hi hij z
  ·rw [show i=j by omega]; exact bw6 _
 ·rintro r st1 ⟨rfl,b1,u1,l1⟩
  exact bj0 (h st1 b1 u1 l1)
end
def kH:Bool->Keyed->Array Keyed->Nat->Nat->Nat->StateT SortSt Sem (Option Nat):=sortPriv% PySem.Builtin.gallop
def lB (lf:Bool) (key:Keyed) (xs:Array Keyed) (bs i:Nat):StateT SortSt Sem (Option Bool):=do
 let z <- elem' xs (bs+i)
 if lf then lt' z key else return (<- lt' key z).map (!·)
theorem aF7 (lf:Bool) (key:Keyed) (xs:Array Keyed) (bs n h:Nat):kH lf key xs bs n h=(do
 let mut la:=0
 let mut of:=1
 let mut l:=0
 let mut g:=0
 let some rt <- lB lf key xs bs h | return none
 if rt then
  let mx:=n - h
  for _ in [0:n] do
   if of >= mx then break
   let some mr <- lB lf key xs bs (h+of) | return none
   if !mr then break
   la:=of
   of:=2 * of+1
  l:=h+la+1
  g:=h+min of mx
 else
  let mx:=h+1
  for _ in [0:n] do
   if of >= mx then break
   let some fd <- lB lf key xs bs (h - of) | return none
   if fd then break
   la:=of
   of:=2 * of+1
  l:=h+1 - min of mx
  g:=h - la
 for _ in [0:n] do
  if l >= g then break
  let m:=l+(g - l) / 2
  let some mr <- lB lf key xs bs m | return none
  if mr then l:=m+1 else g:=m
 return some g):=rfl
section
variable {rk : Keyed → Int} {κ : SortKind} {st : SortSt} {prog : Program} {w : World} {A : Around} {E : Value → Shared → Prop} {s : Shared} {Ok : Keyed → Prop}
def cC (rk:Keyed->Int) (lf:Bool) (key:Keyed) (xs:Array Keyed) (bs i:Nat):Bool:=if lf then decide (Kr rk xs (bs+i) < rk key) else decide (Kr rk xs (bs+i)<=rk key)
theorem rA (c:cP prog w A E s κ Ok rk) (hk:kindOf st=κ) {lf:Bool}{key:Keyed}{xs:Array Keyed}{bs i:Nat}{Q:Option Bool->SortSt->Prop} (ok:Ok key) (o:bP Ok xs) (hi:bs+i < xs.size)
  (h:Q (some (cC rk lf key xs bs i)) st):wpS (model prog w) A E s (lB lf key xs bs i) Q st:=by
 unfold lB
 refine bi2 (dD hi ?_)
 unfold cC at h
 rw [cI hi] at h
 cases lf with
 | true=>
  simp only [if_true] at h ⊢
  exact c _ _ (o _ (bn1 hi)) ok st Q hk h
 | false=>
  simp only [bk7,bq8] at h ⊢
  refine bi2 (c _ _ ok (o _ (bn1 hi)) st _ hk (bj0 ?_))
  have e:(!decide (rk key < rk xs[bs+i]))=decide (rk xs[bs+i]<=rk key):=by
   by_cases z:rk xs[bs+i]<=rk key
   ·rw [bh5 z,bh2 (by omega)]; rfl
   ·rw [bh2 z,bh5 (by omega)]; rfl
  show Q (some (!decide (rk key < rk xs[bs+i]))) st
  rw [e]; exact h
abbrev GS:=Option (Option Nat) × Nat × Nat
def O8 (lf:Bool) (key:Keyed) (xs:Array Keyed) (bs n l g:Nat):StateT SortSt Sem GS:=forIn [0:n] ((none,l,g):GS) fun _ r=>
 if r.2.1 >= r.2.2 then pure (ForInStep.done (none,r.2.1,r.2.2)) else do
  match <- lB lf key xs bs (r.2.1+(r.2.2 - r.2.1) / 2) with
  | some q=>if q=true then pure (ForInStep.yield (none,r.2.1+(r.2.2 - r.2.1) / 2+1,r.2.2)) else pure (ForInStep.yield (none,r.2.1,r.2.1+(r.2.2 - r.2.1) / 2))
  | _=>pure (ForInStep.done (some none,r.2.1,r.2.2))
theorem O9 (c:cP prog w A E s κ Ok rk) (hk:kindOf st=κ) {lf:Bool}{key:Keyed}{xs:Array Keyed}{bs n l g:Nat}{Q:GS->SortSt->Prop} (ok:Ok key) (o:bP Ok xs) (hz:bs+n<=xs.size)
  (mono:∀ i j,i<=j->j < n->cC rk lf key xs bs j=true->cC rk lf key xs bs i=true) (hlg:l<=g) (hg:g<=n) (h1:∀ i,i < l->cC rk lf key xs bs i=true) (h2:∀ i,g<=i->i < n->cC rk lf key xs bs i=false)
  (hq:∀ k,k<=n->(∀ i,i < k->cC rk lf key xs bs i=true)->(∀ i,k<=i->i < n->cC rk lf key xs bs i=false)->Q (none,k,k) st):wpS (model prog w) A E s (O8 lf key xs bs n l g) Q st:=by
 unfold O8
 refine bq1 (I:=fun x r st'=>st'=st/\∃ l g,r=(none,l,g)/\l<=g/\g<=n/\g - l<=n - x/\(∀ i,i < l->cC rk lf key xs bs i=true)/\∀ i,g<=i->i < n->cC rk lf key xs bs i=false) ?_ ?_ ⟨rfl,l,g,rfl,hlg,hg,by omega,h1,h2⟩
 ·rintro x r st' _ hx ⟨rfl,l,g,rfl,d1,d2,d3,f1,f2⟩
  dsimp only
  by_cases hc:l >= g
  ·rw [if_pos hc]
   have e:g=l:=by omega
   subst e
   exact bj0 (hq g d2 f1 f2)
  ·rw [if_neg hc]
   refine bi2 (rA c hk ok o (by omega) ?_)
   cases z:cC rk lf key xs bs (l+(g - l) / 2) with
   | true=>exact bj0 ⟨rfl,_,_,rfl,by omega,d2,by omega,fun i hi=>mono i (l+(g - l) / 2) (by omega) (by omega) z,f2⟩
   | false=>
    refine bj0 ⟨rfl,_,_,rfl,by omega,by omega,by omega,f1,fun i i1 i2=>?_⟩
    cases y:cC rk lf key xs bs i with
    | false=>rfl
    | true=>rw [mono _ i i1 i2 y] at z; cases z
 ·rintro r st' ⟨rfl,l,g,rfl,d1,d2,d3,f1,f2⟩
  have e:g=l:=by omega
  subst e
  exact hq g d2 f1 f2
theorem mD (c:cP prog w A E s κ Ok rk) (hk:kindOf st=κ) {lf:Bool}{key:Keyed}{xs:Array Keyed}{bs n h:Nat}{Q:Option Nat->SortSt->Prop} (ok:Ok key) (o:bP Ok xs) (hh:h < n) (hz:bs+n<=xs.size) (u:Up rk xs bs (bs+n))
  (hq:∀ k,k<=n->(∀ i,i < k->cC rk lf key xs bs i=true)->(∀ i,k<=i->i < n->cC rk lf key xs bs i=false)->Q (some k) st):wpS (model prog w) A E s (kH lf key xs bs n h) Q st:=by
 have mono:∀ i j,i<=j->j < n->cC rk lf key xs bs j=true->cC rk lf key xs bs i=true:=fun i j hij hj e=>by
  have:=u (bs+i) (bs+j) (by omega) (by omega) (by omega)
  unfold cC at e ⊢
  cases lf with
  | true=>simp only [if_true,bj8] at e ⊢; omega
  | false=>simp only [bk7,bq8,bj8] at e ⊢; omega
 have monf:∀ i j,i<=j->j < n->cC rk lf key xs bs i=false->cC rk lf key xs bs j=false:=fun i j hij hj e=>by
  cases z:cC rk lf key xs bs j with
  | false=>rfl
  | true=>rw [mono i j hij hj z] at e; cases e
 rw [aF7]
 refine bi2 (rA c hk ok o (by omega) ?_)
 dsimp only
 cases z:cC rk lf key xs bs h with
 | true=>
  rw [if_pos rfl]
  refine bi2 (bw7 (bq1 (I:=fun x r st'=>st'=st/\∃ la of,r=(none,la,of)/\la < of/\x < of/\h+la < n/\cC rk lf key xs bs (h+la)=true)
   (Q:=fun r st'=>st'=st/\∃ la of,r=(none,la,of)/\la < of/\h+la < n/\cC rk lf key xs bs (h+la)=true/\(of < n - h->cC rk lf key xs bs (h+of)=false)) ?_ ?_ ⟨rfl,0,1,rfl,by omega,by omega,by omega,z⟩) ?_)
  ·rintro x r st' _ hx ⟨rfl,la,of,rfl,d1,d2,d3,f⟩
   dsimp only
   by_cases hc:of >= n - h
   ·rw [if_pos hc]
    exact bj0 ⟨rfl,la,of,rfl,d1,d3,f,fun y=>absurd y (by omega)⟩
   ·rw [if_neg hc]
    refine bi2 (rA c hk ok o (by omega) ?_)
    cases y:cC rk lf key xs bs (h+of) with
    | true=>exact bj0 ⟨rfl,of,2 * of+1,rfl,by omega,by omega,by omega,y⟩
    | false=>exact bj0 ⟨rfl,la,of,rfl,d1,d3,f,fun _=>y⟩
  ·rintro r st' ⟨rfl,la,of,rfl,d1,d2,d3,f⟩
   exact⟨rfl,la,of,rfl,d1,d3,f,fun y=>absurd y (by omega)⟩
  ·rintro r st' ⟨rfl,la,of,rfl,d1,d3,f,ft⟩
   dsimp only
   refine bi2 (O9 (l:=h+la+1) (g:=h+min of (n - h)) c hk ok o hz mono (by omega) (by omega) (fun i hi=>mono i (h+la) (by omega) d3 f) (fun i i1 i2=>?_) fun k k1 k2 k3=>bj0 (hq k k1 k2 k3))
   rcases bn2 of (n - h) with y | y
   ·exact monf (h+of) i (by omega) i2 (ft y)
   ·exact absurd i1 (by omega)
 | false=>
  rw [if_neg bj6]
  refine bi2 (bw7 (bq1 (I:=fun x r st'=>st'=st/\∃ la of,r=(none,la,of)/\la < of/\x < of/\la<=h/\cC rk lf key xs bs (h - la)=false)
   (Q:=fun r st'=>st'=st/\∃ la of,r=(none,la,of)/\la < of/\la<=h/\cC rk lf key xs bs (h - la)=false/\(of < h+1->cC rk lf key xs bs (h - of)=true)) ?_ ?_ ⟨rfl,0,1,rfl,by omega,by omega,by omega,z⟩) ?_)
  ·rintro x r st' _ hx ⟨rfl,la,of,rfl,d1,d2,d3,f⟩
   dsimp only
   by_cases hc:of >= h+1
   ·rw [if_pos hc]
    exact bj0 ⟨rfl,la,of,rfl,d1,d3,f,fun y=>absurd y (by omega)⟩
   ·rw [if_neg hc]
    refine bi2 (rA c hk ok o (by omega) ?_)
    cases y:cC rk lf key xs bs (h - of) with
    | false=>exact bj0 ⟨rfl,of,2 * of+1,rfl,by omega,by omega,by omega,y⟩
    | true=>exact bj0 ⟨rfl,la,of,rfl,d1,d3,f,fun _=>y⟩
  ·rintro r st' ⟨rfl,la,of,rfl,d1,d2,d3,f⟩
   exact⟨rfl,la,of,rfl,d1,d3,f,fun y=>absurd y (by omega)⟩
  ·rintro r st' ⟨rfl,la,of,rfl,d1,d3,f,ft⟩
   dsimp only
   refine bi2 (O9 (l:=h+1 - min of (h+1)) (g:=h - la) c hk ok o hz mono (by omega) (by omega) (fun i hi=>?_) (fun i i1 i2=>monf (h - la) i i1 i2 f) fun k k1 k2 k3=>bj0 (hq k k1 k2 k3))
   rcases bn2 of (h+1) with y | y
   ·exact mono i (h - of) (by omega) (by omega) (ft y)
   ·exact absurd hi (by omega)
end
def mE:Nat->StateT SortSt Sem Unit:=sortPriv% PySem.Builtin.setMinGallop
def wP:Array Keyed->Array Keyed->StateT SortSt Sem (Array Keyed):=sortPriv% PySem.Builtin.mergeLo
theorem aF8 (g:Nat):mE g=modify (fun st=>SortSt.mk' (kindOf st) (arrOf st) (pendingOf st) g (failedOf st)):=rfl
abbrev LS:=Option (Array Keyed) × Array Keyed × Nat × Nat × Nat × Nat × Nat
abbrev wQ:=Option (Array Keyed) × Array Keyed × Nat × Nat × Nat × Nat
abbrev LO:=Option (Array Keyed) × Array Keyed × Nat × Nat × Nat
def rB (x y o:Array Keyed) (i j mg p q:Nat):StateT SortSt Sem (ForInStep LS):=do
 let v <- elem' x i
 if (i+1+1 == x.size)=true then pure (.done (some (o.push v ++ y.extract j y.size ++ x.extract (i+1) x.size),o.push v,i+1,j,mg,p,q))
 else if (decide (p < 7) && decide (q < 7))=true then pure (.done (none,o.push v,i+1,j,mg,p,q)) else pure (.yield (none,o.push v,i+1,j,mg,p,q))
def rC (x y o:Array Keyed) (i j mg p q:Nat):StateT SortSt Sem (ForInStep LS):=do
 let v <- elem' y j
 if (j+1 == y.size)=true then pure (.done (some (o.push v ++ x.extract i x.size ++ y.extract (j+1) y.size),o.push v,i,j+1,mg,p,q)) else do
  let u <- elem' x i
  match <- kH true u y (j+1) (y.size - (j+1)) 0 with
  | some k=>
   if k > 0 then
    if (j+1+k == y.size)=true then pure (.done (some (o.push v ++ y.extract (j+1) (j+1+k) ++ x.extract i x.size ++ y.extract (j+1+k) y.size),o.push v ++ y.extract (j+1) (j+1+k),i,j+1+k,mg,p,k))
    else rB x y (o.push v ++ y.extract (j+1) (j+1+k)) i (j+1+k) mg p k
   else rB x y (o.push v) i (j+1) mg p k
  | _=>pure (.done (some (o.push v ++ x.extract i x.size ++ y.extract (j+1) y.size),o.push v,i,j+1,mg,p,q))
def rD (x y o:Array Keyed) (i j mg p q:Nat):StateT SortSt Sem (ForInStep LS):=do
 mE mg
 let v <- elem' y j
 match <- kH false v x i (x.size - i) 0 with
 | some k=>
  if k > 0 then
   if (i+k+1 == x.size)=true then pure (.done (some (o ++ x.extract i (i+k) ++ y.extract j y.size ++ x.extract (i+k) x.size),o ++ x.extract i (i+k),i+k,j,mg,k,q))
   else if (i+k == x.size)=true then pure (.done (some (o ++ x.extract i (i+k) ++ x.extract (i+k) x.size ++ y.extract j y.size),o ++ x.extract i (i+k),i+k,j,mg,k,q))
   else rC x y (o ++ x.extract i (i+k)) (i+k) j mg k q
  else rC x y o i j mg k q
 | _=>pure (.done (some (o ++ x.extract i x.size ++ y.extract j y.size),o,i,j,mg,p,q))
def wR (x y o:Array Keyed) (i j mg p q:Nat):StateT SortSt Sem LS:=forIn [0:x.size+y.size] ((none,o,i,j,mg,p,q):LS) fun _ r=>
 if r.2.2.2.2.1 > 1 then rD x y r.2.1 r.2.2.1 r.2.2.2.1 (r.2.2.2.2.1 - 1) r.2.2.2.2.2.1 r.2.2.2.2.2.2 else rD x y r.2.1 r.2.2.1 r.2.2.2.1 r.2.2.2.2.1 r.2.2.2.2.2.1 r.2.2.2.2.2.2
def wS (x y o:Array Keyed) (i j mg:Nat):StateT SortSt Sem wQ:=forIn [0:x.size+y.size] ((none,o,i,j,0,0):wQ) fun _ r=>do
 let v <- elem' y r.2.2.2.1
 let u <- elem' x r.2.2.1
 match <- lt' v u with
 | some q=>
  if q=true then do
   let v <- elem' y r.2.2.2.1
   if (r.2.2.2.1+1 == y.size)=true then pure (.done (some (r.2.1.push v ++ x.extract r.2.2.1 x.size ++ y.extract (r.2.2.2.1+1) y.size),r.2.1.push v,r.2.2.1,r.2.2.2.1+1,0,r.2.2.2.2.2+1))
   else if r.2.2.2.2.2+1 >= mg then pure (.done (none,r.2.1.push v,r.2.2.1,r.2.2.2.1+1,0,r.2.2.2.2.2+1)) else pure (.yield (none,r.2.1.push v,r.2.2.1,r.2.2.2.1+1,0,r.2.2.2.2.2+1))
  else do
   let u <- elem' x r.2.2.1
   if (r.2.2.1+1+1 == x.size)=true then pure (.done (some (r.2.1.push u ++ y.extract r.2.2.2.1 y.size ++ x.extract (r.2.2.1+1) x.size),r.2.1.push u,r.2.2.1+1,r.2.2.2.1,r.2.2.2.2.1+1,0))
   else if r.2.2.2.2.1+1 >= mg then pure (.done (none,r.2.1.push u,r.2.2.1+1,r.2.2.2.1,r.2.2.2.2.1+1,0)) else pure (.yield (none,r.2.1.push u,r.2.2.1+1,r.2.2.2.1,r.2.2.2.2.1+1,0))
 | _=>pure (.done (some (r.2.1 ++ x.extract r.2.2.1 x.size ++ y.extract r.2.2.2.1 y.size),r.2.1,r.2.2.1,r.2.2.2.1,r.2.2.2.2.1,r.2.2.2.2.2))
def P0 (x y o:Array Keyed) (i j mg:Nat):StateT SortSt Sem LO:=forIn [0:x.size+y.size] ((none,o,i,j,mg):LO) fun _ r=>do
 let u <- wS x y r.2.1 r.2.2.1 r.2.2.2.1 r.2.2.2.2
 match u.1 with
 | some z=>pure (.done (some z,u.2.1,u.2.2.1,u.2.2.2.1,r.2.2.2.2))
 | none=>do
  liftM (rule "list.sort.gallop")
  let v <- wR x y u.2.1 u.2.2.1 u.2.2.2.1 (r.2.2.2.2+1) u.2.2.2.2.1 u.2.2.2.2.2
  match v.1 with
  | some z=>pure (.done (some z,v.2.1,v.2.2.1,v.2.2.2.1,v.2.2.2.2.1))
  | none=>do
   mE (v.2.2.2.2.1+1)
   pure (.yield (none,v.2.1,v.2.2.1,v.2.2.2.1,v.2.2.2.2.1+1))
theorem aF9 (x y:Array Keyed):wP x y=(do
 liftM (rule "list.sort.merge-lo")
 let v <- elem' y 0
 if (1 == y.size)=true then pure (#[v] ++ x.extract 0 x.size ++ y.extract 1 y.size)
 else if (0+1 == x.size)=true then pure (#[v] ++ y.extract 1 y.size ++ x.extract 0 x.size)
 else do
  let z <- get
  let r <- P0 x y #[v] 0 1 (gallopOf z)
  match r.1 with
  | some z=>pure z
  | none=>unsupported "internal:list.sort.merge-bound"):=by kernel_rfl
section
variable (rk : Keyed → Int)
def Sd (l:List Keyed):Prop:=l.Pairwise fun a b=>rk a<=rk b
structure MI (xs ys o:List Keyed) (i j:Nat):Prop where
 pm:o.Perm (xs.take i ++ ys.take j)
 sx:Sd rk (o ++ xs.drop i)
 sy:Sd rk (o ++ ys.drop j)
end
variable {rk : Keyed → Int} {xs ys o : List Keyed} {i j : Nat}
theorem Sd.ins {o a b d:List Keyed} (h1:Sd rk (o ++ a)) (h2:Sd rk (o ++ (b ++ d))) (h:∀ u ∈ b,∀ t ∈ a,rk u<=rk t):Sd rk ((o ++ b) ++ a):=by
 unfold Sd at *
 rw [bj2]
 obtain ⟨p1,p2,p3⟩:=bm3.mp h1
 obtain ⟨q1,q2,q3⟩:=bm3.mp h2
 obtain ⟨r1,r2,r3⟩:=bm3.mp q2
 refine bm3.mpr ⟨p1,bm3.mpr ⟨r1,p2,h⟩,fun u hu t ht=>?_⟩
 rcases bk4.mp ht with z | z
 ·exact q3 u hu t (bl6 _ z)
 ·exact p3 u hu t z
theorem MI.ofy (m:MI rk xs ys o i j) (k:Nat) (h:∀ u ∈ (ys.drop j).take k,∀ t ∈ xs.drop i,rk u<=rk t):MI rk xs ys (o ++ (ys.drop j).take k) i (j+k):=by
 have e:(ys.drop j).take k ++ ys.drop (j+k)=ys.drop j:=by rw [<- List.drop_drop]; exact bl4 k _
 refine⟨?_,Sd.ins m.sx (d:=ys.drop (j+k)) (by rw [e]; exact m.sy) h,by rw [bj2,e]; exact m.sy⟩
 rw [List.take_add,<- bj2]
 exact m.pm.append_right _
theorem MI.ofx (m:MI rk xs ys o i j) (k:Nat) (h:∀ u ∈ (xs.drop i).take k,∀ t ∈ ys.drop j,rk u<=rk t):MI rk xs ys (o ++ (xs.drop i).take k) (i+k) j:=by
 have e:(xs.drop i).take k ++ xs.drop (i+k)=xs.drop i:=by rw [<- List.drop_drop]; exact bl4 k _
 refine⟨?_,by rw [bj2,e]; exact m.sx,Sd.ins m.sy (d:=xs.drop (i+k)) (by rw [e]; exact m.sx) h⟩
 rw [List.take_add]
 refine (m.pm.append_right _).trans ?_
 rw [bj2,bj2]
 exact (bw0).append_left _
theorem MI.fin (m:MI rk xs ys o i j) (h:xs.length<=i ∨ ys.length<=j):(o ++ xs.drop i ++ ys.drop j).Perm (xs ++ ys)/\Sd rk (o ++ xs.drop i ++ ys.drop j):=by
 refine⟨?_,?_⟩
 ·rw [bj2]
  refine (m.pm.append_right _).trans ?_
  have e1:xs=xs.take i ++ xs.drop i:=(bl4 i xs).symm
  have e2:ys=ys.take j ++ ys.drop j:=(bl4 j ys).symm
  conv=>rhs; rw [e1,e2]
  rw [bj2,bj2]
  refine List.Perm.append_left _ ?_
  rw [<- bj2,<- bj2]
  exact (bw0).append_right _
 ·rcases h with h | h
  ·rw [List.drop_eq_nil_of_le h,bk0]; exact m.sy
  ·rw [List.drop_eq_nil_of_le h,bk0]; exact m.sx
theorem MI.lst (m:MI rk xs ys o i j) (h:∀ u ∈ ys,∀ t ∈ xs.drop i,rk u<=rk t):(o ++ ys.drop j ++ xs.drop i).Perm (xs ++ ys)/\Sd rk (o ++ ys.drop j ++ xs.drop i):=by
 have m2:=m.ofy ys.length fun u hu t ht=>h u (List.mem_of_mem_drop (List.mem_of_mem_take hu)) t ht
 have e:(ys.drop j).take ys.length=ys.drop j:=bl8 (by simp)
 rw [e] at m2
 have f:=m2.fin (.inr (by omega))
 rw [List.drop_eq_nil_of_le (as:=ys) (i:=j+ys.length) (by omega),bk0] at f
 exact f
theorem P3 {x:Array Keyed}{i k:Nat}{u:Keyed} (h:u ∈ (x.toList.drop i).take k):∃ t,t < k/\i+t < x.size/\rk u=Kr rk x (i+t):=by
 obtain ⟨t,ht,e⟩:=br8 h
 have h1:t < k/\i+t < x.size:=by simp at ht; omega
 refine⟨t,h1.1,h1.2,?_⟩
 rw [cI h1.2,<- e]
 simp
theorem oD {x:Array Keyed}{i:Nat}{u:Keyed} (h:u ∈ x.toList.drop i):∃ t,i+t < x.size/\rk u=Kr rk x (i+t):=by
 obtain ⟨t,ht,e⟩:=br8 h
 have h1:i+t < x.size:=by simp at ht; omega
 refine⟨t,h1,?_⟩
 rw [cI h1,<- e]
 simp
theorem Sd.up {x:Array Keyed} (h:Sd rk x.toList) (lo hi:Nat) (hh:hi<=x.size):Up rk x lo hi:=fun i j _ hij hj=>by
 rw [cI (by omega:i < x.size),cI (by omega:j < x.size)]
 rcases bv7 hij with z | z
 ·subst z; exact bw6 _
 ·have:=bn3.mp h i j (by simp; omega) (by simp; omega) z
  simpa using this
theorem P4 (x:Array Keyed) (i k:Nat):(x.extract i (i+k)).toList=(x.toList.drop i).take k:=by
 simp [List.extract]
theorem rE (x:Array Keyed) (i:Nat):(x.extract i x.size).toList=x.toList.drop i:=by
 simp [List.extract]
 exact bl8 (by simp)
theorem lC {x:Array Keyed}{i:Nat} (h:i < x.size) : [x[i]]=(x.toList.drop i).take 1:=by
 rw [bt0 (by simpa using h)]; simp
structure Gq (st st':SortSt):Prop where
 kd:kindOf st'=kindOf st
 ar:arrOf st'=arrOf st
 pd:pendingOf st'=pendingOf st
 ok:failedOf st'=failedOf st
theorem Gq.refl (st:SortSt):Gq st st:=⟨rfl,rfl,rfl,rfl⟩
section
variable {κ : SortKind} {st : SortSt} {prog : Program} {w : World} {A : Around} {E : Value → Shared → Prop} {s : Shared} {Ok : Keyed → Prop}
theorem rF {st0:SortSt}{g:Nat}{Q:Unit->SortSt->Prop} (q:Gq st0 st) (h:∀ st',Gq st0 st'->Q () st'):wpS (model prog w) A E s (mE g) Q st:=by
 rw [aF8]; exact wpS_modify (h _ ⟨q.kd,q.ar,q.pd,q.ok⟩)
def e9 (rk:Keyed->Int) (x y r:Array Keyed):Prop:=r.toList.Perm (x.toList ++ y.toList)/\Sd rk r.toList
theorem MI.y1 {x y o:Array Keyed} (m:MI rk x.toList y.toList o.toList i j) (hj:j < y.size) (h:∀ t,i+t < x.size->rk y[j]<=Kr rk x (i+t)):MI rk x.toList y.toList (o.push y[j]).toList i (j+1):=by
 have:=m.ofy 1 fun u hu t ht=>?_
 ·rw [<- lC hj] at this; simpa using this
 ·rw [<- lC hj,bi1] at hu
  subst hu
  obtain ⟨q,q1,q2⟩:=oD (rk:=rk) ht
  rw [q2]; exact h q q1
theorem MI.x1 {x y o:Array Keyed} (m:MI rk x.toList y.toList o.toList i j) (hi:i < x.size) (h:∀ t,j+t < y.size->rk x[i]<=Kr rk y (j+t)):MI rk x.toList y.toList (o.push x[i]).toList (i+1) j:=by
 have:=m.ofx 1 fun u hu t ht=>?_
 ·rw [<- lC hi] at this; simpa using this
 ·rw [<- lC hi,bi1] at hu
  subst hu
  obtain ⟨q,q1,q2⟩:=oD (rk:=rk) ht
  rw [q2]; exact h q q1
theorem MI.yk {x y o:Array Keyed} (m:MI rk x.toList y.toList o.toList i j) (k:Nat) (h:∀ p t,p < k->j+p < y.size->i+t < x.size->Kr rk y (j+p)<=Kr rk x (i+t)):MI rk x.toList y.toList (o ++ y.extract j (j+k)).toList i (j+k):=by
 have:=m.ofy k fun u hu t ht=>?_
 ·rw [<- P4] at this; rw [bp2]; exact this
 ·obtain ⟨p,p1,p2,p3⟩:=P3 (rk:=rk) hu
  obtain ⟨q,q1,q2⟩:=oD (rk:=rk) ht
  rw [q2,p3]; exact h p q p1 p2 q1
theorem MI.xk {x y o:Array Keyed} (m:MI rk x.toList y.toList o.toList i j) (k:Nat) (h:∀ p t,p < k->i+p < x.size->j+t < y.size->Kr rk x (i+p)<=Kr rk y (j+t)):MI rk x.toList y.toList (o ++ x.extract i (i+k)).toList (i+k) j:=by
 have:=m.ofx k fun u hu t ht=>?_
 ·rw [<- P4] at this; rw [bp2]; exact this
 ·obtain ⟨p,p1,p2,p3⟩:=P3 (rk:=rk) hu
  obtain ⟨q,q1,q2⟩:=oD (rk:=rk) ht
  rw [q2,p3]; exact h p q p1 p2 q1
theorem mF {key:Keyed}{xs:Array Keyed}{bs i:Nat}:cC rk false key xs bs i=decide (Kr rk xs (bs+i)<=rk key):=rfl
theorem mG {key:Keyed}{xs:Array Keyed}{bs i:Nat}:cC rk true key xs bs i=decide (Kr rk xs (bs+i) < rk key):=rfl
def GI (rk:Keyed->Int) (x y:Array Keyed) (lb:Nat) (st:SortSt) (c:LS) (st':SortSt):Prop:=Gq st st'/\∃ o i j mg p q,c=(none,o,i,j,mg,p,q)/\MI rk x.toList y.toList o.toList i j/\i+1 < x.size/\j < y.size/\lb<=i+j
def GQ (rk:Keyed->Int) (x y:Array Keyed) (lb:Nat) (st:SortSt) (c:LS) (st':SortSt):Prop:=Gq st st'/\((∃ r o i j mg p q,c=(some r,o,i,j,mg,p,q)/\e9 rk x y r) ∨ ∃ o i j mg p q,c=(none,o,i,j,mg,p,q)/\MI rk x.toList y.toList o.toList i j/\i+1 < x.size/\j < y.size/\lb<=i+j)
def GR (rk:Keyed->Int) (x y:Array Keyed) (lb:Nat) (st:SortSt) (r:ForInStep LS) (st':SortSt):Prop:=match r with | .done c=>GQ rk x y lb st c st' | .yield c=>GI rk x y lb st c st'
theorem MI.done {x y o:Array Keyed} (m:MI rk x.toList y.toList o.toList i j) (hh:x.size<=i ∨ y.size<=j):e9 rk x y (o ++ x.extract i x.size ++ y.extract j y.size):=by
 unfold e9
 rw [bp2,bp2,rE,rE]
 exact m.fin (by simpa using hh)
theorem MI.last {x y o:Array Keyed} (m:MI rk x.toList y.toList o.toList i j) (x0:0 < x.size) (hl:∀ u ∈ y.toList,rk u<=rk x[x.size - 1]) (hh:i+1=x.size):e9 rk x y (o ++ y.extract j y.size ++ x.extract i x.size):=by
 unfold e9
 rw [bp2,bp2,rE,rE]
 refine m.lst fun u hu t ht=>?_
 obtain ⟨q,q1,q2⟩:=oD (rk:=rk) ht
 have e:i+q=x.size - 1:=by omega
 rw [q2,e,cI (by omega)]
 exact hl u hu
theorem P5 {st0:SortSt}{x y o:Array Keyed}{mg p q lb:Nat} (x0:0 < x.size) (hl:∀ u ∈ y.toList,rk u<=rk x[x.size - 1]) (g:Gq st0 st) (m:MI rk x.toList y.toList o.toList i j) (hi:i+1 < x.size) (hj:j < y.size) (hb:lb<=i+j)
  (hm:∀ t,j+t < y.size->rk x[i]<=Kr rk y (j+t)):wpS (model prog w) A E s (rB x y o i j mg p q) (GR rk x y lb st0) st:=by
 unfold rB
 have hi':i < x.size:=by omega
 have m':=m.x1 hi' hm
 refine bi2 (dD hi' ?_)
 by_cases he:(i+1+1 == x.size)=true
 ·rw [if_pos he]
  have he:i+1+1=x.size:=by simpa using he
  exact bj0 ⟨g,.inl ⟨_,_,_,_,_,_,_,rfl,m'.last x0 hl he⟩⟩
 ·rw [if_neg he]
  have he:i+1+1 ≠ x.size:=by simpa using he
  split
  ·exact bj0 ⟨g,.inr ⟨_,_,_,_,_,_,rfl,m',by omega,hj,by omega⟩⟩
  ·exact bj0 ⟨g,_,_,_,_,_,_,rfl,m',by omega,hj,by omega⟩
theorem P6 (c:cP prog w A E s κ Ok rk) {st0:SortSt} (hk:kindOf st0=κ) {x y o:Array Keyed}{mg p q lb:Nat} (ox:bP Ok x) (oy:bP Ok y) (sx:Sd rk x.toList) (sy:Sd rk y.toList) (x0:0 < x.size) (hl:∀ u ∈ y.toList,rk u<=rk x[x.size - 1]) (g:Gq st0 st) (m:MI rk x.toList y.toList o.toList i j) (hi:i+1 < x.size) (hj:j < y.size) (hb:lb<=i+j)
  (hm:∀ t,i+t < x.size->rk y[j]<=Kr rk x (i+t)):wpS (model prog w) A E s (rC x y o i j mg p q) (GR rk x y lb st0) st:=by
 unfold rC
 have hi':i < x.size:=by omega
 have m':=m.y1 hj hm
 refine bi2 (dD hj ?_)
 by_cases he:(j+1 == y.size)=true
 ·rw [if_pos he]
  have he:j+1=y.size:=by simpa using he
  exact bj0 ⟨g,.inl ⟨_,_,_,_,_,_,_,rfl,m'.done (.inr (by omega))⟩⟩
 ·rw [if_neg he]
  have he:j+1 ≠ y.size:=by simpa using he
  refine bi2 (dD hi' (bi2 (mD c (g.kd.trans hk) (ox _ (bn1 hi')) oy (by omega) (by omega) (sy.up _ _ (by omega)) fun k k1 k2 k3=>?_)))
  dsimp only
  have ux:=sx.up 0 _ (bh7 x.size)
  have mk:=m'.yk k fun p t hp _ ht=>by
   have a1:=k2 p hp
   rw [mG,bj8] at a1
   have a2:=ux i (i+t) (by omega) (by omega) ht
   rw [cI hi'] at a2
   omega
  have km:∀ t,j+1+k+t < y.size->rk x[i]<=Kr rk y (j+1+k+t):=fun t ht=>by
   have a1:=k3 (k+t) (by omega) (by omega)
   rw [mG,bq9,<- Nat.add_assoc] at a1
   omega
  by_cases hk0:k > 0
  ·rw [if_pos hk0]
   by_cases hf:(j+1+k == y.size)=true
   ·rw [if_pos hf]
    have hf:j+1+k=y.size:=by simpa using hf
    exact bj0 ⟨g,.inl ⟨_,_,_,_,_,_,_,rfl,mk.done (.inr (by omega))⟩⟩
   ·rw [if_neg hf]
    have hf:j+1+k ≠ y.size:=by simpa using hf
    exact P5 x0 hl g mk hi (by omega) (by omega) km
  ·rw [if_neg hk0]
   have e0:k=0:=by omega
   subst e0
   exact P5 x0 hl g m' hi (by omega) (by omega) km
theorem P7 (c:cP prog w A E s κ Ok rk) {st0:SortSt} (hk:kindOf st0=κ) {x y o:Array Keyed}{mg p q lb:Nat} (ox:bP Ok x) (oy:bP Ok y) (sx:Sd rk x.toList) (sy:Sd rk y.toList) (x0:0 < x.size) (hl:∀ u ∈ y.toList,rk u<=rk x[x.size - 1]) (g:Gq st0 st) (m:MI rk x.toList y.toList o.toList i j) (hi:i+1 < x.size) (hj:j < y.size) (hb:lb<=i+j) :
  wpS (model prog w) A E s (rD x y o i j mg p q) (GR rk x y lb st0) st:=by
 unfold rD
 refine bi2 (rF g fun st4 q4=>bi2 (dD hj (bi2 (mD c (q4.kd.trans hk) (oy _ (bn1 hj)) ox (by omega) (by omega) (sx.up _ _ (by omega)) fun k k1 k2 k3=>?_))))
 dsimp only
 have uy:=sy.up 0 _ (bh7 y.size)
 have mk:=m.xk k fun p t hp _ ht=>by
  have a1:=k2 p hp
  rw [mF,bj8] at a1
  have a2:=uy j (j+t) (by omega) (by omega) ht
  rw [cI hj] at a2
  omega
 have km:∀ t,i+k+t < x.size->rk y[j]<=Kr rk x (i+k+t):=fun t ht=>by
  have a1:=k3 (k+t) (by omega) (by omega)
  rw [mF,bq9,<- Nat.add_assoc] at a1
  omega
 by_cases hk0:k > 0
 ·rw [if_pos hk0]
  by_cases he:(i+k+1 == x.size)=true
  ·rw [if_pos he]
   exact bj0 ⟨q4,.inl ⟨_,_,_,_,_,_,_,rfl,mk.last x0 hl (by simpa using he)⟩⟩
  ·rw [if_neg he]
   have he:i+k+1 ≠ x.size:=by simpa using he
   by_cases hf:(i+k == x.size)=true
   ·rw [if_pos hf]
    have hf:i+k=x.size:=by simpa using hf
    exact bj0 ⟨q4,.inl ⟨_,_,_,_,_,_,_,rfl,mk.done (.inl (by omega))⟩⟩
   ·rw [if_neg hf]
    have hf:i+k ≠ x.size:=by simpa using hf
    exact P6 c hk ox oy sx sy x0 hl q4 mk (by omega) hj (by omega) km
 ·rw [if_neg hk0]
  have e0:k=0:=by omega
  subst e0
  exact P6 c hk ox oy sx sy x0 hl q4 m hi hj hb km
theorem aG0 (c:cP prog w A E s κ Ok rk) {st0:SortSt} (hk:kindOf st0=κ) {x y o:Array Keyed}{mg p q lb:Nat} (ox:bP Ok x) (oy:bP Ok y) (sx:Sd rk x.toList) (sy:Sd rk y.toList) (x0:0 < x.size) (hl:∀ u ∈ y.toList,rk u<=rk x[x.size - 1]) (g:Gq st0 st) (m:MI rk x.toList y.toList o.toList i j) (hi:i+1 < x.size) (hj:j < y.size) (hb:lb<=i+j) :
  wpS (model prog w) A E s (wR x y o i j mg p q) (GQ rk x y lb st0) st:=by
 unfold wR
 refine bq1 (I:=fun _=>GI rk x y lb st0) ?_ ?_ ⟨g,o,i,j,_,p,q,rfl,m,hi,hj,hb⟩
 ·rintro t c3 st3 _ _ ⟨q3,o,i,j,mg,p,q,rfl,m,hi,hj,pr3⟩
  dsimp only
  split
  ·exact bw7 (P7 c hk ox oy sx sy x0 hl q3 m hi hj pr3) fun r _ hr=>by cases r <;> exact hr
  ·exact bw7 (P7 c hk ox oy sx sy x0 hl q3 m hi hj pr3) fun r _ hr=>by cases r <;> exact hr
 ·rintro c3 st3 ⟨q3,o,i,j,mg,p,q,rfl,m,hi,hj,pr3⟩
  exact⟨q3,.inr ⟨_,_,_,_,_,_,rfl,m,hi,hj,pr3⟩⟩
theorem aG1 (c:cP prog w A E s κ Ok rk) {st0:SortSt} (hk:kindOf st0=κ) {x y o:Array Keyed}{mg:Nat}{Q:wQ->SortSt->Prop} (ox:bP Ok x) (oy:bP Ok y) (sx:Sd rk x.toList) (sy:Sd rk y.toList) (x0:0 < x.size) (hl:∀ u ∈ y.toList,rk u<=rk x[x.size - 1]) (g:Gq st0 st) (m:MI rk x.toList y.toList o.toList i j) (hi:i+1 < x.size) (hj:j < y.size)
  (h1:∀ r o' i' j' p q st',Gq st0 st'->e9 rk x y r->Q (some r,o',i',j',p,q) st')
  (h2:∀ o' i' j' p q st',Gq st0 st'->MI rk x.toList y.toList o'.toList i' j'->i'+1 < x.size->j' < y.size->i+j+1<=i'+j'->Q (none,o',i',j',p,q) st') :
  wpS (model prog w) A E s (wS x y o i j mg) Q st:=by
 have ux:Up rk x 0 x.size:=sx.up 0 _ (bh7 _)
 have uy:Up rk y 0 y.size:=sy.up 0 _ (bh7 _)
 unfold wS
 refine bq1 (I:=fun t c st'=>Gq st0 st'/\∃ o i' j' p q,c=(none,o,i',j',p,q)/\MI rk x.toList y.toList o.toList i' j'/\i'+1 < x.size/\j' < y.size/\i+j+t<=i'+j') ?_ ?_ ⟨g,o,i,j,0,0,rfl,m,hi,hj,by omega⟩
 ·rintro t c2 st2 _ ht ⟨q2,o,i',j',p,q,rfl,m,hi,hj,pr2⟩
  dsimp only
  have hi':i' < x.size:=by omega
  refine bi2 (dD hj (bi2 (dD hi' (bi2 (c _ _ (oy _ (bn1 hj)) (ox _ (bn1 hi')) st2 _ (q2.kd.trans hk) ?_)))))
  by_cases hc:rk y[j'] < rk x[i']
  ·rw [bh5 hc]
   dsimp only
   rw [if_pos rfl]
   have m':=m.y1 hj fun t ht=>by
    have:=ux i' (i'+t) (by omega) (by omega) ht
    rw [cI hi'] at this
    omega
   refine bi2 (dD hj ?_)
   by_cases he:(j'+1 == y.size)=true
   ·rw [if_pos he]
    have he:j'+1=y.size:=by simpa using he
    exact bj0 (h1 _ _ _ _ _ _ _ q2 (m'.done (.inr (by omega))))
   ·rw [if_neg he]
    have he:j'+1 ≠ y.size:=by simpa using he
    split
    ·exact bj0 (h2 _ _ _ _ _ _ q2 m' hi (by omega) (by omega))
    ·exact bj0 ⟨q2,_,_,_,_,_,rfl,m',hi,by omega,by omega⟩
  ·rw [bh2 hc]
   dsimp only
   rw [if_neg bj6]
   have m':=m.x1 hi' fun t ht=>by
    have:=uy j' (j'+t) (by omega) (by omega) ht
    rw [cI hj] at this
    omega
   refine bi2 (dD hi' ?_)
   by_cases he:(i'+1+1 == x.size)=true
   ·rw [if_pos he]
    exact bj0 (h1 _ _ _ _ _ _ _ q2 (m'.last x0 hl (by simpa using he)))
   ·rw [if_neg he]
    have he:i'+1+1 ≠ x.size:=by simpa using he
    split
    ·exact bj0 (h2 _ _ _ _ _ _ q2 m' (by omega) hj (by omega))
    ·exact bj0 ⟨q2,_,_,_,_,_,rfl,m',by omega,hj,by omega⟩
 ·rintro c2 st2 ⟨q2,o,i',j',p,q,rfl,m,hi,hj,pr2⟩
  exact h2 _ _ _ _ _ _ q2 m hi hj (by omega)
theorem aG2 (c:cP prog w A E s κ Ok rk) (hk:kindOf st=κ) {x y:Array Keyed}{Q:Array Keyed->SortSt->Prop} (ox:bP Ok x) (oy:bP Ok y) (sx:Sd rk x.toList) (sy:Sd rk y.toList) (x0:0 < x.size) (y0:0 < y.size)
  (hf:∀ t ∈ x.toList,rk y[0]<=rk t) (hl:∀ u ∈ y.toList,rk u<=rk x[x.size - 1])
  (h:∀ r st',Gq st st'->e9 rk x y r->Q r st'):wpS (model prog w) A E s (wP x y) Q st:=by
 rw [aF9]
 refine bi2 (wpS_lift (bu5 ⟨rfl,bi2 (dD y0 ?_)⟩))
 have m0:MI rk x.toList y.toList (#[y[0]]:Array Keyed).toList 0 1:=by
  have mm:MI rk x.toList y.toList [] 0 0:=⟨by simp,sx,sy⟩
  have:=mm.ofy 1 fun u hu t ht=>?_
  ·rw [<- lC y0] at this; exact this
  ·rw [<- lC y0,bi1] at hu
   subst hu
   exact hf t ht
 by_cases e1:(1 == y.size)=true
 ·rw [if_pos e1]
  have e1:1=y.size:=by simpa using e1
  exact bj0 (h _ st (Gq.refl st) (m0.done (.inr (by omega))))
 ·rw [if_neg e1]
  have e1:1 ≠ y.size:=by simpa using e1
  by_cases e2:(0+1 == x.size)=true
  ·rw [if_pos e2]
   exact bj0 (h _ st (Gq.refl st) (m0.last x0 hl (by simpa using e2)))
  ·rw [if_neg e2]
   have e2:0+1 ≠ x.size:=by simpa using e2
   refine bi2 (wpS_get ?_)
   unfold P0
   refine bi2 (bw7 (bq1
    (I:=fun n c st'=>Gq st st'/\∃ o i j mg,c=(none,o,i,j,mg)/\MI rk x.toList y.toList o.toList i j/\i+1 < x.size/\j < y.size/\n+1<=i+j)
    (Q:=fun c st'=>Gq st st'/\∃ r o i j mg,c=(some r,o,i,j,mg)/\e9 rk x y r) ?_ ?_ ⟨Gq.refl st,_,0,1,_,rfl,m0,by omega,by omega,by omega⟩) ?_)
   ·rintro n c1 st1 _ hn ⟨q1,o,i,j,mg,rfl,m,hi,hj,pr⟩
    dsimp only
    refine bi2 (aG1 c hk ox oy sx sy x0 hl q1 m hi hj (fun r o' i' j' p q st' g md=>bj0 ⟨g,r,_,_,_,_,rfl,md⟩) fun o' i' j' p q st' g m' hi' hj' pr'=>?_)
    refine bi2 (wpS_lift (bu5 ⟨rfl,?_⟩))
    refine bi2 (bw7 (aG0 c hk ox oy sx sy x0 hl g m' hi' hj' pr') ?_)
    rintro c3 st3 ⟨q3,⟨r,o,i3,j3,mg,p,q,rfl,md⟩ | ⟨o,i3,j3,mg,p,q,rfl,m,hi,hj,pr3⟩⟩
    ·exact bj0 ⟨q3,r,_,_,_,_,rfl,md⟩
    ·exact bi2 (rF q3 fun st4 q4=>bj0 ⟨q4,o,i3,j3,_,rfl,m,hi,hj,by omega⟩)
   ·rintro c1 st1 ⟨q1,o,i,j,mg,rfl,m,hi,hj,pr⟩
    exact absurd pr (by omega)
   ·rintro c1 st1 ⟨q1,r,o,i,j,mg,rfl,md⟩
    exact bj0 (h r _ q1 md)
end
def wT:Array Keyed->Array Keyed->StateT SortSt Sem (Array Keyed):=sortPriv% PySem.Builtin.mergeHi
abbrev LH:=Option (Array Keyed) × Nat × Nat × Array Keyed × Nat × Nat × Nat
abbrev wU:=Option (Array Keyed) × Nat × Nat × Array Keyed × Nat × Nat
abbrev LP:=Option (Array Keyed) × Nat × Nat × Array Keyed × Nat
def rG (x y o:Array Keyed) (i j mg p q:Nat):StateT SortSt Sem (ForInStep LH):=do
 let v <- elem' x (i - 1)
 if (i - 1 == 0)=true then pure (.done (some (x.extract 0 (i - 1) ++ y.extract 0 j ++ (o.push v).reverse),i - 1,j,o.push v,mg,p,q))
 else if (decide (p < 7) && decide (q < 7))=true then pure (.done (none,i - 1,j,o.push v,mg,p,q)) else pure (.yield (none,i - 1,j,o.push v,mg,p,q))
def rH (x y o:Array Keyed) (i j mg p q:Nat):StateT SortSt Sem (ForInStep LH):=do
 let v <- elem' y (j - 1)
 if (j - 1 == 1)=true then pure (.done (some (y.extract 0 (j - 1) ++ x.extract 0 i ++ (o.push v).reverse),i,j - 1,o.push v,mg,p,q)) else do
  let u <- elem' x (i - 1)
  match <- kH true u y 0 (j - 1) (j - 1 - 1) with
  | some z=>
   if j - 1 - z > 0 then
    if (z == 1)=true then pure (.done (some (y.extract 0 z ++ x.extract 0 i ++ (o.push v ++ (y.extract z (j - 1)).reverse).reverse),i,z,o.push v ++ (y.extract z (j - 1)).reverse,mg,p,j - 1 - z))
    else if (z == 0)=true then pure (.done (some (x.extract 0 i ++ y.extract 0 z ++ (o.push v ++ (y.extract z (j - 1)).reverse).reverse),i,z,o.push v ++ (y.extract z (j - 1)).reverse,mg,p,j - 1 - z))
    else rG x y (o.push v ++ (y.extract z (j - 1)).reverse) i z mg p (j - 1 - z)
   else rG x y (o.push v) i (j - 1) mg p (j - 1 - z)
  | _=>pure (.done (some (x.extract 0 i ++ y.extract 0 (j - 1) ++ (o.push v).reverse),i,j - 1,o.push v,mg,p,q))
def rJ (x y o:Array Keyed) (i j mg p q:Nat):StateT SortSt Sem (ForInStep LH):=do
 mE mg
 let v <- elem' y (j - 1)
 match <- kH false v x 0 i (i - 1) with
 | some z=>
  if i - z > 0 then
   if (z == 0)=true then pure (.done (some (x.extract 0 z ++ y.extract 0 j ++ (o ++ (x.extract z i).reverse).reverse),z,j,o ++ (x.extract z i).reverse,mg,i - z,q))
   else rH x y (o ++ (x.extract z i).reverse) z j mg (i - z) q
  else rH x y o i j mg (i - z) q
 | _=>pure (.done (some (x.extract 0 i ++ y.extract 0 j ++ o.reverse),i,j,o,mg,p,q))
def wV (x y o:Array Keyed) (i j mg p q:Nat):StateT SortSt Sem LH:=forIn [0:x.size+y.size] ((none,i,j,o,mg,p,q):LH) fun _ r=>
 if r.2.2.2.2.1 > 1 then rJ x y r.2.2.2.1 r.2.1 r.2.2.1 (r.2.2.2.2.1 - 1) r.2.2.2.2.2.1 r.2.2.2.2.2.2 else rJ x y r.2.2.2.1 r.2.1 r.2.2.1 r.2.2.2.2.1 r.2.2.2.2.2.1 r.2.2.2.2.2.2
def wW (x y o:Array Keyed) (i j mg:Nat):StateT SortSt Sem wU:=forIn [0:x.size+y.size] ((none,i,j,o,0,0):wU) fun _ r=>do
 let v <- elem' y (r.2.2.1 - 1)
 let u <- elem' x (r.2.1 - 1)
 match <- lt' v u with
 | some q=>
  if q=true then do
   let u <- elem' x (r.2.1 - 1)
   if (r.2.1 - 1 == 0)=true then pure (.done (some (x.extract 0 (r.2.1 - 1) ++ y.extract 0 r.2.2.1 ++ (r.2.2.2.1.push u).reverse),r.2.1 - 1,r.2.2.1,r.2.2.2.1.push u,r.2.2.2.2.1+1,0))
   else if r.2.2.2.2.1+1 >= mg then pure (.done (none,r.2.1 - 1,r.2.2.1,r.2.2.2.1.push u,r.2.2.2.2.1+1,0)) else pure (.yield (none,r.2.1 - 1,r.2.2.1,r.2.2.2.1.push u,r.2.2.2.2.1+1,0))
  else do
   let v <- elem' y (r.2.2.1 - 1)
   if (r.2.2.1 - 1 == 1)=true then pure (.done (some (y.extract 0 (r.2.2.1 - 1) ++ x.extract 0 r.2.1 ++ (r.2.2.2.1.push v).reverse),r.2.1,r.2.2.1 - 1,r.2.2.2.1.push v,0,r.2.2.2.2.2+1))
   else if r.2.2.2.2.2+1 >= mg then pure (.done (none,r.2.1,r.2.2.1 - 1,r.2.2.2.1.push v,0,r.2.2.2.2.2+1)) else pure (.yield (none,r.2.1,r.2.2.1 - 1,r.2.2.2.1.push v,0,r.2.2.2.2.2+1))
 | _=>pure (.done (some (x.extract 0 r.2.1 ++ y.extract 0 r.2.2.1 ++ r.2.2.2.1.reverse),r.2.1,r.2.2.1,r.2.2.2.1,r.2.2.2.2.1,r.2.2.2.2.2))
def P8 (x y o:Array Keyed) (i j mg:Nat):StateT SortSt Sem LP:=forIn [0:x.size+y.size] ((none,i,j,o,mg):LP) fun _ r=>do
 let u <- wW x y r.2.2.2.1 r.2.1 r.2.2.1 r.2.2.2.2
 match u.1 with
 | some z=>pure (.done (some z,u.2.1,u.2.2.1,u.2.2.2.1,r.2.2.2.2))
 | none=>do
  liftM (rule "list.sort.gallop")
  let v <- wV x y u.2.2.2.1 u.2.1 u.2.2.1 (r.2.2.2.2+1) u.2.2.2.2.1 u.2.2.2.2.2
  match v.1 with
  | some z=>pure (.done (some z,v.2.1,v.2.2.1,v.2.2.2.1,v.2.2.2.2.1))
  | none=>do
   mE (v.2.2.2.2.1+1)
   pure (.yield (none,v.2.1,v.2.2.1,v.2.2.2.1,v.2.2.2.2.1+1))
theorem aG3 (x y:Array Keyed):wT x y=(do
 liftM (rule "list.sort.merge-hi")
 let v <- elem' x (x.size - 1)
 if (x.size - 1 == 0)=true then pure (x.extract 0 (x.size - 1) ++ y.extract 0 y.size ++ (#[v]:Array Keyed).reverse)
 else if (y.size == 1)=true then pure (y.extract 0 y.size ++ x.extract 0 (x.size - 1) ++ (#[v]:Array Keyed).reverse)
 else do
  let z <- get
  let r <- P8 x y #[v] (x.size - 1) y.size (gallopOf z)
  match r.1 with
  | some z=>pure z
  | none=>unsupported "internal:list.sort.merge-bound"):=by kernel_rfl
structure MH (rk:Keyed->Int) (xs ys o:List Keyed) (i j:Nat):Prop where
 pm:o.Perm (xs.drop i ++ ys.drop j)
 sx:Sd rk (xs.take i ++ o)
 sy:Sd rk (ys.take j ++ o)
variable {rk : Keyed → Int} {xs ys o : List Keyed} {i j : Nat}
theorem Sd.insR {o a b d:List Keyed} (h1:Sd rk (a ++ o)) (h2:Sd rk ((d ++ b) ++ o)) (h:∀ t ∈ a,∀ u ∈ b,rk t<=rk u):Sd rk (a ++ (b ++ o)):=by
 unfold Sd at *
 obtain ⟨p1,p2,p3⟩:=bm3.mp h1
 obtain ⟨q1,q2,q3⟩:=bm3.mp h2
 obtain ⟨r1,r2,r3⟩:=bm3.mp q1
 refine bm3.mpr ⟨p1,bm3.mpr ⟨r2,p2,fun u hu t ht=>q3 u (bl0 _ hu) t ht⟩,fun u hu t ht=>?_⟩
 rcases bk4.mp ht with z | z
 ·exact h u hu t z
 ·exact p3 u hu t z
theorem rK (l:List Keyed) {z j:Nat} (h:z<=j):l.take z ++ (l.take j).drop z=l.take j:=by
 have e:l.take z=(l.take j).take z:=by rw [List.take_take,Nat.min_eq_left h]
 rw [e]; exact bl4 z _
theorem wX (l:List Keyed) {z j:Nat} (h:z<=j):(l.take j).drop z ++ l.drop j=l.drop z:=by
 rw [bx2,show l.drop j=(l.drop z).drop (j - z) by rw [List.drop_drop,Nat.add_sub_cancel' h]]
 exact bl4 _ _
theorem MH.ofy (m:MH rk xs ys o i j) {z:Nat} (hz:z<=j) (h:∀ t ∈ xs.take i,∀ u ∈ (ys.take j).drop z,rk t<=rk u):MH rk xs ys ((ys.take j).drop z ++ o) i z:=by
 refine⟨?_,Sd.insR m.sx (d:=ys.take z) (by rw [rK _ hz]; exact m.sy) h,by rw [<- bj2,rK _ hz]; exact m.sy⟩
 rw [<- wX ys hz]
 refine (m.pm.append_left _).trans ?_
 rw [<- bj2,<- bj2]
 exact (bw0).append_right _
theorem MH.ofx (m:MH rk xs ys o i j) {z:Nat} (hz:z<=i) (h:∀ t ∈ ys.take j,∀ u ∈ (xs.take i).drop z,rk t<=rk u):MH rk xs ys ((xs.take i).drop z ++ o) z j:=by
 refine⟨?_,by rw [<- bj2,rK _ hz]; exact m.sx,Sd.insR m.sy (d:=xs.take z) (by rw [rK _ hz]; exact m.sx) h⟩
 rw [<- wX xs hz,bj2]
 exact m.pm.append_left _
theorem MH.fin (m:MH rk xs ys o i j) (h:i=0 ∨ j=0):(xs.take i ++ ys.take j ++ o).Perm (xs ++ ys)/\Sd rk (xs.take i ++ ys.take j ++ o):=by
 refine⟨?_,?_⟩
 ·have e1:xs=xs.take i ++ xs.drop i:=(bl4 i xs).symm
  have e2:ys=ys.take j ++ ys.drop j:=(bl4 j ys).symm
  conv=>rhs; rw [e1,e2]
  rw [bj2,bj2]
  refine List.Perm.append_left _ ((m.pm.append_left _).trans ?_)
  rw [<- bj2,<- bj2]
  exact (bw0).append_right _
 ·rcases h with h | h
  ·subst h; simpa using m.sy
  ·subst h; simpa using m.sx
theorem MH.fst (m:MH rk xs ys o i j) (h:∀ t ∈ ys.take j,∀ u ∈ xs,rk t<=rk u):(ys.take j ++ xs.take i ++ o).Perm (xs ++ ys)/\Sd rk (ys.take j ++ xs.take i ++ o):=by
 have m2:=m.ofx (bn5 i) fun t ht u hu=>h t ht u (List.mem_of_mem_take (List.mem_of_mem_drop hu))
 have f:=m2.fin (.inl rfl)
 simpa using f
theorem oE {x:Array Keyed}{i:Nat}{u:Keyed} (h:u ∈ x.toList.take i):∃ t,t < i/\t < x.size/\rk u=Kr rk x t:=by
 obtain ⟨t,ht,e⟩:=br8 h
 have h1:t < i/\t < x.size:=by simp at ht; omega
 refine⟨t,h1.1,h1.2,?_⟩
 rw [cI h1.2,<- e]
 simp
theorem oF {x:Array Keyed}{z i:Nat}{u:Keyed} (h:u ∈ (x.toList.take i).drop z):∃ t,z<=t/\t < i/\t < x.size/\rk u=Kr rk x t:=by
 obtain ⟨t,ht,e⟩:=br8 h
 have h1:z+t < i/\z+t < x.size:=by simp at ht; omega
 refine⟨z+t,by omega,h1.1,h1.2,?_⟩
 rw [cI h1.2,<- e]
 simp
theorem lD (x:Array Keyed) (z i:Nat):(x.extract z i).toList=(x.toList.take i).drop z:=by
 rw [bx2]; simp [List.extract]
theorem rL (x:Array Keyed) (i:Nat):(x.extract 0 i).toList=x.toList.take i:=by
 simp [List.extract]
theorem oG {x:Array Keyed}{i:Nat} (h:i < x.size) : [x[i]]=(x.toList.take (i+1)).drop i:=by
 rw [bx2,lC h,show i+1 - i=1 by omega]
section
variable {κ : SortKind} {st : SortSt} {prog : Program} {w : World} {A : Around} {E : Value → Shared → Prop} {s : Shared} {Ok : Keyed → Prop}
theorem MH.y1 {x y o:Array Keyed} (m:MH rk x.toList y.toList o.toList.reverse i (j+1)) (hj:j < y.size) (h:∀ t,t < i->t < x.size->Kr rk x t<=rk y[j]):MH rk x.toList y.toList (o.push y[j]).toList.reverse i j:=by
 have:=m.ofy (Nat.le_succ j) fun t ht u hu=>?_
 ·rw [<- oG hj] at this; simpa using this
 ·rw [<- oG hj,bi1] at hu
  subst hu
  obtain ⟨q,q1,q2,q3⟩:=oE (rk:=rk) ht
  rw [q3]; exact h q q1 q2
theorem MH.x1 {x y o:Array Keyed} (m:MH rk x.toList y.toList o.toList.reverse (i+1) j) (hi:i < x.size) (h:∀ t,t < j->t < y.size->Kr rk y t<=rk x[i]):MH rk x.toList y.toList (o.push x[i]).toList.reverse i j:=by
 have:=m.ofx (Nat.le_succ i) fun t ht u hu=>?_
 ·rw [<- oG hi] at this; simpa using this
 ·rw [<- oG hi,bi1] at hu
  subst hu
  obtain ⟨q,q1,q2,q3⟩:=oE (rk:=rk) ht
  rw [q3]; exact h q q1 q2
theorem MH.yk {x y o:Array Keyed} (m:MH rk x.toList y.toList o.toList.reverse i j) {z:Nat} (hz:z<=j) (h:∀ t p,t < i->t < x.size->z<=p->p < j->p < y.size->Kr rk x t<=Kr rk y p):MH rk x.toList y.toList (o ++ (y.extract z j).reverse).toList.reverse i z:=by
 have:=m.ofy hz fun t ht u hu=>?_
 ·rw [<- lD] at this; simpa using this
 ·obtain ⟨q,q1,q2,q3⟩:=oE (rk:=rk) ht
  obtain ⟨p,p1,p2,p3,p4⟩:=oF (rk:=rk) hu
  rw [q3,p4]; exact h q p q1 q2 p1 p2 p3
theorem MH.xk {x y o:Array Keyed} (m:MH rk x.toList y.toList o.toList.reverse i j) {z:Nat} (hz:z<=i) (h:∀ t p,t < j->t < y.size->z<=p->p < i->p < x.size->Kr rk y t<=Kr rk x p):MH rk x.toList y.toList (o ++ (x.extract z i).reverse).toList.reverse z j:=by
 have:=m.ofx hz fun t ht u hu=>?_
 ·rw [<- lD] at this; simpa using this
 ·obtain ⟨q,q1,q2,q3⟩:=oE (rk:=rk) ht
  obtain ⟨p,p1,p2,p3,p4⟩:=oF (rk:=rk) hu
  rw [q3,p4]; exact h q p q1 q2 p1 p2 p3
theorem MH.done {x y o:Array Keyed} (m:MH rk x.toList y.toList o.toList.reverse i j) (hh:i=0 ∨ j=0):e9 rk x y (x.extract 0 i ++ y.extract 0 j ++ o.reverse):=by
 unfold e9
 rw [bp2,bp2,rL,rL,Array.toList_reverse]
 exact m.fin hh
theorem MH.frst {x y o:Array Keyed} (m:MH rk x.toList y.toList o.toList.reverse i j) (y0:0 < y.size) (hf:∀ t ∈ x.toList,rk y[0]<=rk t) (hh:j=1):e9 rk x y (y.extract 0 j ++ x.extract 0 i ++ o.reverse):=by
 unfold e9
 rw [bp2,bp2,rL,rL,Array.toList_reverse]
 refine m.fst fun t ht u hu=>?_
 subst hh
 obtain ⟨q,q1,q2,q3⟩:=oE (rk:=rk) ht
 have e:q=0:=by omega
 subst e
 rw [q3,cI y0]
 exact hf u hu
structure HB (rk:Keyed->Int) (x y:Array Keyed) (lb i j:Nat) (o:Array Keyed):Prop where
 m:MH rk x.toList y.toList o.toList.reverse i j
 i0:0 < i
 i1:i < x.size
 j0:1 < j
 j1:j<=y.size
 pr:i+j+lb<=x.size+y.size
def HI (rk:Keyed->Int) (x y:Array Keyed) (lb:Nat) (st:SortSt) (c:LH) (st':SortSt):Prop:=Gq st st'/\∃ i j o mg p q,c=(none,i,j,o,mg,p,q)/\HB rk x y lb i j o
def HQ (rk:Keyed->Int) (x y:Array Keyed) (lb:Nat) (st:SortSt) (c:LH) (st':SortSt):Prop:=Gq st st'/\((∃ r i j o mg p q,c=(some r,i,j,o,mg,p,q)/\e9 rk x y r) ∨ ∃ i j o mg p q,c=(none,i,j,o,mg,p,q)/\HB rk x y lb i j o)
def HR (rk:Keyed->Int) (x y:Array Keyed) (lb:Nat) (st:SortSt) (r:ForInStep LH) (st':SortSt):Prop:=match r with | .done c=>HQ rk x y lb st c st' | .yield c=>HI rk x y lb st c st'
theorem P9 {st0:SortSt}{x y o:Array Keyed}{i j mg p q lb:Nat} (g:Gq st0 st) (b:HB rk x y lb (i+1) j o) (hm:∀ (hi:i < x.size) t,t < j->t < y.size->Kr rk y t<=rk x[i]):wpS (model prog w) A E s (rG x y o (i+1) j mg p q) (HR rk x y lb st0) st:=by
 unfold rG
 obtain ⟨m,i0,i1,j0,j1,pr⟩:=b
 have hi':i < x.size:=by omega
 have m':=m.x1 hi' (hm hi')
 simp only [Nat.add_sub_cancel]
 refine bi2 (dD hi' ?_)
 by_cases he:(i == 0)=true
 ·rw [if_pos he]
  have he:i=0:=by simpa using he
  exact bj0 ⟨g,.inl ⟨_,_,_,_,_,_,_,rfl,m'.done (.inl he)⟩⟩
 ·rw [if_neg he]
  have he:i ≠ 0:=by simpa using he
  split
  ·exact bj0 ⟨g,.inr ⟨_,_,_,_,_,_,rfl,m',by omega,by omega,j0,j1,by omega⟩⟩
  ·exact bj0 ⟨g,_,_,_,_,_,_,rfl,m',by omega,by omega,j0,j1,by omega⟩
theorem Q0 (c:cP prog w A E s κ Ok rk) {st0:SortSt} (hk:kindOf st0=κ) {x y o:Array Keyed}{i j mg p q lb:Nat} (ox:bP Ok x) (oy:bP Ok y) (sx:Sd rk x.toList) (sy:Sd rk y.toList) (y0:0 < y.size) (hf:∀ t ∈ x.toList,rk y[0]<=rk t) (g:Gq st0 st) (b:HB rk x y lb (i+1) (j+1) o)
  (hm:∀ (hj:j < y.size) t,t < i+1->t < x.size->Kr rk x t<=rk y[j]):wpS (model prog w) A E s (rH x y o (i+1) (j+1) mg p q) (HR rk x y lb st0) st:=by
 unfold rH
 obtain ⟨m,i0,i1,j0,j1,pr⟩:=b
 have hi':i < x.size:=by omega
 have hj:j < y.size:=by omega
 have m':=m.y1 hj (hm hj)
 simp only [Nat.add_sub_cancel]
 refine bi2 (dD hj ?_)
 by_cases he:(j == 1)=true
 ·rw [if_pos he]
  have he:j=1:=by simpa using he
  exact bj0 ⟨g,.inl ⟨_,_,_,_,_,_,_,rfl,m'.frst y0 hf he⟩⟩
 ·rw [if_neg he]
  have he:j ≠ 1:=by simpa using he
  refine bi2 (dD hi' (bi2 (mD c (g.kd.trans hk) (ox _ (bn1 hi')) oy (by omega) (by omega) (sy.up _ _ (by omega)) fun z k1 k2 k3=>?_)))
  dsimp only
  have ux:=sx.up 0 _ (bh7 x.size)
  have mk:=m'.yk k1 fun t p ht ht' hp hp' _=>by
   have a1:=k3 p hp hp'
   rw [mG,bq9,Nat.zero_add] at a1
   have a2:=ux t i (by omega) (by omega) hi'
   rw [cI (i:=i) hi'] at a2
   omega
  have km:∀ (hi:i < x.size) t,t < z->t < y.size->Kr rk y t<=rk x[i]:=fun _ t ht _=>by
   have a1:=k2 t ht
   rw [mG,bj8,Nat.zero_add] at a1
   omega
  by_cases hk0:j - z > 0
  ·rw [if_pos hk0]
   by_cases h1:(z == 1)=true
   ·rw [if_pos h1]
    have h1:z=1:=by simpa using h1
    exact bj0 ⟨g,.inl ⟨_,_,_,_,_,_,_,rfl,mk.frst y0 hf h1⟩⟩
   ·rw [if_neg h1]
    have h1:z ≠ 1:=by simpa using h1
    by_cases h0:(z == 0)=true
    ·rw [if_pos h0]
     have h0:z=0:=by simpa using h0
     exact bj0 ⟨g,.inl ⟨_,_,_,_,_,_,_,rfl,mk.done (.inr h0)⟩⟩
    ·rw [if_neg h0]
     have h0:z ≠ 0:=by simpa using h0
     exact P9 g ⟨mk,by omega,i1,by omega,by omega,by omega⟩ km
  ·rw [if_neg hk0]
   have e0:z=j:=by omega
   subst e0
   exact P9 g ⟨m',by omega,i1,by omega,by omega,by omega⟩ km
theorem Q2 (c:cP prog w A E s κ Ok rk) {st0:SortSt} (hk:kindOf st0=κ) {x y o:Array Keyed}{i j mg p q lb:Nat} (ox:bP Ok x) (oy:bP Ok y) (sx:Sd rk x.toList) (sy:Sd rk y.toList) (y0:0 < y.size) (hf:∀ t ∈ x.toList,rk y[0]<=rk t) (g:Gq st0 st) (b:HB rk x y lb i (j+1) o) :
  wpS (model prog w) A E s (rJ x y o i (j+1) mg p q) (HR rk x y lb st0) st:=by
 unfold rJ
 obtain ⟨m,i0,i1,j0,j1,pr⟩:=b
 have hj:j < y.size:=by omega
 simp only [Nat.add_sub_cancel]
 refine bi2 (rF g fun st4 q4=>bi2 (dD hj (bi2 (mD c (q4.kd.trans hk) (oy _ (bn1 hj)) ox (by omega) (by omega) (sx.up _ _ (by omega)) fun z k1 k2 k3=>?_))))
 dsimp only
 have uy:=sy.up 0 _ (bh7 y.size)
 have mk:=m.xk k1 fun t p ht ht' hp hp' _=>by
  have a1:=k3 p hp hp'
  rw [mF,bq9,Nat.zero_add] at a1
  have a2:=uy t j (by omega) (by omega) hj
  rw [cI (i:=j) hj] at a2
  omega
 have km:∀ (hj:j < y.size) t,t < z->t < x.size->Kr rk x t<=rk y[j]:=fun _ t ht _=>by
  have a1:=k2 t ht
  rw [mF,bj8,Nat.zero_add] at a1
  exact a1
 by_cases hk0:i - z > 0
 ·rw [if_pos hk0]
  by_cases he:(z == 0)=true
  ·rw [if_pos he]
   exact bj0 ⟨q4,.inl ⟨_,_,_,_,_,_,_,rfl,mk.done (.inl (by simpa using he))⟩⟩
  ·rw [if_neg he]
   have he:z ≠ 0:=by simpa using he
   obtain ⟨z2,rfl⟩:∃ z2,z=z2+1:=⟨z - 1,by omega⟩
   exact Q0 c hk ox oy sx sy y0 hf q4 ⟨mk,by omega,by omega,j0,j1,by omega⟩ km
 ·rw [if_neg hk0]
  have e0:z=i:=by omega
  subst e0
  obtain ⟨z2,rfl⟩:∃ z2,z=z2+1:=⟨z - 1,by omega⟩
  exact Q0 c hk ox oy sx sy y0 hf q4 ⟨m,i0,i1,j0,j1,pr⟩ km
theorem aG4 (c:cP prog w A E s κ Ok rk) {st0:SortSt} (hk:kindOf st0=κ) {x y o:Array Keyed}{i j mg p q lb:Nat} (ox:bP Ok x) (oy:bP Ok y) (sx:Sd rk x.toList) (sy:Sd rk y.toList) (y0:0 < y.size) (hf:∀ t ∈ x.toList,rk y[0]<=rk t) (g:Gq st0 st) (b:HB rk x y lb i j o) :
  wpS (model prog w) A E s (wV x y o i j mg p q) (HQ rk x y lb st0) st:=by
 unfold wV
 refine bq1 (I:=fun _=>HI rk x y lb st0) ?_ ?_ ⟨g,i,j,o,_,p,q,rfl,b⟩
 ·rintro t c3 st3 _ _ ⟨q3,i,j,o,mg,p,q,rfl,b3⟩
  obtain ⟨j3,rfl⟩:∃ j3,j=j3+1:=⟨j - 1,by have:=b3.j0; omega⟩
  dsimp only
  split
  ·exact bw7 (Q2 c hk ox oy sx sy y0 hf q3 b3) fun r _ hr=>by cases r <;> exact hr
  ·exact bw7 (Q2 c hk ox oy sx sy y0 hf q3 b3) fun r _ hr=>by cases r <;> exact hr
 ·rintro c3 st3 ⟨q3,i,j,o,mg,p,q,rfl,b3⟩
  exact⟨q3,.inr ⟨_,_,_,_,_,_,rfl,b3⟩⟩
theorem aG5 (c:cP prog w A E s κ Ok rk) {st0:SortSt} (hk:kindOf st0=κ) {x y o:Array Keyed}{i j mg n:Nat}{Q:wU->SortSt->Prop} (ox:bP Ok x) (oy:bP Ok y) (sx:Sd rk x.toList) (sy:Sd rk y.toList) (y0:0 < y.size) (hf:∀ t ∈ x.toList,rk y[0]<=rk t) (g:Gq st0 st) (b:HB rk x y n i j o)
  (h1:∀ r i' j' o' p q st',Gq st0 st'->e9 rk x y r->Q (some r,i',j',o',p,q) st') (h2:∀ i' j' o' p q st',Gq st0 st'->HB rk x y (n+1) i' j' o'->Q (none,i',j',o',p,q) st') :
  wpS (model prog w) A E s (wW x y o i j mg) Q st:=by
 have ux:Up rk x 0 x.size:=sx.up 0 _ (bh7 _)
 have uy:Up rk y 0 y.size:=sy.up 0 _ (bh7 _)
 unfold wW
 refine bq1 (I:=fun t c st'=>Gq st0 st'/\∃ i j o p q,c=(none,i,j,o,p,q)/\HB rk x y (n+t) i j o) ?_ ?_ ⟨g,i,j,o,0,0,rfl,b⟩
 ·rintro t c2 st2 _ ht ⟨q2,i',j',o,p,q,rfl,m,i0,i1,j0,j1,pr⟩
  obtain ⟨i2,rfl⟩:∃ i2,i'=i2+1:=⟨i' - 1,by omega⟩
  obtain ⟨j2,rfl⟩:∃ j2,j'=j2+1:=⟨j' - 1,by omega⟩
  simp only [Nat.add_sub_cancel]
  have hi:i2 < x.size:=by omega
  have hj:j2 < y.size:=by omega
  refine bi2 (dD hj (bi2 (dD hi (bi2 (c _ _ (oy _ (bn1 hj)) (ox _ (bn1 hi)) st2 _ (q2.kd.trans hk) ?_)))))
  by_cases hc:rk y[j2] < rk x[i2]
  ·rw [bh5 hc]
   dsimp only
   rw [if_pos rfl]
   have m':=m.x1 hi fun t ht _=>by
    have:=uy t j2 (by omega) (by omega) hj
    rw [cI hj] at this
    omega
   refine bi2 (dD hi ?_)
   by_cases he:(i2 == 0)=true
   ·rw [if_pos he]
    exact bj0 (h1 _ _ _ _ _ _ _ q2 (m'.done (.inl (by simpa using he))))
   ·rw [if_neg he]
    have he:i2 ≠ 0:=by simpa using he
    split
    ·exact bj0 (h2 _ _ _ _ _ _ q2 ⟨m',by omega,by omega,j0,j1,by omega⟩)
    ·exact bj0 ⟨q2,_,_,_,_,_,rfl,m',by omega,by omega,j0,j1,by omega⟩
  ·rw [bh2 hc]
   dsimp only
   rw [if_neg bj6]
   have m':=m.y1 hj fun t ht _=>by
    have:=ux t i2 (by omega) (by omega) hi
    rw [cI hi] at this
    omega
   refine bi2 (dD hj ?_)
   by_cases he:(j2 == 1)=true
   ·rw [if_pos he]
    exact bj0 (h1 _ _ _ _ _ _ _ q2 (m'.frst y0 hf (by simpa using he)))
   ·rw [if_neg he]
    have he:j2 ≠ 1:=by simpa using he
    split
    ·exact bj0 (h2 _ _ _ _ _ _ q2 ⟨m',i0,i1,by omega,by omega,by omega⟩)
    ·exact bj0 ⟨q2,_,_,_,_,_,rfl,m',i0,i1,by omega,by omega,by omega⟩
 ·rintro c2 st2 ⟨q2,i',j',o,p,q,rfl,m,i0,i1,j0,j1,pr⟩
  exact h2 _ _ _ _ _ _ q2 ⟨m,i0,i1,j0,j1,by omega⟩
theorem aG6 (c:cP prog w A E s κ Ok rk) (hk:kindOf st=κ) {x y:Array Keyed}{Q:Array Keyed->SortSt->Prop} (ox:bP Ok x) (oy:bP Ok y) (sx:Sd rk x.toList) (sy:Sd rk y.toList) (x0:0 < x.size) (y0:0 < y.size)
  (hf:∀ t ∈ x.toList,rk y[0]<=rk t) (hl:∀ u ∈ y.toList,rk u<=rk x[x.size - 1])
  (h:∀ r st',Gq st st'->e9 rk x y r->Q r st'):wpS (model prog w) A E s (wT x y) Q st:=by
 rw [aG3]
 refine bi2 (wpS_lift (bu5 ⟨rfl,bi2 (dD (by omega:x.size - 1 < x.size) ?_)⟩))
 have m0:MH rk x.toList y.toList (#[x[x.size - 1]]:Array Keyed).toList.reverse (x.size - 1) y.size:=by
  have mm:MH rk x.toList y.toList [] x.size y.size:=⟨by simp,by rw [bl8 (by simp),bk0]; exact sx,by rw [bl8 (by simp),bk0]; exact sy⟩
  have e:=oG (x:=x) (i:=x.size - 1) (by omega)
  rw [show x.size - 1+1=x.size by omega] at e
  have:=mm.ofx (Nat.sub_le x.size 1) fun t ht u hu=>?_
  ·rw [<- e] at this; simpa using this
  ·rw [<- e,bi1] at hu
   subst hu
   exact hl t (List.mem_of_mem_take ht)
 by_cases e1:(x.size - 1 == 0)=true
 ·rw [if_pos e1]
  exact bj0 (h _ st (Gq.refl st) (m0.done (.inl (by simpa using e1))))
 ·rw [if_neg e1]
  have e1:x.size - 1 ≠ 0:=by simpa using e1
  by_cases e2:(y.size == 1)=true
  ·rw [if_pos e2]
   exact bj0 (h _ st (Gq.refl st) (m0.frst y0 hf (by simpa using e2)))
  ·rw [if_neg e2]
   have e2:y.size ≠ 1:=by simpa using e2
   refine bi2 (wpS_get ?_)
   unfold P8
   refine bi2 (bw7 (bq1
    (I:=fun n c st'=>Gq st st'/\∃ i j o mg,c=(none,i,j,o,mg)/\HB rk x y (n+1) i j o)
    (Q:=fun c st'=>Gq st st'/\∃ r i j o mg,c=(some r,i,j,o,mg)/\e9 rk x y r) ?_ ?_ ⟨Gq.refl st,_,_,_,_,rfl,m0,by omega,by omega,by omega,by omega,by omega⟩) ?_)
   ·rintro n c1 st1 _ hn ⟨q1,i,j,o,mg,rfl,b⟩
    dsimp only
    refine bi2 (aG5 c hk ox oy sx sy y0 hf q1 b (fun r o' i' j' p q st' g md=>bj0 ⟨g,r,_,_,_,_,rfl,md⟩) fun i' j' o' p q st' g b'=>?_)
    refine bi2 (wpS_lift (bu5 ⟨rfl,?_⟩))
    refine bi2 (bw7 (aG4 c hk ox oy sx sy y0 hf g b') ?_)
    rintro c3 st3 ⟨q3,⟨r,i3,j3,o,mg,p,q,rfl,md⟩ | ⟨i3,j3,o,mg,p,q,rfl,b3⟩⟩
    ·exact bj0 ⟨q3,r,_,_,_,_,rfl,md⟩
    ·exact bi2 (rF q3 fun st4 q4=>bj0 ⟨q4,i3,j3,o,_,rfl,b3⟩)
   ·rintro c1 st1 ⟨q1,i,j,o,mg,rfl,b⟩
    have:=b.pr
    exact absurd this (by omega)
   ·rintro c1 st1 ⟨q1,r,i,j,o,mg,rfl,md⟩
    exact bj0 (h r _ q1 md)
end
theorem aG7 (i:Nat):mergeAt' i=(do
 let z <- get
 let (some (sa,na,pw),some (sb,nb,_)):=((pendingOf z)[i]?,(pendingOf z)[i+1]?) | unsupported "internal:list.sort.pending"
 set (SortSt.mk' (kindOf z) (arrOf z) (((pendingOf z).setIfInBounds i (sa,na+nb,pw)).eraseIdxIfInBounds (i+1)) (gallopOf z) (failedOf z))
 let some k <- kH false (<- elem' (arrOf z) sb) (arrOf z) sa na 0 | return false
 let (sa,na):=(sa+k,na - k)
 if na == 0 then return true
 let some nb <- kH true (<- elem' (arrOf z) (sa+na - 1)) (arrOf z) sb nb (nb - 1) | return false
 if nb == 0 then return true
 let x:=(arrOf z).extract sa sb
 let y:=(arrOf z).extract sb (sb+nb)
 let m <- if na<=nb then wP x y else wT x y
 modify fun z=>setArr z (m.toList.zipIdx.foldl (fun a (p,j)=>a.setIfInBounds (sa+j) p) (arrOf z))
 return (failedOf (<- get)).isNone):=rfl
variable {rk : Keyed → Int}
theorem aG8 {σ:Type}{M:Model}{A:Around}{E:Value->Shared->Prop}{s:Shared}{a b:σ}{Q:PUnit->σ->Prop} (h:Q ⟨⟩ a):wpS M A E s (set a:StateT σ Sem PUnit) Q b:=by
 unfold wpS; rw [StateT.run_set]; exact bh6 ⟨rfl,h⟩
theorem Q3 (o:Nat):∀ (m:List Keyed) (n:Nat) (a:Array Keyed) (t:Nat),o+n+m.length<=a.size->
  ((m.zipIdx n).foldl (fun a (p,j)=>a.setIfInBounds (o+j) p) a)[t]? = if o+n<=t/\t < o+n+m.length then m[t - (o+n)]? else a[t]?
 | [],n,a,t,_=>by
  show a[t]? = _
  rw [if_neg (fun z=>Nat.not_lt_of_ge z.1 z.2)]
 | p :: m,n,a,t,h=>by
  rw [List.zipIdx_cons,List.foldl_cons]
  have h':o+(n+1)+m.length<=(a.setIfInBounds (o+n) p).size:=by rw [Array.size_setIfInBounds]; simp at h; omega
  have ih:=Q3 o m (n+1) (a.setIfInBounds (o+n) p) t h'
  refine ih.trans ?_
  have hs:o+n < a.size:=by simp at h; omega
  rw [Array.getElem?_setIfInBounds]
  by_cases e:o+n=t
  ·subst e
   rw [if_neg (by omega),if_pos rfl,if_pos hs,if_pos (by simp),Nat.sub_self]; rfl
  ·rw [if_neg e]
   by_cases c:o+n<=t/\t < o+n+(p :: m).length
   ·rw [if_pos c,if_pos (by simp at c; omega)]
    rw [show t - (o+n)=(t - (o+(n+1)))+1 by omega]; rfl
   ·rw [if_neg c,if_neg (by simp at c ⊢; omega)]
theorem Q4 {a:Array Keyed}{lo hi:Nat} (u:Up rk a lo hi) (hh:hi<=a.size):Sd rk (a.extract lo hi).toList:=by
 unfold Sd
 rw [bn3]
 intro i j hi' hj hij
 have h2:lo+j < hi:=by simp at hj; omega
 have:=u (lo+i) (lo+j) (by omega) (by omega) h2
 rw [cI (by omega:lo+i < a.size),cI (by omega:lo+j < a.size)] at this
 simpa using this
theorem Q5 {a:Array Keyed}{lo mid hi:Nat} (u:Up rk a lo mid) (v:Up rk a mid hi) (h0:lo < mid) (h1:mid < hi) (h:Kr rk a (mid - 1)<=Kr rk a mid):Up rk a lo hi:=fun i j hi' hij hj=>by
 rcases bn2 j mid with z | z
 ·exact u i j hi' hij z
 ·rcases bn2 i mid with y | y
  ·have a1:=u i (mid - 1) hi' (by omega) (by omega)
   have a2:=v mid j (bh7 _) z hj
   omega
  ·exact v i j y hij hj
theorem Q6 {a:Array Keyed}{lo hi t:Nat} (h:t < hi - lo) (hh:hi<=a.size):Kr rk (a.extract lo hi) t=Kr rk a (lo+t):=by
 refine lA ?_
 rw [Array.getElem?_extract_of_lt (by omega)]
 exact (getElem?_pos a (lo+t) (by omega)).symm
section
variable {κ : SortKind} {a0 : Array Keyed} {pd : Array (Nat × Nat × Nat)} {st : SortSt} {prog : Program} {w : World} {A : Around} {E : Value → Shared → Prop} {s : Shared} {Ok : Keyed → Prop}
theorem aG9 {a m:Array Keyed}{p x e:Nat} (hpx:p<=x) (hxe:x<=e) (he:e<=a.size) (md:e9 rk (a.extract p x) (a.extract x e) m) :
  let r:=m.toList.zipIdx.foldl (fun a (q,j)=>a.setIfInBounds (p+j) q) a
  r.Perm a/\(∀ t,(t < p ∨ e<=t)->Kr rk r t=Kr rk a t)/\(∀ t t',p<=t->t<=t'->t' < e->Kr rk r t<=Kr rk r t')/\∀ t,p<=t->t < e->∃ t',p<=t'/\t' < e/\Kr rk r t=Kr rk a t':=by
 intro r
 have ml:m.toList.length=e - p:=by
  rw [md.1.length_eq]; simp; omega
 have g:∀ t,r[t]? = if p<=t/\t < e then m[t - p]? else a[t]?:=fun t=>by
  have:=Q3 p m.toList 0 a t (by omega)
  rw [show r=(m.toList.zipIdx 0).foldl (fun a (q,j)=>a.setIfInBounds (p+j) q) a from rfl,this]
  simp only [Nat.add_zero,ml,show p+(e - p)=e by omega,bq6]
 have ex:(a.extract p x).toList ++ (a.extract x e).toList=(a.toList.take e).drop p:=by
  rw [lD,lD,bx2,bx2,bx2]
  rw [show x=p+(x - p) by omega,<- List.drop_drop,show p+(x - p) - p=x - p by omega,show e - (p+(x - p))=(e - p) - (x - p) by omega]
  have:=bl4 (x - p) ((a.toList.drop p).take (e - p))
  rw [List.take_take,bx2,Nat.min_eq_left (by omega)] at this
  exact this
 have rl:r.toList=a.toList.take p ++ (m.toList ++ a.toList.drop e):=by
  apply List.ext_getElem?
  intro t
  rw [bq6,g]
  rcases bn2 t p with z | z
  ·rw [if_neg (by omega),bs9 (by simp; omega),List.getElem?_take_of_lt z,bq6]
  ·rw [bv4 (by simp; omega)]
   have lp:(a.toList.take p).length=p:=by simp; omega
   rw [lp]
   rcases bn2 t e with y | y
   ·rw [if_pos ⟨z,y⟩,bs9 (by omega),bq6]
   ·rw [if_neg (by omega),bv4 (by omega),ml,List.getElem?_drop,bq6]
    congr 1; omega
 have mp:m.toList.Perm ((a.toList.take e).drop p):=ex ▸ md.1
 refine⟨?_,fun t ht=>lA (by rw [g,if_neg (by omega)]),fun t t' h1 h2 h3=>?_,fun t h1 h2=>?_⟩
 ·refine Array.perm_iff_toList_perm.mpr ?_
  rw [rl]
  have:a.toList=a.toList.take p ++ ((a.toList.take e).drop p ++ a.toList.drop e):=by
   rw [wX _ (by omega:p<=e)]; exact (bl4 p _).symm
  conv=>rhs; rw [this]
  exact (mp.append_right _).append_left _
 ·have e1:Kr rk r t=Kr rk m (t - p):=lA (by rw [g,if_pos (by omega)])
  have e2:Kr rk r t'=Kr rk m (t' - p):=lA (by rw [g,if_pos (by omega)])
  rw [e1,e2]
  have ms:m.size=e - p:=by rw [<- ml]; simp
  exact md.2.up 0 m.size (bh7 _) (t - p) (t' - p) (by omega) (by omega) (by omega)
 ·have e1:Kr rk r t=Kr rk m (t - p):=lA (by rw [g,if_pos (by omega)])
  have ms:m.size=e - p:=by rw [<- ml]; simp
  have hm:t - p < m.size:=by omega
  have mm:m[t - p] ∈ (a.toList.take e).drop p:=mp.mem_iff.mp (by simp)
  obtain ⟨t',q1,q2,q3,q4⟩:=oF (rk:=rk) mm
  exact⟨t',q1,q2,by rw [e1,cI hm]; exact q4⟩
theorem aH0 (c:cP prog w A E s κ Ok rk) (o:bP Ok a0) (b:SB κ a0 pd st) {i sa na pw sb nb pw':Nat}{Q:Bool->SortSt->Prop} (e1:pd[i]? = some (sa,na,pw)) (e2:pd[i+1]? = some (sb,nb,pw')) (hs:sb=sa+na) (n0:0 < na) (m0:0 < nb) (hz:sb+nb<=a0.size)
  (u:Up rk (arrOf st) sa sb) (v:Up rk (arrOf st) sb (sb+nb))
  (h:∀ st',SB κ a0 ((pd.setIfInBounds i (sa,na+nb,pw)).eraseIdxIfInBounds (i+1)) st'->Up rk (arrOf st') sa (sb+nb)->(∀ t,(t < sa ∨ sb+nb<=t)->Kr rk (arrOf st') t=Kr rk (arrOf st) t)->Q true st'):wpS (model prog w) A E s (mergeAt' i) Q st:=by
 have sz:=b.sz
 rw [aG7]
 refine bi2 (wpS_get ?_)
 rw [b.pd,e1,e2]
 dsimp only
 refine bi2 (aG8 ?_)
 generalize hst:SortSt.mk' (kindOf st) (arrOf st) ((pd.setIfInBounds i (sa,na+nb,pw)).eraseIdxIfInBounds (i+1)) (gallopOf st) (failedOf st)=st1
 have b1:SB κ a0 ((pd.setIfInBounds i (sa,na+nb,pw)).eraseIdxIfInBounds (i+1)) st1:=by rw [<- hst]; exact⟨b.pm,b.kd,b.ok,rfl⟩
 have ar:arrOf st1=arrOf st:=by rw [<- hst]
 have oa:=b.all o
 have hsb:sb < (arrOf st).size:=by omega
 refine bi2 (dD hsb (bi2 (mD c b1.kd (oa _ (bn1 hsb)) oa n0 (by omega) (hs ▸ u) fun k k1 k2 k3=>?_)))
 dsimp only
 have k2':∀ t,sa<=t->t < sa+k->Kr rk (arrOf st) t<=Kr rk (arrOf st) sb:=fun t t1 t2=>by
  have:=k2 (t - sa) (by omega)
  rw [mF,bj8,show sa+(t - sa)=t by omega] at this
  rw [cI hsb]; exact this
 have k3':∀ t,sa+k<=t->t < sb->Kr rk (arrOf st) sb < Kr rk (arrOf st) t:=fun t t1 t2=>by
  have:=k3 (t - sa) (by omega) (by omega)
  rw [mF,bq9,show sa+(t - sa)=t by omega] at this
  rw [cI hsb]; omega
 by_cases ek:(na - k == 0)=true
 ·rw [if_pos ek]
  have ek:na - k=0:=by simpa using ek
  refine bj0 (h st1 b1 ?_ fun t _=>by rw [ar])
  rw [ar]
  exact Q5 u v (by omega) (by omega) (k2' (sb - 1) (by omega) (by omega))
 ·rw [if_neg ek]
  have ek:na - k ≠ 0:=by simpa using ek
  have el:sa+k+(na - k) - 1=sb - 1:=by omega
  rw [el]
  have hsl:sb - 1 < (arrOf st).size:=by omega
  refine bi2 (dD hsl (bi2 (mD c b1.kd (oa _ (bn1 hsl)) oa (by omega) (by omega) v fun l l1 l2 l3=>?_)))
  dsimp only
  have l2':∀ t,sb<=t->t < sb+l->Kr rk (arrOf st) t < Kr rk (arrOf st) (sb - 1):=fun t t1 t2=>by
   have:=l2 (t - sb) (by omega)
   rw [mG,bj8,show sb+(t - sb)=t by omega] at this
   rw [cI hsl]; exact this
  have l3':∀ t,sb+l<=t->t < sb+nb->Kr rk (arrOf st) (sb - 1)<=Kr rk (arrOf st) t:=fun t t1 t2=>by
   have:=l3 (t - sb) (by omega) (by omega)
   rw [mG,bq9,show sb+(t - sb)=t by omega] at this
   rw [cI hsl]; omega
  by_cases en:(l == 0)=true
  ·rw [if_pos en]
   have en:l=0:=by simpa using en
   subst en
   refine bj0 (h st1 b1 ?_ fun t _=>by rw [ar])
   rw [ar]
   exact Q5 u v (by omega) (by omega) (l3' sb (by omega) (by omega))
  ·rw [if_neg en]
   have en:l ≠ 0:=by simpa using en
   have sub:∀ p e,bP Ok ((arrOf st).extract p e):=fun p e z hz=>oa z (by
    have:z ∈ ((arrOf st).extract p e).toList:=Array.mem_toList_iff.mpr hz
    rw [lD] at this
    exact Array.mem_toList_iff.mp (List.mem_of_mem_take (List.mem_of_mem_drop this)))
   have sx:Sd rk ((arrOf st).extract (sa+k) sb).toList:=Q4 (fun i j h1 h2 h3=>u i j (by omega) h2 h3) (by omega)
   have sy:Sd rk ((arrOf st).extract sb (sb+l)).toList:=Q4 (fun i j h1 h2 h3=>v i j h1 h2 (by omega)) (by omega)
   have x0:0 < ((arrOf st).extract (sa+k) sb).size:=by simp; omega
   have y0:0 < ((arrOf st).extract sb (sb+l)).size:=by simp; omega
   have hf:∀ t ∈ ((arrOf st).extract (sa+k) sb).toList,rk ((arrOf st).extract sb (sb+l))[0]<=rk t:=fun t ht=>by
    rw [lD] at ht
    obtain ⟨t',q1,q2,q3,q4⟩:=oF (rk:=rk) ht
    rw [q4,<- cI (rk:=rk) y0,Q6 (by omega) (by omega)]
    exact Int.le_of_lt (k3' t' q1 q2)
   have hl:∀ t ∈ ((arrOf st).extract sb (sb+l)).toList,rk t<=rk ((arrOf st).extract (sa+k) sb)[((arrOf st).extract (sa+k) sb).size - 1]:=fun t ht=>by
    rw [lD] at ht
    obtain ⟨t',q1,q2,q3,q4⟩:=oF (rk:=rk) ht
    have e:((arrOf st).extract (sa+k) sb).size=sb - (sa+k):=by simp; omega
    rw [q4,<- cI (rk:=rk) (by omega),Q6 (by omega) (by omega),e,show sa+k+(sb - (sa+k) - 1)=sb - 1 by omega]
    exact Int.le_of_lt (l2' t' q1 q2)
   have fin:∀ (m:Array Keyed) (st2:SortSt),Gq st1 st2->e9 rk ((arrOf st).extract (sa+k) sb) ((arrOf st).extract sb (sb+l)) m->
     wpS (model prog w) A E s (do modify (fun z=>setArr z (m.toList.zipIdx.foldl (fun a (p,j)=>a.setIfInBounds (sa+k+j) p) (arrOf z))); return (failedOf (<- get)).isNone) Q st2:=fun m st2 g md=>by
    have b2:SB κ a0 ((pd.setIfInBounds i (sa,na+nb,pw)).eraseIdxIfInBounds (i+1)) st2:=⟨by rw [g.ar]; exact b1.pm,g.kd.trans b1.kd,g.ok.trans b1.ok,g.pd.trans b1.pd⟩
    have a2:arrOf st2=arrOf st:=g.ar.trans ar
    obtain ⟨r1,r2,r3,r4⟩:=aG9 (by omega) (by omega) (by omega) md
    generalize hr:m.toList.zipIdx.foldl (fun a (q,j)=>a.setIfInBounds (sa+k+j) q) (arrOf st)=r at r1 r2 r3 r4
    refine bi2 (wpS_modify (bi2 (wpS_get (bj0 ?_))))
    have b3:=b2.put (xs:=m.toList.zipIdx.foldl (fun a (q,j)=>a.setIfInBounds (sa+k+j) q) (arrOf st2)) (by rw [a2,hr]; exact r1)
    have er:arrOf (setArr st2 (m.toList.zipIdx.foldl (fun a (q,j)=>a.setIfInBounds (sa+k+j) q) (arrOf st2)))=r:=by rw [<- hr,a2]
    have tr:(failedOf (setArr st2 (m.toList.zipIdx.foldl (fun a (q,j)=>a.setIfInBounds (sa+k+j) q) (arrOf st2)))).isNone=true:=by rw [b3.ok]; rfl
    rw [tr]
    refine h _ b3 (fun i j hi hij hj=>?_) fun t ht=>?_
    ·rw [er]
     have bl:∀ t,sa<=t->t < sa+k->∀ t',sa+k<=t'->t' < sb+l->Kr rk (arrOf st) t<=Kr rk (arrOf st) t':=fun t t1 t2 t' t3 t4=>by
      rcases bn2 t' sb with z | z
      ·exact u t t' t1 (by omega) z
      ·have a1:=k2' t t1 t2
       have a2:=v sb t' (bh7 _) z (by omega)
       omega
     have br:∀ t,sb+l<=t->t < sb+nb->∀ t',sa+k<=t'->t' < sb+l->Kr rk (arrOf st) t'<=Kr rk (arrOf st) t:=fun t t1 t2 t' t3 t4=>by
      rcases bn2 t' sb with z | z
      ·have a1:=u t' (sb - 1) (by omega) (by omega) (by omega)
       have a2:=l3' t t1 t2
       omega
      ·exact v t' t z (by omega) t2
     have blr:∀ t,sa<=t->t < sa+k->∀ t',sb+l<=t'->t' < sb+nb->Kr rk (arrOf st) t<=Kr rk (arrOf st) t':=fun t t1 t2 t' t3 t4=>by
      have a1:=bl t t1 t2 (sb - 1) (by omega) (by omega)
      have a2:=l3' t' t3 t4
      omega
     rcases bn2 i (sa+k) with z | z
     ·rw [r2 i (.inl z)]
      rcases bn2 j (sa+k) with y | y
      ·rw [r2 j (.inl y)]; exact u i j hi hij (by omega)
      ·rcases bn2 j (sb+l) with x | x
       ·obtain ⟨t',q1,q2,q3⟩:=r4 j y x
        rw [q3]; exact bl i hi z t' q1 q2
       ·rw [r2 j (.inr x)]; exact blr i hi z j x hj
     ·rcases bn2 j (sb+l) with x | x
      ·exact r3 i j z hij x
      ·rw [r2 j (.inr x)]
       rcases bn2 i (sb+l) with y | y
       ·obtain ⟨t',q1,q2,q3⟩:=r4 i z y
        rw [q3]; exact br j x hj t' q1 q2
       ·rw [r2 i (.inr y)]; exact v i j (by omega) hij hj
    ·rw [er]; exact r2 t (by omega)
   by_cases hle:na - k<=l
   ·rw [if_pos hle]
    exact bi2 (aG2 c b1.kd (sub _ _) (sub _ _) sx sy x0 y0 hf hl fun m st2 g md=>fin m st2 g md)
   ·rw [if_neg hle]
    exact bi2 (aG6 c b1.kd (sub _ _) (sub _ _) sx sy x0 y0 hf hl fun m st2 g md=>fin m st2 g md)
end
def Ch:Nat->List (Nat × Nat)->Nat->Prop
 | a,[],b=>a=b
 | a,(p,n) :: r,b=>p=a/\0 < n/\Ch (a+n) r b
theorem Ch.split:∀ {l l':List (Nat × Nat)}{a b:Nat},Ch a (l ++ l') b->∃ m,Ch a l m/\Ch m l' b
 | [],_,a,_,h=>⟨a,rfl,h⟩
 | (p,n) :: l,l',a,b,h=>by
  obtain ⟨h1,h2,h3⟩:=h
  obtain ⟨m,q1,q2⟩:=Ch.split h3
  exact⟨m,⟨h1,h2,q1⟩,q2⟩
theorem Ch.join:∀ {l l':List (Nat × Nat)}{a m b:Nat},Ch a l m->Ch m l' b->Ch a (l ++ l') b
 | [],_,a,m,_,h,h'=>by cases (show a=m from h); exact h'
 | (p,n) :: l,l',a,m,b,h,h'=>⟨h.1,h.2.1,Ch.join h.2.2 h'⟩
theorem Ch.len:∀ {l:List (Nat × Nat)}{a b:Nat},Ch a l b->a+l.length<=b
 | [],a,b,h=>by cases (show a=b from h); simp
 | (p,n) :: l,a,b,h=>by
  have:=Ch.len h.2.2
  have:=h.2.1
  simp; omega
theorem Ch.mem:∀ {l:List (Nat × Nat)}{a b:Nat}{r:Nat × Nat},Ch a l b->r ∈ l->a<=r.1/\r.1+r.2<=b/\0 < r.2
 | (p,n) :: l,a,b,r,h,hr=>by
  obtain ⟨h1,h2,h3⟩:=h
  have hb:=Ch.len h3
  rcases bh9.mp hr with e | e
  ·subst e
   have h1:p=a:=h1
   refine⟨?_,?_,h2⟩
   ·show a<=p; omega
   ·show p+n<=b; omega
  ·have:=Ch.mem h3 e
   exact⟨by omega,this.2.1,this.2.2⟩
def sk (pd:Array (Nat × Nat × Nat)):List (Nat × Nat):=pd.toList.map fun r=>(r.1,r.2.1)
theorem rM (pd:Array (Nat × Nat × Nat)):(sk pd).length=pd.size:=by simp [sk]
structure Rn (rk:Keyed->Int) (a:Array Keyed) (l:List (Nat × Nat)) (lo:Nat):Prop where
 ch:Ch 0 l lo
 up:∀ r ∈ l,Up rk a r.1 (r.1+r.2)
variable {rk : Keyed → Int} {κ : SortKind} {a0 : Array Keyed} {pd : Array (Nat × Nat × Nat)} {st : SortSt} {prog : Program} {w : World} {A : Around} {E : Value → Shared → Prop} {s : Shared} {Ok : Keyed → Prop}
theorem Rn.same {a b:Array Keyed}{l:List (Nat × Nat)}{lo:Nat} (h:Rn rk a l lo) (e:∀ t,t < lo->Kr rk b t=Kr rk a t):Rn rk b l lo:=⟨h.ch,fun r hr i j hi hij hj=>by
 have:=(h.ch.mem hr).2.1
 rw [e i (by omega),e j (by omega)]
 exact h.up r hr i j hi hij hj⟩
theorem Q7 (c:cP prog w A E s κ Ok rk) (o:bP Ok a0) (b:SB κ a0 pd st) {i lo:Nat}{Q:Bool->SortSt->Prop} (hi:i+1 < pd.size) (hz:lo<=a0.size) (rn:Rn rk (arrOf st) (sk pd) lo)
  (h:∀ pd' st',SB κ a0 pd' st'->pd'.size+1=pd.size->Rn rk (arrOf st') (sk pd') lo->(∀ t,lo<=t->Kr rk (arrOf st') t=Kr rk (arrOf st) t)->Q true st'):wpS (model prog w) A E s (mergeAt' i) Q st:=by
 obtain ⟨⟨sa,na,pw⟩,e1⟩:∃ r,pd[i]? = some r:=⟨pd[i],getElem?_pos pd i (by omega)⟩
 obtain ⟨⟨sb,nb,pw'⟩,e2⟩:∃ r,pd[i+1]? = some r:=⟨pd[i+1],getElem?_pos pd (i+1) hi⟩
 have d1:pd.toList=pd.toList.take i ++ (sa,na,pw) :: (sb,nb,pw') :: pd.toList.drop (i+2):=by
  have hl:i < pd.toList.length:=by simp; omega
  have hl2:i+1 < pd.toList.length:=by simpa using hi
  have g1:pd.toList[i]=(sa,na,pw):=by rw [getElem?_pos pd i (by omega)] at e1; simpa using e1
  have g2:pd.toList[i+1]=(sb,nb,pw'):=by rw [getElem?_pos pd (i+1) hi] at e2; simpa using e2
  have:=bl4 i pd.toList
  rw [bt0 hl,bt0 hl2,g1,g2] at this
  exact this.symm
 have li:(pd.toList.take i).length=i:=by simp; omega
 have d2:((pd.setIfInBounds i (sa,na+nb,pw)).eraseIdxIfInBounds (i+1)).toList=pd.toList.take i ++ (sa,na+nb,pw) :: pd.toList.drop (i+2):=by
  have e:((pd.setIfInBounds i (sa,na+nb,pw)).eraseIdxIfInBounds (i+1)).toList=(pd.toList.set i (sa,na+nb,pw)).eraseIdx (i+1):=by
   unfold Array.eraseIdxIfInBounds
   rw [dif_pos (by rw [Array.size_setIfInBounds]; exact hi),Array.toList_eraseIdx,Array.toList_setIfInBounds]
  rw [e]
  conv=>lhs; rw [d1]
  rw [List.set_append_right _ _ (by omega),li,Nat.sub_self,List.set_cons_zero,List.eraseIdx_append_of_length_le (by omega),li,show i+1 - i=1 by omega]
  rfl
 have k1:sk pd=(pd.toList.take i).map (fun r=>(r.1,r.2.1)) ++ (sa,na) :: (sb,nb) :: (pd.toList.drop (i+2)).map (fun r=>(r.1,r.2.1)):=by
  unfold sk; conv=>lhs; rw [d1]
  simp
 have k2:sk ((pd.setIfInBounds i (sa,na+nb,pw)).eraseIdxIfInBounds (i+1))=(pd.toList.take i).map (fun r=>(r.1,r.2.1)) ++ (sa,na+nb) :: (pd.toList.drop (i+2)).map (fun r=>(r.1,r.2.1)):=by
  unfold sk; rw [d2]
  simp
 have ch:=rn.ch
 rw [k1] at ch
 obtain ⟨m,c1,c2⟩:=ch.split
 obtain ⟨f1,f2,f3,f4,f5⟩:=c2
 have f1:sa=m:=f1
 have f3:sb=m+na:=f3
 have up:=rn.up
 rw [k1] at up
 have lo2:=f5.len
 refine aH0 c o b e1 e2 (by omega) f2 f4 (by omega) (by have:=up (sa,na) (by simp); rw [f3,<- f1]; exact this) (up (sb,nb) (by simp)) fun st' b' u' fr=>h _ st' b' ?_ ⟨?_,?_⟩ fun t ht=>fr t (by omega)
 ·rw [<- rM,<- rM,k1,k2]; simp; omega
 ·rw [k2]
  refine c1.join ⟨f1,by omega,?_⟩
  rw [<- Nat.add_assoc]; exact f5
 ·intro r hr
  rw [k2] at hr
  rcases bk4.mp hr with z | z
  ·intro p q h1 h2 h3
   have:=(c1.mem z).2.1
   rw [fr p (by omega),fr q (by omega)]
   exact up r (bl6 _ z) p q h1 h2 h3
  ·rcases bh9.mp z with z | z
   ·subst z
    show Up rk (arrOf st') sa (sa+(na+nb))
    rw [show sa+(na+nb)=sb+nb by omega]; exact u'
   ·intro p q h1 h2 h3
    have:=(f5.mem z).1
    rw [fr p (by omega),fr q (by omega)]
    exact up r (bl0 _ (bi7 _ (bi7 _ z))) p q h1 h2 h3
abbrev RS:=Option Unit × Nat
def Q8 (sz pw:Nat):StateT SortSt Sem (Option Unit × Unit):=forIn [0:sz] ((none,()):Option Unit × Unit) fun _ _=>do
 let z <- get
 match (if (pendingOf z).size > 1 then (pendingOf z)[(pendingOf z).size - 2]? else none) with
 | some (_,_,o)=>if o<=pw then pure (.done (none,())) else do
   let q <- mergeAt' ((pendingOf z).size - 2)
   if (!q)=true then pure (.done (some (),())) else pure (.yield (none,()))
 | _=>pure (.done (none,()))
def jn (sz lo n:Nat):StateT SortSt Sem (ForInStep RS):=do
 let z <- get
 match (pendingOf z).back? with
 | some (s1,n1,_)=>do
  let r <- Q8 sz (power' sz (2 * s1+n1) (2 * s1+n1+n1+n) sz)
  match r.1 with
  | some u=>pure (.done (some u,lo))
  | none=>do
   modify fun s=>setPending s ((pendingOf s).modify ((pendingOf s).size - 1) fun x=>(x.1,x.2.1,power' sz (2 * s1+n1) (2 * s1+n1+n1+n) sz))
   modify fun s=>setPending s ((pendingOf s).push (lo,n,0))
   pure (.yield (none,lo+n))
 | _=>do
  modify fun s=>setPending s ((pendingOf s).push (lo,n,0))
  pure (.yield (none,lo+n))
def Q9 (sz mr lo:Nat):StateT SortSt Sem (ForInStep RS):=if lo >= sz then pure (.done (none,lo)) else do
 match <- countRun' lo (sz - lo) with
 | some n=>
  if n < mr then
   liftM (rule "list.sort.binary-insertion")
   let q <- binarySort' lo (min (sz - lo) mr) n
   if (!q)=true then pure (.done (some (),lo)) else jn sz lo (min (sz - lo) mr)
  else jn sz lo n
 | _=>pure (.done (some (),lo))
def R3 (sz:Nat):StateT SortSt Sem (Option Unit × Unit):=forIn [0:sz] ((none,()):Option Unit × Unit) fun _ _=>do
 let z <- get
 if (pendingOf z).size<=1 then pure (.done (none,())) else do
  let q <- mergeAt' (if ((if (pendingOf z).size - 2 > 0 then (pendingOf z)[(pendingOf z).size - 2 - 1]?.map (·.2.1) else none).any (· < ((pendingOf z)[(pendingOf z).size - 2+1]?.elim 0 (·.2.1))))=true then (pendingOf z).size - 2 - 1 else (pendingOf z).size - 2)
  if (!q)=true then pure (.done (some (),())) else pure (.yield (none,()))
theorem aH1:sortRuns'=(do
 let z <- get
 let r <- (forIn [0:(arrOf z).size] ((none,0):RS) fun _ r=>Q9 (arrOf z).size (minRun' (arrOf z).size (arrOf z).size 0) r.2)
 match r.1 with
 | some u=>pure u
 | none=>do
  let q <- R3 (arrOf z).size
  match q.1 with
  | some u=>pure u
  | none=>pure ()):=by kernel_rfl
theorem R4 {lo nn:Nat} (n1:0 < nn) {pd:Array (Nat × Nat × Nat)}{a:Array Keyed} (r:Rn rk a (sk pd) lo) (u:Up rk a lo (lo+nn)):Rn rk a (sk (pd.push (lo,nn,0))) (lo+nn):=by
 have e:sk (pd.push (lo,nn,0))=sk pd ++ [(lo,nn)]:=by simp [sk]
 refine⟨by rw [e]; exact r.ch.join ⟨rfl,n1,rfl⟩,fun q hq=>?_⟩
 rw [e] at hq
 rcases bk4.mp hq with z | z
 ·exact r.up q z
 ·rw [bi1] at z
  subst z
  exact u
theorem R5 (c:cP prog w A E s κ Ok rk) (o:bP Ok a0) (b:SB κ a0 pd st) {lo n:Nat}{Q:ForInStep RS->SortSt->Prop} (n1:1<=n) (n2:lo+n<=a0.size) (rn:Rn rk (arrOf st) (sk pd) lo) (u:Up rk (arrOf st) lo (lo+n))
  (h:∀ pd' st',SB κ a0 pd' st'->Rn rk (arrOf st') (sk pd') (lo+n)->Q (.yield (none,lo+n)) st'):wpS (model prog w) A E s (jn a0.size lo n) Q st:=by
 unfold jn
 refine bi2 (wpS_get ?_)
 rw [b.pd]
 cases hb:pd.back? with
 | none=>exact bi2 (wpS_modify (bj0 (h (pd.push (lo,n,0)) _ ⟨b.pm,b.kd,b.ok,by show (pendingOf st).push _=_; rw [b.pd]⟩ (R4 n1 rn u))))
 | some q=>
  obtain ⟨s1,m1,q3⟩:=q
  dsimp only
  generalize power' a0.size (2 * s1+m1) (2 * s1+m1+m1+n) a0.size=pw
  unfold Q8
  refine bi2 (bw7 (bq1
   (I:=fun _ r st'=>r=(none,())/\∃ pd,SB κ a0 pd st'/\Rn rk (arrOf st') (sk pd) lo/\Up rk (arrOf st') lo (lo+n))
   (Q:=fun r st'=>r=(none,())/\∃ pd,SB κ a0 pd st'/\Rn rk (arrOf st') (sk pd) lo/\Up rk (arrOf st') lo (lo+n)) ?_ (fun _ _ z=>z) ⟨rfl,pd,b,rn,u⟩) ?_)
  ·rintro t r st4 _ ht ⟨rfl,pd4,b4,r4,u4⟩
   refine bi2 (wpS_get ?_)
   rw [b4.pd]
   cases ho:(if pd4.size > 1 then pd4[pd4.size - 2]? else none) with
   | none=>exact bj0 ⟨rfl,pd4,b4,r4,u4⟩
   | some z=>
    obtain ⟨z1,z2,z3⟩:=z
    have h1:pd4.size > 1:=by
     by_cases y:pd4.size > 1
     ·exact y
     ·rw [if_neg y] at ho; cases ho
    dsimp only
    by_cases hp:z3<=pw
    ·rw [if_pos hp]
     exact bj0 ⟨rfl,pd4,b4,r4,u4⟩
    ·rw [if_neg hp]
     refine bi2 (Q7 c o b4 (by omega) (by omega) r4 fun pd5 st5 b5 _ r5 f5=>?_)
     exact bj0 ⟨rfl,pd5,b5,r5,fun i j hi hij hj=>by rw [f5 i hi,f5 j (by omega)]; exact u4 i j hi hij hj⟩
  ·rintro r st4 ⟨rfl,pd4,b4,r4,u4⟩
   refine bi2 (wpS_modify (bi2 (wpS_modify (bj0 ?_))))
   have e:sk (pd4.modify (pd4.size - 1) fun x=>(x.1,x.2.1,pw))=sk pd4:=by
    unfold sk
    rw [Array.toList_modify]
    apply List.ext_getElem?
    intro t
    rw [bj5,bj5,List.getElem?_modify]
    cases pd4.toList[t]? with
    | none=>simp
    | some v=>by_cases y:pd4.size - 1=t <;> simp [y]
   refine h ((pd4.modify (pd4.size - 1) fun x=>(x.1,x.2.1,pw)).push (lo,n,0)) _ ⟨b4.pm,b4.kd,b4.ok,?_⟩ (R4 n1 (by rw [e]; exact r4) u4)
   show ((pendingOf st4).modify ((pendingOf st4).size - 1) fun x=>(x.1,x.2.1,pw)).push _=_
   rw [b4.pd]
theorem aH2 (c:cP prog w A E s κ Ok rk) (o:bP Ok a0) (b:SB κ a0 #[] st) {Q:Unit->SortSt->Prop} (h2:1<=a0.size)
  (h:∀ st',(arrOf st').Perm a0->failedOf st'=none->Up rk (arrOf st') 0 a0.size->Q () st'):wpS (model prog w) A E s sortRuns' Q st:=by
 rw [aH1]
 refine bi2 (wpS_get ?_)
 rw [b.sz]
 generalize minRun' a0.size a0.size 0=mr
 refine bi2 (bw7 (bq1
  (I:=fun x r st'=>∃ lo pd,r=(none,lo)/\x<=lo/\lo<=a0.size/\SB κ a0 pd st'/\Rn rk (arrOf st') (sk pd) lo)
  (Q:=fun r st'=>∃ pd,r=(none,a0.size)/\SB κ a0 pd st'/\Rn rk (arrOf st') (sk pd) a0.size) ?_ ?_ ⟨0,#[],rfl,bh7 _,bn5 _,b,⟨rfl,fun r hr=>absurd hr (by simp [sk])⟩⟩) ?_)
 ·rintro x r st1 _ hx ⟨lo,pd,rfl,xl,lz,b1,rn⟩
  unfold Q9
  dsimp only
  by_cases hd:lo >= a0.size
  ·rw [if_pos hd]
   have e:lo=a0.size:=by omega
   subst e
   exact bj0 ⟨pd,rfl,b1,rn⟩
  ·rw [if_neg hd]
   refine bi2 (aF5 c o b1 (by omega) (by omega) fun n st2 b2 n1 n2 u2 l2=>?_)
   have rn2:=rn.same l2
   dsimp only
   by_cases hmr:n < mr
   ·rw [if_pos hmr]
    refine bi2 (wpS_lift (bu5 ⟨rfl,?_⟩))
    refine bi2 (aF6 c o b2 (by omega) (by omega) u2 fun st3 b3 u3 l3=>?_)
    rw [if_neg (by decide)]
    exact R5 c o b3 (by omega) (by omega) (rn2.same l3) u3 fun pd' st' b' r'=>⟨_,pd',rfl,by omega,by omega,b',r'⟩
   ·rw [if_neg hmr]
    exact R5 c o b2 n1 (by omega) rn2 u2 fun pd' st' b' r'=>⟨lo+n,pd',rfl,by omega,by omega,b',r'⟩
 ·rintro r st1 ⟨lo,pd,rfl,xl,lz,b1,rn⟩
  have e:lo=a0.size:=by omega
  subst e
  exact⟨pd,rfl,b1,rn⟩
 ·rintro r st1 ⟨pd,rfl,b1,rn⟩
  dsimp only
  unfold R3
  refine bi2 (bw7 (bq1
   (I:=fun t r st'=>r=(none,())/\∃ pd,SB κ a0 pd st'/\Rn rk (arrOf st') (sk pd) a0.size/\(pd.size+t<=a0.size ∨ pd.size<=1))
   (Q:=fun r st'=>r=(none,())/\∃ pd,SB κ a0 pd st'/\Rn rk (arrOf st') (sk pd) a0.size/\pd.size<=1) ?_ ?_ ⟨rfl,pd,b1,rn,.inl (by have:=rn.ch.len; rw [rM] at this; omega)⟩) ?_)
  ·rintro t r st2 _ ht ⟨rfl,pd,b2,rn2,pr⟩
   refine bi2 (wpS_get ?_)
   rw [b2.pd]
   by_cases h1:pd.size<=1
   ·rw [if_pos h1]
    exact bj0 ⟨rfl,pd,b2,rn2,h1⟩
   ·rw [if_neg h1]
    refine bi2 (Q7 c o b2 ?_ (bh7 _) rn2 fun pd' st3 b3 sz3 rn3 _=>?_)
    ·split <;> split <;> omega
    ·exact bj0 ⟨rfl,pd',b3,rn3,by omega⟩
  ·rintro r st2 ⟨rfl,pd,b2,rn2,pr⟩
   exact⟨rfl,pd,b2,rn2,by omega⟩
  ·rintro r st2 ⟨rfl,pd,b2,rn2,pr⟩
   refine bj0 (h st2 b2.pm b2.ok ?_)
   have ch:=rn2.ch
   have up:=rn2.up
   rw [<- rM] at pr
   cases e:sk pd with
   | nil=>rw [e] at ch; exact absurd (show 0=a0.size from ch) (by omega)
   | cons r l=>
    rw [e] at ch up pr
    have el:l = []:=List.eq_nil_of_length_eq_zero (by have:=pr; rw [bm5] at this; omega)
    subst el
    obtain ⟨p,n⟩:=r
    obtain ⟨q1,q2,q3⟩:=ch
    have q1:p=0:=q1
    have q3:0+n=a0.size:=q3
    subst q1
    have:=up (0,n) (by simp)
    rw [<- q3]; exact this
end SO
namespace L2
open PySem PySem.Spec PyProof.Rows SO
abbrev dO (h:Heap) (a:Addr) (vs:List Value):Heap:=((h.update a (Obj.mapSeq fun _=>#[])).push (seqObj "tuple" vs.toArray 0)).push (seqObj "list" #[] 0)
abbrev fP (h:Heap) (vs:List Value):Heap:=((h.push (seqObj "list" #[] 0)).update h.objs.size (Obj.mapSeq (· ++ vs.toArray))).push (seqObj "list" vs.toArray 0)
theorem aH3 {h:Heap}{vs:List Value}{b:Addr}{o:Obj} (e:h.get? b=some o):(fP h vs).get? b=some o:=by
 have l:=bi4 e
 refine bh1 _ ?_
 rw [Heap.get?_update_ne _ _ _ _ (bk6 l)]
 exact bh1 _ e
theorem R6 {h:Heap}{vs:List Value}{a b:Addr}{o:Obj} (hb:b ≠ a) (e:h.get? b=some o):(dO h a vs).get? b=some o:=by
 refine bh1 _ (bh1 _ ?_)
 rw [Heap.get?_update_ne _ _ _ _ hb]; exact e
theorem R7 {prog:Program}{w:World}{A:Around}{E:Value->Shared->Prop}{s:Shared}{a:Addr}{vs:List Value}{n:Nat}{P:PySem.Fin->Shared->Prop}{κ:SortKind}{Ok:Keyed->Prop}{rk:Keyed->Int}
  (e:s.heap.get? a=some (seqObj "list" vs.toArray n)) (h2:2<=vs.length) (big:vs.length<=sizeLine)
  (hk:∀ Q:SortKind->Shared->Prop,Q κ { s with heap:=dO s.heap a vs }->wpAny (model prog w) A (keyKind' vs.toArray) Q E { s with heap:=dO s.heap a vs })
  (c:cP prog w A E { s with heap:=dO s.heap a vs } κ Ok rk) (o:∀ v ∈ vs,Ok (v,v))
  (q:∀ out:List Value,out.Perm vs->out.Pairwise (fun u v=>rk (u,u)<=rk (v,v))->P (.done (.ret .none)) { s with heap:=sortedHeap s.heap a vs out.toArray }):wpAny (model prog w) A (Builtin.«list.sort» ⟨[.ref a],[]⟩) P E s:=by
 have la:=bi4 e
 have cc : ¬ vs.toArray.size < 2:=by simpa using h2
 obtain ⟨k,ek⟩:∃ k,(s.heap.update a (Obj.mapSeq fun _=>#[])).get? a=some (seqObj "list" #[] k):=⟨_,get?_update_seq e fun _=>#[]⟩
 have there:(dO s.heap a vs).get? a=some (seqObj "list" #[] k):=bh1 _ (bh1 _ ek)
 rw [list_sort_plain]
 apply bh0
 apply listItems_at e rfl
 apply bh0
 refine listUpdate_at e rfl ?_ (by simpa using big) (bn5 _)
 apply bh0
 apply seqEpoch_at ek rfl
 apply bh0
 refine wpAny_newTuple ?_ big
 apply bh0
 refine wpAny_newList ?_ (bn5 _)
 apply bp7
 simp only [cc,bq8]
 apply bh0
 refine hk _ ?_
 have zl:(vs.toArray.zip vs.toArray).toList=vs.zip vs:=by simp
 apply bh0
 refine bo3 (aH2 (a0:=vs.toArray.zip vs.toArray) (Q:=fun _ st'=>(arrOf st').Perm (vs.toArray.zip vs.toArray)/\failedOf st'=none/\Up rk (arrOf st') 0 (vs.toArray.zip vs.toArray).size) c (fun x hx=>?_) ⟨Array.Perm.refl _,rfl,rfl,rfl⟩ (by simp; omega) fun st' a1 a2 a3=>⟨a1,a2,a3⟩) ?_ fun _ _ z=>z
 ·have hx':x ∈ vs.zip vs:=by rw [<- zl]; exact Array.mem_toList_iff.mpr hx
  obtain ⟨y1,y2⟩:=mem_zip_self hx'
  have:=o x.1 y2
  have ex:x=(x.1,x.1):=Prod.ext rfl y1.symm
  rw [ex]; exact this
 ·rintro ⟨⟨⟩,st'⟩ s' ⟨rfl,pm,ok,up⟩
  have lp:(arrOf st').toList.Perm (vs.zip vs):=by rw [<- zl]; exact Array.perm_iff_toList_perm.mp pm
  have out:(arrOf st').map (·.2)=((arrOf st').toList.map (·.2)).toArray:=by apply Array.toList_inj.mp; rw [Array.toList_map]
  have op:((arrOf st').toList.map (·.2)).Perm vs:=by
   have:=lp.map (·.2)
   rw [pX] at this; exact this
  have sz:(arrOf st').size=vs.length:=by rw [pm.size_eq]; simp
  dsimp only
  apply bh0
  apply seqEpoch_at there rfl
  apply bh0
  refine listUpdate_at there rfl ?_ (bn5 _) (by rw [Array.size_map,sz]; exact Nat.le_succ_of_le big)
  rw [ok]
  simp only [bne_self_eq_false,bk7,bq8]
  refine bh6 ?_
  have hq:=q _ op ?_
  ·rw [<- out] at hq; exact hq
  ·rw [bs1,bn3]
   intro i j hi hj hij
   have hi':i < (arrOf st').size:=by simpa using hi
   have hj':j < (arrOf st').size:=by simpa using hj
   have h1:=up i j (bn5 _) (bp9 hij) (by simp; omega)
   rw [cI hi',cI hj'] at h1
   have dg:∀ x ∈ (arrOf st').toList,(x.2,x.2)=x:=fun x hx=>Prod.ext (mem_zip_self (lp.mem_iff.mp hx)).1.symm rfl
   rw [dg _ (bs7 hi),dg _ (bs7 hj)]
   simpa using h1
theorem aH4 {prog:Program}{w:World}{A:Around}{E:Value->Shared->Prop}{s:Shared}{l:Addr}{vs:List Value}{Q:Value->Shared->Prop}{κ:SortKind}{Ok:Keyed->Prop}{rk:Keyed->Int}
  (hl:s.heap.IsList l vs.toArray) (h2:2<=vs.length) (big:vs.length<=sizeLine)
  (hk:∀ (A:Around) (E:Value->Shared->Prop) (Q:SortKind->Shared->Prop),Q κ { s with heap:=dO (fP s.heap vs) (s.heap.objs.size+1) vs }->wpAny (model prog w) A (keyKind' vs.toArray) Q E { s with heap:=dO (fP s.heap vs) (s.heap.objs.size+1) vs })
  (c:∀ (A:Around) (E:Value->Shared->Prop),cP prog w A E { s with heap:=dO (fP s.heap vs) (s.heap.objs.size+1) vs } κ Ok rk) (o:∀ v ∈ vs,Ok (v,v))
  (q:∀ out:List Value,out.Perm vs->out.Pairwise (fun u v=>rk (u,u)<=rk (v,v))->Q (.ref (s.heap.objs.size+1)) { s with heap:=sortedAll s.heap vs out.toArray }):wpAny (model prog w) A (call (.builtin "sorted") [.ref l]) Q E s:=by
 apply Calls.call_function_entry kind_sorted plain_sorted entry_sorted (args_sorted1 _)
 simp only [Builtin.«sorted»]
 apply bh0 (m:=checkCount "sorted" 1 1 _)
 apply bh6
 apply bh0
 refine collect_list hl ?_ big
 apply bh0
 refine wpAny_newList ?_ big
 have one:((s.heap.push (seqObj "list" #[] 0)).update s.heap.objs.size (Obj.mapSeq (· ++ vs.toArray))).objs.size=s.heap.objs.size+1:=(Heap.size_update _ _ _).trans (size_push' _ _)
 have at1:(fP s.heap vs).get? (s.heap.objs.size+1)=some (seqObj "list" vs.toArray 0):=one ▸ bj1 _ rfl
 change wpAny _ _ _ _ _ { s with heap:=fP s.heap vs }
 rw [one]
 apply bh0
 apply bp7
 refine bn8 slot_list_sort ⟨_,at1,rfl⟩ entry_list_sort ?_ (args_list_sort _)
 exact R7 (s:={ s with heap:=fP s.heap vs }) at1 h2 big (hk _ _) (c _ _) o fun out a1 a2=>⟨_,rfl,bh6 ⟨_,rfl,q out a1 a2⟩⟩
def oH (h:Heap) (B:Int) (x:Keyed):Int:=match x.1 with
 | .ref b=>match h.get? b with
  | some ob=>match ob.data with
   | .seq us _=>numOf (us.getD 0 .none) * B+numOf (us.getD 1 .none)
   | _=>0
  | none=>0
 | _=>0
structure dH (h:Heap) (M:Int) (v:Value) (p q:Int):Prop where
 at_:∃ b ob us n,v = .ref b/\h.get? b=some ob/\ob.cls = .type "tuple"/\ob.data = .seq (List.toArray us) n/\IntsAre us [p,q]
 lo : -M<=q
 hi:q<=M
theorem dH.rk {h:Heap}{M B:Int}{x:Keyed}{p q:Int} (z:dH h M x.1 p q):oH h B x=p * B+q:=by
 obtain ⟨b,ob,us,n,e1,e2,_,e4,e5⟩:=z.at_
 cases e5 with
 | cons _ t e6=>cases e6 with
  | cons _ u e7=>cases e7; unfold oH; rw [e1]; dsimp only; rw [e2]; dsimp only; rw [e4]; rfl
theorem wY {p q p' q' M:Int} (h1 : -M<=q) (h2:q<=M) (h3 : -M<=q') (h4:q'<=M):HT.cA [p,q] [p',q']=decide (p * (2 * M+1)+q < p' * (2 * M+1)+q'):=by
 rw [HT.iK]
 have mm:∀ {a b:Int},a < b->a * (2 * M+1)+(2 * M+1)<=b * (2 * M+1):=fun {a b} z=>by
  have:=br6 (show a+1<=b by omega) (show 0<=2 * M+1 by omega)
  rw [Int.add_mul,Int.one_mul] at this
  exact this
 by_cases e:p=p'
 ·subst e
  rw [if_pos rfl,HT.iK]
  by_cases e2:q=q'
  ·subst e2
   rw [if_pos rfl,HT.pO,bh2 (by omega)]
  ·rw [if_neg e2]
   by_cases l:q < q'
   ·rw [bh5 l,bh5 (by omega)]
   ·rw [bh2 l,bh2 (by omega)]
 ·rw [if_neg e]
  by_cases l:p < p'
  ·have:=mm l
   rw [bh5 l,bh5 (by omega)]
  ·have:=mm (show p' < p by omega)
   rw [bh2 l,bh2 (by omega)]
theorem R8 {prog:Program}{w:World}{A:Around}{E:Value->Shared->Prop}{s:Shared}{M:Int}:cP prog w A E s (tuples' true) (fun x=>∃ p q,dH s.heap M x.1 p q) (oH s.heap (2 * M+1)):=by
 rintro x y ⟨p,q,z⟩ ⟨p',q',z'⟩ st Q hk hq
 rw [z.rk,z'.rk] at hq
 rw [<- wY z.lo z.hi z'.lo z'.hi] at hq
 obtain ⟨b,ob,us,n,e1,e2,e3,e4,e5⟩:=z.at_
 obtain ⟨b',ob',us',n',e1',e2',e3',e4',e5'⟩:=z'.at_
 rw [lt'_eq]
 refine bi2 (wpS_get ?_)
 rw [hk,e1,e1']
 refine bi2 (wpS_lift (wpAny_attempt (PySem.W.kat_lt e2 e4 e2' e4' ?_)))
 have:=J1 (prog:=prog) (w:=w) (A:=A) (s:=s) (Q:=fun a s'=>s'=s/\wpS (model prog w) A E s (pure (some a)) Q st) 0 e5 e5' ⟨rfl,bj0 hq⟩
 simpa using this
theorem aH5 {vs vs':List Value} (h:vs.Perm vs'):∀ {xs:List V},aL xs vs->∃ xs',xs'.Perm xs/\aL xs' vs':=by
 induction h with
 | nil=>intro xs r; exact⟨xs,bx3 _,r⟩
 | cons v _ ih=>
  intro xs r
  cases r with
  | cons r t=>
   obtain ⟨xs',p,r'⟩:=ih t
   exact⟨_ :: xs',p.cons _,.cons r r'⟩
 | swap u v l=>
  intro xs r
  cases r with
  | cons r t=>cases t with
   | cons r2 t2=>exact⟨_,List.Perm.swap _ _ _,.cons r2 (.cons r t2)⟩
 | trans _ _ ih1 ih2=>
  intro xs r
  obtain ⟨x1,p1,r1⟩:=ih1 r
  obtain ⟨x2,p2,r2⟩:=ih2 r1
  exact⟨x2,p2.trans p1,r2⟩
theorem wZ {α:Type} (f:α->Int):∀ l:List α,∃ M:Int,∀ y ∈ l,-M<=f y/\f y<=M
 | []=>⟨0,fun _ h=>nomatch h⟩
 | x :: l=>by
  obtain ⟨M,h⟩:=wZ f l
  refine⟨max M (max (f x) (- f x)),fun y hy=>?_⟩
  rcases bh9.mp hy with e | e
  ·subst e; omega
  ·have:=h y e; omega
def R9 (K:PySem.W.Frag):List V->Hp->VK->Prop:=fun xs H Q=>∃ (a:Addr) (ys:List V) (key:V->List Int),xs = [.ref a]/\aR K H a ys/\ys.length<=4096/\(∀ y ∈ ys,∃ b,y = .ref b/\aO K H b ((key y).map V.int)/\(key y).length=2)/\
 ∀ l (zs:List V),H l=none->zs.Perm ys->zs.Pairwise (fun u v=>HT.cA (key v) (key u)=false)->Q (.ref l) (upd H l (.lst zs))
theorem aH6 {X:Cx}:dA X (.builtin "sorted") (R9 X.K):=by
 intro pins s σ H xs us Q I r h
 obtain ⟨a,ys,key,rfl,hs,hz4,hk,q⟩:=h
 obtain ⟨u,rfl,ru⟩:=gG r
 cases ru
 obtain ⟨its,rv,p,hz⟩:=I.list hs
 have hl:=rv.length
 have hn:s.heap.objs.size<=s.heap.objs.size+1:=Nat.le_succ _
 by_cases h2:its.length < 2
 ·refine aw1 p.isList h2 ?_
  obtain ⟨e,he⟩:=sortedAll_at s.heap its its.toArray
  refine⟨.ref (s.heap.objs.size+1),upd H (s.heap.objs.size+1) (.lst ys),I.laid (t':=s.toks) (fun _ _=>sortedAll_old) hn ⟨hz,its,e,rv,he⟩,rfl,q _ ys (I.hok.fresh hn) (bx3 _) ?_⟩
  match ys,hl with
  | [],_=>exact List.Pairwise.nil
  | [_],_=>exact bl7 _ _
  | _ :: _ :: _,hl=>simp at hl; omega
 ·obtain ⟨M,hM⟩:=wZ (fun y=>(key y).getD 1 0) ys
  have pv:∀ {y:V}{v:Value},aS y v->y ∈ ys->∃ pp qq,key y = [pp,qq]/\dH (dO (fP s.heap its) (s.heap.objs.size+1) its) M v pp qq:=fun {y v} ry hy=>by
   obtain ⟨b,rfl,sq,l2⟩:=hk y hy
   cases ry
   obtain ⟨us,ru,⟨ob,e1,c1,n1,d1⟩,_⟩:=I.tuple sq
   have ia:=kS ru
   have mm:=hM _ hy
   match hkk:key (V.ref b),l2 with
   | [pp,qq],_=>
    rw [hkk] at ia mm
    exact⟨pp,qq,rfl,⟨b,ob,us,n1,rfl,R6 (bk6 (Nat.lt_succ_of_lt (bi4 e1))) (aH3 e1),c1,d1,ia⟩,mm.1,mm.2⟩
  have pvs:∀ {xs:List V}{vs:List Value},aL xs vs->(∀ y ∈ xs,y ∈ ys)->∀ v ∈ vs,∃ pp qq,dH (dO (fP s.heap its) (s.heap.objs.size+1) its) M v pp qq:=by
   intro xs vs r
   induction r with
   | nil=>intro _ v hv; cases hv
   | cons rx rt ih=>
    intro hh v hv
    rcases bh9.mp hv with z | z
    ·subst z
     obtain ⟨pp,qq,_,z⟩:=pv rx (hh _ bi6)
     exact⟨pp,qq,z⟩
    ·exact ih (fun y hy=>hh y (bi7 _ hy)) v z
  have firsts:∀ {vs:List Value},(∀ v ∈ vs,∃ pp qq,dH (dO (fP s.heap its) (s.heap.objs.size+1) its) M v pp qq)->∃ fs:List Value,PySem.W.KatTups (dO (fP s.heap its) (s.heap.objs.size+1) its) vs fs/\fs.length=vs.length/\∀ v ∈ fs,∃ i t,v=Value.int i t:=by
   intro vs
   induction vs with
   | nil=>intro _; exact⟨[],PySem.W.KatTups.nil,rfl,fun _ z=>nomatch z⟩
   | cons v vs ih=>
    intro hh
    obtain ⟨fs,t1,t2,t3⟩:=ih fun y hy=>hh y (bi7 _ hy)
    obtain ⟨pp,qq,z⟩:=hh v bi6
    obtain ⟨b,ob,us,n,rfl,e2,e3,e4,e5⟩:=z.at_
    cases e5 with
    | cons _ t e6=>exact⟨Value.int pp t :: fs,PySem.W.KatTups.cons e2 e3 e4 (by simp) t1,by simp [t2],fun v hv=>(bh9.mp hv).elim (fun z=>⟨pp,t,z⟩) (t3 v)⟩
  have allp:=pvs rv fun _ h=>h
  obtain ⟨fs,t1,t2,t3⟩:=firsts allp
  refine aH4 (κ:=tuples' true) (Ok:=fun x=>∃ pp qq,dH (dO (fP s.heap its) (s.heap.objs.size+1) its) M x.1 pp qq) (rk:=oH (dO (fP s.heap its) (s.heap.objs.size+1) its) (2 * M+1)) p.isList (by omega) (by rw [<- hl]; exact hz)
   (fun A E Q hQ=>?_) (fun A E=>R8 (s:={ s with heap:=dO (fP s.heap its) (s.heap.objs.size+1) its })) (fun v hv=>allp v hv) fun out pm so=>?_
  ·refine PySem.W.kat_kind (T:=.type "int") t1 (by omega) (fun v hv=>?_) (by decide) ?_
   ·obtain ⟨i,t,rfl⟩:=t3 v hv
    exact PySem.W.Looks.now
   ·have eT:(Value.type "int" != Value.type "tuple")=true:=by decide
    rw [eT]; exact hQ
  ·obtain ⟨zs,pz,rz⟩:=aH5 pm.symm rv
   obtain ⟨e,he⟩:=sortedAll_at s.heap its out.toArray
   refine⟨.ref (s.heap.objs.size+1),upd H (s.heap.objs.size+1) (.lst zs),I.laid (t':=s.toks) (fun _ _=>sortedAll_old) hn ⟨by rw [pz.length_eq]; exact hz,out,e,rz,he⟩,rfl,q _ zs (I.hok.fresh hn) pz ?_⟩
   have lz:=rz.length
   rw [bn3]
   intro i j hi hj hij
   have s1:=bn3.mp so i j (by omega) (by omega) hij
   have gi:=vF i hi rz
   have gj:=vF j hj rz
   simp only [bj4,bh4 hi,bh4 hj,bh4 (show i < out.length by omega),bh4 (show j < out.length by omega),Option.getD_some] at gi gj
   obtain ⟨pi,qi,ki,vi⟩:=pv gi (pz.mem_iff.mp (bs7 hi))
   obtain ⟨pj,qj,kj,vj⟩:=pv gj (pz.mem_iff.mp (bs7 hj))
   rw [dH.rk (x:=(out[i],out[i])) vi,dH.rk (x:=(out[j],out[j])) vj] at s1
   rw [ki,kj,wY vj.lo vj.hi vi.lo vi.hi]
   exact bh2 (by omega)
end L2
namespace L2
open PySem PySem.Spec PyProof.Rows
theorem c7.at {P:Program}{w:World}{H:Hp}{h:Heap}{a:Addr}{o:HO} (x:c7 P w H h a o):∃ ob,h.get? a=some ob:=by
 cases o with
 | lst xs=>obtain ⟨_,_,_,_,e⟩:=x; exact⟨_,e⟩
 | tup xs=>obtain ⟨_,_,_,⟨_,e,_⟩,_⟩:=x; exact⟨_,e⟩
 | dK kvs=>obtain ⟨_,_,_,_,_,_,_,e,_⟩:=x; exact⟨_,e⟩
 | dT kvs=>obtain ⟨_,_,_,_,_,_,_,e,_⟩:=x; exact⟨_,e⟩
 | set S n=>obtain ⟨_,_,_,_,e,_⟩:=x; exact⟨_,e⟩
 | ins C dx fs=>obtain ⟨_,_,_,e,_⟩:=x; exact⟨_,e⟩
 | own y=>exact x
 | xd fs=>obtain ⟨_,⟨_,_,_,e,_⟩,_⟩:=x; exact⟨_,e⟩
 | rng lo hi=>obtain ⟨_,_,_,e⟩:=x; exact⟨_,e⟩
 | frz ob u=>obtain ⟨e,_⟩:=x; exact⟨_,e⟩
 | tbl ps=>exact⟨_,x⟩
 | met f y=>exact⟨_,x⟩
 | ext φ=>exact x.2.1
structure lE (P:Program) (w:World) (outer:List Env) (H:Hp) (s:Shared) (H':Hp) (B:Heap) (a C:Addr) (s':Shared):Prop where
 os:s'.os=s.os
 bare:AllBare s'.gens
 un:Un (bR outer) [] H H' s.heap s'.heap
 hok:bW P w H' s'.heap
 fly:∃ a0,Heap.FlyingW B outer a (.ref C) a0 s'.heap
 b0:∀ b o,s.heap.get? b=some o->b ∉ bR outer->∃ o',B.get? b=some o'
 b1:∀ b o,s.heap.get? b=some o->H b=none->b ∉ bR outer->B.get? b=some o
 b2:∀ b u o,H' b=some u->s'.heap.get? b=some o->B.get? b=some o
def eB (P:Program) (w:World):gI:=fun outer H s E e s'=>∃ (H':Hp) (B:Heap) (a C:Addr),e = .ref a/\lE P w outer H s H' B a C s'/\E (.ref C) none H'
section
variable {P : Program} {w : World} {outer : List Env} {H H' : Hp} {s s' : Shared} {B h2 : Heap} {a C : Addr}
theorem lE.fresh (f:lE P w outer H s H' B a C s'):H' a=none:=by
 cases q:H' a with
 | none=>rfl
 | some u=>
  obtain ⟨ob,e⟩:=(f.hok a u q).at
  have z:=f.b2 a u ob q e
  obtain ⟨_,_,n,_⟩:=f.fly
  rw [n] at z; cases z
theorem lE.hok2 (f:lE P w outer H s H' B a C s') (k:B.StaysIn h2):bW P w H' h2:=fun b u e=>
 (f.hok b u e).stay (fun c v hc q=>by
  rcases hc with z | z
  ·subst z; exact k _ _ (f.b2 _ _ _ e q)
  ·exact k _ _ (f.b2 _ _ _ z q)) (fun _ q=>q) fun _ _ q=>q
end
section
variable {P : Program} {w : World} {K : PySem.W.Frag} {mg : Str → Option Value} {base : Heap} {N : List Str} {qual : Str} {scope : Scope} {f : Addr} {cd : Value} {A : Around} {outer : List Env} {s₀ : Shared} {H₀ : Hp} {E₀ E₁ : XK}
theorem rN {pins:List (Addr × Obj)}{σ:St}{H:Hp}{s:Shared} (I:a8 (dG (eB P w) P w K mg base N qual scope f cd A outer s₀ H₀ E₀) pins σ H s) {b:Addr}{o:Obj} (e:s₀.heap.get? b=some o) (n:b ∉ bR outer) :
  b ∉ bR (envOfC qual scope s₀.heap.objs.size f cd :: outer):=fun z=>by
 rcases bh9.mp (I.stkSub b z) with y | y
 ·have l:=bi4 e
  have y:b=s₀.heap.objs.size:=y
  exact absurd l (by rw [y]; exact bo2 _)
 ·exact n y
theorem aH7 (hE:∀ c d H',E₁ c d H'->E₀ c d H'):nI (eB P w) (dG (eB P w) P w K mg base N qual scope f cd A outer s₀ H₀ E₀) E₁:=by
 intro pins σ H s e s' I hx
 obtain ⟨H',B,a,C,e1,fl,q⟩:=hx
 subst e1
 have I':=I.call' fl.os fl.un fl.hok fl.bare (ch:=[]) (fun b z=>absurd z (by simp))
 obtain ⟨a0,fly⟩:=fl.fly
 refine wpAny_leaves_onW I.ok.frames rfl fly fun h' fly' up=>?_
 have slot:∀ b o,s₀.heap.get? b=some o->b ∈ bR outer->∃ sl,h'.get? b=some { o with slots:=sl }:=fun b o e hb=>by
  obtain ⟨sl,e1⟩:=I'.base.slot b o e (I.ok.frf b hb) hb (fun z=>nomatch z)
  obtain ⟨_,o2,e2,nf⟩:=I.ok.funs.mem hb
  rw [show (dG (eB P w) P w K mg base N qual scope f cd A outer s₀ H₀ E₀).s₀=s₀ from rfl,e] at e2
  cases e2
  obtain ⟨sl',e3⟩:=up b _ e1 nf
  exact⟨sl',e3⟩
 have old:∀ b o,s₀.heap.get? b=some o->H₀ b=none->b ∉ bR outer->B.get? b=some o:=fun b o e n hb=>
  fl.b1 b o (I.base.keep b o e n hb (fun z=>nomatch z)) (I.base.free b o e n (fun z=>nomatch z)) (rN I e hb)
 have old0:∀ b o,s₀.heap.get? b=some o->b ∉ bR outer->∃ o',B.get? b=some o':=fun b o e hb=>by
  obtain ⟨o1,e1⟩:=I.base.there b o e (fun z=>nomatch z)
  exact fl.b0 b o1 e1 (rN I e hb)
 refine⟨H',B,a,C,rfl,⟨I'.os,I'.bare,⟨fun b o e n hb _=>fly'.1 _ _ (old b o e n hb),fun b o e n hb _=>slot b o e hb,fun b o e n hx=>I'.base.free b o e n hx,fun b o e _=>?_,I'.base.tups,I'.base.frzs,I'.base.tbls⟩,fl.hok2 fly'.1,⟨a0,fly'⟩,old0,old,fun b u o e h=>?_⟩,hE _ _ _ q⟩
 ·by_cases hb:b ∈ bR outer
  ·obtain ⟨sl,e1⟩:=slot b o e hb
   exact⟨_,e1⟩
  ·obtain ⟨o',e1⟩:=old0 b o e hb
   exact⟨o',fly'.1 _ _ e1⟩
 ·obtain ⟨ob,e1⟩:=(fl.hok b u e).at
  have e2:=fl.b2 b u ob e e1
  have e3:=fly'.1 _ _ e2
  have h:h'.get? b=some o:=h
  rw [h] at e3; cases e3; exact e2
theorem aH8 {pins:List (Addr × Obj)}{σ:St}{H:Hp}{s:Shared}{h':Heap}{e C:Addr}{args:List Value} (I:a8 (dG (eB P w) P w K mg base N qual scope f cd A outer s₀ H₀ E₀) pins σ H s) (mx:Heap.MadeExcOf s.heap h' e (.ref C) args) (q:E₀ (.ref C) none H) :
  (dG (eB P w) P w K mg base N qual scope f cd A outer s₀ H₀ E₀).xe (.ref e) { s with heap:=h' }:=by
 have tr:∀ b u,H b=some u->b ∉ bR (envOfC qual scope s₀.heap.objs.size f cd :: outer):=fun b u z n=>by
  rw [I.stkFree b n] at z; cases z
 have inB:∀ b o,s.heap.get? b=some o->b ∉ bR (envOfC qual scope s₀.heap.objs.size f cd :: outer)->(PySem.W.hideAll s.heap (bR (envOfC qual scope s₀.heap.objs.size f cd :: outer))).get? b=some o:=fun b o z n=>PySem.W.hideAll_get _ z n
 refine wpAny_leaves_madeW (base:=PySem.W.hideAll s.heap (bR (envOfC qual scope s₀.heap.objs.size f cd :: outer))) I.ok.frames rfl (fun b o z=>PySem.W.of_hideAll _ z) (PySem.W.funFrames_hide I.stack fun env he b hb=>List.mem_filterMap.mpr ⟨env,he,hb⟩) mx fun h'' t fly _ _ up=>?_
 have slot:∀ b o,s₀.heap.get? b=some o->b ∈ bR outer->∃ sl,h''.get? b=some { o with slots:=sl }:=fun b o e hb=>by
  obtain ⟨sl,e1⟩:=I.base.slot b o e (I.ok.frf b hb) hb (fun z=>nomatch z)
  obtain ⟨_,o2,e2,nf⟩:=I.ok.funs.mem hb
  rw [show (dG (eB P w) P w K mg base N qual scope f cd A outer s₀ H₀ E₀).s₀=s₀ from rfl,e] at e2
  cases e2
  obtain ⟨sl',e3⟩:=up b _ (mx.keeps _ _ e1) nf
  exact⟨sl',e3⟩
 have old:∀ b o,s₀.heap.get? b=some o->H₀ b=none->b ∉ bR outer->(PySem.W.hideAll s.heap (bR (envOfC qual scope s₀.heap.objs.size f cd :: outer))).get? b=some o:=fun b o e n hb=>
  inB b o (I.base.keep b o e n hb (fun z=>nomatch z)) (rN I e hb)
 have old0:∀ b o,s₀.heap.get? b=some o->b ∉ bR outer->∃ o',(PySem.W.hideAll s.heap (bR (envOfC qual scope s₀.heap.objs.size f cd :: outer))).get? b=some o':=fun b o e hb=>by
  obtain ⟨o1,e1⟩:=I.base.there b o e (fun z=>nomatch z)
  exact⟨o1,inB b o1 e1 (rN I e hb)⟩
 refine⟨H,_,e,C,rfl,⟨I.os,I.bare,⟨fun b o e n hb _=>fly.1 _ _ (old b o e n hb),fun b o e n hb _=>slot b o e hb,fun b o e n hx=>I.base.free b o e n hx,fun b o e _=>?_,I.base.tups,I.base.frzs,I.base.tbls⟩,fun b u z=>?_,⟨_,fly⟩,old0,old,fun b u o z h=>?_⟩,q⟩
 ·by_cases hb:b ∈ bR outer
  ·obtain ⟨sl,e1⟩:=slot b o e hb
   exact⟨_,e1⟩
  ·obtain ⟨o',e1⟩:=old0 b o e hb
   exact⟨o',fly.1 _ _ e1⟩
 ·refine (I.hok b u z).stay (fun c v hc y=>?_) (fun _ y=>y) fun _ _ y=>y
  rcases hc with z' | z'
  ·subst z'; exact fly.1 _ _ (inB _ _ y (tr _ _ z))
  ·exact fly.1 _ _ (inB _ _ y (tr _ _ z'))
 ·obtain ⟨ob,e1⟩:=(I.hok b u z).at
  have e2:=inB b ob e1 (tr b u z)
  have e3:=fly.1 _ _ e2
  have h:h''.get? b=some o:=h
  rw [h] at e3; cases e3; exact e2
end
structure mH (X:Cx) (E:XK):Prop where
 pass:nI (eB X.prog X.w) X E
 made:∀ (pins:List (Addr × Obj)) (σ:St) (H:Hp) (s:Shared) (h':Heap) (e C:Addr) (args:List Value),a8 X pins σ H s->Heap.MadeExcOf s.heap h' e (.ref C) args->E (.ref C) none H->X.xe (.ref e) { s with heap:=h' }
 own:PassesOwn (model X.prog X.w) X.A X.env X.xe
theorem aH9 {P:Program}{w:World}{K:PySem.W.Frag}{mg:Str->Option Value}{base:Heap}{N:List Str}{qual:Str}{scope:Scope}{f:Addr}{cd:Value}{A:Around}{outer:List Env}{s₀:Shared}{H₀:Hp}{E₀ E₁:XK} (hE:∀ c d H',E₁ c d H'->E₀ c d H') :
  mH (dG (eB P w) P w K mg base N qual scope f cd A outer s₀ H₀ E₀) E₁:=
 ⟨aH7 hE,fun _ _ _ _ _ _ _ _ I mx q=>aH8 I mx (hE _ _ _ q),PassesOwn.leaving⟩
def S0 (E:XK) (C:Addr) (t:TA):TS:=fun _ σ H=>t σ H fun vs H1=>vs.length<=sizeLine/\E (.ref C) none H1
theorem aI0 {X:Cx}{E:XK}{x:Str}{C:Addr}{bm:List Value}{B newId initId:String}{np cpos pos:Pos}{e:Expr}{es:List Expr}{t:TA} (hX:mH X E) (hc:X.calm=true) (O:OwnCls x C bm newId X.mg X.base) (FB:ExcBaseFacts B newId initId bm) (ha:PA X (e :: es) t) (hg:Gl X x)
  (hd:(x == ("__debug__" : Str))=false:=by decide) (he:starEach (e :: es) X.env=(false,eval e X.env) :: starEach es X.env:=by rfl) (hpl:(backTo cpos (starEach es X.env)).any (·.1)=false:=by rfl) :
  PS X (.Raise (some (.Call (.Name x np) (e :: es) [] cpos)) none pos) (S0 E C t):=by
 intro pins s σ H D I h
 obtain ⟨tl,Na,nm,qn,bs,hx,sn,sub,ab,col,dd,k0,k1,k2,k3,k5,mN,hC,hN,hni,T⟩:=O.obj
 refine wpAny_Raise_call_subT (nm:=nm) (q:=qn) (N:=Na) (bs:=bs) (bm:=tl) (hdct:=hx) (sn:=sn) (sub:=sub) (ab:=ab) (col:=col) (dd:=dd) (k0:=k0) (k1:=k1) (k2:=k2) (k3:=k3) (k5:=k5) FB (C:=C) (mN:=mN) (T.hasType FB.hasBase) (I.ok.hd hc) (by rw [he]; show (false || (backTo cpos (starEach es X.env)).any (·.1))=false; rw [hpl]; rfl) hni (mZ I hg O.bound ⟨rfl,?_⟩ hd)
 have h1:=ha cpos pins s σ H _ I h
 rw [he] at h1 ⊢
 refine Calls.evalArgs_plain (bo3 h1 (fun us s2 h2=>?_) fun _ _ y=>y)
 obtain ⟨vs,H2,I2,r,hl,q⟩:=h2
 have r:aL vs us:=r
 exact⟨rfl,by show us.length<=sizeLine; rw [<- r.length]; exact hl,I2.bk _ _ hC,hN.keeps I2.bk,T.keeps I2.bk,fun h' e' mx=>hX.made pins σ H2 s2 h' e' C _ I2 mx q⟩
theorem fL.okX {P:Program}{w:World}{K:PySem.W.Frag}{mg:Str->Option Value}{base:Heap}{x qual:Str}{st:Stmt}{f:Addr}{fd:FuncData}{N ps:List Str}{k:Nat}{sp:Sp} (F:fL K x qual st f fd) (S:FnScope N ps (aU st)) (len:∀ vs H Q E,sp vs H Q E->vs.length=ps.length)
  (hbody:∀ (cdv:Value) (A:Around) (outer:List Env) (s:Shared) (H:Hp) (vs:List V) (Q:VK) (E:XK),cE k (A.deeper (envOfC qual (aU st) s.heap.objs.size f cdv))->sp vs H Q E->
   ∃ t,dQ (dG (eB P w) P w K mg base N qual (aU st) f cdv A outer s H E) (eR st) t/\t { nx:=fun _ H'=>Q .non H',rt:=Q } (gJ N vs) H):dE P w K mg base (eB P w) (k+1) f fd ps sp:=by
 obtain ⟨oc,od,kV,doc,pm,an,cdv,ct,osl,rfl,lk,hcd⟩:=F.ex
 exact B3 lk hcd S len fun A outer s H vs Q E hr hsp=>hbody cdv A outer s H vs Q E hr hsp
section
variable {X : Cx} {pins : List (Addr × Obj)} {σ : St} {H H1 H' : Hp} {s s1 s' : Shared} {B h2 : Heap} {a C : Addr}
theorem S2 {oe:Obj} (I:a8 X pins σ H1 s1) (fl:lE X.prog X.w X.stack H1 s1 H' B a C s') (st:B.StaysIn h2) (up:s'.heap.UpToSlots h2) (he:h2.get? a=some oe) :
  a8 X pins σ (upd H' a (.frz oe (.own a))) { s' with heap:=h2 }:=by
 obtain ⟨a0,fly⟩:=fl.fly
 have na:B.get? a=none:=fly.2.1
 have nf:a ∉ bR X.stack:=fun z=>by
  obtain ⟨_,o,e,d⟩:=fly.2.2.1.mem z
  obtain ⟨o2,vs,e2,_,d2,_⟩:=fly.first
  rw [e] at e2; cases e2
  exact d vs d2
 have nb:∀ b o,s1.heap.get? b=some o->b ≠ a:=fun b o e z=>by
  subst z
  obtain ⟨o',e'⟩:=fl.b0 _ o e nf
  rw [na] at e'; cases e'
 have nt:∀ b u,H' b=some u->b ≠ a:=fun b u e z=>by
  subst z; rw [fl.fresh] at e; cases e
 have off:∀ b,b ≠ X.env.locals->b ∉ X.fs->b ∉ bR X.stack:=fun b n1 n2 z=>(bh9.mp (I.stkSub b z)).elim n1 n2
 have slot:∀ b o,s1.heap.get? b=some o->b ∈ bR X.stack->∃ sl,h2.get? b=some { o with slots:=sl }:=fun b o e hb=>by
  obtain ⟨sl,e1⟩:=fl.un.any e (I.stkFree b hb) (fun z=>nomatch z)
  obtain ⟨_,o2,e2,d⟩:=I.stack.mem hb
  rw [e] at e2; cases e2
  obtain ⟨sl',e3⟩:=up b _ e1 d
  exact⟨sl',e3⟩
 have ns:∀ m,s1.heap.Ns X.env.locals m->h2.Ns X.env.locals m:=fun m hm=>by
  obtain ⟨o,es,ep,e,r⟩:=hm
  obtain ⟨sl,e1⟩:=fl.un.any e I.free (fun z=>nomatch z)
  exact up.ns ⟨_,es,ep,e1,r⟩
 have hok:bW X.prog X.w (upd H' a (.frz oe (.own a))) h2:=fun b u e=>by
  by_cases hb:b=a
  ·subst hb; rw [bO] at e; cases e; exact⟨he,_,he⟩
  ·rw [aW hb] at e
   exact (fl.hok2 st b u e).stay (fun _ _ _ q=>q) (fun c q=>by rw [aW (nt c _ q)]; exact q) fun c xs q=>by rw [aW (nt c _ q)]; exact q
 have bare:=fl.bare
 have un:=fl.un
 have b0:=fl.b0
 have b1:=fl.b1
 have os:=fl.os
 clear fl fly up
 obtain ⟨hh,g,d,t,os'⟩:=s'
 obtain rfl:os'=s1.os:=os
 show a8 X pins σ _ { s1 with heap:=h2,gens:=g,drawn:=d,toks:=t }
 refine I.step (h':=h2) (g':=g) (d':=d) (t':=t) (ch:=[]) (fun _ z=>nomatch z) (fun b o n1 n2 _ e n=>st _ _ (b1 b o e n (off b n1 n2))) (fun b o n1 hb _ e n=>?_) (fun b o _ e n=>by rw [aW (nb b o e)]; exact un.free b o e n (fun z=>nomatch z)) (fun b o _ e=>?_)
  (fun b xs q=>by rw [aW (nt b _ (un.tups b xs q))]; exact un.tups b xs q) (fun b o u q=>by rw [aW (nt b _ (un.frzs b o u q))]; exact un.frzs b o u q) (fun b ps q=>by
   obtain ⟨more,q'⟩:=un.tbls b ps q
   exact⟨more,by rw [aW (nt b _ q')]; exact q'⟩) ns hok bare
 ·by_cases hs:b ∈ bR X.stack
  ·exact slot b o e hs
  ·exact⟨o.slots,st _ _ (b1 b o e n hs)⟩
 ·by_cases hb:b ∈ bR X.stack
  ·obtain ⟨sl,e1⟩:=slot b o e hb
   exact⟨_,e1⟩
  ·obtain ⟨o',e1⟩:=b0 b o e hb
   exact⟨o',st _ _ e1⟩
abbrev Cx.suite (X:Cx) (a:Addr):Cx:={ X with A:=X.A.mark (some (.ref a)),calm:=false,xe:=fun _ _=>False }
theorem Cx.Ok.suite {X:Cx} (ok:X.Ok) (a:Addr):(X.suite a).Ok:=
 ⟨ok.mod,ok.kind,ok.glob,ok.blt,ok.above,ok.inj,ok.has,ok.cab,fun z=>Bool.noConfusion z,ok.frames,ok.stk,ok.exf,ok.bs,ok.bsz,ok.noex,ok.exfs,ok.funs,ok.frf⟩
theorem a8.suite (I:a8 X pins σ H s) (a:Addr):a8 (X.suite a) pins σ H s:=⟨I.ok.suite a,I.os,I.bare,I.base,I.loc,I.cell,I.free,I.freeC,I.pin,I.hok,I.len⟩
theorem a8.unsuite (I:a8 (X.suite a) pins σ H s) (ok:X.Ok):a8 X pins σ H s:=⟨ok,I.os,I.bare,I.base,I.loc,I.cell,I.free,I.freeC,I.pin,I.hok,I.len⟩
theorem rO {M:Model}{A:Around}{E:Value->Shared->Prop}{i:Nat}{x:Str}{pos:Pos}{Q:Unit->Shared->Prop} (I:a8 X pins σ H s) (hN:X.N.Nodup) (hi:X.N[i]? = some x) (hk:X.env.scope.names.lookup x=some .local)
  (h:∀ s',a8 X pins (σ.set i none) H s'->Q () s'):wpAny M A (do bindName X.env x .none; unbindBehindTheSuite X.env x pos) Q E s:=by
 obtain ⟨m,hn,hl⟩:=id I.loc
 obtain ⟨oL,_,_,hoL,_⟩:=id hn
 have ab:∀ b o,X.s₀.heap.get? b=some o->b ≠ X.env.locals:=fun b o e=>bk6 (bi8 (bi4 e) I.ok.above)
 refine wpAny_nameGoes_keeps hk hn (by rw [I.ok.kind]; rfl) fun h' v hn' hs=>?_
 refine h _ ⟨I.ok,I.os,I.bare,⟨fun b o e n hb hx=>(hs.2 b (ab b o e)).trans (I.base.keep b o e n hb hx),fun b o e n hb hx=>?_,I.base.free,fun b o e hx=>?_,I.base.tups,I.base.frzs,I.base.tbls⟩,⟨_,hn',fun j y v' e1 e2 e3=>?_⟩,fun y c e=>?_,I.free,I.freeC,fun p hp=>?_,fun b u e=>?_,by simpa using I.len⟩
 ·obtain ⟨sl,e1⟩:=I.base.slot b o e n hb hx
  exact⟨sl,(hs.2 b (ab b o e)).trans e1⟩
 ·obtain ⟨o',e1⟩:=I.base.there b o e hx
  exact⟨o',(hs.2 b (ab b o e)).trans e1⟩
 ·by_cases hj:j=i
  ·subst hj
   have hjl:j < σ.length:=by rw [I.len]; exact (bi3.mp hi).1
   rw [bm7 hjl] at e2
   cases e2
  ·rw [bk2 (Ne.symm hj)] at e2
   obtain ⟨u',r',q⟩:=hl j y v' e1 e2 e3
   refine⟨u',r',?_⟩
   rcases q with ⟨k,e⟩ | ⟨k,c,e,z⟩
   ·have ny:y ≠ x:=fun z=>hj (tR hN e1 (z ▸ hi))
    exact .inl ⟨k,by simp [ny,e]⟩
   ·exact .inr ⟨k,c,e,z.sameBut hs (I.cne y c e)⟩
 ·obtain ⟨w',z⟩:=I.cell y c e
  exact⟨w',z.sameBut hs (I.cne y c e)⟩
 ·obtain ⟨e,n,ne,nf,d⟩:=I.pin p hp
  exact⟨(hs.2 p.1 ne).trans e,n,ne,nf,d⟩
 ·refine (I.hok b u e).stay (fun c v hc q=>(hs.2 c fun z=>?_).trans q) (fun _ q=>q) fun _ _ q=>q
  subst z
  rcases hc with z | z
  ·subst z; rw [I.free] at e; cases e
  ·rw [I.free] at z; cases z
theorem aI1 {M:Model}{A:Around}{E:Value->Shared->Prop}{K:PySem.W.Frag}{e C D:Addr}{oe:Obj}{Q:Bool->Shared->Prop} (k:K.In s.heap) (he:s.heap.get? e=some oe) (hc:oe.cls = .ref C) (h1:(PySem.W.clsIn K D).isSome=true) (h2:PySem.W.typeIn K (.ref D)=some (.type "type"))
  (h3:PySem.W.subIn K (.ref D) (.type "BaseException")=some true) (h4:PySem.W.subIn K (.ref C) (.ref D)=some true) (hq:Q true s):wpAny M A (excMatches (.ref e) (.ref D)) Q E s:=by
 obtain ⟨h,g,d,t,os⟩:=s
 have k:K.In h:=k
 have he:h.get? e=some oe:=he
 have l1:PySem.W.Looks M h (isType (.ref D)) true:=by
  unfold PySem.W.clsIn at h1
  split at h1
  ·rename_i c' d' cd' sl' ho
   intro A' Q' E' s' kk q
   unfold isType loadHead
   exact bh0 (wpAny_loadPart (kk _ _ (k _ _ ho)) (bh6 q))
  ·cases h1
 have l2:PySem.W.Looks M h (typeOf (.ref D)) (.type "type"):=PySem.W.looks_typeIn k h2
 have l3:PySem.W.Looks M h (isSubtype (.ref D) (.type "BaseException")) true:=PySem.W.looks_subIn k h3
 have l4:PySem.W.Looks M h (isSubtype (.ref C) (.ref D)) true:=PySem.W.looks_subIn k h4
 have l5:PySem.W.Looks M h (typeOf (.ref e)) (.ref C):=hc ▸ (PySem.W.Looks.ld he).andThen .now
 have l6:PySem.W.Looks M h (isInstance (.ref D) (.type "tuple")) false:=l2.andThen (PySem.W.Looks.of_pure tc_notTuple)
 have l7:PySem.W.Looks M h (isExcClass (.ref D)) true:=by
  unfold isExcClass
  exact l1.andThen (by simpa using l3)
 have f:=tc_notTuple
 unfold excMatches
 repeat (first | exact hq | (with_reducible refine l2.at ?_) | (with_reducible refine l7.at ?_) | (with_reducible refine l1.at ?_) | (with_reducible refine l3.at ?_) | (with_reducible refine l5.at ?_) | (with_reducible refine l4.at ?_) | wp_step)
end
def x3 (D:cQ) (i:Nat):cQ:={ nx:=fun σ H=>D.nx (σ.set i none) H,rt:=D.rt,bk:=fun σ H=>D.bk (σ.set i none) H,ct:=fun σ H=>D.ct (σ.set i none) H }
section
variable {X : Cx} {pins : List (Addr × Obj)} {σ : St} {H H1 H' : Hp} {s s1 s' : Shared} {B : Heap} {a C Ch : Addr} {i : Nat} {x n : Str} {np pos hpos : Pos} {b₀ : Stmt} {suite : List Stmt} {ts : TS} {D : cQ} {cZ : List ExceptHandler}
structure x4 (K:PySem.W.Frag) (Ch:Addr):Prop where
 c1:(PySem.W.clsIn K Ch).isSome=true
 c2:PySem.W.typeIn K (.ref Ch)=some (.type "type")
 c3:PySem.W.subIn K (.ref Ch) (.type "BaseException")=some true
theorem aI2 (I:a8 X pins σ H1 s1) (fl:lE X.prog X.w X.stack H1 s1 H' B a C s') (hstk:X.stack=X.env :: X.outer/\X.env.frame=some X.env.locals) (hg:Gl X x) (hm:X.mg x=some (.ref Ch)) (ct:x4 X.K Ch) (sub:PySem.W.subIn X.K (.ref C) (.ref Ch)=some true)
  (hN:X.N.Nodup) (hi:X.N[i]? = some n) (hl:X.env.scope.names.lookup n=some .local) (hs:dQ (X.suite a) (b₀ :: suite) ts) (q:∀ oe:Obj,oe.cls = .ref C->ts (x3 D i) (σ.set i (some (.ref a))) (upd H' a (.frz oe (.own a)))) (hd:(x == ("__debug__" : Str))=false) :
  wpAny (model X.prog X.w) X.A (noteFrame (.ref a) X.env) (fun _ s₂=>wpAny (model X.prog X.w) X.A (setFlight (.ref a) none) (fun _ s₃=>wpAny (model X.prog X.w) X.A (handleBy (.ref a) X.env (.ExceptHandler (some (.Name x np)) (some n) (b₀ :: suite) hpos :: cZ)) (SP X pins D) X.xe s₃) X.xe s₂) X.xe s':=by
 obtain ⟨a0,fly⟩:=fl.fly
 rw [hstk.1] at fly
 refine wpAny_looks_onW (outer:=X.outer) (L:=X.env.locals) (by rw [I.ok.frames,hstk.1]) hstk.2 fly fun h4 held up4=>wpAny_landsW held fun h5 fly5 up5=>?_
 obtain ⟨o5,v5,e5,c5,_⟩:=fly5.first
 have I5:=S2 I fl fly5.1 (up4.trans up5) e5
 refine wpAny_handleBy_cons (codeAny_handlers_test (mZ (I5.suite a) hg hm ?_ hd)) (by intro z; cases z)
 refine aI1 I5.kIn e5 c5 ct.c1 ct.c2 ct.c3 sub ?_
 show codeAny (model X.prog X.w) (X.A.mark (some (.ref a))) (.handlers (.ref a) [.ExceptHandler none (some n) (b₀ :: suite) hpos] X.env) _ _
 refine codeAny_handlers_suite_as (lands_againW fly5 fun h6 fly6 up6=>?_)
 obtain ⟨o6,v6,e6,c6,_⟩:=fly6.first
 have I6:=S2 I fl fly6.1 ((up4.trans up5).trans up6) e6
 refine tT I6 hN hi (.inl hl) (v:=.ref a) rfl (fun s7 I7=>?_) (.inr hl)
 refine bo3 (hs pins s7 _ _ (x3 D i) (I7.suite a) (q o6 c6)) (fun f s8 h8=>?_) fun _ _ z=>z.elim
 show wpAny (model X.prog X.w) X.A (do bindName X.env n .none; unbindBehindTheSuite X.env n hpos) (fun _ s9=>SP X pins D f s9) X.xe s8
 cases f with
 | next=>obtain ⟨σ',H',J,q⟩:=h8; exact rO (J.unsuite I.ok) hN hi hl fun s9 J9=>⟨_,_,J9,q⟩
 | brk=>obtain ⟨σ',H',J,q⟩:=h8; exact rO (J.unsuite I.ok) hN hi hl fun s9 J9=>⟨_,_,J9,q⟩
 | cont=>obtain ⟨σ',H',J,q⟩:=h8; exact rO (J.unsuite I.ok) hN hi hl fun s9 J9=>⟨_,_,J9,q⟩
 | ret u=>obtain ⟨v,σ',H',J,r,q⟩:=h8; exact rO (J.unsuite I.ok) hN hi hl fun s9 J9=>⟨v,_,_,J9,r,q⟩
end
abbrev TB:=cQ->XK->St->Hp->Prop
def XB (X:Cx) (pins:List (Addr × Obj)) (σ:St) (Ex:XK):Value->Shared->Prop:=fun e s'=>∃ H1 s1,a8 X pins σ H1 s1/\eB X.prog X.w X.stack H1 s1 Ex e s'
def PB (X:Cx) (sts:List Stmt) (t:TB):Prop:=
 ∀ (pins:List (Addr × Obj)) (s:Shared) (σ:St) (H:Hp) (D:cQ) (Ex:XK),a8 X pins σ H s->t D Ex σ H->wpAny (model X.prog X.w) X.A (execs sts X.env) (SP X pins D) (XB X pins σ Ex) s
def aI3 (sp:Sp) (t:TA):TB:=fun D Ex σ H=>t σ H fun vs H1=>sp vs H1 (fun _ H2=>D.nx σ H2) Ex
def aI4 (c:TT) (t u:TB):TB:=fun D Ex σ H=>c σ H fun b H1=>if b=true then t D Ex σ H1 else u D Ex σ H1
section
variable {X : Cx} {k : Nat} {f Ch : Addr} {fd : FuncData} {ps : List Str} {sp : Sp} {x n : Str} {p cp pos np hpos : Pos} {e c : Expr} {es : List Expr} {t : TA} {tb ub : TB} {tc : TT} {sa sb body : List Stmt} {i : Nat} {b₀ : Stmt} {suite : List Stmt} {ts : TS}
theorem aI5 (F:dE X.prog X.w X.K X.mg X.base (eB X.prog X.w) k f fd ps sp) (hr:cE k X.A) (hg:Gl X x) (hm:X.mg x=some (.ref f)) (hk:PySem.W.keepIn X.K (.ref f)=true) (hb:iJ X.K fd ps []) (ha:∀ E,PA (X.wish E) (e :: es) t)
  (hdb:(x == ("__debug__" : Str))=false:=by decide) (he:starEach (e :: es) X.env=(false,eval e X.env) :: starEach es X.env:=by rfl) (hpl:(backTo cp (starEach es X.env)).any (·.1)=false:=by rfl) (hsw:swapsWith (.Call (.Name x p) (e :: es) [] cp) none pos.line X.env=pure false:=by rfl) :
  PB X [.Expr (.Call (.Name x p) (e :: es) [] cp) pos] (aI3 sp t):=by
 intro pins s σ H D Ex I h
 refine wpAny_execs_cons (wpAny_Expr_any ?_ I.quiet hsw)
 refine wpAny_Call_Name_kw (mZ I hg hm ?_ hdb)
 refine PySem.W.callWith_K (h₀:=X.base) I.ok.mod.kin hk (aM (ha (XB X pins σ Ex) cp pins s σ H _ (I.wish _) h) fun us s1 h1=>⟨?_,?_⟩) he hpl
 ·obtain ⟨_,_,I1,_⟩:=h1
  exact I1.kIn
 ·obtain ⟨vs,H1,I1,r,q⟩:=h1
  have I1:=I1.unwish
  have hl:us.length=ps.length:=by rw [<- r.length]; exact F.len _ _ _ _ q
  have bd:=hb s1 us I1.kIn (by rw [bk0]; exact hl)
  rw [bk0] at bd
  refine wpAny_call (codeAny_mono (F.run X.A X.stack s1 H1 ⟨us,[]⟩ us vs _ Ex hr I1.env0 bd r q) fun rs s' hq=>?_)
  cases rs with
  | error ev=>exact⟨H1,s1,I1,hq⟩
  | ok fl=>
   cases fl with
   | ret u=>
    obtain ⟨v,H2,I2,_,q2⟩:=I1.after hq
    exact bw1 ⟨σ,H2,I2,q2⟩
   | next=>exact False.elim hq
   | brk=>exact False.elim hq
   | cont=>exact False.elim hq
theorem aI6 (hc:∀ E,PT (X.wish E) c tc) (ha:PB X sa tb) (hb:PB X sb ub):PB X [.If c sa sb pos] (aI4 tc tb ub):=by
 intro pins s σ H D Ex I h
 refine wpAny_execs_cons (wpAny_If (aM (hc (XB X pins σ Ex) pins s σ H _ (I.wish _) h) fun d s1 h1=>?_))
 obtain ⟨H1,I1,q1⟩:=h1
 have I1:=I1.unwish
 have fin:∀ (fl:Flow) (s2:Shared),SP X pins D fl s2->(match fl with | .next=>wpAny (model X.prog X.w) X.A (execs [] X.env) (SP X pins D) (XB X pins σ Ex) s2 | fl=>SP X pins D fl s2):=fun fl s2 q=>by
  cases fl with
  | next=>exact bw1 q
  | _=>exact q
 cases d with
 | true=>exact aM (ha pins s1 σ H1 D Ex I1 q1) fin
 | false=>exact aM (hb pins s1 σ H1 D Ex I1 q1) fin
def S3 (K:PySem.W.Frag) (Ch:Addr) (i:Nat) (tb:TB) (ts:TS):TS:=fun D σ H=>
 tb D (fun c _ H'=>∀ (a C:Addr) (oe:Obj),c = .ref C->H' a=none->oe.cls = .ref C->PySem.W.subIn K (.ref C) (.ref Ch)=some true/\ts (x3 D i) (σ.set i (some (.ref a))) (upd H' a (.frz oe (.own a)))) σ H
theorem aI7 (hstk:X.stack=X.env :: X.outer/\X.env.frame=some X.env.locals) (hb:PB X body tb) (hg:Gl X x) (hm:X.mg x=some (.ref Ch)) (ct:x4 X.K Ch) (hN:X.N.Nodup) (hi:X.N[i]? = some n) (hl:X.env.scope.names.lookup n=some .local) (hs:∀ a,dQ (X.suite a) (b₀ :: suite) ts)
  (hd:(x == ("__debug__" : Str))=false:=by decide):PS X (.Try body [.ExceptHandler (some (.Name x np)) (some n) (b₀ :: suite) hpos] [] [] pos) (S3 X.K Ch i tb ts):=by
 intro pins s σ H D I h
 refine wpAny_Try_except (bo3 (hb pins s σ H D _ I h) (fun fl s1 q=>?_) (fun ev s1 q=>?_))
 ·cases fl with
  | next=>exact bw1 q
  | _=>exact q
 ·obtain ⟨H1,s2,I1,H',B,a,C,e1,fl,q⟩:=q
  subst e1
  obtain ⟨a0,fly⟩:=fl.fly
  obtain ⟨o5,_,_,c5,_⟩:=fly.first
  exact aI2 I1 fl hstk hg hm ct (q a C o5 rfl fl.fresh c5).1 hN hi hl (hs a) (fun oe hc=>(q a C oe rfl fl.fresh hc).2) hd
end
end L2
namespace L2
open PySem PySem.Spec PyProof.Rows PySem.Calls Builtin Builtin.ObjectAttr Builtin.Getset_descriptor
structure iW (K:PySem.W.Frag) (D:Addr):Prop where
 cls:(PySem.W.clsIn K D).isSome=true
 ga:PySem.W.findIn K (.ref D) "__getattribute__" = some (some (.builtin "BaseException.__getattribute__"))
 gt:PySem.W.findIn K (.ref D) "__getattr__" = some none
 fc:PySem.W.findIn K (.ref D) "__class__" = some (some (.builtin "object.__class__"))
 fg:PySem.W.specialIn K (.builtin "object.__class__") "__get__" = some (some (.builtin "getset_descriptor.__get__"))
 ft:PySem.W.takesIn K (.builtin "object.__class__")=some true
 ob:PySem.W.mroIn K D (.type "object")=some true
 be:PySem.W.mroIn K D (.type "BaseException")=some true
def kI (h:Heap) (x D:Addr):Prop:=∃ ox:Obj,h.get? x=some ox/\ox.cls = .ref D
theorem kI.type {h:Heap}{x D:Addr}{M:Model} (I:kI h x D):PySem.W.Looks M h (typeOf (.ref x)) (.ref D):=by
 obtain ⟨ox,e,c⟩:=I
 exact c ▸ (PySem.W.Looks.ld e).andThen .now
section
variable {prog : Program} {w : World} {A : Around} {E : Value → Shared → Prop} {K : PySem.W.Frag} {x D : Addr} {h : Heap} {g : Array GenState} {d : Drawn} {t : Nat} {os : OsState}
theorem aI8 {M:Model} (F:iW K D) (k:K.In h):PySem.W.Looks M h (find (.ref x) (.ref D) "__class__") (.bind (.builtin "getset_descriptor.__get__") (.builtin "object.__class__")):=by
 have L1:=PySem.W.looks_findIn (M:=M) k F.fc
 have L2:=PySem.W.looks_specialIn (M:=M) k F.fg
 have L3:=PySem.W.looks_takesIn (M:=M) k F.ft
 unfold find
 refine L1.andThen (PySem.W.Looks.andThen (a:=some (Value.builtin "getset_descriptor.__get__")) L2 ?_)
 refine PySem.W.Looks.andThen (a:=some (Value.builtin "getset_descriptor.__get__",Value.builtin "object.__class__")) ?_ (PySem.W.Looks.tag .now)
 unfold dataDescriptor?
 exact L3.andThen .now
theorem aI9 {tp:Value}{R:Result->Shared->Prop} (F:iW K D) (k:K.In h) (I:kI h x D) (hq:R (.ok (.ret (.ref D))) ⟨h,g,d,t,os⟩):codeAny (model prog w) A (.call (.builtin "getset_descriptor.__get__") ⟨[.builtin "object.__class__",.ref x,tp],[]⟩) R ⟨h,g,d,t,os⟩:=by
 have L0:=I.type (M:=model prog w)
 have L1:=PySem.W.looks_mroIn (M:=model prog w) k F.ob
 refine codeAny_call_builtin PySem.W.KF.slot_gs.plain PySem.W.KF.entry_gs (PySem.W.KF.slot_gs.check _ _ _ _ _ _ _ _ PySem.W.KF.type_class (PySem.W.KF.args_gs _ _ _) ?_)
 unfold Builtin.«getset_descriptor.__get__» descrGet; rw [PySem.W.dga_obj]
 refine bh0 (bh6 ?_); unfold descrGetter descrCheckInstance descrNameAndClass isInstance
 simp only [PySem.W.KF.owner_class]
 repeat lk
 refine⟨Code.quiet_builtin _ (by decide +kernel),codeAny_builtin PySem.W.KF.entry_class ?_⟩; unfold Builtin.«object.__class__» shownTypeOf
 repeat lk
 exact hq
theorem aJ0 {M:Model}{nameV:Value}{Q:Unit->Shared->Prop} (F:iW K D) (k:K.In h) (I:kI h x D) (hq:Q () ⟨h,g,d,t,os⟩):wpAny M A (checkBuiltinCall "BaseException.__getattribute__" ⟨[.ref x,nameV],[]⟩) Q E ⟨h,g,d,t,os⟩:=by
 have kd:builtinKind "BaseException.__getattribute__" = some .slot:=by decide +kernel
 have sp:splitId "BaseException.__getattribute__" = some ("BaseException","__getattribute__"):=by decide +kernel
 have L:PySem.W.Looks M h (isInstance (.ref x) (.type "BaseException")) true:=(I.type (M:=M)).andThen (PySem.W.looks_mroIn k F.be)
 have ha:=PySem.F.args_bexc_ga (.ref x) nameV
 simp only [checkBuiltinCall,kd,sp]
 refine bh0 (L.at ?_)
 repeat (any_goals (first | assumption | wp_step))
theorem aJ1 {tk:Tok}{Q:Fin->Shared->Prop} (F:iW K D) (k:K.In h) (I:kI h x D) (hq:Q (.done (.ret (.ref D))) ⟨h,g,d,t,os⟩):wpAny (model prog w) A (Builtin.«object.__getattribute__» ⟨[.ref x,.str "__class__" tk],[]⟩) Q E ⟨h,g,d,t,os⟩:=by
 have L0:=I.type (M:=model prog w)
 have L1:=aI8 (M:=model prog w) F k (x:=x)
 refine bh0 (bh6 (bh0 (bh6 (bh0 (L0.at (bh0 (L1.at ?_)))))))
 show wpAny _ _ (holding [_] (call _ _) >>= ret) _ _ _
 exact bh0 (bp7 (wpAny_call (aI9 F k I (bh6 hq))))
theorem aJ2 {tk:Tok}{R:Result->Shared->Prop} (F:iW K D) (k:K.In h) (I:kI h x D) (hq:R (.ok (.ret (.ref D))) ⟨h,g,d,t,os⟩):codeAny (model prog w) A (.call (.builtin "BaseException.__getattribute__") ⟨[.ref x,.str "__class__" tk],[]⟩) R ⟨h,g,d,t,os⟩:=
 codeAny_call_builtin PySem.F.excAttr_ValueError.ga.plain PySem.F.entry_bexc_ga (aJ0 F k I (aJ1 F k I hq))
theorem aJ3 {Q:Option Value->Shared->Prop} (F:iW K D) (k:K.In h) (I:kI h x D) (hq:Q (some (.ref D)) ⟨h,g,d,t+1,os⟩):wpAny (model prog w) A (getAttr? (.ref x) "__class__") Q E ⟨h,g,d,t,os⟩:=by
 have L0:=I.type (M:=model prog w)
 have L1:=PySem.W.looks_findIn (M:=model prog w) k F.ga
 have L2:=PySem.W.looks_findIn (M:=model prog w) k F.gt
 have f3:=PySem.F.excAttr_ValueError.ga.bind (.ref x)
 unfold getAttr? getAttrBy? getAttrBy
 refine bh0 (wpAny_mkText (bh0 (wpAny_attempt (bp7 (bh0 (L0.at (bh0 (L1.at ?_))))))))
 have nx:(onTheHeap (Value.ref D) && Value.builtin "BaseException.__getattribute__" == Value.builtin "object.__getattribute__")=false:=by
  rw [show (Value.builtin "BaseException.__getattribute__" == Value.builtin "object.__getattribute__")=false by decide +kernel,bp5]
 dsimp only
 rw [if_neg (by rw [nx]; decide)]
 unfold getAttrByItsOwn hookBefore
 repeat (any_goals (first | assumption | (with_reducible refine L2.at ?_) | wp_step))
 exact aJ2 F k I (PySem.W.handed_on rfl (bh6 hq))
end
theorem aJ4 {K:PySem.W.Frag}{x D:Addr} (F:iW K D):PySem.W.KitX K (.ref x) (.ref D) (fun h=>kI h x D) where
 ty:=fun _ _ _ I=>I.type
 it:=fun M h k _=>by
  have z:=F.cls
  unfold PySem.W.clsIn at z
  split at z
  ·rename_i c' d' cd' sl' ho
   intro A' Q' E' s' kk q
   unfold isType loadHead
   exact bh0 (wpAny_loadPart (kk _ _ (k _ _ ho)) (bh6 q))
  ·cases z
 ne:=fun h tp dd its n sl k htp=>by
  have z:=F.cls
  refine Bool.eq_false_iff.mpr fun q=>?_
  obtain rfl:D=tp:=Value.ref.inj (beq_iff_eq.mp q)
  unfold PySem.W.clsIn at z
  split at z
  ·rename_i ho
   have y:=(k _ _ ho).symm.trans htp
   cases y
  ·cases z
 ca:=fun {_ _ _ _ _ s} k I q=>by
  obtain ⟨h,g,d,t,os⟩:=s
  exact aJ3 F k I q
end L2
namespace Core
open PySem L2 PP
def gB (ns:List Int):Bool:=((ns.zip (ns.drop 1)).map fun p=>decide (p.1 < p.2)).all id
theorem aJ5 {α β:Type}{l:List α}{f:α->β}{i:Nat}{x:α} (h:l[i]? = some x):(l.take (i+1)).map f=(l.take i).map f ++ [f x]:=by
 rw [bl5,h]; simp
theorem oI:∀ {ns:List Int},gB ns=true->ns.Pairwise (· < ·)
 | [],_=>.nil
 | [x],_=>bl7 _ _
 | x :: y :: r,h=>by
  have e:gB (x :: y :: r)=(decide (x < y) && gB (y :: r)):=rfl
  rw [e,bm9] at h
  have ih:=oI h.2
  refine bt3.mpr ⟨fun z hz=>?_,ih⟩
  rcases bh9.mp hz with rfl | hz
  ·exact bu3 h.1
  ·exact Int.lt_trans (bu3 h.1) (List.rel_of_pairwise_cons ih hz)
theorem S4:∀ {ns:List Int},ns.Pairwise (· < ·)->gB ns=true
 | [],_=>rfl
 | [x],_=>rfl
 | x :: y :: r,h=>by
  have e:gB (x :: y :: r)=(decide (x < y) && gB (y :: r)):=rfl
  have h':=bt3.mp h
  rw [e,S4 h'.2,Bool.and_true]
  exact bh5 (h'.1 y bi6)
def kin (ws:List Int) (ls:List (Int × Int)) (S:List Int) (h:Int):Bool:=!decide (h ∈ S) && decide (ws.getD h.toNat 0<=(((bD ls h).filter fun x=>decide (x ∈ S)).length:Int))
def nextOf (ws:List Int) (ls:List (Int × Int)) (S:List Int):List Int:=((List.range ws.length).map fun (i:Nat)=>(i:Int)).filter (kin ws ls S)
def bB (ws:List Int) (ls:List (Int × Int)) (S:List Int):Nat->List Int
 | 0=>S
 | k+1=>bB ws ls S k ++ nextOf ws ls (bB ws ls S k)
def fH (ws:List Int) (S:List Int):Nat:=(((List.range ws.length).map fun (i:Nat)=>(i:Int)).filter fun x=>!decide (x ∈ S)).length
theorem x5 {α:Type} (p q:α->Bool) (h:∀ x,q x=true->p x=false):∀ L:List α,(L.filter fun x=>!p x && !q x).length+(L.filter q).length=(L.filter fun x=>!p x).length
 | []=>rfl
 | x :: r=>by
  have ih:=x5 p q h r
  cases e1:p x with
  | true=>
   have e2:q x=false:=by
    cases e:q x with
    | false=>rfl
    | true=>have:=h x e; rw [e1] at this; cases this
   simp only [List.filter_cons,e1,e2,Bool.not_true,bu0,bk7,bq8]
   exact ih
  | false=>
   cases e2:q x with
   | true=>
    simp only [List.filter_cons,e1,e2,Bool.not_true,Bool.not_false,bp5,bk7,bq8,if_true,bm5]
    omega
   | false=>
    simp only [List.filter_cons,e1,e2,Bool.not_false,Bool.and_true,bk7,bq8,if_true,bm5]
    omega
theorem x6 {ws:List Int}{ls:List (Int × Int)}{S:List Int}{x:Int} (h:kin ws ls S x=true):decide (x ∈ S)=false:=by
 unfold kin at h
 cases e:decide (x ∈ S) with
 | false=>rfl
 | true=>rw [e] at h; cases h
theorem x8 (ws:List Int) (ls:List (Int × Int)) (S:List Int):fH ws (S ++ nextOf ws ls S)+(nextOf ws ls S).length=fH ws S:=by
 have e:=x5 (fun x=>decide (x ∈ S)) (kin ws ls S) (fun x h=>x6 h) ((List.range ws.length).map fun (i:Nat)=>(i:Int))
 unfold fH
 rw [<- e]
 congr 2
 refine List.filter_congr fun x hx=>?_
 have:decide (x ∈ S ++ nextOf ws ls S)=(decide (x ∈ S) || kin ws ls S x):=by
  rw [bp3]
  unfold nextOf
  simp only [bj8,bk4,bk3,Bool.or_eq_true]
  exact⟨fun z=>z.elim .inl fun z=>.inr z.2,fun z=>z.elim .inl fun z=>.inr ⟨hx,z⟩⟩
 rw [this]
 cases decide (x ∈ S) <;> cases kin ws ls S x <;> rfl
theorem aJ6 (ws:List Int) (S:List Int):fH ws S<=ws.length:=by
 unfold fH
 refine bm4 (bq7 _ _) ?_
 rw [bh8,bw5]; exact bh7 _
theorem aJ7 (ws:List Int) (ls:List (Int × Int)) (S:List Int):(nextOf ws ls S).length<=ws.length:=by
 unfold nextOf
 refine bm4 (bq7 _ _) ?_
 rw [bh8,bw5]; exact bh7 _
def after (ws:List Int) (ls:List (Int × Int)) (S:List Int) (m:Nat):List (List Int):=(List.range m).map fun k=>nextOf ws ls (bB ws ls S k)
theorem S5 (ws:List Int) (ls:List (Int × Int)) (S:List Int) (m:Nat):after ws ls S (m+1)=after ws ls S m ++ [nextOf ws ls (bB ws ls S m)]:=by
 unfold after
 rw [List.range_succ,bi9]; rfl
theorem S6 (ws:List Int) (ls:List (Int × Int)) (ns:List Int):∀ k,(bB ws ls ns k).length+fH ws (bB ws ls ns k)=ns.length+fH ws ns
 | 0=>rfl
 | k+1=>by
  have ih:=S6 ws ls ns k
  have cs:=x8 ws ls (bB ws ls ns k)
  show (bB ws ls ns k ++ nextOf ws ls (bB ws ls ns k)).length+fH ws (bB ws ls ns k ++ nextOf ws ls (bB ws ls ns k))=_
  rw [bi0]; omega
theorem S7 {ws ns:List Int} (hu:ns.Pairwise (· < ·)) (hin:∀ x ∈ ns,0<=x/\x < (ws.length:Int)):ns.length+fH ws ns<=ws.length:=by
 have nd:ns.Nodup:=hu.imp fun h=>Int.ne_of_lt h
 have sub:ns ⊆ ((List.range ws.length).map fun (i:Nat)=>(i:Int)).filter fun x=>decide (x ∈ ns):=fun x hx=>by
  refine bk3.mpr ⟨bk9.mpr ⟨x.toNat,List.mem_range.mpr ?_,?_⟩,bh5 hx⟩
  ·have:=hin x hx; omega
  ·have:=hin x hx; omega
 have h1:=nd.length_le_of_subset sub
 have h2:=x5 (fun _=>false) (fun x=>decide (x ∈ ns)) (fun _ _=>rfl) ((List.range ws.length).map fun (i:Nat)=>(i:Int))
 have h3:(((List.range ws.length).map fun (i:Nat)=>(i:Int)).filter fun x=>!false && !decide (x ∈ ns)).length=fH ws ns:=rfl
 have h4:(((List.range ws.length).map fun (i:Nat)=>(i:Int)).filter fun x=>!false).length<=ws.length:=by
  refine bm4 (bq7 _ _) ?_
  rw [bh8,bw5]; exact bh7 _
 rw [h3] at h2
 omega
theorem x9 (ws:List Int) (ls:List (Int × Int)) (ns:List Int):∀ m,(ns :: after ws ls ns m).flatten=bB ws ls ns m
 | 0=>by simp [after,bB]
 | m+1=>by
  rw [S5,<- List.cons_append,List.flatten_append,x9 ws ls ns m]
  simp [bB]
def cQ (ws:List Int) (ls:List (Int × Int)) (ns:List Int) (m:Nat):Prop:=(∀ k < m,nextOf ws ls (bB ws ls ns k) ≠ [])/\nextOf ws ls (bB ws ls ns m) = []
theorem S8 {ws:List Int}{ls:List (Int × Int)}{ns:List Int}:∀ (m:Nat),(∀ k < m,nextOf ws ls (bB ws ls ns k) ≠ [])->m+fH ws (bB ws ls ns m)<=ws.length
 | 0,_=>by have:=aJ6 ws ns; show 0+fH ws ns<=_; omega
 | m+1,h=>by
  have ih:=S8 m fun k hk=>h k (by omega)
  have cs:=x8 ws ls (bB ws ls ns m)
  have:1<=(nextOf ws ls (bB ws ls ns m)).length:=by
   cases e:nextOf ws ls (bB ws ls ns m) with
   | nil=>exact absurd e (h m (by omega))
   | cons _ _=>exact Nat.succ_le_succ (bn5 _)
  show m+1+fH ws (bB ws ls ns m ++ nextOf ws ls (bB ws ls ns m))<=_
  omega
theorem kJ {ns:List Int}{i:Nat}{x:PV} (h:(intz ns)[i]? = some x):∃ n,x = .int n/\ns[i]? = some n:=by
 rw [bj5] at h
 cases e:ns[i]? with
 | none=>rw [e] at h; cases h
 | some n=>rw [e] at h; exact⟨n,(bk5 h).symm,rfl⟩
theorem oJ {lo:Int}{n i:Nat}{x:PV} (h:(iO lo n)[i]? = some x):x = .int (lo+i)/\i < n:=by
 have hi:i < n:=by
  have:=(bi3.mp h).1
  rwa [gM] at this
 rw [L9 hi] at h
 exact⟨(bk5 h).symm,hi⟩
def rng (n:Nat):List Int:=(List.range n).map fun (i:Nat)=>(i:Int)
theorem mI (n:Nat):(rng n).length=n:=by unfold rng; rw [bh8,bw5]
theorem aJ8 {n i:Nat} (h:i < n):(rng n)[i]? = some (i:Int):=by unfold rng; rw [bj5,List.getElem?_range h]; rfl
theorem kK {n:Nat}{x:Int}:x ∈ rng n ↔ 0<=x/\x < (n:Int):=by
 unfold rng
 rw [bk9]
 constructor
 ·rintro ⟨i,hi,rfl⟩
  have:=List.mem_range.mp hi
  omega
 ·intro h
  exact⟨x.toNat,List.mem_range.mpr (by omega),by omega⟩
theorem lF {α:Type}{l:List α}{p:α->Bool}{i:Nat}{x:α} (h:l[i]? = some x):(l.take (i+1)).filter p=(l.take i).filter p ++ (if p x=true then [x] else []):=by
 rw [bl5,h,List.filter_append]
 congr 1
 cases e:p x <;> simp [e]
theorem rP (a b:List Int):intz (a ++ b)=intz a ++ intz b:=bi9
theorem iX (a:List Int):(intz a).length=a.length:=bh8 _
def eC (ws:List Int) (ls:List (Int × Int)):PV:=.tup [.tup (intz ws),.tup (ls.map fun l=>.tup [.int l.1,.int l.2])]
structure Wb (ws:List Int) (ls:List (Int × Int)):Prop where
 few:ws.length<=40
 most:ls.length<=1700
 links:∀ l ∈ ls,(0<=l.1/\l.1 < ws.length)/\0<=l.2/\l.2 < ws.length
def eD (x:PV) (ns:List Int):Prop:=x = .tup (intz ns) ∨ x = .lst (intz ns)
theorem eD.seq {x:PV}{ns:List Int} (h:eD x ns):i4 x=some (intz ns):=by rcases h with rfl | rfl <;> rfl
theorem eD.seqT {x:PV}{ns:List Int} (h:eD x ns):seqT x=some (intz ns):=by rcases h with rfl | rfl <;> rfl
theorem cD:∀ (ls:List (Int × Int)),flats (ls.map fun l=>PV.tup [.int l.1,.int l.2])=true
 | []=>rfl
 | l :: r=>by
  show (flat (.tup [.int l.1,.int l.2]) && flats (r.map fun l=>PV.tup [.int l.1,.int l.2]))=true
  rw [cD r]; rfl
theorem aJ9 (ws:List Int) (ls:List (Int × Int)):flat (eC ws ls)=true:=by
 show flats [.tup (intz ws),.tup (ls.map fun l=>PV.tup [.int l.1,.int l.2])]=true
 show (flat (.tup (intz ws)) && (flat (.tup (ls.map fun l=>PV.tup [.int l.1,.int l.2])) && true))=true
 show (flats (intz ws) && (flats (ls.map fun l=>PV.tup [.int l.1,.int l.2]) && true))=true
 rw [iL,cD]; rfl
theorem xA (ns:List Int):flat (.tup (intz ns))=true:=iL ns
def mJ:bE:=fun xs Q=>∃ ws ls,xs = [eC ws ls]/\Q (.int ws.length)
def S9:aP:=(bC (aI dS (a6 (cJ (a5 0) (qC (.int 0))) aA)))
abbrev cT (t:aP) (N:List Str) (p:bE):Prop:=∀ xs Q,p xs Q->t { nx:=fun _=>Q .non,rt:=Q } (eV N xs)
theorem aK0:cT S9 ["web"] mJ:=by
 rintro xs Q ⟨ws,ls,rfl,q⟩
 refine⟨_,rfl,_,_,_,rfl,rfl,rfl,_,_,rfl,rfl,trivial,?_⟩
 rw [iX]; exact q
def T0:bE:=fun xs Q=>∃ x ns,xs = [x]/\eD x ns/\ns.length<=1000/\Q (.bl (gB ns))
def inB (n:Nat) (x:Int):Bool:=decide (0<=x) && decide (x < (n:Int))
def oK:bE:=fun xs Q=>∃ ws ls n,xs = [eC ws ls,.int n]/\Q (.bl (inB ws.length n))
def T1:aP:=(bC (iM (nW (a5 1) (qC (.int 0))) (fY (a5 1) (aI mJ (a6 (a5 0) aA)))))
theorem aK1:cT T1 ["web","number"] oK:=by
 rintro xs Q ⟨ws,ls,n,rfl,q⟩
 refine⟨_,rfl,_,_,rfl,rfl,_,rfl,?_⟩
 unfold inB at q
 by_cases h:(0:Int)<=n
 ·rw [bh5 h] at q ⊢
  refine aY ⟨_,rfl,_,rfl,ws,ls,rfl,_,_,rfl,rfl,trivial,?_⟩
  simpa using q
 ·rw [bh2 h] at q ⊢
  exact aN ⟨trivial,by simpa using q⟩
def eO (n:Nat) (ns:List Int):Bool:=gB ns && (ns.map (inB n)).all id
def xB:bE:=fun xs Q=>∃ ws ls x ns,xs = [eC ws ls,x]/\eD x ns/\ns.length<=1000/\Q (.bl (eO ws.length ns))
def aK2:aP:=(bC (iM (aI T0 (a6 (a5 1) aA)) (aI m3 (a6 (dU (dM (a5 1)) [none,some 0] (cG 0) eU (aI oK (a6 (a5 1) (a6 (a5 0) aA)))) aA))))
theorem rQ {x:PV}{ns:List Int} (h:eD x ns):(Slot.sh (flat x) x).tag = .rd->flat x=true:=by
 cases flat x <;> intro z <;> cases z
theorem aK3:cT aK2 ["web","numbers"] xB:=by
 rintro xs Q ⟨ws,ls,x,ns,rfl,hx,hl,q⟩
 refine⟨_,rfl,x,ns,rfl,hx,hl,_,rfl,?_⟩
 unfold eO at q
 cases h:gB ns with
 | false=>rw [h] at q; exact aN ⟨trivial,q⟩
 | true=>
  rw [h] at q
  refine aY ⟨_,rfl,_,hx.seq,rQ hx,by rw [iX]; omega,fun i acc=>acc=(((ns.take i).map (inB ws.length)).map PV.bl),rfl,?_,?_⟩
  ·rintro i y acc hy rfl
   obtain ⟨n,rfl,hn⟩:=kJ hy
   have tk:((ns.take (i+1)).map (inB ws.length)).map PV.bl=((ns.take i).map (inB ws.length)).map PV.bl ++ [PV.bl (inB ws.length n)]:=by rw [aJ5 hn,bi9]; rfl
   exact⟨_,rfl,_,rfl,ws,ls,n,rfl,trivial,tk.symm⟩
  ·rintro acc rfl
   rw [iX,bm1]
   exact⟨_,rfl,trivial,by simpa using q⟩
theorem eD.noscr {x:PV}{ns:List Int} (h:eD x ns):∀ ms,([x]:List PV) ≠ [.scr ms]:=by
 rcases h with rfl | rfl <;> intro ms z <;> cases z
structure DS (ps:List (aC × PV)) (S:List Int):Prop where
 has:∀ i:Int,(bJ ps (Sum.inl i:aC)).isSome=decide (i ∈ S)
 len:ps.length<=S.length
 fl:flats (ps.map (·.2))=true
theorem DS.nil:DS [] []:=⟨fun i=>rfl,bh7 _,rfl⟩
section
variable {κ : Type} [DecidableEq κ]
theorem aK4 {k:κ}:bJ ([]:List (κ × PV)) k=none:=rfl
theorem iY {p:κ × PV}{r:List (κ × PV)}{k:κ} (e:p.1=k):bJ (p :: r) k=some p.2:=by simp [bJ,bs4,e]
theorem iZ {p:κ × PV}{r:List (κ × PV)}{k:κ} (e : ¬ p.1=k):bJ (p :: r) k=bJ r k:=by simp [bJ,bs4,e]
theorem oM (k:κ):∀ kvs:List (κ × PV),(kvs.any fun kv=>decide (kv.1=k))=(bJ kvs k).isSome
 | []=>rfl
 | p :: r=>by
  rw [List.any_cons]
  by_cases e:p.1=k
  ·simp only [iY e,bh5 e,Bool.true_or,Option.isSome_some]
  ·rw [iZ e,bh2 e,Bool.false_or]; exact oM k r
theorem T2 (k j:κ) (y:PV):∀ kvs:List (κ × PV),bJ (kvs.map fun kv=>if kv.1=k then (kv.1,y) else kv) j=(bJ kvs j).map fun x=>if j=k then y else x
 | []=>rfl
 | p :: r=>by
  have ih:=T2 k j y r
  rw [bq3]
  by_cases h:p.1=k
  ·rw [if_pos h]
   by_cases e:p.1=j
   ·rw [iY (p:=(p.1,y)) e,iY e,Option.map_some,if_pos (e.symm.trans h)]
   ·rw [iZ (p:=(p.1,y)) e,iZ e,ih]
  ·rw [if_neg h]
   by_cases e:p.1=j
   ·rw [iY (p:=p) e,iY e,Option.map_some,if_neg (fun z=>h (e.trans z))]
   ·rw [iZ (p:=p) e,iZ e,ih]
theorem T3 (k j:κ) (y:PV):∀ kvs:List (κ × PV),bJ kvs k=none->bJ (kvs ++ [(k,y)]) j=if j=k then some y else bJ kvs j
 | [],_=>by
  by_cases e:k=j
  ·rw [if_pos e.symm]; exact iY (p:=(k,y)) e
  ·rw [if_neg (fun z=>e z.symm)]; exact iZ (p:=(k,y)) e
 | p :: r,hn=>by
  rw [List.cons_append]
  have hk : ¬ p.1=k:=fun z=>by rw [iY z] at hn; cases hn
  rw [iZ hk] at hn
  have ih:=T3 k j y r hn
  by_cases e:p.1=j
  ·rw [iY e,iY e,if_neg (fun z=>hk (e.trans z))]
  ·rw [iZ e,iZ e,ih]
theorem oN (kvs:List (κ × PV)) (k j:κ) (y:PV):bJ (bZ kvs k y) j=if j=k then some y else bJ kvs j:=by
 unfold bZ
 by_cases a:(kvs.any fun kv=>decide (kv.1=k))=true
 ·rw [if_pos a,T2]
  rw [oM] at a
  by_cases e:j=k
  ·obtain ⟨x,hx⟩:=Option.isSome_iff_exists.mp a
   rw [if_pos e,e,hx,Option.map_some,if_pos rfl]
  ·rw [if_neg e]
   cases bJ kvs j with
   | none=>rfl
   | some x=>rw [Option.map_some,if_neg e]
 ·rw [if_neg a]
  refine T3 k j y kvs ?_
  rw [oM] at a
  cases q:bJ kvs k with
  | none=>rfl
  | some x=>rw [q] at a; exact (a rfl).elim
theorem rR (kvs:List (κ × PV)) (k:κ) (v:PV):(bZ kvs k v).length<=kvs.length+1:=by
 unfold bZ
 split
 ·rw [bh8]; omega
 ·rw [bi0,bm5,List.length_nil]; omega
end
theorem T4:∀ (xs:List PV),flats xs=true ↔ ∀ x ∈ xs,flat x=true
 | []=>by simp [flats]
 | x :: r=>by
  unfold flats
  rw [bm9,T4 r]; simp
theorem aK5 {κ:Type} [DecidableEq κ] {ps:List (κ × PV)}{k:κ}{v:PV}{p:κ × PV} (h:p ∈ bZ ps k v):p.2=v ∨ p ∈ ps:=by
 unfold bZ at h
 split at h
 ·obtain ⟨q,hq,e⟩:=bk9.mp h
  split at e
  ·subst e; exact .inl rfl
  ·subst e; exact .inr hq
 ·rcases bk4.mp h with h | h
  ·exact .inr h
  ·rw [bi1.mp h]; exact .inl rfl
theorem T5 {κ:Type} [DecidableEq κ] {ps:List (κ × PV)}{k:κ}{v:PV} (h:flats (ps.map (·.2))=true) (hv:flat v=true):flats ((bZ ps k v).map (·.2))=true:=by
 rw [T4] at h ⊢
 intro x hx
 obtain ⟨p,hp,rfl⟩:=bk9.mp hx
 rcases aK5 hp with e | e
 ·rw [e]; exact hv
 ·exact h _ (bk9.mpr ⟨p,e,rfl⟩)
theorem DS.put {ps:List (aC × PV)}{S:List Int} (h:DS ps S) (x:Int) (v:PV) (hv:flat v=true):DS (bZ ps (Sum.inl x:aC) v) (S ++ [x]):=by
 refine⟨fun i=>?_,?_,T5 h.fl hv⟩
 ·rw [oN]
  by_cases e:i=x
  ·subst e; rw [if_pos rfl]; simp
  ·rw [if_neg (fun z=>e (Sum.inl.inj z)),h.has]
   simp [e]
 ·have:=rR ps (Sum.inl x:aC) v
  have:=h.len
  rw [bi0,bl3]; omega
theorem DS.merge {S:List Int}:∀ {mp ps:List (aC × PV)}{T:List Int},DS ps S->DS mp T->DS (i5 ps mp) (S ++ T):=by
 have key:∀ (mp:List (aC × PV)) {ps:List (aC × PV)} (i:Int),(bJ (i5 ps mp) (Sum.inl i:aC)).isSome=((bJ ps (Sum.inl i:aC)).isSome || (bJ mp (Sum.inl i:aC)).isSome):=fun mp=>by
  induction mp with
  | nil=>intro ps i; show (bJ ps (Sum.inl i:aC)).isSome=_; rw [aK4]; simp
  | cons p r ih=>
   intro ps i
   show (bJ (i5 (bZ ps p.1 p.2) r) (Sum.inl i:aC)).isSome=_
   rw [ih,oN]
   by_cases e:(Sum.inl i:aC)=p.1
   ·rw [if_pos e,iY e.symm]; simp
   ·rw [if_neg e,iZ (Ne.symm e)]
 have keyl:∀ (mp:List (aC × PV)) {ps:List (aC × PV)},(i5 ps mp).length<=ps.length+mp.length:=fun mp=>by
  induction mp with
  | nil=>intro ps; exact bh7 _
  | cons p r ih=>
   intro ps
   have h1:=ih (ps:=bZ ps p.1 p.2)
   have h2:=rR ps p.1 p.2
   show (i5 (bZ ps p.1 p.2) r).length<=_
   rw [bm5]; omega
 have keyf:∀ (mp:List (aC × PV)) {ps:List (aC × PV)},flats (ps.map (·.2))=true->flats (mp.map (·.2))=true->flats ((i5 ps mp).map (·.2))=true:=fun mp=>by
  induction mp with
  | nil=>intro ps h _; exact h
  | cons p r ih=>
   intro ps h g
   have g:(flat p.2 && flats (r.map (·.2)))=true:=g
   rw [bm9] at g
   exact ih (ps:=bZ ps p.1 p.2) (T5 h g.1) g.2
 intro mp ps T h g
 refine⟨fun i=>?_,?_,keyf mp h.fl g.fl⟩
 ·rw [key,h.has,g.has,bp3]; simp
 ·have:=keyl mp (ps:=ps)
  have:=h.len
  have:=g.len
  rw [bi0]; omega
def oO:bE:=fun xs Q=>∃ x ns,xs = [x]/\eD x ns/\ns.length<=1000/\∀ ps,DS ps ns->Q (.dK ps)
def T6:aP:=(aF (dY 1 (qC (.dK [])))
 (aF (dZ (dM (a5 0)) (cG 2)
  (qQ 1 (a5 2) (qC (.bl true))))
 (kX 1)))
theorem aK6:cT T6 ["hearths","inside","hearth"] oO:=by
 rintro xs Q ⟨x,ns,rfl,hx,hl,q⟩
 refine⟨rfl,rfl,_,rfl,_,hx.seq,rQ hx,fun i ρ=>∃ y ps,ρ = [some (.sh (flat x) x),some (.own (.dK ps)),y]/\DS ps (ns.take i),⟨none,[],rfl,DS.nil⟩,?_,?_⟩
 ·rintro i y ρ hy ⟨y0,ps,rfl,d⟩
  obtain ⟨n,rfl,hn⟩:=kJ hy
  have hlen:=d.len
  rw [bo6] at hlen
  refine⟨_,rfl,_,rfl,Sum.inl n,rfl,trivial,by omega,_,_,rfl,?_⟩
  rw [bl5,hn]
  exact d.put n _ rfl
 ·rintro ρ ⟨y,ps,rfl,d⟩
  rw [iX,bm1] at d
  exact⟨_,rfl,trivial,q ps d⟩
def rS:bE:=fun xs Q=>∃ x ns ps S,xs = [x,.dK ps]/\eD x ns/\DS ps S/\ns.length<=10000/\Q (.int ((ns.filter fun x=>decide (x ∈ S)).length:Nat))
def T7:aP:=(bC (aI dS (a6 (dU (dM (a5 0)) [none,some 1] (cG 0) (aT (jI false (a5 0) (a5 1))) (a5 0)) aA)))
theorem aK7:cT T7 ["hearths","inside"] rS:=by
 rintro xs Q ⟨x,ns,ps,S,rfl,hx,d,hl,q⟩
 refine⟨_,rfl,_,hx.seq,rQ hx,by rw [iX]; omega,fun i acc=>acc=intz ((ns.take i).filter fun x=>decide (x ∈ S)),rfl,?_,?_⟩
 ·rintro i y acc hy rfl
  obtain ⟨n,rfl,hn⟩:=kJ hy
  have tk:=lF (p:=fun x=>decide (x ∈ S)) hn
  refine⟨_,rfl,_,rfl,_,.inl ⟨ps,Sum.inl n,rfl,rfl,rfl⟩,_,rfl,?_⟩
  show if (bJ ps (Sum.inl n:aC)).isSome=true then _ else _
  rw [d.has n]
  by_cases h:n ∈ S
  ·rw [bh5 h] at tk ⊢
   refine aY ⟨_,rfl,trivial,?_⟩
   rw [if_pos rfl] at tk
   show _=intz (List.filter _ (List.take (i+1) ns))
   rw [tk,rP]; rfl
  ·rw [bh2 h] at tk ⊢
   refine aN ?_
   rw [if_neg (by decide),bk0] at tk
   show _=intz (List.filter _ (List.take (i+1) ns))
   rw [tk]
 ·rintro acc rfl
  rw [iX,bm1]
  refine⟨_,_,rfl,rfl,trivial,?_⟩
  rw [iX]; exact q
def mK (n:Nat) (ls:List (Int × Int)):List PV:=(List.range n).map fun (k:Nat)=>PV.lst (intz (bD ls k))
def xC:bE:=fun xs Q=>∃ ws ls,xs = [eC ws ls]/\Wb ws ls/\Q (.lst (mK ws.length ls))
theorem aK8 {n:Nat}{ls:List (Int × Int)}{h:Int} (h0:0<=h) (h1:h < (n:Int)):atI (mK n ls) h=some (.lst (intz (bD ls h))):=by
 refine pY h0 ?_
 unfold mK
 rw [bj5,List.getElem?_range (by omega)]
 show some (PV.lst (intz (bD ls ((h.toNat:Nat):Int))))=_
 rw [show ((h.toNat:Nat):Int)=h by omega]
def rT:bE:=fun xs Q=>∃ ws ls ps S h,xs = [eC ws ls,.lst (mK ws.length ls),.dK ps,.int h]/\Wb ws ls/\DS ps S/\0<=h/\h < (ws.length:Int)/\Q (.bl (kin ws ls S h))
def T8:aP:=(bC (iM (jI true (a5 3) (a5 2)) (nW (aI rS (a6 (cJ (a5 1) (a5 3)) (a6 (a5 2) aA))) (cJ (cJ (a5 0) (qC (.int 0))) (a5 3)))))
theorem xD {ws:List Int}{h:Int} (h0:0<=h) (h1:h < (ws.length:Int)):atI (intz ws) h=some (.int (ws.getD h.toNat 0)):=by
 refine pY h0 ?_
 have:h.toNat < ws.length:=by omega
 rw [bj5,bj4,bh4 this]; rfl
theorem aK9:cT T8 ["web","around","burning","hearth"] rT:=by
 rintro xs Q ⟨ws,ls,ps,S,h,rfl,wb,d,h0,h1,q⟩
 refine⟨_,rfl,_,rfl,_,.inl ⟨ps,Sum.inl h,rfl,rfl,rfl⟩,_,rfl,?_⟩
 show if (!(bJ ps (Sum.inl h:aC)).isSome)=true then _ else _
 rw [d.has h]
 unfold kin at q
 by_cases hm:h ∈ S
 ·rw [bh5 hm] at q ⊢
  exact aN ⟨trivial,by simpa using q⟩
 ·rw [bh2 hm] at q ⊢
  have nl:=vH ls h
  have:=wb.most
  refine aY ⟨_,rfl,_,rfl,_,_,_,rfl,rfl,aK8 h0 h1,_,rfl,_,bD ls h,ps,S,rfl,.inr rfl,d,by omega,_,rfl,_,_,_,rfl,rfl,rfl,_,rfl,_,_,_,rfl,rfl,xD h0 h1,_,_,rfl,rfl,trivial,?_⟩
  simpa using q
def oP:bE:=fun xs Q=>∃ ws ls ps S,xs = [eC ws ls,.lst (mK ws.length ls),.dK ps]/\Wb ws ls/\DS ps S/\Q (.tup (intz (nextOf ws ls S)))
def T9:aP:=(bC (aI fZ (a6 (dU (jG (aI mJ (a6 (a5 0) aA))) [none,some 0,some 1,some 2] (cG 0) (aT (aI rT (a6 (a5 1) (a6 (a5 2) (a6 (a5 3) (a6 (a5 0) aA)))))) (a5 0)) aA)))
theorem aL0:cT T9 ["web","around","burning"] oP:=by
 rintro xs Q ⟨ws,ls,ps,S,rfl,wb,d,q⟩
 have few:=wb.few
 refine⟨_,rfl,ws,ls,rfl,_,rfl,by omega,by omega,by rw [gM]; omega,fun i acc=>acc=intz (((rng ws.length).take i).filter (kin ws ls S)),rfl,?_,?_⟩
 ·rintro i y acc hy rfl
  obtain ⟨rfl,hi⟩:=oJ hy
  have hi':i < ws.length:=by omega
  have tk:=lF (p:=kin ws ls S) (aJ8 hi')
  have e0:(0:Int)+(i:Int)=(i:Int):=by omega
  refine⟨_,rfl,_,rfl,_,rfl,_,rfl,ws,ls,ps,S,_,rfl,wb,d,by omega,by omega,_,rfl,?_⟩
  show if kin ws ls S ((0:Int)+(i:Int))=true then _ else _
  rw [e0]
  cases h:kin ws ls S (i:Int) with
  | true=>
   refine aY ⟨_,rfl,trivial,?_⟩
   rw [h,if_pos rfl] at tk
   show _=intz (List.filter _ (List.take (i+1) _))
   rw [tk,rP]
   show _ ++ [PV.int _]=_
   rfl
  | false=>
   refine aN ?_
   rw [h,if_neg (by decide),bk0] at tk
   show _=intz (List.filter _ (List.take (i+1) _))
   rw [tk]
 ·rintro acc rfl
  rw [gM,bl8 (by rw [mI]; omega)]
  exact⟨⟨_,_,rfl,rfl,iL _,trivial,q⟩,fun ns z=>by cases z⟩
def tups (rs:List (List Int)):List PV:=rs.map fun r=>PV.tup (intz r)
theorem aL1 {rs:List (List Int)}{i:Nat}{x:PV} (h:(tups rs)[i]? = some x):∃ r,x = .tup (intz r)/\rs[i]? = some r:=by
 unfold tups at h
 rw [bj5] at h
 cases e:rs[i]? with
 | none=>rw [e] at h; cases h
 | some n=>rw [e] at h; exact⟨n,(bk5 h).symm,rfl⟩
theorem U0 (rs:List (List Int)):(tups rs).length=rs.length:=bh8 _
theorem mL {n:Nat}{ns:List Int} (h:eO n ns=true):gB ns=true/\∀ x ∈ ns,0<=x/\x < (n:Int):=by
 unfold eO at h
 rw [bm9,bq4] at h
 refine⟨h.1,fun x hx=>?_⟩
 have:=h.2 _ (bk9.mpr ⟨x,hx,rfl⟩)
 unfold inB at this
 simpa using this
theorem aL2 {n:Nat}{ns:List Int} (h:eO n ns=true):ns.length<=n:=by
 obtain ⟨h1,h2⟩:=mL h
 have:=S7 (ws:=List.replicate n (0:Int)) (oI h1) (by rw [bs2]; exact h2)
 rw [bs2] at this
 omega
theorem xE {ws:List Int}{ls:List (Int × Int)}{ns:List Int} (h:eO ws.length ns=true) (k:Nat):(bB ws ls ns k).length<=ws.length:=by
 have h1:=S6 ws ls ns k
 have h2:=S7 (oI (mL h).1) (mL h).2
 omega
theorem aL3 (g:Tg) (n:Int):Nw g (.int n):=by cases g <;> first | exact trivial | rfl
def oQ (x:PV) (ns:List Int):Prop:=x = .scr ns ∨ x = .lst (intz ns)
theorem oQ.seq {x:PV}{ns:List Int} (h:oQ x ns):i4 x=some (intz ns):=by rcases h with rfl | rfl <;> rfl
theorem oQ.len {x:PV}{ns:List Int} (h:oQ x ns):qI x=some ns.length:=by
 rcases h with rfl | rfl
 ·rfl
 ·show some (intz ns).length=_
  rw [iX]
def jS:bE:=fun xs Q=>∃ x ns k,xs = [x,.int k]/\oQ x ns/\0<=k/\Q (.int (ns.getD k.toNat 0))
def U1:aP:=(aF (bY (aT (fY (a5 1) (aI dS (a6 (a5 0) aA)))) (bC (cJ (a5 0) (a5 1))) c8)
 (bC (qC (.int 0))))
theorem aL4:cT U1 ["script","k"] jS:=by
 rintro xs Q ⟨x,ns,k,rfl,hx,h0,q⟩
 refine⟨_,rfl,_,rfl,_,_,rfl,hx.len,_,_,rfl,rfl,_,rfl,?_⟩
 by_cases h:k < (ns.length:Int)
 ·rw [bh5 h]
  exact aY ⟨_,rfl,_,rfl,_,_,_,hx.seq,rfl,xD h0 h,aL3 _ _,q⟩
 ·rw [bh2 h]
  rw [bj4,List.getElem?_eq_none (by omega)] at q
  exact aN ⟨trivial,q⟩
def a9 (ls:List (Int × Int)):List PV:=ls.map fun l=>PV.tup [.int l.1,.int l.2]
theorem bQ (ls:List (Int × Int)):(a9 ls).length=ls.length:=bh8 _
def bL (l m:Int × Int):Prop:=l.1 < m.1 ∨ (l.1=m.1/\l.2 < m.2)
abbrev si (n:Int):Option Slot:=some (.sh true (.int n))
def rV:bE:=fun xs Q=>∃ i,xs = [.int i]/\Q (.bl true)
def U2 (K:PySem.W.Frag):aP:=(bC (iM (kG K "int" (a5 0)) (vO (kG K "bool" (a5 0)))))
theorem eD.len {x:PV}{ns:List Int} (h:eD x ns):qI x=some ns.length:=by
 rcases h with rfl | rfl <;> (show some (intz ns).length=_; rw [iX])
theorem aL5 {K:PySem.W.Frag} (k1:PySem.W.kitOne K (.type "int") (.type "int")=some true) (k2:PySem.W.kitOne K (.type "int") (.type "bool")=some false):cT (U2 K) ["found"] rV:=by
 rintro xs Q ⟨i,rfl,q⟩
 exact⟨_,rfl,_,_,rfl,k1,_,rfl,aY ⟨_,rfl,_,_,rfl,k2,_,rfl,trivial,q⟩⟩
theorem j4 {ls:List (Int × Int)}{i:Nat}{x:PV} (h:(a9 ls)[i]? = some x):∃ l,x = .tup [.int l.1,.int l.2]/\ls[i]? = some l:=by
 unfold a9 at h
 rw [bj5] at h
 cases e:ls[i]? with
 | none=>rw [e] at h; cases h
 | some n=>rw [e] at h; exact⟨n,(bk5 h).symm,rfl⟩
end Core
namespace PP
open PySem L2 PyProof.Rows
theorem Reps.rep {K:PySem.W.Frag}{M:Addr->Prop}{H:Hp}{us:List V}{xs:List PV} (r:Reps K M H us xs):∀ k:Nat,Reps K M H (List.replicate k us).flatten (List.replicate k xs).flatten
 | 0=>.nil
 | k+1=>by rw [bq5,bq5,bs0,bs0]; exact r.append (Reps.rep r k)
section
variable {X : Cx} {a b e : Expr} {ta tb te : aE} {tr : cR} {pos p2 p3 pos2 : Pos}
def xF:V->Int
 | .int i=>i
 | _=>0
def lG (H:Hp):V->List Int
 | .ref a=>match H a with
  | some (.tup us)=>us.map xF
  | _=>[]
 | _=>[]
theorem aL6 {H:Hp}{a:Addr}{ns:List Int} (h:H a=some (.tup (ns.map V.int))):lG H (.ref a)=ns:=by
 show (match H a with | some (.tup us)=>us.map xF | _=>[])=ns
 rw [h]
 show (ns.map V.int).map xF=ns
 rw [bv0]
 exact List.map_id _
theorem U3 {K:PySem.W.Frag}{M:Addr->Prop}{H:Hp}:∀ {us:List V}{ys:List (List Int)},Reps K M H us (ys.map fun r=>PV.tup (intz r))->us.map (lG H)=ys/\∀ u ∈ us,∃ b,u = .ref b/\H b=some (.tup ((lG H u).map V.int))
 | _,[],.nil=>⟨rfl,fun u h=>nomatch h⟩
 | _,y :: ys,.cons r t=>by
  obtain ⟨a,us,rfl,h,r1⟩:=r.sqT
  obtain rfl:=r1.ofInts
  obtain ⟨h1,h2⟩:=U3 t
  have hk:=aL6 h
  refine⟨by rw [bq3,h1,hk],fun u hu=>?_⟩
  rcases bh9.mp hu with rfl | hu
  ·exact⟨a,rfl,by rw [hk]; exact h⟩
  ·exact h2 u hu
theorem U4 {K:PySem.W.Frag}{M:Addr->Prop}{H:Hp}:∀ {us:List V},(∀ u ∈ us,∃ b,u = .ref b/\H b=some (.tup ((lG H u).map V.int)))->Reps K M H us ((us.map (lG H)).map fun r=>PV.tup (intz r))
 | [],_=>.nil
 | u :: us,h=>by
  obtain ⟨b,rfl,hb⟩:=h u bi6
  exact .cons (.tup hb (Reps.intz _)) (U4 fun v hv=>h v (bi7 _ hv))
end
def aL7 (K:PySem.W.Frag):Sp:=fun vs H Q _=>∃ (a:Addr) (ns:List Int),vs = [.ref a]/\(aO K H a (ns.map V.int) ∨ aR K H a (ns.map V.int))/\ns.length<=1000/\∀ H',aG H H'->Q (.bl (Core.gB ns)) H'
def U5:Sp:=fun vs H Q _=>∃ v ws ls,vs = [v]/\J4 H v ws ls/\ws.length<=1000/\ls.length<=2000/\(∀ l ∈ ls,(0<=l.1/\l.1 < ws.length)/\0<=l.2/\l.2 < ws.length)/\
 ∀ (r:Addr) (bs:List Addr) (H':Hp),bs.length=ws.length->jE H H' r bs (fun k=>bD ls k)->Q (.ref r) H'
section
variable {P : Program} {w : World} {K : PySem.W.Frag} {mg : Str → Option Value} {base : Heap} {f : Addr} {fd : FuncData} {k : Nat}
theorem U6 (F:dE P w K mg base eJ k f fd ["things"] (aL7 K)) (b:iJ K fd ["things"] []) (kp:PySem.W.keepIn K (.ref f)=true) (m:mg "rises" = some (.ref f)):Df P w K mg base k "rises" ["things"] Core.T0:=by
 refine⟨f,fd,F.imp fun vs H Q E h=>?_,b,kp,m⟩
 obtain ⟨xs,Qp,r,⟨x,ns,rfl,hx,hl,q⟩,k⟩:=h
 obtain ⟨v,rfl,r1⟩:=r.one
 rcases hx with rfl | rfl
 ·obtain ⟨a,us,rfl,h,r2⟩:=r1.sqT
  obtain rfl:=r2.ofInts
  exact⟨a,ns,rfl,.inl (aO.of h),hl,fun H' s=>k _ H' _ s (.bl _) q⟩
 ·obtain ⟨a,us,rfl,_,h,r2⟩:=r1.sqL
  obtain rfl:=r2.ofInts
  exact⟨a,ns,rfl,.inr (aR.of h),hl,fun H' s=>k _ H' _ s (.bl _) q⟩
theorem qA {M:Addr->Prop}{H:Hp}:∀ {us:List V}{ls:List (Int × Int)},Reps K M H us (ls.map fun l=>PV.tup [.int l.1,.int l.2])->lU H us ls
 | _,[],.nil=>.nil
 | _,l :: ls,.cons r t=>by
  obtain ⟨a,us,rfl,h,r1⟩:=r.sqT
  obtain ⟨u1,u2,rfl,q1,q2⟩:=r1.two
  cases q1; cases q2
  exact .cons ⟨a,rfl,h⟩ (qA t)
theorem aL8 {M:Addr->Prop}{H:Hp}{v:V}{ws:List Int}{ls:List (Int × Int)} (r:aJ K M H v (Core.eC ws ls)):J4 H v ws ls:=by
 obtain ⟨a,us,rfl,h,r1⟩:=aJ.sqT r
 obtain ⟨u1,u2,rfl,q1,q2⟩:=r1.two
 obtain ⟨p,up,rfl,hp,rp⟩:=q1.sqT
 obtain ⟨q,uq,rfl,hq,rq⟩:=q2.sqT
 obtain rfl:=rp.ofInts
 exact⟨a,p,q,uq,rfl,h,hp,hq,qA rq⟩
theorem U7 {M:Addr->Prop}{H:Hp}:∀ {bs:List Addr}{ls:List (Int × Int)} (off:Nat),(∀ b ∈ bs,M b)->(∀ (k:Nat) b,bs[k]? = some b->H b=some (.lst ((bD ls ((off+k:Nat):Int)).map V.int)))->Reps K M H (bs.map V.ref) ((List.range' off bs.length).map fun (k:Nat)=>PV.lst (intz (bD ls k)))
 | [],_,_,_,_=>.nil
 | b :: bs,ls,off,hm,h=>by
  refine .cons (.lst (hm b bi6) (h 0 b rfl) (Reps.intz _)) (U7 (off+1) (fun c hc=>hm c (bi7 _ hc)) fun k c hk=>?_)
  have:=h (k+1) c (by rw [bu2]; exact hk)
  rw [show off+1+k=off+(k+1) by omega]; exact this
theorem aL9 (F:dE P w K mg base eJ k f fd ["web"] U5) (b:iJ K fd ["web"] []) (kp:PySem.W.keepIn K (.ref f)=true) (m:mg "near_lists" = some (.ref f)):Df P w K mg base k "near_lists" ["web"] Core.xC:=by
 refine⟨f,fd,F.imp fun vs H Q E h=>?_,b,kp,m⟩
 obtain ⟨xs,Qp,r,⟨ws,ls,rfl,wb,q⟩,k⟩:=h
 obtain ⟨v,rfl,r1⟩:=r.one
 have:=wb.few
 have:=wb.most
 refine⟨v,ws,ls,rfl,aL8 r1,by omega,by omega,wb.links,fun t bs H' hb R=>k _ H' _ R.same (.lst R.new R.row ?_) q⟩
 have:=U7 (K:=K) (M:=fun a=>H a=none) (H:=H') (bs:=bs) (ls:=ls) 0 (fun b hb=>(R.news b hb).1) fun k b hk=>by rw [Nat.zero_add]; exact R.rows k b hk
 rw [hb,<- List.range_eq_range'] at this
 exact this
end
end PP
namespace Core
open PySem L2 PP
theorem U8 (n:Nat):iO 0 n=intz (rng n):=by
 unfold iO rng
 show _=List.map PV.int (List.map (fun (i:Nat)=>(i:Int)) (List.range n))
 rw [bv0]
 refine List.map_congr_left fun i _=>?_
 show PV.int (0+(i:Int))=PV.int (i:Int)
 rw [Int.zero_add]
theorem xG (n:Nat):(rng n).Nodup:=by
 unfold rng
 rw [List.nodup_iff_pairwise_ne,bs1]
 exact (List.nodup_range (n:=n)).imp fun h e=>h (by omega)
def two (l:Int × Int):List Int:=[l.1,l.2]
def oR (r:List Int):Int × Int:=(r.getD 0 0,r.getD 1 0)
theorem kL (ls:List (Int × Int)):a9 ls=(ls.map two).map fun r=>PV.tup (intz r):=by
 unfold a9
 rw [bv0]; rfl
theorem xH {zs:List (List Int)}{ls:List (Int × Int)} (h:zs.Perm (ls.map two)):∃ ls':List (Int × Int),zs=ls'.map two/\ls'.Perm ls:=by
 refine⟨zs.map oR,?_,?_⟩
 ·rw [bv0]
  have:∀ z ∈ zs,(two ∘ oR) z=z:=fun z hz=>by
   obtain ⟨l,_,rfl⟩:=bk9.mp (h.mem_iff.mp hz)
   rfl
  rw [List.map_congr_left this,List.map_id']
 ·have:=h.map oR
  rw [bv0] at this
  have e:ls.map (oR ∘ two)=ls:=by
   have:∀ l ∈ ls,(oR ∘ two) l=id l:=fun l _=>rfl
   rw [List.map_congr_left this,List.map_id]
  rw [e] at this
  exact this
theorem xI {ls:List (Int × Int)} (so:(ls.map two).Pairwise fun u v=>HT.cA v u=false) (nd:ls.Nodup):ls.Pairwise bL:=by
 rw [bs1] at so
 refine (List.pairwise_and_iff.mpr ⟨so,nd⟩).imp fun {a b} h=>?_
 obtain ⟨h1,h2⟩:=h
 unfold two at h1
 rw [HT.iK] at h1
 unfold bL
 by_cases e:b.1=a.1
 ·rw [if_pos e,HT.iK] at h1
  by_cases e2:b.2=a.2
  ·exact absurd (Prod.ext e.symm e2.symm) h2
  ·rw [if_neg e2] at h1
   have:=bv8 h1
   omega
 ·rw [if_neg e] at h1
  have:=bv8 h1
  omega
def bF (l:Int × Int):List aC:=[Sum.inl l.1,Sum.inl l.2]
structure xJ (i:Int) (ms:List Int):Prop where
 up:ms.Pairwise (· < ·)
 inn:∀ x ∈ ms,0<=x/\x < i
 len:(ms.length:Int)<=i
theorem xJ.set {n:Nat}{ms:List Int} (h:xJ (n:Int) ms):eO n ms=true:=by
 unfold eO
 rw [S4 h.up,Bool.true_and,bq4]
 intro b hb
 obtain ⟨x,hx,rfl⟩:=bk9.mp hb
 have:=h.inn x hx
 unfold inB
 simp [this]
def U9:bE:=fun xs Q=>∃ ns:List Int,xs = [.scr ns]/\ns.length<=63/\Q (.bl true)
structure aM0 (K:PySem.W.Frag):Prop where
 ii:PySem.W.kitOne K (.type "int") (.type "int")=some true
 ib:PySem.W.kitOne K (.type "int") (.type "bool")=some false
 tt:PySem.W.kitOne K (.type "tuple") (.type "tuple")=some true
 ll:PySem.W.kitOne K (.type "list") (.type "list")=some true
 bb:PySem.W.kitOne K (.type "bool") (.type "bool")=some true
theorem xK (K:PySem.W.Frag):aM0 K:=by
 have same:∀ n:String,PySem.W.kitMeta n=true->True:=fun _ _=>trivial
 refine⟨?_,?_,?_,?_,?_⟩
 ·unfold PySem.W.kitOne; rw [if_pos (by decide)]
 ·have e:(if PySem.W.kitMeta "bool" = true then (fastBuiltinMro "int").map (·.contains (Value.type "bool")) else none)=some false:=by decide +kernel
  unfold PySem.W.kitOne
  rw [if_neg (by decide)]
  exact e
 ·unfold PySem.W.kitOne; rw [if_pos (by decide)]
 ·unfold PySem.W.kitOne; rw [if_pos (by decide)]
 ·unfold PySem.W.kitOne; rw [if_pos (by decide)]
end Core
namespace PP
open PySem L2 PyProof.Rows
theorem aM1 {P:Program}{w:World}{K:PySem.W.Frag}{mg:Str->Option Value}{base:Heap}{k:Nat}{x:Str}{ps N:List Str}{p:bE}{st:Stmt}{f:Addr}{fd:FuncData} (F:fL K x x st f fd) (S:FnScope N ps (aU st))
  (len:∀ xs Q,p xs Q->xs.length=ps.length)
  (body:∀ (cdv:Value) (A:Around) (outer:List Env) (s:Shared) (H:Hp) (E:XK),cE k (A.deeper (envOfC x (aU st) s.heap.objs.size f cdv))->
   ∃ t,eW (dG eJ P w K mg base N x (aU st) f cdv A outer s H E).nox (eR st) t/\∀ xs Q,p xs Q->t { nx:=fun _=>Q .non,rt:=Q } (eV N xs)):dE P w K mg base eJ (k+1) f fd ps (nS K p):=by
 refine F.ok S (fun vs H Q E h=>?_) (fun cdv A outer s H vs Q E hr h=>?_)
 ·obtain ⟨xs,Qp,r,q,_⟩:=h
  rw [r.length]; exact len xs Qp q
 ·obtain ⟨xs,Qp,r,q,k⟩:=h
  obtain ⟨t,ht,hq⟩:=body cdv A outer s H E hr
  refine⟨_,ht,fun _=>False,eV N xs,_,wK r,hq xs Qp q,?_,?_,?_,?_⟩
  ·exact fun W' σ' H' ρ' e px q=>k _ _ _ px.same .non q
  ·exact fun v H' x s r q=>k _ _ _ s r q
  ·exact fun W' σ' H' ρ' e px q=>q
  ·exact fun W' σ' H' ρ' e px q=>q
def rW (K:PySem.W.Frag):Sp:=fun vs H Q _=>∃ (a:Addr) (ns:List Int),vs = [.ref a]/\jF K H a ns/\ns.length<=63/\∀ H',Q (.bl true) H'
theorem aM2 {P:Program}{w:World}{K:PySem.W.Frag}{mg:Str->Option Value}{base:Heap}{k:Nat}{f:Addr}{fd:FuncData} (F:dE P w K mg base eJ k f fd ["script"] (nS K Core.U9)):dE P w K mg base eJ k f fd ["script"] (rW K):=
 F.imp fun vs H Q E h=>by
  obtain ⟨a,ns,rfl,hs,hl,q⟩:=h
  refine⟨[.scr ns],fun z=>z = .bl true,.cons (.scr hs) .nil,⟨ns,rfl,hl,rfl⟩,?_⟩
  rintro v H' x _ r rfl
  cases r
  exact q H'
theorem aM3 {K:PySem.W.Frag}{H:Hp}{a:Addr}{ns:List Int} (hO:pR H) (h:aR K H a (ns.map V.int)):jF K H a ns:=by
 rcases h with (h | ⟨o,h⟩) | h
 ·rcases hO a with e | ⟨o,xs,e⟩ <;> (rw [h] at e; cases e)
 ·exact .inl ⟨o,h⟩
 ·exact .inr h
end PP
namespace PyProof.Rows
open PySem
end PyProof.Rows
namespace PP
open PySem L2 PyProof.Rows
section
variable {X : Cx} {a b e : Expr} {ta tb te : aE} {tr : cR} {pos p2 : Pos}
def V0:PV->Tg->PV->Tg->PK->Prop:=fun x _ y _ Q=>∃ xs ys,x = .lst xs/\y = .lst ys/\flats xs=true/\flats ys=true/\xs.length+ys.length<=16000000/\Q (.lst (xs ++ ys)) .fr
abbrev j5 (ta tb:aE):aE:=q2 V0 ta tb
theorem aM4:dL X V0 E4:=by
 rintro W Hs H u v x y g g' Q Q' s n r1 r2 ⟨xs,ys,rfl,rfl,f1,f2,hl,q⟩ k
 obtain ⟨a,us,rfl,_,h1,q1⟩:=r1.sqL
 obtain ⟨b,ws,rfl,_,h2,q2⟩:=r2.sqL
 have l1:=q1.length
 have l2:=q2.length
 refine⟨a,b,us,ws,rfl,rfl,h1,h2,lim (by omega),fun p hp=>k _ _ _ .fr (bU hp _) (.lst (s.free hp) bO (((q1.flat f1).append (q2.flat f2)).same (bU hp _) fun _ z=>z)) q⟩
theorem oS (ha:QE X a ta) (hb:QE X b tb):QE X (.BinOp a .Add b pos) (j5 ta tb):=iV as3 aM4 ha hb
end
end PP
namespace L2
open PySem PySem.Spec PyProof.Rows
def xL (K:PySem.W.Frag) (a:Addr):It:=
  ⟨fun i H=>∃ xs x,aR K H a xs/\xs[i]? = some x,
   fun i H v H'=>∃ T x,H T=none/\v = .ref T/\H'=upd H T (.tup [.int i,x])/\∀ xs,aR K H a xs->xs[i]? = some x,
   fun i H=>∃ xs,aR K H a xs/\xs.length<=i⟩
structure aM5 (e it a:Addr) (i:Nat) (h:Heap):Prop where
 ee:∃ old,IsEnum h e it i old
 s1:h.IsListIter it a i
theorem aM6 {P:Program}{w:World}{K:PySem.W.Frag}{elts:List Expr}{k:Nat}{pos:Pos} (a e it:Addr) (d:e ≠ it) :
  iH P w K (.Tuple elts k pos) (xL K a) [e,it] e (aM5 e it a):=by
 refine⟨by simp,fun i h st c hc=>?_,fun i h h' st kp=>?_,?_,?_,fun A i s Q E st q=>?_⟩
 ·simp only [bh9,bi5,bm2] at hc
  obtain ⟨old,ee⟩:=st.ee
  obtain ⟨o1,f1,g1,d1⟩:=st.s1
  rcases hc with rfl | rfl
  ·exact⟨_,ee,fun v q=>by cases q⟩
  ·exact⟨_,f1,fun v q=>by rw [d1] at q; cases q⟩
 ·obtain ⟨old,ee⟩:=st.ee
  exact⟨⟨old,kp e (by simp) _ ee⟩,st.s1.at fun o z=>kp it (by simp) o z⟩
 ·intro X hP hw hK hc i pins s σ H E I hf st hg
  subst hP hw hK
  obtain ⟨xs,x,ha,hx⟩:=hg
  obtain ⟨us,ru,pu,lu⟩:=I.list ha
  obtain ⟨ux,eux,rux⟩:=ru.get hx
  obtain ⟨old,ee⟩:=st.ee
  refine wpAny_pyNext_enum_item ee st.s1 pu.isList (by simpa using eux) d fun h' eo it' pr sz kp=>⟨_,rfl,?_⟩
  refine wpAny_letOwnedTupleGo_enum (s:={ s with heap:=h',toks:=s.toks+1 }) eo fun g zz sb=>?_
  have hzl:e < s.heap.objs.size:=bi4 ee
  have up:∀ c o,c ≠ e->c ≠ it->s.heap.get? c=some o->g.get? c=some o:=fun c o c1 c2 z=>sb.extBut c o c1 (kp c o c1 c2 z)
  have hT:H s.heap.objs.size=none:=I.hok.fresh (bh7 _)
  have prG:g.get? s.heap.objs.size=some { cls:=.type "tuple",data:=.seq #[.int i s.toks,ux] }:=sb.extBut _ _ (bq0 hzl) pr
  have fpn:∀ c u,H c=some u->c ∉ [e,it]:=fun c u z hm=>by rw [(hf c hm).1] at z; cases z
  have upH:∀ c o u,H c=some u->s.heap.get? c=some o->g.get? c=some o:=fun c o u q z=>by
   have:=fpn c u q
   simp only [bh9,bi5,bm2,not_or] at this
   exact up c o this.1 this.2 z
  have ns:∀ m,s.heap.Ns X.env.locals m->g.Ns X.env.locals m:=fun m hm=>by
   obtain ⟨o,es,ep,e1,e2⟩:=hm
   exact⟨o,es,ep,up _ o (Ne.symm (hf e (by simp)).2.1) (Ne.symm (hf it (by simp)).2.1) e1,e2⟩
  have I2:a8 X pins σ (upd H s.heap.objs.size (.tup [.int i,x])) { s with heap:=g,toks:=s.toks+1 }:=by
   refine I.step (g':=s.gens) (d':=s.drawn) (ch:=[e,it]) (fun c hc'=>?_) (fun c o _ _ hc' z _=>?_) (fun c o _ _ hc' z _=>⟨o.slots,?_⟩) (fun c o _ z n=>?_) (fun c o hc' z=>⟨o,?_⟩)
    (fun c zs z=>by rw [aW (cY z hT)]; exact z) (fun c u zs z=>by rw [aW (cY z hT)]; exact z) (fun c ps z=>⟨#[],by rw [aW (cY z hT),z]; simp⟩) ns (fun c u z=>?_) I.bare
   ·exact⟨(hf c hc').2.2.2.1,(hf c hc').2.1,(hf c hc').2.2.2.2.1,(hf c hc').2.2.2.2.2⟩
   ·simp only [bh9,bi5,bm2,not_or] at hc'
    exact up c o hc'.1 hc'.2 z
   ·simp only [bh9,bi5,bm2,not_or] at hc'
    exact up c o hc'.1 hc'.2 z
   ·rw [aW (bk6 (bi4 z))]; exact n
   ·simp only [bh9,bi5,bm2,not_or] at hc'
    exact up c o hc'.1 hc'.2 z
   ·by_cases hcT:c=s.heap.objs.size
    ·subst hcT
     rw [bO] at z; cases z
     exact⟨by show 2<=sizeLine; decide,[.int i s.toks,ux],.cons ⟨_,rfl⟩ (.cons rux .nil),⟨_,prG,rfl,_,rfl⟩,fun u e=>by rw [prG] at e; cases e; rfl⟩
    ·rw [aW hcT] at z
     refine (I.hok c u z).stay (fun c' o' hc2 q'=>?_) (fun c' q'=>by rw [aW (cY q' hT)]; exact q') fun c' zs q'=>by rw [aW (cY q' hT)]; exact q'
     rcases hc2 with rfl | hc2
     ·exact upH _ _ _ z q'
     ·exact upH _ _ _ hc2 q'
  refine⟨.ref s.heap.objs.size,_,I2,rfl,⟨_,x,hT,rfl,rfl,fun xs' ha'=>?_⟩,⟨⟨ux,by push_cast; exact zz⟩,it'.at fun o z=>sb.extBut _ o (Ne.symm d) z⟩,fun c hc'=>?_⟩
  ·rw [I.list_inj ha' ha]; exact hx
  ·obtain ⟨o,z⟩:∃ o,s.heap.get? c=some o:=by
    simp only [bh9,bi5,bm2] at hc'
    obtain ⟨o1,f1,_⟩:=st.s1
    rcases hc' with rfl | rfl
    ·exact⟨_,ee⟩
    ·exact⟨_,f1⟩
   rw [aW (bk6 (bi4 z))]; exact (hf c hc').1
 ·intro X hP hw hK hc i pins s σ H E I hf st hg
  subst hP hw hK
  obtain ⟨xs,ha,hi⟩:=hg
  obtain ⟨us,ru,pu,lu⟩:=I.list ha
  obtain ⟨old,ee⟩:=st.ee
  have hh:X.A.handled=none:=I.ok.hd hc
  have e1:=ru.length
  refine wpAny_pyNext_enum_end hh ee st.s1 pu.isList (by rw [Array.getElem?_eq_none]; simp only [bh3]; omega) fun g kp=>⟨rfl,?_⟩
  have fpn:∀ c u,H c=some u->c ∉ [e,it]:=fun c u z hm=>by rw [(hf c hm).1] at z; cases z
  have upH:∀ c o u,H c=some u->s.heap.get? c=some o->g.get? c=some o:=fun c o u q z=>by
   have:=fpn c u q
   simp only [bh9,bi5,bm2,not_or] at this
   exact kp c o this.2 z
  have ns:∀ m,s.heap.Ns X.env.locals m->g.Ns X.env.locals m:=fun m hm=>by
   obtain ⟨o,es,ep,e1,e2⟩:=hm
   exact⟨o,es,ep,kp _ o (Ne.symm (hf it (by simp)).2.1) e1,e2⟩
  refine I.step (g':=s.gens) (d':=s.drawn) (ch:=[it]) (fun c hc'=>?_) (fun c o _ _ hc' z _=>?_) (fun c o _ _ hc' z _=>⟨o.slots,?_⟩) (fun c o _ z n=>n) (fun c o hc' z=>⟨o,?_⟩)
   (fun c zs z=>z) (fun c u zs z=>z) (fun c ps z=>⟨#[],by rw [z]; simp⟩) ns (fun c u z=>?_) I.bare
  ·have hm:c ∈ [e,it]:=bi7 _ hc'
   exact⟨(hf c hm).2.2.2.1,(hf c hm).2.1,(hf c hm).2.2.2.2.1,(hf c hm).2.2.2.2.2⟩
  ·exact kp c o (fun y=>hc' (by rw [y]; simp)) z
  ·exact kp c o (fun y=>hc' (by rw [y]; simp)) z
  ·exact kp c o (fun y=>hc' (by rw [y]; simp)) z
  ·refine (I.hok c u z).stay (fun c' o' hc2 q'=>?_) (fun _ q'=>q') fun _ _ q'=>q'
   rcases hc2 with rfl | hc2
   ·exact upH _ _ _ z q'
   ·exact upH _ _ _ hc2 q'
 ·obtain ⟨old,ee⟩:=st.ee
  exact wpAny_pyIter_enum ee q
end L2
namespace Zp
open PySem PyProof.Rows
section
variable {prog : Program} {w : World} {A : Around} {E : Value → Shared → Prop} {s : Shared}
theorem aM7 {e it t:Addr}{i:Nat}{items:Array Value}{x old:Value}{Q:Option Value->Shared->Prop} (he:IsEnum s.heap e it i old) (hi:s.heap.IsTupleIter it t i) (ht:s.heap.IsTuple t items) (hx:items[i]? = some x) (ne:e ≠ it)
  (q:∀ h',IsEnumOut h' e it ((i:Int)+1) x s.heap.objs.size->h'.IsTupleIter it t (i+1)->h'.get? s.heap.objs.size=some { cls:=.type "tuple",data:=.seq #[.int i s.toks,x] }->h'.objs.size=s.heap.objs.size+1->
   (∀ b o,b ≠ e->b ≠ it->s.heap.get? b=some o->h'.get? b=some o)->Q (some (.ref s.heap.objs.size)) { s with heap:=h',toks:=s.toks+1 }):wpAny (model prog w) A (pyNext (.ref e)) Q E s:=by
 have T:s.TypeIs (.ref e) "enumerate":=⟨_,he,rfl⟩
 have slot:=PySem.F.slot_enumerate_next
 unfold pyNext
 apply bh0
 apply wpAny_attempt
 apply bo1 (name:=Str.ofString "__next__") T slot
 apply bn8 slot T PySem.F.entry_enumerate_next _ (PySem.F.args_enumerate_next_1 _)
 change wpAny _ _ (field (.ref e) 2 >>= _) _ _ _
 apply bh0
 refine bo0 he rfl (x:=.ref it) rfl ?_
 apply bh0
 refine J5 hi ht hx fun g1 it1 sb1=>?_
 have e1:IsEnum g1 e it i old:=sb1.extBut _ _ ne he
 change wpAny _ _ (field (.ref e) 3 >>= _) _ _ _
 apply bh0
 refine bo0 e1 rfl (x:=rawInt i) rfl ?_
 change wpAny _ _ (field (.ref e) 4 >>= _) _ _ _
 apply bh0
 refine bo0 e1 rfl (x:=.none) rfl ?_
 change wpAny _ _ (mkInt i >>= _) _ _ _
 apply bh0
 refine wpAny_mkInt ?_
 change wpAny _ _ (setField (.ref e) 3 (rawInt ((i:Int)+1)) >>= _) _ _ _
 apply bh0
 refine bo9 e1 (by simp) fun g2 e2 sb2=>?_
 apply bh0
 refine bo9 e2 (by simp) fun g3 e3 sb3=>?_
 have e3:IsEnum g3 e it ((i:Int)+1) old:=e3
 apply bh0
 refine wpAny_newTuple ?_ (by show 2<=sizeLine; decide)
 have e4:IsEnum (g3.push { cls:=.type "tuple",data:=.seq #[.int i s.toks,x] }) e it ((i:Int)+1) old:=bh1 _ e3
 have size:g3.objs.size=s.heap.objs.size:=by rw [sb3.1,sb2.1,sb1.1]
 change wpAny _ _ (Builtin.SmallTypes.ownedTupleIsFree (.ref e) >>= _) _ _ _
 apply bh0
 unfold Builtin.SmallTypes.ownedTupleIsFree
 apply bh0
 refine bo0 e4 rfl (x:=.none) rfl (bh6 ?_)
 simp only [if_true]
 apply bh0
 apply bu5
 apply bh0
 refine bo0 e4 rfl (x:=old) rfl ?_
 apply bh0
 refine bo9 e4 (by simp) fun g5 e5 sb5=>?_
 apply bh0
 unfold Builtin.SmallTypes.ownedTupleHandOut
 apply bh0
 refine bo9 e5 (by simp) fun g6 e6 sb6=>?_
 refine bo9 e6 (by simp) fun g7 e7 sb7=>?_
 have e7:IsEnumOut g7 e it ((i:Int)+1) x g3.objs.size:=e7
 have elt:e < g3.objs.size:=bi4 e3
 have up:∀ c o,c ≠ e->(g3.push { cls:=.type "tuple",data:=.seq #[.int i s.toks,x] }).get? c=some o->g7.get? c=some o:=fun c o c1 z=>sb7.extBut c o c1 (sb6.extBut c o c1 (sb5.extBut c o c1 z))
 have up3:∀ c o,c ≠ e->g1.get? c=some o->g7.get? c=some o:=fun c o c1 z=>up c o c1 (bh1 _ (sb3.extBut c o c1 (sb2.extBut c o c1 z)))
 have p7:g7.get? g3.objs.size=some { cls:=.type "tuple",data:=.seq #[.int i s.toks,x] }:=up _ _ (bq0 elt) (bj1 _ rfl)
 have s7:g7.objs.size=g3.objs.size+1:=by rw [sb7.1,sb6.1,sb5.1,bs3]
 apply bh0
 apply wpAny_letGo
 apply bh6
 rw [size] at e7 p7 s7
 refine⟨_,rfl,bh6 ?_⟩
 change Q (some (.ref g3.objs.size)) _
 rw [size]
 exact q g7 e7 (it1.at fun o z=>up3 it o (Ne.symm ne) z) p7 s7 fun b o b1 b2 z=>up3 b o b1 (sb1.extBut b o b2 z)
theorem aM8 {e it t:Addr}{i:Nat}{items:Array Value}{old:Value}{Q:Option Value->Shared->Prop} (hh:A.handled=none) (he:IsEnum s.heap e it i old) (hi:s.heap.IsTupleIter it t i) (ht:s.heap.IsTuple t items) (hx:items[i]? = none)
  (q:∀ h',Heap.ExtBut it s.heap h'->Q none { s with heap:=h' }):wpAny (model prog w) A (pyNext (.ref e)) Q E s:=by
 have T:s.TypeIs (.ref e) "enumerate":=⟨_,he,rfl⟩
 have slot:=PySem.F.slot_enumerate_next
 unfold pyNext
 apply bh0
 apply wpAny_attempt
 apply bo1 (name:=Str.ofString "__next__") T slot
 apply bn8 slot T PySem.F.entry_enumerate_next _ (PySem.F.args_enumerate_next_1 _)
 change wpAny _ _ (field (.ref e) 2 >>= _) _ _ _
 apply bh0
 refine bo0 he rfl (x:=.ref it) rfl ?_
 apply bh0
 refine J6 hh hi ht hx fun g2 ex eb exo=>?_
 obtain ⟨oe,eo,co⟩:=exo
 apply bh0
 refine wpAny_isInstance (T:="StopIteration") (b:=true) ⟨oe,eo,co⟩ isSubtype_stop ?_
 exact bh6 (q g2 eb)
theorem aM9 {M:Model}{A:Around}{E:Value->Shared->Prop}{s:Shared}{α:Type}{c:Prop} [Decidable c] {m n:Sem α}{Q:α->Shared->Prop} (h1:wpAny M A m Q E s) (h2:wpAny M A n Q E s):wpAny M A (if c then m else n) Q E s:=by
 split
 ·exact h1
 ·exact h2
theorem aN0 (t:Addr) (xs:Array Value):Meets (Builtin.«enumerate.__new__» ⟨[.type "enumerate",.ref t],[]⟩) (fun _ R s=>s.heap.IsTuple t xs/\R (.ok (.ret (.ref (s.heap.objs.size+1)))) { s with heap:=(s.heap.push { cls:=.type "tuple_iterator",data:=.fields #[.ref t,.int 0 0] }).push { cls:=.type "enumerate",data:=.fields #[.none,.bool false,.ref s.heap.objs.size,rawInt 0,.none,.none] } }):=
 .of_wp fun prog w A R s h=>by
  obtain ⟨hp,g,d,tk,os⟩:=s
  obtain ⟨ht,h⟩:=h
  have sub:=sub_enumerate
  have a1:Heap.IsTuple (Shared.heap ⟨hp,g,d,tk,os⟩) t xs:=ht
  wp_walk using bt1 a1
  refine wpAny_stack_any fun st=>bh6 ?_
  refine aM9 ?_ ?_
  all_goals
   apply bh0
   refine wpAny_of_eq (a:=(Value.ref t,none)) rfl ?_
   wp_walk using bt1 a1
   have e:∀ (o:Obj) (k:Heap),(k.push o).objs.size=k.objs.size+1:=fun o k=>bs3 ..
   refine⟨_,rfl,?_⟩
   simp only [e] at h ⊢
   exact h
theorem aN1 {t:Addr}{xs:Array Value}{Q:Value->Shared->Prop} (ht:s.heap.IsTuple t xs)
  (q:∀ h',IsEnum h' (s.heap.objs.size+1) s.heap.objs.size 0 .none->h'.IsTupleIter s.heap.objs.size t 0->h'.objs.size=s.heap.objs.size+2->(∀ c o,s.heap.get? c=some o->h'.get? c=some o)->Q (.ref (s.heap.objs.size+1)) { s with heap:=h' }) :
  wpAny (model prog w) A (call (.type "enumerate") [.ref t]) Q E s:=by
 refine callType_new PySem.F.called_enumerate (by decide) (PySem.F.typeCall_enumerate_1 _) (PySem.F.newCall_enumerate_1 _) (fun obj=>PySem.F.args_object_init_2 obj _) PySem.F.entry_enumerate_new (aN0 t xs) ⟨ht,?_⟩
 have e:∀ (o:Obj) (k:Heap),(k.push o).objs.size=k.objs.size+1:=fun o k=>bs3 ..
 have g0:((s.heap.push { cls:=.type "tuple_iterator",data:=.fields #[.ref t,.int 0 0] }).push { cls:=.type "enumerate",data:=.fields #[.none,.bool false,.ref s.heap.objs.size,rawInt 0,.none,.none] }).get? s.heap.objs.size=some { cls:=.type "tuple_iterator",data:=.fields #[.ref t,.int 0 0] }:=bh1 _ (bj1 _ rfl)
 have g1:((s.heap.push { cls:=.type "tuple_iterator",data:=.fields #[.ref t,.int 0 0] }).push { cls:=.type "enumerate",data:=.fields #[.none,.bool false,.ref s.heap.objs.size,rawInt 0,.none,.none] }).get? (s.heap.objs.size+1)=some { cls:=.type "enumerate",data:=.fields #[.none,.bool false,.ref s.heap.objs.size,rawInt 0,.none,.none] }:=by
  have:=bj1 (h:=s.heap.push { cls:=.type "tuple_iterator",data:=.fields #[.ref t,.int 0 0] }) (o:={ cls:=.type "enumerate",data:=.fields #[.none,.bool false,.ref s.heap.objs.size,rawInt 0,.none,.none] }) rfl
  rw [e] at this; exact this
 exact⟨⟨_,g1,rfl⟩,q _ g1 ⟨_,g0,rfl,rfl⟩ (by rw [e,e]) fun c o z=>bh1 _ (bh1 _ z)⟩
end
end Zp
namespace L2
open PySem PySem.Spec PyProof.Rows
def xM (K:PySem.W.Frag) (a:Addr):It:=
  ⟨fun i H=>∃ xs x,aO K H a xs/\xs[i]? = some x,
   fun i H v H'=>∃ T x,H T=none/\v = .ref T/\H'=upd H T (.tup [.int i,x])/\∀ xs,aO K H a xs->xs[i]? = some x,
   fun i H=>∃ xs,aO K H a xs/\xs.length<=i⟩
structure aN2 (e it a:Addr) (i:Nat) (h:Heap):Prop where
 ee:∃ old,IsEnum h e it i old
 s1:h.IsTupleIter it a i
theorem aN3 {P:Program}{w:World}{K:PySem.W.Frag}{elts:List Expr}{k:Nat}{pos:Pos} (a e it:Addr) (d:e ≠ it) :
  iH P w K (.Tuple elts k pos) (xM K a) [e,it] e (aN2 e it a):=by
 refine⟨by simp,fun i h st c hc=>?_,fun i h h' st kp=>?_,?_,?_,fun A i s Q E st q=>?_⟩
 ·simp only [bh9,bi5,bm2] at hc
  obtain ⟨old,ee⟩:=st.ee
  obtain ⟨o1,f1,g1,d1⟩:=st.s1
  rcases hc with rfl | rfl
  ·exact⟨_,ee,fun v q=>by cases q⟩
  ·exact⟨_,f1,fun v q=>by rw [d1] at q; cases q⟩
 ·obtain ⟨old,ee⟩:=st.ee
  exact⟨⟨old,kp e (by simp) _ ee⟩,st.s1.at fun o z=>kp it (by simp) o z⟩
 ·intro X hP hw hK hc i pins s σ H E I hf st hg
  subst hP hw hK
  obtain ⟨xs,x,ha,hx⟩:=hg
  obtain ⟨us,ru,pu,lu⟩:=I.tuple ha
  obtain ⟨ux,eux,rux⟩:=ru.get hx
  obtain ⟨old,ee⟩:=st.ee
  refine Zp.aM7 ee st.s1 pu (by simpa using eux) d fun h' eo it' pr sz kp=>⟨_,rfl,?_⟩
  refine wpAny_letOwnedTupleGo_enum (s:={ s with heap:=h',toks:=s.toks+1 }) eo fun g zz sb=>?_
  have hzl:e < s.heap.objs.size:=bi4 ee
  have up:∀ c o,c ≠ e->c ≠ it->s.heap.get? c=some o->g.get? c=some o:=fun c o c1 c2 z=>sb.extBut c o c1 (kp c o c1 c2 z)
  have hT:H s.heap.objs.size=none:=I.hok.fresh (bh7 _)
  have prG:g.get? s.heap.objs.size=some { cls:=.type "tuple",data:=.seq #[.int i s.toks,ux] }:=sb.extBut _ _ (bq0 hzl) pr
  have fpn:∀ c u,H c=some u->c ∉ [e,it]:=fun c u z hm=>by rw [(hf c hm).1] at z; cases z
  have upH:∀ c o u,H c=some u->s.heap.get? c=some o->g.get? c=some o:=fun c o u q z=>by
   have:=fpn c u q
   simp only [bh9,bi5,bm2,not_or] at this
   exact up c o this.1 this.2 z
  have ns:∀ m,s.heap.Ns X.env.locals m->g.Ns X.env.locals m:=fun m hm=>by
   obtain ⟨o,es,ep,e1,e2⟩:=hm
   exact⟨o,es,ep,up _ o (Ne.symm (hf e (by simp)).2.1) (Ne.symm (hf it (by simp)).2.1) e1,e2⟩
  have I2:a8 X pins σ (upd H s.heap.objs.size (.tup [.int i,x])) { s with heap:=g,toks:=s.toks+1 }:=by
   refine I.step (g':=s.gens) (d':=s.drawn) (ch:=[e,it]) (fun c hc'=>?_) (fun c o _ _ hc' z _=>?_) (fun c o _ _ hc' z _=>⟨o.slots,?_⟩) (fun c o _ z n=>?_) (fun c o hc' z=>⟨o,?_⟩)
    (fun c zs z=>by rw [aW (cY z hT)]; exact z) (fun c u zs z=>by rw [aW (cY z hT)]; exact z) (fun c ps z=>⟨#[],by rw [aW (cY z hT),z]; simp⟩) ns (fun c u z=>?_) I.bare
   ·exact⟨(hf c hc').2.2.2.1,(hf c hc').2.1,(hf c hc').2.2.2.2.1,(hf c hc').2.2.2.2.2⟩
   ·simp only [bh9,bi5,bm2,not_or] at hc'
    exact up c o hc'.1 hc'.2 z
   ·simp only [bh9,bi5,bm2,not_or] at hc'
    exact up c o hc'.1 hc'.2 z
   ·rw [aW (bk6 (bi4 z))]; exact n
   ·simp only [bh9,bi5,bm2,not_or] at hc'
    exact up c o hc'.1 hc'.2 z
   ·by_cases hcT:c=s.heap.objs.size
    ·subst hcT
     rw [bO] at z; cases z
     exact⟨by show 2<=sizeLine; decide,[.int i s.toks,ux],.cons ⟨_,rfl⟩ (.cons rux .nil),⟨_,prG,rfl,_,rfl⟩,fun u e=>by rw [prG] at e; cases e; rfl⟩
    ·rw [aW hcT] at z
     refine (I.hok c u z).stay (fun c' o' hc2 q'=>?_) (fun c' q'=>by rw [aW (cY q' hT)]; exact q') fun c' zs q'=>by rw [aW (cY q' hT)]; exact q'
     rcases hc2 with rfl | hc2
     ·exact upH _ _ _ z q'
     ·exact upH _ _ _ hc2 q'
  refine⟨.ref s.heap.objs.size,_,I2,rfl,⟨_,x,hT,rfl,rfl,fun xs' ha'=>?_⟩,⟨⟨ux,by push_cast; exact zz⟩,it'.at fun o z=>sb.extBut _ o (Ne.symm d) z⟩,fun c hc'=>?_⟩
  ·rw [I.tuple_inj ha' ha]; exact hx
  ·obtain ⟨o,z⟩:∃ o,s.heap.get? c=some o:=by
    simp only [bh9,bi5,bm2] at hc'
    obtain ⟨o1,f1,_⟩:=st.s1
    rcases hc' with rfl | rfl
    ·exact⟨_,ee⟩
    ·exact⟨_,f1⟩
   rw [aW (bk6 (bi4 z))]; exact (hf c hc').1
 ·intro X hP hw hK hc i pins s σ H E I hf st hg
  subst hP hw hK
  obtain ⟨xs,ha,hi⟩:=hg
  obtain ⟨us,ru,pu,lu⟩:=I.tuple ha
  obtain ⟨old,ee⟩:=st.ee
  have hh:X.A.handled=none:=I.ok.hd hc
  have e1:=ru.length
  refine Zp.aM8 hh ee st.s1 pu (by rw [Array.getElem?_eq_none]; simp only [bh3]; omega) fun g kp=>⟨rfl,?_⟩
  have fpn:∀ c u,H c=some u->c ∉ [e,it]:=fun c u z hm=>by rw [(hf c hm).1] at z; cases z
  have upH:∀ c o u,H c=some u->s.heap.get? c=some o->g.get? c=some o:=fun c o u q z=>by
   have:=fpn c u q
   simp only [bh9,bi5,bm2,not_or] at this
   exact kp c o this.2 z
  have ns:∀ m,s.heap.Ns X.env.locals m->g.Ns X.env.locals m:=fun m hm=>by
   obtain ⟨o,es,ep,e1,e2⟩:=hm
   exact⟨o,es,ep,kp _ o (Ne.symm (hf it (by simp)).2.1) e1,e2⟩
  refine I.step (g':=s.gens) (d':=s.drawn) (ch:=[it]) (fun c hc'=>?_) (fun c o _ _ hc' z _=>?_) (fun c o _ _ hc' z _=>⟨o.slots,?_⟩) (fun c o _ z n=>n) (fun c o hc' z=>⟨o,?_⟩)
   (fun c zs z=>z) (fun c u zs z=>z) (fun c ps z=>⟨#[],by rw [z]; simp⟩) ns (fun c u z=>?_) I.bare
  ·have hm:c ∈ [e,it]:=bi7 _ hc'
   exact⟨(hf c hm).2.2.2.1,(hf c hm).2.1,(hf c hm).2.2.2.2.1,(hf c hm).2.2.2.2.2⟩
  ·exact kp c o (fun y=>hc' (by rw [y]; simp)) z
  ·exact kp c o (fun y=>hc' (by rw [y]; simp)) z
  ·exact kp c o (fun y=>hc' (by rw [y]; simp)) z
  ·refine (I.hok c u z).stay (fun c' o' hc2 q'=>?_) (fun _ q'=>q') fun _ _ q'=>q'
   rcases hc2 with rfl | hc2
   ·exact upH _ _ _ z q'
   ·exact upH _ _ _ hc2 q'
 ·obtain ⟨old,ee⟩:=st.ee
  exact wpAny_pyIter_enum ee q
section
variable {X : Cx}
def V1 (K:PySem.W.Frag) (ta:TA):TI:=fun σ H R=>ta σ H fun vs H1=>∃ a,vs = [.ref a]/\((∃ xs,aR K H1 a xs/\R (xL K a) H1) ∨ (∃ xs,aO K H1 a xs/\R (xM K a) H1))
theorem aN4 {elts:List Expr}{kt:Nat}{pt:Pos}{a:Expr}{ta:TA}{p pos:Pos} (hg:Gl X "enumerate") (hm:X.mg "enumerate" = none) (ha:PA X [a] ta) (hs:starEach [a] X.env = [(false,eval a X.env)]:=by rfl) :
  PI X (.Tuple elts kt pt) (.Call (.Name "enumerate" p) [a] [] pos) (V1 X.K ta):=by
 intro pins s σ H R I h
 refine Call_ (lK I hg hm PyProof.Rows.boot_enumerate (bu8 (aM (ha pos pins s σ H _ I h) fun us s1 ⟨vs,H1,I1,r1,q1⟩=>?_) (by rw [hs]; rfl) (by rfl)))
 obtain ⟨a',e,q⟩:=q1
 subst e
 have fresh:∀ k,H1 (s1.heap.objs.size+k)=none:=fun k=>I1.hok.fresh (bt4 _ _)
 cases r1 with
 | cons r rr=>
  cases rr
  cases r
  rcases q with ⟨xs,h1,q⟩ | ⟨xs,h1,q⟩
  ·obtain ⟨us,_,p1,_⟩:=I1.list h1
   refine call_enumerate_list p1.isList fun h' z s1' sz kp=>wpAny_pyIter_enum z ?_
   refine⟨s1.heap.objs.size+1,[s1.heap.objs.size+1,s1.heap.objs.size],_,_,H1,rfl,I1.kept (t':=s1.toks) kp,
    aM6 a' _ _ (Nat.succ_ne_self _),⟨⟨_,z⟩,s1'⟩,fun c hc=>?_,q⟩
   simp only [bh9,bi5,bm2] at hc
   rcases hc with rfl | rfl
   ·exact I1.fpOk (bt4 _ _) (fresh 1)
   ·exact I1.fpOk (bh7 _) (fresh 0)
  ·obtain ⟨us,_,p1,_⟩:=I1.tuple h1
   refine Zp.aN1 p1 fun h' z s1' sz kp=>wpAny_pyIter_enum z ?_
   refine⟨s1.heap.objs.size+1,[s1.heap.objs.size+1,s1.heap.objs.size],_,_,H1,rfl,I1.kept (t':=s1.toks) kp,
    aN3 a' _ _ (Nat.succ_ne_self _),⟨⟨_,z⟩,s1'⟩,fun c hc=>?_,q⟩
   simp only [bh9,bi5,bm2] at hc
   rcases hc with rfl | rfl
   ·exact I1.fpOk (bt4 _ _) (fresh 1)
   ·exact I1.fpOk (bh7 _) (fresh 0)
end
end L2
namespace PP
open PySem L2 PyProof.Rows
def jT (xs:List PV):List PV:=xs.mapIdx fun i x=>PV.tup [.int (i:Int),x]
theorem xN (xs:List PV):(jT xs).length=xs.length:=by unfold jT; rw [List.length_mapIdx]
theorem V2 {xs:List PV}{i:Nat}{x:PV} (h:xs[i]? = some x):(jT xs)[i]? = some (.tup [.int (i:Int),x]):=by
 unfold jT; rw [List.getElem?_mapIdx,h]; rfl
theorem aN5 {xs:List PV}{i:Nat}{z:PV} (h:(jT xs)[i]? = some z):∃ x,xs[i]? = some x/\z = .tup [.int (i:Int),x]:=by
 unfold jT at h
 rw [List.getElem?_mapIdx] at h
 cases e:xs[i]? with
 | none=>rw [e] at h; cases h
 | some x=>rw [e] at h; exact⟨x,rfl,(bk5 h).symm⟩
def xO (te:aE):fG:=fun ρ Q=>te ρ fun x g=>∃ xs,(x = .lst xs ∨ x = .tup xs)/\(g = .rd->flat x=true)/\Q (jT xs) (nT g xs)
theorem aN6 {K:PySem.W.Frag}{H0:Hp}{W:Addr->Prop}{g:Bool}{H1:Hp}{a:Addr}{us:List V}{xs:List PV} (tw:∀ a,W a->∃ o,H1 a=some o/\fN o=true) (ha:∀ W' H',Ev W H1 W' H'->aR K H' a us) (r:Reps K (Ms H0 W g) H1 us xs):kE K H0 W g H1 (xL K a) (jT xs):=by
 have lr:=r.length
 have ll:=xN xs
 refine⟨fun W' H' i e hi=>⟨us,us[i]'(by omega),ha W' H' e,by simp⟩,fun W' H' i v H2 e y hi=>?_,fun W' H' e=>⟨us,ha W' H' e,by omega⟩⟩
 obtain ⟨T,x,hT,rfl,rfl,y⟩:=y
 obtain ⟨z,hz,rz⟩:=r.get (y us (ha W' _ e))
 have sm:=bU hT (HO.tup [.int (i:Int),x])
 exact⟨sm,_,V2 hz,.tup bO (.cons (.int _) (.cons ((rz.keep (e.keep tw)).same sm fun _ q=>q) .nil))⟩
theorem aN7 {K:PySem.W.Frag}{H0:Hp}{W:Addr->Prop}{g:Bool}{H1:Hp}{a:Addr}{us:List V}{xs:List PV} (tw:∀ a,W a->∃ o,H1 a=some o/\fN o=true) (ha:∀ W' H',Ev W H1 W' H'->aO K H' a us) (r:Reps K (Ms H0 W g) H1 us xs):kE K H0 W g H1 (xM K a) (jT xs):=by
 have lr:=r.length
 have ll:=xN xs
 refine⟨fun W' H' i e hi=>⟨us,us[i]'(by omega),ha W' H' e,by simp⟩,fun W' H' i v H2 e y hi=>?_,fun W' H' e=>⟨us,ha W' H' e,by omega⟩⟩
 obtain ⟨T,x,hT,rfl,rfl,y⟩:=y
 obtain ⟨z,hz,rz⟩:=r.get (y us (ha W' _ e))
 have sm:=bU hT (HO.tup [.int (i:Int),x])
 exact⟨sm,_,V2 hz,.tup bO (.cons (.int _) (.cons ((rz.keep (e.keep tw)).same sm fun _ q=>q) .nil))⟩
section
variable {X : Cx} {σ : L2.St} {H : Hp} {te : aE} {R : It → Hp → Prop}
theorem aN8 (h:LI X (xO te) σ H R):V1 X.K (kR (LE X te) lQ) σ H R:=by
 obtain ⟨W,ρ,Q,px,q,k⟩:=h
 refine⟨W,ρ,_,px,q,?_⟩
 rintro v H1 x g s r ⟨xs,hx,hg,q⟩
 have px1:=px.mono s
 have tw:∀ a,W a->∃ o,H1 a=some o/\fN o=true:=fun a z=>(px1.wm a z).2
 rcases hx with rfl | rfl
 ·obtain ⟨a,us,rfl,m,h,r⟩:=r.sqL
  have wa : ¬ W a:=by
   cases g with
   | fr=>exact (px.new m).1
   | nw=>exact m.1
   | sh=>exact m
   | rd=>have:=hg rfl; unfold flat at this; cases this
  exact⟨a,rfl,.inl ⟨us,aR.of h,k _ _ _ _ s (aN6 tw (fun W' H' e=>aR.of (e _ _ h wa).1) (m5 px (fun z=>by have:=hg z; unfold flat at this; cases this) r)) q⟩⟩
 ·obtain ⟨a,us,rfl,h,r⟩:=r.sqT
  refine⟨a,rfl,.inr ⟨us,aO.of h,k _ _ _ _ s (aN7 tw (fun W' H' e=>aO.of (e _ _ h fun z=>?_).1) (m5 px (fun z=>by have:=hg z; unfold flat at this; exact this) r)) q⟩⟩
  obtain ⟨o,h',mu⟩:=tw _ z; rw [h] at h'; cases h'; cases mu
theorem aN9 {elts:List Expr}{kt:Nat}{pt p2 pos:Pos}{a:Expr}{ta:aE} (hg:Gl X "enumerate") (hm:X.mg "enumerate" = none) (ha:QE X a ta) (hs:starEach [a] X.env = [(false,eval a X.env)]:=by rfl):QI X (.Tuple elts kt pt) (.Call (.Name "enumerate" p2) [a] [] pos) (xO ta):=
 qU (aN4 hg hm (gH ha iI hs) hs) fun _ _ _=>aN8
end
section
variable {X : Cx} {e : Expr} {te : aE} {pos p2 : Pos} {scope : Scope} {N : List Str} {fr : List (Option Nat)} {x y : Str} {tp xp yp : Pos} {kt : Nat} {iter elt : Expr} {ti : fG}
abbrev xP (x y:Str) (xp yp:Pos) (kt:Nat) (tp:Pos):Expr:=.Tuple [.Name x xp,.Name y yp] kt tp
theorem aO0 {ifs:List Expr}{tcs:cM} (hc:X.calm=true) (he:∀ (s:Shared) (H:Hp) (C:Addr) (fp:List Addr),QE (bT X scope N s H C fp dC) elt te) (hi:∀ (s:Shared) (H:Hp) (C:Addr) (fp:List Addr),k8 (bT X scope N s H C fp dC) ifs (LT (bT X scope N s H C fp dC) tcs))
  (hN:N.Nodup) (h0:N[0]? = some x) (h1:N[1]? = some y) (hl:∀ (s:Shared) (H:Hp) (C:Addr) (fp:List Addr),(bT X scope N s H C fp dC).env.scope.names.lookup x=some .local) (hl2:∀ (s:Shared) (H:Hp) (C:Addr) (fp:List Addr),(bT X scope N s H C fp dC).env.scope.names.lookup y=some .local) (s:Shared) (H:Hp) :
  lT X scope N (xP x y xp yp kt tp) ifs elt s H (lN X.K 2 (gX (dF 0) (gX (dF 1) lM))) (LT (X.frm H) tcs) (LE (X.frm H) te):=
 ⟨fun C fp=>nC (X:=bT X scope N s H C fp dC) hc (iG (gW hN h0 (.inl (hl s H C fp)) (.inr (hl s H C fp))) (iG (gW hN h1 (.inl (hl2 s H C fp)) (.inr (hl2 s H C fp))) nB)),fun C fp=>hi s H C fp,fun C fp=>he s H C fp⟩
theorem xQ (hi:QI X (xP x y xp yp kt tp) iter ti) (he:∀ (s:Shared) (H:Hp) (C:Addr) (fp:List Addr),QE (bT X scope N s H C fp dC) elt te)
  (hc:X.calm=true:=by rfl) (S:dJ X scope N fr:=by exact dJ.of rfl rfl) (hN:N.Nodup:=by decide +kernel) (h0:N[0]? = some x:=by rfl) (h1:N[1]? = some y:=by rfl) (hl:∀ (s:Shared) (H:Hp) (C:Addr) (fp:List Addr),(bT X scope N s H C fp dC).env.scope.names.lookup x=some .local:=by intro _ _ _ _; rfl) (hl2:∀ (s:Shared) (H:Hp) (C:Addr) (fp:List Addr),(bT X scope N s H C fp dC).env.scope.names.lookup y=some .local:=by intro _ _ _ _; rfl) (hf:fr[0]? = some none:=by rfl) (hf2:fr[1]? = some none:=by rfl)
  (hs:∀ x,foldedSetIterable iter X.env x=pure x:=by intro _; rfl):QE X (.ListComp elt [⟨xP x y xp yp kt tp,iter,[],0⟩] scope pos) (dU ti fr (iQ 0 1) eU te):=
 cH (vD (gh:=fun _=>lN X.K 2 (gX (dF 0) (gX (dF 1) lM))) (tch:=fun H=>LT (X.frm H) eU) (teh:=fun H=>LE (X.frm H) te) hc S hi (aO0 hc he (fun _ _ _ _=>wL) hN h0 h1 hl hl2) hs) fun _ _ _=>nV (vZ _ 0 1) (fun i e=>by rcases e with e | e <;> (subst e; assumption))
end
section
variable {X : Cx} {a b e o f : Expr} {ta tb te td tk tx : aE} {pos p2 apos cpos : Pos} {σ : L2.St} {H : Hp} {Q' : VK}
def V3:PV->Tg->PV->Tg->PK->Prop:=fun x _ y _ Q=>∃ xs n,x = .lst xs/\y = .int n/\flats xs=true/\-1000000<=n/\n<=1000000/\xs.length<=10/\Q (.lst (List.replicate n.toNat xs).flatten) .fr
abbrev V4 (ta tb:aE):aE:=q2 V3 ta tb
theorem aO1:dL X V3 E5:=by
 rintro W Hs H u v x y g g' Q Q' s n r1 r2 ⟨xs,m,rfl,rfl,f,h1,h2,hl,q⟩ k
 cases r2
 obtain ⟨a,us,rfl,mm,h,r⟩:=r1.sqL
 have lr:=r.length
 refine⟨a,m,us,rfl,rfl,h,by omega,by omega,lim ?_,fun p hp=>k _ _ _ .fr (bU hp _) (.lst (s.free hp) bO (((r.flat f).rep m.toNat).same (bU hp _) fun _ z=>z)) q⟩
 have h3:us.length<=10:=by omega
 have h4:m.toNat<=1000000:=by omega
 calc us.length * m.toNat<=10 * 1000000:=Nat.mul_le_mul h3 h4
  _<=16000000:=by decide
theorem aO2 (ha:QE X a ta) (hb:QE X b tb):QE X (.BinOp a .Mult b pos) (V4 ta tb):=iV as5 aO1 ha hb
theorem mM {x:Str}{n:Int}{t:Nat} (hg:Gl X x) (hm:X.mg x=some (.int n t)) (hd:(x == ("__debug__" : Str))=false:=by decide):QE X (.Name x pos) (qC (.int n)):=
 cH (yZ (v:=.int n) hg hm ⟨t,rfl⟩ hd) fun _ _ _=>nN fun _=>.int n
end
end PP
namespace Core
open PySem L2 PP
section
variable (ws : List Int) (ls : List (Int × Int)) (os ns : List Int)
def gC:Nat->List Int
 | 0=>[]
 | k+1=>gC k ++ (os.find? (kin ws ls (ns ++ gC k))).toList
def oT (k:Nat):Option Int:=os.find? (kin ws ls (ns ++ gC ws ls os ns k))
end
section
variable {ws : List Int} {ls : List (Int × Int)} {os ns : List Int}
theorem aO3 {k:Nat}{h:Int} (e:oT ws ls os ns k=some h):gC ws ls os ns (k+1)=gC ws ls os ns k ++ [h]:=by
 show gC ws ls os ns k ++ (oT ws ls os ns k).toList=_
 rw [e]; rfl
def aO4 (ws:List Int) (ls:List (Int × Int)) (T:List Int):Prop:=∀ h ∈ rng ws.length,kin ws ls T h=false
theorem aO5 {k:Nat}{h:Int} (e:oT ws ls os ns k=some h):h ∈ os/\h ∉ ns ++ gC ws ls os ns k:=
 ⟨List.mem_of_find?_eq_some e,bv8 (x6 (List.find?_some e))⟩
theorem aO6 (po:os.Perm (rng ws.length)) (hs:eO ws.length ns=true):∀ k,(ns ++ gC ws ls os ns k).Nodup/\∀ x ∈ ns ++ gC ws ls os ns k,x ∈ rng ws.length
 | 0=>by
  rw [show gC ws ls os ns 0 = [] from rfl,bk0]
  exact⟨(oI (mL hs).1).imp fun h=>Int.ne_of_lt h,fun x hx=>kK.mpr ((mL hs).2 x hx)⟩
 | k+1=>by
  obtain ⟨i1,i2⟩:=aO6 po hs k
  cases e:oT ws ls os ns k with
  | none=>
   have:gC ws ls os ns (k+1)=gC ws ls os ns k:=by
    show gC ws ls os ns k ++ (oT ws ls os ns k).toList=_
    rw [e]; exact bk0 _
   rw [this]; exact⟨i1,i2⟩
  | some h=>
   obtain ⟨n1,n2⟩:=aO5 e
   rw [aO3 e,<- bj2]
   refine⟨bo8.mpr ⟨i1,bl7 _ _,fun x hx y hy=>?_⟩,fun x hx=>?_⟩
   ·rw [bi1.mp hy]; intro z; subst z; exact n2 hx
   ·rcases bk4.mp hx with hx | hx
    ·exact i2 x hx
    ·rw [bi1.mp hx]; exact po.mem_iff.mp n1
theorem xR (hs:eO ws.length ns=true):∀ k,(bB ws ls ns k).Nodup
 | 0=>(oI (mL hs).1).imp fun h=>Int.ne_of_lt h
 | k+1=>by
  show (bB ws ls ns k ++ nextOf ws ls (bB ws ls ns k)).Nodup
  refine bo8.mpr ⟨xR hs k,(xG ws.length).filter _,fun x hx y hy=>?_⟩
  intro z; subst z
  exact bv8 (x6 (bk3.mp hy).2) hx
end
theorem V5 {i:Nat}{h:Int}{g:Bool}{ρ:bH}{Q:bH->Prop} (q:Q (ρ.set i (some (.sh true (.int h))))):cG i (.int h) g ρ Q:=by
 show Q (ρ.set i (some (.sh (g || true) (.int h))))
 rw [Bool.or_true]; exact q
def aO7 (ns S:List Int):Int:=(ns.length:Int) - (((ns.filter fun x=>decide (x ∈ S)).length:Nat):Int)
def aO8 (ws:List Int) (ls:List (Int × Int)) (S:List Int) (h:Int):Bool:=decide (aO7 (bD ls h) S < ws.getD h.toNat 0)
def stay (ws:List Int) (ls:List (Int × Int)) (S:List Int):List Int:=S.filter (aO8 ws ls S)
end Core
namespace Raw
open PySem PySem.W PyProof.Rows
section
variable {prog : Program} {w : World} {A : Around} {E : Value → Shared → Prop} {s : Shared} {T : String} {r d : Addr} {n : Nat} {P : Nat → Value → Prop} {OK : Heap → Prop}
theorem aO9 {R:Result->Shared->Prop} (K:KdlSrc prog w T r d n P OK) (hh:A.handled=none) (hok:OK s.heap) (hn:n<=sizeLine)
  (hR:∀ h' tk acc c,(∀ b o,b ≠ s.heap.objs.size->(s.heap.push { cls:=.type "list",data:=.seq ([]:List Value).toArray }).get? b=some o->h'.get? b=some o)->h'.get? s.heap.objs.size=some { cls:=.type "list",dict:=none,data:=.seq acc c,slots:=#[] }->ItemsOf P acc n->R (.ok (.ret (.ref s.heap.objs.size))) { s with heap:=h',toks:=tk }) :
  codeAny (model prog w) A (.builtin "proto.collect" ⟨[.ref r],[]⟩) R s:=by
 have lt:=K.there _ hok
 refine codeAny_builtin PySem.F.entry_proto_collect ?_
 rw [Around.under_plainId PySem.F.plain_proto_collect _]
 show wpAny _ A.in1 (newList [] >>= fun l=>again (.builtin "list.__iadd__" ⟨[l,.ref r],[]⟩)) _ _ s
 refine bh0 (bp8 ?_)
 refine bh6 ⟨plainId_quiet PySem.F.plain_list_iadd _,codeAny_builtin PySem.F.entry_list_iadd ?_⟩
 rw [Around.under_plainId PySem.F.plain_list_iadd _]
 show wpAny _ A.in1 (Builtin.List.listExtendWith (.ref s.heap.objs.size) (.ref r) (.ref s.heap.objs.size)) _ _ _
 exact kdl_extend (s:={ s with heap:=s.heap.push { cls:=.type "list",data:=.seq ([]:List Value).toArray } }) (R:=R) K hh (K.keep _ _ hok fun b _ o e=>bh1 _ e) s.heap.objs.size (bq0 lt.1) (bq0 lt.2) _ 0 (bj1 _ rfl) hR hn
theorem V6 {Q:List Value->Shared->Prop} (K:KdlSrc prog w T r d n P OK) (hh:A.handled=none) (hok:OK s.heap) (hn:n<=sizeLine)
  (hQ:∀ h' tk acc,(∀ b o,s.heap.get? b=some o->h'.get? b=some o)->s.heap.objs.size<=h'.objs.size->ItemsOf P acc n->Q acc.toList { s with heap:=h',toks:=tk }) :
  wpAny (model prog w) A (collect (.ref r)) Q E s:=by
 unfold collect
 refine bh0 (wpAny_runValue (aO9 (s:=s) K hh hok hn fun h' tk acc c kp at1 it=>?_))
 show wpAny _ A (load s.heap.objs.size >>= _) _ _ _
 refine bh0 (wpAny_load at1 ?_)
 exact bh6 (hQ h' tk acc (fun b o e=>kp b o (bk6 (bi4 e)) (bh1 _ e)) (bp9 (bi4 at1)) it)
theorem aP0 {Q:Value->Shared->Prop}{G:List Int->Prop} (K:KdlSrc prog w T r d n P OK) (hh:A.handled=none) (hok:OK s.heap) (hn:n < 64)
  (hI:∀ acc,ItemsOf P acc n->∃ ns,IntsAre acc.toList ns/\G ns)
  (h:∀ h' tk a (out:Array Value) (ns ns':List Int) e,(∀ b o,s.heap.get? b=some o->h'.get? b=some o)->s.heap.objs.size<=a->h'.get? a=some (seqObj "list" out e)->IntsAre out.toList ns'->G ns->ns'.Perm ns->ns'.Pairwise (· <= ·)->Q (.ref a) { s with heap:=h',toks:=tk }) :
  wpAny (model prog w) A (call (.builtin "sorted") [.ref r]) Q E s:=by
 have hsl:n<=sizeLine:=bm4 (bp9 hn) (by decide)
 refine Calls.call_function_entry kind_sorted plain_sorted entry_sorted (args_sorted1 _) ?_
 unfold Builtin.«sorted»
 refine bh0 (m:=checkCount "sorted" 1 1 _) (bh6 ?_)
 refine bh0 (V6 (s:=s) K hh hok hsl fun h' tk acc kp hs it=>?_)
 obtain ⟨ns,hi,g⟩:=hI acc it
 have hz:acc.toList.length < 64:=by rw [bm0,it.1]; exact hn
 refine bh0 (wpAny_newList ?_ (bm4 (bp9 hz) (by decide)))
 have hoL:(h'.push (seqObj "list" acc.toList.toArray 0)).get? h'.objs.size=some (seqObj "list" acc.toList.toArray 0):=bj1 _ rfl
 show wpAny _ _ _ _ _ { s with heap:=h'.push (seqObj "list" acc.toList.toArray 0),toks:=tk }
 refine bh0 (bp7 (bn8 slot_list_sort ⟨_,hoL,rfl⟩ entry_list_sort (list_sort_tree hoL hi hz fun out ns' a1 a2 a3=>⟨_,rfl,?_⟩) (args_list_sort _)))
 obtain ⟨e,he⟩:=sortedHeap_at (vs:=acc.toList) (out:=out) hoL
 refine bh6 ⟨_,rfl,h _ tk h'.objs.size out ns ns' e (fun b o hb=>?_) hs he a1 g a2 a3⟩
 have lt:=bi4 (kp b o hb)
 rw [sortedHeap_old (bk6 lt) (by rw [size_push']; exact Nat.lt_succ_of_lt lt)]
 exact bh1 _ (kp b o hb)
end
end Raw
namespace L2
open PySem PySem.Spec PyProof.Rows
section
variable {X : Cx}
theorem aP1 (hc:X.calm=true):dA X (.builtin "sorted") (fun xs H Q=>∃ a kvs ns,xs = [.ref a]/\H a=some (.dK kvs)/\kvs.map (·.1)=ns.map Sum.inl/\ns.length < 64/\∀ l (ms:List Int),H l=none->ms.Perm ns->ms.Pairwise (· <= ·)->Q (.ref l) (upd H l (.lst (ms.map V.int)))):=by
 intro pins s σ H xs us Q I r h
 obtain ⟨a,kvs,ns,rfl,ha,hk,h64,q⟩:=h
 obtain ⟨u,rfl,ru⟩:=gG r
 cases ru
 obtain ⟨es,ep,rd,far,vk,z⟩:=aw3 I ha
 have hl:=vk.length
 have hl2:=congrArg List.length hk
 rw [bh8,bh8] at hl hl2
 have hsz:es.toList.length=es.size:=bm0
 have e1:(kvs.map fun p=>kV p.1)=ns.map V.int:=by
  have:(kvs.map fun p=>kV p.1)=(kvs.map (·.1)).map kV:=by rw [bv0]; rfl
  rw [this,hk,bv0]; rfl
 rw [e1] at vk
 refine Raw.aP0 (G:=fun ms=>ms=ns) (Raw.J2 far) (I.ok.hd hc) rd (by omega) (fun acc it=>⟨ns,by rw [vG it]; exact kS vk,rfl⟩) fun h' tk l out ns1 ns' e kp hn he a1 g a2 a3=>?_
 subst g
 have hlen:ns'.length=ns1.length:=a2.length_eq
 refine⟨.ref l,upd H l (.lst (ns'.map V.int)),I.laid (t':=tk) kp hn ⟨?_,out.toList,e,uW a1,by simpa using he⟩,rfl,q _ ns' (I.hok.fresh hn) a2 a3⟩
 rw [bh8,hlen]
 exact bp9 (uX (by omega))
end
end L2
namespace PP
open PySem L2 PyProof.Rows
section
variable {X : Cx} {a b e : Expr} {ta tb te : aE} {tr : cR} {pos p2 : Pos}
def xS:List PV->(PV->Prop)->Prop:=fun xs Q=>∃ (ps:List (aC × PV)) (ns:List Int),xs = [.dK ps]/\ps.map (·.1)=ns.map Sum.inl/\ns.length < 64/\∀ ms:List Int,ms.Perm ns->ms.Pairwise (· <= ·)->Q (.lst (intz ms))
theorem aP2:fF X xS (fun xs H Q=>∃ a kvs ns,xs = [.ref a]/\H a=some (.dK kvs)/\kvs.map (·.1)=ns.map Sum.inl/\ns.length < 64/\∀ l (ms:List Int),H l=none->ms.Perm ns->ms.Pairwise (· <= ·)->Q (.ref l) (upd H l (.lst (ms.map V.int)))):=by
 rintro H vs xs Q Q' r ⟨ps,ns,rfl,e,hl,q⟩ k
 obtain ⟨v,rfl,r1⟩:=r.one
 cases r1 with
 | @dK a kvs _ m h e2 r2=>
  exact⟨a,kvs,ns,rfl,h,e2.trans e,hl,fun l ms hl' p o=>k _ _ _ (bU hl' _) (.lst hl' bO (Reps.intz ms)) (q ms p o)⟩
theorem aP3 (B:Bt X.mg) (hc:X.calm=true) (ha:QA X [e] tr) (hg:Gl X "sorted":=by rfl) (he:starEach [e] X.env=(false,eval e X.env) :: starEach [] X.env:=by rfl) (hpl:(backTo pos (starEach [] X.env)).any (·.1)=false:=by rfl):QE X (.Call (.Name "sorted" p2) [e] [] pos) (aI xS tr):=
 jQ (aP1 hc) aP2 hg B.sorted PyProof.Rows.boot_sorted ha (he:=he) (hpl:=hpl)
end
end PP
namespace Core
open PySem L2 PP
def gR (k:Nat) (r:List Int):List (aC × PV):=r.map fun h=>((Sum.inl h:aC),PV.int (k:Int))
def jU (rs:List (List Int)):List (aC × PV):=(rs.mapIdx gR).flatten
theorem aP4 (rs:List (List Int)) (r:List Int):jU (rs ++ [r])=jU rs ++ gR rs.length r:=by
 unfold jU
 rw [List.mapIdx_append,List.flatten_append]
 simp
theorem V7 (k:Nat) (r:List Int):(gR k r).map (·.1)=r.map Sum.inl:=by
 unfold gR; rw [bv0]; rfl
theorem V8:∀ (rs:List (List Int)) (g:Nat->Nat),((rs.mapIdx fun i r=>gR (g i) r).flatten).map (·.1)=rs.flatten.map (Sum.inl:Int->aC)
 | [],_=>rfl
 | r :: t,g=>by
  rw [List.mapIdx_cons,bs0,bs0,bi9,bi9,V7,V8 t fun i=>g (i+1)]
theorem V9 (rs:List (List Int)):(jU rs).map (·.1)=rs.flatten.map (Sum.inl:Int->aC):=V8 rs fun i=>i
theorem aP5 {ps:List (aC × PV)}{h:Int}{v:PV}{S:List Int} (e:ps.map (·.1)=S.map Sum.inl) (hn:h ∉ S):bZ ps (Sum.inl h:aC) v=ps ++ [(Sum.inl h,v)]:=by
 unfold bZ
 rw [if_neg]
 intro z
 rw [List.any_eq_true] at z
 obtain ⟨p,hp,hq⟩:=z
 have:p.1 ∈ ps.map (·.1):=bk9.mpr ⟨p,hp,rfl⟩
 rw [e,bu3 hq] at this
 obtain ⟨y,hy,e2⟩:=bk9.mp this
 exact hn (Sum.inl.inj e2 ▸ hy)
theorem aP6 {k:Nat}{r:List Int}{i:Nat}{n:Int} (h:r[i]? = some n):gR k (r.take (i+1))=gR k (r.take i) ++ [(Sum.inl n,PV.int (k:Int))]:=by
 unfold gR
 rw [bl5,h,bi9]; rfl
theorem aP7 {xs:List PV}{w:Int} (h:0<=w):i6 xs none (some w)=xs.take w.toNat:=by
 unfold i6
 rw [HT.ap4,List.drop_zero,Nat.sub_zero]
 have:HT.aX xs.length xs.length (some w)=min w.toNat xs.length:=by
  show (if w < 0 then (w+(xs.length:Int)).toNat else min w.toNat xs.length)=_
  rw [if_neg (by omega)]
 rw [this,<- List.take_take,bm1]
theorem vJ {ls:List (Int × Int)}{h x:Int}:x ∈ bD ls h ↔ ∃ l ∈ ls,(l.1=h/\l.2=x) ∨ (l.2=h/\l.1=x):=by
 unfold bD
 rw [List.mem_flatMap]
 constructor
 ·rintro ⟨l,hl,hx⟩
  refine⟨l,hl,?_⟩
  rcases bk4.mp hx with hx | hx
  ·split at hx
   ·rename_i e; exact .inl ⟨e,(bi1.mp hx).symm⟩
   ·cases hx
  ·split at hx
   ·rename_i e; exact .inr ⟨e,(bi1.mp hx).symm⟩
   ·cases hx
 ·rintro ⟨l,hl,⟨e1,e2⟩ | ⟨e1,e2⟩⟩
  ·exact⟨l,hl,bl6 _ (by rw [if_pos e1,e2]; exact List.mem_singleton_self _)⟩
  ·exact⟨l,hl,bl0 _ (by rw [if_pos e1,e2]; exact List.mem_singleton_self _)⟩
theorem W0 {h:Int}:∀ {ls:List (Int × Int)},(∀ l ∈ ls,l.1 < l.2)->ls.Pairwise bL->(bD ls h).Nodup
 | [],_,_=>.nil
 | l :: r,hl,hp=>by
  have ih:=W0 (h:=h) (ls:=r) (fun m hm=>hl m (bi7 _ hm)) (bt3.mp hp).2
  have h0:=hl l bi6
  have e:bD (l :: r) h=((if l.1=h then [l.2] else []) ++ (if l.2=h then [l.1] else [])) ++ bD r h:=rfl
  rw [e]
  refine bo8.mpr ⟨?_,ih,fun x hx y hy q=>?_⟩
  ·by_cases e1:l.1=h
   ·rw [if_pos e1,if_neg (by omega),bk0]; exact bl7 _ _
   ·rw [if_neg e1]
    split
    ·exact bl7 _ _
    ·exact .nil
  ·subst q
   obtain ⟨m,hm,c⟩:=vJ.mp hy
   have h1:=hl m (bi7 _ hm)
   have h2:=(bt3.mp hp).1 m hm
   have c':(l.1=h/\l.2=x) ∨ (l.2=h/\l.1=x):=by
    rcases bk4.mp hx with hx | hx
    ·split at hx
     ·rename_i e; exact .inl ⟨e,(bi1.mp hx).symm⟩
     ·cases hx
    ·split at hx
     ·rename_i e; exact .inr ⟨e,(bi1.mp hx).symm⟩
     ·cases hx
   unfold bL at h2
   omega
end Core
namespace PP
open PySem L2 PyProof.Rows
def j6 (xs ys:List PV):List PV:=List.zipWith (fun x y=>PV.tup [x,y]) xs ys
theorem xT (xs ys:List PV):(j6 xs ys).length=min xs.length ys.length:=by unfold j6; rw [List.length_zipWith]
theorem W5 {xs ys:List PV}{i:Nat}{x y:PV} (h:xs[i]? = some x) (h':ys[i]? = some y):(j6 xs ys)[i]? = some (.tup [x,y]):=by
 unfold j6; rw [List.getElem?_zipWith,h,h']
theorem aP8 {xs ys:List PV}{i:Nat}{z:PV} (h:(j6 xs ys)[i]? = some z):∃ x y,xs[i]? = some x/\ys[i]? = some y/\z = .tup [x,y]:=by
 unfold j6 at h
 rw [List.getElem?_zipWith] at h
 cases e:xs[i]? with
 | none=>rw [e] at h; cases h
 | some x=>
  cases e':ys[i]? with
  | none=>rw [e,e'] at h; cases h
  | some y=>rw [e,e'] at h; exact⟨x,y,rfl,rfl,(bk5 h).symm⟩
theorem aP9 {K:PySem.W.Frag}{H0:Hp}{W:Addr->Prop}{g:Bool}{H1:Hp}{a b:Addr}{us vs:List V}{xs ys:List PV} (tw:∀ a,W a->∃ o,H1 a=some o/\fN o=true) (ha:∀ W' H',Ev W H1 W' H'->aO K H' a us) (hb:∀ W' H',Ev W H1 W' H'->aO K H' b vs)
  (r:Reps K (Ms H0 W g) H1 us xs) (r':Reps K (Ms H0 W g) H1 vs ys):kE K H0 W g H1 (vL K a b) (j6 xs ys):=by
 have lr:=r.length
 have lr':=r'.length
 have ll:=xT xs ys
 refine⟨fun W' H' i e hi=>⟨us,vs,us[i]'(by omega),vs[i]'(by omega),ha W' H' e,hb W' H' e,by simp,by simp⟩,fun W' H' i v H2 e y hi=>?_,fun W' H' e=>⟨us,vs,ha W' H' e,hb W' H' e,by omega⟩⟩
 obtain ⟨T,x,y',hT,rfl,rfl,y⟩:=y
 obtain ⟨h1,h2⟩:=y us vs (ha W' _ e) (hb W' _ e)
 obtain ⟨z,hz,rz⟩:=r.get h1
 obtain ⟨z',hz',rz'⟩:=r'.get h2
 have sm:=bU hT (HO.tup [x,y'])
 exact⟨sm,_,W5 hz hz',.tup bO (.cons ((rz.keep (e.keep tw)).same sm fun _ q=>q) (.cons ((rz'.keep (e.keep tw)).same sm fun _ q=>q) .nil))⟩
end PP
namespace Core
open PySem L2 PP
theorem pX {ls:List (Int × Int)}{wts:List Int} (e:wts.length=ls.length):(ls.zip wts).map (·.2)=wts:=by
 rw [List.map_snd_zip]; omega
section
variable {ws : List Int} {ls : List (Int × Int)} {ns wts : List Int} {m : Nat}
def loose (ls:List (Int × Int)) (wts ns:List Int):List ((Int × Int) × Int):=(ls.zip wts).filter fun z=>!(decide (z.1.1 ∈ ns) && decide (z.1.2 ∈ ns))
end
end Core
namespace PP
open PySem L2 PyProof.Rows
section
variable {X : Cx} {a b e : Expr} {ta tb te : aE} {D : cQ} {σ : L2.St} {H : Hp} {pos p2 : Pos}
def rX (p:iP) (te:aE):aP:=fun D ρ=>te ρ fun x g=>vR g x/\p x (vQ g x) ρ fun ρ2=>D.nx ρ2
theorem aQ0 {p:iP}{g:TG}{own:Nat->Prop} (hg:m6 X.K own p g) (h:LS X (rX p te) D σ H):jA (LE X te) g D σ H:=by
 obtain ⟨W,ρ,D',px,q,k⟩:=h
 refine⟨W,ρ,_,px,q,?_⟩
 rintro v H1 x gt s r ⟨st,q⟩
 refine hg X.H₀ W σ ρ H1 v x _ _ _ (px.mono s) (K9 px st r) q fun σ' ρ' px' _ _ q'=>?_
 exact k.nx W σ' H1 ρ' (Ev.same s) px' q'
theorem W6 (i j:Nat) {x y:Str}{tp xp yp:Pos}{kt:Nat} (hN:X.N.Nodup) (he:QE X e te) (hx:X.N[i]? = some x:=by rfl) (hy:X.N[j]? = some y:=by rfl) (hlx:gF X.env.scope x:=by first | exact Or.inl rfl | exact Or.inr rfl) (hly:gF X.env.scope y:=by first | exact Or.inl rfl | exact Or.inr rfl)
  (hfx:X.fn x=true ∨ X.env.scope.names.lookup x=some .local:=by first | exact .inl rfl | exact .inr rfl) (hfy:X.fn y=true ∨ X.env.scope.names.lookup y=some .local:=by first | exact .inl rfl | exact .inr rfl) (hc:X.calm=true:=by rfl)
  (hs:swapsWithSole [.Tuple [.Name x xp,.Name y yp] kt tp] e pos.line X.env=pure false:=by rfl) (hw:swappedStores [.Tuple [.Name x xp,.Name y yp] kt tp] e X.env=pure none:=by rfl):QS X (.Assign [.Tuple [.Name x xp,.Name y yp] kt tp] e pos) (rX (iQ i j) te):=by
 have g:PG X (.Tuple [.Name x xp,.Name y yp] kt tp) (lN X.K 2 (gX (dF i) (gX (dF j) lM))):=nC hc (iG (gW hN hx hlx hfx) (iG (gW hN hy hly hfy) nB))
 exact dN (zL he g hs hw) fun _ _ _=>aQ0 (vZ _ i j)
end
end PP
set_option maxHeartbeats 1000000
set_option maxHeartbeats 1000000
set_option maxHeartbeats 1000000
set_option maxHeartbeats 1000000
namespace PP
open PySem L2 PyProof.Rows
abbrev cW:=(Str->Prop)->bE
def EX (K:PySem.W.Frag) (H0:Hp) (Ep:Str->Prop):XK:=fun c d H'=>d=none/\aG H0 H'/\∃ n C,c = .ref C/\PySem.W.nsIn K mainGlobals n=some (some (.ref C))/\Ep n
def W7 (K:PySem.W.Frag) (p:cW):Sp:=fun vs H Q E=>∃ xs Qp Ep,Reps K (fun _=>True) H vs xs/\p Ep xs Qp/\(∀ v H' x,aG H H'->aJ K (fun a=>H a=none) H' v x->Qp x->Q v H')/\
 ∀ n C H',aG H H'->PySem.W.nsIn K mainGlobals n=some (some (.ref C))->Ep n->E (.ref C) none H'
structure b9 (P:Program) (w:World) (K:PySem.W.Frag) (mg:Str->Option Value) (base:Heap) (k:Nat) (x:Str) (ps:List Str) (p:cW):Prop where
 ex:∃ f fd,dE P w K mg base (eB P w) k f fd ps (W7 K p)/\iJ K fd ps []/\PySem.W.keepIn K (.ref f)=true/\mg x=some (.ref f)
section
variable {X : Cx} {σ : L2.St} {H : Hp} {D : cQ} {tr : cR} {Q' : VK} {a b c e : Expr} {es : List Expr} {pos p2 cp np hp : Pos} {t : aP} {te : aE} {tc : cM}
def gS (Ep:Str->Prop) (p:cW) (t:cR):aE:=aI (p Ep) t
theorem W8 {p:cW}{Ep:Str->Prop} (h:LE X (gS Ep p tr) σ H Q'):uE (W7 X.K p) [] (EX X.K X.H₀ Ep) (LA X tr) σ H Q':=by
 obtain ⟨W,ρ,Q,px,q,k⟩:=h
 refine⟨W,ρ,_,px,q,fun vs H1 xs s1 r1 q1=>⟨_,_,Ep,by rw [bk0]; exact r1.any,q1,fun v H' x s2 r2 q2=>k v H' x .fr (s1.trans s2) (r2.same (aG.refl _) fun _ z=>s1.free z) q2,fun n C H' s2 z1 z2=>⟨rfl,(px.same.trans s1).trans s2,n,C,rfl,z1,z2⟩⟩⟩
theorem j7 {Ep:Str->Prop}{k j:Nat}{x:Str}{ps:List Str}{p:cW} (hX:mH X (EX X.K X.H₀ Ep)) (d:b9 X.prog X.w X.K X.mg X.base k x ps p) (hr:cE j X.A) (ha:QA X (e :: es) tr) (hkj:k<=j:=by decide) (hg:Gl X x:=by rfl) (hdb:(x == ("__debug__" : Str))=false:=by decide)
  (he:starEach (e :: es) X.env=(false,eval e X.env) :: starEach es X.env:=by rfl) (hpl:(backTo pos (starEach es X.env)).any (·.1)=false:=by rfl):QE X (.Call (.Name x p2) (e :: es) [] pos) (gS Ep p tr):=by
 obtain ⟨f,fd,F,b,kp,m⟩:=d.ex
 exact cH (uF F (hr.mono hkj) hg m kp b .nil hX.pass ha hdb he hpl) fun _ _ _=>W8
theorem rY {k j:Nat}{x:Str}{ps:List Str}{p:cW} (d:b9 X.prog X.w X.K X.mg X.base k x ps p) (hr:cE j X.A) (ha:QA X (e :: es) tr) (hkj:k<=j:=by decide) (hg:Gl X x:=by rfl) (hdb:(x == ("__debug__" : Str))=false:=by decide)
  (he:starEach (e :: es) X.env=(false,eval e X.env) :: starEach es X.env:=by rfl) (hpl:(backTo pos (starEach es X.env)).any (·.1)=false:=by rfl):QE X (.Call (.Name x p2) (e :: es) [] pos) (aI (p fun _=>False) tr):=by
 obtain ⟨f,fd,F,b,kp,m⟩:=d.ex
 refine cH (uF F (E:=EX X.K X.H₀ fun _=>False) (hr.mono hkj) hg m kp b .nil (fun _ _ _ _ _ _ _ h=>?_) ha hdb he hpl) fun _ _ _ h=>W8 (Ep:=fun _=>False) h
 obtain ⟨_,_,_,_,_,_,_,_,_,_,_,_,z⟩:=h
 exact z.elim
def mO (Ep:Str->Prop) (n:Str) (t:cR):aP:=fun _ ρ=>t ρ fun xs=>xs.length<=1000/\Ep n
theorem aQ1 {Ep:Str->Prop}{n:Str}{C:Addr} (hn:PySem.W.nsIn X.K mainGlobals n=some (some (.ref C))) (h:LS X (mO Ep n tr) D σ H):S0 (EX X.K X.H₀ Ep) C (LA X tr) D σ H:=by
 obtain ⟨W,ρ,D',px,q,k⟩:=h
 exact⟨W,ρ,_,px,q,fun vs H1 xs s1 r z=>⟨by rw [r.length]; exact qG z.1,rfl,px.same.trans s1,n,C,rfl,hn,z.2⟩⟩
structure Xc (K:PySem.W.Frag) (mg:Str->Option Value) (base:Heap) (n:Str):Prop where
 ex:∃ C B newId initId bm,OwnCls n C bm newId mg base/\ExcBaseFacts B newId initId bm/\PySem.W.nsIn K mainGlobals n=some (some (.ref C))
theorem rZ {Ep:Str->Prop}{n:Str} (hX:mH X (EX X.K X.H₀ Ep)) (x:Xc X.K X.mg X.base n) (ha:QA X (e :: es) tr) (hc:X.calm=true:=by rfl) (hg:Gl X n:=by rfl) (hd:(n == ("__debug__" : Str))=false:=by decide)
  (he:starEach (e :: es) X.env=(false,eval e X.env) :: starEach es X.env:=by rfl) (hpl:(backTo cp (starEach es X.env)).any (·.1)=false:=by rfl):QS X (.Raise (some (.Call (.Name n np) (e :: es) [] cp)) none pos) (mO Ep n tr):=by
 obtain ⟨C,B,newId,initId,bm,O,FB,hn⟩:=x.ex
 exact dN (aI0 hX hc O FB ha hg hd he hpl) fun _ _ _=>aQ1 hn
abbrev jV:=kC->(Str->Prop)->bH->Prop
def LB (X:Cx) (t:jV):TB:=fun D Ex σ H=>∃ (W:Addr->Prop) (ρ:bH) (D':kC) (Ep:Str->Prop),PX X.K X.H₀ W σ ρ H/\t D' Ep ρ/\nQ X W H D' D/\∀ n C H',aG H H'->PySem.W.nsIn X.K mainGlobals n=some (some (.ref C))->Ep n->Ex (.ref C) none H'
def QB (X:Cx) (sts:List Stmt) (t:jV):Prop:=PB X sts (LB X t)
theorem W9 {sts:List Stmt}{t t':TB} (h:PB X sts t) (m:∀ D Ex σ H,t' D Ex σ H->t D Ex σ H):PB X sts t':=fun pins s σ H D Ex I q=>h pins s σ H D Ex I (m D Ex σ H q)
def oU (p:cW) (t:cR):jV:=fun D Ep ρ=>t ρ fun xs=>p Ep (xs.map (·.1)) fun _=>D.nx ρ
def sA (c:cM) (t u:jV):jV:=fun D Ep ρ=>c ρ fun b=>if b=true then t D Ep ρ else u D Ep ρ
theorem sB {k j:Nat}{x:Str}{ps:List Str}{p:cW} (d:b9 X.prog X.w X.K X.mg X.base k x ps p) (hr:cE j X.A) (ha:∀ E,QA (X.wish E) (e :: es) tr) (hkj:k<=j:=by decide) (hg:Gl X x:=by rfl) (hdb:(x == ("__debug__" : Str))=false:=by decide)
  (he:starEach (e :: es) X.env=(false,eval e X.env) :: starEach es X.env:=by rfl) (hpl:(backTo cp (starEach es X.env)).any (·.1)=false:=by rfl) (hsw:swapsWith (.Call (.Name x p2) (e :: es) [] cp) none pos.line X.env=pure false:=by rfl):QB X [.Expr (.Call (.Name x p2) (e :: es) [] cp) pos] (oU p tr):=by
 obtain ⟨f,fd,F,b,kp,m⟩:=d.ex
 refine W9 (aI5 (t:=LA X tr) F (hr.mono hkj) hg m kp b (fun E=>ha E) hdb he hpl hsw) fun D Ex σ H h=>?_
 obtain ⟨W,ρ,D',Ep,px,q,k,ke⟩:=h
 exact⟨W,ρ,_,px,q,fun vs H1 xs s1 r q1=>⟨_,_,Ep,r.any,q1,fun v H' x s2 r2 q2=>k.nx W σ H' ρ (Ev.same (s1.trans s2)) (px.mono (s1.trans s2)) q2,fun n C H' s2 z1 z2=>ke n C H' (s1.trans s2) z1 z2⟩⟩
theorem xU {sa sb:List Stmt}{tb ub:jV} (hc:∀ E,QT (X.wish E) c tc) (ha:QB X sa tb) (hb:QB X sb ub):QB X [.If c sa sb pos] (sA tc tb ub):=by
 refine W9 (aI6 (tc:=LT X tc) (fun E=>hc E) ha hb) fun D Ex σ H h=>?_
 obtain ⟨W,ρ,D',Ep,px,q,k,ke⟩:=h
 refine⟨W,ρ,_,px,q,fun b H1 s1 q1=>?_⟩
 have ke':∀ n C H',aG H1 H'->PySem.W.nsIn X.K mainGlobals n=some (some (.ref C))->Ep n->Ex (.ref C) none H':=fun n C H' s2 z1 z2=>ke n C H' (s1.trans s2) z1 z2
 cases b with
 | true=>exact aY ⟨W,ρ,D',Ep,px.mono s1,by simpa using q1,k.step (Ev.same s1),ke'⟩
 | false=>exact aN ⟨W,ρ,D',Ep,px.mono s1,by simpa using q1,k.step (Ev.same s1),ke'⟩
def X0 (D:kC) (i:Nat):kC:={ nx:=fun ρ=>D.nx (ρ.set i none),rt:=D.rt,bk:=fun ρ=>D.bk (ρ.set i none),ct:=fun ρ=>D.ct (ρ.set i none) }
def mP:List Str:=["BadWeb","BadSet","BadOrder","BadPrices","BadBoard","BadDeed","NotWood","NoPaper","NoSuch","TooMany","NoText","OddRound"]
def lH (n m:Str):Option Bool:=if mP.contains n then some (n == m || m == "HearthError" || m == "ValueError") else none
def xV (m:Str) (i:Nat) (tb:jV) (ts:aP):aP:=fun D ρ=>tb D (fun n=>lH n m=some true/\ts (X0 D i) (ρ.set i (some (.sh true (.exc n))))) ρ
theorem aQ2 {m:Str}{Ch:Addr}{i:Nat}{tb:jV}{ts:aP} (hs:∀ n C,lH n m=some true->PySem.W.nsIn X.K mainGlobals n=some (some (.ref C))->PySem.W.subIn X.K (.ref C) (.ref Ch)=some true) (h:LS X (xV m i tb ts) D σ H):S3 X.K Ch i (LB X tb) (LS X ts) D σ H:=by
 obtain ⟨W,ρ,D',px,q,k⟩:=h
 refine⟨W,ρ,D',_,px,q,k,fun n C H' s z1 z2 a C' oe hc na hcl=>?_⟩
 cases hc
 refine⟨hs n C z2.1 z1,W,_,X0 D' i,(px.mono (s.trans (bU na _))).setSh (g:=true) (.exc bO z1 hcl),z2.2,?_⟩
 have k':=k.step (Ev.same (W:=W) (s.trans (bU na (.frz oe (.own a)))))
 exact⟨fun W' σ' H2 ρ' ev px' q'=>k'.nx W' _ H2 _ ev px'.setNone q',k'.rt,fun W' σ' H2 ρ' ev px' q'=>k'.bk W' _ H2 _ ev px'.setNone q',fun W' σ' H2 ρ' ev px' q'=>k'.ct W' _ H2 _ ev px'.setNone q'⟩
structure xW (K:PySem.W.Frag) (mg:Str->Option Value) (m:Str):Prop where
 ex:∃ Ch,mg m=some (.ref Ch)/\x4 K Ch/\∀ n C,lH n m=some true->PySem.W.nsIn K mainGlobals n=some (some (.ref C))->PySem.W.subIn K (.ref C) (.ref Ch)=some true
theorem aQ3 (i:Nat) {m n:Str}{b₀:Stmt}{suite body:List Stmt}{tb:jV}{ts:aP} (ct:xW X.K X.mg m) (hN:X.N.Nodup) (hb:QB X body tb) (hs:∀ a,eW (X.suite a) (b₀ :: suite) ts) (hstk:X.stack=X.env :: X.outer/\X.env.frame=some X.env.locals:=by exact⟨rfl,rfl⟩) (hi:X.N[i]? = some n:=by rfl) (hl:X.env.scope.names.lookup n=some .local:=by rfl) (hg:Gl X m:=by rfl)
  (hd:(m == ("__debug__" : Str))=false:=by decide):QS X (.Try body [.ExceptHandler (some (.Name m np)) (some n) (b₀ :: suite) hp] [] [] pos) (xV m i tb ts):=by
 obtain ⟨Ch,hm,c,sub⟩:=ct.ex
 exact dN (aI7 (ts:=LS X ts) hstk hb hg hm c hN hi hl (fun a=>wB (hs a) fun _ _ _ ⟨W,ρ,D',px,q,k⟩=>⟨W,ρ,D',px,q,⟨k.nx,k.rt,k.bk,k.ct⟩⟩) hd) fun _ _ _=>aQ2 sub
def gK:V->Value
 | .ref a=>.ref a
 | .ty n=>.type n
 | _=>.none
def aQ4 (K:PySem.W.Frag):List V->Hp->VK->Prop:=fun xs H Q=>∃ v v2 b,xs = [v,v2]/\gK v2 ≠ .none/\((∃ a o C,v = .ref a/\H a=some (.frz o (.own a))/\o.cls = .ref C/\iW K C/\PySem.W.kitOne K (.ref C) (gK v2)=some b) ∨ (v = .non/\PySem.W.kitOne K (.type "NoneType") (gK v2)=some b))/\Q (.bl b) H
theorem aQ5:dA X (.builtin "isinstance") (aQ4 X.K):=by
 intro pins s σ H xs us Q I r h
 obtain ⟨v,v2,b,rfl,hv,hk,q⟩:=h
 obtain ⟨u,u',rfl,ru,ru'⟩:=nH r
 obtain rfl:u'=gK v2:=by
  cases v2 <;> first | exact ru' | exact absurd rfl hv
 rcases hk with ⟨a,o,C,rfl,hH,hc,F,e⟩ | ⟨rfl,e⟩
 ·obtain ⟨h1,_⟩:=I.hok a _ hH
  cases (show u=Value.ref a from ru)
  exact bo5 (aJ4 F) I.kIn ⟨o,h1,hc⟩ e (fun z=>nomatch z) fun tk=>⟨.bl b,H,I.tok tk,rfl,q⟩
 ·cases (show u=Value.none from ru)
  exact bo5 PySem.W.kitx_none I.kIn trivial e (fun z=>nomatch z) fun tk=>⟨.bl b,H,I.tok tk,rfl,q⟩
def aQ6 (m:Str):PV->Option Bool
 | .exc n=>lH n m
 | .non=>some false
 | _=>none
def mQ (m:Str) (te:aE):aE:=fun ρ Q=>te ρ fun x _=>∃ b,aQ6 m x=some b/\Q (.bl b) .fr
structure xX (K:PySem.W.Frag) (m:Str) (v2:V):Prop where
 nn:gK v2 ≠ .none
 ex:∀ n C b,PySem.W.nsIn K mainGlobals n=some (some (.ref C))->lH n m=some b->iW K C/\PySem.W.kitOne K (.ref C) (gK v2)=some b
 no:PySem.W.kitOne K (.type "NoneType") (gK v2)=some false
theorem X1 {x:Str}{v2:V}{px:Pos} (B:Bt X.mg) (A:xX X.K x v2) (hx:PE X (.Name x px) (tC v2)) (ha:QE X a te) (hg:Gl X "isinstance":=by rfl)
  (he:starEach [a,.Name x px] X.env=(false,eval a X.env) :: starEach [.Name x px] X.env:=by rfl) (he2:starEach [.Name x px] X.env=(false,eval (.Name x px) X.env) :: starEach [] X.env:=by rfl) (hpl:(backTo pos (starEach [.Name x px] X.env)).any (·.1)=false:=by rfl):QE X (.Call (.Name "isinstance" p2) [a,.Name x px] [] pos) (mQ x te):=
 cH (uH aQ5 hg B.isinst PyProof.Rows.boot_isinstance (gH ha (gH hx iI he2) he) (he:=he) (hpl:=hpl)) fun σ H Q' h=>by
  obtain ⟨W,ρ,Q,px,q,k⟩:=h
  refine⟨W,ρ,_,px,q,?_⟩
  rintro v H1 y g s r ⟨b,e,q⟩
  refine⟨v,v2,b,rfl,A.nn,?_,k _ _ _ .fr s (.bl _) q⟩
  cases r with
  | exc h z c=>
   obtain ⟨F,kt⟩:=A.ex _ _ _ z e
   exact .inl ⟨_,_,_,rfl,h,c,F,kt⟩
  | non=>cases e; exact .inr ⟨rfl,A.no⟩
  | _=>cases e
end
section
variable {X : Cx} {a : Expr} {pos p2 px : Pos} {te : aE}
structure oV (K:PySem.W.Frag) (mg:Str->Option Value) (m:Str):Prop where
 ex:∃ C,mg m=some (.ref C)/\xX K m (.ref C)
structure xY (K:PySem.W.Frag) (mg:Str->Option Value):Prop where
 mg:mg "ValueError" = none
 is:xX K "ValueError" (.ty "ValueError")
theorem X2 {x:Str} (B:Bt X.mg) (A:oV X.K X.mg x) (ha:QE X a te) (hgx:Gl X x:=by rfl) (hdx:(x == ("__debug__" : Str))=false:=by decide) (hg:Gl X "isinstance":=by rfl)
  (he:starEach [a,.Name x px] X.env=(false,eval a X.env) :: starEach [.Name x px] X.env:=by rfl) (he2:starEach [.Name x px] X.env=(false,eval (.Name x px) X.env) :: starEach [] X.env:=by rfl) (hpl:(backTo pos (starEach [.Name x px] X.env)).any (·.1)=false:=by rfl):QE X (.Call (.Name "isinstance" p2) [a,.Name x px] [] pos) (mQ x te):=by
 obtain ⟨C,m,i⟩:=A.ex
 exact X1 B i (yZ hgx m rfl hdx) ha hg he he2 hpl
theorem aQ7 (B:Bt X.mg) (A:xY X.K X.mg) (ha:QE X a te) (hgx:Gl X "ValueError":=by rfl) (hg:Gl X "isinstance":=by rfl)
  (he:starEach [a,.Name "ValueError" px] X.env=(false,eval a X.env) :: starEach [.Name "ValueError" px] X.env:=by rfl) (he2:starEach [.Name "ValueError" px] X.env=(false,eval (.Name "ValueError" px) X.env) :: starEach [] X.env:=by rfl) (hpl:(backTo pos (starEach [.Name "ValueError" px] X.env)).any (·.1)=false:=by rfl):QE X (.Call (.Name "isinstance" p2) [a,.Name "ValueError" px] [] pos) (mQ "ValueError" te):=
 X1 B A.is (z9 (v:=.ty "ValueError") hgx A.mg PyProof.Rows.Boot.«ValueError» rfl (by decide) (by decide)) ha hg he he2 hpl
end
structure jW (K:PySem.W.Frag) (C:Addr):Prop where
 cls:PySem.W.isClsIn K C=true
 ty:PySem.W.typeIn K (.ref C)=some (.type "type")
 ga:PySem.W.findIn K (.ref C) "__getattribute__" = some (some (.builtin "BaseException.__getattribute__"))
 gt:PySem.W.findIn K (.ref C) "__getattr__" = some none
 fc:PySem.W.findIn K (.ref C) "__class__" = some (some (.builtin "object.__class__"))
 fg:PySem.W.specialIn K (.builtin "object.__class__") "__get__" = some (some (.builtin "getset_descriptor.__get__"))
 ft:PySem.W.takesIn K (.builtin "object.__class__")=some true
 ob:PySem.W.mroIn K C (.type "object")=some true
 be:PySem.W.mroIn K C (.type "BaseException")=some true
theorem jW.exc {K:PySem.W.Frag}{C:Addr} (h:jW K C):iW K C:=⟨h.cls,h.ga,h.gt,h.fc,h.fg,h.ft,h.ob,h.be⟩
theorem X3 {K:PySem.W.Frag}{h₀:Heap}{mg:Str->Option Value}{x:Str}{C:Addr}{bmB:List Value}{newId:String} (X:K.In h₀) (m:mg x=some (.ref C)) (q:PySem.W.excIn K C bmB newId=true):OwnCls x C bmB newId mg h₀:=by
 refine⟨m,?_⟩
 unfold PySem.W.excIn at q
 split at q
 case h_2=>cases q
 rename_i dd cd sl ho
 split at q
 case h_2=>cases q
 rename_i C' bm k0 k1 k2 k3 n k5 hm hs
 simp only [bm9,beq_iff_eq,Bool.not_eq_true'] at q
 obtain ⟨⟨⟨⟨⟨rfl,rfl⟩,dl⟩,ht⟩,hok⟩,hni⟩:=q
 obtain ⟨nm,bs,mro,ns,qn,hd,sn,sub,ab,col,del⟩:=cd
 dsimp only at hm dl hok hni
 subst hm dl
 obtain rfl:sl = #[k0,k1,k2,k3,some (.builtin n),k5]:=by
  obtain ⟨l⟩:=sl
  exact congrArg Array.mk hs
 exact⟨bm,ns,nm,qn,bs,hd,sn,sub,ab,col,dd,k0,k1,k2,k3,k5,_,X _ _ ho,.of_isNs (PySem.W.isNs_of_in X hok),PySem.W.nsMap_none_of_in X hok hni,PySem.W.tail_of_in X ht⟩
theorem sC {n m:Str}{b:Bool} (h:lH n m=some b):n ∈ mP/\b=(n == m || m == "HearthError" || m == "ValueError"):=by
 unfold lH at h
 split at h
 ·rename_i z
  exact⟨by simpa using z,by cases h; rfl⟩
 ·cases h
theorem mR {K:PySem.W.Frag}{C D:Addr}{b:Bool} (hd:jW K D) (ne:(C == D)=false) (s:PySem.W.subIn K (.ref C) (.ref D)=some b):PySem.W.kitOne K (.ref C) (.ref D)=some b:=by
 have ne':(Value.ref C == Value.ref D)=false:=by
  rw [bu6] at ne ⊢
  exact fun z=>ne (Value.ref.inj z)
 have c:=hd.cls
 unfold PySem.W.isClsIn at c
 unfold PySem.W.kitOne PySem.W.kitCls
 rw [if_neg (by rw [ne']; decide)]
 dsimp only
 rw [if_pos (by rw [c,hd.ty]; decide)]
 exact s
theorem X4 {K:PySem.W.Frag}{C:Addr}:PySem.W.kitOne K (.ref C) (.ref C)=some true:=by
 unfold PySem.W.kitOne
 rw [if_pos (bp6 _)]
theorem sD {K:PySem.W.Frag}{C:Addr} (s:PySem.W.subIn K (.ref C) (.type "ValueError")=some true):PySem.W.kitOne K (.ref C) (.type "ValueError")=some true:=by
 unfold PySem.W.kitOne PySem.W.kitCls
 rw [if_neg (fun z=>by cases beq_iff_eq.mp z)]
 dsimp only
 rw [if_pos (by decide +kernel)]
 exact s
theorem X5 {K:PySem.W.Frag}{D:Addr} (hd:jW K D) (s:PySem.W.subIn K (.type "NoneType") (.ref D)=some false):PySem.W.kitOne K (.type "NoneType") (.ref D)=some false:=by
 have c:=hd.cls
 unfold PySem.W.isClsIn at c
 unfold PySem.W.kitOne PySem.W.kitCls
 rw [if_neg (fun z=>by cases beq_iff_eq.mp z)]
 dsimp only
 rw [if_pos (by rw [c,hd.ty]; decide)]
 exact s
theorem aQ8 {K:PySem.W.Frag}:PySem.W.kitOne K (.type "NoneType") (.type "ValueError")=some false:=by
 have e:(if PySem.W.kitMeta "ValueError" = true then (fastBuiltinMro "NoneType").map (·.contains (Value.type "ValueError")) else none)=some false:=by decide +kernel
 unfold PySem.W.kitOne
 rw [if_neg (by decide)]
 exact e
theorem b9.of {P:Program}{w:World}{K:PySem.W.Frag}{mg:Str->Option Value}{base:Heap}{k:Nat}{x:Str}{ps N:List Str}{p:cW}{st:Stmt}{f:Addr}{fd:FuncData} (F:fL K x x st f fd) (m:mg x=some (.ref f)) (S:FnScope N ps (aU st))
  (hb:∀ (kV doc pm:Value) (an:Option Addr) (cdv ct:Value) (us:List Value),us.length=ps.length->bindArgs (PySem.W.fnOf x x (jC st) (eR st) (aU st) .none kV doc pm an cdv ct) ⟨us,[]⟩=pure (ps.zip us))
  (t:(Str->Prop)->aP) (len:∀ Ep xs Q,p Ep xs Q->xs.length=ps.length) (rd:∀ Ep xs Q,p Ep xs Q->t Ep { nx:=fun _=>Q .non,rt:=Q } (eV N xs))
  (body:∀ (cdv:Value) (A:Around) (outer:List Env) (s:Shared) (H:Hp) (E:XK) (Ep:Str->Prop),cE k (A.deeper (envOfC x (aU st) s.heap.objs.size f cdv))->mH (dG (eB P w) P w K mg base N x (aU st) f cdv A outer s H E) (EX K H Ep)->
   eW (dG (eB P w) P w K mg base N x (aU st) f cdv A outer s H E) (eR st) (t Ep)):b9 P w K mg base (k+1) x ps p:=by
 refine⟨f,fd,F.okX S (fun vs H Q E h=>?_) (fun cdv A outer s H vs Q E hr h=>?_),F.binds hb,F.kp,m⟩
 ·obtain ⟨xs,Qp,Ep,r,q,_⟩:=h
  rw [r.length]; exact len Ep xs Qp q
 ·obtain ⟨xs,Qp,Ep,r,q,k,ke⟩:=h
  have ht:=body cdv A outer s H E Ep hr (aH9 fun c d H' z=>?_)
  ·refine⟨_,ht,fun _=>False,eV N xs,_,wK r,rd Ep xs Qp q,?_,?_,?_,?_⟩
   ·exact fun W' σ' H' ρ' e px q=>k _ _ _ px.same .non q
   ·exact fun v H' x s r q=>k _ _ _ s r q
   ·exact fun W' σ' H' ρ' e px q=>q
   ·exact fun W' σ' H' ρ' e px q=>q
  ·obtain ⟨rfl,s1,n,C,rfl,z1,z2⟩:=z
   exact ke n C H' s1 z1 z2
end PP
namespace Core
open PySem L2 PP
abbrev gT (t:(Str->Prop)->aP) (N:List Str) (p:cW):Prop:=∀ Ep xs Q,p Ep xs Q->t Ep { nx:=fun _=>Q .non,rt:=Q } (eV N xs)
def sE:cW:=fun Ep xs Q=>∃ ws ls x ns,xs = [eC ws ls,x]/\eD x ns/\ns.length<=1000/\(eO ws.length ns=true->Q (.tup (intz ns)))/\(eO ws.length ns=false->Ep "BadSet")
def X6 (Ep:Str->Prop):aP:=(aF (bY (hZ (aT (aI xB (a6 (a5 0) (a6 (a5 1) aA))))) (mO Ep "BadSet" (a6 (qC (.str "a set is of rising hearths of the web")) aA)) c8)
 (bC (aI fZ (a6 (a5 1) aA))))
theorem aQ9:gT X6 ["web","hearths"] sE:=by
 rintro Ep xs Q ⟨ws,ls,x,ns,rfl,hx,hl,q1,q2⟩
 refine⟨_,rfl,_,rfl,ws,ls,x,ns,rfl,hx,hl,_,rfl,?_⟩
 cases h:eO ws.length ns with
 | true=>exact aN ⟨_,rfl,⟨_,_,rfl,hx.seqT,iL _,trivial,q1 h⟩,hx.noscr⟩
 | false=>exact aY ⟨by decide,q2 h⟩
end Core
namespace PP
open PySem L2
theorem sF {us:List Value} (h:us.length=1):∃ a,us = [a]:=List.length_eq_one_iff.mp h
theorem xZ {us:List Value} (h:us.length=2):∃ a b,us = [a,b]:=by
 cases us with
 | nil=>cases h
 | cons a r=>
  obtain ⟨b,rfl⟩:=sF (us:=r) (by simpa using h)
  exact⟨a,b,rfl⟩
theorem y9 {us:List Value} (h:us.length=3):∃ a b c,us = [a,b,c]:=by
 cases us with
 | nil=>cases h
 | cons a r=>
  obtain ⟨b,c,rfl⟩:=xZ (us:=r) (by simpa using h)
  exact⟨a,b,c,rfl⟩
theorem X7 {us:List Value} (h:us.length=4):∃ a b c d,us = [a,b,c,d]:=by
 cases us with
 | nil=>cases h
 | cons a r=>
  obtain ⟨b,c,d,rfl⟩:=y9 (us:=r) (by simpa using h)
  exact⟨a,b,c,d,rfl⟩
end PP
namespace Core
open PySem L2 PP
theorem yA:∀ (m:Nat) (l:List Nat),l.Nodup->(∀ x ∈ l,x < m)->l.length<=m
 | 0,[],_,_=>bh7 _
 | 0,x :: _,_,h=>absurd (h x bi6) (Nat.not_lt_zero _)
 | m+1,l,nd,h=>by
  by_cases hm:m ∈ l
  ·have h1:=yA m (l.erase m) (nd.erase m) fun x hx=>by
    obtain ⟨h2,h3⟩:=(nd.mem_erase_iff).mp hx
    have:=h x h3
    omega
   rw [List.length_erase_of_mem hm] at h1
   omega
  ·have h1:=yA m l nd fun x hx=>by
    have:=h x hx
    have:x ≠ m:=fun z=>hm (z ▸ hx)
    omega
   omega
end Core
namespace PP
open PySem L2
section
variable {X : Cx} {e : Expr} {tr : cR} {pos p2 : Pos}
def oW:List PV->(PV->Prop)->Prop:=fun xs Q=>∃ ys:List (List Int),xs = [.lst (ys.map fun r=>PV.tup (intz r))]/\ys.length<=4096/\(∀ y ∈ ys,y.length=2)/\∀ zs:List (List Int),zs.Perm ys->zs.Pairwise (fun u v=>HT.cA v u=false)->Q (.lst (zs.map fun r=>PV.tup (intz r)))
theorem aR0:fF X oW (R9 X.K):=by
 rintro H vs xs Q Q' r ⟨ys,rfl,hl,hne,q⟩ k
 obtain ⟨v,rfl,r1⟩:=r.one
 obtain ⟨a,us,rfl,_,h,r2⟩:=r1.sqL
 obtain ⟨h1,h2⟩:=U3 r2
 have lr:=r2.length
 rw [bh8] at lr
 refine⟨a,us,lG H,rfl,aR.of h,by omega,fun y hy=>?_,fun l zs hl' pm so=>?_⟩
 ·obtain ⟨b,rfl,hb⟩:=h2 y hy
  refine⟨b,rfl,aO.of hb,hne _ ?_⟩
  rw [<- h1]; exact bk9.mpr ⟨_,hy,rfl⟩
 ·have hz:∀ u ∈ zs,∃ b,u = .ref b/\H b=some (.tup ((lG H u).map V.int)):=fun u hu=>h2 u (pm.mem_iff.mp hu)
  refine k _ _ _ (bU hl' _) (.lst hl' bO ((U4 hz).same (bU hl' _) fun _ z=>z)) (q _ ?_ ?_)
  ·rw [<- h1]; exact pm.map _
  ·rw [bs1]; exact so
theorem yB (B:Bt X.mg) (ha:QA X [e] tr) (hg:Gl X "sorted":=by rfl) (he:starEach [e] X.env=(false,eval e X.env) :: starEach [] X.env:=by rfl) (hpl:(backTo pos (starEach [] X.env)).any (·.1)=false:=by rfl):QE X (.Call (.Name "sorted" p2) [e] [] pos) (aI oW tr):=
 jQ aH6 aR0 hg B.sorted PyProof.Rows.boot_sorted ha (he:=he) (hpl:=hpl)
end
end PP
namespace Core
open PySem L2 PP
structure WL (n:Int) (ws:List Int) (ls:List (Int × Int)):Prop where
 many:(ws.length:Int)=n
 inn:∀ l ∈ ls,0<=l.1/\l.1 < l.2/\l.2 < n
 most:ls.length<=1700
 ord:ls.Pairwise bL
 pos:∀ w ∈ ws,0<=w
theorem WL.perm {n:Int}{ws:List Int}{ls ls':List (Int × Int)} (h1:(ws.length:Int)=n) (h2:∀ l ∈ ls,0<=l.1/\l.1 < l.2/\l.2 < n) (h3:ls.length<=1700) (nd:ls.Nodup) (h4:∀ w ∈ ws,0<=w) (p:ls'.Perm ls) (so:(ls'.map two).Pairwise fun u v=>HT.cA v u=false):WL n ws ls':=
 ⟨h1,fun l hl=>h2 l (p.mem_iff.mp hl),by rw [p.length_eq]; exact h3,xI so (p.nodup_iff.mpr nd),h4⟩
theorem WL.wb {n:Int}{ws:List Int}{ls:List (Int × Int)} (h:WL n ws ls) (hn:n<=40):Wb ws ls:=
 ⟨by have:=h.many; omega,h.most,fun l hl=>by have:=h.inn l hl; have:=h.many; omega⟩
def yC (f:List Int->List (Int × Int)->List Int->(PV->Prop)->Prop):cW:=fun Ep xs Q=>∃ ws ls x ns,xs = [eC ws ls,x]/\Wb ws ls/\eD x ns/\ns.length<=1000/\(eO ws.length ns=true->f ws ls ns Q)/\(eO ws.length ns=false->Ep "BadSet")
def sG:cW:=yC fun ws ls ns Q=>∀ m,cQ ws ls ns m->Q (.lst (tups (ns :: after ws ls ns m)))
def sH:cW:=yC fun ws ls ns Q=>∀ m,cQ ws ls ns m->Q (.dK (jU (ns :: after ws ls ns m)))
def sI:cW:=yC fun ws ls ns Q=>∀ ms m,cQ ws ls ns m->ms.Perm (bB ws ls ns m)->ms.Pairwise (· <= ·)->Q (.tup (intz ms))
def X8 (Ep:Str->Prop):aP:=(aF (dY 2 (eS (a6 (gS Ep sE (a6 (a5 0) (a6 (a5 1) aA))) aA)))
 (aF (dY 3 (aI oO (a6 (cJ (a5 2) (qC (.int 0))) aA)))
 (aF (b6 4 (aI xC (a6 (a5 0) aA)))
 (aF (b6 5 (aI oP (a6 (a5 0) (a6 (a5 4) (a6 (a5 3) aA)))))
 (aF (nR (qL (a5 5))
  (aF (kD 2 (a5 5))
  (aF (wA 3 (aI oO (a6 (a5 5) aA)))
  (b6 5 (aI oP (a6 (a5 0) (a6 (a5 4) (a6 (a5 3) aA))))))))
 (kX 2))))))
theorem aR1:gT X8 ["web","seeds","told","burning","around","lit"] sG:=by
 rintro Ep xs Q ⟨ws,ls,x,ns,rfl,wb,hx,hl,q,qe⟩
 have few:=wb.few
 refine⟨_,rfl,_,rfl,ws,ls,x,ns,rfl,hx,hl,fun hs=>?_,qe⟩
 have q:=q hs
 have ln:=aL2 hs
 refine⟨by show 1<=1000; decide,?_,rfl,?_,?_⟩
 ·show (flat (.tup (intz ns)) && true)=true
  rw [xA]; rfl
 ·show (flat (.tup (intz ns)) && true)=true
  rw [xA]; rfl
 refine⟨_,rfl,_,_,_,rfl,rfl,rfl,_,ns,rfl,.inl rfl,by omega,fun ps d=>⟨rfl,d.fl,?_⟩⟩
 refine⟨_,rfl,ws,ls,rfl,wb,trivial,?_⟩
 refine⟨_,rfl,_,rfl,_,rfl,ws,ls,ps,ns,rfl,wb,d,trivial,?_⟩
 refine⟨fun n ρ=>∃ k ps,ρ = [some (.sh (flat (eC ws ls)) (eC ws ls)),some (.sh (flat x) x),some (.own (.lst (tups (ns :: after ws ls ns k)))),some (.own (.dK ps)),some (.sh true (.lst (mK ws.length ls))),some (.sh true (.tup (intz (nextOf ws ls (bB ws ls ns k)))))]/\
   n=fH ws (bB ws ls ns k)/\DS ps (bB ws ls ns k)/\∀ j < k,nextOf ws ls (bB ws ls ns j) ≠ [],⟨_,0,ps,rfl,rfl,d,fun _ z=>absurd z (Nat.not_lt_zero _)⟩,?_⟩
 rintro n ρ ⟨k,ps,rfl,rfl,d,ne⟩
 refine⟨_,rfl,_,rfl,?_⟩
 cases hn:nextOf ws ls (bB ws ls ns k) with
 | nil=>exact aN ⟨_,rfl,trivial,q k ⟨ne,hn⟩⟩
 | cons y yr=>
  refine aY ?_
  rw [<- hn]
  have cs:=x8 ws ls (bB ws ls ns k)
  have nl:1<=(nextOf ws ls (bB ws ls ns k)).length:=by rw [hn]; exact Nat.succ_le_succ (bn5 _)
  have nle:=aJ7 ws ls (bB ws ls ns k)
  have sl:=xE (ls:=ls) hs k
  have dl:=d.len
  have ke:=S8 k ne
  refine⟨_,rfl,_,rfl,trivial,?_,?_⟩
  ·rw [U0,bm5]
   unfold after
   rw [bh8,bw5]; omega
  refine⟨_,rfl,_,rfl,_,_,rfl,.inl rfl,by omega,fun mp dm=>⟨mp,rfl,.inl rfl,?_,?_⟩⟩
  ·have:=dm.len; omega
  have D7:DS (i5 ps mp) (bB ws ls ns (k+1)):=d.merge dm
  refine⟨_,rfl,_,rfl,_,rfl,ws,ls,_,_,rfl,wb,D7,trivial,?_⟩
  refine⟨_,?_,k+1,i5 ps mp,?_,rfl,D7,fun j hj=>?_⟩
  ·show fH ws (bB ws ls ns k ++ nextOf ws ls (bB ws ls ns k)) < _
   omega
  ·rw [S5,<- List.cons_append]
   unfold tups
   rw [bi9]; rfl
  ·by_cases e:j=k
   ·rw [e,hn]; exact fun z=>nomatch z
   ·exact ne j (by omega)
def X9 (Ep:Str->Prop):aP:=(aF (dY 2 (qC (.dK [])))
 (aF (dZ (xO (gS Ep sG (a6 (a5 0) (a6 (a5 1) aA)))) (iQ 3 4)
  (dZ (dM (a5 4)) (cG 5)
   (qQ 2 (a5 5) (a5 3))))
 (kX 2)))
theorem aR2:gT X9 ["web","seeds","ranks","rank","lit","hearth"] sH:=by
 rintro Ep xs Q ⟨ws,ls,x,ns,rfl,wb,hx,hl,q,qe⟩
 have few:=wb.few
 refine⟨rfl,rfl,_,rfl,_,rfl,ws,ls,x,ns,rfl,wb,hx,hl,fun hs m en=>⟨_,.inl rfl,fun z=>(by cases z),?_⟩,qe⟩
 have q:=q hs
 have fl:=x9 ws ls ns m
 have sl:=xE (ls:=ls) hs m
 have nd:=xR (ls:=ls) hs m
 generalize hrs:ns :: after ws ls ns m=rs at fl
 rw [<- fl] at sl nd
 refine⟨fun i ρ=>∃ y z u,ρ = [some (.sh (flat (eC ws ls)) (eC ws ls)),some (.sh (flat x) x),some (.own (.dK (jU (rs.take i)))),y,z,u],⟨none,none,none,rfl⟩,?_,?_⟩
 ·rintro i y ρ hy ⟨y0,z0,u0,rfl⟩
  obtain ⟨y,hy2,rfl⟩:=aN5 hy
  obtain ⟨r,rfl,hr⟩:=aL1 hy2
  have tk:rs.take (i+1)=rs.take i ++ [r]:=by rw [bl5,hr]; rfl
  have il:(rs.take i).length=i:=by
   have:=(bi3.mp hr).1
   rw [bo6]; omega
  have nd2:((rs.take i).flatten ++ r).Nodup/\((rs.take i).flatten ++ r).length<=rs.flatten.length:=by
   have e:rs.flatten=((rs.take i).flatten ++ r) ++ (rs.drop (i+1)).flatten:=by
    rw [<- List.flatten_singleton (l:=r),<- List.flatten_append,<- tk,<- List.flatten_append,bl4]
   rw [e] at nd ⊢
   exact⟨(bo8.mp nd).1,by rw [bi0 (as:=(rs.take i).flatten ++ r)]; omega⟩
  refine⟨_,_,rfl,_,rfl,_,rfl,fun z=>(by cases z),fun j ρ=>∃ u,ρ = [some (.sh (flat (eC ws ls)) (eC ws ls)),some (.sh (flat x) x),some (.own (.dK (jU (rs.take i) ++ gR i (r.take j)))),some (.sh true (.int (i:Int))),some (.sh true (.tup (intz r))),u],⟨u0,?_⟩,?_,?_⟩
  ·rw [show gR i (r.take 0) = [] from rfl,bk0]
   rfl
  ·rintro j y ρ hy ⟨u1,rfl⟩
   obtain ⟨n,rfl,hn⟩:=kJ hy
   have ke:(jU (rs.take i) ++ gR i (r.take j)).map (·.1)=((rs.take i).flatten ++ r.take j).map (Sum.inl:Int->aC):=by
    rw [bi9,bi9,V9,V7]
   have nn:n ∉ (rs.take i).flatten ++ r.take j:=by
    have:=nd2.1
    rw [<- bl4 j r,bt0 (bi3.mp hn).1,(bi3.mp hn).2,<- bj2] at this
    exact fun z=>(bo8.mp this).2.2 n z n bi6 rfl
   have le:(jU (rs.take i) ++ gR i (r.take j)).length<=40:=by
    have e1:=congrArg List.length ke
    have e2:=nd2.2
    rw [bh8,bh8,bi0,bi0,bo6] at e1
    rw [bi0] at e2
    rw [bi0]
    omega
   refine⟨_,rfl,_,rfl,_,rfl,Sum.inl n,rfl,trivial,by omega,si n,?_⟩
   rw [aP5 ke nn,aP6 hn,bj2]
   rfl
  ·rintro ρ ⟨u,rfl⟩
   refine⟨some (.sh true (.int i)),some (.sh true (.tup (intz r))),u,?_⟩
   rw [iX,bm1,tk,aP4,il]
 ·rintro ρ ⟨y,z,u,rfl⟩
  rw [xN,U0,bm1,<- hrs]
  exact⟨_,rfl,trivial,q m en⟩
def Y0 (Ep:Str->Prop):aP:=(bC (aI fZ (a6 (aI xS (a6 (gS Ep sH (a6 (a5 0) (a6 (a5 1) aA))) aA)) aA)))
theorem aR3:gT Y0 ["web","seeds"] sI:=by
 rintro Ep xs Q ⟨ws,ls,x,ns,rfl,wb,hx,hl,q,qe⟩
 have few:=wb.few
 refine⟨_,rfl,_,rfl,ws,ls,x,ns,rfl,wb,hx,hl,fun hs m en=>?_,qe⟩
 have sl:=xE (ls:=ls) hs m
 refine⟨_,bB ws ls ns m,rfl,?_,by omega,fun ms hp ho=>⟨⟨_,_,rfl,rfl,iL _,trivial,q hs ms m en hp ho⟩,fun ns z=>by cases z⟩⟩
 rw [V9,x9]
end Core
namespace PP
open PySem L2
section
variable {X : Cx} {a : Expr} {tk : aE} {σ : St} {H : Hp} {Q' : VK} {pos p2 : Pos}
theorem aR4 (hN:X.N.Nodup) (i j:Nat) {x y:Str}{apos cpos xpos:Pos} (hi:X.N[i]? = some x:=by rfl) (hj:X.N[j]? = some y:=by rfl) (hv:gE X.env.scope x:=by first | exact Or.inl rfl | exact Or.inr (Or.inl rfl) | exact Or.inr (Or.inr rfl)) (hd:(x == ("__debug__" : Str))=false:=by decide) (hcd:(x == ("__classdict__" : Str))=false:=by decide)
  (hbase:attributeBase (.Name x xpos) "pop" X.env (eval (.Name x xpos) X.env)=eval (.Name x xpos) X.env:=by rfl) (hline:(apos.endLine == cpos.line)=true:=by rfl)
  (hx:gF X.env.scope y:=by first | exact Or.inl rfl | exact Or.inr rfl) (hs:swapsWith (.Call (.Attribute (.Name x xpos) "pop" apos) [] [] cpos) (some (.Name y p2)) pos.line X.env=pure false:=by rfl) (hf:X.fn y=true ∨ X.env.scope.names.lookup y=some .local:=by first | exact .inl rfl | exact .inr rfl) :
  QS X (.Assign [.Name y p2] (.Call (.Attribute (.Name x xpos) "pop" apos) [] [] cpos) pos) (vT i j):=
 dN (tZ hN hj hx (ar9 PySem.F.plainAttrs_list PySem.F.slot_list_pop PySem.F.type_list_pop as2 (iF hi hv hd hcd) hbase hline) hs hf) fun _ _ _=>aA5
end
end PP
namespace Core
open PySem L2 PP
theorem Y1 (n:Nat):∀ (a b:List (List Int)),((((tups a).zip (tups b)).all fun p=>bV (n+1) p.1 p.2) && (tups a).length == (tups b).length)=decide (a=b)
 | [],[]=>rfl
 | [],_ :: _=>by simp [tups]
 | _ :: _,[]=>by simp [tups]
 | x :: a,y :: b=>by
  have ih:=Y1 n a b
  have e:∀ (z:List Int) (c:List (List Int)),tups (z :: c)=PV.tup (intz z) :: tups c:=fun _ _=>rfl
  rw [e,e]
  simp only [bs5,bx0,bm5,qR] at ih ⊢
  by_cases h:x=y
  ·subst h
   have:((tups a).length+1 == (tups b).length+1)=((tups a).length == (tups b).length):=by simp
   rw [this,bh5 rfl,Bool.true_and,ih]
   simp
  ·rw [bh2 h,bu0,bu0]
   simp [h]
theorem Y2 (n:Nat) (a b:List (List Int)):bV (n+2) (.lst (tups a)) (.lst (tups b))=decide (a=b):=Y1 n a b
theorem yD (n:Nat):∀ (a b:List (List Int)),dB (n+2) (.lst (tups a)) (.lst (tups b))=true
 | [],_=>by unfold dB tups; simp
 | _ :: _,[]=>by unfold dB tups; simp
 | x :: a,y :: b=>by
  have ih:=yD n a b
  show (((PV.tup (intz x) :: tups a).zip (PV.tup (intz y) :: tups b)).all fun p=>dB (n+1) p.1 p.2)=true
  rw [bs5,bx0,qS,Bool.true_and]
  exact ih
abbrev Y3 (bs:List Bool):List PV:=bs.map PV.bl
theorem aR5 (n:Nat) (a:Int):(List.replicate n [PV.int a]).flatten=intz (List.replicate n a):=by
 induction n with
 | zero=>rfl
 | succ n ih=>rw [bq5,bq5,bs0,ih]; rfl
section
variable {ws : List Int} {ls : List (Int × Int)}
def cne (ws:List Int) (ls:List (Int × Int)) (S:List Int):Bool:=!decide (S = []) && decide (stay ws ls S=S)
end
end Core
namespace PP
open PySem L2
section
variable {X : Cx} {a b : Expr} {ta tb : aE} {pos : Pos}
theorem aR6 {K:PySem.W.Frag}{M M':Addr->Prop}{H:Hp}{v:V}{m n:List Int} (r1:aJ K M H v (.tup (intz m))) (r2:aJ K M' H v (.tup (intz n))):m=n:=by
 obtain ⟨p,us,rfl,h1,q1⟩:=r1.sqT
 obtain ⟨p2,ws,e,h2,q2⟩:=r2.sqT
 cases e
 rw [h1] at h2
 cases h2
 have:=(q1.ofInts).symm.trans q2.ofInts
 exact (List.map_inj_right fun _ _ e=>by cases e; rfl).mp this
end
end PP
namespace Core
open PySem L2 PP
def far (ns S:List Int):Bool:=decide (((S.filter fun x=>decide (x ∈ ns)).length:Int)=0)
def Y4 (ws:List Int) (ls:List (Int × Int)):List Int->List Int->Bool
 | _,[]=>true
 | B,h :: R=>inB ws.length h && (kin ws ls B h && Y4 ws ls (B ++ [h]) R)
end Core
namespace Raw
open PySem PySem.W PySem.Calls PyProof.Rows
theorem yE {xs:List Nat} (a:xs.Pairwise (· < ·)) {i k:Nat} (hk:k < xs.length) (h:i<=k):xs.getD i 0<=xs.getD k 0:=by
 rcases bn2 i k with z | z
 ·have:=bn3.mp a i k (by omega) hk z
  rw [bj4,bj4,bh4 (by omega),bh4 hk]
  exact bp9 this
 ·rw [Nat.le_antisymm h z]; exact bh7 _
theorem aR7 {xs:Array Nat}{i j:Nat} (h:i < xs.size):xs.getD i j=xs.toList.getD i 0:=by
 rw [bj4,bq6,Array.getD_eq_getD_getElem?,Array.getElem?_eq_getElem h]; rfl
theorem yF {xs:Array Nat}{j:Nat} (a:xs.toList.Pairwise (· < ·)):∀ (fuel lo hi:Nat),lo<=hi->hi<=xs.size->hi - lo<=fuel->(∀ i,i < lo->xs.toList.getD i 0 < j)->(∀ i,hi<=i->i < xs.size->j<=xs.toList.getD i 0)->
  SetTable.below.go xs j fuel lo hi<=xs.size/\(∀ i,i < SetTable.below.go xs j fuel lo hi->xs.toList.getD i 0 < j)/\∀ i,SetTable.below.go xs j fuel lo hi<=i->i < xs.size->j<=xs.toList.getD i 0
 | 0,lo,hi,h1,h2,h3,h4,h5=>by
  have e:lo=hi:=by omega
  subst e
  exact⟨h2,h4,h5⟩
 | fuel+1,lo,hi,h1,h2,h3,h4,h5=>by
  have sz:xs.toList.length=xs.size:=bm0
  unfold SetTable.below.go
  by_cases lt:lo < hi
  ·rw [if_pos lt]
   dsimp only
   have m1:lo<=(lo+hi) / 2:=by omega
   have m2:(lo+hi) / 2 < hi:=by omega
   rw [aR7 (by omega)]
   by_cases c:xs.toList.getD ((lo+hi) / 2) 0 < j
   ·rw [if_pos c]
    exact yF a fuel _ _ (by omega) h2 (by omega) (fun i hi'=>Nat.lt_of_le_of_lt (yE a (by omega) (by omega)) c) h5
   ·rw [if_neg c]
    exact yF a fuel _ _ (by omega) (by omega) (by omega) h4 fun i h6 h7=>bm4 (bv1 c) (yE a (by omega) h6)
  ·rw [if_neg lt]
   have e:lo=hi:=by omega
   subst e
   exact⟨h2,h4,h5⟩
theorem aR8 {xs:Array Nat}{j:Nat} (a:xs.toList.Pairwise (· < ·)):SetTable.below xs j<=xs.size/\(∀ i,i < SetTable.below xs j->xs.toList.getD i 0 < j)/\∀ i,SetTable.below xs j<=i->i < xs.size->j<=xs.toList.getD i 0:=
 yF a xs.size 0 xs.size (bn5 _) (bh7 _) (by omega) (fun i h=>absurd h (Nat.not_lt_zero _)) fun i h1 h2=>absurd h2 (by omega)
theorem aR9 {α:Type} (xs:Array α) (p:Nat) (x:α):(SetTable.insertAt xs p x).toList=xs.toList.take p ++ x :: xs.toList.drop p:=by
 unfold SetTable.insertAt
 simp
 exact bl8 (by simp)
theorem aS0 {xs:Array Nat}{j:Nat} (a:xs.toList.Pairwise (· < ·)) (ne:xs[SetTable.below xs j]? ≠ some j):(SetTable.insertAt xs (SetTable.below xs j) j).toList.Pairwise (· < ·):=by
 obtain ⟨b1,b2,b3⟩:=aR8 (j:=j) a
 have sz:xs.toList.length=xs.size:=bm0
 rw [aR9]
 refine bm3.mpr ⟨a.sublist (List.take_sublist _ _),bt3.mpr ⟨fun x hx=>?_,a.sublist (List.drop_sublist _ _)⟩,fun x hx y hy=>?_⟩
 ·obtain ⟨i,hi,e⟩:=br8 hx
  rw [br5] at hi
  rw [List.getElem_drop] at e
  have h1:=b3 (SetTable.below xs j) (bh7 _) (by omega)
  have h2:=yE a (i:=SetTable.below xs j) (k:=SetTable.below xs j+i) (by omega) (by omega)
  have h3:xs.toList.getD (SetTable.below xs j+i) 0=x:=by rw [bj4,bh4 (by omega),e]; rfl
  rcases bn2 j x with z | z
  ·exact z
  ·exfalso
   have h4:xs.toList.getD (SetTable.below xs j) 0=j:=by omega
   rw [bj4,bh4 (by omega)] at h4
   refine ne ?_
   rw [<- bq6,bh4 (by omega)]
   exact congrArg some h4
 ·have hx':x < j:=by
   obtain ⟨i,hi,e⟩:=br8 hx
   rw [bo6] at hi
   rw [List.getElem_take] at e
   have:=b2 i (by omega)
   rw [bj4,bh4 (by omega),e] at this
   exact this
  rcases bh9.mp hy with e | hy
  ·rw [e]; exact hx'
  ·obtain ⟨i,hi,e⟩:=br8 hy
   rw [br5] at hi
   rw [List.getElem_drop] at e
   have:=b3 (SetTable.below xs j+i) (by omega) (by omega)
   rw [bj4,bh4 (by omega),e] at this
   exact bi8 hx' this
structure iC (b:Bool) (t:SetTable):Prop where
 asc:t.place.toList.Pairwise (· < ·)
 dm:t.dummies = #[]
 led:t.led=b
theorem Y5 (j:Nat):SetTable.has #[] j=false:=by
 unfold SetTable.has
 simp
theorem Y6 {t:SetTable} (dm:t.dummies = #[]) {h:Int}{j:Nat}{d:Option Nat}:∀ (fuel:Nat) (p:SetTable.Probe),p.dummy=none->SetTable.probe.go t (fun _=>h+1) h fuel p=some (.empty j d)->d=none/\t.slot j = .empty
 | 0,p,_,e=>by cases e
 | fuel+1,p,hp,e=>by
  unfold SetTable.probe.go at e
  have adv:∀ p:SetTable.Probe,p.dummy=none->(t.advance p).dummy=none:=fun p hp=>by
   unfold SetTable.advance
   split <;> exact hp
  cases hs:t.slot p.j with
  | empty=>
   rw [hs] at e
   cases e
   exact⟨hp,hs⟩
  | dummy=>
   exfalso
   unfold SetTable.slot at hs
   dsimp only at hs
   rw [dm,Y5] at hs
   split at hs <;> cases hs
  | live i=>
   rw [hs] at e
   dsimp only at e
   rw [if_neg (by simp; omega)] at e
   exact Y6 dm fuel _ (adv p hp) e
theorem aS1 {t:SetTable} (dm:t.dummies = #[]) {h:Int}{sl:Nat}{d:Bool} (e:t.freeSlot h=some (sl,d)):t.slot sl = .empty:=by
 unfold SetTable.freeSlot at e
 split at e
 ·rename_i j dummy hm
  obtain ⟨e1,e2⟩:=Y6 dm _ _ rfl hm
  subst e1
  cases e
  exact e2
 ·cases e
theorem sJ {b:Bool}{t:SetTable} (h:iC b t) (n:Nat):iC b (t.standIn n):=⟨by
 show (Array.range n).toList.Pairwise (· < ·)
 rw [Array.toList_range]; exact List.pairwise_lt_range,rfl,h.led⟩
theorem aS2 {b:Bool}{t:SetTable} (h:iC b t) {j:Nat} (hs:t.slot j = .empty):iC b (t.put j).1:=by
 refine⟨?_,?_,h.led⟩
 ·refine aS0 h.asc fun e=>?_
  unfold SetTable.slot at hs
  dsimp only at hs
  rw [if_pos (by rw [e]; exact bp6 _)] at hs
  cases hs
 ·show (if SetTable.has t.dummies j then SetTable.eraseAt t.dummies (SetTable.below t.dummies j) else t.dummies) = #[]
  rw [h.dm,Y5]; rfl
theorem aS3 {b:Bool}{t:SetTable} (h:iC b t) (es:Array (Int × Value)) (k:Int) (x:Value):iC b (layNew t es k x).2.1:=by
 unfold layNew
 split
 ·rename_i sl wd e
  have p:=aS2 h (aS1 h.dm e)
  show iC b (SetTable.orStandIn _ _)
  unfold SetTable.orStandIn
  split
  ·exact p
  ·exact sJ p _
 ·exact sJ h _
theorem aS4 {b:Bool}{t:SetTable} (h:iC b t) (es:Array (Int × Value)) (n:Nat):iC b (relayAll t es n).2.1:=by
 unfold relayAll
 split
 ·rename_i t' order e
  dsimp only
  split
  ·show iC b t'
   unfold SetTable.relaid SetTable.laid at e
   cases hc:SetTable.layClean (SetTable.sizeAbove n - 1) (es.map (·.1)) with
   | none=>rw [hc] at e; cases e
   | some owner=>
    rw [hc] at e
    cases e
    refine⟨?_,rfl,h.led⟩
    show (List.map _ _).Pairwise (· < ·)
    refine bs1.mpr (List.Pairwise.filterMap _ (R:=(· < ·)) ?_ List.pairwise_lt_range)
    intro i i' hlt x hx y hy
    cases ho:owner.getD i none with
    | none=>rw [ho] at hx; cases hx
    | some v=>
     rw [ho] at hx
     cases ho2:owner.getD i' none with
     | none=>rw [ho2] at hy; cases hy
     | some v2=>
      rw [ho2] at hy
      cases hx; cases hy
      exact hlt
  ·exact sJ h _
 ·exact sJ h _
theorem Y7 {us vs:List Value} (p:us.Perm vs):∀ {ns:List Int},IntsAre vs ns->∃ ms,IntsAre us ms/\ms.Perm ns:=by
 induction p with
 | nil=>intro ns h; exact⟨ns,h,bx3 _⟩
 | cons x _ ih=>
  intro ns h
  cases h with
  | cons n t r=>
   obtain ⟨ms,h1,h2⟩:=ih r
   exact⟨n :: ms,.cons n t h1,h2.cons n⟩
 | swap x y l=>
  intro ns h
  cases h with
  | cons n t r=>
   cases r with
   | cons n' t' r=>
    exact⟨n' :: n :: _,.cons n' t' (.cons n t r),List.Perm.swap _ _ _⟩
 | trans _ _ ih1 ih2=>
  intro ns h
  obtain ⟨ms,h1,h2⟩:=ih2 h
  obtain ⟨ms',h3,h4⟩:=ih1 h1
  exact⟨ms',h3,h4.trans h2⟩
theorem Y8:∀ {us:List Value}{ns:List Int},IntsAre us ns->∀ (k:Int) (t:Nat),IntsAre (us ++ [.int k t]) (ns ++ [k])
 | _,_,.nil,k,t=>.cons k t .nil
 | _,_,.cons n u r,k,t=>.cons n u (Y8 r k t)
theorem sL:∀ {us:List Value}{ns:List Int},IntsAre us ns->∀ k:Int,k ∈ ns ↔ ∃ t,Value.int k t ∈ us
 | _,_,.nil,k=>⟨(fun h=>nomatch h),(fun ⟨_,h⟩=>nomatch h)⟩
 | _,_,.cons n u r,k=>by
  constructor
  ·intro h
   rcases bh9.mp h with e | h
   ·exact⟨u,by rw [e]; exact bi6⟩
   ·obtain ⟨t,ht⟩:=(sL r k).mp h
    exact⟨t,bi7 _ ht⟩
  ·rintro ⟨t,h⟩
   rcases bh9.mp h with e | h
   ·cases e; exact bi6
   ·exact bi7 _ ((sL r k).mpr ⟨t,h⟩)
abbrev oX (es:Array (Int × Value)) (ep:Nat) (t:SetTable):Obj:={ cls:=.type "set",dict:=none,data:=.set es ep t,slots:=#[] }
section
variable {prog : Program} {w : World} {A : Around} {E : Value → Shared → Prop} {s : Shared}
def aS5 (prog:Program) (w:World) (es:Array (Int × Value)) (t:SetTable) (ms:List Int):Prop:=ElemsOf (intKind prog w) es.toList/\IntsAre (es.toList.map (·.2)) ms/\es.size < scanBound/\t.fits es.size=true/\iC (!w.params.followText "set-order") t
def Y9 (prog:Program) (w:World) (h:Heap) (a:Addr) (ms:List Int):Prop:=∃ es ep t,h.get? a=some (oX es ep t)/\aS5 prog w es t ms
theorem Z0 {h:Heap}{a:Addr}{es es':Array (Int × Value)}{ep:Nat}{t t':SetTable} (ho:h.get? a=some (oX es ep t)):(h.update a (Obj.putSet es' t')).get? a=some (oX es' (ep+1) t'):=by
 have:=Heap.get?_update_self (Obj.putSet es' t') ho (by rw [putSet_of es' t' (rfl:(oX es ep t).data=_)]; rfl)
 rw [putSet_of es' t' (rfl:(oX es ep t).data=_)] at this
 exact this
theorem add_int {a:Addr}{ms:List Int}{k:Int}{u:Nat}{Q:Bool->Shared->Prop} (hS:Y9 prog w s.heap a ms) (room:ms.length+1 < scanBound)
  (h:∀ b h' ms',Heap.SameBut a s.heap h'->Y9 prog w h' a ms'->(k ∈ ms->ms'.Perm ms)->(k ∉ ms->ms'.Perm (ms ++ [k]))->Q b { s with heap:=h' }) :
  wpAny (model prog w) A (setAddHashed a (.int k u) ((intKind prog w).hash k)) Q E s:=by
 obtain ⟨es,ep,t,ho,hel,hi,hb,hf,tk⟩:=hS
 have key:(intKind prog w).is k (.int k u)=true:=intKind_is _ _ _ _
 have ln:ms.length=es.size:=by
  have:=IntsAre.length hi
  rw [bh8,bm0] at this
  exact this.symm
 have isk:∀ v,(intKind prog w).is k v=true->∃ u,v = .int k u:=fun v hv=>Value.isInt_shape hv
 unfold setAddHashed setAddHashedIn
 refine bp7 (bh0 (wpAny_setState_of ho rfl hf ?_))
 dsimp only
 rw [byScan_of (knd:=intKind prog w) (x:=.int k u) rfl hb hel,if_pos rfl]
 unfold setAddByScan
 refine bh0 (bh0 (bu5 ?_))
 refine bh0 (wpAny_setScan_of key ho rfl hf hel ?_)
 cases hr:List.findIdx? (fun e=>(intKind prog w).is k e.2) es.toList with
 | some j=>
  dsimp only
  obtain ⟨hj,hp,_⟩:=List.findIdx?_eq_some_iff_getElem.mp hr
  have km:k ∈ ms:=by
   obtain ⟨u',e⟩:=isk _ hp
   exact (sL hi k).mpr ⟨u',by rw [<- e]; exact bk9.mpr ⟨_,bs7 hj,rfl⟩⟩
  have e:s={ s with heap:=s.heap }:=by cases s; rfl
  rw [e]
  exact bh6 (bh6 (h _ s.heap ms (Heap.SameBut.refl a s.heap) ⟨es,ep,t,ho,hel,hi,hb,hf,tk⟩ (fun _=>bx3 _) fun n=>absurd km n))
 | none=>
  dsimp only
  have km:k ∉ ms:=fun z=>by
   obtain ⟨u',hm⟩:=(sL hi k).mp z
   obtain ⟨e,he,e2⟩:=bk9.mp hm
   have:=List.findIdx?_eq_none_iff.mp hr e he
   rw [e2,intKind_is _ _ _ _] at this; cases this
  have lp:=layNew_perm t es ((intKind prog w).hash k) (.int k u)
  have lf:=layNew_fits t es ((intKind prog w).hash k) (.int k u)
  have lk:=aS3 tk es ((intKind prog w).hash k) (.int k u)
  generalize hL:layNew t es ((intKind prog w).hash k) (.int k u)=L at lp lf lk ⊢
  obtain ⟨es1,t1,wd,gave⟩:=L
  dsimp only at lp lf lk ⊢
  rw [Array.toList_push] at lp
  have el1:ElemsOf (intKind prog w) es1.toList:=(hel.push key rfl).perm lp
  have sz1:es1.size=es.size+1:=by rw [<- bm0,lp.length_eq,bi0,bm0]; rfl
  obtain ⟨ms1,i1,p1⟩:∃ ms1,IntsAre (es1.toList.map (·.2)) ms1/\ms1.Perm (ms ++ [k]):=Y7 (lp.map (·.2)) (by rw [bi9]; exact Y8 hi k u)
  have hb1:es1.size < scanBound:=by omega
  have gw:∀ (b:Bool) (s₁:Shared) (Q':Unit->Shared->Prop),Q' () s₁->wpAny (model prog w) A (match b with | true=>rule "set.scan.the-table-gave-way" | false=>pure ()) Q' E s₁:=fun b s₁ Q' hq=>by
   cases b
   ·exact bh6 hq
   ·exact bu5 hq
  refine bh0 (gw _ _ _ ?_)
  split <;> (
   show wpAny _ _ (storeSet a es1 t1 >>= _) _ _ _
   simp only [↓reduceIte]
   refine bh0 (wpAny_storeSet_of ho rfl ?_ (fits_of_scanBound hb1))
   have ho1:=Z0 (es':=es1) (t':=t1) ho
   have sb1:=bu7 s.heap a (Obj.putSet es1 t1)
   split
   ·have rp:=relayAll_perm t1 es1 (SetTable.grown es1.size)
    have rf:=relayAll_fits t1 es1 (SetTable.grown es1.size)
    have rk:=aS4 lk es1 (SetTable.grown es1.size)
    generalize relayAll t1 es1 (SetTable.grown es1.size)=L at rp rf rk ⊢
    obtain ⟨es2,t2,gave2⟩:=L
    dsimp only at rp rf rk ⊢
    have sz2:es2.size=es1.size:=by rw [<- bm0,rp.length_eq,bm0]
    obtain ⟨ms2,i2,p2⟩:=Y7 (rp.map (·.2)) i1
    refine bh0 (gw _ _ _ ?_)
    refine bh0 (wpAny_storeSet_of ho1 rfl ?_ (fits_of_scanBound (by omega)))
    exact bh6 (bh6 (h _ _ ms2 (sb1.trans (bu7 _ a _)) ⟨es2,_,t2,Z0 ho1,el1.perm rp,i2,by omega,rf,rk⟩ (fun z=>absurd z km) fun _=>p2.trans p1))
   ·exact bh6 (bh6 (h _ _ ms1 sb1 ⟨es1,_,t1,ho1,el1,i1,hb1,lf,lk⟩ (fun z=>absurd z km) fun _=>p1)))
end
end Raw
namespace Core
open PySem L2 PP
theorem aS6 {n:Nat}{ks:List Int} (up:ks.Pairwise (· < ·)) (inn:∀ x ∈ ks,0<=x/\x < (n:Int)):eO n ks=true:=by
 have nd:ks.Nodup:=up.imp fun h=>Int.ne_of_lt h
 have:=nd.length_le_of_subset fun x hx=>kK.mpr (inn x hx)
 rw [mI] at this
 have u:xJ (n:Int) ks:=⟨up,inn,by omega⟩
 exact u.set
end Core
namespace PP
open PySem L2
section
variable {X : Cx} {a b e o : Expr} {ta tb te to : aE} {tr : cR} {pos p2 apos cpos : Pos} {σ : St} {H : Hp} {Q' : VK}
def sM:List PV->(PV->Prop)->Prop:=fun xs Q=>(∃ i,xs = [.int i]/\Q (.int i)) ∨ ∃ k,xs = [.bl k]/\Q (.int (if k then 1 else 0))
theorem aS7:fF X sM (fun xs H Q=>(∃ i,xs = [.int i]/\Q (.int i) H) ∨ ∃ k,xs = [.bl k]/\Q (.int (if k then 1 else 0)) H):=by
 rintro H vs xs Q Q' r (⟨i,rfl,q⟩ | ⟨i,rfl,q⟩) k
 ·obtain ⟨v,rfl,r1⟩:=r.one
  cases r1
  exact .inl ⟨i,rfl,k _ _ _ (aG.refl _) (.int _) q⟩
 ·obtain ⟨v,rfl,r1⟩:=r.one
  cases r1
  exact .inr ⟨i,rfl,k _ _ _ (aG.refl _) (.int _) q⟩
theorem Z1 (B:Bt X.mg) (ha:QA X [e] tr) (hg:Gl X "int":=by rfl) (he:starEach [e] X.env=(false,eval e X.env) :: starEach [] X.env:=by rfl) (hpl:(backTo pos (starEach [] X.env)).any (·.1)=false:=by rfl):QE X (.Call (.Name "int" p2) [e] [] pos) (aI sM tr):=
 wE ao0 aS7 hg B.int PyProof.Rows.boot_int ha (he:=he) (hpl:=hpl)
open Classical in
theorem aS8 {A:Around} (hu:A.units+2 < cLine) {pins:List (Addr × Obj)}{s:Shared}{H:Hp}{us:List V}{its:List Value}{rs:List (List Int)}{ns:List Int}{x:V}{v:Value} (I:a8 X pins σ H s) (rx:aS x v) (r:aL us its)
  (rn:aJ X.K (fun _=>True) H x (.tup (intz ns))) (rr:Reps X.K (fun _=>True) H us (rs.map fun r=>PV.tup (intz r))):∃ f:Value->Bool,∀ (j:Nat) (w:Value),its[j]? = some w->∃ m,rs[j]? = some m/\SeqAt.EqAt A s w v (f w)/\f w=decide (m=ns):=by
 have lr:=r.length
 have lp:=rr.length
 rw [bh8] at lp
 refine⟨fun w=>decide (∃ v',aS v' w/\aJ X.K (fun _=>True) H v' (.tup (intz ns))),fun j w hw=>?_⟩
 have hj:=(bi3.mp hw).1
 have h1:j < us.length:=by omega
 obtain ⟨w',hw',rw'⟩:=r.get (bh4 h1)
 rw [hw] at hw'
 cases hw'
 obtain ⟨m',hm',rm⟩:=rr.get (bh4 h1)
 rw [bj5] at hm'
 cases hm:rs[j]? with
 | none=>rw [hm] at hm'; cases hm'
 | some m=>
  rw [hm] at hm'
  cases hm'
  have e2:(decide (∃ v',aS v' w/\aJ X.K (fun _=>True) H v' (.tup (intz ns))))=decide (m=ns):=by
   have:(∃ v',aS v' w/\aJ X.K (fun _=>True) H v' (.tup (intz ns))) ↔ m=ns:=by
    refine⟨fun ⟨v',h1',h2'⟩=>?_,fun e=>⟨_,rw',by rw [<- e]; exact rm⟩⟩
    obtain ⟨p1,w1,e1,_,_⟩:=rm.sqT
    obtain ⟨p2,w2,e2,_,_⟩:=h2'.sqT
    rw [e1] at rw' rm
    rw [e2] at h1' h2'
    cases rw'
    cases h1'
    exact aR6 rm h2'
   exact decide_eq_decide.mpr this
  refine⟨m,rfl,?_,e2⟩
  show SeqAt.EqAt A s w v (decide _)
  rw [e2]
  have:=O2 I 2 (A:=A) hu rm rn rw' rx (by exact qS 1 m ns)
  rw [qR 1] at this
  exact this
def Z2 (K:PySem.W.Frag):R2:=fun x y H Q=>∃ p us ns,∃ rs:List (List Int),y = .ref p/\H p=some (.lst us)/\aJ K (fun _=>True) H x (.tup (intz ns))/\Reps K (fun _=>True) H us (rs.map fun r=>PV.tup (intz r))/\Q (.bl (!decide (ns ∈ rs))) H
theorem aS9 (hu:X.A.units+3 < cLine):bX X (compareOp .NotIn) (Z2 X.K):=by
 intro pins s σ H x y v u Q I rx ry h
 obtain ⟨p,us,ns,rs,rfl,hp,rn,rr,q⟩:=h
 cases ry
 obtain ⟨its,r,pl,hz⟩:=I.list (aR.of (K:=X.K) hp)
 have lr:=r.length
 have lp:=rr.length
 rw [bh8] at lp
 obtain ⟨f,key⟩:=aS8 (A:=X.A.in1) (by show X.A.units+1+2 < cLine; omega) I rx r rn rr
 refine SeqAt.notIn_listAt f pl.isList (fun w hw=>?_) ⟨.bl _,H,I,rfl,?_⟩
 ·have hw:w ∈ its:=by simpa using hw
  obtain ⟨j,hj⟩:=List.getElem?_of_mem hw
  obtain ⟨m,_,h1,h2⟩:=key j w hj
  exact h1
 ·have:its.toArray.any f=decide (ns ∈ rs):=by
   rw [show its.toArray.any f=its.any f by simp,bp3,List.any_eq_true,bj8]
   refine⟨fun ⟨w,hw,e⟩=>?_,fun h=>?_⟩
   ·obtain ⟨j,hj⟩:=List.getElem?_of_mem hw
    obtain ⟨m,hm,_,h2⟩:=key j w hj
    rw [h2,bj8] at e
    rw [<- e]; exact bn6 hm
   ·obtain ⟨j,hj⟩:=List.getElem?_of_mem h
    have hl:=(bi3.mp hj).1
    obtain ⟨m,hm,_,h2⟩:=key j its[j] (bh4 (by omega))
    rw [hj] at hm
    cases hm
    exact⟨its[j]'(by omega),bs7 _,by rw [h2]; exact bh5 rfl⟩
  rw [this]
  exact q
def sN:PV->Tg->PV->Tg->PK->Prop:=fun x _ y _ Q=>∃ ns,∃ rs:List (List Int),x = .tup (intz ns)/\y = .lst (rs.map fun r=>PV.tup (intz r))/\Q (.bl (!decide (ns ∈ rs))) .fr
theorem aT0:dL X sN (Z2 X.K):=by
 rintro W Hs H u v x y g g' Q Q' s n r1 r2 ⟨ns,rs,rfl,rfl,q⟩ k
 obtain ⟨p,us,rfl,_,h,r⟩:=r2.sqL
 exact⟨p,us,ns,rs,rfl,h,r1.same (aG.refl _) (fun _ _=>trivial),r.same (aG.refl _) (fun _ _=>trivial),k _ _ _ .fr (aG.refl _) (.bl _) q⟩
theorem aT1 (hu:X.A.units+3 < cLine) (ha:QE X a ta) (hb:QE X b tb) (hm:behindInMarks .NotIn b=false:=by rfl):QT X (.Compare a [.NotIn] [b] pos) (aT (q2 sN ta tb)):=jM (aS9 hu) aT0 ha hb hm
end
section
variable {X : Cx} {a b e : Expr} {ta tb te : aE} {tr : cR} {pos : Pos} {σ : St} {H : Hp} {Q' : VK} {es : List Expr}
def Z3:PV->Tg->PV->Tg->PK->Prop:=fun x _ y _ Q=>∃ i j:Str,x = .str i/\y = .str j/\i.length+j.length<=1000/\Q (.str (i ++ j)) .fr
abbrev Z4 (ta tb:aE):aE:=q2 Z3 ta tb
theorem aT2:dL X Z3 (fun x y H Q=>∃ i j:Str,x = .str i/\y = .str j/\i.length+j.length<=sizeLine/\Q (.str (i ++ j)) H):=by
 rintro W Hs H u v x y g g' Q Q' s n r1 r2 ⟨i,j,rfl,rfl,h,q⟩ k
 cases r1; cases r2
 exact⟨i,j,rfl,rfl,qG h,k _ _ _ _ (aG.refl _) (.str _) q⟩
theorem aT3 (ha:QE X a ta) (hb:QE X b tb):QE X (.BinOp a .Add b pos) (Z4 ta tb):=iV an7 aT2 ha hb
def Z5:R2:=fun x y H Q=>∃ (i:Str) (k:Bool),x = .str i/\y = .int (if k then 1 else 0)/\Q (.str (if k then i else Str.empty)) H
theorem aT4:bX X (binaryOp .Mult) Z5:=by
 intro pins s σ H x y v u Q I rx ry h
 obtain ⟨i,k,rfl,rfl,q⟩:=h
 obtain ⟨t,rfl⟩:=rx
 obtain ⟨t',rfl⟩:=ry
 cases k with
 | true=>exact SB.mul (n:=1) ⟨by decide,fun _ z=>by simp at z,fun _ z=>by simp at z⟩ fun t' tk=>⟨.str i,H,I.tok _,⟨t',by simp [Txt.mul]⟩,q⟩
 | false=>exact SB.mul (n:=0) ⟨by decide,fun z=>absurd (by decide) z,fun z=>absurd (by decide) z⟩ fun t' tk=>⟨.str Str.empty,H,I.tok _,⟨t',by simp [Txt.mul]⟩,q⟩
def Z6:PV->Tg->PV->Tg->PK->Prop:=fun x _ y _ Q=>∃ (i:Str) (k:Bool),x = .str i/\y = .int (if k then 1 else 0)/\Q (.str (if k then i else Str.empty)) .fr
abbrev yG (ta tb:aE):aE:=q2 Z6 ta tb
theorem aT5:dL X Z6 Z5:=by
 rintro W Hs H u v x y g g' Q Q' s n r1 r2 ⟨i,j,rfl,rfl,q⟩ k
 cases r1; cases r2
 exact⟨i,j,rfl,rfl,k _ _ _ _ (aG.refl _) (.str _) q⟩
theorem Z7 (ha:QE X a ta) (hb:QE X b tb):QE X (.BinOp a .Mult b pos) (yG ta tb):=iV aT4 aT5 ha hb
def sO (neg:Bool):PV->Tg->PV->Tg->PK->Prop:=fun x _ y _ Q=>∃ i j:Str,x = .str i/\y = .str j/\Q (.bl (if neg=true then !decide (i=j) else decide (i=j))) .fr
theorem aT6 (i j:Str):decide (V.str i=V.str j)=decide (i=j):=by
 rw [bp3,bj8,bj8]; exact⟨fun z=>V.str.inj z,fun z=>congrArg V.str z⟩
theorem aT7:dL X (sO true) uA:=by
 rintro W Hs H u v x y g g' Q Q' s n r1 r2 ⟨i,j,rfl,rfl,q⟩ k
 cases r1; cases r2
 exact⟨rfl,by rw [aT6]; exact k _ _ _ _ (aG.refl _) (.bl _) q⟩
theorem Z8 (ha:QE X a ta) (hb:QE X b tb):QT X (.Compare a [.NotEq] [b] pos) (aT (q2 (sO true) ta tb)):=jM A0 aT7 ha hb (gY _)
end
end PP
namespace Core
open PySem L2 PP
theorem Z9 {n k:Nat} (h:k < n):fJ n (k:Int)=some k:=by
 unfold fJ
 rw [if_pos (by omega),if_pos (by omega),Int.toNat_natCast]
def G8 (ws:List Int) (ls:List (Int × Int)) (ns R:List Int):Prop:=Y4 ws ls ns R=true/\aO4 ws ls (ns ++ R)
end Core
namespace PP
open PySem L2
section
variable {X : Cx} {a b : Expr} {ta tb : aE} {pos : Pos}
def aa0:PV->Tg->PV->Tg->PK->Prop:=fun x _ y _ Q=>∃ ns ms:List Int,x = .tup (intz ns)/\y = .tup (intz ms)/\Q (.bl (HT.cA ns ms)) .fr
theorem aT8:dL X aa0 (uI X.K):=by
 rintro W Hs H u v x y g g' Q Q' s n r1 r2 ⟨ns,ms,rfl,rfl,q⟩ k
 obtain ⟨p1,us,rfl,h1,r1⟩:=r1.sqT
 obtain ⟨p2,vs,rfl,h2,r2⟩:=r2.sqT
 obtain rfl:=r1.ofInts
 obtain rfl:=r2.ofInts
 exact⟨p1,p2,ns,ms,rfl,rfl,aO.of h1,aO.of h2,k _ _ _ _ (aG.refl _) (.bl _) q⟩
end
end PP
namespace L2
open PySem PySem.Spec PyProof.Rows PP
section
variable {prog : Program} {w : World} {A : Around} {R : Result → Shared → Prop} {I S : Addr} {n : Nat} {l : Addr} {its : Array Value} {s0 : Shared} {bt : Nat → Nat → Bool}
abbrev at_ (s:Shared) (h:Heap) (k:Nat):Shared:={ s with heap:=h,toks:=k }
abbrev aT9 (g h:Heap):Prop:=∀ b o,g.get? b=some o->h.get? b=some o
def cP (prog:Program) (w:World) (A:Around) (s0:Shared) (its:Array Value) (bt:Nat->Nat->Bool):Prop:=
 ∀ (i j:Nat) (v u:Value) (h:Heap) (k:Nat) (Q E:Value->Shared->Prop),its[i]? = some v->its[j]? = some u->aT9 s0.heap h->Q (.bool (bt i j)) (at_ s0 h k)->wpAny (model prog w) A (richCompare .Lt v u) Q E (at_ s0 h k)
end
end L2
namespace Core
open PySem L2 PP
def FB (L:List (List Int)) (f:List Int->Int) (r:List Int):Prop:=∃ i,L[i]? = some r/\(∀ (j:Nat) (s:List Int),j < i->L[j]? = some s->f s < f r)/\∀ s ∈ L,f s<=f r
end Core
namespace L2
open PySem PySem.Spec PyProof.Rows
section
variable {prog : Program} {w : World} {A : Around} {E : Value → Shared → Prop} {s : Shared} {l : Addr} {xs : Array (Int × Tok)}
theorem aa1 {Q:Value->Shared->Prop} (hl:s.heap.IsTuple l (intItems xs))
  (h:∀ h2:Heap,(h2.IsTupleIter s.heap.objs.size l 0/\h2.IsTuple l (intItems xs))->(∀ b ∈ [s.heap.objs.size,l],b < h2.objs.size)->l ≠ s.heap.objs.size->(∀ b o,s.heap.get? b=some o->b ∉ [s.heap.objs.size]/\h2.get? b=some o)->Q (.ref s.heap.objs.size) { s with heap:=h2 }):wpAny (model prog w) A (pyIter (.ref l)) Q E s:=by
 have lb:l < s.heap.objs.size:=by obtain ⟨_,e,_⟩:=hl; exact bi4 e
 refine bt1 hl (h _ ⟨⟨_,bj1 _ rfl,rfl,rfl⟩,hl.push _⟩ (fun b hb=>?_) (bk6 lb) fun b o e=>⟨fun hm=>?_,bh1 _ e⟩)
 ·rw [bs3]
  rcases bh9.mp hb with rfl | hb
  ·exact Nat.lt_succ_self _
  ·rw [bi1.mp hb]; exact Nat.lt_succ_of_lt lb
 ·rw [bi1.mp hm] at e
  exact absurd (bi4 e) (bo2 _)
theorem aU0 {Q:Value->Shared->Prop} (hh:A.handled=none) (hl:s.heap.IsTuple l (intItems xs)) (hne:0 < xs.size)
  (h:∀ v h' tk,(intItems xs)[argBest (fun i j=>decide (numAt xs i > numAt xs j)) (xs.size - 1)]? = some v->(∀ b o,s.heap.get? b=some o->h'.get? b=some o)->Q v { s with heap:=h',toks:=tk }):wpAny (model prog w) A (call (.builtin "max") [.ref l]) Q E s:=by
 refine call_max_walk (aa1 hl fun h2 st hfp ne old=>?_)
 exact⟨_,_,_,_,_,_,_,rfl,Walks.tuple (A:=A.in1) hh _ l ne (intItems xs),st,hfp,by simpa [intItems] using hne,CmpOf.ints_gt (numAt xs) (fun _ _=>intItems_at),fun v h' tk hP hk=>h v h' tk (by simpa [intItems] using hP) fun b o e=>hk b o (old b o e).1 (old b o e).2⟩
theorem aU1 {Q:Value->Shared->Prop} (hh:A.handled=none) (hl:s.heap.IsTuple l (intItems xs)) (hne:0 < xs.size)
  (h:∀ v h' tk,(intItems xs)[argBest (fun i j=>decide (numAt xs i < numAt xs j)) (xs.size - 1)]? = some v->(∀ b o,s.heap.get? b=some o->h'.get? b=some o)->Q v { s with heap:=h',toks:=tk }):wpAny (model prog w) A (call (.builtin "min") [.ref l]) Q E s:=by
 refine call_min_walk (aa1 hl fun h2 st hfp ne old=>?_)
 exact⟨_,_,_,_,_,_,_,rfl,Walks.tuple (A:=A.in1) hh _ l ne (intItems xs),st,hfp,by simpa [intItems] using hne,CmpOf.ints_lt (numAt xs) (fun _ _=>intItems_at),fun v h' tk hP hk=>h v h' tk (by simpa [intItems] using hP) fun b o e=>hk b o (old b o e).1 (old b o e).2⟩
end
section
variable {X : Cx}
theorem aU2 (hc:X.calm=true):dA X (.builtin "max") (fun xs H Q=>∃ (a:Addr) (ns:List Int),xs = [.ref a]/\aO X.K H a (ns.map V.int)/\ns ≠ []/\∀ M:Int,M ∈ ns->(∀ x ∈ ns,x<=M)->Q (.int M) H):=by
 intro pins s σ H xs us Q I r h
 obtain ⟨a,ns,rfl,hq,ne,q⟩:=h
 obtain ⟨u,rfl,ru⟩:=gG r
 cases ru
 obtain ⟨its,rv,p,hz⟩:=I.tuple hq
 have ia:=kS rv
 obtain ⟨ys,ey⟩:=ia.allInts.items
 have en:ns=ys.toList.map (·.1):=by
  have e1:=nums_intItems ys
  rw [<- ey] at e1
  exact ia.numsOf.symm.trans e1
 have pos:0 < ys.size:=Nat.pos_of_ne_zero fun z=>ne (by rw [en,Array.eq_empty_of_size_eq_zero z]; rfl)
 have hl:s.heap.IsTuple a (intItems ys):=by rw [<- ey]; exact p
 refine aU0 (I.ok.hd hc) hl pos fun v h' tk ev old=>?_
 obtain ⟨t,rfl⟩:=intItems_at ev
 have best:=argBest_gt (numAt ys) (ys.size - 1)
 have mem:∀ x:Int,x ∈ ns ↔ ∃ j,j < ys.size/\numAt ys j=x:=fun x=>by
  rw [en]
  constructor
  ·intro z
   obtain ⟨j,hj,e⟩:=mem_getD z
   exact⟨j,by simpa using hj,by rw [numAt_eq]; exact e⟩
  ·rintro ⟨j,hj,rfl⟩
   rw [numAt_eq]
   exact getD_mem (by simpa using hj)
 refine⟨.int _,H,I.kept (t':=tk) (h':=h') old,⟨t,rfl⟩,q _ ?_ fun x hx=>?_⟩
 ·exact (mem _).mpr ⟨_,by have:=best.1; omega,rfl⟩
 ·obtain ⟨j,hj,rfl⟩:=(mem x).mp hx
  exact best.2 j (by omega)
theorem aU3 (hc:X.calm=true):dA X (.builtin "min") (fun xs H Q=>∃ (a:Addr) (ns:List Int),xs = [.ref a]/\aO X.K H a (ns.map V.int)/\ns ≠ []/\∀ M:Int,M ∈ ns->(∀ x ∈ ns,M<=x)->Q (.int M) H):=by
 intro pins s σ H xs us Q I r h
 obtain ⟨a,ns,rfl,hq,ne,q⟩:=h
 obtain ⟨u,rfl,ru⟩:=gG r
 cases ru
 obtain ⟨its,rv,p,hz⟩:=I.tuple hq
 have ia:=kS rv
 obtain ⟨ys,ey⟩:=ia.allInts.items
 have en:ns=ys.toList.map (·.1):=by
  have e1:=nums_intItems ys
  rw [<- ey] at e1
  exact ia.numsOf.symm.trans e1
 have pos:0 < ys.size:=Nat.pos_of_ne_zero fun z=>ne (by rw [en,Array.eq_empty_of_size_eq_zero z]; rfl)
 have hl:s.heap.IsTuple a (intItems ys):=by rw [<- ey]; exact p
 refine aU1 (I.ok.hd hc) hl pos fun v h' tk ev old=>?_
 obtain ⟨t,rfl⟩:=intItems_at ev
 have best:=argBest_lt (numAt ys) (ys.size - 1)
 have mem:∀ x:Int,x ∈ ns ↔ ∃ j,j < ys.size/\numAt ys j=x:=fun x=>by
  rw [en]
  constructor
  ·intro z
   obtain ⟨j,hj,e⟩:=mem_getD z
   exact⟨j,by simpa using hj,by rw [numAt_eq]; exact e⟩
  ·rintro ⟨j,hj,rfl⟩
   rw [numAt_eq]
   exact getD_mem (by simpa using hj)
 refine⟨.int _,H,I.kept (t':=tk) (h':=h') old,⟨t,rfl⟩,q _ ?_ fun x hx=>?_⟩
 ·exact (mem _).mpr ⟨_,by have:=best.1; omega,rfl⟩
 ·obtain ⟨j,hj,rfl⟩:=(mem x).mp hx
  exact best.2 j (by omega)
end
end L2
namespace PP
open PySem L2
section
variable {X : Cx} {a b e : Expr} {ta tb : aE} {tr : cR} {pos p2 : Pos}
def yH:List PV->(PV->Prop)->Prop:=fun xs Q=>∃ ns:List Int,xs = [.tup (intz ns)]/\ns ≠ []/\∀ M:Int,M ∈ ns->(∀ x ∈ ns,x<=M)->Q (.int M)
def yI:List PV->(PV->Prop)->Prop:=fun xs Q=>∃ ns:List Int,xs = [.tup (intz ns)]/\ns ≠ []/\∀ M:Int,M ∈ ns->(∀ x ∈ ns,M<=x)->Q (.int M)
theorem aU4:fF X yH (fun xs H Q=>∃ (a:Addr) (ns:List Int),xs = [.ref a]/\aO X.K H a (ns.map V.int)/\ns ≠ []/\∀ M:Int,M ∈ ns->(∀ x ∈ ns,x<=M)->Q (.int M) H):=by
 rintro H vs xs Q Q' r ⟨ns,rfl,ne,q⟩ k
 obtain ⟨v,rfl,r1⟩:=r.one
 obtain ⟨a,us,rfl,h,r2⟩:=r1.sqT
 rw [r2.ofInts] at h
 exact⟨a,ns,rfl,aO.of h,ne,fun M m1 m2=>k _ _ _ (aG.refl _) (.int M) (q M m1 m2)⟩
theorem aU5:fF X yI (fun xs H Q=>∃ (a:Addr) (ns:List Int),xs = [.ref a]/\aO X.K H a (ns.map V.int)/\ns ≠ []/\∀ M:Int,M ∈ ns->(∀ x ∈ ns,M<=x)->Q (.int M) H):=by
 rintro H vs xs Q Q' r ⟨ns,rfl,ne,q⟩ k
 obtain ⟨v,rfl,r1⟩:=r.one
 obtain ⟨a,us,rfl,h,r2⟩:=r1.sqT
 rw [r2.ofInts] at h
 exact⟨a,ns,rfl,aO.of h,ne,fun M m1 m2=>k _ _ _ (aG.refl _) (.int M) (q M m1 m2)⟩
theorem aU6 (B:Bt X.mg) (hc:X.calm=true) (ha:QA X [e] tr) (hg:Gl X "max":=by rfl) (he:starEach [e] X.env=(false,eval e X.env) :: starEach [] X.env:=by rfl) (hpl:(backTo pos (starEach [] X.env)).any (·.1)=false:=by rfl):QE X (.Call (.Name "max" p2) [e] [] pos) (aI yH tr):=
 jQ (aU2 hc) aU4 hg B.max PyProof.Rows.boot_max ha (he:=he) (hpl:=hpl)
theorem aU7 (B:Bt X.mg) (hc:X.calm=true) (ha:QA X [e] tr) (hg:Gl X "min":=by rfl) (he:starEach [e] X.env=(false,eval e X.env) :: starEach [] X.env:=by rfl) (hpl:(backTo pos (starEach [] X.env)).any (·.1)=false:=by rfl):QE X (.Call (.Name "min" p2) [e] [] pos) (aI yI tr):=
 jQ (aU3 hc) aU5 hg B.min PyProof.Rows.boot_min ha (he:=he) (hpl:=hpl)
def aa2 (K:PySem.W.Frag):R2:=fun x y H Q=>fS (fun i j=>.bl (decide (i < j))) x y H Q ∨ uI K x y H Q
theorem aU8 (hu:X.A.units < cLine):bX X (compareOp .Lt) (aa2 X.K):=by
 intro pins s σ H x y v u Q I rx ry h
 rcases h with h | h
 ·exact pM pins s σ H x y v u Q I rx ry h
 ·exact aq8 hu pins s σ H x y v u Q I rx ry h
def sP:PV->Tg->PV->Tg->PK->Prop:=fun x g y g' Q=>fE (fun i j=>.bl (decide (i < j))) x g y g' Q ∨ aa0 x g y g' Q
theorem aU9:dL X sP (aa2 X.K):=by
 intro W Hs H u v x y g g' Q Q' s n r1 r2 h k
 rcases h with h | h
 ·exact .inl (lX W Hs H u v x y g g' Q Q' s n r1 r2 h k)
 ·exact .inr (aT8 W Hs H u v x y g g' Q Q' s n r1 r2 h k)
theorem aV0 (hu:X.A.units+1 < cLine) (ha:QE X a ta) (hb:QE X b tb):QE X (.Compare a [.Lt] [b] pos) (q2 sP ta tb):=wC (aU8 (by omega)) aU9 ha hb (gY _)
end
end PP
namespace L2
open PySem PySem.Spec PyProof.Rows
section
variable {X : Cx}
def aa3 (K:PySem.W.Frag) (ta:TA):TI:=fun σ H R=>ta σ H fun vs H1=>∃ a b,vs = [.ref a,.ref b]/\((∃ xs ys,aO K H1 a xs/\aO K H1 b ys/\R (vL K a b) H1) ∨ ∃ xs ys,aR K H1 a xs/\aR K H1 b ys/\R (vN K a b) H1)
theorem aV1 {elts:List Expr}{kt:Nat}{pt:Pos}{a b:Expr}{ta:TA}{p pos:Pos} (hg:Gl X "zip") (hm:X.mg "zip" = none) (ha:PA X [a,b] ta) (hs:starEach [a,b] X.env = [(false,eval a X.env),(false,eval b X.env)]:=by rfl) (hs2:starEach [b] X.env = [(false,eval b X.env)]:=by rfl) :
  PI X (.Tuple elts kt pt) (.Call (.Name "zip" p) [a,b] [] pos) (aa3 X.K ta):=by
 intro pins s σ H R I h
 refine Call_ (lK I hg hm PyProof.Rows.boot_zip (bu8 (aM (ha pos pins s σ H _ I h) fun us s1 ⟨vs,H1,I1,r1,q1⟩=>?_) (by rw [hs,hs2]) (by rw [hs2]; rfl)))
 obtain ⟨a',b',e,q1⟩:=q1
 subst e
 obtain ⟨u1,u2,rfl,r,r'⟩:=aL.two r1
 cases r
 cases r'
 have fresh:∀ k,H1 (s1.heap.objs.size+k)=none:=fun k=>I1.hok.fresh (bt4 _ _)
 have fp:∀ c ∈ [s1.heap.objs.size+4,s1.heap.objs.size+2,s1.heap.objs.size+3,s1.heap.objs.size,s1.heap.objs.size+1],fR X pins H1 c:=fun c hc=>by
  simp only [bh9,bi5,bm2] at hc
  rcases hc with rfl | rfl | rfl | rfl | rfl
  ·exact I1.fpOk (bt4 _ _) (fresh 4)
  ·exact I1.fpOk (bt4 _ _) (fresh 2)
  ·exact I1.fpOk (bt4 _ _) (fresh 3)
  ·exact I1.fpOk (bh7 _) (fresh 0)
  ·exact I1.fpOk (bt4 _ _) (fresh 1)
 rcases q1 with ⟨xs,ys,h1,h2,q⟩ | ⟨xs,ys,h1,h2,q⟩
 ·obtain ⟨us,_,p1,_⟩:=I1.tuple h1
  obtain ⟨ws,_,p2,_⟩:=I1.tuple h2
  refine Zp.ax1 p1 p2 fun h' z ti to s1' s2' kp=>wpAny_pyIter_zip z ?_
  exact⟨s1.heap.objs.size+4,[s1.heap.objs.size+4,s1.heap.objs.size+2,s1.heap.objs.size+3,s1.heap.objs.size,s1.heap.objs.size+1],_,_,H1,rfl,I1.kept (t':=s1.toks) kp,ax4 a' b' _ _ _ _ _ (by simp),⟨z,ti,⟨_,_,to⟩,s1',s2'⟩,fp,q⟩
 ·obtain ⟨us,_,p1,_⟩:=I1.list h1
  obtain ⟨ws,_,p2,_⟩:=I1.list h2
  refine call_zip_2 p1.isList p2.isList fun h' z ti to s1' s2' _ kp=>wpAny_pyIter_zip z ?_
  exact⟨s1.heap.objs.size+4,[s1.heap.objs.size+4,s1.heap.objs.size+2,s1.heap.objs.size+3,s1.heap.objs.size,s1.heap.objs.size+1],_,_,H1,rfl,I1.kept (t':=s1.toks) kp,ay0 a' b' _ _ _ _ _ (by simp),⟨z,ti,⟨_,_,to⟩,s1',s2'⟩,fp,q⟩
end
end L2
namespace PP
open PySem L2
theorem aV2 {K:PySem.W.Frag}{H0:Hp}{W:Addr->Prop}{g:Bool}{H1:Hp}{a b:Addr}{us vs:List V}{xs ys:List PV} (tw:∀ a,W a->∃ o,H1 a=some o/\fN o=true) (ha:∀ W' H',Ev W H1 W' H'->aR K H' a us) (hb:∀ W' H',Ev W H1 W' H'->aR K H' b vs)
  (r:Reps K (Ms H0 W g) H1 us xs) (r':Reps K (Ms H0 W g) H1 vs ys):kE K H0 W g H1 (vN K a b) (j6 xs ys):=by
 have lr:=r.length
 have lr':=r'.length
 have ll:=xT xs ys
 refine⟨fun W' H' i e hi=>⟨us,vs,us[i]'(by omega),vs[i]'(by omega),ha W' H' e,hb W' H' e,by simp,by simp⟩,fun W' H' i v H2 e y hi=>?_,fun W' H' e=>⟨us,vs,ha W' H' e,hb W' H' e,by omega⟩⟩
 obtain ⟨T,x,y',hT,rfl,rfl,y⟩:=y
 obtain ⟨h1,h2⟩:=y us vs (ha W' _ e) (hb W' _ e)
 obtain ⟨z,hz,rz⟩:=r.get h1
 obtain ⟨z',hz',rz'⟩:=r'.get h2
 have sm:=bU hT (HO.tup [x,y'])
 exact⟨sm,_,W5 hz hz',.tup bO (.cons ((rz.keep (e.keep tw)).same sm fun _ q=>q) (.cons ((rz'.keep (e.keep tw)).same sm fun _ q=>q) .nil))⟩
section
variable {X : Cx} {σ : L2.St} {H : Hp} {ta tb : aE} {R : It → Hp → Prop}
def yJ (ta tb:aE):fG:=fun ρ Q=>ta ρ fun x g0=>tb ρ fun y g=>∃ xs ys,((x = .tup xs/\y = .tup ys) ∨ (x = .lst xs/\y = .lst ys/\g0 ≠ .rd/\g ≠ .rd))/\flats xs=true/\flats ys=true/\Q (j6 xs ys) true
theorem aa4 {K:PySem.W.Frag}{H0 Hs:Hp}{W:Addr->Prop}{σ:L2.St}{ρ:bH}{g:Tg}{b:Addr} (px:PX K H0 W σ ρ Hs) (ng:g ≠ .rd) (m:Mg H0 W Hs g b) : ¬ W b:=by
 cases g with
 | fr=>exact (px.new m).1
 | nw=>exact m.1
 | sh=>exact m
 | rd=>exact absurd rfl ng
theorem aV3 (h:LI X (yJ ta tb) σ H R):aa3 X.K (kR (LE X ta) (kR (LE X tb) lQ)) σ H R:=by
 obtain ⟨W,ρ,Q,px,q,k⟩:=h
 refine⟨W,ρ,_,px,q,fun v0 H0 x0 g0 s0 r0 q0=>⟨W,ρ,_,px.mono s0,q0,?_⟩⟩
 rintro v H1 x g s r ⟨xs,ys,c,fx,fy,q⟩
 have S:=s0.trans s
 have px1:=px.mono S
 have tw:∀ a,W a->∃ o,H1 a=some o/\fN o=true:=fun a z=>(px1.wm a z).2
 rcases c with ⟨rfl,rfl⟩ | ⟨rfl,rfl,n0,n1⟩
 ·obtain ⟨a,us,rfl,h1,ra⟩:=(r0.same (M':=fun _=>True) s fun _ _=>trivial).sqT
  obtain ⟨b,vs,rfl,h2,rb⟩:=r.sqT
  have sta:∀ {c us},H1 c=some (.tup us)->∀ W' H',Ev W H1 W' H'->aO X.K H' c us:=fun {c us} hc W' H' e=>aO.of (e _ _ hc fun z=>by obtain ⟨o,h',mu⟩:=tw _ z; rw [hc] at h'; cases h'; cases mu).1
  exact⟨a,b,rfl,.inl ⟨us,vs,aO.of h1,aO.of h2,k _ _ _ _ S (aP9 tw (sta h1) (sta h2) (ra.flat fx) (rb.flat fy)) q⟩⟩
 ·obtain ⟨a,us,rfl,m0,h1,ra⟩:=(r0.same s fun _ z=>z).sqL
  obtain ⟨b,vs,rfl,m1,h2,rb⟩:=r.sqL
  have w0:=aa4 px n0 m0
  have w1:=aa4 (px.mono s0) n1 m1
  exact⟨a,b,rfl,.inr ⟨us,vs,aR.of h1,aR.of h2,k _ _ _ _ S (aV2 tw (fun W' H' e=>aR.of (e _ _ h1 w0).1) (fun W' H' e=>aR.of (e _ _ h2 w1).1) (ra.flat fx) (rb.flat fy)) q⟩⟩
theorem aV4 {elts:List Expr}{kt:Nat}{pt p2 pos:Pos}{a b:Expr} (B:Bt X.mg) (ha:QE X a ta) (hb:QE X b tb) (hg:Gl X "zip":=by rfl) (hs:starEach [a,b] X.env = [(false,eval a X.env),(false,eval b X.env)]:=by rfl) (hs2:starEach [b] X.env = [(false,eval b X.env)]:=by rfl):QI X (.Tuple elts kt pt) (.Call (.Name "zip" p2) [a,b] [] pos) (yJ ta tb):=
 qU (aV1 hg B.zip (gH ha (gH hb iI hs2) (by rw [hs,hs2])) hs hs2) fun _ _ _=>aV3
end
end PP
namespace Core
open PySem L2 PP
theorem aV5 (xs:List PV):i6 xs (some 1) none=xs.drop 1:=by
 unfold i6
 have e1:HT.aX xs.length 0 (some 1)=min 1 xs.length:=by
  show (if (1:Int) < 0 then ((1:Int)+(xs.length:Int)).toNat else min (1:Int).toNat xs.length)=_
  rw [if_neg (by decide)]; rfl
 rw [e1]
 show (xs.drop (min 1 xs.length)).take (xs.length - min 1 xs.length)=_
 rw [bl8 (by rw [br5]; exact bh7 _)]
 cases xs with
 | nil=>rfl
 | cons x xs=>rw [show min 1 (x :: xs).length=1 by simp]
def sQ {α:Type} (lt:α->α->Bool) (A:List α):Bool:=((A.zip (A.drop 1)).map fun p=>lt p.1 p.2).all id
def oY:bE:=fun xs Q=>∃ x,xs = [x]/\((∃ ns,eD x ns/\ns.length<=1000/\Q (.bl (gB ns))) ∨ ∃ ls:List (Int × Int),x = .lst (a9 ls)/\ls.length<=4096/\∀ b:Bool,(b=true ↔ ls.Pairwise bL)->Q (.bl b))
def aa5:aP:=(bC (aI m3 (a6 (dU (yJ (a5 0) (iT (a5 0) (iS (qC (.int 1))) iR)) [none,none] (iQ 0 1) eU (q2 sP (a5 0) (a5 1))) aA)))
theorem aa6 {α:Type} (f:α->PV) (lt:α->α->Bool) (fl:∀ a,flat (f a)=true) (hlt:∀ (a b:α) (g g':Tg) (K:PK),K (.bl (lt a b)) .fr->sP (f a) g (f b) g' K) (A:List α) (la:A.length<=10000) (x:PV) (hx:x = .tup (A.map f) ∨ x = .lst (A.map f)) {Q:PV->Prop} (q:Q (.bl (sQ lt A))) :
  aa5 { nx:=fun _=>Q .non,rt:=Q } [some (.sh (flat x) x)]:=by
 have fls:∀ B:List α,flats (B.map f)=true:=fun B=>by
  induction B with
  | nil=>rfl
  | cons b B ih=>show (flat (f b) && flats (B.map f))=true; rw [fl,ih]; rfl
 have sx:seqT x=some (A.map f):=by rcases hx with rfl | rfl <;> rfl
 have cut:i6 (A.map f) (some 1) none=(A.drop 1).map f:=by rw [aV5,List.map_drop]
 refine⟨_,rfl,_,rfl,_,rfl,_,sx,fls A,?_⟩
 rw [cut]
 refine⟨A.map f,(A.drop 1).map f,?_,fls A,fls _,?_⟩
 ·rcases hx with rfl | rfl
  ·exact .inl ⟨rfl,rfl⟩
  ·refine .inr ⟨rfl,rfl,?_,fun z=>by cases z⟩
   cases flat (.lst (A.map f)) <;> intro z <;> cases z
 have zl:(j6 (A.map f) ((A.drop 1).map f)).length=A.length - 1:=by rw [xT,bh8,bh8,br5]; omega
 refine⟨by rw [zl]; omega,fun i acc=>acc=Y3 (((A.zip (A.drop 1)).take i).map fun p=>lt p.1 p.2),rfl,?_,?_⟩
 ·rintro i y acc hy rfl
  obtain ⟨u,v,h1,h2,rfl⟩:=aP8 hy
  rw [bj5] at h1 h2
  cases ha:A[i]? with
  | none=>rw [ha] at h1; cases h1
  | some a=>
   cases hb:(A.drop 1)[i]? with
   | none=>rw [hb] at h2; cases h2
   | some b=>
    rw [ha] at h1
    rw [hb] at h2
    cases h1
    cases h2
    have hz:(A.zip (A.drop 1))[i]? = some (a,b):=List.getElem?_zip_eq_some.mpr ⟨ha,hb⟩
    refine⟨_,_,rfl,_,rfl,_,rfl,hlt a b _ _ _ ⟨trivial,?_⟩⟩
    dsimp only
    rw [bl5,hz,bi9]
    unfold Y3
    rw [bi9]; rfl
 ·rintro acc rfl
  rw [bl8 (by rw [zl,List.length_zip,br5]; omega)]
  exact⟨_,rfl,trivial,q⟩
theorem aV6 (ls:List (Int × Int)):sQ (fun a b=>HT.cA [a.1,a.2] [b.1,b.2]) ls=true ↔ ls.Pairwise bL:=by
 have lt2:∀ a b:Int × Int,HT.cA [a.1,a.2] [b.1,b.2]=true ↔ bL a b:=fun a b=>by
  unfold bL
  rw [HT.iK,HT.iK,HT.pO]
  by_cases h1:a.1=b.1
  ·rw [if_pos h1]
   by_cases h2:a.2=b.2
   ·rw [if_pos h2]
    exact⟨fun z=>(by cases z),fun z=>(by omega)⟩
   ·rw [if_neg h2,bj8]; omega
  ·rw [if_neg h1,bj8]; omega
 induction ls with
 | nil=>exact⟨fun _=>.nil,fun _=>rfl⟩
 | cons a r ih=>
  cases r with
  | nil=>exact⟨fun _=>bl7 _ _,fun _=>rfl⟩
  | cons b r=>
   have e:sQ (fun a b:Int × Int=>HT.cA [a.1,a.2] [b.1,b.2]) (a :: b :: r)=(HT.cA [a.1,a.2] [b.1,b.2] && sQ (fun a b:Int × Int=>HT.cA [a.1,a.2] [b.1,b.2]) (b :: r)):=rfl
   rw [e,bm9,lt2,bt3]
   refine⟨fun ⟨h1,h2⟩=>⟨fun c hc=>?_,ih.mp h2⟩,fun ⟨h1,h2⟩=>⟨h1 b bi6,ih.mpr h2⟩⟩
   rcases bh9.mp hc with rfl | hc
   ·exact h1
   ·have:=(bt3.mp (ih.mp h2)).1 c hc
    unfold bL at *; omega
abbrev yK:bE:=xB
def aa7:aP:=(bC (iM (aI oY (a6 (a5 1) aA)) (aI m3 (a6 (dU (dM (a5 1)) [none,some 0] (cG 0) eU (aI oK (a6 (a5 1) (a6 (a5 0) aA)))) aA))))
theorem aV7:cT aa7 ["web","numbers"] yK:=by
 intro xs Q h
 have h2:=aK3 xs Q h
 obtain ⟨m,e,x,ns,r1,r2,r3,r4⟩:=h2
 exact⟨m,e,x,r1,.inl ⟨ns,r2,r3,r4⟩⟩
def gD (l:Int × Int):Int × Int:=(min l.1 l.2,max l.1 l.2)
def sR:bE:=fun xs Q=>∃ (n:Nat) (l:Int × Int),xs = [.int n,.tup [.int l.1,.int l.2]]/\0<=l.1/\l.1 < (n:Int)/\0<=l.2/\l.2 < (n:Int)/\l.1 ≠ l.2/\Q (.tup [.int (gD l).1,.int (gD l).2])
def aa8:aP:=(aF (b6 2 (aI yI (a6 (a5 1) aA)))
 (aF (b6 3 (aI yH (a6 (a5 1) aA)))
 (aF (bY (fO (aT (fY (a5 2) (qC (.int 0)))) (aT (nW (a5 3) (a5 0)))) dX c8)
 (aF (bY (aT (i7 (a5 2) (a5 3))) dX c8)
 (bC (cF (a6 (a5 2) (a6 (a5 3) aA))))))))
theorem aV8:cT aa8 ["many","link","one","other"] sR:=by
 rintro xs Q ⟨n,l,rfl,a0,a1,b0,b1,ne,q⟩
 refine⟨_,rfl,[l.1,l.2],rfl,(fun z=>by cases z),fun m m1 m2=>⟨trivial,?_⟩⟩
 refine⟨_,rfl,[l.1,l.2],rfl,(fun z=>by cases z),fun M M1 M2=>⟨trivial,?_⟩⟩
 have hm:m=(gD l).1:=by
  have h1:=m2 l.1 (by simp)
  have h2:=m2 l.2 (by simp)
  show m=min l.1 l.2
  rcases bh9.mp m1 with z | z
  ·omega
  ·have:=bi1.mp z; omega
 have hM:M=(gD l).2:=by
  have h1:=M2 l.1 (by simp)
  have h2:=M2 l.2 (by simp)
  show M=max l.1 l.2
  rcases bh9.mp M1 with z | z
  ·omega
  ·have:=bi1.mp z; omega
 have e1:(gD l).1=min l.1 l.2:=rfl
 have e2:(gD l).2=max l.1 l.2:=rfl
 subst hm hM
 refine⟨_,rfl,_,_,rfl,rfl,_,rfl,?_⟩
 dsimp only
 rw [bh2 (by omega)]
 refine aN ⟨_,rfl,_,rfl,_,_,rfl,rfl,_,rfl,?_⟩
 dsimp only
 rw [bh2 (by omega)]
 refine aN ⟨_,rfl,_,rfl,.inl ⟨_,_,rfl,rfl,_,rfl,?_⟩⟩
 show if decide ((gD l).1=(gD l).2)=true then _ else _
 rw [bh2 (by omega)]
 exact aN ⟨_,rfl,_,rfl,by show 2<=1000; decide,rfl,trivial,q⟩
def oZ:bE:=fun xs Q=>∃ x y ws ls,xs = [x,y]/\eD x ws/\ws.length<=40/\(∀ w ∈ ws,0<=w/\w<=60)/\(y = .tup (a9 ls) ∨ y = .lst (a9 ls))/\ls.length<=1700/\(∀ l ∈ ls,0<=l.1/\l.1 < (ws.length:Int)/\0<=l.2/\l.2 < (ws.length:Int)/\l.1 ≠ l.2)/\(ls.map gD).Nodup/\∀ ls',ls'.Perm (ls.map gD)->WL (ws.length:Int) ws ls'->Q (eC ws ls')
def aa9:aP:=(aF (bY (aT (iU (aI dS (a6 (a5 0) aA)) (qC (.int 40)))) dX c8)
 (aF (dZ (dM (a5 0)) (cG 2)
  (bY (fO (aT (fY (a5 2) (qC (.int 0)))) (aT (iU (a5 2) (qC (.int 60))))) dX c8))
 (aF (b6 3 (aI oW (a6 (dU (dM (a5 1)) [none,some 0] (cG 0) eU (aI sR (a6 (aI dS (a6 (a5 1) aA)) (a6 (a5 0) aA)))) aA)))
 (aF (bY (hZ (aT (aI oY (a6 (a5 3) aA)))) dX c8)
 (bC (cF (a6 (aI fZ (a6 (a5 0) aA)) (a6 (aI fZ (a6 (a5 3) aA)) aA))))))))
theorem aV9:cT aa9 ["wants","links","want","pairs"] oZ:=by
 rintro xs Q ⟨x,y,ws,ls,rfl,hx,few,hw,hy,l17,inn,nd,q⟩
 have sy:i4 y=some (a9 ls):=by rcases hy with rfl | rfl <;> rfl
 have fy:flats (a9 ls)=true:=cD ls
 have pl:(a9 ls).length=ls.length:=bh8 _
 refine⟨_,rfl,_,_,rfl,hx.len,_,_,rfl,rfl,_,rfl,?_⟩
 dsimp only
 rw [bh2 (by omega)]
 refine aN ?_
 refine⟨_,rfl,_,hx.seq,rQ hx,fun i ρ=>∃ y2,ρ = [some (.sh (flat x) x),some (.sh (flat y) y),y2,none],⟨none,rfl⟩,?_,?_⟩
 ·rintro i z ρ hz ⟨y2,rfl⟩
  obtain ⟨n,rfl,hn⟩:=kJ hz
  have:=hw n (bn6 hn)
  refine V5 ?_
  refine⟨_,rfl,_,_,rfl,rfl,_,rfl,?_⟩
  dsimp only
  rw [bh2 (by omega)]
  refine aN ⟨_,rfl,_,_,rfl,rfl,_,rfl,?_⟩
  dsimp only
  rw [bh2 (by omega)]
  exact aN ⟨_,rfl⟩
 rintro ρ ⟨y2,rfl⟩
 refine⟨_,rfl,_,sy,(fun z=>?_),by rw [pl]; omega,fun i acc=>acc=a9 ((ls.take i).map gD),rfl,?_,?_⟩
 ·cases h:flat y with
  | true=>exact h
  | false=>rw [h] at z; cases z
 ·rintro i z acc hz rfl
  obtain ⟨l,rfl,hl⟩:=j4 hz
  obtain ⟨a0,a1,b0,b1,ne⟩:=inn l (bn6 hl)
  refine⟨_,rfl,_,_,rfl,hx.len,_,rfl,ws.length,l,rfl,a0,a1,b0,b1,ne,trivial,?_⟩
  dsimp only
  rw [bl5,hl,bi9]
  unfold a9
  rw [bi9]; rfl
 rintro acc rfl
 rw [pl,bm1]
 refine⟨(ls.map gD).map two,by rw [kL]; rfl,by rw [bh8,bh8]; omega,fun r hr=>by obtain ⟨l,_,rfl⟩:=bk9.mp hr; rfl,fun Z pz so=>⟨trivial,?_⟩⟩
 obtain ⟨ls',rfl,pp⟩:=xH pz
 have wl:WL (ws.length:Int) ws ls':=WL.perm rfl (fun l hl=>by
  obtain ⟨m,hm,rfl⟩:=bk9.mp hl
  obtain ⟨a0,a1,b0,b1,ne⟩:=inn m hm
  show 0<=min m.1 m.2/\min m.1 m.2 < max m.1 m.2/\max m.1 m.2 < (ws.length:Int)
  omega) (by rw [bh8]; exact l17) nd (fun w h=>(hw w h).1) pp so
 have ll:=pp.length_eq
 rw [bh8] at ll
 rw [show ((ls'.map two).map fun r=>PV.tup (intz r))=a9 ls' from (kL ls').symm]
 refine⟨_,rfl,_,rfl,.inr ⟨ls',rfl,by omega,fun b hb=>?_⟩⟩
 refine⟨_,rfl,?_⟩
 rw [hb.mpr wl.ord]
 refine aN ?_
 refine⟨_,rfl,⟨_,_,rfl,hx.seqT,iL _,?_⟩,hx.noscr⟩
 refine⟨_,rfl,⟨_,_,rfl,rfl,cD _,?_⟩,fun _ z=>by cases z⟩
 exact⟨by show 2<=1000; decide,aJ9 ws ls',trivial,q ls' pp wl⟩
end Core
namespace PP
open PySem L2
theorem Df.weak {P:Program}{w:World}{K:PySem.W.Frag}{mg:Str->Option Value}{base:Heap}{k:Nat}{x:Str}{ps:List Str}{p p':bE} (d:Df P w K mg base k x ps p) (h:∀ xs Q,p' xs Q->p xs Q):Df P w K mg base k x ps p':=by
 obtain ⟨f,fd,F,r⟩:=d.ex
 exact⟨f,fd,F.imp fun vs H Q E ⟨xs,Qp,a,b,c⟩=>⟨xs,Qp,a,h _ _ b,c⟩,r⟩
end PP
namespace Core
open PySem L2 PP
theorem sS {ls:List (Int × Int)} (h:ls.Pairwise bL):ls.Nodup:=h.imp fun {a b} z e=>by subst e; unfold bL at z; omega
theorem aW0 {a b:List (Int × Int)} (p:a.Perm b) (ha:a.Pairwise bL) (hb:b.Pairwise bL):a=b:=
 p.eq_of_pairwise (fun x y _ _ h1 h2=>by unfold bL at h1 h2; omega) ha hb
theorem aW1 {a b:List Int} (p:a.Perm b) (ha:a.Pairwise (· <= ·)) (hb:b.Pairwise (· <= ·)):a=b:=p.eq_of_pairwise (fun x y _ _ h1 h2=>Int.le_antisymm h1 h2) ha hb
def p9:bE:=fun xs Q=>∃ x,xs = [x]/\((∃ ns,eD x ns/\ns.length<=1000/\Q (.bl (gB ns))) ∨ ∃ ls:List (Int × Int),(x = .tup (a9 ls) ∨ x = .lst (a9 ls))/\ls.length<=4096/\∀ b:Bool,(b=true ↔ ls.Pairwise bL)->Q (.bl b))
abbrev ab0:aP:=aa5
theorem aW2:cT ab0 ["things"] p9:=by
 rintro xs Q ⟨x,rfl,⟨ns,hx,hl,q⟩ | ⟨ls,hx,hl,q⟩⟩
 ·exact aa6 PV.int (fun a b=>decide (a < b)) (fun _=>rfl) (fun a b g g' K h=>.inl ⟨_,_,rfl,rfl,h⟩) ns (by omega) x hx q
 ·exact aa6 (fun l:Int × Int=>PV.tup [.int l.1,.int l.2]) (fun a b=>HT.cA [a.1,a.2] [b.1,b.2]) (fun _=>rfl) (fun a b g g' K h=>.inr ⟨_,_,rfl,rfl,h⟩) ls (by omega) x hx (q _ (aV6 ls))
theorem ab1:∀ xs Q,oY xs Q->p9 xs Q:=fun xs Q ⟨x,e,h⟩=>⟨x,e,h.imp id fun ⟨ls,e,hl,q⟩=>⟨ls,.inr e,hl,q⟩⟩
def bM (r c:Int):Prop:=1<=r/\r<=40/\1<=c/\c<=40
def mS:cW:=fun Ep xs Q=>∃ r c:Int,xs = [.int r,.int c]/\(bM r c->Q .non)/\(¬ bM r c->Ep "BadBoard")
def ab2 (Ep:Str->Prop):aP:=(bY (fO (aT (fY (aI vV (a6 (a5 0) (a6 (a5 1) aA))) (qC (.int 1)))) (aT (iU (aI qJ (a6 (a5 0) (a6 (a5 1) aA))) (qC (.int 40))))) (mO Ep "BadBoard" (a6 (qC (.str "a board has from 1 to 40 rows and columns")) aA)) c8)
theorem aW3:gT ab2 ["rows","columns"] mS:=by
 rintro Ep xs Q ⟨r,c,rfl,q,ex⟩
 refine⟨_,rfl,_,rfl,_,_,rfl,_,_,rfl,rfl,_,rfl,?_⟩
 show if decide ((if c < r then c else r) < 1)=true then _ else _
 by_cases h1:(if c < r then c else r) < 1
 ·rw [bh5 h1]
  exact aY (aY ⟨by decide,ex fun z=>by unfold bM at z; split at h1 <;> omega⟩)
 rw [bh2 h1]
 refine aN ⟨_,rfl,_,rfl,_,_,rfl,_,_,rfl,rfl,_,rfl,?_⟩
 show if decide ((if c > r then c else r) > 40)=true then _ else _
 by_cases h2:(if c > r then c else r) > 40
 ·rw [bh5 h2]
  exact aY ⟨by decide,ex fun z=>by unfold bM at z; split at h2 <;> omega⟩
 rw [bh2 h2]
 refine aN (q ?_)
 unfold bM
 split at h1 <;> split at h2 <;> omega
def b7 (r c:Int) (l:Int × Int):Bool:=decide (0<=l.1) && (decide (l.1 < r) && (decide (0<=l.2) && decide (l.2 < c)))
theorem eF {r c:Int}{l:Int × Int}:b7 r c l=true ↔ 0<=l.1/\l.1 < r/\0<=l.2/\l.2 < c:=by
 unfold b7
 simp only [bm9,bj8]
def mT:bE:=fun xs Q=>∃ (r c:Int) (l:Int × Int),xs = [.int r,.int c,.tup [.int l.1,.int l.2]]/\Q (.bl (b7 r c l))
def ab3:aP:=(bC (iM (nW (cJ (a5 2) (qC (.int 0))) (qC (.int 0))) (iM (fY (cJ (a5 2) (qC (.int 0))) (a5 0)) (iM (nW (cJ (a5 2) (qC (.int 1))) (qC (.int 0))) (fY (cJ (a5 2) (qC (.int 1))) (a5 1))))))
theorem aW4:cT ab3 ["rows","columns","cell"] mT:=by
 rintro xs Q ⟨r,c,l,rfl,q⟩
 unfold b7 at q
 refine⟨_,rfl,_,_,_,rfl,rfl,rfl,_,_,rfl,rfl,_,rfl,?_⟩
 show if decide (l.1 >= 0)=true then _ else _
 by_cases h1:0<=l.1
 ·rw [bh5 h1] at q
  rw [bh5 (show l.1 >= 0 from h1)]
  refine aY ⟨_,rfl,_,_,_,rfl,rfl,rfl,_,rfl,_,_,rfl,rfl,_,rfl,?_⟩
  show if decide (l.1 < r)=true then _ else _
  by_cases h2:l.1 < r
  ·rw [bh5 h2] at q ⊢
   refine aY ⟨_,rfl,_,_,_,rfl,rfl,rfl,_,_,rfl,rfl,_,rfl,?_⟩
   show if decide (l.2 >= 0)=true then _ else _
   by_cases h3:0<=l.2
   ·rw [bh5 h3] at q
    rw [bh5 (show l.2 >= 0 from h3)]
    exact aY ⟨_,rfl,_,_,_,rfl,rfl,rfl,_,rfl,_,_,rfl,rfl,trivial,q⟩
   ·rw [bh2 h3] at q
    rw [bh2 (show ¬ l.2 >= 0 from h3)]
    exact aN ⟨trivial,q⟩
  ·rw [bh2 h2] at q ⊢
   exact aN ⟨trivial,q⟩
 ·rw [bh2 h1] at q
  rw [bh2 (show ¬ l.1 >= 0 from h1)]
  exact aN ⟨trivial,q⟩
def fB (r c:Int) (ls:List (Int × Int)):Prop:=ls.Pairwise bL/\∀ l ∈ ls,b7 r c l=true
def kN:cW:=fun Ep xs Q=>∃ (r c:Int) (x:PV) (ls:List (Int × Int)),xs = [.int r,.int c,x]/\(x = .tup (a9 ls) ∨ x = .lst (a9 ls))/\ls.length<=4096/\(¬ bM r c->Ep "BadBoard")/\(bM r c->¬ fB r c ls->Ep "BadSet")/\(bM r c->fB r c ls->Q (.tup (a9 ls)))
def ab4 (Ep:Str->Prop):aP:=(aF (qH (gS Ep mS (a6 (a5 0) (a6 (a5 1) aA))))
 (aF (bY (fO (hZ (aT (aI p9 (a6 (a5 2) aA)))) (hZ (aT (aI m3 (a6 (dU (dM (a5 2)) [none,some 0,some 1] (cG 0) eU (aI mT (a6 (a5 1) (a6 (a5 2) (a6 (a5 0) aA))))) aA))))) (mO Ep "BadSet" (a6 (qC (.str "a set is of rising cells of the board")) aA)) c8)
 (bC (aI fZ (a6 (a5 2) aA)))))
theorem aW5:gT ab4 ["rows","columns","cells"] kN:=by
 rintro Ep xs Q ⟨r,c,x,ls,rfl,hx,hl,e1,e2,q⟩
 have sx:i4 x=some (a9 ls):=by rcases hx with rfl | rfl <;> rfl
 have pl:(a9 ls).length=ls.length:=bh8 _
 have tg:(Slot.sh (flat x) x).tag = .rd->flat x=true:=by cases flat x <;> intro z <;> cases z
 refine⟨_,rfl,_,rfl,r,c,rfl,fun ok=>?_,e1⟩
 refine⟨_,rfl,_,rfl,.inr ⟨ls,hx,hl,fun b hb=>⟨_,rfl,?_⟩⟩⟩
 cases b with
 | false=>exact aY (aY ⟨by decide,e2 ok fun z=>by have:=hb.mpr z.1; cases this⟩)
 | true=>
  have ord:=hb.mp rfl
  refine aN ⟨_,rfl,a9 ls,sx,tg,by rw [pl]; omega,fun i acc=>acc=(((ls.take i).map (b7 r c)).map PV.bl),rfl,?_,?_⟩
  ·rintro i z acc hz rfl
   obtain ⟨l,rfl,hlm⟩:=j4 hz
   refine⟨_,rfl,_,rfl,_,rfl,r,c,l,rfl,trivial,?_⟩
   dsimp only
   rw [bl5,hlm,bi9,bi9]; rfl
  rintro acc rfl
  rw [pl,bm1]
  refine⟨ls.map (b7 r c),rfl,_,rfl,?_⟩
  cases ha:(ls.map (b7 r c)).all id with
  | false=>
   refine aY ⟨by decide,e2 ok fun z=>?_⟩
   have:(ls.map (b7 r c)).all id=true:=by
    rw [List.all_map,bq4]
    exact fun l hlm=>z.2 l hlm
   rw [ha] at this; cases this
  | true=>
   refine aN ?_
   have st:fB r c ls:=⟨ord,fun l hlm=>by
    rw [List.all_map,bq4] at ha
    exact ha l hlm⟩
   have sT:seqT x=some (a9 ls):=by rcases hx with rfl | rfl <;> rfl
   refine⟨_,rfl,⟨_,_,rfl,sT,cD _,trivial,q ok st⟩,fun ns z=>?_⟩
   rcases hx with rfl | rfl <;> cases z
def fC (l:Int × Int):List (Int × Int):=[(l.1 - 1,l.2),(l.1,l.2 - 1),(l.1,l.2+1),(l.1+1,l.2)]
def aV (r c:Int) (l:Int × Int):List (Int × Int):=(fC l).filter (b7 r c)
def sU:bE:=fun xs Q=>∃ (r c:Int) (l:Int × Int),xs = [.int r,.int c,.tup [.int l.1,.int l.2]]/\Q (.lst (a9 (aV r c l)))
def ab5:aP:=(aF (b6 3 (cJ (a5 2) (qC (.int 0))))
 (aF (b6 4 (cJ (a5 2) (qC (.int 1))))
 (aF (b6 5 (eS (a6 (cF (a6 (gN (a5 3) (qC (.int 1))) (a6 (a5 4) aA))) (a6 (cF (a6 (a5 3) (a6 (gN (a5 4) (qC (.int 1))) aA))) (a6 (cF (a6 (a5 3) (a6 (cU (a5 4) (qC (.int 1))) aA))) (a6 (cF (a6 (cU (a5 3) (qC (.int 1))) (a6 (a5 4) aA))) aA))))))
 (bC (dU (dM (a5 5)) [none,some 0,some 1] (cG 0) (aT (aI mT (a6 (a5 1) (a6 (a5 2) (a6 (a5 0) aA))))) (a5 0))))))
theorem aW6:cT ab5 ["rows","columns","cell","row","column","sides"] sU:=by
 rintro xs Q ⟨r,c,l,rfl,q⟩
 refine⟨_,rfl,_,_,_,rfl,rfl,rfl,trivial,?_⟩
 refine⟨_,rfl,_,_,_,rfl,rfl,rfl,trivial,?_⟩
 refine⟨_,rfl,_,_,rfl,rfl,_,rfl,by show 2<=1000; decide,rfl,_,rfl,_,rfl,_,_,rfl,rfl,by show 2<=1000; decide,rfl,_,rfl,_,rfl,_,_,rfl,rfl,by show 2<=1000; decide,rfl,_,rfl,_,_,rfl,rfl,_,rfl,by show 2<=1000; decide,rfl,by show 4<=1000; decide,rfl,trivial,?_⟩
 refine⟨_,rfl,a9 (fC l),rfl,(fun z=>by cases z),by show 4<=16000000; decide,fun i acc=>acc=a9 (((fC l).take i).filter (b7 r c)),rfl,?_,?_⟩
 ·rintro i z acc hz rfl
  obtain ⟨m,rfl,hm⟩:=j4 hz
  have tk:=lF (p:=b7 r c) hm
  refine⟨_,rfl,_,rfl,_,rfl,r,c,m,rfl,_,rfl,?_⟩
  cases hb:b7 r c m with
  | true=>
   rw [hb,if_pos rfl] at tk
   refine aY ⟨_,rfl,trivial,?_⟩
   dsimp only
   rw [tk]
   unfold a9
   rw [bi9]; rfl
  | false=>
   rw [hb,if_neg (by decide),bk0] at tk
   refine aN ?_
   dsimp only
   rw [tk]
 ·rintro acc rfl
  exact⟨trivial,q⟩
def dI (many:Nat) (c:Int):List (Int × Int):=((rng many).filter fun h=>decide ((h+1) % c > 0)).map fun h=>(h,h+1)
def dP (many:Int) (c:Int):List (Int × Int):=(rng (many - c).toNat).map fun h=>(h,h+c)
def sV:cW:=fun Ep xs Q=>∃ r c:Int,xs = [.int r,.int c]/\((¬ bM r c ∨ 40 < r * c)->Ep "BadBoard")/\(bM r c->r * c<=40->∀ ls,ls.Perm (dI (r * c).toNat c ++ dP (r * c) c)->WL (r * c) (List.replicate (r * c).toNat 2) ls->Q (eC (List.replicate (r * c).toNat 2) ls))
def ab6 (Ep:Str->Prop):aP:=(aF (qH (gS Ep mS (a6 (a5 0) (a6 (a5 1) aA))))
 (aF (b6 2 (jJ (a5 0) (a5 1)))
 (aF (bY (aT (iU (a5 2) (qC (.int 40)))) (mO Ep "BadBoard" (a6 (qC (.str "a board of more than 40 cells is no web")) aA)) c8)
 (aF (b6 3 (dU (jG (a5 2)) [none,some 1] (cG 0) (aT (iU (cB (cU (a5 0) (qC (.int 1))) (a5 1)) (qC (.int 0)))) (cF (a6 (a5 0) (a6 (cU (a5 0) (qC (.int 1))) aA)))))
 (aF (b6 4 (dU (jG (gN (a5 2) (a5 1))) [none,some 1] (cG 0) eU (cF (a6 (a5 0) (a6 (cU (a5 0) (a5 1)) aA)))))
 (bC (aI oZ (a6 (V4 (eS (a6 (qC (.int 2)) aA)) (a5 2)) (a6 (j5 (a5 3) (a5 4)) aA)))))))))
theorem yL {many:Nat}{c:Int}{l:Int × Int}:l ∈ dI many c ↔ 0<=l.1/\l.1 < (many:Int)/\(l.1+1) % c > 0/\l.2=l.1+1:=by
 unfold dI
 rw [bk9]
 constructor
 ·rintro ⟨h,hm,rfl⟩
  obtain ⟨h1,h2⟩:=bk3.mp hm
  have:=kK.mp h1
  exact⟨this.1,this.2,bu3 h2,rfl⟩
 ·rintro ⟨h0,h1,h2,h3⟩
  exact⟨l.1,bk3.mpr ⟨kK.mpr ⟨h0,h1⟩,bh5 h2⟩,Prod.ext rfl h3.symm⟩
theorem yM {many c:Int}{l:Int × Int}:l ∈ dP many c ↔ 0<=l.1/\l.1 < many - c/\l.2=l.1+c:=by
 unfold dP
 rw [bk9]
 constructor
 ·rintro ⟨h,hm,rfl⟩
  have:=kK.mp hm
  exact⟨this.1,by show h < many - c; omega,rfl⟩
 ·rintro ⟨h0,h1,h2⟩
  exact⟨l.1,kK.mpr ⟨h0,by omega⟩,Prod.ext rfl h2.symm⟩
theorem aW7 {r c:Int} (c1:1<=c) (r1:1<=r) {l:Int × Int} (h:l ∈ dI (r * c).toNat c):0<=l.1/\l.1 < l.2/\l.2 < r * c:=by
 obtain ⟨h0,h1,h2,h3⟩:=yL.mp h
 have hp:0<=r * c:=Int.mul_nonneg (by omega) (by omega)
 have:l.1+1 ≠ r * c:=fun e=>by
  rw [e,Int.mul_emod_left] at h2
  omega
 omega
theorem aW8:gT ab6 ["rows","columns","many","beside","below"] sV:=by
  rintro Ep xs Q ⟨r,c,rfl,e1,q⟩
  refine⟨_,rfl,_,rfl,r,c,rfl,fun ok=>?_,fun no=>e1 (.inl no)⟩
  obtain ⟨r1,r2,c1,c2⟩:=id ok
  refine⟨_,rfl,_,rfl,_,_,rfl,rfl,.inl ⟨by omega,by omega⟩,trivial,?_⟩
  dsimp only
  refine⟨_,rfl,_,_,rfl,rfl,_,rfl,?_⟩
  show if decide (r * c > 40)=true then _ else _
  by_cases h40:r * c > 40
  · rw [bh5 h40]
    exact aY ⟨by decide,e1 (.inr h40)⟩
  rw [bh2 h40]
  have hp:0<=r * c:=Int.mul_nonneg (by omega) (by omega)
  have hin:=fun l h=>aW7 (r:=r) (c:=c) c1 r1 (l:=l) h
  generalize hm:r * c=m at *
  refine aN ⟨_,rfl,m,rfl,by omega,by omega,by rw [gM]; omega,fun i acc=>acc=a9 ((((rng m.toNat).take i).filter fun h=>decide ((h+1) % c > 0)).map fun h=>(h,h+1)),rfl,?_,?_⟩
  · rintro i z acc hz rfl
    rw [U8] at hz
    obtain ⟨h,rfl,hh⟩:=kJ hz
    have tk:=lF (p:=fun h=>decide ((h+1) % c > 0)) hh
    refine⟨_,rfl,_,_,rfl,rfl,_,rfl,_,_,rfl,rfl,by omega,_,_,rfl,rfl,_,rfl,?_⟩
    dsimp only
    cases hc:decide ((h+1) % c > 0) with
    | true=>
      rw [hc,if_pos rfl] at tk
      refine aY ⟨_,rfl,_,rfl,_,_,rfl,rfl,by show 2<=1000; decide,rfl,trivial,?_⟩
      dsimp only
      rw [tk,bi9]
      unfold a9
      rw [bi9]; rfl
    | false=>
      rw [hc,if_neg (by decide),bk0] at tk
      refine aN ?_
      rw [tk]
  rintro acc rfl
  rw [gM,bl8 (by rw [mI]; exact bh7 _)]
  refine⟨trivial,?_⟩
  refine⟨_,rfl,_,rfl,_,_,rfl,rfl,m - c,rfl,by omega,by omega,by rw [gM]; omega,fun i acc=>acc=a9 (((rng (m - c).toNat).take i).map fun h=>(h,h+c)),rfl,?_,?_⟩
  · rintro i z acc hz rfl
    rw [U8] at hz
    obtain ⟨h,rfl,hh⟩:=kJ hz
    refine⟨_,rfl,_,rfl,_,rfl,_,_,rfl,rfl,by show 2<=1000; decide,rfl,trivial,?_⟩
    dsimp only
    rw [bl5,hh,bi9]
    unfold a9
    rw [bi9]; rfl
  rintro acc rfl
  rw [gM,bl8 (by rw [mI]; exact bh7 _)]
  refine⟨trivial,?_⟩
  refine⟨by show 1<=1000; decide,rfl,_,rfl,_,_,rfl,rfl,rfl,by omega,by omega,by show 1<=10; decide,?_⟩
  rw [show (List.replicate m.toNat (List.map (fun (x:PV × Tg)=>x.fst) [(PV.int 2,Tg.fr)])).flatten=intz (List.replicate m.toNat 2) from aR5 m.toNat 2]
  have bl1:(dI m.toNat c).length<=40:=by
    unfold dI
    rw [bh8]
    have:=bq7 (fun h=>decide ((h+1) % c > 0)) (rng m.toNat)
    rw [mI] at this
    omega
  have bl2:(dP m c).length<=40:=by
    unfold dP
    rw [bh8,mI]; omega
  refine⟨_,rfl,_,rfl,_,_,rfl,rfl,cD _,cD _,?_,?_⟩
  · show (a9 (dI m.toNat c)).length+(a9 (dP m c)).length<=_
    rw [bQ,bQ]; omega
  have e2:a9 (dI m.toNat c) ++ a9 (dP m c)=a9 (dI m.toNat c ++ dP m c):=by unfold a9; rw [bi9]
  have inn:∀ l ∈ dI m.toNat c ++ dP m c,0<=l.1/\l.1 < l.2/\l.2 < m:=fun l hl=>by
    rcases bk4.mp hl with h | h
    · exact hin l h
    · have:=yM.mp h; omega
  have nrmid:(dI m.toNat c ++ dP m c).map gD=dI m.toNat c ++ dP m c:=by
    conv=>rhs; rw [<- List.map_id (dI m.toNat c ++ dP m c)]
    refine List.map_congr_left fun l hl=>?_
    have:=inn l hl
    exact Prod.ext (by show min l.1 l.2=l.1; omega) (by show max l.1 l.2=l.2; omega)
  have lr:(List.replicate m.toNat (2:Int)).length=m.toNat:=bs2
  have nd:(dI m.toNat c ++ dP m c).Nodup:=by
    refine bo8.mpr ⟨?_,?_,fun x hx y hy e=>?_⟩
    · unfold dI
      exact bs1.mpr (((xG m.toNat).filter _).imp fun {a b} ne e=>ne (congrArg Prod.fst e))
    · unfold dP
      exact bs1.mpr ((xG _).imp fun {a b} ne e=>ne (congrArg Prod.fst e))
    · subst e
      obtain ⟨h0,h1,h2,h3⟩:=yL.mp hx
      obtain ⟨k0,k1,k2⟩:=yM.mp hy
      have:c=1:=by omega
      subst this
      rw [Int.emod_one] at h2
      omega
  have key:oZ [.lst (intz (List.replicate m.toNat 2)),.lst (a9 (dI m.toNat c ++ dP m c))] fun z=>Nw .fr z/\Q z:=by
   refine⟨_,_,List.replicate m.toNat 2,dI m.toNat c ++ dP m c,rfl,.inr rfl,by rw [lr]; omega,fun w hw=>by rw [(List.mem_replicate.mp hw).2]; decide,.inr rfl,by rw [bi0]; omega,fun l hl=>?_,by rw [nrmid]; exact nd,fun ls' pp w'=>?_⟩
   · have:=inn l hl
     rw [lr]
     omega
   · rw [nrmid] at pp
     rw [lr] at w'
     exact⟨trivial,q ok (by omega) ls' pp (by rw [show ((m.toNat:Nat):Int)=m by omega] at w'; exact w')⟩
  rw [<- e2] at key
  exact key
def sW:bE:=fun xs Q=>∃ (ls:List (Int × Int)) (y:PV),xs = [.tup (a9 ls),y]/\(y = .tup (a9 ls) ∨ y = .lst (a9 ls))/\ls.length<=4096/\Q (.bl true)
def ab7 (K:PySem.W.Frag):aP:=(aF (bY (fO (hZ (aT (kG K "tuple" (a5 0)))) (aT (qNe (aI dS (a6 (a5 0) aA)) (aI dS (a6 (a5 1) aA))))) (bC (qC (.bl false))) c8)
 (aF (dZ (jG (aI dS (a6 (a5 1) aA))) (cG 2)
  (aF (bY (fO (hZ (aT (kG K "tuple" (cJ (a5 0) (a5 2))))) (aT (q2 (m8 2 true) (cJ (a5 0) (a5 2)) (cJ (a5 1) (a5 2))))) (bC (qC (.bl false))) c8)
  (dZ (dM (cJ (a5 0) (a5 2))) (cG 3)
   (bY (hZ (aT (aI rV (a6 (a5 3) aA)))) (bC (qC (.bl false))) c8))))
 (bC (qC (.bl true)))))
theorem aW9 {K:PySem.W.Frag} (kt:PySem.W.kitOne K (.type "tuple") (.type "tuple")=some true):cT (ab7 K) ["found","due","k","number"] sW:=by
 rintro xs Q ⟨ls,y,rfl,hy,hl,q⟩
 have sy:i4 y=some (a9 ls):=by rcases hy with rfl | rfl <;> rfl
 have ly:qI y=some (a9 ls).length:=by rcases hy with rfl | rfl <;> rfl
 have pl:(a9 ls).length=ls.length:=bh8 _
 have ft:flat (.tup (a9 ls))=true:=by unfold flat; exact cD ls
 refine⟨_,rfl,_,_,rfl,kt,_,rfl,aN ⟨_,rfl,_,_,rfl,rfl,_,rfl,_,_,rfl,ly,.inl ⟨_,_,rfl,rfl,_,rfl,?_⟩⟩⟩
 show if (!decide (((a9 ls).length:Int)=((a9 ls).length:Int)))=true then _ else _
 rw [bh5 rfl]
 refine aN ?_
 refine⟨_,rfl,_,_,rfl,ly,_,rfl,by omega,by omega,fun i ρ=>∃ z2 z3:Option Slot,ρ = [some (.sh true (.tup (a9 ls))),some (.sh (flat y) y),z2,z3],⟨none,none,?_⟩,?_,?_⟩
 ·show eV _ _=_
  unfold eV
  show [some (Slot.sh (flat (.tup (a9 ls))) (.tup (a9 ls))),_,_,_]=_
  rw [ft]
 ·rintro i z ρ hz ⟨z2,z3,rfl⟩
  obtain ⟨rfl,hi⟩:=oJ hz
  have i1:i < ls.length:=by omega
  have hli:ls[i]? = some ls[i]:=bh4 i1
  have a1:L2.atI (a9 ls) ((0:Int)+(i:Int))=some (.tup (intz [ls[i].1,ls[i].2])):=by
   rw [show (0:Int)+(i:Int)=(i:Int) by omega]
   exact pP (by unfold a9; rw [bj5,hli]; rfl)
  refine⟨_,rfl,_,rfl,_,_,_,rfl,rfl,a1,_,_,rfl,kt,_,rfl,aN ⟨_,rfl,_,rfl,_,_,_,rfl,rfl,a1,_,rfl,_,rfl,_,_,_,sy,rfl,a1,.inl ⟨_,_,rfl,rfl⟩,qS 2 _ _,_,rfl,?_⟩⟩
  show if (!bV 3 (.tup (intz [ls[i].1,ls[i].2])) (.tup (intz [ls[i].1,ls[i].2])))=true then _ else _
  rw [qR,bh5 rfl]
  refine aN ?_
  refine⟨_,rfl,_,rfl,_,_,_,rfl,rfl,a1,intz [ls[i].1,ls[i].2],rfl,(fun z=>xA _),fun j ρ=>∃ z3:Option Slot,ρ = [some (.sh true (.tup (a9 ls))),some (.sh (flat y) y),si ((0:Int)+(i:Int)),z3],⟨z3,rfl⟩,?_,?_⟩
  ·rintro j w ρ hw ⟨z3,rfl⟩
   obtain ⟨n,rfl,hn⟩:=kJ hw
   refine V5 ?_
   refine⟨_,rfl,n,rfl,_,rfl,aN ⟨si n,rfl⟩⟩
  ·rintro ρ ⟨z3,rfl⟩
   exact⟨_,z3,rfl⟩
 ·rintro ρ ⟨z2,z3,rfl⟩
  exact⟨trivial,q⟩
def yN:aP:=(aF (bY (fO (aT (aD4 (a5 4) (qC .non))) (hZ (aT (mQ "ValueError" (a5 4))))) (bC (qC (.str ""))) c8)
 (bC (Z4 (yG (qC (.str "board")) (aI sM (a6 (mQ "BadBoard" (a5 4)) aA))) (yG (qC (.str "set")) (aI sM (a6 (mQ "BadSet" (a5 4)) aA))))))
theorem sX {Q:PV->Prop}{y0 y1 y2 y3:Option Slot} (q:Q (.str "board")):yN { nx:=fun _=>Q .non,rt:=Q } [y0,y1,y2,y3,some (.sh true (.exc "BadBoard")),none]:=by
 refine⟨_,rfl,rfl,_,rfl,aN ⟨_,rfl,true,(by decide),_,rfl,aN ?_⟩⟩
 refine⟨_,rfl,true,(by decide),.inr ⟨true,rfl,_,true,rfl,rfl,_,rfl,false,(by decide),.inr ⟨false,rfl,_,false,rfl,rfl,_,_,rfl,rfl,by decide,trivial,?_⟩⟩⟩
 exact q
theorem sY {Q:PV->Prop}{y0 y1 y2 y3:Option Slot} (q:Q (.str "set")):yN { nx:=fun _=>Q .non,rt:=Q } [y0,y1,y2,y3,some (.sh true (.exc "BadSet")),none]:=by
 refine⟨_,rfl,rfl,_,rfl,aN ⟨_,rfl,true,(by decide),_,rfl,aN ?_⟩⟩
 refine⟨_,rfl,false,(by decide),.inr ⟨false,rfl,_,false,rfl,rfl,_,rfl,true,(by decide),.inr ⟨true,rfl,_,true,rfl,rfl,_,_,rfl,rfl,by decide,trivial,?_⟩⟩⟩
 exact q
section
variable {ls : List (Int × Int)} {n : Nat} {B : List Int}
def ins (ls:List (Int × Int)) (S:List Int) (h:Int):Nat:=((bD ls h).filter fun x=>decide (x ∈ S)).length
theorem aX0 {S:List Int}{h a b:Int} (ha:a ∈ bD ls h) (hb:b ∈ bD ls h) (sa:a ∈ S) (sb:b ∈ S) (ne:a ≠ b):2<=ins ls S h:=by
 unfold ins
 have m1:a ∈ (bD ls h).filter fun x=>decide (x ∈ S):=bk3.mpr ⟨ha,bh5 sa⟩
 have m2:b ∈ (bD ls h).filter fun x=>decide (x ∈ S):=bk3.mpr ⟨hb,bh5 sb⟩
 cases e:(bD ls h).filter fun x=>decide (x ∈ S) with
 | nil=>rw [e] at m1; cases m1
 | cons x r=>
  cases r with
  | nil=>
   rw [e] at m1 m2
   rw [bi1.mp m1,bi1.mp m2] at ne
   exact absurd rfl ne
  | cons y z=>simp
theorem aX1 {S:List Int}{h:Int} (nd:(bD ls h).Nodup) (t:2<=ins ls S h):∃ a b,a ∈ bD ls h/\b ∈ bD ls h/\a ∈ S/\b ∈ S/\a ≠ b:=by
 unfold ins at t
 have n2:=nd.filter (fun x=>decide (x ∈ S))
 have mem:∀ x ∈ (bD ls h).filter fun x=>decide (x ∈ S),x ∈ bD ls h/\x ∈ S:=fun x hx=>⟨(bk3.mp hx).1,bu3 (bk3.mp hx).2⟩
 cases e:(bD ls h).filter fun x=>decide (x ∈ S) with
 | nil=>rw [e] at t; simp at t
 | cons x r=>
  cases r with
  | nil=>rw [e] at t; simp at t
  | cons y z=>
   rw [e] at n2 mem
   have h1:=mem x bi6
   have h2:=mem y (bi7 _ bi6)
   exact⟨x,y,h1.1,h2.1,h1.2,h2.2,fun z=>(bw3.mp n2).1 (by rw [z]; exact bi6)⟩
end
section
variable {ls : List (Int × Int)} {B : List Int}
structure pA (ls:List (Int × Int)):Prop where
 lt:∀ l ∈ ls,l.1 < l.2
 ord:ls.Pairwise bL
theorem pA.nnd (f:pA ls) (h:Int):(bD ls h).Nodup:=W0 f.lt f.ord
end
end Core
namespace L2
open PySem PySem.Spec PyProof.Rows SO
theorem dH.keep {h h':Heap}{M:Int}{v:Value}{p q:Int} (z:dH h M v p q) (k:∀ b o,h.get? b=some o->h'.get? b=some o):dH h' M v p q:=by
 obtain ⟨b,ob,us,n,e1,e2,e3,e4,e5⟩:=z.at_
 exact⟨⟨b,ob,us,n,e1,k _ _ e2,e3,e4,e5⟩,z.lo,z.hi⟩
theorem aX2 {h:Heap}{M:Int}:∀ {vs:List Value},(∀ v ∈ vs,∃ pp qq,dH h M v pp qq)->∃ fs:List Value,PySem.W.KatTups h vs fs/\fs.length=vs.length/\∀ v ∈ fs,∃ i t,v=Value.int i t:=by
 intro vs
 induction vs with
 | nil=>intro _; exact⟨[],PySem.W.KatTups.nil,rfl,fun _ z=>nomatch z⟩
 | cons v vs ih=>
  intro hh
  obtain ⟨fs,t1,t2,t3⟩:=ih fun y hy=>hh y (bi7 _ hy)
  obtain ⟨pp,qq,z⟩:=hh v bi6
  obtain ⟨b,ob,us,n,rfl,e2,e3,e4,e5⟩:=z.at_
  cases e5 with
  | cons _ t e6=>exact⟨Value.int pp t :: fs,PySem.W.KatTups.cons e2 e3 e4 (by simp) t1,by simp [t2],fun v hv=>(bh9.mp hv).elim (fun z=>⟨pp,t,z⟩) (t3 v)⟩
theorem aX3 {prog:Program}{w:World}{A:Around}{E:Value->Shared->Prop}{s:Shared}{T:String}{r d:Addr}{n:Nat}{P:Nat->Value->Prop}{OK:Heap->Prop}{Q:Value->Shared->Prop}{M:Int} (K:PySem.W.KdlSrc prog w T r d n P OK) (hh:A.handled=none) (hok:OK s.heap) (hn:n<=sizeLine)
  (hI:∀ acc,ItemsOf P acc n->∀ v ∈ acc.toList,∃ pp qq,dH s.heap M v pp qq)
  (h:∀ h' tk a (acc:Array Value) (out:List Value) e,(∀ b o,s.heap.get? b=some o->h'.get? b=some o)->s.heap.objs.size<=a->h'.get? a=some (seqObj "list" out.toArray e)->ItemsOf P acc n->out.Perm acc.toList->out.Pairwise (fun u v=>∀ p q p' q',dH s.heap M u p q->dH s.heap M v p' q'->p * (2 * M+1)+q<=p' * (2 * M+1)+q')->Q (.ref a) { s with heap:=h',toks:=tk }) :
  wpAny (model prog w) A (call (.builtin "sorted") [.ref r]) Q E s:=by
 refine Calls.call_function_entry kind_sorted plain_sorted entry_sorted (args_sorted1 _) ?_
 unfold Builtin.«sorted»
 refine bh0 (m:=checkCount "sorted" 1 1 _) (bh6 ?_)
 refine bh0 (Raw.V6 (s:=s) K hh hok hn fun h' tk acc kp hs it=>?_)
 have hz:acc.toList.length<=sizeLine:=by rw [bm0,it.1]; exact hn
 refine bh0 (wpAny_newList ?_ hz)
 have hoL:(h'.push (seqObj "list" acc.toList.toArray 0)).get? h'.objs.size=some (seqObj "list" acc.toList.toArray 0):=bj1 _ rfl
 show wpAny _ _ _ _ _ { s with heap:=h'.push (seqObj "list" acc.toList.toArray 0),toks:=tk }
 refine bh0 (bp7 (bn8 slot_list_sort ⟨_,hoL,rfl⟩ entry_list_sort ?_ (args_list_sort _)))
 have keepS:∀ out:List Value,∀ b o,s.heap.get? b=some o->(sortedHeap (h'.push (seqObj "list" acc.toList.toArray 0)) h'.objs.size acc.toList out.toArray).get? b=some o:=fun out b o hb=>by
  have lt:=bi4 (kp b o hb)
  rw [sortedHeap_old (bk6 lt) (by rw [size_push']; exact Nat.lt_succ_of_lt lt)]
  exact bh1 _ (kp b o hb)
 by_cases h2:acc.toList.length < 2
 ·refine G9 (s:={ s with heap:=h'.push (seqObj "list" acc.toList.toArray 0),toks:=tk }) hoL h2 ⟨_,rfl,bh6 ⟨_,rfl,?_⟩⟩
  obtain ⟨e,he⟩:=sortedHeap_at (vs:=acc.toList) (out:=acc.toList.toArray) hoL
  refine h _ tk h'.objs.size acc acc.toList e (keepS acc.toList) hs he it (bx3 _) ?_
  match hl:acc.toList,h2 with
  | [],_=>exact List.Pairwise.nil
  | [_],_=>exact bl7 _ _
  | _ :: _ :: _,h2=>simp at h2; omega
 ·have kM:∀ b o,s.heap.get? b=some o->(dO (h'.push (seqObj "list" acc.toList.toArray 0)) h'.objs.size acc.toList).get? b=some o:=fun b o hb=>by
   have lt:=bi4 (kp b o hb)
   exact R6 (bk6 lt) (bh1 _ (kp b o hb))
  have allp:∀ v ∈ acc.toList,∃ pp qq,dH (dO (h'.push (seqObj "list" acc.toList.toArray 0)) h'.objs.size acc.toList) M v pp qq:=fun v hv=>by
   obtain ⟨pp,qq,z⟩:=hI acc it v hv
   exact⟨pp,qq,z.keep kM⟩
  obtain ⟨fs,t1,t2,t3⟩:=aX2 allp
  refine R7 (s:={ s with heap:=h'.push (seqObj "list" acc.toList.toArray 0),toks:=tk }) (κ:=tuples' true) (Ok:=fun x=>∃ pp qq,dH (dO (h'.push (seqObj "list" acc.toList.toArray 0)) h'.objs.size acc.toList) M x.1 pp qq) (rk:=oH (dO (h'.push (seqObj "list" acc.toList.toArray 0)) h'.objs.size acc.toList) (2 * M+1)) hoL (by omega) hz (fun Q hQ=>?_)
   (R8 (s:={ s with heap:=dO (h'.push (seqObj "list" acc.toList.toArray 0)) h'.objs.size acc.toList,toks:=tk })) (fun v hv=>allp v hv) fun out pm so=>⟨_,rfl,bh6 ⟨_,rfl,?_⟩⟩
  ·refine PySem.W.kat_kind (T:=.type "int") t1 (by omega) (fun v hv=>?_) (by decide) ?_
   ·obtain ⟨i,t,rfl⟩:=t3 v hv
    exact PySem.W.Looks.now
   ·have eT:(Value.type "int" != Value.type "tuple")=true:=by decide
    rw [eT]; exact hQ
  ·obtain ⟨e,he⟩:=sortedHeap_at (vs:=acc.toList) (out:=out.toArray) hoL
   refine h _ tk h'.objs.size acc out e (keepS out) hs he it pm (so.imp fun {u v} le p q p' q' z z'=>?_)
   have r1:=dH.rk (B:=2 * M+1) (x:=(u,u)) (z.keep kM)
   have r2:=dH.rk (B:=2 * M+1) (x:=(v,v)) (z'.keep kM)
   rw [r1,r2] at le
   exact le
abbrev aX4 (l:Int × Int):List Int:=[l.1,l.2]
abbrev kk (l:Int × Int):List aC:=[Sum.inl l.1,Sum.inl l.2]
theorem aX5 {α β:Type}{R:α->β->Prop}{xs ys:List α} (h:xs.Perm ys):∀ {ks:List β},Paired R xs ks->∃ ks',ks'.Perm ks/\Paired R ys ks':=by
 induction h with
 | nil=>intro ks r; exact⟨ks,bx3 _,r⟩
 | cons v _ ih=>
  intro ks r
  cases r with
  | cons r t=>
   obtain ⟨xs',p,r'⟩:=ih t
   exact⟨_ :: xs',p.cons _,.cons r r'⟩
 | swap u v l=>
  intro xs r
  cases r with
  | cons r t=>cases t with
   | cons r2 t2=>exact⟨_,List.Perm.swap _ _ _,.cons r2 (.cons r t2)⟩
 | trans _ _ ih1 ih2=>
  intro xs r
  obtain ⟨x1,p1,r1⟩:=ih1 r
  obtain ⟨x2,p2,r2⟩:=ih2 r1
  exact⟨x2,p2.trans p1,r2⟩
def ab8:List V->Hp->VK->Prop:=fun xs H Q=>∃ (a:Addr) (kvs:List (List aC × V)) (ls:List (Int × Int)),xs = [.ref a]/\H a=some (.dT kvs)/\kvs.map (·.1)=ls.map kk/\∀ (l:Addr) (zs:List V) (ms:List (Int × Int)),H l=none->ms.Perm ls->ms.Pairwise (fun u v=>HT.cA [v.1,v.2] [u.1,u.2]=false)->Paired (k9 H) zs (ms.map kk)->Q (.ref l) (upd H l (.lst zs))
theorem ab9 {H:Hp}:∀ {ys:List V}{vs:List Value}{ls:List (Int × Int)},aL ys vs->Paired (k9 H) ys (ls.map kk)->Paired (fun v l=>∃ y,aS y v/\k9 H y (kk l)) vs ls
 | _,_,[],.nil,_=>.nil
 | _,_,[],.cons _ _,p=>nomatch p
 | _,_,l :: ls,.cons r t,.cons k p=>.cons ⟨_,r,k⟩ (ab9 t p)
theorem ac0 {H:Hp}:∀ {vs:List Value}{ls:List (Int × Int)},Paired (fun v l=>∃ y,aS y v/\k9 H y (kk l)) vs ls->∃ ys:List V,aL ys vs/\Paired (k9 H) ys (ls.map kk)
 | _,_,.nil=>⟨[],.nil,.nil⟩
 | _,_,.cons ⟨y,r,k⟩ p=>by
  obtain ⟨ys,t,q⟩:=ac0 p
  exact⟨y :: ys,.cons r t,.cons k q⟩
theorem ac1 {α β:Type}{R:α->β->Prop}:∀ {xs:List α}{ys:List β},Paired R xs ys->∀ y ∈ ys,∃ x ∈ xs,R x y
 | _,_,.nil,y,h=>nomatch h
 | _,_,.cons r p,y,h=>by
  rcases bh9.mp h with rfl | h
  ·exact⟨_,bi6,r⟩
  ·obtain ⟨x,hx,rx⟩:=ac1 p y h
   exact⟨x,bi7 _ hx,rx⟩
theorem ac2 {α β:Type}{R:α->β->Prop}:∀ {xs:List α}{ys:List β},Paired R xs ys->∀ x ∈ xs,∃ y ∈ ys,R x y
 | _,_,.nil,y,h=>nomatch h
 | _,_,.cons r p,y,h=>by
  rcases bh9.mp h with rfl | h
  ·exact⟨_,bi6,r⟩
  ·obtain ⟨x,hx,rx⟩:=ac2 p y h
   exact⟨x,bi7 _ hx,rx⟩
theorem ac3 {α β:Type}{J:α->β->Prop}{R:α->α->Prop}{S:β->β->Prop}:∀ {xs:List α}{ys:List β},Paired J xs ys->xs.Pairwise R->(∀ u v a b,a ∈ ys->b ∈ ys->J u a->J v b->R u v->S a b)->ys.Pairwise S
 | _,_,.nil,_,_=>.nil
 | _,_,.cons (a:=x) (b:=y) r p,.cons h t,f=>by
  refine .cons (fun b hb=>?_) (ac3 p t fun u v a b ha hb=>f u v a b (bi7 _ ha) (bi7 _ hb))
  obtain ⟨v,hv,jv⟩:=ac1 p b hb
  exact f x v y b bi6 (bi7 _ hb) r jv (h v hv)
theorem aX6 {X:Cx} (hc:X.calm=true):dA X (.builtin "sorted") ab8:=by
 intro pins s σ H xs us Q I r h
 obtain ⟨a,kvs,ls,rfl,ha,hk,q⟩:=h
 obtain ⟨u,rfl,ru⟩:=gG r
 cases ru
 obtain ⟨es,ep,ys,rd,far,pk,vk,z⟩:=aw4 I ha
 rw [hk] at pk
 have hl:=vk.length
 have hl2:=pk.length
 have hl3:=congrArg List.length hk
 rw [bh8] at hl hl2 hl3
 rw [bh8] at hl3
 have hsz:es.toList.length=es.size:=bm0
 obtain ⟨M,hM⟩:=wZ (fun l:Int × Int=>l.2) ls
 have pv:∀ {y:V}{v:Value}{l:Int × Int},aS y v->k9 H y (kk l)->l ∈ ls->dH s.heap M v l.1 l.2:=fun {y v l} ry ka hm=>by
  obtain ⟨b,rfl,hb⟩:=ka
  cases ry
  obtain ⟨us,ru,⟨ob,e1,c1,n1,d1⟩,_⟩:=I.tuple (show aO X.K H b (((aX4 l)).map V.int) from aO.of hb)
  have ia:=kS ru
  have mm:=hM l hm
  exact⟨⟨b,ob,us,n1,rfl,e1,c1,d1,ia⟩,mm.1,mm.2⟩
 have jt:=ab9 vk pk
 refine aX3 (M:=M) (Raw.J2 far) (I.ok.hd hc) rd (by omega) (fun acc it v hv=>?_) fun h' tk l acc out e kp hn he it pm so=>?_
 ·rw [vG it] at hv
  obtain ⟨m,hm,y,ry,ka⟩:=ac2 jt v hv
  exact⟨m.1,m.2,pv ry ka hm⟩
 ·rw [vG it] at pm
  obtain ⟨ms,pms,jo⟩:=aX5 pm.symm jt
  obtain ⟨zs,vz,pz⟩:=ac0 jo
  have lz:=vz.length
  have lo:=pm.length_eq
  rw [bh8] at lo
  refine⟨.ref l,upd H l (.lst zs),I.laid (t':=tk) kp hn ⟨by omega,out,e,vz,he⟩,rfl,q l zs ms (I.hok.fresh hn) pms ?_ pz⟩
  refine ac3 jo so fun u v a b ha hb ⟨y,ry,ka⟩ ⟨y',ry',kb⟩ le=>?_
  have h1:=pv ry ka (pms.mem_iff.mp ha)
  have h2:=pv ry' kb (pms.mem_iff.mp hb)
  have:=le _ _ _ _ h1 h2
  rw [wY h2.lo h2.hi h1.lo h1.hi]
  exact bh2 (by omega)
end L2
namespace PP
open PySem L2
section
variable {X : Cx} {e : Expr} {tr : cR} {pos p2 : Pos}
def yO:List PV->(PV->Prop)->Prop:=fun xs Q=>∃ (ps:List (List aC × PV)) (ls:List (Int × Int)),xs = [.dT ps]/\ps.map (·.1)=ls.map kk/\∀ ms:List (Int × Int),ms.Perm ls->ms.Pairwise (fun u v=>HT.cA [v.1,v.2] [u.1,u.2]=false)->Q (.lst (ms.map fun l=>PV.tup [.int l.1,.int l.2]))
theorem ac4 {K:PySem.W.Frag}{M:Addr->Prop}{H:Hp}:∀ {zs:List V}{ms:List (Int × Int)},Paired (k9 H) zs (ms.map kk)->Reps K M H zs (ms.map fun l=>PV.tup [.int l.1,.int l.2])
 | _,[],.nil=>.nil
 | _,l :: ms,.cons ⟨q,e,h⟩ p=>by
  subst e
  exact .cons (.tup h (.cons (.int _) (.cons (.int _) .nil))) (ac4 p)
theorem aX7:fF X yO ab8:=by
 rintro H vs xs Q Q' r ⟨ps,ls,rfl,e,q⟩ k
 obtain ⟨v,rfl,r1⟩:=r.one
 cases r1 with
 | @dT a kvs _ m h e2 r2=>
  exact⟨a,kvs,ls,rfl,h,e2.trans e,fun l zs ms hl' p o pz=>k _ _ _ (bU hl' _) (.lst hl' bO ((ac4 pz).same (bU hl' _) fun _ z=>z)) (q ms p o)⟩
theorem aX8 (B:Bt X.mg) (hc:X.calm=true) (ha:QA X [e] tr) (hg:Gl X "sorted":=by rfl) (he:starEach [e] X.env=(false,eval e X.env) :: starEach [] X.env:=by rfl) (hpl:(backTo pos (starEach [] X.env)).any (·.1)=false:=by rfl):QE X (.Call (.Name "sorted" p2) [e] [] pos) (aI yO tr):=
 jQ (aX6 hc) aX7 hg B.sorted PyProof.Rows.boot_sorted ha (he:=he) (hpl:=hpl)
end
section
variable {X : Cx} {a b e : Expr} {te : aE} {pos : Pos} {D : cQ} {σ : St} {H : Hp}
def yP (i:Nat) (tk1 tk2 te:aE):aP:=fun D ρ=>te ρ fun x _=>∃ u w xs,x = .tup [u,w]/\flats [u,w]=true/\ρ[i]? = some (some (.own (.lst xs)))/\tk1 ρ fun y _=>∃ n j,y = .int n/\fJ xs.length n=some j/\
 tk2 (ρ.set i (some (.own (.lst (xs.set j u))))) fun y' _=>∃ n' j',y' = .int n'/\fJ (xs.set j u).length n'=some j'/\D.nx ((ρ.set i (some (.own (.lst (xs.set j u))))).set i (some (.own (.lst ((xs.set j u).set j' w)))))
theorem aX9 {i:Nat}{tk1 tk2:aE} (h:LS X (yP i tk1 tk2 te) D σ H):jA (LE X te) (lN X.K 2 (gX (nD (gV i) (LE X tk1) nL) (gX (nD (gV i) (LE X tk2) nL) lM))) D σ H:=by
 obtain ⟨W,ρ,D',px,q,k⟩:=h
 refine⟨W,ρ,_,px,q,?_⟩
 rintro w H1 x g s rx ⟨u,z,xs,rfl,fl,hi,q1⟩
 obtain ⟨b,ub,rfl,hb,rb⟩:=rx.sqT
 obtain ⟨u1,u2,rfl,_,_⟩:=rb.two
 obtain ⟨v,ev,a,rfl,wa,us,ea,r⟩:=(px.mono s).sl i _ hi
 refine⟨b,[u1,u2],rfl,aO.of hb,rfl,u1,[u2],rfl,_,ev,W,ρ,_,px.mono s,q1,?_⟩
 rintro kv H2 y gy s2 ry ⟨n,j,rfl,hj,q2⟩
 cases ry
 have ea2:=s2 _ _ ea
 have ht:i < ρ.length:=(bi3.mp hi).1
 have hi':(ρ.set i (some (.own (.lst (xs.set j u)))))[i]? = some (some (.own (.lst (xs.set j u)))):=by rw [bm7 ht]
 have f2:Reps X.K (Ms X.H₀ W true) H2 [u1,u2] [u,z]:=(Reps.flat fl rb).same s2 fun _ z=>z
 obtain ⟨w1,w2,e12,ru,rw_⟩:=f2.two
 cases e12
 refine⟨a,us,n,j,rfl,rfl,ea2,by rw [r.length]; exact hj,u2,[],rfl,?_⟩
 have px2:=(px.mono (s.trans s2)).updL hi ev wa ((Reps.set ru j (r.same s2 fun _ z=>z)).keep (.upd ea2 rfl fun b m=>⟨iN wa m,m⟩))
 have rs:Reps X.K (Ms X.H₀ W true) (upd H2 a (.lst (us.set j u1))) (us.set j u1) (xs.set j u):=(Reps.set ru j (r.same s2 fun _ z=>z)).keep (.upd ea2 rfl fun b m=>⟨iN wa m,m⟩)
 refine⟨_,ev,W,_,_,px2,q2,?_⟩
 rintro kv' H4 y' gy' s4 ry' ⟨n',j',rfl,hj',q3⟩
 cases ry'
 have ea4:=s4 _ _ (bO (H:=H2) (a:=a) (o:=.lst (us.set j u1)))
 refine⟨a,us.set j u1,n',j',rfl,rfl,ea4,by rw [rs.length]; exact hj',rfl,?_⟩
 have rz0:aJ X.K (Ms X.H₀ W true) (upd H2 a (.lst (us.set j u1))) u2 z:=rw_.keep (.upd ea2 rfl fun b m=>⟨iN wa m,m⟩)
 have rz:=rz0.same s4 fun _ z=>z
 refine k.nx W σ _ _ (((Ev.same (s.trans s2)).trans (Ev.upd wa)).trans ((Ev.same s4).trans (Ev.upd wa))) ((px2.mono s4).updL hi' ev wa ?_) q3
 exact (Reps.set rz j' (rs.same s4 fun _ z=>z)).keep (.upd ea4 rfl fun b m=>⟨iN wa m,m⟩)
theorem aY0 (i:Nat) {x:Str}{xp1 xp2 tp1 tp2 tp:Pos}{kt:Nat}{tk1 tk2:aE} (hk1:QE X a tk1) (hk2:QE X b tk2) (he:QE X e te) (hN:X.N[i]? = some x:=by rfl) (hv:gE X.env.scope x:=by first | exact Or.inl rfl | exact Or.inr (Or.inl rfl) | exact Or.inr (Or.inr rfl)) (hd:(x == ("__debug__" : Str))=false:=by decide) (hcd:(x == ("__classdict__" : Str))=false:=by decide) (hc:X.calm=true:=by rfl)
  (hp1:∀ (tx:TE) (tg:TE),PE X (.Name x xp1) tx->PE X a tg->PG X (.Subscript (.Name x xp1) a tp1) (nD tx tg nL):=by intro _ _ h1 h2; exact zK h1 h2 C5)
  (hp2:∀ (tx:TE) (tg:TE),PE X (.Name x xp2) tx->PE X b tg->PG X (.Subscript (.Name x xp2) b tp2) (nD tx tg nL):=by intro _ _ h1 h2; exact zK h1 h2 C5)
  (hs:swapsWithSole [.Tuple [.Subscript (.Name x xp1) a tp1,.Subscript (.Name x xp2) b tp2] kt tp] e pos.line X.env=pure false:=by rfl) (hw:swappedStores [.Tuple [.Subscript (.Name x xp1) a tp1,.Subscript (.Name x xp2) b tp2] kt tp] e X.env=pure none:=by rfl) :
  QS X (.Assign [.Tuple [.Subscript (.Name x xp1) a tp1,.Subscript (.Name x xp2) b tp2] kt tp] e pos) (yP i tk1 tk2 te):=
 dN (zL he (nC hc (iG (hp1 _ _ (iF hN hv hd hcd) hk1) (iG (hp2 _ _ (iF hN hv hd hcd) hk2) nB))) hs hw) fun _ _ _=>aX9
end
section
variable {X : Cx} {o e f : Expr} {td tk tx : aE} {pos apos cpos : Pos} {σ : St} {H : Hp} {Q' : VK}
def sZ (td tk tx:aE):aE:=fun ρ Q=>td ρ fun x _=>∃ ps,x = .dT ps/\tk ρ fun y _=>tx ρ fun z _=>∃ k,y = .tup (k.map kP)/\flat ((bJ ps k).getD z)=true/\Q ((bJ ps k).getD z) .fr
theorem aY1 (h:LE X (sZ td tk tx) σ H Q'):F9 (LE X td) (LE X tk) (LE X tx) σ H Q':=by
 obtain ⟨W,ρ,Q,px,q,k⟩:=h
 refine⟨W,ρ,_,px,q,?_⟩
 rintro v H1 x g s r ⟨ps,rfl,q⟩
 have r0:=r
 cases r with
 | @dT a kvs _ m h e rr=>
  refine⟨a,rfl,.inr ⟨kvs,.inl h⟩,W,ρ,_,px.mono s,q,fun w H2 y g' s2 r2 q2=>⟨W,ρ,_,(px.mono s).mono s2,q2,?_⟩⟩
  rintro w3 H3 z gz s3 r3 ⟨kk,rfl,fl,q⟩
  obtain ⟨a',o',ea,dg,h1,h2⟩:=qN (.inr ⟨ps,kk,rfl,rfl,rfl⟩) (r0.same (s2.trans s3) fun _ z=>z) (r2.same s3 fun _ z=>z)
  cases ea
  refine⟨o',dg,?_⟩
  cases hv:bJ ps kk with
  | none=>
   rw [hv] at fl q
   rw [h1 hv]
   exact k _ _ _ .fr ((s.trans s2).trans s3) (r3.flat fl) q
  | some z'=>
   rw [hv] at fl q
   obtain ⟨u,rfl,ru⟩:=h2 z' hv
   exact k _ _ _ .fr ((s.trans s2).trans s3) (ru.flat fl) q
theorem ac5 (hu:X.A.units+1 < cLine) (ho:QE X o td) (he:QE X e tk) (hf:QE X f tx) (m:M2 X o "get" apos e f cpos:=by exact⟨rfl,rfl,rfl,rfl⟩):QE X (.Call (.Attribute o "get" apos) [e,f] [] cpos) (sZ td tk tx):=cH (au4 hu ho he hf m) fun _ _ _=>aY1
def t0 (p p':Int->Int->Bool) (ta tb tc:aE):aE:=fun ρ Q=>ta ρ fun x _=>tb ρ fun y _=>∃ i j,x = .int i/\y = .int j/\if p i j=true then tc ρ fun z _=>∃ k,z = .int k/\Q (.bl (p' j k)) .fr else Q (.bl false) .fr
theorem aY2 {p p':Int->Int->Bool}{ta tb tc:aE} (h:LE X (t0 p p' ta tb tc) σ H Q'):A3 (fS fun i j=>.bl (p i j)) (fS fun i j=>.bl (p' i j)) (LE X ta) (LE X tb) (LE X tc) σ H Q':=by
 obtain ⟨W,ρ,Q,px,q,k⟩:=h
 refine⟨W,ρ,_,px,q,?_⟩
 rintro v H1 x g s r q
 refine⟨W,ρ,_,px.mono s,q,?_⟩
 rintro u H2 y g' s2 r2 ⟨i,j,rfl,rfl,q⟩
 cases r; cases r2
 refine⟨i,j,rfl,rfl,p i j,rfl,?_⟩
 cases hp:p i j with
 | false=>
  rw [hp] at q
  rw [if_neg (by decide)] at q
  rw [if_neg (by decide)]
  exact k _ _ _ .fr (s.trans s2) (.bl false) q
 | true=>
  rw [hp,if_pos rfl] at q
  rw [if_pos rfl]
  refine⟨W,ρ,_,(px.mono s).mono s2,q,?_⟩
  rintro w H3 z gz s3 r3 ⟨m,rfl,q⟩
  cases r3
  exact⟨j,m,rfl,rfl,k _ _ _ .fr ((s.trans s2).trans s3) (.bl _) q⟩
section
variable {a b c : Expr} {ta tb tc : aE}
theorem ac6 (ha:QE X a ta) (hb:QE X b tb) (hc:QE X c tc) (hm:lastMarks [.LtE,.Lt] [b,c]=false:=by with_unfolding_all rfl):QT X (.Compare a [.LtE,.Lt] [b,c] pos) (aT (t0 (fun i j=>decide (i<=j)) (fun i j=>decide (i < j)) ta tb tc)):=l0 (an3 am8 pM ha hb hc hm) fun _ _ _ h=>aY2 (nO h)
end
end
end PP
namespace Core
open PySem L2 PP
def cX (K:List (Int × Int)):List (List aC × PV):=K.map fun l=>(bF l,PV.bl true)
theorem ac7 {a b:Int × Int} (h:bF a=bF b):a=b:=by
 unfold bF at h
 injection h with h1 h2
 injection h2 with h2
 exact Prod.ext (Sum.inl.inj h1) (Sum.inl.inj h2)
theorem aY3 (K:List (Int × Int)):(cX K).map (·.1)=K.map bF:=by unfold cX; rw [bv0]; rfl
theorem t5 (K:List (Int × Int)):(cX K).length=K.length:=by unfold cX; rw [bh8]
theorem yQ (K:List (Int × Int)) (x:Int × Int):(bJ (cX K) (bF x)).isSome=decide (x ∈ K):=by
 rw [<- oM,bp3,List.any_eq_true,bj8]
 unfold cX
 refine⟨fun ⟨p,hp,e⟩=>?_,fun h=>⟨_,bk9.mpr ⟨x,h,rfl⟩,bh5 rfl⟩⟩
 obtain ⟨y,hy,rfl⟩:=bk9.mp hp
 rw [<- ac7 (bu3 e:bF y=bF x)]; exact hy
theorem t6 {K:List (Int × Int)}{x:Int × Int} (h:x ∉ K):bZ (cX K) (bF x) (.bl true)=cX (K ++ [x]):=by
 have:((cX K).any fun kv=>decide (kv.1=bF x))=false:=by
  rw [oM,yQ,bh2 h]
 unfold bZ
 rw [this]
 unfold cX
 rw [bi9]; rfl
def iD (ps:List (List aC × PV)) (f:Int × Int->Nat):Prop:=∀ x,(bJ ps (bF x)).getD (.int 0) = .int (f x)
theorem iD.nil:iD [] fun _=>0:=fun _=>rfl
theorem iD.put {ps:List (List aC × PV)}{f:Int × Int->Nat} (h:iD ps f) (s:Int × Int) (v:PV) (hv:v = .int ((f s+1:Nat):Int)):iD (bZ ps (bF s) v) (fun x=>if x=s then f x+1 else f x):=fun x=>by
 rw [oN]
 dsimp only
 by_cases e:x=s
 ·subst e; rw [if_pos rfl,if_pos rfl,hv]; rfl
 ·rw [if_neg (fun z=>e (ac7 z)),if_neg e]; exact h x
inductive gU (r c:Int) (S:List (Int × Int)):Int × Int->Prop
 | seed {x:Int × Int}:x ∈ S->gU r c S x
 | kin {x a b:Int × Int}:b7 r c x=true->a ∈ aV r c x->b ∈ aV r c x->a ≠ b->gU r c S a->gU r c S b->gU r c S x
theorem t7 {r c:Int}{x y:Int × Int} (hx:b7 r c x=true) (h:y ∈ aV r c x):x ∈ aV r c y:=by
 unfold aV at h ⊢
 obtain ⟨h1,_⟩:=bk3.mp h
 refine bk3.mpr ⟨?_,hx⟩
 unfold fC at h1 ⊢
 simp only [bh9,bi5,bm2,Prod.ext_iff] at h1 ⊢
 omega
theorem ac8 {r c:Int}{x y:Int × Int} (h:y ∈ aV r c x):b7 r c y=true:=(bk3.mp h).2
theorem yR (r c:Int) (x:Int × Int):(aV r c x).Nodup:=by
 unfold aV
 refine List.Pairwise.filter _ (?_:(fC x).Nodup)
 unfold fC
 simp only [bw3,bh9,bi5,bm2,Prod.ext_iff,not_false_eq_true,List.nodup_nil,and_true]
 omega
def bN (r c:Int) (P:List (Int × Int)) (x:Int × Int):Nat:=(P.filter fun p=>decide (x ∈ aV r c p)).length
theorem yS (r c:Int) (P:List (Int × Int)) (p x:Int × Int):bN r c (P ++ [p]) x=bN r c P x+(if x ∈ aV r c p then 1 else 0):=by
 unfold bN
 rw [List.filter_append,bi0]
 by_cases h:x ∈ aV r c p <;> simp [h]
theorem aY4 {r c:Int}{P:List (Int × Int)}{x a b:Int × Int} (ha:a ∈ P) (hb:b ∈ P) (ne:a ≠ b) (xa:x ∈ aV r c a) (xb:x ∈ aV r c b):2<=bN r c P x:=by
 unfold bN
 have ma:a ∈ P.filter fun p=>decide (x ∈ aV r c p):=bk3.mpr ⟨ha,bh5 xa⟩
 have mb:b ∈ P.filter fun p=>decide (x ∈ aV r c p):=bk3.mpr ⟨hb,bh5 xb⟩
 generalize P.filter (fun p=>decide (x ∈ aV r c p))=l at ma mb
 match l with
 | []=>cases ma
 | [y]=>rw [bi1.mp ma,bi1.mp mb] at ne; exact absurd rfl ne
 | _ :: _ :: _=>simp
theorem aY5 {r c:Int}{P:List (Int × Int)}{x:Int × Int} (h:1<=bN r c P x):∃ q ∈ P,x ∈ aV r c q:=by
 unfold bN at h
 cases hl:P.filter fun p=>decide (x ∈ aV r c p) with
 | nil=>rw [hl] at h; cases h
 | cons q t=>
  have:q ∈ P.filter fun p=>decide (x ∈ aV r c p):=by rw [hl]; exact bi6
  exact⟨q,(bk3.mp this).1,bu3 (bk3.mp this).2⟩
structure Wk (r c:Int) (S K P:List (Int × Int)):Prop where
 nd:K.Nodup
 ndP:P.Nodup
 sub:∀ x ∈ P,x ∈ K
 brn:∀ x ∈ K,gU r c S x
 sd:∀ x ∈ S,x ∈ K
 bd:∀ x ∈ K,b7 r c x=true
 low:∀ x,x ∉ K->bN r c P x < 2
def bG (r c:Int) (K P:List (Int × Int)) (s:Int × Int):Bool:=!decide (s ∈ K) && decide (bN r c P s=1)
theorem Wk.step {r c:Int}{S K P:List (Int × Int)}{p:Int × Int} (w:Wk r c S K P) (hp:p ∈ K) (np:p ∉ P):Wk r c S (K ++ (aV r c p).filter (bG r c K P)) (P ++ [p]):=by
 have new:∀ s ∈ (aV r c p).filter (bG r c K P),s ∈ aV r c p/\s ∉ K/\bN r c P s=1:=fun s hs=>by
  obtain ⟨h1,h2⟩:=bk3.mp hs
  unfold bG at h2
  rw [bm9,Bool.not_eq_true',bq9,bj8] at h2
  exact⟨h1,h2.1,h2.2⟩
 refine⟨bo8.mpr ⟨w.nd,List.Pairwise.filter _ (yR r c p),fun a ha b hb e=>(new b hb).2.1 (e ▸ ha)⟩,bo8.mpr ⟨w.ndP,bl7 _ _,fun a ha b hb e=>np (by rw [<- bi1.mp hb,<- e]; exact ha)⟩,fun x hx=>?_,fun x hx=>?_,fun x hx=>bl6 _ (w.sd x hx),fun x hx=>?_,fun x hx=>?_⟩
 ·rcases bk4.mp hx with h | h
  ·exact bl6 _ (w.sub x h)
  ·rw [bi1.mp h]; exact bl6 _ hp
 ·rcases bk4.mp hx with h | h
  ·exact w.brn x h
  ·obtain ⟨h1,h2,h3⟩:=new x h
   obtain ⟨q,hq,xq⟩:=aY5 (r:=r) (c:=c) (P:=P) (x:=x) (by omega)
   have qK:=w.sub q hq
   exact .kin (ac8 h1) (t7 (w.bd p hp) h1) (t7 (w.bd q qK) xq) (fun e=>np (e ▸ hq)) (w.brn p hp) (w.brn q qK)
 ·rcases bk4.mp hx with h | h
  ·exact w.bd x h
  ·exact ac8 (new x h).1
 ·have nK:x ∉ K:=fun h=>hx (bl6 _ h)
  have lo:=w.low x nK
  rw [yS]
  by_cases h:x ∈ aV r c p
  ·rw [if_pos h]
   have:bN r c P x ≠ 1:=fun e=>hx (bl0 _ (bk3.mpr ⟨h,by unfold bG; rw [bh2 nK,bh5 e]; rfl⟩))
   omega
  ·rw [if_neg h]; omega
theorem Wk.all {r c:Int}{S K P:List (Int × Int)} (w:Wk r c S K P) (h:∀ x ∈ K,x ∈ P) (x:Int × Int):x ∈ K ↔ gU r c S x:=by
 refine⟨w.brn x,fun b=>?_⟩
 induction b with
 | seed hs=>exact w.sd _ hs
 | @kin x a b bx sa sb ne _ _ ia ib=>
  refine Classical.byContradiction fun nx=>?_
  have:=aY4 (h a ia) (h b ib) ne (t7 bx sa) (t7 bx sb)
  have:=w.low x nx
  omega
theorem Wk.init {r c:Int}{S:List (Int × Int)} (nd:S.Nodup) (bd:∀ x ∈ S,b7 r c x=true):Wk r c S S []:=⟨nd,.nil,(fun _ h=>nomatch h),fun x h=>.seed h,fun x h=>h,bd,fun x _=>(by decide:(0:Nat) < 2)⟩
theorem pB {r c:Int} (ok:bM r c) {K:List (Int × Int)} (nd:K.Nodup) (bd:∀ x ∈ K,b7 r c x=true):K.length<=1600:=by
 have:=yA 1600 (K.map fun l=>(l.1 * 40+l.2).toNat) (by
  refine bs1.mpr (nd.imp_of_mem fun {a b} ha hb hab e=>hab ?_)
  have i1:=eF.mp (bd a ha)
  have i2:=eF.mp (bd b hb)
  have:=ok.2.2.2
  exact Prod.ext (by omega) (by omega)) fun x hx=>by
   obtain ⟨l,hl,rfl⟩:=bk9.mp hx
   have i1:=eF.mp (bd l hl)
   have:=ok.2.1
   have:=ok.2.2.2
   omega
 rwa [bh8] at this
theorem mU {α:Type}{l:List α}{i:Nat}{x:α} (nd:l.Nodup) (h:l[i]? = some x):x ∉ l.take i:=fun z=>by
 have:(l.take (i+1)).Nodup:=nd.sublist (List.take_sublist _ _)
 rw [bl5,h] at this
 exact (bo8.mp this).2.2 x z x (by simp) rfl
theorem aY6 (K:List (Int × Int)):flats ((cX K).map (·.2))=true:=by
 unfold cX
 rw [bv0]
 induction K with
 | nil=>rfl
 | cons a r ih=>exact ih
def t8:bE:=fun xs Q=>∃ (x:PV) (ls:List (Int × Int)),xs = [x]/\(x = .tup (a9 ls) ∨ x = .lst (a9 ls))/\ls.Nodup/\ls.length<=4096/\Q (.dT (cX ls))
def ac9:aP:=(aF (dY 1 (qC (.dT [])))
 (aF (dZ (dM (a5 0)) (cG 2)
  (kF 1 (a5 2) (qC (.bl true))))
 (kX 1)))
theorem aY7:cT ac9 ["hearths","inside","hearth"] t8:=by
 rintro xs Q ⟨x,ls,rfl,hx,nd,hl,q⟩
 have sx:i4 x=some (a9 ls):=by rcases hx with rfl | rfl <;> rfl
 have tg:(Slot.sh (flat x) x).tag = .rd->flat x=true:=by cases flat x <;> intro z <;> cases z
 refine⟨rfl,rfl,_,rfl,a9 ls,sx,tg,fun i ρ=>∃ y,ρ = [some (.sh (flat x) x),some (.own (.dT (cX (ls.take i)))),y],⟨none,rfl⟩,?_,?_⟩
 ·rintro i y ρ hy ⟨y0,rfl⟩
  obtain ⟨l,rfl,h⟩:=j4 hy
  have tk:bZ (cX (ls.take i)) (bF l) (.bl true)=cX (ls.take (i+1)):=by rw [t6 (mU nd h),bl5,h]; rfl
  refine⟨_,rfl,_,rfl,bF l,rfl,trivial,by rw [t5,bo6]; omega,?_⟩
  rw [tk]
  exact⟨_,rfl⟩
 ·rintro ρ ⟨y,rfl⟩
  rw [bQ,bm1]
  exact⟨_,rfl,trivial,q⟩
def lI:cW:=fun Ep xs Q=>∃ (r c:Int) (x:PV) (ls:List (Int × Int)),xs = [.int r,.int c,x]/\(x = .tup (a9 ls) ∨ x = .lst (a9 ls))/\ls.length<=4096/\(¬ bM r c->Ep "BadBoard")/\(bM r c->¬ fB r c ls->Ep "BadSet")/\
 (bM r c->fB r c ls->∀ K:List (Int × Int),K.Pairwise bL->(∀ y,y ∈ K ↔ gU r c ls y)->K.length<=1600->Q (.tup (a9 K)))
def ad0 (Ep:Str->Prop):aP:=(aF (b6 3 (gS Ep kN (a6 (a5 0) (a6 (a5 1) (a6 (a5 2) aA)))))
 (aF (dY 4 (aI t8 (a6 (a5 3) aA)))
 (aF (dY 5 (aI kY (a6 (a5 3) aA)))
 (aF (dY 6 (qC (.dT [])))
 (aF (nR (qL (a5 5))
  (aF (vT 5 7)
  (dZ (dM (aI sU (a6 (a5 0) (a6 (a5 1) (a6 (a5 7) aA))))) (cG 8)
   (aF (kF 6 (a5 8) (cU (sZ (a5 6) (a5 8) (qC (.int 0))) (qC (.int 1))))
   (bY (kB (aT (i7 (qO (a5 6) (a5 8)) (qC (.int 2)))) (aT (jI true (a5 8) (a5 4)))) (aF (kF 4 (a5 8) (qC (.bl true)))
    (kD 5 (a5 8))) c8)))))
 (bC (aI fZ (a6 (aI yO (a6 (a5 4) aA)) aA))))))))
def eG (r c:Int) (P:List (Int × Int)) (ss:List (Int × Int)) (x:Int × Int):Nat:=bN r c P x+(if x ∈ ss then 1 else 0)
theorem ad1 {r c:Int}{P ss:List (Int × Int)}{j:Nat}{s:Int × Int} (nd:ss.Nodup) (h:ss[j]? = some s):(fun x=>if x=s then eG r c P (ss.take j) x+1 else eG r c P (ss.take j) x)=eG r c P (ss.take (j+1)):=by
 funext x
 unfold eG
 have tk:ss.take (j+1)=ss.take j ++ [s]:=by rw [bl5,h]; rfl
 rw [tk]
 by_cases e:x=s
 ·subst e
  rw [if_pos rfl,if_neg (mU nd h),if_pos (by simp)]
 ·rw [if_neg e]
  by_cases m:x ∈ ss.take j
  ·rw [if_pos m,if_pos (bl6 _ m)]
  ·rw [if_neg m,if_neg (fun z=>by rcases bk4.mp z with z | z; exact m z; exact e (bi1.mp z))]
theorem aY8 {a b:Int × Int} (h:HT.cA [b.1,b.2] [a.1,a.2]=false) (ne:a ≠ b):bL a b:=by
 rw [HT.iK,HT.iK,HT.pO] at h
 unfold bL
 by_cases e:b.1=a.1
 ·rw [if_pos e] at h
  by_cases e2:b.2=a.2
  ·exact absurd (Prod.ext e.symm e2.symm) ne
  ·rw [if_neg e2] at h
   have:=bv8 h
   omega
 ·rw [if_neg e] at h
  have:=bv8 h
  omega
theorem aY9 {ms:List (Int × Int)} (nd:ms.Nodup) (so:ms.Pairwise fun u v=>HT.cA [v.1,v.2] [u.1,u.2]=false):ms.Pairwise bL:=(List.Pairwise.and so nd).imp fun z=>aY8 z.1 z.2
theorem aZ0:gT ad0 ["rows","columns","seeds","chosen","burning","lit","met","cell","side"] lI:=by
 rintro Ep xs Q ⟨r,c,x,ls,rfl,hx,hl,e1,e2,q⟩
 refine⟨_,rfl,_,rfl,_,rfl,r,c,x,ls,rfl,hx,hl,e1,e2,fun ok st=>⟨trivial,?_⟩⟩
 have q:=q ok st
 have snd:ls.Nodup:=sS st.1
 refine⟨_,rfl,_,ls,rfl,.inl rfl,snd,hl,rfl,aY6 ls,?_⟩
 refine⟨_,rfl,_,_,rfl,rfl,cD _,rfl,cD _,?_⟩
 refine⟨rfl,rfl,?_⟩
 refine⟨fun n ρ=>∃ (K P L:List (Int × Int)) (ps:List (List aC × PV)) (y7 y8:Option Slot),ρ = [si r,si c,some (.sh (flat x) x),some (.sh true (.tup (a9 ls))),some (.own (.dT (cX K))),some (.own (.lst (a9 L))),some (.own (.dT ps)),y7,y8]/\
   n+P.length=1600/\(P ++ L).Perm K/\Wk r c ls K P/\iD ps (bN r c P)/\ps.length<=4 * P.length,⟨1600,ls,[],ls,[],none,none,rfl,rfl,bx3 _,Wk.init snd st.2,iD.nil,bh7 _⟩,?_⟩
 rintro n ρ ⟨K,P,L,ps,y7,y8,rfl,nP,pm,wk,me,pl⟩
 refine⟨_,rfl,_,rfl,?_⟩
 have kf:=pB ok wk.nd wk.bd
 have pk:P.length+L.length=K.length:=by rw [<- pm.length_eq,bi0]
 rcases List.eq_nil_or_concat L with hL | ⟨L',p,hL⟩
 ·subst hL
  have all:=wk.all fun y hy=>by
   have:=pm.mem_iff.mpr hy
   rwa [bk0] at this
  refine aN ⟨_,rfl,_,K,rfl,aY3 K,fun ms pms so=>⟨⟨_,_,rfl,rfl,cD _,trivial,q ms (aY9 (pms.nodup_iff.mpr wk.nd) so) (fun y=>(pms.mem_iff).trans (all y)) (by rw [pms.length_eq]; exact kf)⟩,fun ns z=>by cases z⟩⟩
 ·have hL:L=L' ++ [p]:=by rw [hL]; simp
  subst hL
  rw [bi0,bl3] at pk
  have pp:a9 (L' ++ [p])=a9 L' ++ [.tup [.int p.1,.int p.2]]:=by unfold a9; rw [bi9]; rfl
  have nz:(!(a9 (L' ++ [p])).isEmpty)=true:=by rw [pp]; cases L' <;> rfl
  show if (!(a9 (L' ++ [p])).isEmpty)=true then _ else _
  rw [nz]
  have pK:p ∈ K:=pm.mem_iff.mp (by simp)
  have ndPL:(P ++ (L' ++ [p])).Nodup:=pm.nodup_iff.mpr wk.nd
  have np:p ∉ P:=fun z=>(bo8.mp ndPL).2.2 p z p (by simp) rfl
  have wk2:=wk.step pK np
  have snd2:=yR r c p
  have sl4:(aV r c p).length<=4:=by
   unfold aV
   exact bq7 _ (fC p)
  refine aY ⟨a9 L',.tup [.int p.1,.int p.2],by rw [pp]; rfl,?_⟩
  refine⟨_,rfl,_,rfl,_,rfl,r,c,p,rfl,a9 (aV r c p),rfl,(fun z=>by cases z),fun j ρ=>∃ (ps:List (List aC × PV)) (y8:Option Slot),ρ = [si r,si c,some (.sh (flat x) x),some (.sh true (.tup (a9 ls))),some (.own (.dT (cX (K ++ ((aV r c p).take j).filter (bG r c K P))))),some (.own (.lst (a9 (L' ++ ((aV r c p).take j).filter (bG r c K P))))),some (.own (.dT ps)),some (.sh true (.tup [.int p.1,.int p.2])),y8]/\
    iD ps (eG r c P ((aV r c p).take j))/\ps.length<=4 * P.length+j,⟨ps,y8,?_,?_,by omega⟩,?_,?_⟩
  ·rw [List.take_zero,List.filter_nil,bk0,bk0]; rfl
  ·have:eG r c P ((aV r c p).take 0)=bN r c P:=by funext y; unfold eG; simp
   rw [this]; exact me
  ·rintro j y ρ hy ⟨ps2,y8,rfl,me2,pl2⟩
   obtain ⟨s,rfl,hs⟩:=j4 hy
   have jl:=(bi3.mp hs).1
   have nj:=mU snd2 hs
   have tk:=lF (p:=bG r c K P) hs
   have ms:=me2 s
   have me3:=me2.put s (.int ((eG r c P ((aV r c p).take j) s:Int)+1)) rfl
   rw [ad1 snd2 hs] at me3
   have fs:eG r c P ((aV r c p).take j) s=bN r c P s:=by unfold eG; rw [if_neg nj]; rfl
   rw [fs] at ms me3
   have vs:bJ (bZ ps2 (bF s) (.int ((bN r c P s:Int)+1))) (bF s)=some (.int ((bN r c P s:Int)+1)):=by rw [oN,if_pos rfl]
   have lp:=rR ps2 (bF s) (.int ((bN r c P s:Int)+1))
   refine⟨_,rfl,ps2,rfl,_,rfl,bF s,rfl,by rw [ms]; rfl,_,_,ms,rfl,ps2,rfl,_,rfl,bF s,rfl,trivial,by omega,?_⟩
   refine⟨_,rfl,_,rfl,_,.inr ⟨_,bF s,rfl,rfl,vs.symm⟩,.inl ⟨_,_,rfl,rfl,_,rfl,?_⟩⟩
   show if decide ((bN r c P s:Int)+1=2)=true then _ else _
   have tl:=List.length_take_le j (aV r c p)
   have fl:=bq7 (bG r c K P) ((aV r c p).take j)
   by_cases h1:(bN r c P s:Int)+1=2
   ·rw [bh5 h1]
    refine aY ⟨_,rfl,_,rfl,_,.inr ⟨_,bF s,rfl,rfl,rfl⟩,_,rfl,?_⟩
    show if (!(bJ (cX (K ++ ((aV r c p).take j).filter (bG r c K P))) (bF s)).isSome)=true then _ else _
    rw [yQ]
    by_cases h2:s ∈ K ++ ((aV r c p).take j).filter (bG r c K P)
    ·have sK:s ∈ K:=by
      rcases bk4.mp h2 with z | z
      ·exact z
      ·exact absurd (bk3.mp z).1 nj
     have nf:bG r c K P s=false:=by unfold bG; rw [bh5 sK]; rfl
     rw [nf,if_neg (by decide),bk0] at tk
     rw [bh5 h2]
     refine aN ?_
     rw [<- tk]
     exact⟨bZ ps2 (bF s) (.int ((bN r c P s:Int)+1)),_,rfl,me3,by omega⟩
    ·have sK:s ∉ K:=fun z=>h2 (bl6 _ z)
     have nf:bG r c K P s=true:=by unfold bG; rw [bh2 sK,bh5 (by omega)]; rfl
     rw [nf,if_pos rfl] at tk
     rw [bh2 h2]
     refine aY ⟨_,rfl,_,rfl,bF s,rfl,trivial,by rw [t5,bi0]; omega,?_⟩
     rw [t6 h2,bj2,<- tk]
     refine⟨_,rfl,_,rfl,trivial,by rw [bQ,bi0]; omega,?_⟩
     have ap:a9 (L' ++ ((aV r c p).take j).filter (bG r c K P)) ++ [.tup [.int s.1,.int s.2]]=a9 (L' ++ ((aV r c p).take (j+1)).filter (bG r c K P)):=by
      rw [tk,<- bj2]
      unfold a9
      rw [bi9 (l₂:=[s])]; rfl
     refine⟨bZ ps2 (bF s) (.int ((bN r c P s:Int)+1)),some (Slot.sh (nT Tg.fr (a9 (aV r c p)) || flat (PV.tup [PV.int s.1,PV.int s.2])) (.tup [.int s.1,.int s.2])),?_,me3,by omega⟩
     show [_,_,_,_,_,some (Slot.own (PV.lst (a9 (L' ++ ((aV r c p).take j).filter (bG r c K P)) ++ [.tup [.int s.1,.int s.2]]))),_,_,_]=_
     rw [ap]
   ·rw [bh2 h1]
    have nf:bG r c K P s=false:=by unfold bG; rw [bh2 (by omega : ¬ bN r c P s=1),bp5]
    rw [nf,if_neg (by decide),bk0] at tk
    refine aN (aN ?_)
    rw [<- tk]
    exact⟨bZ ps2 (bF s) (.int ((bN r c P s:Int)+1)),_,rfl,me3,by omega⟩
  ·rintro ρ ⟨ps2,y8,rfl,me2,pl2⟩
   rw [bQ,bm1] at me2
   rw [bQ] at pl2
   rw [bQ,bm1]
   have fe:eG r c P (aV r c p)=bN r c (P ++ [p]):=by funext y; rw [yS]; rfl
   rw [fe] at me2
   have k2:=pB ok wk2.nd wk2.bd
   have sp:=wk2.ndP.length_le_of_subset wk2.sub
   rw [bi0,bl3] at sp
   refine⟨n - 1,by omega,K ++ (aV r c p).filter (bG r c K P),P ++ [p],L' ++ (aV r c p).filter (bG r c K P),ps2,_,_,rfl,by rw [bi0,bl3]; omega,?_,wk2,me2,by rw [bi0,bl3]; omega⟩
   have:(P ++ [p] ++ (L' ++ (aV r c p).filter (bG r c K P))).Perm ((P ++ (L' ++ [p])) ++ (aV r c p).filter (bG r c K P)):=by
    rw [<- bj2 (P ++ [p])]
    refine List.Perm.append_right _ ?_
    rw [bj2]
    exact List.Perm.append_left _ bw0
   exact this.trans (pm.append_right _)
def t9:bE:=fun xs Q=>∃ (r c:Int) (l:Int × Int),xs = [.int r,.int c,.tup [.int l.1,.int l.2]]/\Q (.lst (a9 (aV r c l)))
def ad2:aP:=(aF (rX (iQ 3 4) (a5 2))
 (aF (b6 5 (eS (a6 (cF (a6 (gN (a5 3) (qC (.int 1))) (a6 (a5 4) aA))) (a6 (cF (a6 (a5 3) (a6 (gN (a5 4) (qC (.int 1))) aA))) (a6 (cF (a6 (a5 3) (a6 (cU (a5 4) (qC (.int 1))) aA))) (a6 (cF (a6 (cU (a5 3) (qC (.int 1))) (a6 (a5 4) aA))) aA))))))
 (bC (dU (dM (a5 5)) [none,some 0,some 1] (cG 0) (kB (aT (t0 (fun i j=>decide (i<=j)) (fun i j=>decide (i < j)) (qC (.int 0)) (cJ (a5 0) (qC (.int 0))) (a5 1))) (aT (t0 (fun i j=>decide (i<=j)) (fun i j=>decide (i < j)) (qC (.int 0)) (cJ (a5 0) (qC (.int 1))) (a5 2)))) (a5 0)))))
theorem aZ1:cT ad2 ["rows","columns","cell","row","column","around"] t9:=by
 rintro xs Q ⟨r,c,l,rfl,q⟩
 refine⟨_,rfl,trivial,_,_,rfl,?_⟩
 refine⟨_,rfl,_,_,rfl,rfl,_,rfl,by show 2<=1000; decide,rfl,_,rfl,_,rfl,_,_,rfl,rfl,by show 2<=1000; decide,rfl,_,rfl,_,rfl,_,_,rfl,rfl,by show 2<=1000; decide,rfl,_,rfl,_,_,rfl,rfl,_,rfl,by show 2<=1000; decide,rfl,by show 4<=1000; decide,rfl,trivial,?_⟩
 refine⟨_,rfl,a9 (fC l),rfl,(fun z=>by cases z),by show 4<=16000000; decide,fun i acc=>acc=a9 (((fC l).take i).filter (b7 r c)),rfl,?_,?_⟩
 ·rintro i z acc hz rfl
  obtain ⟨w,rfl,hw⟩:=j4 hz
  have tk:=lF (p:=b7 r c) hw
  have no:b7 r c w=false->a9 (((fC l).take i).filter (b7 r c))=a9 (((fC l).take (i+1)).filter (b7 r c)):=fun e=>by
   rw [e,if_neg (by decide),bk0] at tk
   rw [tk]
  refine⟨_,rfl,_,_,_,rfl,rfl,rfl,0,w.1,rfl,rfl,?_⟩
  show if decide ((0:Int)<=w.1)=true then _ else _
  by_cases a1:(0:Int)<=w.1
  ·rw [bh5 a1]
   refine aY ⟨_,rfl,r,rfl,_,rfl,?_⟩
   show if decide (w.1 < r)=true then _ else _
   by_cases a2:w.1 < r
   ·rw [bh5 a2]
    refine aY ⟨_,rfl,_,_,_,rfl,rfl,rfl,0,w.2,rfl,rfl,?_⟩
    show if decide ((0:Int)<=w.2)=true then _ else _
    by_cases a3:(0:Int)<=w.2
    ·rw [bh5 a3]
     refine aY ⟨_,rfl,c,rfl,_,rfl,?_⟩
     show if decide (w.2 < c)=true then _ else _
     by_cases a4:w.2 < c
     ·rw [bh5 a4]
      have b:b7 r c w=true:=eF.mpr ⟨a1,a2,a3,a4⟩
      rw [b,if_pos rfl] at tk
      refine aY ⟨_,rfl,trivial,?_⟩
      dsimp only
      rw [tk]
      unfold a9
      rw [bi9]; rfl
     ·rw [bh2 a4]
      exact aN (no (by unfold b7; rw [bh2 a4,bp5,bp5,bp5]))
    ·rw [bh2 a3]
     exact aN ⟨_,rfl,aN (no (by unfold b7; rw [bh2 a3,bu0,bp5,bp5]))⟩
   ·rw [bh2 a2]
    exact aN (aN (no (by unfold b7; rw [bh2 a2,bu0,bp5])))
  ·rw [bh2 a1]
   exact aN ⟨_,rfl,aN (aN (no (by unfold b7; rw [bh2 a1,bu0])))⟩
 ·rintro acc rfl
  rw [show (a9 (fC l)).length=4 from rfl,show (fC l).take 4=fC l from rfl]
  exact⟨trivial,q⟩
def tD:bE:=fun xs Q=>∃ (r c:Int) (ls:List (Int × Int)),xs = [.int r,.int c,.tup (a9 ls)]/\bM r c/\fB r c ls/\∀ K:List (Int × Int),K.Pairwise bL->(∀ y,y ∈ K ↔ gU r c ls y)->K.length<=1600->Q (.tup (a9 K))
def ad3:aP:=(aF (dY 3 (qC (.dT [])))
 (aF (dY 4 (qC (.dT [])))
 (aF (dY 5 (aI kY (a6 (a5 2) aA)))
 (aF (dZ (dM (a5 2)) (cG 6)
  (kF 4 (a5 6) (qC (.bl true))))
 (aF (b6 7 (qC (.int 0)))
 (aF (nR (aT (fY (a5 7) (aI dS (a6 (a5 5) aA))))
  (aF (dZ (dM (aI t9 (a6 (a5 0) (a6 (a5 1) (a6 (cJ (a5 5) (a5 7)) aA))))) (cG 8)
   (aF (kF 3 (a5 8) (cU (sZ (a5 3) (a5 8) (qC (.int 0))) (qC (.int 1))))
   (bY (kB (aT (iU (qO (a5 3) (a5 8)) (qC (.int 1)))) (aT (jI true (a5 8) (a5 4)))) (aF (kF 4 (a5 8) (qC (.bl true)))
    (kD 5 (a5 8))) c8)))
  (b6 7 (cU (a5 7) (qC (.int 1))))))
 (bC (aI fZ (a6 (aI oW (a6 (a5 5) aA)) aA)))))))))
theorem ad4 (ls:List (Int × Int)):flat (.tup (a9 ls))=true:=cD ls
theorem aZ2:cT ad3 ["rows","columns","seeds","met","burning","line","seed","at","other"] tD:=by
 rintro xs Q ⟨r,c,ls,rfl,ok,st,q⟩
 have snd:ls.Nodup:=sS st.1
 have sf:=pB ok snd st.2
 refine⟨rfl,rfl,rfl,rfl,?_⟩
 refine⟨_,rfl,_,_,rfl,rfl,cD _,rfl,cD _,?_⟩
 refine⟨_,rfl,a9 ls,rfl,(fun z=>ad4 ls),fun i ρ=>∃ y6:Option Slot,ρ = [si r,si c,some (.sh true (.tup (a9 ls))),some (.own (.dT [])),some (.own (.dT (cX (ls.take i)))),some (.own (.lst (a9 ls))),y6,none,none],⟨none,?_⟩,?_,?_⟩
 ·show [_,_,some (Slot.sh (flat (.tup (a9 ls))) (.tup (a9 ls))),_,_,_,_,_,_]=_
  rw [ad4]; rfl
 ·rintro i y ρ hy ⟨y6,rfl⟩
  obtain ⟨l,rfl,h⟩:=j4 hy
  have tk:bZ (cX (ls.take i)) (bF l) (.bl true)=cX (ls.take (i+1)):=by rw [t6 (mU snd h),bl5,h]; rfl
  refine⟨_,rfl,_,rfl,bF l,rfl,trivial,by rw [t5,bo6]; omega,?_⟩
  rw [tk]
  exact⟨_,rfl⟩
 rintro ρ ⟨y6,rfl⟩
 rw [bQ,bm1]
 refine⟨trivial,?_⟩
 refine⟨fun n ρ=>∃ (K:List (Int × Int)) (at_:Nat) (ps:List (List aC × PV)) (y8:Option Slot),ρ = [si r,si c,some (.sh true (.tup (a9 ls))),some (.own (.dT ps)),some (.own (.dT (cX K))),some (.own (.lst (a9 K))),y6,si (at_:Nat),y8]/\
   n+at_=1600/\at_<=K.length/\Wk r c ls K (K.take at_)/\iD ps (bN r c (K.take at_))/\ps.length<=4 * at_,⟨1600,ls,0,[],none,rfl,rfl,bn5 _,Wk.init snd st.2,iD.nil,bh7 _⟩,?_⟩
 rintro n ρ ⟨K,a,ps,y8,rfl,nP,aK,wk,me,pl⟩
 have kf:=pB ok wk.nd wk.bd
 refine⟨_,rfl,_,rfl,_,_,rfl,rfl,_,_,rfl,rfl,_,rfl,?_⟩
 show if decide ((a:Int) < ((a9 K).length:Int))=true then _ else _
 rw [bQ]
 by_cases lt:(a:Int) < (K.length:Int)
 ·rw [bh5 lt]
  have al:a < K.length:=by omega
  obtain ⟨p,hp⟩:∃ p,K[a]? = some p:=⟨_,bh4 al⟩
  have pK:=bn6 hp
  have np:=mU wk.nd hp
  have wk2:=wk.step pK np
  have t1:K.take (a+1)=K.take a ++ [p]:=by rw [bl5,hp]; rfl
  rw [<- t1] at wk2
  have hpP:L2.atI (a9 K) (a:Int)=some (.tup [.int p.1,.int p.2]):=pP (by unfold a9; rw [bj5,hp]; rfl)
  have snd2:=yR r c p
  have sl4:(aV r c p).length<=4:=by
   unfold aV
   exact bq7 _ (fC p)
  refine aY ?_
  refine⟨_,rfl,_,rfl,_,rfl,_,rfl,_,_,_,rfl,rfl,hpP,r,c,p,rfl,a9 (aV r c p),rfl,(fun z=>by cases z),fun j ρ=>∃ (ps:List (List aC × PV)) (y8:Option Slot),ρ = [si r,si c,some (.sh true (.tup (a9 ls))),some (.own (.dT ps)),some (.own (.dT (cX (K ++ ((aV r c p).take j).filter (bG r c K (K.take a)))))),some (.own (.lst (a9 (K ++ ((aV r c p).take j).filter (bG r c K (K.take a)))))),y6,si (a:Nat),y8]/\
    iD ps (eG r c (K.take a) ((aV r c p).take j))/\ps.length<=4 * a+j,⟨ps,y8,?_,?_,by omega⟩,?_,?_⟩
  ·rw [List.take_zero,List.filter_nil,bk0]
  ·have:eG r c (K.take a) ((aV r c p).take 0)=bN r c (K.take a):=by funext y; unfold eG; simp
   rw [this]; exact me
  ·rintro j y ρ hy ⟨ps2,y8,rfl,me2,pl2⟩
   obtain ⟨s,rfl,hs⟩:=j4 hy
   have jl:=(bi3.mp hs).1
   have nj:=mU snd2 hs
   have tk:=lF (p:=bG r c K (K.take a)) hs
   have ms:=me2 s
   have me3:=me2.put s (.int ((eG r c (K.take a) ((aV r c p).take j) s:Int)+1)) rfl
   rw [ad1 snd2 hs] at me3
   have fs:eG r c (K.take a) ((aV r c p).take j) s=bN r c (K.take a) s:=by unfold eG; rw [if_neg nj]; rfl
   rw [fs] at ms me3
   have vs:bJ (bZ ps2 (bF s) (.int ((bN r c (K.take a) s:Int)+1))) (bF s)=some (.int ((bN r c (K.take a) s:Int)+1)):=by rw [oN,if_pos rfl]
   have lp:=rR ps2 (bF s) (.int ((bN r c (K.take a) s:Int)+1))
   refine⟨_,rfl,ps2,rfl,_,rfl,bF s,rfl,by rw [ms]; rfl,_,_,ms,rfl,ps2,rfl,_,rfl,bF s,rfl,trivial,by omega,?_⟩
   refine⟨_,rfl,_,rfl,_,.inr ⟨_,bF s,rfl,rfl,vs.symm⟩,_,_,rfl,rfl,_,rfl,?_⟩
   show if decide ((bN r c (K.take a) s:Int)+1 > 1)=true then _ else _
   have tl:=List.length_take_le j (aV r c p)
   have fl:=bq7 (bG r c K (K.take a)) ((aV r c p).take j)
   by_cases h1:(bN r c (K.take a) s:Int)+1 > 1
   ·rw [bh5 h1]
    refine aY ⟨_,rfl,_,rfl,_,.inr ⟨_,bF s,rfl,rfl,rfl⟩,_,rfl,?_⟩
    show if (!(bJ (cX (K ++ ((aV r c p).take j).filter (bG r c K (K.take a)))) (bF s)).isSome)=true then _ else _
    rw [yQ]
    by_cases h2:s ∈ K ++ ((aV r c p).take j).filter (bG r c K (K.take a))
    ·have sK:s ∈ K:=by
      rcases bk4.mp h2 with z | z
      ·exact z
      ·exact absurd (bk3.mp z).1 nj
     have nf:bG r c K (K.take a) s=false:=by unfold bG; rw [bh5 sK]; rfl
     rw [nf,if_neg (by decide),bk0] at tk
     rw [bh5 h2]
     refine aN ?_
     rw [<- tk]
     exact⟨bZ ps2 (bF s) (.int ((bN r c (K.take a) s:Int)+1)),_,rfl,me3,by omega⟩
    ·have sK:s ∉ K:=fun z=>h2 (bl6 _ z)
     have lo:=wk.low s sK
     have nf:bG r c K (K.take a) s=true:=by unfold bG; rw [bh2 sK,bh5 (by omega)]; rfl
     rw [nf,if_pos rfl] at tk
     rw [bh2 h2]
     refine aY ⟨_,rfl,_,rfl,bF s,rfl,trivial,by rw [t5,bi0]; omega,?_⟩
     rw [t6 h2,bj2,<- tk]
     refine⟨_,rfl,_,rfl,trivial,by rw [bQ,bi0]; omega,?_⟩
     have ap:a9 (K ++ ((aV r c p).take j).filter (bG r c K (K.take a))) ++ [.tup [.int s.1,.int s.2]]=a9 (K ++ ((aV r c p).take (j+1)).filter (bG r c K (K.take a))):=by
      rw [tk,<- bj2]
      unfold a9
      rw [bi9 (l₂:=[s])]; rfl
     refine⟨bZ ps2 (bF s) (.int ((bN r c (K.take a) s:Int)+1)),some (Slot.sh (nT Tg.fr (a9 (aV r c p)) || flat (PV.tup [PV.int s.1,PV.int s.2])) (.tup [.int s.1,.int s.2])),?_,me3,by omega⟩
     show [_,_,_,_,_,some (Slot.own (PV.lst (a9 (K ++ ((aV r c p).take j).filter (bG r c K (K.take a))) ++ [.tup [.int s.1,.int s.2]]))),_,_,_]=_
     rw [ap]
   ·rw [bh2 h1]
    have nf:bG r c K (K.take a) s=false:=by unfold bG; rw [bh2 (by omega : ¬ bN r c (K.take a) s=1),bp5]
    rw [nf,if_neg (by decide),bk0] at tk
    refine aN (aN ?_)
    rw [<- tk]
    exact⟨bZ ps2 (bF s) (.int ((bN r c (K.take a) s:Int)+1)),_,rfl,me3,by omega⟩
  ·rintro ρ ⟨ps2,y8,rfl,me2,pl2⟩
   rw [bQ,bm1] at me2
   rw [bQ] at pl2
   rw [bQ,bm1]
   have fe:eG r c (K.take a) (aV r c p)=bN r c (K.take (a+1)):=by funext y; rw [t1,yS]; rfl
   rw [fe] at me2
   have k2:=pB ok wk2.nd wk2.bd
   have t2:(K ++ (aV r c p).filter (bG r c K (K.take a))).take (a+1)=K.take (a+1):=List.take_append_of_le_length (by omega)
   refine⟨_,rfl,_,_,rfl,rfl,trivial,n - 1,by omega,K ++ (aV r c p).filter (bG r c K (K.take a)),a+1,ps2,y8,rfl,by omega,by rw [bi0]; omega,?_,?_,by omega⟩
   ·rw [t2]; exact wk2
   ·rw [t2]; exact me2
 ·rw [bh2 lt]
  have ea:K.take a=K:=bl8 (by omega)
  rw [ea] at wk
  refine aN ⟨_,rfl,K.map two,by rw [kL]; rfl,by rw [bh8]; omega,fun r hr=>by obtain ⟨l,_,rfl⟩:=bk9.mp hr; rfl,fun Z pz so=>?_⟩
  obtain ⟨l2,rfl,pp⟩:=xH pz
  rw [show ((l2.map two).map fun r=>PV.tup (intz r))=a9 l2 from (kL _).symm]
  exact⟨⟨_,_,rfl,rfl,cD _,trivial,q l2 (xI so (pp.nodup_iff.mpr wk.nd)) (fun y=>pp.mem_iff.trans (wk.all (fun x hx=>hx) y)) (by rw [pp.length_eq]; exact kf)⟩,fun ns z=>by cases z⟩
def tE:bE:=fun xs Q=>∃ c:Int,xs = [.int c]/\∀ a b:Int,bM a b->Q (.tup [.int a,.int b])
def ad5:aP:=(aF (b6 1 (cU (qC (.int 1)) (cB (a5 0) (qC (.int 9)))))
 (aF (b6 2 (cU (qC (.int 1)) (cB (dW (a5 0) (qC (.int 9))) (qC (.int 9)))))
 (aF (bY (aT (i7 (cB (dW (a5 0) (qC (.int 81))) (qC (.int 8))) (qC (.int 1)))) (aF (b6 1 (cU (qC (.int 1)) (cB (dW (a5 0) (qC (.int 648))) (qC (.int 40)))))
  (b6 2 (cU (qC (.int 1)) (cB (dW (a5 0) (qC (.int 25920))) (qC (.int 40)))))) c8)
 (bC (cF (a6 (a5 1) (a6 (a5 2) aA)))))))
theorem aZ3:cT ad5 ["cell","rows","columns"] tE:=by
 rintro xs Q ⟨c,rfl,q⟩
 refine⟨_,rfl,_,_,rfl,rfl,(by show (0:Int) < 9; decide),_,_,rfl,rfl,trivial,?_⟩
 refine⟨_,rfl,_,_,rfl,rfl,⟨by decide,by decide⟩,_,_,rfl,rfl,(by show (0:Int) < 9; decide),_,_,rfl,rfl,trivial,?_⟩
 refine⟨_,rfl,_,_,rfl,rfl,⟨by decide,by decide⟩,_,_,rfl,rfl,(by show (0:Int) < 8; decide),.inl ⟨_,_,rfl,rfl,_,rfl,?_⟩⟩
 show if decide (c / 81 % 8=1)=true then _ else _
 cases decide (c / 81 % 8=1) with
 | false=>exact aN ⟨_,rfl,_,rfl,by show 2<=1000; decide,rfl,trivial,q _ _ ⟨by omega,by omega,by omega,by omega⟩⟩
 | true=>
  refine aY ⟨_,rfl,_,_,rfl,rfl,⟨by decide,by decide⟩,_,_,rfl,rfl,(by show (0:Int) < 40; decide),_,_,rfl,rfl,trivial,?_⟩
  refine⟨_,rfl,_,_,rfl,rfl,⟨by decide,by decide⟩,_,_,rfl,rfl,(by show (0:Int) < 40; decide),_,_,rfl,rfl,trivial,?_⟩
  exact⟨_,rfl,_,rfl,by show 2<=1000; decide,rfl,trivial,q _ _ ⟨by omega,by omega,by omega,by omega⟩⟩
def tF:bE:=fun xs Q=>∃ (ns:List Int) (k:Int),xs = [.scr ns,.int k]/\ns.length<=63/\0<=k/\k<=1000/\∀ z:Int,Q (.int z)
def ad6:aP:=(aF (bY (aT (fY (a5 1) (aI dS (a6 (a5 0) aA)))) (bC (cJ (a5 0) (a5 1))) c8)
 (aF (b6 2 (cB (jJ (cU (cU (cB (aI jS (a6 (a5 0) (a6 (cB (a5 1) (aI qJ (a6 (qC (.int 1)) (a6 (aI dS (a6 (a5 0) aA)) aA)))) aA))) (qC (.int 1000000007))) (jJ (qC (.int 977)) (a5 1))) (qC (.int 1))) (qC (.int 48271))) (qC (.int 2147483647))))
 (bC (dW (cB (jJ (a5 2) (a5 2)) (qC (.int 2147483647))) (qC (.int 8))))))
theorem aZ4:cT ad6 ["script","k","stir"] tF:=by
 rintro xs Q ⟨ns,k,rfl,hl,k0,k1,q⟩
 refine⟨_,rfl,_,rfl,_,_,rfl,rfl,_,_,rfl,rfl,_,rfl,?_⟩
 show if decide (k < (ns.length:Int))=true then _ else _
 by_cases h:k < (ns.length:Int)
 ·rw [bh5 h]
  have hk:L2.atI (intz ns) k=some (.int (ns.getD k.toNat 0)):=xD k0 h
  exact aY ⟨_,rfl,_,rfl,_,_,_,rfl,rfl,hk,trivial,q _⟩
 ·rw [bh2 h]
  refine aN ?_
  have mx:(0:Int) < (if (ns.length:Int) > 1 then (ns.length:Int) else 1):=by split <;> omega
  refine⟨_,rfl,_,rfl,_,rfl,_,_,rfl,rfl,_,_,rfl,_,_,rfl,rfl,mx,_,ns,_,rfl,.inl rfl,bq2 _ (Int.ne_of_gt mx),?_⟩
  refine⟨_,_,rfl,rfl,(by show (0:Int) < 1000000007; decide),_,rfl,_,_,rfl,rfl,.inl ⟨by decide,by decide⟩,_,_,rfl,rfl,_,_,rfl,rfl,_,_,rfl,rfl,.inr ⟨by decide,by decide⟩,_,_,rfl,rfl,(by show (0:Int) < 2147483647; decide),trivial,?_⟩
  dsimp only
  generalize hv:(ns.getD (k % (if (ns.length:Int) > 1 then (ns.length:Int) else 1)).toNat 0 % 1000000007+977 * k+1) * 48271 % 2147483647=v
  have v0:0<=v:=by rw [<- hv]; exact bq2 _ (by decide)
  have v1:v < 2147483647:=by rw [<- hv]; exact br3 _ (by decide)
  exact⟨_,rfl,_,rfl,_,_,rfl,rfl,.inl ⟨by omega,by omega⟩,_,_,rfl,rfl,(by show (0:Int) < 2147483647; decide),_,_,rfl,rfl,⟨by decide,by decide⟩,trivial,q _⟩
def tG:bE:=fun xs Q=>∃ (ns:List Int) (a r c:Int),xs = [.scr ns,.int a,.int r,.int c]/\ns.length<=63/\0<=a/\a<=10/\bM r c/\∀ ls,fB r c ls->ls.length<=200->Q (.tup (a9 ls))
def yT:aP:=(aF (dY 5 (eS aA))
 (aF (b6 8 (qC (.int 0)))
 (aF (b6 9 (qC (.int 0)))
 (aF (dZ (jG (a5 7)) (cG 10)
  (aF (b6 4 (aI tF (a6 (a5 0) (a6 (cU (a5 1) (a5 10)) aA))))
  (aF (bY (aT (i7 (cB (a5 4) (qC (.int 4))) (qC (.int 0)))) (aF (b6 8 (cB (dW (a5 4) (qC (.int 4))) (a5 2)))
   (b6 9 (cB (dW (a5 4) (qC (.int 169))) (a5 3)))) (aF (b6 8 (cB (gN (cU (a5 8) (cB (dW (a5 4) (qC (.int 4))) (qC (.int 5)))) (qC (.int 2))) (a5 2)))
   (b6 9 (cB (gN (cU (a5 9) (cB (dW (a5 4) (qC (.int 23))) (qC (.int 5)))) (qC (.int 2))) (a5 3)))))
  (bY (kB (aT (q2 sN (cF (a6 (a5 8) (a6 (a5 9) aA))) (a5 5))) (aT (iU (cB (dW (a5 4) (qC (.int 127))) (qC (.int 3))) (qC (.int 0))))) (kD 5 (cF (a6 (a5 8) (a6 (a5 9) aA)))) c8))))
 (bC (aI fZ (a6 (aI oW (a6 (a5 5) aA)) aA)))))))
def ad7:aP:=(aF (b6 4 (aI jS (a6 (a5 0) (a6 (a5 1) aA))))
 (aF (bY (kB (aT (i7 (cB (a5 4) (qC (.int 2))) (qC (.int 1)))) (aT (fY (jJ (a5 2) (a5 3)) (qC (.int 101))))) (aF (dY 5 (eS aA))
  (aF (dZ (jG (jJ (a5 2) (a5 3))) (cG 6)
   (aF (b6 4 (dW (a5 4) (qC (.int 2))))
   (bY (aT (i7 (cB (a5 4) (qC (.int 2))) (qC (.int 1)))) (kD 5 (cF (a6 (dW (a5 6) (a5 3)) (a6 (cB (a5 6) (a5 3)) aA)))) c8)))
  (bC (aI fZ (a6 (a5 5) aA))))) c8)
 (aF (b6 7 (gN (aI dS (a6 (a5 0) aA)) (a5 1)))
 (aF (bY (aT (fY (a5 7) (qC (.int 1)))) (b6 7 (qC (.int 1))) c8)
 yT))))
theorem aZ5 {c:Int}{a b:Int × Int} (h:a.1 * c+a.2 < b.1 * c+b.2) (a0:0<=a.2) (b1:b.2 < c) (c1:1<=c):bL a b:=by
 unfold bL
 rcases Int.lt_trichotomy a.1 b.1 with z | z | z
 ·exact .inl z
 ·rw [z] at h; exact .inr ⟨z,by omega⟩
 ·have:=br6 (show b.1+1<=a.1 by omega) (show 0<=c by omega)
  rw [Int.add_mul,Int.one_mul] at this
  omega
theorem aZ6 {x:Int × Int}{ls:List (Int × Int)}:decide (two x ∈ ls.map two)=decide (x ∈ ls):=by
 rw [bp3,bj8,bj8]
 refine⟨fun h=>?_,fun h=>bk9.mpr ⟨x,h,rfl⟩⟩
 obtain ⟨y,hy,e⟩:=bk9.mp h
 unfold two at e
 injection e with e1 e2
 injection e2 with e2
 rw [<- Prod.ext e1 e2]; exact hy
section
variable {ns : List Int} {a r c m : Int} {y4 y5 y6 : Option Slot} {Q : PV → Prop}
theorem ad8 (hl:ns.length<=63) (a0:0<=a) (a1:a<=10) (ok:bM r c) (m1:1<=m) (m2:m<=63) (q:∀ ls,fB r c ls->ls.length<=200->Q (.tup (a9 ls))) :
  yT { nx:=fun _=>Q .non,rt:=Q } [some (.sh true (.scr ns)),si a,si r,si c,y4,y5,y6,si m,none,none,none]:=by
 obtain ⟨r1,r2,c1,c2⟩:=id ok
 refine⟨by decide,rfl,rfl,rfl,trivial,trivial,?_⟩
 refine⟨_,rfl,m,rfl,by omega,by omega,fun i ρ=>∃ (y4 y10:Option Slot) (x y:Int) (ls:List (Int × Int)),ρ = [some (.sh true (.scr ns)),si a,si r,si c,y4,some (.own (.lst (a9 ls))),y6,si m,si x,si y,y10]/\ls.Nodup/\(∀ l ∈ ls,b7 r c l=true)/\ls.length<=i,
  ⟨y4,none,0,0,[],rfl,.nil,(fun _ h=>nomatch h),bh7 _⟩,?_,?_⟩
 ·rintro i y ρ hy ⟨y4,y10,x,y,ls,rfl,nd,bd,len⟩
  obtain ⟨rfl,hi⟩:=oJ hy
  rw [show (0:Int)+(i:Int)=(i:Int) by omega]
  refine⟨_,rfl,_,rfl,_,rfl,_,_,rfl,rfl,ns,a+(i:Int),rfl,hl,by omega,by omega,fun z=>⟨trivial,?_⟩⟩
  have tail:∀ x y:Int,0<=x->x < r->0<=y->y < c->(bY (kB (aT (q2 sN (cF (a6 (a5 8) (a6 (a5 9) aA))) (a5 5))) (aT (iU (cB (dW (a5 4) (qC (.int 127))) (qC (.int 3))) (qC (.int 0))))) (kD 5 (cF (a6 (a5 8) (a6 (a5 9) aA)))) c8) { nx:=fun ρ=>∃ (y4 y10:Option Slot) (x y:Int) (ls:List (Int × Int)),ρ = [some (.sh true (.scr ns)),si a,si r,si c,y4,some (.own (.lst (a9 ls))),y6,si m,si x,si y,y10]/\ls.Nodup/\(∀ l ∈ ls,b7 r c l=true)/\ls.length<=i+1,rt:=Q } [some (.sh true (.scr ns)),si a,si r,si c,si z,some (.own (.lst (a9 ls))),y6,si m,si x,si y,si (i:Nat)]:=by
   intro x y x0 x1 y0 y1
   refine⟨_,rfl,_,rfl,by show 2<=1000; decide,rfl,_,rfl,[x,y],ls.map two,rfl,by rw [kL]; rfl,_,rfl,?_⟩
   rw [show decide ([x,y] ∈ ls.map two)=decide ((x,y) ∈ ls) from aZ6 (x:=(x,y))]
   by_cases h1:(x,y) ∈ ls
   ·rw [bh5 h1]
    exact aN (aN ⟨si z,si (i:Nat),x,y,ls,rfl,nd,bd,by omega⟩)
   ·rw [bh2 h1]
    refine aY ⟨_,rfl,_,_,rfl,rfl,⟨by decide,by decide⟩,_,_,rfl,rfl,(by show (0:Int) < 3; decide),_,_,rfl,rfl,_,rfl,?_⟩
    show if decide (z / 127 % 3 > 0)=true then _ else _
    cases decide (z / 127 % 3 > 0) with
    | false=>exact aN ⟨si z,si (i:Nat),x,y,ls,rfl,nd,bd,by omega⟩
    | true=>
     refine aY ⟨_,rfl,_,rfl,_,rfl,by show 2<=1000; decide,rfl,trivial,by rw [bQ]; omega,si z,si (i:Nat),x,y,ls ++ [(x,y)],?_,bo8.mpr ⟨nd,bl7 _ _,fun u hu v hv e=>h1 (by rw [bi1.mp hv] at e; rw [<- e]; exact hu)⟩,fun l hl=>?_,by rw [bi0,bl3]; omega⟩
     ·unfold a9
      rw [bi9]; rfl
     ·rcases bk4.mp hl with h | h
      ·exact bd l h
      ·rw [bi1.mp h]; exact eF.mpr ⟨x0,x1,y0,y1⟩
  refine⟨_,rfl,_,_,rfl,rfl,(by show (0:Int) < 4; decide),.inl ⟨_,_,rfl,rfl,_,rfl,?_⟩⟩
  show if decide (z % 4=0)=true then _ else _
  have em:=fun u:Int=>bq2 u (show r ≠ 0 by omega)
  have el:=fun u:Int=>br3 u (show 0 < r by omega)
  have fm:=fun u:Int=>bq2 u (show c ≠ 0 by omega)
  have fl:=fun u:Int=>br3 u (show 0 < c by omega)
  cases decide (z % 4=0) with
  | true=>
   refine aY ⟨_,rfl,_,_,rfl,rfl,⟨by decide,by decide⟩,_,rfl,_,_,rfl,rfl,by omega,trivial,_,rfl,_,_,rfl,rfl,⟨by decide,by decide⟩,_,rfl,_,_,rfl,rfl,by omega,trivial,?_⟩
   exact tail _ _ (em _) (el _) (fm _) (fl _)
  | false=>
   refine aN ⟨_,rfl,_,rfl,_,_,rfl,rfl,⟨by decide,by decide⟩,_,_,rfl,rfl,(by show (0:Int) < 5; decide),_,_,rfl,rfl,_,_,rfl,rfl,_,rfl,_,_,rfl,rfl,by omega,trivial,_,rfl,_,rfl,_,_,rfl,rfl,⟨by decide,by decide⟩,_,_,rfl,rfl,(by show (0:Int) < 5; decide),_,_,rfl,rfl,_,_,rfl,rfl,_,rfl,_,_,rfl,rfl,by omega,trivial,?_⟩
   exact tail _ _ (em _) (el _) (fm _) (fl _)
 ·rintro ρ ⟨y4,y10,x,y,ls,rfl,nd,bd,len⟩
  rw [gM] at len
  refine⟨_,rfl,ls.map two,by rw [kL]; rfl,by rw [bh8]; omega,fun r hr=>by obtain ⟨l,_,rfl⟩:=bk9.mp hr; rfl,fun Z pz so=>?_⟩
  obtain ⟨l2,rfl,pp⟩:=xH pz
  rw [show ((l2.map two).map fun r=>PV.tup (intz r))=a9 l2 from (kL _).symm]
  exact⟨⟨_,_,rfl,rfl,cD _,trivial,q l2 ⟨xI so (pp.nodup_iff.mpr nd),fun l hl=>bd l (pp.mem_iff.mp hl)⟩ (by rw [pp.length_eq]; omega)⟩,fun ns z=>by cases z⟩
end
theorem aZ7:cT ad7 ["script","at","rows","columns","cell","seeds","place","many","row","column","k"] tG:=by
 rintro xs Q ⟨ns,a,r,c,rfl,hl,a0,a1,ok,q⟩
 obtain ⟨r1,r2,c1,c2⟩:=id ok
 refine⟨_,rfl,_,rfl,_,ns,a,rfl,.inl rfl,a0,trivial,?_⟩
 generalize ns.getD a.toNat 0=v
 have two:(aF (b6 7 (gN (aI dS (a6 (a5 0) aA)) (a5 1)))
  (aF (bY (aT (fY (a5 7) (qC (.int 1)))) (b6 7 (qC (.int 1))) c8)
  yT)) { nx:=fun _=>Q .non,rt:=Q } [some (.sh true (.scr ns)),si a,si r,si c,si v,none,none,none,none,none,none]:=by
  refine⟨_,rfl,_,_,rfl,rfl,_,rfl,_,_,rfl,rfl,trivial,?_⟩
  refine⟨_,rfl,_,_,rfl,rfl,_,rfl,?_⟩
  show if decide ((ns.length:Int) - a < 1)=true then _ else _
  by_cases h:(ns.length:Int) - a < 1
  ·rw [bh5 h]
   exact aY ⟨trivial,ad8 hl a0 a1 ok (by decide) (by decide) q⟩
  ·rw [bh2 h]
   exact aN (ad8 (m:=(ns.length:Int) - a) hl a0 a1 ok (by omega) (by omega) q)
 have hp:0<=r * c:=Int.mul_nonneg (by omega) (by omega)
 refine⟨_,rfl,_,_,rfl,rfl,(by show (0:Int) < 2; decide),.inl ⟨_,_,rfl,rfl,_,rfl,?_⟩⟩
 show if decide (v % 2=1)=true then _ else _
 cases decide (v % 2=1) with
 | false=>exact aN (aN two)
 | true=>
  refine aY ⟨_,rfl,_,rfl,_,_,rfl,rfl,.inl ⟨by omega,by omega⟩,_,_,rfl,rfl,_,rfl,?_⟩
  show if decide (r * c < 101)=true then _ else _
  by_cases h:r * c < 101
  ·rw [bh5 h]
   refine aY ⟨by decide,rfl,rfl,rfl,?_⟩
   refine⟨_,rfl,_,rfl,_,_,rfl,rfl,.inl ⟨by omega,by omega⟩,r * c,rfl,by omega,by omega,fun i ρ=>∃ (v:Int) (y6:Option Slot) (ls:List (Int × Int)),ρ = [some (.sh true (.scr ns)),si a,si r,si c,si v,some (.own (.lst (a9 ls))),y6,none,none,none,none]/\ls.Pairwise bL/\(∀ l ∈ ls,b7 r c l=true/\l.1 * c+l.2 < (i:Int))/\ls.length<=i,
    ⟨v,none,[],rfl,.nil,(fun _ h=>nomatch h),bh7 _⟩,?_,?_⟩
   ·rintro i y ρ hy ⟨v,y6,ls,rfl,ord,bd,len⟩
    obtain ⟨rfl,hi⟩:=oJ hy
    rw [show (0:Int)+(i:Int)=(i:Int) by omega]
    have im:(i:Int) < r * c:=by omega
    have d1:=Int.mul_ediv_add_emod (i:Int) c
    have d2:=bq2 (i:Int) (show c ≠ 0 by omega)
    have d3:=br3 (i:Int) (show 0 < c by omega)
    have d4:(i:Int) / c < r:=Int.ediv_lt_of_lt_mul (by omega) im
    have d5:0<=(i:Int) / c:=Int.ediv_nonneg (by omega) (by omega)
    rw [Int.mul_comm] at d1
    refine⟨_,rfl,_,_,rfl,rfl,⟨by decide,by decide⟩,trivial,?_⟩
    refine⟨_,rfl,_,_,rfl,rfl,(by show (0:Int) < 2; decide),.inl ⟨_,_,rfl,rfl,_,rfl,?_⟩⟩
    show if decide (v / 2 % 2=1)=true then _ else _
    cases decide (v / 2 % 2=1) with
    | false=>exact aN ⟨v / 2,si (i:Nat),ls,rfl,ord,fun l hl=>⟨(bd l hl).1,by have:=(bd l hl).2; omega⟩,by omega⟩
    | true=>
     refine aY ⟨_,rfl,_,rfl,_,rfl,_,_,rfl,rfl,⟨by omega,by omega⟩,_,rfl,_,rfl,_,_,rfl,rfl,by omega,by show 2<=1000; decide,rfl,trivial,by rw [bQ]; omega,v / 2,si (i:Nat),ls ++ [((i:Int) / c,(i:Int) % c)],?_,bm3.mpr ⟨ord,bl7 _ _,fun u hu w hw=>?_⟩,fun l hl=>?_,by rw [bi0,bl3]; omega⟩
     ·unfold a9
      rw [bi9]; rfl
     ·rw [bi1.mp hw]
      have bu:=bd u hu
      have iu:=eF.mp bu.1
      exact aZ5 (by show u.1 * c+u.2 < (i:Int) / c * c+(i:Int) % c; omega) (by omega) d3 c1
     ·rcases bk4.mp hl with h | h
      ·exact⟨(bd l h).1,by have:=(bd l h).2; omega⟩
      ·rw [bi1.mp h]
       exact⟨eF.mpr ⟨d5,d4,d2,d3⟩,by show (i:Int) / c * c+(i:Int) % c < _; omega⟩
   ·rintro ρ ⟨v,y6,ls,rfl,ord,bd,len⟩
    rw [gM] at len
    exact⟨_,rfl,⟨_,_,rfl,rfl,cD _,trivial,q ls ⟨ord,fun l hl=>(bd l hl).1⟩ (by omega)⟩,fun ns z=>by cases z⟩
  ·rw [bh2 h]
   exact aN two
def yU:cW:=fun Ep xs Q=>∃ (r c:Int) (x:PV) (ls:List (Int × Int)),xs = [.int r,.int c,x]/\(x = .tup (a9 ls) ∨ x = .lst (a9 ls))/\ls.length<=4096/\(¬ bM r c->Ep "BadBoard")/\(bM r c->¬ fB r c ls/\Ep "BadSet")
abbrev tH:cW:=yU
abbrev mV:cW:=yU
abbrev tI:cW:=yU
def tJ:cW:=fun _ _ _=>False
def tK:bE:=fun _ _=>False
def ad9:aP:=dX
theorem aZ8:cT ad9 ["cells"] tK:=fun _ _ h=>h.elim
def ae0 (Ep:Str->Prop):aP:=(aF (b6 3 (gS Ep kN (a6 (a5 0) (a6 (a5 1) (a6 (a5 2) aA)))))
 (aF dX
 dX))
theorem aZ9:gT ae0 ["rows","columns","cells","chosen","inside"] tH:=by
 rintro Ep xs Q ⟨r,c,x,ls,rfl,hx,hl,e1,e2⟩
 exact⟨_,rfl,_,rfl,_,rfl,r,c,x,ls,rfl,hx,hl,e1,fun ok _=>(e2 ok).2,fun ok st=>absurd st (e2 ok).1⟩
def ae1 (Ep:Str->Prop):aP:=(aF (dY 3 (eS aA))
 (aF (dY 4 (eS aA))
 (aF (dZ (dM (aI tK (a6 (gS Ep kN (a6 (a5 0) (a6 (a5 1) (a6 (a5 2) aA)))) aA))) (cG 5)
  (aF dX
  (aF dX
  (aF dX
  dX))))
 dX)))
theorem ba0:gT ae1 ["rows","columns","seeds","settled","steps","box","growing","close"] mV:=by
 rintro Ep xs Q ⟨r,c,x,ls,rfl,hx,hl,e1,e2⟩
 refine⟨by decide,rfl,rfl,rfl,by decide,rfl,rfl,rfl,?_⟩
 exact⟨_,rfl,_,rfl,_,rfl,r,c,x,ls,rfl,hx,hl,e1,fun ok _=>(e2 ok).2,fun ok st=>absurd st (e2 ok).1⟩
def ae2 (Ep:Str->Prop):aP:=(aF dX
 (aF dX
 (aF dX
 (aF dX
 dX))))
theorem ba1:gT ae2 ["rows","columns","seeds","steps","there","step","boxes","turn","box"] tJ:=fun _ _ _ h=>h.elim
def ae3 (Ep:Str->Prop):aP:=(bC (gS Ep tJ (a6 (a5 0) (a6 (a5 1) (a6 (a5 2) (a6 (gS Ep mV (a6 (a5 0) (a6 (a5 1) (a6 (a5 2) aA)))) aA))))))
theorem ba2:gT ae3 ["rows","columns","seeds"] tI:=by
 rintro Ep xs Q ⟨r,c,x,ls,rfl,hx,hl,e1,e2⟩
 exact⟨_,rfl,_,rfl,_,rfl,_,rfl,_,rfl,_,rfl,r,c,x,ls,rfl,hx,hl,e1,e2⟩
def pC:bE:=fun xs Q=>∃ (k r c:Int) (ls:List (Int × Int)),xs = [.int k,.int r,.int c,.lst (a9 ls)]/\0<=k/\k < 4/\ls.length<=4096/\((¬ bM r c/\Q (.str "board")) ∨ (bM r c/\¬ fB r c ls/\Q (.str "set")))
def ae4:aP:=(aF (b6 4 (qC .non))
 (aF (xV "HearthError" 5 (sA (aT (i7 (a5 0) (qC (.int 0)))) (oU lI (a6 (a5 1) (a6 (a5 2) (a6 (a5 3) aA)))) (sA (aT (i7 (a5 0) (qC (.int 1)))) (oU tH (a6 (a5 1) (a6 (a5 2) (a6 (a5 3) aA)))) (sA (aT (i7 (a5 0) (qC (.int 2)))) (oU tI (a6 (a5 1) (a6 (a5 2) (a6 (a5 3) aA)))) (oU mV (a6 (a5 1) (a6 (a5 2) (a6 (a5 3) aA))))))) (b6 4 (a5 5)))
 yN))
theorem ba3:cT ae4 ["which","rows","columns","cells","caught","e"] pC:=by
 rintro xs Q ⟨k,r,c,ls,rfl,k0,k4,hl,h⟩
 refine⟨trivial,?_⟩
 rcases (show k=0 ∨ k=1 ∨ k=2 ∨ k=3 by omega) with rfl | rfl | rfl | rfl
 ·rcases h with ⟨no,q⟩ | ⟨ok,no,q⟩
  ·exact⟨_,rfl,.inl ⟨_,_,rfl,rfl,_,rfl,aY ⟨_,rfl,_,rfl,_,rfl,r,c,_,ls,rfl,.inr rfl,hl,fun _=>⟨by decide,_,rfl,trivial,sX q⟩,(fun ok _=>absurd ok no),fun ok _=>absurd ok no⟩⟩⟩
  ·exact⟨_,rfl,.inl ⟨_,_,rfl,rfl,_,rfl,aY ⟨_,rfl,_,rfl,_,rfl,r,c,_,ls,rfl,.inr rfl,hl,(fun z=>absurd ok z),fun _ _=>⟨by decide,_,rfl,trivial,sY q⟩,fun _ st=>absurd st no⟩⟩⟩
 ·rcases h with ⟨no,q⟩ | ⟨ok,no,q⟩
  ·exact⟨_,rfl,.inl ⟨_,_,rfl,rfl,_,rfl,aN ⟨_,rfl,.inl ⟨_,_,rfl,rfl,_,rfl,aY ⟨_,rfl,_,rfl,_,rfl,r,c,_,ls,rfl,.inr rfl,hl,fun _=>⟨by decide,_,rfl,trivial,sX q⟩,fun ok=>absurd ok no⟩⟩⟩⟩⟩
  ·exact⟨_,rfl,.inl ⟨_,_,rfl,rfl,_,rfl,aN ⟨_,rfl,.inl ⟨_,_,rfl,rfl,_,rfl,aY ⟨_,rfl,_,rfl,_,rfl,r,c,_,ls,rfl,.inr rfl,hl,(fun z=>absurd ok z),fun _=>⟨no,by decide,_,rfl,trivial,sY q⟩⟩⟩⟩⟩⟩
 ·rcases h with ⟨no,q⟩ | ⟨ok,no,q⟩
  ·exact⟨_,rfl,.inl ⟨_,_,rfl,rfl,_,rfl,aN ⟨_,rfl,.inl ⟨_,_,rfl,rfl,_,rfl,aN ⟨_,rfl,.inl ⟨_,_,rfl,rfl,_,rfl,aY ⟨_,rfl,_,rfl,_,rfl,r,c,_,ls,rfl,.inr rfl,hl,fun _=>⟨by decide,_,rfl,trivial,sX q⟩,fun ok=>absurd ok no⟩⟩⟩⟩⟩⟩⟩
  ·exact⟨_,rfl,.inl ⟨_,_,rfl,rfl,_,rfl,aN ⟨_,rfl,.inl ⟨_,_,rfl,rfl,_,rfl,aN ⟨_,rfl,.inl ⟨_,_,rfl,rfl,_,rfl,aY ⟨_,rfl,_,rfl,_,rfl,r,c,_,ls,rfl,.inr rfl,hl,(fun z=>absurd ok z),fun _=>⟨no,by decide,_,rfl,trivial,sY q⟩⟩⟩⟩⟩⟩⟩⟩
 ·rcases h with ⟨no,q⟩ | ⟨ok,no,q⟩
  ·exact⟨_,rfl,.inl ⟨_,_,rfl,rfl,_,rfl,aN ⟨_,rfl,.inl ⟨_,_,rfl,rfl,_,rfl,aN ⟨_,rfl,.inl ⟨_,_,rfl,rfl,_,rfl,aN ⟨_,rfl,_,rfl,_,rfl,r,c,_,ls,rfl,.inr rfl,hl,fun _=>⟨by decide,_,rfl,trivial,sX q⟩,fun ok=>absurd ok no⟩⟩⟩⟩⟩⟩⟩
  ·exact⟨_,rfl,.inl ⟨_,_,rfl,rfl,_,rfl,aN ⟨_,rfl,.inl ⟨_,_,rfl,rfl,_,rfl,aN ⟨_,rfl,.inl ⟨_,_,rfl,rfl,_,rfl,aN ⟨_,rfl,_,rfl,_,rfl,r,c,_,ls,rfl,.inr rfl,hl,(fun z=>absurd ok z),fun _=>⟨no,by decide,_,rfl,trivial,sY q⟩⟩⟩⟩⟩⟩⟩⟩
def tL:bE:=fun xs Q=>∃ (r c v:Int) (ls:List (Int × Int)),xs = [.tup (a9 ls),.int r,.int c,.int v]/\bM r c/\fB r c ls/\ls.length<=200/\∀ cs,¬ fB r c cs->cs.length<=1000->Q (.lst (a9 cs))
def ae5:aP:=(aF (b6 8 (cB (dW (a5 3) (qC (.int 8))) (aI dS (a6 (a5 4) aA))))
 (aF (bY (fO (aT (iU (cB (a5 3) (qC (.int 8))) (qC (.int 1)))) (aT (i7 (aI dS (a6 (a5 4) aA)) (qC (.int 1))))) (bC (j5 (j5 (iT (a5 4) iR (iS (a5 8))) (eS (a6 (cJ (a5 4) (a5 8)) aA))) (iT (a5 4) (iS (a5 8)) iR))) c8)
 (aF (yP 4 (a5 8) (gN (a5 8) (qC (.int 1))) (cF (a6 (cJ (a5 4) (gN (a5 8) (qC (.int 1)))) (a6 (cJ (a5 4) (a5 8)) aA))))
 (kX 4))))
def ae6:aP:=(aF (dY 4 (aI kY (a6 (a5 0) aA)))
 (aF (b6 5 (cB (dW (a5 3) (qC (.int 8))) (cU (aI dS (a6 (a5 4) aA)) (qC (.int 1)))))
 (aF (b6 6 (cB (dW (a5 3) (qC (.int 1009))) (N0 (qC (.int 10)) (qC (.int 30)))))
 (aF (b6 7 (eS (a6 (cF (a6 (gN (qT (qC (.int 1))) (a5 6)) (a6 (qC (.int 0)) aA))) (a6 (cF (a6 (qC (.int 0)) (a6 (cU (a5 2) (a5 6)) aA))) (a6 (cF (a6 (cU (a5 1) (a5 6)) (a6 (qC (.int 0)) aA))) (a6 (cF (a6 (qC (.int 0)) (a6 (qT (qC (.int 1))) aA))) aA))))))
 (aF (bY (fO (aT (i7 (aI dS (a6 (a5 4) aA)) (qC (.int 0)))) (aT (iU (cB (a5 3) (qC (.int 8))) (qC (.int 3))))) (bC (j5 (j5 (iT (a5 4) iR (iS (a5 5))) (eS (a6 (cJ (a5 7) (cB (dW (a5 3) (qC (.int 331))) (qC (.int 4)))) aA))) (iT (a5 4) (iS (a5 5)) iR))) c8)
 ae5)))))
theorem ae7 {ls:List (Int × Int)}{w:Int} (h:0<=w):i6 (a9 ls) none (some w)=a9 (ls.take w.toNat):=by
 rw [aP7 h]; unfold a9; rw [List.map_take]
theorem ae8 {ls:List (Int × Int)} (w:Nat):i6 (a9 ls) (some (w:Int)) none=a9 (ls.drop w):=by
 unfold i6
 have e1:HT.aX (a9 ls).length 0 (some (w:Int))=min w (a9 ls).length:=HT.ap5 _ 0 w
 have e2:HT.aX (a9 ls).length (a9 ls).length none=(a9 ls).length:=rfl
 rw [e1,e2,bQ,bl8 (by rw [br5,bQ]; omega)]
 by_cases hk:w<=ls.length
 ·rw [Nat.min_eq_left hk]; unfold a9; rw [List.map_drop]
 ·rw [Nat.min_eq_right (by omega),List.drop_of_length_le (by rw [bQ]; exact bh7 _),List.drop_of_length_le (by omega)]; rfl
section
variable {r c v : Int} {ls : List (Int × Int)} {y0 y5 y6 y7 : Option Slot} {Q : PV → Prop}
theorem ba4 (ok:bM r c) (st:fB r c ls) (hl:ls.length<=200) (ne:ls ≠ []) (q:∀ cs,¬ fB r c cs->cs.length<=1000->Q (.lst (a9 cs))) :
  ae5 { nx:=fun _=>Q .non,rt:=Q } [y0,si r,si c,si v,some (.own (.lst (a9 ls))),y5,y6,y7,none]:=by
 have l1:1<=ls.length:=List.length_pos_iff.mpr ne
 refine⟨_,rfl,_,_,rfl,rfl,⟨by decide,by decide⟩,_,rfl,_,_,rfl,rfl,_,_,rfl,rfl,by show (0:Int) < ((a9 ls).length:Int); rw [bQ]; omega,trivial,?_⟩
 rw [bQ]
 dsimp only
 have s0:=bq2 (v / 8) (show (ls.length:Int) ≠ 0 by omega)
 have s1:=br3 (v / 8) (show 0 < (ls.length:Int) by omega)
 generalize v / 8 % (ls.length:Int)=sp at s0 s1
 obtain ⟨s,rfl⟩:∃ s:Nat,sp=s:=⟨sp.toNat,by omega⟩
 have sl:s < ls.length:=by omega
 obtain ⟨p,hp⟩:∃ p,ls[s]? = some p:=⟨_,bh4 sl⟩
 have hpP:L2.atI (a9 ls) (s:Int)=some (.tup [.int p.1,.int p.2]):=pP (by unfold a9; rw [bj5,hp]; rfl)
 have two:(bC (j5 (j5 (iT (a5 4) iR (iS (a5 8))) (eS (a6 (cJ (a5 4) (a5 8)) aA))) (iT (a5 4) (iS (a5 8)) iR))) { nx:=fun _=>Q .non,rt:=Q } [y0,si r,si c,si v,some (.own (.lst (a9 ls))),y5,y6,y7,si (s:Nat)]:=by
  refine⟨_,rfl,_,rfl,(s:Int),rfl,a9 ls,rfl,cD _,?_⟩
  rw [ae7 (by omega)]
  have e1:a9 (ls.take s) ++ [.tup [.int p.1,.int p.2]]=a9 (ls.take s ++ [p]):=by unfold a9; rw [bi9]; rfl
  have t1:(ls.take s).length<=200:=by rw [bo6]; omega
  have t2:(ls.drop s).length<=200:=by rw [br5]; omega
  refine⟨_,rfl,_,rfl,_,_,_,rfl,rfl,hpP,by show 1<=1000; decide,rfl,a9 (ls.take s),[.tup [.int p.1,.int p.2]],rfl,rfl,cD _,rfl,by rw [bQ]; show _+1<=_; omega,?_⟩
  rw [e1]
  refine⟨_,rfl,_,rfl,(s:Int),rfl,a9 ls,rfl,cD _,?_⟩
  rw [ae8]
  refine⟨a9 (ls.take s ++ [p]),a9 (ls.drop s),rfl,rfl,cD _,cD _,by rw [bQ,bQ,bi0,bl3]; omega,trivial,?_⟩
  have e2:a9 (ls.take s ++ [p]) ++ a9 (ls.drop s)=a9 (ls.take s ++ [p] ++ ls.drop s):=by unfold a9; rw [bi9 (l₂:=ls.drop s)]
  rw [e2]
  refine q _ (fun z=>?_) (by rw [bi0,bi0,bl3]; omega)
  have hd:p ∈ ls.drop s:=by
   rw [bt0 sl]
   rw [bh4 sl] at hp
   rw [bk5 hp]; exact bi6
  have:=(bm3.mp z.1).2.2 p (by simp) p hd
  unfold bL at this
  omega
 refine⟨_,rfl,_,_,rfl,rfl,(by show (0:Int) < 8; decide),_,_,rfl,rfl,_,rfl,?_⟩
 show if decide (v % 8 > 1)=true then _ else _
 cases decide (v % 8 > 1) with
 | true=>exact aY (aY two)
 | false=>
  refine aN ⟨_,rfl,_,_,rfl,rfl,.inl ⟨_,_,rfl,rfl,_,rfl,?_⟩⟩
  show if decide (((a9 ls).length:Int)=1)=true then _ else _
  rw [bQ]
  by_cases h1:(ls.length:Int)=1
  ·rw [bh5 h1]; exact aY two
  rw [bh2 h1]
  refine aN ?_
  obtain ⟨t,ht,tl,ne⟩:∃ t:Nat,fJ ls.length ((s:Int) - 1)=some t/\t < ls.length/\t ≠ s:=by
   by_cases z:s=0
   ·refine⟨ls.length - 1,?_,by omega,by omega⟩
    unfold fJ
    rw [if_neg (by omega),if_pos (by omega)]
    congr 1
    omega
   ·refine⟨s - 1,?_,by omega,by omega⟩
    rw [show (s:Int) - 1=((s - 1:Nat):Int) by omega]
    exact Z9 (by omega)
  obtain ⟨w,hw⟩:∃ w,ls[t]? = some w:=⟨_,bh4 tl⟩
  have hwP:L2.atI (a9 ls) ((s:Int) - 1)=some (.tup [.int w.1,.int w.2]):=by
   unfold L2.atI
   rw [bQ,ht]
   show (a9 ls)[t]? = _
   unfold a9; rw [bj5,hw]; rfl
  refine⟨_,rfl,_,rfl,_,_,rfl,rfl,_,_,_,rfl,rfl,hwP,_,rfl,_,rfl,_,_,_,rfl,rfl,hpP,by show 2<=1000; decide,rfl,.tup [.int w.1,.int w.2],.tup [.int p.1,.int p.2],a9 ls,rfl,rfl,rfl,_,rfl,(s:Int),s,rfl,by rw [bQ]; exact Z9 sl,_,rfl,_,_,rfl,rfl,(s:Int) - 1,t,rfl,by rw [bm6,bQ]; exact ht,?_⟩
  have es:((a9 ls).set s (.tup [.int w.1,.int w.2])).set t (.tup [.int p.1,.int p.2])=a9 ((ls.set s w).set t p):=by
   unfold a9
   rw [List.map_set,List.map_set]
  rw [es]
  refine⟨_,rfl,trivial,q _ (fun z=>?_) (by rw [bm6,bm6]; omega)⟩
  have ord:=z.1
  have g1:((ls.set s w).set t p)[t]? = some p:=by rw [bm7 (by rw [bm6]; exact tl)]
  have g2:((ls.set s w).set t p)[s]? = some w:=by rw [bk2 ne,bm7 sl]
  have pw:∀ {l:List (Int × Int)}{i j:Nat}{a b:Int × Int},l.Pairwise bL->l[i]? = some a->l[j]? = some b->i < j->bL a b:=fun {l i j a b} h hi hj ij=>by
   obtain ⟨i1,rfl⟩:=bi3.mp hi
   obtain ⟨j1,rfl⟩:=bi3.mp hj
   exact bn3.mp h i j i1 j1 ij
  rcases Nat.lt_or_gt_of_ne ne with h | h
  ·have a1:=pw ord g1 g2 h
   have a2:=pw st.1 hw hp h
   unfold bL at a1 a2
   omega
  ·have a1:=pw ord g2 g1 h
   have a2:=pw st.1 hp hw h
   unfold bL at a1 a2
   omega
end
theorem ba5:cT ae6 ["seeds","rows","columns","cell","cells","place","far","strays","spot"] tL:=by
 rintro xs Q ⟨r,c,v,ls,rfl,ok,st,hl,q⟩
 obtain ⟨r1,r2,c1,c2⟩:=id ok
 refine⟨_,rfl,_,_,rfl,rfl,cD _,rfl,cD _,?_⟩
 refine⟨_,rfl,_,_,rfl,rfl,⟨by decide,by decide⟩,_,rfl,_,_,rfl,rfl,_,_,rfl,rfl,_,_,rfl,rfl,by show (0:Int) < ((a9 ls).length:Int)+1; omega,trivial,?_⟩
 rw [bQ]
 dsimp only
 have p0:=bq2 (v / 8) (show (ls.length:Int)+1 ≠ 0 by omega)
 have p1:=br3 (v / 8) (show 0 < (ls.length:Int)+1 by omega)
 generalize v / 8 % ((ls.length:Int)+1)=pl at p0 p1
 obtain ⟨s,rfl⟩:∃ s:Nat,pl=s:=⟨pl.toNat,by omega⟩
 refine⟨_,rfl,_,_,rfl,rfl,⟨by decide,by decide⟩,_,_,rfl,rfl,⟨by decide,by decide,by decide⟩,_,_,rfl,rfl,(by show (0:Int) < 10 ^ (30:Int).toNat; decide),trivial,?_⟩
 dsimp only
 have f0:0<=v / 1009 % 10 ^ (30:Int).toNat:=bq2 _ (by decide)
 generalize v / 1009 % 10 ^ (30:Int).toNat=f at f0
 refine⟨1,rfl,_,rfl,_,_,rfl,rfl,by show 2<=1000; decide,rfl,_,rfl,_,rfl,_,_,rfl,rfl,by show 2<=1000; decide,rfl,_,rfl,_,rfl,_,_,rfl,rfl,by show 2<=1000; decide,rfl,1,rfl,by show 2<=1000; decide,rfl,by show 4<=1000; decide,rfl,trivial,?_⟩
 have j0:0<=v / 331 % 4:=bq2 _ (by decide)
 have j1:v / 331 % 4 < 4:=br3 _ (by decide)
 have at4:∃ w:Int × Int,b7 r c w=false/\L2.atI [PV.tup [.int (-1 - f),.int 0],.tup [.int 0,.int (c+f)],.tup [.int (r+f),.int 0],.tup [.int 0,.int (-1)]] (v / 331 % 4)=some (.tup [.int w.1,.int w.2]):=by
  generalize v / 331 % 4=j at j0 j1
  have nb:∀ {w:Int × Int},¬ (0<=w.1/\w.1 < r/\0<=w.2/\w.2 < c)->b7 r c w=false:=fun {w} h=>Bool.eq_false_iff.mpr fun z=>h (eF.mp z)
  rcases (show j=0 ∨ j=1 ∨ j=2 ∨ j=3 by omega) with rfl | rfl | rfl | rfl
  ·exact⟨(-1 - f,0),nb (by dsimp only; omega),rfl⟩
  ·exact⟨(0,c+f),nb (by dsimp only; omega),rfl⟩
  ·exact⟨(r+f,0),nb (by dsimp only; omega),rfl⟩
  ·exact⟨(0,-1),nb (by dsimp only; omega),rfl⟩
 obtain ⟨w,wb,hat⟩:=at4
 have one:(bC (j5 (j5 (iT (a5 4) iR (iS (a5 5))) (eS (a6 (cJ (a5 7) (cB (dW (a5 3) (qC (.int 331))) (qC (.int 4)))) aA))) (iT (a5 4) (iS (a5 5)) iR))) { nx:=fun _=>Q .non,rt:=Q } [some (.sh (flat (.tup (a9 ls))) (.tup (a9 ls))),si r,si c,si v,some (.own (.lst (a9 ls))),si (s:Nat),si f,some (.sh true (.lst [PV.tup [.int (-1 - f),.int 0],.tup [.int 0,.int (c+f)],.tup [.int (r+f),.int 0],.tup [.int 0,.int (-1)]])),none]:=by
  refine⟨_,rfl,_,rfl,(s:Int),rfl,a9 ls,rfl,cD _,?_⟩
  rw [ae7 (by omega)]
  have e1:a9 (ls.take s) ++ [.tup [.int w.1,.int w.2]]=a9 (ls.take s ++ [w]):=by unfold a9; rw [bi9]; rfl
  have t1:(ls.take s).length<=200:=by rw [bo6]; omega
  have t2:(ls.drop s).length<=200:=by rw [br5]; omega
  refine⟨_,rfl,_,rfl,_,_,rfl,rfl,⟨by decide,by decide⟩,_,_,rfl,rfl,(by show (0:Int) < 4; decide),_,_,_,rfl,rfl,hat,by show 1<=1000; decide,rfl,a9 (ls.take s),[.tup [.int w.1,.int w.2]],rfl,rfl,cD _,rfl,by rw [bQ]; show _+1<=_; omega,?_⟩
  rw [e1]
  refine⟨_,rfl,_,rfl,(s:Int),rfl,a9 ls,rfl,cD _,?_⟩
  rw [ae8]
  refine⟨a9 (ls.take s ++ [w]),a9 (ls.drop s),rfl,rfl,cD _,cD _,by rw [bQ,bQ,bi0,bl3]; omega,trivial,?_⟩
  have e2:a9 (ls.take s ++ [w]) ++ a9 (ls.drop s)=a9 (ls.take s ++ [w] ++ ls.drop s):=by unfold a9; rw [bi9 (l₂:=ls.drop s)]
  rw [e2]
  refine q _ (fun z=>?_) (by rw [bi0,bi0,bl3]; omega)
  have:=z.2 w (by simp)
  rw [wb] at this; cases this
 refine⟨_,rfl,_,_,rfl,rfl,.inl ⟨_,_,rfl,rfl,_,rfl,?_⟩⟩
 show if decide (((a9 ls).length:Int)=0)=true then _ else _
 rw [bQ]
 by_cases h0:(ls.length:Int)=0
 ·rw [bh5 h0]; exact aY (aY one)
 ·rw [bh2 h0]
  refine aN ⟨_,rfl,_,_,rfl,rfl,(by show (0:Int) < 8; decide),_,_,rfl,rfl,_,rfl,?_⟩
  show if decide (v % 8 > 3)=true then _ else _
  cases decide (v % 8 > 3) with
  | true=>exact aY one
  | false=>exact aN (ba4 ok st hl (fun z=>h0 (by rw [z]; rfl)) q)
def b8 (c:Int) (x:Int × Int):Int:=x.1 * c+x.2
def mW (c:Int) (y:Int):Int × Int:=(y / c,y % c)
section
variable {r c : Int} {ls : List (Int × Int)} {S : List (Int × Int)}
theorem kO (c1:1<=c) (y:Int):b8 c (mW c y)=y:=by
 unfold b8 mW
 have:=Int.mul_ediv_add_emod y c
 rw [Int.mul_comm] at this
 exact this
theorem tM (ok:bM r c) {y:Int} (h0:0<=y) (h1:y < r * c):b7 r c (mW c y)=true:=by
 obtain ⟨r1,r2,c1,c2⟩:=ok
 exact eF.mpr ⟨Int.ediv_nonneg h0 (by omega),Int.ediv_lt_of_lt_mul (by omega) h1,bq2 _ (by omega),br3 _ (by omega)⟩
theorem yV {a b:Int × Int} (ha:b7 r c a=true) (hb:b7 r c b=true) (h:bL a b):b8 c a < b8 c b:=by
 have i1:=eF.mp ha
 have i2:=eF.mp hb
 unfold b8
 rcases h with h | ⟨h1,h2⟩
 ·have:=br6 (show a.1+1<=b.1 by omega) (show 0<=c by omega)
  rw [Int.add_mul,Int.one_mul] at this
  omega
 ·rw [h1]; omega
theorem tN {a b:Int × Int} (ha:b7 r c a=true) (hb:b7 r c b=true) (h:b8 c a=b8 c b):a=b:=by
 refine Classical.byContradiction fun ne=>?_
 have:bL a b ∨ bL b a:=by
  unfold bL
  rcases Int.lt_trichotomy a.1 b.1 with z | z | z
  ·exact .inl (.inl z)
  ·rcases Int.lt_trichotomy a.2 b.2 with w | w | w
   ·exact .inl (.inr ⟨z,w⟩)
   ·exact absurd (Prod.ext z w) ne
   ·exact .inr (.inr ⟨z.symm,w⟩)
  ·exact .inr (.inl z)
 rcases this with z | z
 ·have:=yV ha hb z; omega
 ·have:=yV hb ha z; omega
theorem mX (ok:bM r c) {a:Int × Int} (ha:b7 r c a=true):0<=b8 c a/\b8 c a < r * c:=by
 have i:=eF.mp ha
 obtain ⟨r1,r2,c1,c2⟩:=ok
 unfold b8
 have h1:=Int.mul_nonneg i.1 (show 0<=c by omega)
 have:=br6 (show a.1+1<=r by omega) (show 0<=c by omega)
 rw [Int.add_mul,Int.one_mul] at this
 omega
theorem lnk (ok:bM r c) {a b:Int × Int} (ha:b7 r c a=true) (hb:b7 r c b=true):(b8 c a,b8 c b) ∈ dI (r * c).toNat c ++ dP (r * c) c ↔ b=(a.1,a.2+1) ∨ b=(a.1+1,a.2):=by
 have ia:=eF.mp ha
 have ib:=eF.mp hb
 have na:=mX ok ha
 obtain ⟨r1,r2,c1,c2⟩:=id ok
 rw [bk4,yL,yM]
 dsimp only
 have em:(b8 c a+1) % c=(a.2+1) % c:=by
  unfold b8
  rw [Int.add_assoc,Int.add_comm,Int.mul_comm,Int.add_mul_emod_self_left]
 have right:a.2+1 < c->b8 c a+1=b8 c (a.1,a.2+1):=fun _=>by unfold b8; dsimp only; omega
 have down:b8 c a+c=b8 c (a.1+1,a.2):=by unfold b8; dsimp only; rw [Int.add_mul,Int.one_mul]; omega
 constructor
 ·rintro (⟨_,_,h2,h3⟩ | ⟨_,h1,h3⟩)
  ·have lt:a.2+1 < c:=by
    rcases Int.lt_or_le (a.2+1) c with z | z
    ·exact z
    ·rw [em,show a.2+1=c by omega,Int.emod_self] at h2; omega
   rw [right lt] at h3
   exact .inl (tN hb (eF.mpr ⟨ia.1,ia.2.1,by show 0<=a.2+1; omega,lt⟩) h3)
  ·rw [down] at h3
   have lt:a.1+1 < r:=by
    rcases Int.lt_or_le (a.1+1) r with z | z
    ·exact z
    ·have e:a.1=r - 1:=by omega
     unfold b8 at h1
     rw [e,Int.sub_mul,Int.one_mul] at h1
     omega
   exact .inr (tN hb (eF.mpr ⟨by show 0<=a.1+1; omega,lt,ia.2.2.1,ia.2.2.2⟩) h3)
 ·rintro (rfl | rfl)
  ·have lt:a.2+1 < c:=ib.2.2.2
   exact .inl ⟨na.1,by omega,by rw [em,Int.emod_eq_of_lt (by omega) lt]; omega,(right lt).symm⟩
  ·have lt:a.1+1 < r:=ib.2.1
   refine .inr ⟨na.1,?_,down.symm⟩
   have:=(mX ok hb).2
   have e:=br6 (show a.1+1+1<=r by omega) (show 0<=c by omega)
   rw [Int.add_mul,Int.one_mul,Int.add_mul,Int.one_mul] at e
   unfold b8
   omega
theorem tO (ok:bM r c) (pl:ls.Perm (dI (r * c).toNat c ++ dP (r * c) c)) {a b:Int × Int} (ha:b7 r c a=true) (hb:b7 r c b=true):b8 c b ∈ bD ls (b8 c a) ↔ b ∈ aV r c a:=by
 have e:b8 c b ∈ bD ls (b8 c a) ↔ (b8 c a,b8 c b) ∈ ls ∨ (b8 c b,b8 c a) ∈ ls:=by
  rw [Core.vJ]
  constructor
  ·rintro ⟨l,hl,⟨h1,h2⟩ | ⟨h1,h2⟩⟩
   ·left; rw [<- h1,<- h2]; exact hl
   ·right; rw [<- h1,<- h2]; exact hl
  ·rintro (h | h)
   ·exact⟨_,h,.inl ⟨rfl,rfl⟩⟩
   ·exact⟨_,h,.inr ⟨rfl,rfl⟩⟩
 rw [e,pl.mem_iff,pl.mem_iff,lnk ok ha hb,lnk ok hb ha]
 unfold aV fC
 rw [bk3]
 simp only [bh9,bi5,bm2,Prod.ext_iff]
 constructor
 ·intro h; exact⟨by omega,hb⟩
 ·rintro ⟨h,_⟩; omega
theorem ae9 (ws:List Int) (ns:List Int):∀ (k:Nat) (x:Int),x ∈ ns->x ∈ bB ws ls ns k
 | 0,_,h=>h
 | k+1,x,h=>bl6 _ (ae9 ws ns k x h)
theorem af0 {r c:Int}{y:Int} (h0:0<=y) (h1:y < r * c):(List.replicate (r * c).toNat (2:Int)).getD y.toNat 0=2:=by
 rw [bj4,List.getElem?_replicate,if_pos (by omega)]; rfl
theorem af1 (ok:bM r c) (pl:ls.Perm (dI (r * c).toNat c ++ dP (r * c) c)) (f:pA ls) (st:∀ l ∈ S,b7 r c l=true):∀ (k:Nat) (y:Int),y ∈ bB (List.replicate (r * c).toNat 2) ls (S.map (b8 c)) k->0<=y/\y < r * c/\gU r c S (mW c y)
 | 0,y,h=>by
  obtain ⟨l,hl,rfl⟩:=bk9.mp h
  have b:=mX ok (st l hl)
  refine⟨b.1,b.2,?_⟩
  have:mW c (b8 c l)=l:=tN (tM ok b.1 b.2) (st l hl) (kO ok.2.2.1 _)
  rw [this]; exact .seed hl
 | k+1,y,h=>by
  have ih:=af1 ok pl f st k
  rcases bk4.mp h with h | h
  ·exact ih y h
  ·obtain ⟨h1,h2⟩:=bk3.mp h
   rw [bs2] at h1
   have yb:=kK.mp h1
   have hp:0<=r * c:=Int.mul_nonneg (by have:=ok.1; omega) (by have:=ok.2.2.1; omega)
   have y1:y < r * c:=by omega
   refine⟨yb.1,y1,?_⟩
   unfold kin at h2
   rw [bm9,bj8,af0 yb.1 y1] at h2
   have t2:2<=ins ls (bB (List.replicate (r * c).toNat 2) ls (S.map (b8 c)) k) y:=by unfold ins; omega
   obtain ⟨a,b,ha,hb,sa,sb,ne⟩:=aX1 (f.nnd y) t2
   have ia:=ih a sa
   have ib:=ih b sb
   have by_:=tM ok yb.1 y1
   have ba:=tM ok ia.1 ia.2.1
   have bb:=tM ok ib.1 ib.2.1
   have c1:=ok.2.2.1
   refine .kin by_ ((tO ok pl by_ ba).mp (by rw [kO c1,kO c1]; exact ha)) ((tO ok pl by_ bb).mp (by rw [kO c1,kO c1]; exact hb)) (fun z=>ne ?_) ia.2.2 ib.2.2
   rw [<- kO c1 a,<- kO c1 b,z]
theorem af2 (ok:bM r c) (pl:ls.Perm (dI (r * c).toNat c ++ dP (r * c) c)) (f:pA ls) (st:∀ l ∈ S,b7 r c l=true) {m:Nat} (en:cQ (List.replicate (r * c).toNat 2) ls (S.map (b8 c)) m) {x:Int × Int} (b:gU r c S x):b7 r c x=true/\b8 c x ∈ bB (List.replicate (r * c).toNat 2) ls (S.map (b8 c)) m:=by
 induction b with
 | seed hs=>exact⟨st _ hs,ae9 _ _ m _ (bk9.mpr ⟨_,hs,rfl⟩)⟩
 | @kin x a b bx sa sb ne _ _ ia ib=>
  refine⟨bx,Classical.byContradiction fun nx=>?_⟩
  have nb:=mX ok bx
  have e:=en.2
  have t2:=aX0 (ls:=ls) (S:=bB (List.replicate (r * c).toNat 2) ls (S.map (b8 c)) m) (h:=b8 c x) ((tO ok pl bx ia.1).mpr sa) ((tO ok pl bx ib.1).mpr sb) ia.2 ib.2 (fun z=>ne (tN ia.1 ib.1 z))
  have hx:b8 c x ∈ nextOf (List.replicate (r * c).toNat 2) ls (bB (List.replicate (r * c).toNat 2) ls (S.map (b8 c)) m):=by
   refine bk3.mpr ⟨?_,?_⟩
   ·rw [bs2]
    exact kK.mpr ⟨nb.1,by omega⟩
   ·unfold kin
    rw [bh2 nx,af0 nb.1 nb.2,bh5 (by unfold ins at t2; omega)]; rfl
  rw [e] at hx
  cases hx
end
def yW:bE:=U9
theorem af3 (K:List (Int × Int)):(dB 3 (.lst (a9 K)) (.lst (a9 K))=true/\bV 3 (.lst (a9 K)) (.lst (a9 K))=true)/\dB 3 (.tup (a9 K)) (.tup (a9 K))=true/\bV 3 (.tup (a9 K)) (.tup (a9 K))=true:=by
 have h1:dB 3 (.lst (tups (K.map two))) (.lst (tups (K.map two)))=true:=yD 1 (K.map two) (K.map two)
 have h2:bV 3 (.lst (tups (K.map two))) (.lst (tups (K.map two)))=decide (K.map two=K.map two):=Y2 1 (K.map two) (K.map two)
 have h3:dB 3 (.tup (tups (K.map two))) (.tup (tups (K.map two)))=true:=yD 1 (K.map two) (K.map two)
 have h4:bV 3 (.tup (tups (K.map two))) (.tup (tups (K.map two)))=decide (K.map two=K.map two):=Y2 1 (K.map two) (K.map two)
 rw [bh5 rfl] at h2 h4
 have ep:tups (K.map two)=a9 K:=(kL K).symm
 rw [ep] at h1 h2 h3 h4
 exact⟨⟨h1,h2⟩,h3,h4⟩
def yX:aP:=(aF (b6 9 (aI jS (a6 (a5 0) (a6 (qC (.int 1)) aA))))
 (aF (b6 10 (aI tL (a6 (a5 3) (a6 (a5 1) (a6 (a5 2) (a6 (a5 9) aA))))))
 (aF (b6 11 (cJ (eS (a6 (cF (a6 (qC (.int 0)) (a6 (a5 2) aA))) (a6 (cF (a6 (a5 1) (a6 (qC (.int 41)) aA))) (a6 (cF (a6 (qT (qC (.int 1))) (a6 (a5 2) aA))) (a6 (cF (a6 (a5 1) (a6 (qC (.int 0)) aA))) (a6 (cF (a6 (cU (qC (.int 41)) (cB (dW (a5 9) (qC (.int 7))) (N0 (qC (.int 10)) (qC (.int 30))))) (a6 (qC (.int 1)) aA))) aA)))))) (cB (a5 9) (qC (.int 5)))))
 (aF (dZ (jG (qC (.int 4))) (cG 12)
  (bY (fO (aT (q2 (sO true) (aI pC (a6 (a5 12) (a6 (a5 1) (a6 (a5 2) (a6 (a5 10) aA))))) (qC (.str "set")))) (aT (q2 (sO true) (aI pC (a6 (a5 12) (a6 (cJ (a5 11) (qC (.int 0))) (a6 (cJ (a5 11) (qC (.int 1))) (a6 (a5 10) aA))))) (qC (.str "board"))))) (bC (qC (.bl false))) c8))
 (bC (qC (.bl true)))))))
def af4:aP:=(aF (bY (aT (fY (jJ (a5 1) (a5 2)) (qC (.int 41)))) (aF (b6 7 (aI fZ (a6 (dU (dM (a5 3)) [none,none,some 2] (iQ 0 1) eU (cU (jJ (a5 0) (a5 2)) (a5 1))) aA)))
  (aF (b6 8 (aI (sI fun _=>False) (a6 (aI (sV fun _=>False) (a6 (a5 1) (a6 (a5 2) aA))) (a6 (a5 7) aA))))
  (bY (aT (q2 (m8 2 true) (a5 8) (aI fZ (a6 (dU (dM (a5 4)) [none,none,some 2] (iQ 0 1) eU (cU (jJ (a5 0) (a5 2)) (a5 1))) aA)))) (bC (qC (.bl false))) c8))) c8)
 yX)
def af5:aP:=(aF (rX (iQ 1 2) (aI tE (a6 (aI jS (a6 (a5 0) (a6 (qC (.int 0)) aA))) aA)))
 (aF (b6 3 (aI tG (a6 (a5 0) (a6 (qC (.int 2)) (a6 (a5 1) (a6 (a5 2) aA))))))
 (aF (b6 4 (aI tD (a6 (a5 1) (a6 (a5 2) (a6 (a5 3) aA)))))
 (aF (b6 5 (aI kY (a6 (a5 3) aA)))
 (aF (b6 6 (aI (lI fun _=>False) (a6 (a5 1) (a6 (a5 2) (a6 (a5 5) aA)))))
 (aF (bY (fO (hZ (aT (aI sW (a6 (a5 6) (a6 (a5 4) aA))))) (fO (aT (q2 (m8 2 true) (a5 5) (aI kY (a6 (a5 3) aA)))) (aT (q2 (m8 2 true) (aI (lI fun _=>False) (a6 (a5 1) (a6 (a5 2) (a6 (a5 3) aA)))) (a5 4))))) (bC (qC (.bl false))) c8)
 af4))))))
section
variable {ns : List Int} {r c : Int} {ls : List (Int × Int)} {Q : PV → Prop} {y4 y5 y6 y7 y8 : Option Slot}
theorem ba6 (ok:bM r c) (st:fB r c ls) (hl:ls.length<=200) (q:Q (.bl true)) :
  yX { nx:=fun _=>Q .non,rt:=Q } [some (.sh true (.scr ns)),si r,si c,some (.sh true (.tup (a9 ls))),y4,y5,y6,y7,y8,none,none,none,none]:=by
 obtain ⟨r1,r2,c1,c2⟩:=id ok
 refine⟨_,rfl,_,ns,1,rfl,.inl rfl,by decide,trivial,?_⟩
 generalize ns.getD (1:Int).toNat 0=v
 refine⟨_,rfl,_,rfl,_,rfl,_,rfl,r,c,v,ls,rfl,ok,st,hl,fun cs no cl=>⟨trivial,?_⟩⟩
 refine⟨_,rfl,by show 2<=1000; decide,rfl,_,rfl,by show 2<=1000; decide,rfl,1,rfl,_,rfl,by show 2<=1000; decide,rfl,_,rfl,by show 2<=1000; decide,rfl,_,rfl,_,_,rfl,rfl,⟨by decide,by decide⟩,_,_,rfl,rfl,⟨by decide,by decide,by decide⟩,_,_,rfl,rfl,(by show (0:Int) < 10 ^ (30:Int).toNat; decide),_,_,rfl,rfl,by show 2<=1000; decide,rfl,by show 5<=1000; decide,rfl,_,rfl,_,_,rfl,rfl,(by show (0:Int) < 5; decide),?_⟩
 dsimp only
 have f0:0<=v / 7 % 10 ^ (30:Int).toNat:=bq2 _ (by decide)
 generalize v / 7 % 10 ^ (30:Int).toNat=f at f0
 have j0:0<=v % 5:=bq2 _ (by decide)
 have j1:v % 5 < 5:=br3 _ (by decide)
 have at5:∃ a b:Int,¬ bM a b/\L2.atI [PV.tup [.int 0,.int c],.tup [.int r,.int 41],.tup [.int (-1),.int c],.tup [.int r,.int 0],.tup [.int (41+f),.int 1]] (v % 5)=some (.tup [.int a,.int b]):=by
  generalize v % 5=j at j0 j1
  rcases (show j=0 ∨ j=1 ∨ j=2 ∨ j=3 ∨ j=4 by omega) with rfl | rfl | rfl | rfl | rfl
  ·exact⟨0,c,by unfold bM; omega,rfl⟩
  ·exact⟨r,41,by unfold bM; omega,rfl⟩
  ·exact⟨-1,c,by unfold bM; omega,rfl⟩
  ·exact⟨r,0,by unfold bM; omega,rfl⟩
  ·exact⟨41+f,1,by unfold bM; omega,rfl⟩
 obtain ⟨a,b,nb,hat⟩:=at5
 refine⟨_,_,_,rfl,rfl,hat,trivial,?_⟩
 refine⟨4,rfl,by decide,by decide,fun i ρ=>∃ y12:Option Slot,ρ = [some (.sh true (.scr ns)),si r,si c,some (.sh true (.tup (a9 ls))),y4,y5,y6,y7,y8,si v,some (.sh true (.lst (a9 cs))),some (.sh true (.tup [.int a,.int b])),y12],⟨none,rfl⟩,?_,?_⟩
 ·rintro i y ρ hy ⟨y12,rfl⟩
  obtain ⟨rfl,hi⟩:=oJ hy
  rw [show (0:Int)+(i:Int)=(i:Int) by omega]
  refine⟨_,rfl,_,rfl,_,rfl,_,rfl,(i:Int),r,c,cs,rfl,by omega,by omega,by omega,.inr ⟨ok,no,?_⟩⟩
  refine⟨_,_,rfl,rfl,_,rfl,aN ?_⟩
  refine⟨_,rfl,_,rfl,_,_,_,rfl,rfl,rfl,_,rfl,_,_,_,rfl,rfl,rfl,_,rfl,(i:Int),a,b,cs,rfl,by omega,by omega,by omega,.inl ⟨nb,?_⟩⟩
  exact⟨_,_,rfl,rfl,_,rfl,aN ⟨_,rfl⟩⟩
 ·rintro ρ ⟨y12,rfl⟩
  exact⟨trivial,q⟩
theorem af6 (K:List (Int × Int)) (ord:K.Pairwise bL) (bd:∀ l ∈ K,b7 r c l=true):(K.map (b8 c)).Pairwise (· < ·):=bs1.mpr (ord.imp_of_mem fun {a b} ha hb h=>yV (bd a ha) (bd b hb) h)
theorem ba7 (ok:bM r c) (st:fB r c ls) (hl:ls.length<=200) {K:List (Int × Int)} (ord:K.Pairwise bL) (mem:∀ y,y ∈ K ↔ gU r c ls y) (kl:K.length<=1600) (q:Q (.bl true)) :
  af4 { nx:=fun _=>Q .non,rt:=Q } [some (.sh true (.scr ns)),si r,si c,some (.sh true (.tup (a9 ls))),some (.sh true (.tup (a9 K))),y5,y6,none,none,none,none,none,none]:=by
 obtain ⟨r1,r2,c1,c2⟩:=id ok
 have hp:1<=r * c:=by
  have:=Int.mul_le_mul (show (1:Int)<=r by omega) c1 (by decide) (by omega)
  omega
 have fin:∀ y7 y8:Option Slot,yX { nx:=fun _=>Q .non,rt:=Q } [some (.sh true (.scr ns)),si r,si c,some (.sh true (.tup (a9 ls))),some (.sh true (.tup (a9 K))),y5,y6,y7,y8,none,none,none,none]:=fun y7 y8=>ba6 ok st hl q
 refine⟨_,rfl,_,rfl,_,_,rfl,rfl,.inl ⟨by omega,by omega⟩,_,_,rfl,rfl,_,rfl,?_⟩
 show if decide (r * c < 41)=true then _ else _
 by_cases h:r * c < 41
 ·rw [bh5 h]
  have bdK:∀ G:List (Int × Int),(∀ l ∈ G,b7 r c l=true)->∀ l ∈ G,0<=b8 c l/\b8 c l < 41:=fun G hG l hl=>by have:=mX ok (hG l hl); omega
  refine aY ⟨_,rfl,a9 ls,rfl,(fun z=>by cases z),by rw [bQ]; omega,fun i acc=>acc=intz ((ls.take i).map (b8 c)),rfl,?_,?_⟩
  ·rintro i z acc hz rfl
   obtain ⟨l,rfl,hl2⟩:=j4 hz
   have ib:=eF.mp (st.2 l (bn6 hl2))
   have tk:ls.take (i+1)=ls.take i ++ [l]:=by rw [bl5,hl2]; rfl
   refine⟨_,_,rfl,_,rfl,_,rfl,_,_,rfl,rfl,.inl ⟨by omega,by omega⟩,_,rfl,_,_,rfl,rfl,trivial,?_⟩
   dsimp only
   rw [tk,bi9,rP]; rfl
  rintro acc rfl
  rw [bQ,bm1]
  refine⟨⟨_,_,rfl,rfl,iL _,trivial,?_⟩,fun ns z=>by cases z⟩
  refine⟨_,rfl,_,rfl,r,c,rfl,(fun z=>by rcases z with z | z; exact z ok; omega),fun _ _ lks pp w=>?_⟩
  have up:=af6 ls st.1 st.2
  have hs:eO (List.replicate (r * c).toNat (2:Int)).length (ls.map (b8 c))=true:=aS6 up fun x hx=>by
   obtain ⟨l,hl,rfl⟩:=bk9.mp hx
   have:=mX ok (st.2 l hl)
   rw [bs2]; omega
  refine⟨_,rfl,List.replicate (r * c).toNat 2,lks,_,ls.map (b8 c),rfl,w.wb (by omega),.inl rfl,by rw [bh8]; omega,fun _ ms m en pm so=>⟨trivial,?_⟩,fun z=>by rw [hs] at z; cases z⟩
  have f:pA lks:=⟨fun l hl=>(w.inn l hl).2.1,w.ord⟩
  have bK:∀ l ∈ K,b7 r c l=true:=fun l hl=>(af2 ok pp f st.2 en ((mem l).mp hl)).1
  have upK:=af6 K ord bK
  have em:ms=K.map (b8 c):=by
   refine aW1 ?_ so (upK.imp fun h=>Int.le_of_lt h)
   refine pm.trans ((List.perm_ext_iff_of_nodup (xR hs m) (upK.imp fun h=>Int.ne_of_lt h)).mpr fun y=>?_)
   constructor
   ·intro hy
    obtain ⟨y0,y1,by_⟩:=af1 ok pp f st.2 m y hy
    exact bk9.mpr ⟨mW c y,(mem _).mpr by_,kO c1 y⟩
   ·intro hy
    obtain ⟨l,hl,rfl⟩:=bk9.mp hy
    exact (af2 ok pp f st.2 en ((mem l).mp hl)).2
  subst em
  refine⟨_,rfl,_,rfl,a9 K,rfl,(fun z=>by cases z),by rw [bQ]; omega,fun i acc=>acc=intz ((K.take i).map (b8 c)),rfl,?_,?_⟩
  ·rintro i z acc hz rfl
   obtain ⟨l,rfl,hl2⟩:=j4 hz
   have ib:=eF.mp (bK l (bn6 hl2))
   have tk:K.take (i+1)=K.take i ++ [l]:=by rw [bl5,hl2]; rfl
   refine⟨_,_,rfl,_,rfl,_,rfl,_,_,rfl,rfl,.inl ⟨by omega,by omega⟩,_,rfl,_,_,rfl,rfl,trivial,?_⟩
   dsimp only
   rw [tk,bi9,rP]; rfl
  rintro acc rfl
  rw [bQ,bm1]
  refine⟨⟨_,_,rfl,rfl,iL _,.inl ⟨_,_,rfl,rfl⟩,qS 2 _ _,_,rfl,?_⟩,fun ns z=>by cases z⟩
  show if (!bV 3 (.tup (intz (K.map (b8 c)))) (.tup (intz (K.map (b8 c)))))=true then _ else _
  rw [qR,bh5 rfl]
  exact aN (fin _ _)
 ·rw [bh2 h]
  exact aN (fin _ _)
end
theorem ba8:cT af5 ["script","rows","columns","seeds","due","handed","found","hearths","told","cell","odd","wrong","which"] yW:=by
 rintro xs Q ⟨ns,rfl,hl,q⟩
 refine⟨_,rfl,_,ns,0,rfl,.inl rfl,by decide,_,rfl,fun r c ok=>⟨trivial,_,_,rfl,?_⟩⟩
 refine⟨_,rfl,_,rfl,_,rfl,ns,2,r,c,rfl,hl,by decide,by decide,ok,fun ls st ll=>⟨trivial,?_⟩⟩
 refine⟨_,rfl,_,rfl,_,rfl,r,c,ls,rfl,ok,st,fun K ord mem kl=>⟨trivial,?_⟩⟩
 refine⟨_,rfl,_,_,rfl,rfl,cD _,trivial,?_⟩
 refine⟨_,rfl,_,rfl,_,rfl,r,c,_,ls,rfl,.inr rfl,by omega,(fun z=>absurd ok z),(fun _ z=>absurd st z),fun _ _ K2 ord2 mem2 kl2=>⟨trivial,?_⟩⟩
 have e2:∀ K2:List (Int × Int),K2.Pairwise bL->(∀ y,y ∈ K2 ↔ gU r c ls y)->K2=K:=fun K2 o m=>aW0 ((List.perm_ext_iff_of_nodup (sS o) (sS ord)).mpr fun y=>(m y).trans (mem y).symm) o ord
 obtain rfl:=e2 K2 ord2 mem2
 refine⟨_,rfl,_,rfl,K2,_,rfl,.inl rfl,by omega,_,rfl,aN ?_⟩
 obtain ⟨⟨p1,p2⟩,p3,p4⟩:=af3 ls
 obtain ⟨_,p5,p6⟩:=af3 K2
 refine⟨_,rfl,_,rfl,_,_,rfl,rfl,cD _,.inr ⟨_,_,rfl,rfl⟩,p1,_,rfl,?_⟩
 show if (!bV 3 (.lst (a9 ls)) (.lst (a9 ls)))=true then _ else _
 rw [p2]
 refine aN ⟨_,rfl,_,rfl,_,rfl,r,c,_,ls,rfl,.inl rfl,by omega,(fun z=>absurd ok z),(fun _ z=>absurd st z),fun _ _ K3 ord3 mem3 kl3=>?_⟩
 obtain rfl:=e2 K3 ord3 mem3
 refine⟨_,rfl,.inl ⟨_,_,rfl,rfl⟩,p5,_,rfl,?_⟩
 show if (!bV 3 (.tup (a9 K3)) (.tup (a9 K3)))=true then _ else _
 rw [p6]
 exact aN (ba7 ok st ll ord mem kl q)
end Core
namespace K_k59
open PySem PySem.W L2 PP Core
theorem _root_.L2.FnScope.au {N P:List Str}{s:Scope} (a:s.kind=.function:=by rfl) (b:s.isCoroutine=false:=by rfl) (c:s.isGenerator=false:=by rfl) (d:N.Nodup:=by decide +kernel) (e:N.take P.length=P:=by rfl) (f:∀ x∈P,s.names.lookup x=some .local∨s.names.lookup x=some .cell:=by decide +kernel) (g:∀ y∈s.names,y.2≠.free:=by decide +kernel):FnScope N P s:=⟨a,b,c,d,e,f,g⟩
def aZ (i:Nat):Stmt:=PySem.Challenge.pw_kindleweb_k59_what_burns_on_boards.main.body.getD i (.Pass ⟨0,0,0,0⟩)
structure FK (K:Frag) (n:Str) (i:Nat) (f:Addr) (d:FuncData):Prop where
 a:nsIn K mainGlobals n=some (some (.ref f))
 F:fL K n n (aZ i) f d
structure FM (K:Frag) (mg:Str->Option Value) (n:Str) (i:Nat) (f:Addr) (d:FuncData):Prop where
 F:fL K n n (aZ i) f d
 m:mg n=some (.ref f)
theorem FK.M {K:Frag}{mg:Str->Option Value}{n:Str}{i:Nat}{f:Addr}{d:FuncData}{h:Heap} (z:FK K n i f d) (X:K.In h) (G:h.Ns mainGlobals mg):FM K mg n i f d:=⟨z.F,mg_of X G z.a⟩
abbrev Hb (x:Str) (ps:List Str) (i:Nat):Prop:=∀ (kV doc pm:Value) (an:Option Addr) (cdv ct:Value) (us:List Value),us.length=ps.length->bindArgs (fnOf x x (jC (aZ i)) (eR (aZ i)) (aU (aZ i)) .none kV doc pm an cdv ct) ⟨us,[]⟩=pure (ps.zip us)
theorem yY {A:Around}{k:Nat} (hr:cE k A):A.units+3 < cLine:=by have:=hr.units; omega
section
variable {P : Program} {w : World} {K : Frag} {mg : Str → Option Value} {base : Heap} {f : Addr} {fd : FuncData} {k i : Nat} {x : Str} {ps N : List Str}
theorem Df.au {p:bE} (F:FM K mg x i f fd) (S:FnScope N ps (aU (aZ i))) (body:∀ (cdv:Value) (A:Around) (outer:List Env) (s:Shared) (H:Hp) (E:XK),cE k (A.deeper (PyProof.Rows.envOfC x (aU (aZ i)) s.heap.objs.size f cdv))->∃ t,eW (dG eJ P w K mg base N x (aU (aZ i)) f cdv A outer s H E).nox (eR (aZ i)) t/\∀ xs Q,p xs Q->t { nx:=fun _=>Q .non,rt:=Q } (eV N xs)) (hb:Hb x ps i:=by intro _ _ _ _ _ _ us hl; first | (obtain ⟨_,rfl⟩:=sF hl; rfl) | (obtain ⟨_,_,rfl⟩:=xZ hl; rfl) | (obtain ⟨_,_,_,rfl⟩:=y9 hl; rfl) | (obtain ⟨_,_,_,_,rfl⟩:=X7 hl; rfl) | (obtain ⟨_,_,_,_,_,rfl⟩:=us5 hl; rfl)) (len:∀ xs Q,p xs Q->xs.length=ps.length:=by intro xs Q h; repeat (first | (obtain ⟨rfl,_⟩:=h; rfl) | (obtain ⟨_,h⟩:=h))):Df P w K mg base (k+1) x ps p:=
 Df.of F.F F.m S hb len body
theorem b9.au {p:cW} (F:FM K mg x i f fd) (S:FnScope N ps (aU (aZ i))) (t:(Str->Prop)->aP) (rd:∀ Ep xs Q,p Ep xs Q->t Ep { nx:=fun _=>Q .non,rt:=Q } (eV N xs)) (body:∀ (cdv:Value) (A:Around) (outer:List Env) (s:Shared) (H:Hp) (E:XK) (Ep:Str->Prop),cE k (A.deeper (PyProof.Rows.envOfC x (aU (aZ i)) s.heap.objs.size f cdv))->mH (dG (eB P w) P w K mg base N x (aU (aZ i)) f cdv A outer s H E) (EX K H Ep)->eW (dG (eB P w) P w K mg base N x (aU (aZ i)) f cdv A outer s H E) (eR (aZ i)) (t Ep)) (hb:Hb x ps i:=by intro _ _ _ _ _ _ us hl; first | (obtain ⟨_,rfl⟩:=sF hl; rfl) | (obtain ⟨_,_,rfl⟩:=xZ hl; rfl) | (obtain ⟨_,_,_,rfl⟩:=y9 hl; rfl) | (obtain ⟨_,_,_,_,rfl⟩:=X7 hl; rfl) | (obtain ⟨_,_,_,_,_,rfl⟩:=us5 hl; rfl)) (len:∀ Ep xs Q,p Ep xs Q->xs.length=ps.length:=by intro Ep xs Q h; repeat (first | (obtain ⟨rfl,_⟩:=h; rfl) | (obtain ⟨_,h⟩:=h))):b9 P w K mg base (k+1) x ps p:=
 b9.of F.F F.m S hb t len rd body
end
section
variable {P : Program} {w : World} {K : Frag} {mg : Str → Option Value} {base : Heap} {f : Addr} {fd : FuncData}
abbrev af7:Stmt:=aZ 13
theorem tP:FnScope ["web","around","one","other"] ["web"] (aU af7):=.au
theorem ba9 (F:fL K "near_lists" "near_lists" af7 f fd):dE P w K mg base eJ 1 f fd ["web"] U5:=by
 refine F.ok tP (fun vs H Q E h=>?_) (fun cdv A outer s H vs Q E hr h=>?_)
 ·obtain ⟨v,ws,ls,rfl,_⟩:=h
  rfl
 obtain ⟨v,ws,ls,rfl,W,hn,hm,hin,q⟩:=h
 refine⟨_,pE (av8 (i:=1) (N:=["want"]) (fr:=[none]) rfl (dJ.of rfl rfl) (zP (nJ uL (pv 0) tU (fun _ _=>rfl)))
   ⟨fun _ _ _ _=>gW (i:=0) (bl7 _ _) rfl (Or.inl rfl) (.inr rfl),fun _ _ _ _=>G3,fun _ _ _ _=>A7 iI⟩ tP.nd rfl rfl rfl)
  (pE (zS PassesOwn.never rfl (zP (nJ uL (pv 0) tU (fun _ _=>rfl))) (nC (n:=2) rfl (iG (gW (i:=2) tP.nd rfl (Or.inl rfl) (.inr rfl)) (iG (gW (i:=3) tP.nd rfl (Or.inl rfl) (.inr rfl)) nB)) )
   (pE (nA (uM PySem.F.plainAttrs_list PySem.F.slot_list_append PySem.F.type_list_append pQ (nJ uK (pv 1) (pv 2) (fun _ _=>rfl)) (gH (pv 3) iI)))
   (tV (nA (uM PySem.F.plainAttrs_list PySem.F.slot_list_append PySem.F.type_list_append pQ (nJ uK (pv 1) (pv 3) (fun _ _=>rfl)) (gH (pv 2) iI))))))
  (tV (tX (pv 1)))),?_⟩
 obtain ⟨a,p,q',ys,rfl,ha,hp,hq,hL⟩:=W.at_
 have lw:(ws.map V.int).length=ws.length:=bh8 _
 refine⟨_,rfl,a,_,_,_,rfl,rfl,aO.of ha,rfl,p,rfl,⟨_,aO.of hp⟩,aw0 (av9 (aO.of hp)) (fun i acc H'=>∃ bs:List Addr,acc=bs.map V.ref/\bs.length=i/\bs.Nodup/\∀ b ∈ bs,H b=none/\H' b=some (.lst [])) (by rw [lw]; exact bp9 (uX hn))
  (fun D hD=>⟨[],rfl,rfl,List.nodup_nil,fun _ z=>nomatch z⟩) (fun i x acc D H' hx c hPv=>?_) (fun D acc H' hD sm hDa hlen hPv=>?_)⟩
 ·obtain ⟨bs,rfl,hbl,nd,hb⟩:=hPv
  refine⟨wk0 (n:=none),aw8 ⟨bn5 _,fun r hr'=>?_⟩⟩
  have hrD:r ≠ D:=fun z=>by rw [z,c.acc] at hr'; cases hr'
  have hrH:H r=none:=c.same.free hr'
  refine c.yes (bU hr' _) ⟨bs ++ [r],by simp,by simp [hbl],?_,fun b hm=>?_⟩
  ·refine bo8.mpr ⟨nd,bl7 _ _,fun b hb1 b' hb2 e=>?_⟩
   rw [bi1.mp hb2] at e
   rw [e] at hb1
   rw [(hb r hb1).2] at hr'; cases hr'
  ·rcases bk4.mp hm with hm | hm
   ·have hbD:b ≠ D:=fun z=>by
     rw [z] at hm
     have:=(hb D hm).2
     rw [c.acc] at this
     have:bs.map V.ref = []:=by injection this with e1; injection e1
     have:bs = []:=List.map_eq_nil_iff.mp this
     rw [this] at hm; simp at hm
    refine⟨(hb b hm).1,?_⟩
    rw [aW hbD,aW (cY (hb b hm).2 hr')]
    exact (hb b hm).2
   ·rw [bi1.mp hm]
    exact⟨hrH,by rw [aW hrD,bO]⟩
 ·obtain ⟨bs,rfl,hbl,nd,hb⟩:=hPv
  rw [lw] at hbl
  have R0:jE H H' D bs (fun k=>bD (ls.take 0) k):=by
   refine⟨hD,fun b hm=>⟨(hb b hm).1,fun z=>?_⟩,nd,hDa,fun k b hk=>(hb b (bn6 hk)).2,sm⟩
   rw [z] at hm
   have:=(hb D hm).2
   rw [hDa] at this
   have:bs.map V.ref = []:=by injection this with e1; injection e1
   have:bs = []:=List.map_eq_nil_iff.mp this
   rw [this] at hm; simp at hm
  have lL:=hL.length
  refine⟨_,rfl,a,_,_,_,rfl,rfl,aO.of (sm _ _ ha),rfl,q',rfl,⟨_,aO.of (sm _ _ hq)⟩,al6 (K:=K) (a:=q') (xs:=ys) (fun i σ H2=>∃ x y:Option V,σ = [some (.ref a),some (.ref D),x,y]/\jE H H2 D bs (fun k=>bD (ls.take i) k))
   ⟨none,none,rfl,R0⟩ (fun i σ H2 _ ⟨_,_,_,R⟩=>aO.of (R.same _ _ hq)) ?_ ?_⟩
  ·rintro i y σ H2 hi ⟨x1,x2,rfl,R⟩
   obtain ⟨l,b,hl,rfl,hbt⟩:=hL.get hi
   have hlm:l ∈ ls:=bn6 hl
   obtain ⟨⟨h1,h2⟩,h3,h4⟩:=hin l hlm
   have k1:l.1.toNat < bs.length:=by omega
   have k2:l.2.toNat < bs.length:=by omega
   have e1:bs[l.1.toNat]? = some (bs[l.1.toNat]):=bh4 k1
   have e2:bs[l.2.toNat]? = some (bs[l.2.toNat]):=bh4 k2
   refine⟨b,_,rfl,aO.of (R.same _ _ hbt),rfl,_,_,rfl,_,_,rfl,rfl,?_⟩
   refine⟨_,rfl,_,rfl,D,_,_,.ref bs[l.1.toNat],rfl,rfl,aR.of R.row,pY h1 (by rw [bj5,e1]; rfl),pZ (aR.of (R.rows _ _ e1)),_,rfl,_,_,_,rfl,rfl,R.rows _ _ e1,?_,?_⟩
   ·rw [bh8]
    have:=vH (ls.take i) (l.1.toNat:Nat)
    rw [bo6] at this
    exact kA (by omega)
   ·have R1:=R.app e1 l.2
    refine⟨_,rfl,_,rfl,D,_,_,.ref bs[l.2.toNat],rfl,rfl,aR.of R1.row,pY h3 (by rw [bj5,e2]; rfl),pZ (aR.of (R1.rows _ _ e2)),_,rfl,_,_,_,rfl,rfl,R1.rows _ _ e2,?_,?_⟩
    ·rw [bh8]
     have:=vH (ls.take i) (l.2.toNat:Nat)
     rw [bo6] at this
     split
     ·rw [bi0,bl3]; exact kA (by omega)
     ·exact kA (by omega)
    ·have R2:=R1.app e2 l.1
     refine⟨_,_,rfl,R2.congr fun k hk=>?_⟩
     rw [aw7 hl]
     have c1:(k=l.1.toNat) ↔ l.1=(k:Int):=by omega
     have c2:(k=l.2.toNat) ↔ l.2=(k:Int):=by omega
     by_cases d1:k=l.1.toNat
     ·by_cases d2:k=l.2.toNat
      ·rw [if_pos d2,if_pos d1,if_pos (c1.mp d1),if_pos (c2.mp d2)]; simp
      ·rw [if_neg d2,if_pos d1,if_pos (c1.mp d1),if_neg (fun z=>d2 (c2.mpr z))]; simp
     ·by_cases d2:k=l.2.toNat
      ·rw [if_pos d2,if_neg d1,if_neg (fun z=>d1 (c1.mpr z)),if_pos (c2.mp d2)]; simp
      ·rw [if_neg d2,if_neg d1,if_neg (fun z=>d1 (c1.mpr z)),if_neg (fun z=>d2 (c2.mpr z))]; simp
  ·
   rintro σ H2 ⟨x1,x2,rfl,R⟩
   refine⟨_,rfl,q D bs H2 hbl ?_⟩
   rw [lL,bm1] at R
   exact R
theorem af8:FnScope ["many","link","one","other"] ["many","link"] (aU (aZ 10)):=.au
theorem bb0 (B:Bt mg) (F:FM K mg "lesser_first" 10 f fd)  : Df P w K mg base 1 "lesser_first" ["many","link"] sR:=
 Df.au F af8 (fun cdv A outer s H E hr=>by
  have nd:=af8.nd
  exact⟨(aa8),(aH (bA (i:=2) nd (aU7 B rfl (a7 (qv 1) aB)))
   (aH (bA (i:=3) nd (aU6 B rfl (a7 (qv 1) aB)))
   (aH (cL (eY (gO (jN (qv 2) aD) (iB (aD5 (qv 3) (qv 0))))) (aQ e8) cN)
   (aH (cL (i9 (qv 2) (qv 3)) (aQ e8) cN)
   (aQ (bI (cS (a7 (qv 2) (a7 (qv 3) aB))))))))),aV8⟩)
theorem bb1:FnScope ["things"] ["things"] (aU (aZ 11)):=.au
theorem U6 (B:Bt mg) (F:FM K mg "rises" 11 f fd)  : Df P w K mg base 1 "rises" ["things"] p9:=
 Df.au F bb1 (fun cdv A outer s H E hr=>by
  have hu:=k7 hr
  exact⟨(ab0),(aQ (bI (wG B rfl (a7 (xQ (N:=["ahead","behind"]) (fr:=[none,none]) (aV4 B (qv 0) (o9 (qv 0) (o8 aD) o7)) (fun _ _ _ _=>(aV0 hu (qv 0) (qv 1)))) aB)))),aW2⟩)
theorem bb2:FnScope ["web"] ["web"] (aU (aZ 12)):=.au
theorem bb3 (B:Bt mg) (F:FM K mg "hearths_in" 12 f fd)  : Df P w K mg base 1 "hearths_in" ["web"] mJ:=
 Df.au F bb2 (fun cdv A outer s H E hr=>by
  exact⟨(S9),(aQ (bI (fA B (a7 (cO (qv 0) aD) aB)))),aK0⟩)
theorem tQ:FnScope ["hearths","inside","hearth"] ["hearths"] (aU (aZ 17)):=.au
theorem bb4 (B:Bt mg) (F:FM K mg "marked" 17 f fd)  : Df P w K mg base 1 "marked" ["hearths"] oO:=
 Df.au F tQ (fun cdv A outer s H E hr=>by
  have nd:=tQ.nd
  have hu:=k7 hr
  exact⟨(T6),(aH (eZ (i:=1) nd N8)
   (aH (gA 2 nd (eN (qv 0))
    (aQ (O0 hu (i:=1) (qv 2) g9)))
   (aQ (o0 1)))),aK6⟩)
theorem bb5 (B:Bt mg) (F:FM K mg "marked" 17 f fd):Df P w K mg base 1 "marked" ["hearths"] t8:=
 Df.au F tQ (fun cdv A outer s H E hr=>by
  have nd:=tQ.nd
  have hu:=k7 hr
  exact⟨ac9,(aH (eZ (i:=1) nd qW)
   (aH (gA 2 nd (eN (qv 0))
    (aQ (mB hu (i:=1) (qv 2) g9)))
   (aQ (o0 1)))),aY7⟩)
theorem bb6:FnScope ["hearths","inside"] ["hearths","inside"] (aU (aZ 18)):=.au
theorem bb7 (B:Bt mg) (F:FM K mg "count_inside" 18 f fd)  : Df P w K mg base 1 "count_inside" ["hearths","inside"] rS:=
 Df.au F bb6 (fun cdv A outer s H E hr=>by
  have hu:=k7 hr
  exact⟨(T7),(aQ (bI (fA B (a7 (qZ (N:=["hearth","inside"]) (fr:=[none,some 1]) (eN (qv 0)) (fun _ _ _ _=>(aD8 hu (qv 0) (qv 1))) (fun _ _ _ _=>(qv 0))) aB)))),aK7⟩)
theorem bb8:FnScope ["rows","columns"] ["rows","columns"] (aU (aZ 22)):=.au
theorem bb9 (B:Bt mg) (F:FM K mg "looked_through" 22 f fd) (x_BadBoard:Xc K mg base "BadBoard") {u_MOST_ROWS:Nat} (m_MOST_ROWS:mg "MOST_ROWS" = some (.int 40 u_MOST_ROWS)):b9 P w K mg base 1 "looked_through" ["rows","columns"] mS:=
 b9.au F bb8 ab2 aW3 (fun cdv A outer s H E Ep hr hX=>by
  exact (aQ (cL (eY (gO (jN (aE2 B rfl (a7 (qv 0) (a7 (qv 1) aB))) aD) (iB (jO (O3 B rfl (a7 (qv 0) (a7 (qv 1) aB))) (mM rfl m_MOST_ROWS))))) (aQ (rZ hX x_BadBoard (a7 jK aB))) cN)))
theorem bc0:FnScope ["rows","columns","cell"] ["rows","columns","cell"] (aU (aZ 24)):=.au
theorem bc1 (B:Bt mg) (F:FM K mg "is_cell" 24 f fd)  : Df P w K mg base 1 "is_cell" ["rows","columns","cell"] mT:=
 Df.au F bc0 (fun cdv A outer s H E hr=>by
  exact⟨(ab3),(aQ (bI (l8 (qV (cO (qv 2) aD) aD) (l8 (wD (cO (qv 2) aD) (qv 0)) (l8 (qV (cO (qv 2) aD) aD) (nZ (wD (cO (qv 2) aD) (qv 1)))))))),aW4⟩)
theorem bc2:FnScope ["cells"] ["cells"] (aU (aZ 34)):=.au
theorem bc3 (B:Bt mg) (F:FM K mg "cell_boxes" 34 f fd)  : Df P w K mg base 1 "cell_boxes" ["cells"] tK:=
 Df.au F bc2 (fun cdv A outer s H E hr=>by
  exact⟨(ad9),(aQ e8),aZ8⟩)
theorem bc4:FnScope ["rows","columns","seeds","steps","there","step","boxes","turn","box"] ["rows","columns","seeds","steps"] (aU (aZ 38)):=.au
theorem bc5 (B:Bt mg) (F:FM K mg "judged_growth" 38 f fd)  : b9 P w K mg base 1 "judged_growth" ["rows","columns","seeds","steps"] tJ:=
 b9.au F bc4 ae2 ba1 (fun cdv A outer s H E Ep hr hX=>by
  exact (aH e8
   (aH e8
   (aH e8
   (aH e8
   (aQ e8))))))
theorem bc6:FnScope ["script","k"] ["script","k"] (aU (aZ 47)):=.au
theorem bc7 (B:Bt mg) (F:FM K mg "_law_cell" 47 f fd)  : Df P w K mg base 1 "_law_cell" ["script","k"] jS:=
 Df.au F bc6 (fun cdv A outer s H E hr=>by
  exact⟨(U1),(aH (cL (jN (qv 1) (fA B (a7 (qv 0) aB))) (aQ (bI (cO (qv 0) (qv 1)))) cN)
   (aQ (bI aD))),aL4⟩)
theorem bc8:FnScope ["found"] ["found"] (aU (aZ 49)):=.au
theorem bc9 (B:Bt mg) (F:FM K mg "_law_whole" 49 f fd)  : Df P w K mg base 1 "_law_whole" ["found"] rV:=
 Df.au F bc8 (fun cdv A outer s H E hr=>by
  exact⟨(U2 K),(aQ (bI (l8 (aE5 B (qv 0)) (nZ (aE0 (aE6 B (qv 0))))))),aL5 (xK K).ii (xK K).ib⟩)
theorem af9:FnScope ["cell","rows","columns"] ["cell"] (aU (aZ 51)):=.au
theorem bd0 (B:Bt mg) (F:FM K mg "_law_lines" 51 f fd)  : Df P w K mg base 1 "_law_lines" ["cell"] tE:=
 Df.au F af9 (fun cdv A outer s H E hr=>by
  have nd:=af9.nd
  exact⟨(ad5),(aH (bA (i:=1) nd (cV aD (cK (qv 0) aD)))
   (aH (bA (i:=2) nd (cV aD (cK (eM (qv 0) aD) aD)))
   (aH (cL (i9 (cK (eM (qv 0) aD) aD) aD) (aH (bA (i:=1) nd (cV aD (cK (eM (qv 0) aD) aD)))
    (aQ (bA (i:=2) nd (cV aD (cK (eM (qv 0) aD) aD))))) cN)
   (aQ (bI (cS (a7 (qv 1) (a7 (qv 2) aB)))))))),aZ3⟩)
theorem ag0:FnScope ["rows","columns","cell","row","column","around"] ["rows","columns","cell"] (aU (aZ 53)):=.au
theorem bd1 (B:Bt mg) (F:FM K mg "_law_beside" 53 f fd)  : Df P w K mg base 1 "_law_beside" ["rows","columns","cell"] t9:=
 Df.au F ag0 (fun cdv A outer s H E hr=>by
  have nd:=ag0.nd
  exact⟨(ad2),(aH (W6 3 4 nd (qv 2))
   (aH (bA (i:=5) nd (gP (a7 (cS (a7 (i8 (qv 3) aD) (a7 (qv 4) aB))) (a7 (cS (a7 (qv 3) (a7 (i8 (qv 4) aD) aB))) (a7 (cS (a7 (qv 3) (a7 (cV (qv 4) aD) aB))) (a7 (cS (a7 (cV (qv 3) aD) (a7 (qv 4) aB))) aB))))))
   (aQ (bI (qZ (N:=["one","rows","columns"]) (fr:=[none,some 0,some 1]) (eN (qv 5)) (fun _ _ _ _=>(eY (nY (ac6 aD (cO (qv 0) aD) (qv 1)) (nX (ac6 aD (cO (qv 0) aD) (qv 2)))))) (fun _ _ _ _=>(qv 0))))))),aZ1⟩)
theorem ag1:FnScope ["seeds","rows","columns","cell","cells","place","far","strays","spot"] ["seeds","rows","columns","cell"] (aU (aZ 56)):=.au
theorem bd2 (B:Bt mg) (F:FM K mg "_law_odd_set" 56 f fd)  : Df P w K mg base 1 "_law_odd_set" ["seeds","rows","columns","cell"] tL:=
 Df.au F ag1 (fun cdv A outer s H E hr=>by
  have nd:=ag1.nd
  exact⟨(ae6),(aH (eZ (i:=4) nd (o4 B (a7 (qv 0) aB)))
   (aH (bA (i:=5) nd (cK (eM (qv 3) aD) (cV (fA B (a7 (qv 4) aB)) aD)))
   (aH (bA (i:=6) nd (cK (eM (qv 3) aD) (N4 aD aD)))
   (aH (bA (i:=7) nd (gP (a7 (cS (a7 (i8 (wH aD) (qv 6)) (a7 aD aB))) (a7 (cS (a7 aD (a7 (cV (qv 2) (qv 6)) aB))) (a7 (cS (a7 (cV (qv 1) (qv 6)) (a7 aD aB))) (a7 (cS (a7 aD (a7 (wH aD) aB))) aB))))))
   (aH (cL (eY (gO (i9 (fA B (a7 (qv 4) aB)) aD) (iB (jO (cK (qv 3) aD) aD)))) (aQ (bI (oS (oS (o9 (qv 4) o7 (o8 (qv 5))) (gP (a7 (cO (qv 7) (cK (eM (qv 3) aD) aD)) aB))) (o9 (qv 4) (o8 (qv 5)) o7)))) cN)
   (aH (bA (i:=8) nd (cK (eM (qv 3) aD) (fA B (a7 (qv 4) aB))))
   (aH (cL (eY (gO (jO (cK (qv 3) aD) aD) (iB (i9 (fA B (a7 (qv 4) aB)) aD)))) (aQ (bI (oS (oS (o9 (qv 4) o7 (o8 (qv 8))) (gP (a7 (cO (qv 4) (qv 8)) aB))) (o9 (qv 4) (o8 (qv 8)) o7)))) cN)
   (aH (aY0 4 (qv 8) (i8 (qv 8) aD) (cS (a7 (cO (qv 4) (i8 (qv 8) aD)) (a7 (cO (qv 4) (qv 8)) aB))))
   (aQ (o0 4)))))))))),ba5⟩)
theorem ag2:FnScope ["wants","links","want","pairs"] ["wants","links"] (aU (aZ 9)):=.au
theorem bd3 (B:Bt mg) (F:FM K mg "made_web" 9 f fd) (d_lesser_first:Df P w K mg base 1 "lesser_first" ["many","link"] sR) (d_rises:Df P w K mg base 1 "rises" ["things"] oY) {u_MOST_HEARTHS:Nat} (m_MOST_HEARTHS:mg "MOST_HEARTHS" = some (.int 40 u_MOST_HEARTHS)) {u_MOST_WANTED:Nat} (m_MOST_WANTED:mg "MOST_WANTED" = some (.int 60 u_MOST_WANTED)):Df P w K mg base 2 "made_web" ["wants","links"] oZ:=
 Df.au F ag2 (fun cdv A outer s H E hr=>by
  have nd:=ag2.nd
  exact⟨(aa9),(aH (cL (jO (fA B (a7 (qv 0) aB)) (mM rfl m_MOST_HEARTHS)) (aQ e8) cN)
   (aH (gA 2 nd (eN (qv 0))
    (aQ (cL (eY (gO (jN (qv 2) aD) (iB (jO (qv 2) (mM rfl m_MOST_WANTED))))) (aQ e8) cN)))
   (aH (bA (i:=3) nd (yB B (a7 (wM (N:=["link","wants"]) (fr:=[none,some 0]) (eN (qv 1)) (fun _ _ _ _=>(bS d_lesser_first hr (a7 (fA B (a7 (qv 1) aB)) (a7 (qv 0) aB))))) aB)))
   (aH (cL (jP (iA (bS d_rises hr (a7 (qv 3) aB)))) (aQ e8) cN)
   (aQ (bI (cS (a7 (gQ B (a7 (qv 0) aB)) (a7 (gQ B (a7 (qv 3) aB)) aB))))))))),aV9⟩)
theorem bd4:FnScope ["web","number"] ["web","number"] (aU (aZ 14)):=.au
theorem bd5 (B:Bt mg) (F:FM K mg "is_hearth" 14 f fd) (d_hearths_in:Df P w K mg base 1 "hearths_in" ["web"] mJ):Df P w K mg base 2 "is_hearth" ["web","number"] oK:=
 Df.au F bd4 (fun cdv A outer s H E hr=>by
  exact⟨(T1),(aQ (bI (l8 (qV (qv 1) aD) (nZ (wD (qv 1) (bS d_hearths_in hr (a7 (qv 0) aB))))))),aK1⟩)
theorem bd6:FnScope ["rows","columns","cells"] ["rows","columns","cells"] (aU (aZ 25)):=.au
theorem bd7 (B:Bt mg) (F:FM K mg "made_cells" 25 f fd) (d_looked_through:b9 P w K mg base 1 "looked_through" ["rows","columns"] mS) (d_rises:Df P w K mg base 1 "rises" ["things"] p9) (d_is_cell:Df P w K mg base 1 "is_cell" ["rows","columns","cell"] mT) (x_BadSet:Xc K mg base "BadSet"):b9 P w K mg base 2 "made_cells" ["rows","columns","cells"] kN:=
 b9.au F bd6 ab4 aW5 (fun cdv A outer s H E Ep hr hX=>by
  exact (aH (N9 (j7 hX d_looked_through hr (a7 (qv 0) (a7 (qv 1) aB))))
   (aH (cL (eY (gO (jP (iA (bS d_rises hr (a7 (qv 2) aB)))) (iB (jP (iA (wG B rfl (a7 (wM (N:=["cell","rows","columns"]) (fr:=[none,some 0,some 1]) (eN (qv 2)) (fun _ _ _ _=>(bS d_is_cell hr (a7 (qv 1) (a7 (qv 2) (a7 (qv 0) aB)))))) aB))))))) (aQ (rZ hX x_BadSet (a7 jK aB))) cN)
   (aQ (bI (gQ B (a7 (qv 2) aB)))))))
theorem ag3:FnScope ["rows","columns","cell","row","column","sides"] ["rows","columns","cell"] (aU (aZ 26)):=.au
theorem bd8 (B:Bt mg) (F:FM K mg "sides_of" 26 f fd) (d_is_cell:Df P w K mg base 1 "is_cell" ["rows","columns","cell"] mT):Df P w K mg base 2 "sides_of" ["rows","columns","cell"] sU:=
 Df.au F ag3 (fun cdv A outer s H E hr=>by
  have nd:=ag3.nd
  exact⟨(ab5),(aH (bA (i:=3) nd (cO (qv 2) aD))
   (aH (bA (i:=4) nd (cO (qv 2) aD))
   (aH (bA (i:=5) nd (gP (a7 (cS (a7 (i8 (qv 3) aD) (a7 (qv 4) aB))) (a7 (cS (a7 (qv 3) (a7 (i8 (qv 4) aD) aB))) (a7 (cS (a7 (qv 3) (a7 (cV (qv 4) aD) aB))) (a7 (cS (a7 (cV (qv 3) aD) (a7 (qv 4) aB))) aB))))))
   (aQ (bI (qZ (N:=["side","rows","columns"]) (fr:=[none,some 0,some 1]) (eN (qv 5)) (fun _ _ _ _=>(iA (bS d_is_cell hr (a7 (qv 1) (a7 (qv 2) (a7 (qv 0) aB)))))) (fun _ _ _ _=>(qv 0)))))))),aW6⟩)
theorem bd9:FnScope ["web","around","burning","hearth"] ["web","around","burning","hearth"] (aU (aZ 43)):=.au
theorem be0 (B:Bt mg) (F:FM K mg "can_kindle" 43 f fd) (d_count_inside:Df P w K mg base 1 "count_inside" ["hearths","inside"] rS):Df P w K mg base 2 "can_kindle" ["web","around","burning","hearth"] rT:=
 Df.au F bd9 (fun cdv A outer s H E hr=>by
  have hu:=k7 hr
  exact⟨(T8),(aQ (bI (l8 (aD9 hu (qv 3) (qv 2)) (nZ (qV (bS d_count_inside hr (a7 (cO (qv 1) (qv 3)) (a7 (qv 2) aB))) (cO (cO (qv 0) aD) (qv 3))))))),aK9⟩)
theorem ag4:FnScope ["script","k","stir"] ["script","k"] (aU (aZ 48)):=.au
theorem be1 (B:Bt mg) (F:FM K mg "_law_number" 48 f fd) (d__law_cell:Df P w K mg base 1 "_law_cell" ["script","k"] jS):Df P w K mg base 2 "_law_number" ["script","k"] tF:=
 Df.au F ag4 (fun cdv A outer s H E hr=>by
  have nd:=ag4.nd
  exact⟨(ad6),(aH (cL (jN (qv 1) (fA B (a7 (qv 0) aB))) (aQ (bI (cO (qv 0) (qv 1)))) cN)
   (aH (bA (i:=2) nd (cK (jL (cV (cV (cK (bS d__law_cell hr (a7 (qv 0) (a7 (cK (qv 1) (O3 B rfl (a7 aD (a7 (fA B (a7 (qv 0) aB)) aB)))) aB))) aD) (jL aD (qv 1))) aD) aD) aD))
   (aQ (bI (eM (cK (jL (qv 2) (qv 2)) aD) aD))))),aZ4⟩)
theorem ag5:FnScope ["found","due","k","number"] ["found","due"] (aU (aZ 50)):=.au
theorem be2 (B:Bt mg) (F:FM K mg "_law_cells_are" 50 f fd) (d__law_whole:Df P w K mg base 1 "_law_whole" ["found"] rV):Df P w K mg base 2 "_law_cells_are" ["found","due"] sW:=
 Df.au F ag5 (fun cdv A outer s H E hr=>by
  have nd:=ag5.nd
  have hu3:=yY hr
  exact⟨(ab7 K),(aH (cL (eY (gO (jP (iA (O5 B (qv 0)))) (iB (aD6 (fA B (a7 (qv 0) aB)) (fA B (a7 (qv 1) aB)))))) (aQ (bI g9)) cN)
   (aH (gA 2 nd (l9 rfl B.range (fA B (a7 (qv 1) aB)))
    (aH (cL (eY (gO (jP (iA (O5 B (cO (qv 0) (qv 2))))) (iB (qX hu3 (cO (qv 0) (qv 2)) (cO (qv 1) (qv 2)))))) (aQ (bI g9)) cN)
    (aQ (gA 3 nd (eN (cO (qv 0) (qv 2)))
     (aQ (cL (jP (iA (bS d__law_whole hr (a7 (qv 3) aB)))) (aQ (bI g9)) cN))))))
   (aQ (bI g9)))),aW9 (xK K).tt⟩)
theorem ag6:FnScope ["rows","columns","seeds","met","burning","line","seed","at","other"] ["rows","columns","seeds"] (aU (aZ 54)):=.au
theorem be3 (B:Bt mg) (F:FM K mg "_law_burnt" 54 f fd) (d__law_beside:Df P w K mg base 1 "_law_beside" ["rows","columns","cell"] t9):Df P w K mg base 2 "_law_burnt" ["rows","columns","seeds"] tD:=
 Df.au F ag6 (fun cdv A outer s H E hr=>by
  have nd:=ag6.nd
  have hu:=k7 hr
  exact⟨(ad3),(aH (eZ (i:=3) nd qW)
   (aH (eZ (i:=4) nd qW)
   (aH (eZ (i:=5) nd (o4 B (a7 (qv 2) aB)))
   (aH (gA 6 nd (eN (qv 2))
    (aQ (mB hu (i:=4) (qv 6) g9)))
   (aH (bA (i:=7) nd aD)
   (aH (wF PassesOwn.never (jN (qv 7) (fA B (a7 (qv 5) aB)))
    (aH (gA 8 nd (eN (bS d__law_beside hr (a7 (qv 0) (a7 (qv 1) (a7 (cO (qv 5) (qv 7)) aB)))))
     (aH (mB hu (i:=3) (qv 8) (cV (ac5 hu (qv 3) (qv 8) aD) aD))
     (aQ (cL (eY (nY (jO (N7 hu (qv 3) (qv 8)) aD) (nX (N5 hu (qv 8) (qv 4))))) (aH (mB hu (i:=4) (qv 8) g9)
      (aQ (o3 5 (qv 8)))) cN))))
    (aQ (bA (i:=7) nd (cV (qv 7) aD)))))
   (aQ (bI (gQ B (a7 (yB B (a7 (qv 5) aB)) aB)))))))))),aZ2⟩)
theorem be4:FnScope ["web","numbers"] ["web","numbers"] (aU (aZ 15)):=.au
theorem be5 (B:Bt mg) (F:FM K mg "is_set" 15 f fd) (d_rises:Df P w K mg base 1 "rises" ["things"] oY) (d_is_hearth:Df P w K mg base 2 "is_hearth" ["web","number"] oK):Df P w K mg base 3 "is_set" ["web","numbers"] yK:=
 Df.au F be4 (fun cdv A outer s H E hr=>by
  exact⟨(aa7),(aQ (bI (l8 (bS d_rises hr (a7 (qv 1) aB)) (nZ (wG B rfl (a7 (wM (N:=["number","web"]) (fr:=[none,some 0]) (eN (qv 1)) (fun _ _ _ _=>(bS d_is_hearth hr (a7 (qv 1) (a7 (qv 0) aB))))) aB)))))),aV7⟩)
theorem ag7:FnScope ["rows","columns","many","beside","below"] ["rows","columns"] (aU (aZ 23)):=.au
theorem be6 (B:Bt mg) (F:FM K mg "board_web" 23 f fd) (d_looked_through:b9 P w K mg base 1 "looked_through" ["rows","columns"] mS) (d_made_web:Df P w K mg base 2 "made_web" ["wants","links"] oZ) (x_BadBoard:Xc K mg base "BadBoard") {u_MOST_HEARTHS:Nat} (m_MOST_HEARTHS:mg "MOST_HEARTHS" = some (.int 40 u_MOST_HEARTHS)) {u_ENOUGH:Nat} (m_ENOUGH:mg "ENOUGH" = some (.int 2 u_ENOUGH)):b9 P w K mg base 3 "board_web" ["rows","columns"] sV:=
 b9.au F ag7 ab6 aW8 (fun cdv A outer s H E Ep hr hX=>by
  have nd:=ag7.nd
  exact (aH (N9 (j7 hX d_looked_through hr (a7 (qv 0) (a7 (qv 1) aB))))
   (aH (bA (i:=2) nd (jL (qv 0) (qv 1)))
   (aH (cL (jO (qv 2) (mM rfl m_MOST_HEARTHS)) (aQ (rZ hX x_BadBoard (a7 jK aB))) cN)
   (aH (aF1 (i:=3) nd (N:=["hearth","columns"]) (fr:=[none,some 1]) (l9 rfl B.range (qv 2)) (fun _ _ _ _=>(jO (cK (cV (qv 0) aD) (qv 1)) aD)) (fun _ _ _ _=>(cS (a7 (qv 0) (a7 (cV (qv 0) aD) aB)))))
   (aH (aF0 (i:=4) nd (N:=["hearth","columns"]) (fr:=[none,some 1]) (l9 rfl B.range (i8 (qv 2) (qv 1))) (fun _ _ _ _=>(cS (a7 (qv 0) (a7 (cV (qv 0) (qv 1)) aB)))))
   (aQ (bI (bS d_made_web hr (a7 (aO2 (gP (a7 (mM rfl m_ENOUGH) aB)) (qv 2)) (a7 (oS (qv 3) (qv 4)) aB)))))))))))
theorem ag8:FnScope ["rows","columns","seeds","chosen","burning","lit","met","cell","side"] ["rows","columns","seeds"] (aU (aZ 27)):=.au
theorem be7 (B:Bt mg) (F:FM K mg "board_burnt" 27 f fd) (d_made_cells:b9 P w K mg base 2 "made_cells" ["rows","columns","cells"] kN) (d_marked:Df P w K mg base 1 "marked" ["hearths"] t8) (d_sides_of:Df P w K mg base 2 "sides_of" ["rows","columns","cell"] sU) {u_ENOUGH:Nat} (m_ENOUGH:mg "ENOUGH" = some (.int 2 u_ENOUGH)):b9 P w K mg base 3 "board_burnt" ["rows","columns","seeds"] lI:=
 b9.au F ag8 ad0 aZ0 (fun cdv A outer s H E Ep hr hX=>by
  have nd:=ag8.nd
  have hu:=k7 hr
  exact (aH (bA (i:=3) nd (j7 hX d_made_cells hr (a7 (qv 0) (a7 (qv 1) (a7 (qv 2) aB)))))
   (aH (eZ (i:=4) nd (bS d_marked hr (a7 (qv 3) aB)))
   (aH (eZ (i:=5) nd (o4 B (a7 (qv 3) aB)))
   (aH (eZ (i:=6) nd qW)
   (aH (wF hX.own (N6 (qv 5))
    (aH (aR4 nd 5 7)
    (aQ (gA 8 (hp:=hX.own) nd (eN (bS d_sides_of hr (a7 (qv 0) (a7 (qv 1) (a7 (qv 7) aB)))))
     (aH (mB hu (i:=6) (qv 8) (cV (ac5 hu (qv 6) (qv 8) aD) aD))
     (aQ (cL (eY (nY (i9 (N7 hu (qv 6) (qv 8)) (mM rfl m_ENOUGH)) (nX (N5 hu (qv 8) (qv 4))))) (aH (mB hu (i:=4) (qv 8) g9)
      (aQ (o3 5 (qv 8)))) cN)))))))
   (aQ (bI (gQ B (a7 (aX8 B rfl (a7 (qv 4) aB)) aB))))))))))
theorem ag9:FnScope ["rows","columns","cells","chosen","inside"] ["rows","columns","cells"] (aU (aZ 28)):=.au
theorem be8 (B:Bt mg) (F:FM K mg "outline" 28 f fd) (d_made_cells:b9 P w K mg base 2 "made_cells" ["rows","columns","cells"] kN):b9 P w K mg base 3 "outline" ["rows","columns","cells"] tH:=
 b9.au F ag9 ae0 aZ9 (fun cdv A outer s H E Ep hr hX=>by
  have nd:=ag9.nd
  exact (aH (bA (i:=3) nd (j7 hX d_made_cells hr (a7 (qv 0) (a7 (qv 1) (a7 (qv 2) aB)))))
   (aH e8
   (aQ e8))))
theorem ah0:FnScope ["rows","columns","seeds","settled","steps","box","growing","close"] ["rows","columns","seeds"] (aU (aZ 36)):=.au
theorem be9 (B:Bt mg) (F:FM K mg "growth" 36 f fd) (d_cell_boxes:Df P w K mg base 1 "cell_boxes" ["cells"] tK) (d_made_cells:b9 P w K mg base 2 "made_cells" ["rows","columns","cells"] kN):b9 P w K mg base 3 "growth" ["rows","columns","seeds"] mV:=
 b9.au F ah0 ae1 ba0 (fun cdv A outer s H E Ep hr hX=>by
  have nd:=ah0.nd
  exact (aH (eZ (i:=3) nd (gP aB))
   (aH (eZ (i:=4) nd (gP aB))
   (aH (gA 5 (hp:=hX.own) nd (eN (bS d_cell_boxes hr (a7 (j7 hX d_made_cells hr (a7 (qv 0) (a7 (qv 1) (a7 (qv 2) aB)))) aB)))
    (aH e8
    (aH e8
    (aH e8
    (aQ e8)))))
   (aQ e8)))))
theorem bf0:FnScope ["web","around","burning"] ["web","around","burning"] (aU (aZ 42)):=.au
theorem bf1 (B:Bt mg) (F:FM K mg "kindling" 42 f fd) (d_hearths_in:Df P w K mg base 1 "hearths_in" ["web"] mJ) (d_can_kindle:Df P w K mg base 2 "can_kindle" ["web","around","burning","hearth"] rT):Df P w K mg base 3 "kindling" ["web","around","burning"] oP:=
 Df.au F bf0 (fun cdv A outer s H E hr=>by
  exact⟨(T9),(aQ (bI (gQ B (a7 (qZ (N:=["hearth","web","around","burning"]) (fr:=[none,some 0,some 1,some 2]) (l9 rfl B.range (bS d_hearths_in hr (a7 (qv 0) aB))) (fun _ _ _ _=>(iA (bS d_can_kindle hr (a7 (qv 1) (a7 (qv 2) (a7 (qv 3) (a7 (qv 0) aB))))))) (fun _ _ _ _=>(qv 0))) aB)))),aL0⟩)
theorem ah1:FnScope ["script","at","rows","columns","cell","seeds","place","many","row","column","k"] ["script","at","rows","columns"] (aU (aZ 52)):=.au
theorem bf2 (B:Bt mg) (F:FM K mg "_law_seeds" 52 f fd) (d__law_cell:Df P w K mg base 1 "_law_cell" ["script","k"] jS) (d__law_number:Df P w K mg base 2 "_law_number" ["script","k"] tF):Df P w K mg base 3 "_law_seeds" ["script","at","rows","columns"] tG:=
 Df.au F ah1 (fun cdv A outer s H E hr=>by
  have nd:=ah1.nd
  have hu3:=yY hr
  exact⟨(ad7),(aH (bA (i:=4) nd (bS d__law_cell hr (a7 (qv 0) (a7 (qv 1) aB))))
   (aH (cL (eY (nY (i9 (cK (qv 4) aD) aD) (nX (jN (jL (qv 2) (qv 3)) aD)))) (aH (eZ (i:=5) nd (gP aB))
    (aH (gA 6 nd (l9 rfl B.range (jL (qv 2) (qv 3)))
     (aH (bA (i:=4) nd (eM (qv 4) aD))
     (aQ (cL (i9 (cK (qv 4) aD) aD) (aQ (o3 5 (cS (a7 (eM (qv 6) (qv 3)) (a7 (cK (qv 6) (qv 3)) aB))))) cN))))
    (aQ (bI (gQ B (a7 (qv 5) aB)))))) cN)
   (aH (bA (i:=7) nd (i8 (fA B (a7 (qv 0) aB)) (qv 1)))
   (aH (cL (jN (qv 7) aD) (aQ (bA (i:=7) nd aD)) cN)
   (aH (eZ (i:=5) nd (gP aB))
   (aH (bA (i:=8) nd aD)
   (aH (bA (i:=9) nd aD)
   (aH (gA 10 nd (l9 rfl B.range (qv 7))
    (aH (bA (i:=4) nd (bS d__law_number hr (a7 (qv 0) (a7 (cV (qv 1) (qv 10)) aB))))
    (aH (cL (i9 (cK (qv 4) aD) aD) (aH (bA (i:=8) nd (cK (eM (qv 4) aD) (qv 2)))
     (aQ (bA (i:=9) nd (cK (eM (qv 4) aD) (qv 3))))) (aH (bA (i:=8) nd (cK (i8 (cV (qv 8) (cK (eM (qv 4) aD) aD)) aD) (qv 2)))
     (aQ (bA (i:=9) nd (cK (i8 (cV (qv 9) (cK (eM (qv 4) aD) aD)) aD) (qv 3))))))
    (aQ (cL (eY (nY (aT1 hu3 (cS (a7 (qv 8) (a7 (qv 9) aB))) (qv 5)) (nX (jO (cK (eM (qv 4) aD) aD) aD)))) (aQ (o3 5 (cS (a7 (qv 8) (a7 (qv 9) aB))))) cN)))))
   (aQ (bI (gQ B (a7 (yB B (a7 (qv 5) aB)) aB)))))))))))),aZ7⟩)
theorem bf3:FnScope ["web","hearths"] ["web","hearths"] (aU (aZ 16)):=.au
theorem bf4 (B:Bt mg) (F:FM K mg "made_set" 16 f fd) (d_is_set:Df P w K mg base 3 "is_set" ["web","numbers"] yK) (x_BadSet:Xc K mg base "BadSet"):b9 P w K mg base 4 "made_set" ["web","hearths"] sE:=
 b9.au F bf3 X6 aQ9 (fun cdv A outer s H E Ep hr hX=>by
  exact (aH (cL (jP (iA (bS d_is_set hr (a7 (qv 0) (a7 (qv 1) aB))))) (aQ (rZ hX x_BadSet (a7 jK aB))) cN)
   (aQ (bI (gQ B (a7 (qv 1) aB))))))
theorem bf5:FnScope ["rows","columns","seeds"] ["rows","columns","seeds"] (aU (aZ 35)):=.au
theorem bf6 (B:Bt mg) (F:FM K mg "grown_boxes" 35 f fd) (d_judged_growth:b9 P w K mg base 1 "judged_growth" ["rows","columns","seeds","steps"] tJ) (d_growth:b9 P w K mg base 3 "growth" ["rows","columns","seeds"] mV):b9 P w K mg base 4 "grown_boxes" ["rows","columns","seeds"] tI:=
 b9.au F bf5 ae3 ba2 (fun cdv A outer s H E Ep hr hX=>by
  exact (aQ (bI (j7 hX d_judged_growth hr (a7 (qv 0) (a7 (qv 1) (a7 (qv 2) (a7 (j7 hX d_growth hr (a7 (qv 0) (a7 (qv 1) (a7 (qv 2) aB)))) aB))))))))
theorem ah2:FnScope ["web","seeds","told","burning","around","lit"] ["web","seeds"] (aU (aZ 41)):=.au
theorem bf7 (B:Bt mg) (F:FM K mg "rounds" 41 f fd) (d_made_set:b9 P w K mg base 4 "made_set" ["web","hearths"] sE) (d_marked:Df P w K mg base 1 "marked" ["hearths"] oO) (d_near_lists:Df P w K mg base 1 "near_lists" ["web"] xC) (d_kindling:Df P w K mg base 3 "kindling" ["web","around","burning"] oP):b9 P w K mg base 5 "rounds" ["web","seeds"] sG:=
 b9.au F ah2 X8 aR1 (fun cdv A outer s H E Ep hr hX=>by
  have nd:=ah2.nd
  exact (aH (eZ (i:=2) nd (gP (a7 (j7 hX d_made_set hr (a7 (qv 0) (a7 (qv 1) aB))) aB)))
   (aH (eZ (i:=3) nd (bS d_marked hr (a7 (cO (qv 2) aD) aB)))
   (aH (bA (i:=4) nd (bS d_near_lists hr (a7 (qv 0) aB)))
   (aH (bA (i:=5) nd (bS d_kindling hr (a7 (qv 0) (a7 (qv 4) (a7 (qv 3) aB)))))
   (aH (wF hX.own (N6 (qv 5))
    (aH (o3 2 (qv 5))
    (aH (aF2 3 (bS d_marked hr (a7 (qv 5) aB)))
    (aQ (bA (i:=5) nd (bS d_kindling hr (a7 (qv 0) (a7 (qv 4) (a7 (qv 3) aB)))))))))
   (aQ (o0 2))))))))
theorem ah3:FnScope ["which","rows","columns","cells","caught","e"] ["which","rows","columns","cells"] (aU (aZ 55)):=.au
theorem bf8 (B:Bt mg) (F:FM K mg "_law_kind" 55 f fd) (d_board_burnt:b9 P w K mg base 3 "board_burnt" ["rows","columns","seeds"] lI) (d_outline:b9 P w K mg base 3 "outline" ["rows","columns","cells"] tH) (d_grown_boxes:b9 P w K mg base 4 "grown_boxes" ["rows","columns","seeds"] tI) (d_growth:b9 P w K mg base 3 "growth" ["rows","columns","seeds"] mV) (cat_HearthError:xW K mg "HearthError") (is_BadSet:oV K mg "BadSet") (is_BadBoard:oV K mg "BadBoard") (is_ValueError:xY K mg):Df P w K mg base 5 "_law_kind" ["which","rows","columns","cells"] pC:=
 Df.au F ah3 (fun cdv A outer s H E hr=>by
  have nd:=ah3.nd
  exact⟨(ae4),(aH (bA (i:=4) nd N3)
   (aH (aQ3 5 cat_HearthError nd (xU (fun _=>(i9 (qv 0) aD)) (sB d_board_burnt hr (fun _=>(a7 (qv 1) (a7 (qv 2) (a7 (qv 3) aB))))) (xU (fun _=>(i9 (qv 0) aD)) (sB d_outline hr (fun _=>(a7 (qv 1) (a7 (qv 2) (a7 (qv 3) aB))))) (xU (fun _=>(i9 (qv 0) aD)) (sB d_grown_boxes hr (fun _=>(a7 (qv 1) (a7 (qv 2) (a7 (qv 3) aB))))) (sB d_growth hr (fun _=>(a7 (qv 1) (a7 (qv 2) (a7 (qv 3) aB)))))))) (fun _=>(aQ (bA (i:=4) nd (qv 5)))))
   (aH (cL (eY (gO (aD7 (qv 4) N3) (iB (jP (iA (aQ7 B is_ValueError (qv 4))))))) (aQ (bI jK)) cN)
   (aQ (bI (aT3 (Z7 jK (Z1 B (a7 (X2 B is_BadBoard (qv 4)) aB))) (Z7 jK (Z1 B (a7 (X2 B is_BadSet (qv 4)) aB))))))))),ba3⟩)
theorem ah4:FnScope ["web","seeds","ranks","rank","lit","hearth"] ["web","seeds"] (aU (aZ 44)):=.au
theorem bf9 (B:Bt mg) (F:FM K mg "ranks_of" 44 f fd) (d_rounds:b9 P w K mg base 5 "rounds" ["web","seeds"] sG):b9 P w K mg base 6 "ranks_of" ["web","seeds"] sH:=
 b9.au F ah4 X9 aR2 (fun cdv A outer s H E Ep hr hX=>by
  have nd:=ah4.nd
  have hu:=k7 hr
  exact (aH (eZ (i:=2) nd N8)
   (aH (aE9 3 4 (hp:=hX.own) nd (aN9 rfl B.enum (j7 hX d_rounds hr (a7 (qv 0) (a7 (qv 1) aB))))
    (aQ (gA 5 (hp:=hX.own) nd (eN (qv 4))
     (aQ (O0 hu (i:=2) (qv 5) (qv 3))))))
   (aQ (o0 2)))))
theorem bg0:FnScope ["web","seeds"] ["web","seeds"] (aU (aZ 45)):=.au
theorem bg1 (B:Bt mg) (F:FM K mg "burnt" 45 f fd) (d_ranks_of:b9 P w K mg base 6 "ranks_of" ["web","seeds"] sH):b9 P w K mg base 7 "burnt" ["web","seeds"] sI:=
 b9.au F bg0 Y0 aR3 (fun cdv A outer s H E Ep hr hX=>by
  exact (aQ (bI (gQ B (a7 (aP3 B rfl (a7 (j7 hX d_ranks_of hr (a7 (qv 0) (a7 (qv 1) aB))) aB)) aB)))))
theorem ah5:FnScope ["script","rows","columns","seeds","due","handed","found","hearths","told","cell","odd","wrong","which"] ["script"] (aU (aZ 57)):=.au
theorem bg2 (B:Bt mg) (F:fL K "law" "law" (aZ 57) f fd) (d__law_lines:Df P w K mg base 1 "_law_lines" ["cell"] tE) (d__law_cell:Df P w K mg base 1 "_law_cell" ["script","k"] jS) (d__law_seeds:Df P w K mg base 3 "_law_seeds" ["script","at","rows","columns"] tG) (d__law_burnt:Df P w K mg base 2 "_law_burnt" ["rows","columns","seeds"] tD) (d_board_burnt:b9 P w K mg base 3 "board_burnt" ["rows","columns","seeds"] lI) (d__law_cells_are:Df P w K mg base 2 "_law_cells_are" ["found","due"] sW) (d_burnt:b9 P w K mg base 7 "burnt" ["web","seeds"] sI) (d_board_web:b9 P w K mg base 3 "board_web" ["rows","columns"] sV) (d__law_odd_set:Df P w K mg base 1 "_law_odd_set" ["seeds","rows","columns","cell"] tL) (d__law_kind:Df P w K mg base 5 "_law_kind" ["which","rows","columns","cells"] pC):dE P w K mg base eJ 8 f fd ["script"] (nS K yW):=
 aM1 F ah5 (fun xs Q h=>by unfold yW at h; repeat (first | (obtain ⟨rfl,_⟩:=h; rfl) | (obtain ⟨_,h⟩:=h))) (fun cdv A outer s H E hr=>by
  have nd:=ah5.nd
  have hu3:=yY hr
  exact⟨(af5),(aH (W6 1 2 nd (bS d__law_lines hr (a7 (bS d__law_cell hr (a7 (qv 0) (a7 aD aB))) aB)))
   (aH (bA (i:=3) nd (bS d__law_seeds hr (a7 (qv 0) (a7 aD (a7 (qv 1) (a7 (qv 2) aB))))))
   (aH (bA (i:=4) nd (bS d__law_burnt hr (a7 (qv 1) (a7 (qv 2) (a7 (qv 3) aB)))))
   (aH (bA (i:=5) nd (o4 B (a7 (qv 3) aB)))
   (aH (bA (i:=6) nd (rY d_board_burnt hr (a7 (qv 1) (a7 (qv 2) (a7 (qv 5) aB)))))
   (aH (cL (eY (gO (jP (iA (bS d__law_cells_are hr (a7 (qv 6) (a7 (qv 4) aB))))) (gO (qX hu3 (qv 5) (o4 B (a7 (qv 3) aB))) (iB (qX hu3 (rY d_board_burnt hr (a7 (qv 1) (a7 (qv 2) (a7 (qv 3) aB)))) (qv 4)))))) (aQ (bI g9)) cN)
   (aH (cL (jN (jL (qv 1) (qv 2)) aD) (aH (bA (i:=7) nd (gQ B (a7 (xQ (N:=["row","column","columns"]) (fr:=[none,none,some 2]) (eN (qv 3)) (fun _ _ _ _=>(cV (jL (qv 0) (qv 2)) (qv 1)))) aB)))
    (aH (bA (i:=8) nd (rY d_burnt hr (a7 (rY d_board_web hr (a7 (qv 1) (a7 (qv 2) aB))) (a7 (qv 7) aB))))
    (aQ (cL (qX hu3 (qv 8) (gQ B (a7 (xQ (N:=["row","column","columns"]) (fr:=[none,none,some 2]) (eN (qv 4)) (fun _ _ _ _=>(cV (jL (qv 0) (qv 2)) (qv 1)))) aB))) (aQ (bI g9)) cN)))) cN)
   (aH (bA (i:=9) nd (bS d__law_cell hr (a7 (qv 0) (a7 aD aB))))
   (aH (bA (i:=10) nd (bS d__law_odd_set hr (a7 (qv 3) (a7 (qv 1) (a7 (qv 2) (a7 (qv 9) aB))))))
   (aH (bA (i:=11) nd (cO (gP (a7 (cS (a7 aD (a7 (qv 2) aB))) (a7 (cS (a7 (qv 1) (a7 aD aB))) (a7 (cS (a7 (wH aD) (a7 (qv 2) aB))) (a7 (cS (a7 (qv 1) (a7 aD aB))) (a7 (cS (a7 (cV aD (cK (eM (qv 9) aD) (N4 aD aD))) (a7 aD aB))) aB)))))) (cK (qv 9) aD)))
   (aH (gA 12 nd (l9 rfl B.range aD)
    (aQ (cL (eY (gO (Z8 (bS d__law_kind hr (a7 (qv 12) (a7 (qv 1) (a7 (qv 2) (a7 (qv 10) aB))))) jK) (iB (Z8 (bS d__law_kind hr (a7 (qv 12) (a7 (cO (qv 11) aD) (a7 (cO (qv 11) aD) (a7 (qv 10) aB))))) jK)))) (aQ (bI g9)) cN)))
   (aQ (bI g9))))))))))))),ba8⟩)
end
set_option autoImplicit true in
theorem bg3 {l:OpenLaw}{w:World}{K:Frag}{h:Heap}{mg:Str->Option Value} (X:K.In h) (G:h.Ns mainGlobals mg) (hfa:mg "law" = some (.ref fa))
  (h0:FK K "lesser_first" 10 f0 d0)
  (h1:FK K "rises" 11 f1 d1)
  (h2:FK K "hearths_in" 12 f2 d2)
  (h3:FK K "near_lists" 13 f3 d3)
  (h4:FK K "marked" 17 f4 d4)
  (h5:FK K "count_inside" 18 f5 d5)
  (h6:FK K "looked_through" 22 f6 d6)
  (h7:FK K "is_cell" 24 f7 d7)
  (h8:FK K "cell_boxes" 34 f8 d8)
  (h9:FK K "judged_growth" 38 f9 d9)
  (h10:FK K "_law_cell" 47 f10 d10)
  (h11:FK K "_law_whole" 49 f11 d11)
  (h12:FK K "_law_lines" 51 f12 d12)
  (h13:FK K "_law_beside" 53 f13 d13)
  (h14:FK K "_law_odd_set" 56 f14 d14)
  (h15:FK K "made_web" 9 f15 d15)
  (h16:FK K "is_hearth" 14 f16 d16)
  (h17:FK K "made_cells" 25 f17 d17)
  (h18:FK K "sides_of" 26 f18 d18)
  (h19:FK K "can_kindle" 43 f19 d19)
  (h20:FK K "_law_number" 48 f20 d20)
  (h21:FK K "_law_cells_are" 50 f21 d21)
  (h22:FK K "_law_burnt" 54 f22 d22)
  (h23:FK K "is_set" 15 f23 d23)
  (h24:FK K "board_web" 23 f24 d24)
  (h25:FK K "board_burnt" 27 f25 d25)
  (h26:FK K "outline" 28 f26 d26)
  (h27:FK K "growth" 36 f27 d27)
  (h28:FK K "kindling" 42 f28 d28)
  (h29:FK K "_law_seeds" 52 f29 d29)
  (h30:FK K "made_set" 16 f30 d30)
  (h31:FK K "grown_boxes" 35 f31 d31)
  (h32:FK K "rounds" 41 f32 d32)
  (h33:FK K "_law_kind" 55 f33 d33)
  (h34:FK K "ranks_of" 44 f34 d34)
  (h35:FK K "burnt" 45 f35 d35)
  (a36:nsIn K mainGlobals "law" = some (some (.ref f36))) (l36:K.lookup f36=some ⟨oc36,od36,.func (fnOf "law" "law" (jC (aZ 57)) (eR (aZ 57)) (aU (aZ 57)) .none kV36 dc36 pm36 an36 cd36 ct36),sl36⟩) (c36:codeIn K cd36 "law" = true) (k36:keepIn K (.ref f36)=true)
  (z_len:nsIn K mainGlobals "len" = some none)
  (z_range:nsIn K mainGlobals "range" = some none)
  (z_tuple:nsIn K mainGlobals "tuple" = some none)
  (z_list:nsIn K mainGlobals "list" = some none)
  (z_sorted:nsIn K mainGlobals "sorted" = some none)
  (z_all:nsIn K mainGlobals "all" = some none)
  (z_any:nsIn K mainGlobals "any" = some none)
  (z_zip:nsIn K mainGlobals "zip" = some none)
  (z_min:nsIn K mainGlobals "min" = some none)
  (z_max:nsIn K mainGlobals "max" = some none)
  (z_sum:nsIn K mainGlobals "sum" = some none)
  (z_isinstance:nsIn K mainGlobals "isinstance" = some none)
  (z_int:nsIn K mainGlobals "int" = some none)
  (z_bool:nsIn K mainGlobals "bool" = some none)
  (z_enumerate:nsIn K mainGlobals "enumerate" = some none)
  {u_ENOUGH:Nat} (z_ENOUGHx:nsIn K mainGlobals "ENOUGH" = some (some (.int 2 u_ENOUGH)))
  {u_MOST_HEARTHS:Nat} (z_MOST_HEARTHSx:nsIn K mainGlobals "MOST_HEARTHS" = some (some (.int 40 u_MOST_HEARTHS)))
  {u_MOST_ROWS:Nat} (z_MOST_ROWSx:nsIn K mainGlobals "MOST_ROWS" = some (some (.int 40 u_MOST_ROWS)))
  {u_MOST_WANTED:Nat} (z_MOST_WANTEDx:nsIn K mainGlobals "MOST_WANTED" = some (some (.int 60 u_MOST_WANTED)))
  {C_HearthError C_BadWeb C_BadSet C_BadBoard C_NoPaper:Addr}
  (aX_HE:nsIn K mainGlobals "HearthError" = some (some (.ref C_HearthError)))
  (aX_BW:nsIn K mainGlobals "BadWeb" = some (some (.ref C_BadWeb)))
  (aX_BS:nsIn K mainGlobals "BadSet" = some (some (.ref C_BadSet)))
  (aX_BB:nsIn K mainGlobals "BadBoard" = some (some (.ref C_BadBoard)))
  (aX_NP:nsIn K mainGlobals "NoPaper" = some (some (.ref C_NoPaper)))
  (zX_BO:nsIn K mainGlobals "BadOrder" = some none)
  (zX_BP:nsIn K mainGlobals "BadPrices" = some none)
  (zX_BD:nsIn K mainGlobals "BadDeed" = some none)
  (zX_NW:nsIn K mainGlobals "NotWood" = some none)
  (zX_NS:nsIn K mainGlobals "NoSuch" = some none)
  (zX_TM:nsIn K mainGlobals "TooMany" = some none)
  (zX_NT:nsIn K mainGlobals "NoText" = some none)
  (zX_OR:nsIn K mainGlobals "OddRound" = some none)
  (y_fg:specialIn K (.builtin "object.__class__") "__get__" = some (some (.builtin "getset_descriptor.__get__")))
  (y_ft:takesIn K (.builtin "object.__class__")=some true)
  (z_VE:nsIn K mainGlobals "ValueError" = some none)
  (y1_HE:isClsIn K C_HearthError=true)
  (y2_HE:typeIn K (.ref C_HearthError)=some (.type "type"))
  (y3_HE:findIn K (.ref C_HearthError) "__getattribute__" = some (some (.builtin "BaseException.__getattribute__")))
  (y4_HE:findIn K (.ref C_HearthError) "__getattr__" = some none)
  (y5_HE:findIn K (.ref C_HearthError) "__class__" = some (some (.builtin "object.__class__")))
  (y6_HE:mroIn K C_HearthError (.type "object")=some true)
  (y7_HE:mroIn K C_HearthError (.type "BaseException")=some true)
  (y1_BW:isClsIn K C_BadWeb=true)
  (y2_BW:typeIn K (.ref C_BadWeb)=some (.type "type"))
  (y3_BW:findIn K (.ref C_BadWeb) "__getattribute__" = some (some (.builtin "BaseException.__getattribute__")))
  (y4_BW:findIn K (.ref C_BadWeb) "__getattr__" = some none)
  (y5_BW:findIn K (.ref C_BadWeb) "__class__" = some (some (.builtin "object.__class__")))
  (y6_BW:mroIn K C_BadWeb (.type "object")=some true)
  (y7_BW:mroIn K C_BadWeb (.type "BaseException")=some true)
  (y1_BS:isClsIn K C_BadSet=true)
  (y2_BS:typeIn K (.ref C_BadSet)=some (.type "type"))
  (y3_BS:findIn K (.ref C_BadSet) "__getattribute__" = some (some (.builtin "BaseException.__getattribute__")))
  (y4_BS:findIn K (.ref C_BadSet) "__getattr__" = some none)
  (y5_BS:findIn K (.ref C_BadSet) "__class__" = some (some (.builtin "object.__class__")))
  (y6_BS:mroIn K C_BadSet (.type "object")=some true)
  (y7_BS:mroIn K C_BadSet (.type "BaseException")=some true)
  (y1_BB:isClsIn K C_BadBoard=true)
  (y2_BB:typeIn K (.ref C_BadBoard)=some (.type "type"))
  (y3_BB:findIn K (.ref C_BadBoard) "__getattribute__" = some (some (.builtin "BaseException.__getattribute__")))
  (y4_BB:findIn K (.ref C_BadBoard) "__getattr__" = some none)
  (y5_BB:findIn K (.ref C_BadBoard) "__class__" = some (some (.builtin "object.__class__")))
  (y6_BB:mroIn K C_BadBoard (.type "object")=some true)
  (y7_BB:mroIn K C_BadBoard (.type "BaseException")=some true)
  (y1_NP:isClsIn K C_NoPaper=true)
  (y2_NP:typeIn K (.ref C_NoPaper)=some (.type "type"))
  (y3_NP:findIn K (.ref C_NoPaper) "__getattribute__" = some (some (.builtin "BaseException.__getattribute__")))
  (y4_NP:findIn K (.ref C_NoPaper) "__getattr__" = some none)
  (y5_NP:findIn K (.ref C_NoPaper) "__class__" = some (some (.builtin "object.__class__")))
  (y6_NP:mroIn K C_NoPaper (.type "object")=some true)
  (y7_NP:mroIn K C_NoPaper (.type "BaseException")=some true)
  (sB_HE:subIn K (.ref C_HearthError) (.type "BaseException")=some true)
  (s_BW_HE:subIn K (.ref C_BadWeb) (.ref C_HearthError)=some true)
  (s_BS_HE:subIn K (.ref C_BadSet) (.ref C_HearthError)=some true)
  (s_BB_HE:subIn K (.ref C_BadBoard) (.ref C_HearthError)=some true)
  (s_NP_HE:subIn K (.ref C_NoPaper) (.ref C_HearthError)=some true)
  (sN_BB:subIn K (.type "NoneType") (.ref C_BadBoard)=some false)
  (s_BW_BB:subIn K (.ref C_BadWeb) (.ref C_BadBoard)=some false)
  (n_BW_BB:(C_BadWeb == C_BadBoard)=false)
  (s_BS_BB:subIn K (.ref C_BadSet) (.ref C_BadBoard)=some false)
  (n_BS_BB:(C_BadSet == C_BadBoard)=false)
  (s_NP_BB:subIn K (.ref C_NoPaper) (.ref C_BadBoard)=some false)
  (n_NP_BB:(C_NoPaper == C_BadBoard)=false)
  (sN_BS:subIn K (.type "NoneType") (.ref C_BadSet)=some false)
  (s_BW_BS:subIn K (.ref C_BadWeb) (.ref C_BadSet)=some false)
  (n_BW_BS:(C_BadWeb == C_BadSet)=false)
  (s_BB_BS:subIn K (.ref C_BadBoard) (.ref C_BadSet)=some false)
  (n_BB_BS:(C_BadBoard == C_BadSet)=false)
  (s_NP_BS:subIn K (.ref C_NoPaper) (.ref C_BadSet)=some false)
  (n_NP_BS:(C_NoPaper == C_BadSet)=false)
  (sV_BW:subIn K (.ref C_BadWeb) (.type "ValueError")=some true)
  (sV_BS:subIn K (.ref C_BadSet) (.type "ValueError")=some true)
  (sV_BB:subIn K (.ref C_BadBoard) (.type "ValueError")=some true)
  (sV_NP:subIn K (.ref C_NoPaper) (.type "ValueError")=some true)
  (q_BB:excIn K C_BadBoard [.type "ValueError",.type "Exception",.type "BaseException",.type "object"] "ValueError.__new__" = true)
  (q_BS:excIn K C_BadSet [.type "ValueError",.type "Exception",.type "BaseException",.type "object"] "ValueError.__new__" = true)
  : ∃ fd:FuncData,(∀ (s:Shared) (v:Value),BindsTo s fd ⟨[v],[]⟩ [("script",v)])/\∀ base:Heap,K.In base->base.Ns mainGlobals mg->dE l.prog w K mg base eJ 8 fa fd ["script"] (rW K):=by
 have e:=hfa.symm.trans (mg_of X G a36)
 cases e
 have F36:=av0 (st:=aZ 57) l36 c36 k36
 have m36:=mg_of X G a36
 have B:Bt mg:=⟨mg_none_of X G z_len,mg_none_of X G z_range,mg_none_of X G z_tuple,mg_none_of X G z_list,mg_none_of X G z_sorted,mg_none_of X G z_all,mg_none_of X G z_any,mg_none_of X G z_zip,mg_none_of X G z_min,mg_none_of X G z_max,mg_none_of X G z_sum,mg_none_of X G z_isinstance,mg_none_of X G z_int,mg_none_of X G z_bool,mg_none_of X G z_enumerate⟩
 have m_ENOUGH:=mg_of X G z_ENOUGHx
 have m_MOST_HEARTHS:=mg_of X G z_MOST_HEARTHSx
 have m_MOST_ROWS:=mg_of X G z_MOST_ROWSx
 have m_MOST_WANTED:=mg_of X G z_MOST_WANTEDx
 refine⟨fnOf "law" "law" (jC (aZ 57)) (eR (aZ 57)) (aU (aZ 57)) .none kV36 dc36 pm36 an36 cd36 ct36,fun s v=>.of_eq rfl,fun base KB _=>?_⟩
 have XK_HearthError:jW K C_HearthError:=⟨y1_HE,y2_HE,y3_HE,y4_HE,y5_HE,y_fg,y_ft,y6_HE,y7_HE⟩
 have XK_BadWeb:jW K C_BadWeb:=⟨y1_BW,y2_BW,y3_BW,y4_BW,y5_BW,y_fg,y_ft,y6_BW,y7_BW⟩
 have XK_BadSet:jW K C_BadSet:=⟨y1_BS,y2_BS,y3_BS,y4_BS,y5_BS,y_fg,y_ft,y6_BS,y7_BS⟩
 have XK_BadBoard:jW K C_BadBoard:=⟨y1_BB,y2_BB,y3_BB,y4_BB,y5_BB,y_fg,y_ft,y6_BB,y7_BB⟩
 have XK_NoPaper:jW K C_NoPaper:=⟨y1_NP,y2_NP,y3_NP,y4_NP,y5_NP,y_fg,y_ft,y6_NP,y7_NP⟩
 have cat_HearthError:xW K mg "HearthError":=⟨C_HearthError,mg_of X G aX_HE,⟨y1_HE,y2_HE,sB_HE⟩,fun n C h2 h1=>by
  obtain ⟨hm,hb⟩:=sC h2
  simp only [mP,bh9,bi5,bm2] at hm
  rcases hm with rfl | rfl | rfl | rfl | rfl | rfl | rfl | rfl | rfl | rfl | rfl | rfl
  ·rw [aX_BW] at h1; cases h1; exact s_BW_HE
  ·rw [aX_BS] at h1; cases h1; exact s_BS_HE
  ·rw [zX_BO] at h1; cases h1
  ·rw [zX_BP] at h1; cases h1
  ·rw [aX_BB] at h1; cases h1; exact s_BB_HE
  ·rw [zX_BD] at h1; cases h1
  ·rw [zX_NW] at h1; cases h1
  ·rw [aX_NP] at h1; cases h1; exact s_NP_HE
  ·rw [zX_NS] at h1; cases h1
  ·rw [zX_TM] at h1; cases h1
  ·rw [zX_NT] at h1; cases h1
  ·rw [zX_OR] at h1; cases h1⟩
 have is_BadBoard:oV K mg "BadBoard":=⟨C_BadBoard,mg_of X G aX_BB,fun z=>(by cases z),(fun n C b h1 h2=>by
  obtain ⟨hm,hb⟩:=sC h2
  simp only [mP,bh9,bi5,bm2] at hm
  rcases hm with rfl | rfl | rfl | rfl | rfl | rfl | rfl | rfl | rfl | rfl | rfl | rfl
  ·rw [aX_BW] at h1; cases h1; rw [hb,show (("BadWeb" : Str) == "BadBoard" || ("BadBoard" : Str) == "HearthError" || ("BadBoard" : Str) == "ValueError")=false by decide]; exact⟨XK_BadWeb.exc,mR XK_BadBoard n_BW_BB s_BW_BB⟩
  ·rw [aX_BS] at h1; cases h1; rw [hb,show (("BadSet" : Str) == "BadBoard" || ("BadBoard" : Str) == "HearthError" || ("BadBoard" : Str) == "ValueError")=false by decide]; exact⟨XK_BadSet.exc,mR XK_BadBoard n_BS_BB s_BS_BB⟩
  ·rw [zX_BO] at h1; cases h1
  ·rw [zX_BP] at h1; cases h1
  ·rw [aX_BB] at h1; cases h1; rw [hb,show (("BadBoard" : Str) == "BadBoard" || ("BadBoard" : Str) == "HearthError" || ("BadBoard" : Str) == "ValueError")=true by decide]; exact⟨XK_BadBoard.exc,X4⟩
  ·rw [zX_BD] at h1; cases h1
  ·rw [zX_NW] at h1; cases h1
  ·rw [aX_NP] at h1; cases h1; rw [hb,show (("NoPaper" : Str) == "BadBoard" || ("BadBoard" : Str) == "HearthError" || ("BadBoard" : Str) == "ValueError")=false by decide]; exact⟨XK_NoPaper.exc,mR XK_BadBoard n_NP_BB s_NP_BB⟩
  ·rw [zX_NS] at h1; cases h1
  ·rw [zX_TM] at h1; cases h1
  ·rw [zX_NT] at h1; cases h1
  ·rw [zX_OR] at h1; cases h1),X5 XK_BadBoard sN_BB⟩
 have is_BadSet:oV K mg "BadSet":=⟨C_BadSet,mg_of X G aX_BS,fun z=>(by cases z),(fun n C b h1 h2=>by
  obtain ⟨hm,hb⟩:=sC h2
  simp only [mP,bh9,bi5,bm2] at hm
  rcases hm with rfl | rfl | rfl | rfl | rfl | rfl | rfl | rfl | rfl | rfl | rfl | rfl
  ·rw [aX_BW] at h1; cases h1; rw [hb,show (("BadWeb" : Str) == "BadSet" || ("BadSet" : Str) == "HearthError" || ("BadSet" : Str) == "ValueError")=false by decide]; exact⟨XK_BadWeb.exc,mR XK_BadSet n_BW_BS s_BW_BS⟩
  ·rw [aX_BS] at h1; cases h1; rw [hb,show (("BadSet" : Str) == "BadSet" || ("BadSet" : Str) == "HearthError" || ("BadSet" : Str) == "ValueError")=true by decide]; exact⟨XK_BadSet.exc,X4⟩
  ·rw [zX_BO] at h1; cases h1
  ·rw [zX_BP] at h1; cases h1
  ·rw [aX_BB] at h1; cases h1; rw [hb,show (("BadBoard" : Str) == "BadSet" || ("BadSet" : Str) == "HearthError" || ("BadSet" : Str) == "ValueError")=false by decide]; exact⟨XK_BadBoard.exc,mR XK_BadSet n_BB_BS s_BB_BS⟩
  ·rw [zX_BD] at h1; cases h1
  ·rw [zX_NW] at h1; cases h1
  ·rw [aX_NP] at h1; cases h1; rw [hb,show (("NoPaper" : Str) == "BadSet" || ("BadSet" : Str) == "HearthError" || ("BadSet" : Str) == "ValueError")=false by decide]; exact⟨XK_NoPaper.exc,mR XK_BadSet n_NP_BS s_NP_BS⟩
  ·rw [zX_NS] at h1; cases h1
  ·rw [zX_TM] at h1; cases h1
  ·rw [zX_NT] at h1; cases h1
  ·rw [zX_OR] at h1; cases h1),X5 XK_BadSet sN_BS⟩
 have is_ValueError:xY K mg:=⟨mg_none_of X G z_VE,fun z=>(by cases z),(fun n C b h1 h2=>by
  obtain ⟨hm,hb⟩:=sC h2
  simp only [mP,bh9,bi5,bm2] at hm
  rcases hm with rfl | rfl | rfl | rfl | rfl | rfl | rfl | rfl | rfl | rfl | rfl | rfl
  ·rw [aX_BW] at h1; cases h1; rw [hb,show (("BadWeb" : Str) == "ValueError" || ("ValueError" : Str) == "HearthError" || ("ValueError" : Str) == "ValueError")=true by decide]; exact⟨XK_BadWeb.exc,sD sV_BW⟩
  ·rw [aX_BS] at h1; cases h1; rw [hb,show (("BadSet" : Str) == "ValueError" || ("ValueError" : Str) == "HearthError" || ("ValueError" : Str) == "ValueError")=true by decide]; exact⟨XK_BadSet.exc,sD sV_BS⟩
  ·rw [zX_BO] at h1; cases h1
  ·rw [zX_BP] at h1; cases h1
  ·rw [aX_BB] at h1; cases h1; rw [hb,show (("BadBoard" : Str) == "ValueError" || ("ValueError" : Str) == "HearthError" || ("ValueError" : Str) == "ValueError")=true by decide]; exact⟨XK_BadBoard.exc,sD sV_BB⟩
  ·rw [zX_BD] at h1; cases h1
  ·rw [zX_NW] at h1; cases h1
  ·rw [aX_NP] at h1; cases h1; rw [hb,show (("NoPaper" : Str) == "ValueError" || ("ValueError" : Str) == "HearthError" || ("ValueError" : Str) == "ValueError")=true by decide]; exact⟨XK_NoPaper.exc,sD sV_NP⟩
  ·rw [zX_NS] at h1; cases h1
  ·rw [zX_TM] at h1; cases h1
  ·rw [zX_NT] at h1; cases h1
  ·rw [zX_OR] at h1; cases h1),aQ8⟩
 have x_BadBoard:Xc K mg base "BadBoard":=⟨C_BadBoard,_,_,_,_,X3 KB (mg_of X G aX_BB) q_BB,PySem.F.excBase_ValueError,aX_BB⟩
 have x_BadSet:Xc K mg base "BadSet":=⟨C_BadSet,_,_,_,_,X3 KB (mg_of X G aX_BS) q_BS,PySem.F.excBase_ValueError,aX_BS⟩
 have D0:=bb0 (P:=l.prog) (w:=w) (base:=base) B (h0.M X G)
 have D1:=U6 (P:=l.prog) (w:=w) (base:=base) B (h1.M X G)
 have D2:=bb3 (P:=l.prog) (w:=w) (base:=base) B (h2.M X G)
 have D3:=aL9 (ba9 (P:=l.prog) (w:=w) (mg:=mg) (base:=base) h3.F) (h3.F.binds (ps:=["web"]) fun _ _ _ _ _ _ us hl=>by obtain ⟨_,rfl⟩:=sF hl; rfl) h3.F.kp (mg_of X G h3.a)
 have D4:=bb4 (P:=l.prog) (w:=w) (base:=base) B (h4.M X G)
 have DD4:=bb5 (P:=l.prog) (w:=w) (base:=base) B (h4.M X G)
 have D5:=bb7 (P:=l.prog) (w:=w) (base:=base) B (h5.M X G)
 have D6:=bb9 (P:=l.prog) (w:=w) (base:=base) B (h6.M X G)  x_BadBoard m_MOST_ROWS
 have D7:=bc1 (P:=l.prog) (w:=w) (base:=base) B (h7.M X G)
 have D8:=bc3 (P:=l.prog) (w:=w) (base:=base) B (h8.M X G)
 have D9:=bc5 (P:=l.prog) (w:=w) (base:=base) B (h9.M X G)
 have D10:=bc7 (P:=l.prog) (w:=w) (base:=base) B (h10.M X G)
 have D11:=bc9 (P:=l.prog) (w:=w) (base:=base) B (h11.M X G)
 have D12:=bd0 (P:=l.prog) (w:=w) (base:=base) B (h12.M X G)
 have D13:=bd1 (P:=l.prog) (w:=w) (base:=base) B (h13.M X G)
 have D14:=bd2 (P:=l.prog) (w:=w) (base:=base) B (h14.M X G)
 have D15:=bd3 (P:=l.prog) (w:=w) (base:=base) B (h15.M X G) D0 (D1.weak ab1) m_MOST_HEARTHS m_MOST_WANTED
 have D16:=bd5 (P:=l.prog) (w:=w) (base:=base) B (h16.M X G) D2
 have D17:=bd7 (P:=l.prog) (w:=w) (base:=base) B (h17.M X G) D6 D1 D7 x_BadSet
 have D18:=bd8 (P:=l.prog) (w:=w) (base:=base) B (h18.M X G) D7
 have D19:=be0 (P:=l.prog) (w:=w) (base:=base) B (h19.M X G) D5
 have D20:=be1 (P:=l.prog) (w:=w) (base:=base) B (h20.M X G) D10
 have D21:=be2 (P:=l.prog) (w:=w) (base:=base) B (h21.M X G) D11
 have D22:=be3 (P:=l.prog) (w:=w) (base:=base) B (h22.M X G) D13
 have D23:=be5 (P:=l.prog) (w:=w) (base:=base) B (h23.M X G) (D1.weak ab1) D16
 have D24:=be6 (P:=l.prog) (w:=w) (base:=base) B (h24.M X G) D6 D15 x_BadBoard m_MOST_HEARTHS m_ENOUGH
 have D25:=be7 (P:=l.prog) (w:=w) (base:=base) B (h25.M X G) D17 DD4 D18 m_ENOUGH
 have D26:=be8 (P:=l.prog) (w:=w) (base:=base) B (h26.M X G) D17
 have D27:=be9 (P:=l.prog) (w:=w) (base:=base) B (h27.M X G) D8 D17
 have D28:=bf1 (P:=l.prog) (w:=w) (base:=base) B (h28.M X G) D2 D19
 have D29:=bf2 (P:=l.prog) (w:=w) (base:=base) B (h29.M X G) D10 D20
 have D30:=bf4 (P:=l.prog) (w:=w) (base:=base) B (h30.M X G) D23 x_BadSet
 have D31:=bf6 (P:=l.prog) (w:=w) (base:=base) B (h31.M X G) D9 D27
 have D32:=bf7 (P:=l.prog) (w:=w) (base:=base) B (h32.M X G) D30 D4 D3 D28
 have D33:=bf8 (P:=l.prog) (w:=w) (base:=base) B (h33.M X G) D25 D26 D31 D27 cat_HearthError is_BadSet is_BadBoard is_ValueError
 have D34:=bf9 (P:=l.prog) (w:=w) (base:=base) B (h34.M X G) D32
 have D35:=bg1 (P:=l.prog) (w:=w) (base:=base) B (h35.M X G) D34
 exact aM2 (bg2 B F36 D12 D10 D29 D22 D25 D21 D35 D24 D14 D33)
theorem bg4 {l:OpenLaw}{q:Program}{loose:List Str}{XP:(Str->Option Value)->Heap->Prop}{YP:World->Heap->Prop}{d:DefRec}{K:Params->Frag} (hn:l.most=some 63) (hdf:d.params.defaults = [])
  (hY:∀ (w:World) (h:Heap),YP w h->(K w.params).In h)
  (F:∀ (w:World) (mg:Str->Option Value) (fa:Addr) (h:Heap),(K w.params).In h->h.Ns mainGlobals mg->mg d.name=some (.ref fa)->
   ∃ fd:FuncData,(∀ (s:Shared) (u:Value),BindsTo s fd ⟨[u],[]⟩ [("script",u)])/\∀ base:Heap,(K w.params).In base->base.Ns mainGlobals mg->dE l.prog w (K w.params) mg base eJ 8 fa fd ["script"] (rW (K w.params))) :
  WalkO q loose XP YP l.row.toRowW d [] (fun f vs=>PySem.call f vs):=
 L2.au8 (n:=63) (k:=8) (x:="script") (CX:=fun _=>eJ) (sp:=fun w=>rW (K w.params)) hn (by decide) hdf ⟨rfl,by decide,by decide⟩ hY F (fun _ _ a ns hl hO hS=>⟨a,ns,rfl,aM3 hO hS,hl,fun _=>rfl⟩) fun _ _ _ _ _ z=>z
end K_k59
open PySem PySem.W PyProof.Rows
theorem PySem.W.Fast.te13052408679150730464 : True := trivial
theorem PySem.W.Fast.te16555476440528808052 : True := trivial
theorem PySem.W.Fast.te5369427470323729400 : True := trivial
set_option maxRecDepth 100000 in
set_option maxHeartbeats 0 in
theorem PySem.Challenge.cw_kindleweb_k59_what_burns_on_boards_holds : PySem.Challenge.rw_kindleweb_k59_what_burns_on_boards.Holds := by
 w_on; o_law; k_head; (case hw => w_witness2)
 k_fill
 refine K_k59.bg4 (l := PySem.Challenge.rw_kindleweb_k59_what_burns_on_boards) rfl rfl (fun w h Y => PySem.W.kIn_of Y) ?F
 case F =>
  intro w mg fa h KX G hmg
  refine' K_k59.bg3 KX G hmg ?h0 ?h1 ?h2 ?h3 ?h4 ?h5 ?h6 ?h7 ?h8 ?h9 ?h10 ?h11 ?h12 ?h13 ?h14 ?h15 ?h16 ?h17 ?h18 ?h19 ?h20 ?h21 ?h22 ?h23 ?h24 ?h25 ?h26 ?h27 ?h28 ?h29 ?h30 ?h31 ?h32 ?h33 ?h34 ?h35 ?a36 ?l36 ?c36 ?k36 ?z_len ?z_range ?z_tuple ?z_list ?z_sorted ?z_all ?z_any ?z_zip ?z_min ?z_max ?z_sum ?z_isinstance ?z_int ?z_bool ?z_enumerate ?z_ENOUGHx ?z_MOST_HEARTHSx ?z_MOST_ROWSx ?z_MOST_WANTEDx ?aX_HE ?aX_BW ?aX_BS ?aX_BB ?aX_NP ?zX_BO ?zX_BP ?zX_BD ?zX_NW ?zX_NS ?zX_TM ?zX_NT ?zX_OR ?y_fg ?y_ft ?z_VE ?y1_HE ?y2_HE ?y3_HE ?y4_HE ?y5_HE ?y6_HE ?y7_HE ?y1_BW ?y2_BW ?y3_BW ?y4_BW ?y5_BW ?y6_BW ?y7_BW ?y1_BS ?y2_BS ?y3_BS ?y4_BS ?y5_BS ?y6_BS ?y7_BS ?y1_BB ?y2_BB ?y3_BB ?y4_BB ?y5_BB ?y6_BB ?y7_BB ?y1_NP ?y2_NP ?y3_NP ?y4_NP ?y5_NP ?y6_NP ?y7_NP ?sB_HE ?s_BW_HE ?s_BS_HE ?s_BB_HE ?s_NP_HE ?sN_BB ?s_BW_BB ?n_BW_BB ?s_BS_BB ?n_BS_BB ?s_NP_BB ?n_NP_BB ?sN_BS ?s_BW_BS ?n_BW_BS ?s_BB_BS ?n_BB_BS ?s_NP_BS ?n_NP_BS ?sV_BW ?sV_BS ?sV_BB ?sV_NP ?q_BB ?q_BS
  (case h0 | h1 | h2 | h3 | h4 | h5 | h6 | h7 | h8 | h9 | h10 | h11 | h12 | h13 | h14 | h15 | h16 | h17 | h18 | h19 | h20 | h21 | h22 | h23 | h24 | h25 | h26 | h27 | h28 | h29 | h30 | h31 | h32 | h33 | h34 | h35 => exact ⟨by k_is, ⟨⟨_, _, _, _, _, _, _, _, _, rfl, by k_is, by k_is⟩, by k_is⟩⟩)
  (case a36|l36|c36|k36|z_len|z_range|z_tuple|z_list|z_sorted|z_all|z_any|z_zip|z_min|z_max|z_sum|z_isinstance|z_int|z_bool|z_enumerate|z_ENOUGHx|z_MOST_HEARTHSx|z_MOST_ROWSx|z_MOST_WANTEDx|aX_HE|aX_BW|aX_BS|aX_BB|aX_NP|zX_BO|zX_BP|zX_BD|zX_NW|zX_NS|zX_TM|zX_NT|zX_OR|y_fg|y_ft|z_VE|y1_HE|y2_HE|y3_HE|y4_HE|y5_HE|y6_HE|y7_HE|y1_BW|y2_BW|y3_BW|y4_BW|y5_BW|y6_BW|y7_BW|y1_BS|y2_BS|y3_BS|y4_BS|y5_BS|y6_BS|y7_BS|y1_BB|y2_BB|y3_BB|y4_BB|y5_BB|y6_BB|y7_BB|y1_NP|y2_NP|y3_NP|y4_NP|y5_NP|y6_NP|y7_NP|sB_HE|s_BW_HE|s_BS_HE|s_BB_HE|s_NP_HE|sN_BB|s_BW_BB => k_is)
  (case n_BW_BB => decide)
  (case s_BS_BB => k_is)
  (case n_BS_BB => decide)
  (case s_NP_BB => k_is)
  (case n_NP_BB => decide)
  (case sN_BS|s_BW_BS => k_is)
  (case n_BW_BS => decide)
  (case s_BB_BS => k_is)
  (case n_BB_BS => decide)
  (case s_NP_BS => k_is)
  (case n_NP_BS => decide)
  (case sV_BW|sV_BS|sV_BB|sV_NP => k_is)
  (case q_BB|q_BS => k_exc)


