import PyProof.Rows.All
import Wide.All
import OpenK.AllK
import Wide.FinOn
import Lean
import PyProof.EqAt
import PyProof.EqKinds
import PyProof.TupleCall
import PyProof.NeKinds
import PyProof.Draws
import PyProof.ZipIter
import PyProof.DictUpdate
import PyProof.AutoSeq1
import PyProof.ListRange
import PyProof.ListMulRoad
import PyProof.FactsAll.tuple_2
import PyProof.Rows.SortShell
import PyProof.EnumFor
import PyProof.EnumMake
import PyProof.EnumStmt
import PyProof.Rows.SortWalk
import KE.KDictList
import PyProof.SumAny
import PyProof.ConsumeWalk
import PyProof.WalksMore
import PyProof.Rows.TupAssign
import PyProof.ExcArgsOwn
import PySem.Challenge.RW_kindleweb_k55_cheapest_seeds_of_woods
set_option Elab.async false
set_option linter.all false
set_option maxRecDepth 100000
set_option maxHeartbeats 4000000
section
open PySem PySem.Spec PyProof.Rows
noncomputable def bh8:=@wpAny_bind
noncomputable def bh9:=@List.size_toArray
noncomputable def bi0:=@List.mem_of_getElem?
noncomputable def bi1:=@Heap.get?_push_of_some
noncomputable def bi2:=@List.getElem?_eq_getElem
noncomputable def bi3:=@List.mem_singleton
noncomputable def bi4:=@List.length_map
noncomputable def bi5:=@List.getElem?_eq_some_iff
noncomputable def bi6:=@decide_eq_true
noncomputable def bi7:=@List.mem_append
noncomputable def bi8:=@Nat.le_refl
noncomputable def bi9:=@List.mem_cons_self
noncomputable def bj0:=@List.getD_eq_getElem?_getD
noncomputable def bj1:=@List.mem_cons
noncomputable def bj2:=@List.getElem?_map
noncomputable def bj3:=@wpAny_pure
noncomputable def bj4:=@List.length_append
noncomputable def bj5:=@decide_eq_false
noncomputable def bj6:=@List.mem_filter
noncomputable def bj7:=@List.mem_cons_of_mem
noncomputable def bj8:=@List.mem_map
noncomputable def bj9:=@Nat.lt_of_lt_of_le
noncomputable def bk0:=@Heap.get?_push_size
noncomputable def bk1:=@Heap.lt_size
noncomputable def bk2:=@List.map_append
noncomputable def bk3:=@Bool.false_ne_true
noncomputable def bk4:=@Int.toNat_natCast
noncomputable def bk5:=@List.mem_append_right
noncomputable def bk7:=@List.mem_append_left
noncomputable def bk9:=@List.length_cons
noncomputable def bl0:=@List.not_mem_nil
noncomputable def bl1:=@List.getElem?_set_ne
noncomputable def bl2:=@Option.some.inj
noncomputable def bl5:=@Bool.false_eq_true
noncomputable def bl6:=@List.take_of_length_le
noncomputable def bl7:=@List.pairwise_singleton
noncomputable def bl8:=@List.getElem?_append_left
noncomputable def bm0:=@List.map_cons
noncomputable def bm1:=@Nat.ne_of_lt
noncomputable def bm2:=@Bool.and_eq_true
noncomputable def bm3:=@List.length_set
noncomputable def bm4:=@List.take_add_one
noncomputable def bm6:=@Nat.le_trans
noncomputable def bm7:=@List.map_map
noncomputable def bm8:=@List.length_singleton
noncomputable def bm9:=@Nat.zero_le
noncomputable def bn0:=@of_decide_eq_true
noncomputable def bn1:=@List.replicate_succ
noncomputable def bn2:=@Nat.lt_irrefl
noncomputable def bn3:=@List.getElem?_set_self
noncomputable def bn5:=@Nat.le_of_lt
noncomputable def bn7:=@List.length_filter_le
noncomputable def bn9:=@Classical.byContradiction
noncomputable def bo0:=@PySem.mem_of_lookup
noncomputable def bo1:=@List.length_take
noncomputable def bo2:=@List.nodup_cons
noncomputable def bo3:=@List.pairwise_map
noncomputable def bo4:=@Int.emod_nonneg
noncomputable def bo7:=@PySem.F.plainAttrs_list
noncomputable def bo8:=@List.sum_cons
noncomputable def bp0:=@PySem.W.kia_one
noncomputable def bp1:=@List.append_nil
noncomputable def bp2:=@List.lookup_cons
noncomputable def bp3:=@List.take_length
noncomputable def bp6:=@PyProof.Rows.callWith_type1
noncomputable def bp8:=@Bool.eq_iff_iff
noncomputable def bp9:=@if_false
noncomputable def bq0:=@List.length_drop
noncomputable def bq1:=@wpAny_call_entry
noncomputable def bq2:=@or_false
noncomputable def bq3:=@List.filter_cons_of_neg
noncomputable def bq5:=@wpAny_newObj_type
noncomputable def bq6:=@decide_eq_true_eq
noncomputable def bq7:=@wpAny_mono
noncomputable def bq9:=@List.all_eq_true
noncomputable def br0:=@Nat.le_add_right
noncomputable def br1:=@List.map_congr_left
noncomputable def br3:=@List.mem_iff_getElem?
noncomputable def br4:=@List.nodup_append
noncomputable def br5:=@wpAny_callSpecial?_slot
noncomputable def br6:=@List.getElem?_cons_succ
noncomputable def br7:=@List.filter_cons_of_pos
noncomputable def br8:=@List.pairwise_cons
noncomputable def br9:=@List.perm_ext_iff_of_nodup
noncomputable def bs0:=@wpAny_holding
noncomputable def bs1:=@Nat.ne_of_gt
noncomputable def bs2:=@beq_self_eq_true
noncomputable def bs3:=@List.filter_cons
noncomputable def bs6:=@wpAny_field
noncomputable def bs7:=@List.flatten_cons
noncomputable def bs8:=@List.length_replicate
noncomputable def bs9:=@List.getElem?_eq_none
noncomputable def bt2:=@PySem.F.slot_list_append
noncomputable def bt3:=@PySem.F.type_list_append
noncomputable def bt4:=@List.find?_cons
noncomputable def bt5:=@List.mem_singleton_self
noncomputable def bt6:=@decide_eq_false_iff_not
noncomputable def bt7:=@wpAny_truthy_bool
noncomputable def bt8:=@List.getElem?_append_right
noncomputable def bu0:=@Bool.and_false
noncomputable def bu1:=@List.Pairwise.nil
noncomputable def bu2:=@Bool.eq_false_iff
noncomputable def bu3:=@Int.ne_of_lt
noncomputable def bu4:=@PyProof.Rows.slot_tuple_getitem
noncomputable def bu6:=@Int.emod_lt_of_pos
noncomputable def bv2:=@List.mem_range
noncomputable def bv6:=@Array.getD_eq_getD_getElem?
noncomputable def bv8:=@List.filter_eq_nil_iff
noncomputable def bv9:=@List.any_cons
noncomputable def bw0:=@Nat.le_of_not_lt
noncomputable def bw1:=@List.mem_filterMap
noncomputable def bw3:=@wpAny_seqItems
noncomputable def bw4:=@wpAny_setField_rec
noncomputable def bw5:=@wpAny_execs_nil
noncomputable def bw6:=@wpAny_passesOwn
noncomputable def bw8:=@PassesOwn.never
noncomputable def bx0:=@Int.zero_add
noncomputable def bx1:=@Nat.lt_succ_of_lt
noncomputable def bx2:=@True.intro
noncomputable def bx4:=@Heap.size_push
noncomputable def bx5:=@List.Perm.refl
end
namespace L2
open PySem PySem.Spec PyProof.Rows
noncomputable abbrev aH:=Sum Int Str
noncomputable def mH:aH->Value->Bool
 | .inl k,v=>Value.isInt k v
 | .inr x,v=>Value.isStrOf x v
noncomputable def ak4 (w:World):aH->Int
 | .inl k=>hashInt k
 | .inr x=>hashStr w x
theorem iU:∀ {k:aH}{v:Value},mH k v=true->(∃ i t,k=Sum.inl i/\v=Value.int i t) ∨ (∃ x t,k=Sum.inr x/\v=Value.str x t)
 | .inl i,v,h=>by
  obtain ⟨t,e⟩:=Value.isInt_shape (k:=i) (v:=v) h
  exact .inl ⟨i,t,rfl,e⟩
 | .inr x,v,h=>by
  obtain ⟨t,e⟩:=Value.isStrOf_shape (x:=x) (v:=v) h
  exact .inr ⟨x,t,rfl,e⟩
theorem ak5 (i:Int) (t:Tok):mH (.inl i) (.int i t)=true:=by simp [mH,Value.isInt]
theorem ak6 (x:Str) (t:Tok):mH (.inr x) (.str x t)=true:=by simp [mH,Value.isStrOf]
theorem ak7 (a b:Int):decide ((Sum.inl a:aH)=Sum.inl b)=(a == b):=by
 by_cases e:a=b
 ·subst e; simp
 ·have h : ¬ (Sum.inl a:aH)=Sum.inl b:=fun q=>e (Sum.inl.inj q)
  rw [bj5 h]
  exact (beq_eq_false_iff_ne.mpr e).symm
theorem ak8 (a b:Str):decide ((Sum.inr a:aH)=Sum.inr b)=decide (a=b):=by
 by_cases e:a=b
 ·subst e; simp
 ·have h : ¬ (Sum.inr a:aH)=Sum.inr b:=fun q=>e (Sum.inr.inj q)
  rw [bj5 h,bj5 e]
theorem ak9 (a:Int) (b:Str):decide ((Sum.inl a:aH)=Sum.inr b)=false:=bj5 (fun q=>nomatch q)
theorem al0 (a:Str) (b:Int):decide ((Sum.inr a:aH)=Sum.inl b)=false:=bj5 (fun q=>nomatch q)
noncomputable def fF (prog:Program) (w:World):PySem.KeyKind prog w aH where
 is:=mH
 hash:=ak4 w
 inj:=fun v a b ha hb=>by
  rcases iU ha with ⟨i,t,rfl,rfl⟩ | ⟨x,t,rfl,rfl⟩
  ·rcases iU hb with ⟨j,u,rfl,e⟩ | ⟨y,u,rfl,e⟩
   ·injection e with e1 _; rw [e1]
   ·exact nomatch e
  ·rcases iU hb with ⟨j,u,rfl,e⟩ | ⟨y,u,rfl,e⟩
   ·exact nomatch e
   ·injection e with e1 _; rw [e1]
 byValue:=fun k v h=>by
  rcases iU h with ⟨i,t,rfl,rfl⟩ | ⟨x,t,rfl,rfl⟩ <;> rfl
 pyHash:=fun hv h=>by
  rcases iU hv with ⟨i,t,rfl,rfl⟩ | ⟨x,t,rfl,rfl⟩
  ·exact wpAny_pyHash_int h
  ·exact wpAny_pyHash_str h
 eqBool:=fun hu hv h=>by
  rcases iU hu with ⟨i,t,rfl,rfl⟩ | ⟨x,t,rfl,rfl⟩
  ·rcases iU hv with ⟨j,u,rfl,rfl⟩ | ⟨y,u,rfl,rfl⟩
   ·rw [ak7] at h; exact wpAny_eqBool_int h
   ·rw [ak9] at h; exact SeqAt.EqAt.int_str i t y u _ _ _ _ h
  ·rcases iU hv with ⟨j,u,rfl,rfl⟩ | ⟨y,u,rfl,rfl⟩
   ·rw [al0] at h; exact SeqAt.EqAt.str_int x t j u _ _ _ _ h
   ·rw [ak8] at h; exact wpAny_eqBool_str h
 «strs»:=fun k x t v h=>by
  rcases iU h with ⟨i,u,rfl,e⟩ | ⟨y,u,rfl,e⟩
  ·exact nomatch e
  ·injection e with e1 _
   subst e1
   cases v <;> rfl
theorem al1 (prog:Program) (w:World) (i:Int) (t:Tok):(fF prog w).is (.inl i) (.int i t)=true:=ak5 i t
theorem al2 (prog:Program) (w:World) (x:Str) (t:Tok):(fF prog w).is (.inr x) (.str x t)=true:=ak6 x t
inductive V where
 | non | bl (b:Bool) | int (i:Int) | str (x:Str) | byt (b:Array UInt8) | flt (b:UInt64) | ref (a:Addr) | ty (n:String)
 deriving DecidableEq
noncomputable def aZ:V->Value->Prop
 | .non,u=>u=Value.none
 | .bl b,u=>u=Value.bool b
 | .int i,u=>∃ t,u=Value.int i t
 | .str x,u=>∃ t,u=Value.str x t
 | .byt b,u=>∃ t,u=Value.bytes b t
 | .flt b,u=>∃ t,u=Value.float b t
 | .ref a,u=>u=Value.ref a
 | .ty n,u=>u=Value.type n
noncomputable abbrev aO:List V->List Value->Prop:=Paired aZ
theorem aO.length {xs:List V}{us:List Value} (r:aO xs us):xs.length=us.length:=Paired.length r
theorem aO.get:∀ {xs:List V}{us:List Value}{i:Nat}{x:V},aO xs us->xs[i]? = some x->∃ u,us[i]? = some u/\aZ x u
 | _,_,_,_,.nil,e=>by simp at e
 | _,_,0,_,.cons r _,e=>by simp at e; subst e; exact⟨_,rfl,r⟩
 | _,_,i+1,x,.cons _ t,e=>by
  obtain ⟨u,h1,h2⟩:=aO.get (i:=i) (x:=x) t (by simpa using e)
  exact⟨u,by simpa using h1,h2⟩
theorem aO.set {x:V}{u:Value} (r:aZ x u):∀ {xs:List V}{us:List Value} (i:Nat),aO xs us->aO (xs.set i x) (us.set i u)
 | _,_,_,.nil=>.nil
 | _,_,0,.cons _ t=>.cons r t
 | _,_,i+1,.cons q t=>.cons q (aO.set r i t)
theorem aO.append:∀ {xs ys:List V}{us ws:List Value},aO xs us->aO ys ws->aO (xs ++ ys) (us ++ ws)
 | _,_,_,_,.nil,s=>s
 | _,_,_,_,.cons r t,s=>.cons r (aO.append t s)
theorem aO.take:∀ {xs:List V}{us:List Value} (n:Nat),aO xs us->aO (xs.take n) (us.take n)
 | _,_,0,_=>.nil
 | _,_,_+1,.nil=>.nil
 | _,_,n+1,.cons r t=>.cons r (aO.take n t)
theorem aO.drop:∀ {xs:List V}{us:List Value} (n:Nat),aO xs us->aO (xs.drop n) (us.drop n)
 | _,_,0,r=>r
 | _,_,_+1,.nil=>.nil
 | _,_,n+1,.cons _ t=>aO.drop n t
noncomputable def lH:Option V->Option Value->Prop
 | some v,some u=>aZ v u
 | none,none=>True
 | _,_=>False
noncomputable def KV {κ:Type}:List (κ × V)->List (κ × Value)->Prop:=Paired fun (p:κ × V) (q:κ × Value)=>p.1=q.1/\aZ p.2 q.2
noncomputable def kV:aH->V
 | .inl i=>.int i
 | .inr x=>.str x
inductive HO where
 | lst (xs:List V)
 | tup (xs:List V)
 | dK (kvs:List (aH × V)) | dT (kvs:List (List aH × V))
 | set (S:Int->Bool) (n:Nat)
 | ins (C dx:Addr) (fs:List (Str × V))
 | own (x:Addr)
 | xd (fs:List (Str × V))
 | met (f x:Addr)
 | rng (lo hi:Int)
 | frz (o:Obj) (u:HO)
 | tbl (ps:Array Value)
 | ext (φ:Heap->Prop)
noncomputable abbrev Hp:=Addr->Option HO
noncomputable def upd (H:Hp) (a:Addr) (o:HO):Hp:=fun b=>if b=a then some o else H b
theorem bI {H:Hp}{a:Addr}{o:HO}:upd H a o a=some o:=by unfold upd; rw [if_pos rfl]
theorem aR {H:Hp}{a b:Addr}{o:HO} (h:b ≠ a):upd H a o b=H b:=by unfold upd; rw [if_neg h]
theorem al3 {H:Hp}{a:Addr}{o u:HO}:upd (upd H a o) a u=upd H a u:=by
 funext b; unfold upd; split <;> rfl
theorem al4 {H:Hp}{a b:Addr}{o u:HO} (h:H a=some o) (h':H b=some u) (d:o ≠ u):a ≠ b:=by
 intro e; subst e; rw [h] at h'; exact d (bl2 h')
theorem e8 {H:Hp}{a b:Addr}{o:HO} (h:H a=some o) (h':H b=none):a ≠ b:=by
 intro e; subst e; rw [h] at h'; cases h'
noncomputable def iV (h:Heap) (a:Addr):Prop:=∀ o,h.get? a=some o->o.dict=none
theorem iV.new (h:Heap) (o:Obj) (d:o.dict=none) (s:o.isFreed=false:=by rfl):iV (h.push o) h.objs.size:=fun u e=>by
 rw [bk0 h (o:=o) s] at e
 cases e; exact d
theorem iV.stay {h h':Heap}{a:Addr}{o:Obj} (n:iV h a) (e:h.get? a=some o) (e':h'.get? a=some o):iV h' a:=fun u hu=>by
 rw [e'] at hu; cases hu; exact n _ e
section
variable (P : Program) (w : World)
noncomputable def bW (H:Hp) (h:Heap) (a:Addr):HO->Prop
 | .lst xs=>xs.length<=sizeLine/\∃ (its:List Value) (n:Nat),aO xs its/\h.get? a=some { cls:=.type "list",data:=.seq its.toArray n }
 | .tup xs=>xs.length<=sizeLine/\∃ its:List Value,aO xs its/\IsTup h a its.toArray/\iV h a
 | .dK kvs=>kvs.length<=sizeLine/\(a == sysModules)=false/\∃ vs,KV kvs vs/\h.DictOf (fF P w) a vs
 | .dT kvs=>kvs.length<=sizeLine/\(a == sysModules)=false/\∃ xs:List (List aH × Addr × Value),
   Paired (fun (p:List aH × V) (q:List aH × Addr × Value)=>p.1=q.1/\H q.2.1=some (.tup (p.1.map kV))/\aZ p.2 q.2.2) kvs xs/\
   ∃ o es ep,h.get? a=some o/\o.ExactDict/\o.data = .dict es ep/\es.toList=xs.map (entryOfKey (tupleKind (fF P w)))/\(xs.map (·.1)).Nodup
 | .set S n=>h.SetOf (intKind P w) a S n
 | .ins C dx fs=>H dx=some (.own a)/\fs.length<=1000/\dx ≠ a/\h.get? a=some (PySem.W.instObj C dx)/\
   ∃ mA,h.Ns1 dx mA/\(∀ f,lH (fs.lookup f) (mA f))/\PySem.Within mA (fs.map (·.1))
 | .own _=>∃ o,h.get? a=some o
 | .xd fs=>∃ mA,h.Ns1 a mA/\∀ f,lH (fs.lookup f) (mA f)
 | .rng lo hi=>∃ t u v,h.get? a=some { cls:=.type "range",data:=.fields #[.int lo t,.int hi u,.int 1 v] }
 | .frz o u=>h.get? a=some o/\bW H h a u
 | .tbl ps=>h.get? a=some { cls:=.none,data:=.fields ps }
 | .met f x=>h.get? a=some (PySem.W.methodObj (.ref f) (.ref x))
 | .ext φ=>φ h/\(∃ o,h.get? a=some o)/\∀ h1 h2:Heap,φ h1->(∀ o,h1.get? a=some o->h2.get? a=some o)->φ h2
noncomputable def bZ (H:Hp) (h:Heap):Prop:=∀ a o,H a=some o->bW P w H h a o
end
section
variable {P : Program} {w : World} {H H' : Hp} {h h' : Heap} {a : Addr} {o : HO}
theorem bW.lt (x:bW P w H h a o):a < h.objs.size:=by
 cases o with
 | lst xs=>obtain ⟨_,_,_,_,e⟩:=x; exact bk1 e
 | tup xs=>obtain ⟨_,_,_,p,_⟩:=x; exact p.lt
 | dK kvs=>obtain ⟨_,_,_,_,o,_,_,e,_⟩:=x; exact bk1 e
 | dT kvs=>obtain ⟨_,_,_,_,o,_,_,e,_⟩:=x; exact bk1 e
 | set S n=>obtain ⟨o,_,_,_,e,_⟩:=x; exact bk1 e
 | ins C dx fs=>obtain ⟨_,_,_,e,_⟩:=x; exact bk1 e
 | own y=>obtain ⟨_,e⟩:=x; exact bk1 e
 | xd fs=>obtain ⟨_,⟨_,_,_,e,_⟩,_⟩:=x; exact bk1 e
 | rng lo hi=>obtain ⟨_,_,_,e⟩:=x; exact bk1 e
 | frz ob u=>obtain ⟨e,_⟩:=x; exact bk1 e
 | tbl ps=>exact bk1 (show h.get? a=some _ from x)
 | met f y=>exact bk1 (show h.get? a=some _ from x)
 | ext φ=>obtain ⟨_,⟨_,e⟩,_⟩:=x; exact bk1 e
theorem Paired.mapP {α β:Type}{F G:α->β->Prop}:∀ {l₁:List α}{l₂:List β},Paired F l₁ l₂->(∀ a b,F a b->G a b)->Paired G l₁ l₂
 | _,_,.nil,_=>.nil
 | _,_,.cons r t,f=>.cons (f _ _ r) (Paired.mapP t f)
theorem bW.stay (x:bW P w H h a o) (k:∀ b u,(b=a ∨ H b=some (.own a))->h.get? b=some u->h'.get? b=some u)
  (ho:∀ b,H b=some (.own a)->H' b=some (.own a)) (ht:∀ b xs,H b=some (.tup xs)->H' b=some (.tup xs)):bW P w H' h' a o:=by
 induction o with
 | lst xs=>obtain ⟨z,its,n,r,e⟩:=x; exact⟨z,its,n,r,k _ _ (.inl rfl) e⟩
 | tup xs=>obtain ⟨z,its,r,⟨ob,e,c⟩,nd⟩:=x; exact⟨z,its,r,⟨ob,k _ _ (.inl rfl) e,c⟩,nd.stay e (k _ _ (.inl rfl) e)⟩
 | dK kvs=>obtain ⟨z,y,vs,r,ob,es,ep,e,c⟩:=x; exact⟨z,y,vs,r,ob,es,ep,k _ _ (.inl rfl) e,c⟩
 | dT kvs=>
  obtain ⟨z,y,xs,r,ob,es,ep,e,c⟩:=x
  exact⟨z,y,xs,Paired.mapP r fun p q z=>⟨z.1,ht _ _ z.2.1,z.2.2⟩,ob,es,ep,k _ _ (.inl rfl) e,c⟩
 | set S n=>obtain ⟨ob,es,ep,t,e,c⟩:=x; exact⟨ob,es,ep,t,k _ _ (.inl rfl) e,c⟩
 | ins C dx fs=>
  obtain ⟨d,z,ne,e,mA,⟨od,es,ep,e2,c⟩,r⟩:=x
  exact⟨ho _ d,z,ne,k _ _ (.inl rfl) e,mA,⟨od,es,ep,k _ _ (.inr d) e2,c⟩,r⟩
 | own y=>obtain ⟨ob,e⟩:=x; exact⟨ob,k _ _ (.inl rfl) e⟩
 | xd fs=>obtain ⟨mA,⟨od,es,ep,e,c⟩,r⟩:=x; exact⟨mA,⟨od,es,ep,k _ _ (.inl rfl) e,c⟩,r⟩
 | rng lo hi=>obtain ⟨t,u,v,e⟩:=x; exact⟨t,u,v,k _ _ (.inl rfl) e⟩
 | frz ob u ih=>obtain ⟨e,q⟩:=x; exact⟨k _ _ (.inl rfl) e,ih q⟩
 | tbl ps=>
  have e:h.get? a=some { cls:=.none,data:=.fields ps }:=x
  show h'.get? a=some { cls:=.none,data:=.fields ps }
  exact k a _ (.inl rfl) e
 | met f y=>
  have e:h.get? a=some (PySem.W.methodObj (.ref f) (.ref y)):=x
  show h'.get? a=some (PySem.W.methodObj (.ref f) (.ref y))
  exact k a _ (.inl rfl) e
 | ext φ=>obtain ⟨p,⟨o,e⟩,st⟩:=x; exact⟨st _ _ p fun o q=>k _ _ (.inl rfl) q,⟨o,k _ _ (.inl rfl) e⟩,st⟩
theorem bZ.lt (x:bZ P w H h) (e:H a=some o):a < h.objs.size:=(x a o e).lt
theorem bZ.fresh (x:bZ P w H h) (e:h.objs.size<=a):H a=none:=by
 cases q:H a with
 | none=>rfl
 | some u=>exact absurd (bj9 (x.lt q) e) (bn2 _)
theorem bZ.kept (x:bZ P w H h) (k:∀ b u,h.get? b=some u->h'.get? b=some u):bZ P w H h':=fun a o e=>
 (x a o e).stay (fun b u _ q=>k b u q) (fun _ q=>q) fun _ _ q=>q
theorem bZ.laid (x:bZ P w H h) (k:∀ b u,h.get? b=some u->h'.get? b=some u) (hp:h.objs.size<=a) (new:bW P w (upd H a o) h' a o):bZ P w (upd H a o) h':=fun b u e=>by
 have hn:=x.fresh hp
 by_cases hb:b=a
 ·subst hb; rw [bI] at e; cases e; exact new
 ·rw [aR hb] at e
  exact (x b u e).stay (fun c v _ q=>k c v q) (fun c q=>by rw [aR (e8 q hn)]; exact q) fun c xs q=>by rw [aR (e8 q hn)]; exact q
end
noncomputable def Rd (H:Hp) (a:Addr) (u:HO):Prop:=H a=some u ∨ ∃ o,H a=some (.frz o u)
theorem Rd.ok {P:Program}{w:World}{H:Hp}{h:Heap}{a:Addr}{u:HO} (r:Rd H a u) (x:bZ P w H h):bW P w H h a u:=by
 rcases r with r | ⟨o,r⟩
 ·exact x a u r
 ·obtain ⟨_,q⟩:=x a _ r
  exact q
noncomputable def oG:Option HO->Prop
 | some (.lst _)=>True
 | some (.dK _)=>True
 | some (.dT _)=>True
 | some (.set _ _)=>True
 | some (.ins _ _ _)=>True
 | some (.ext _)=>True
 | _=>False
section
variable {P : Program} {w : World} {H : Hp} {h h' : Heap} {x e : Addr} {o' : HO}
theorem bZ.write (ok:bZ P w H h) (mu:oG (H x)) (he:e=x ∨ H e=some (.own x)) (k:∀ b u,b ≠ e->h.get? b=some u->h'.get? b=some u) (heo:∃ u,h'.get? e=some u)
  (new:bW P w (upd H x o') h' x o'):bZ P w (upd H x o') h':=fun b u q=>by
 have nown:∀ c y,H c=some (.own y)->c ≠ x:=fun c y r z=>by subst z; rw [r] at mu; exact mu
 have ntup:∀ c xs,H c=some (.tup xs)->c ≠ x:=fun c xs r z=>by subst z; rw [r] at mu; exact mu
 by_cases hb:b=x
 ·subst hb; rw [bI] at q; cases q; exact new
 ·rw [aR hb] at q
  by_cases hbe:b=e
  ·have q':H b=some (.own x):=by
    rcases he with z | z
    ·exact absurd (hbe.trans z) hb
    ·rw [hbe]; exact z
   rw [q] at q'; cases q'
   obtain ⟨v,hv⟩:=heo
   exact⟨v,by rw [hbe]; exact hv⟩
  ·refine (ok b u q).stay (fun c v hc r=>k c v ?_ r) (fun c r=>by rw [aR (nown c b r)]; exact r) fun c xs r=>by rw [aR (ntup c xs r)]; exact r
   rcases hc with rfl | hc
   ·exact hbe
   ·rintro rfl
    rcases he with z | z
    ·exact nown c b hc z
    ·rw [hc] at z; cases z; exact hb rfl
end
structure Un (fs ex:List Addr) (H H':Hp) (h h':Heap):Prop where
 keep:∀ b o,h.get? b=some o->H b=none->b ∉ fs->b ∉ ex->h'.get? b=some o
 slot:∀ b o,h.get? b=some o->H b=none->b ∈ fs->b ∉ ex->∃ sl,h'.get? b=some { o with slots:=sl }
 free:∀ b o,h.get? b=some o->H b=none->b ∉ ex->H' b=none
 there:∀ b o,h.get? b=some o->b ∉ ex->∃ o',h'.get? b=some o'
 tups:∀ b xs,H b=some (.tup xs)->H' b=some (.tup xs)
 frzs:∀ b o u,H b=some (.frz o u)->H' b=some (.frz o u)
 tbls:∀ b ps,H b=some (.tbl ps)->∃ more,H' b=some (.tbl (ps ++ more))
section
variable {fs fs' ex ex' : List Addr} {H H1 H2 : Hp} {h h1 h2 h' : Heap} {a x e : Addr} {o : HO}
theorem Un.any (u:Un fs ex H H1 h h1) {b:Addr}{ob:Obj} (q:h.get? b=some ob) (n:H b=none) (hx:b ∉ ex):∃ sl,h1.get? b=some { ob with slots:=sl }:=by
 by_cases hb:b ∈ fs
 ·exact u.slot b ob q n hb hx
 ·exact⟨ob.slots,u.keep b ob q n hb hx⟩
theorem Un.kept (k:∀ b u,h.get? b=some u->h'.get? b=some u):Un fs ex H H h h':=
 ⟨fun b ob q _ _ _=>k b ob q,fun b ob q _ _ _=>⟨ob.slots,k b ob q⟩,fun _ _ _ n _=>n,fun b ob q _=>⟨ob,k b ob q⟩,fun _ _ q=>q,fun _ _ _ q=>q,fun _ ps q=>⟨#[],by rw [q]; simp⟩⟩
theorem Un.refl:Un fs ex H H h h:=Un.kept fun _ _ q=>q
theorem Un.laid (k:∀ b u,h.get? b=some u->h'.get? b=some u) (hp:h.objs.size<=a) (hn:H a=none):Un fs ex H (upd H a o) h h' where
 keep:=fun b u q _ _ _=>k b u q
 slot:=fun b u q _ _ _=>⟨u.slots,k b u q⟩
 free:=fun b u q n _=>by rw [aR (bm1 (bj9 (bk1 q) hp))]; exact n
 there:=fun b u q _=>⟨u,k b u q⟩
 tups:=fun b xs q=>by rw [aR (e8 q hn)]; exact q
 frzs:=fun b u xs q=>by rw [aR (e8 q hn)]; exact q
 tbls:=fun b ps q=>⟨#[],by rw [aR (e8 q hn),q]; simp⟩
theorem Un.write (mu:oG (H x)) (he:e=x ∨ H e=some (.own x)) (k:∀ b u,b ≠ e->h.get? b=some u->h'.get? b=some u) (heo:∃ u,h'.get? e=some u):Un fs ex H (upd H x o) h h':=by
 have hx:∀ b,H b=none->b ≠ x:=fun b n z=>by subst z; rw [n] at mu; exact mu
 have hb:∀ b,H b=none->b ≠ e:=fun b n z=>by
  subst z
  rcases he with r | r
  ·exact hx b n r
  ·rw [n] at r; cases r
 have hm:∀ b u,H b=some u->¬ oG (some u)->b ≠ x:=fun b u q nm z=>by subst z; rw [q] at mu; exact nm mu
 refine⟨fun b u q n _ _=>k b u (hb b n) q,fun b u q n _ _=>⟨u.slots,k b u (hb b n) q⟩,fun b u q n _=>by rw [aR (hx b n)]; exact n,fun b u q _=>?_,
  fun b xs q=>by rw [aR (hm b _ q fun z=>z)]; exact q,fun b u xs q=>by rw [aR (hm b _ q fun z=>z)]; exact q,fun b ps q=>⟨#[],by rw [aR (hm b _ q fun z=>z),q]; simp⟩⟩
 by_cases hbe:b=e
 ·subst hbe; exact heo
 ·exact⟨u,k b u hbe q⟩
end
noncomputable def qX (h:Heap) (H:Hp):List Addr:=(List.range h.objs.size).filter fun a=>(H a).isSome
noncomputable def jF (h:Heap) (H:Hp):Heap:=PySem.W.hideAll h (qX h H)
theorem al5 (h:Heap) (H:Hp):(jF h H).objs.size=h.objs.size:=PySem.W.hideAll_size _ _
theorem al6 {h:Heap}{H:Hp}{b:Addr}{o:Obj} (e:h.get? b=some o) (n:H b=none):(jF h H).get? b=some o:=
 PySem.W.hideAll_get _ e fun hm=>by
  have q:(H b).isSome=true:=(bj6.mp hm).2
  rw [n] at q; simp at q
theorem al7 {h:Heap}{H:Hp}{b:Addr}{o:Obj} (e:(jF h H).get? b=some o):h.get? b=some o/\H b=none:=by
 have e':h.get? b=some o:=PySem.W.of_hideAll (qX h H) e
 refine⟨e',?_⟩
 cases q:H b with
 | none=>rfl
 | some x=>
  have hm:b ∈ qX h H:=bj6.mpr ⟨bv2.mpr (bk1 e'),by simp [q]⟩
  have z:(jF h H).get? b=none:=PySem.W.hideAll_none (qX h H) hm
  rw [z] at e; cases e
noncomputable def oH (g h:Heap) (L:Addr):List (Addr × Obj):=(List.range h.objs.size).filterMap fun a=>if a=L ∨ (g.get? a).isSome=true then none else (h.get? a).map fun o=>(a,o)
theorem uL {g h:Heap}{L a:Addr}{o:Obj} (h1:a ≠ L) (h2:g.get? a=none) (h3:h.get? a=some o):(a,o) ∈ oH g h L:=
 bw1.mpr ⟨a,bv2.mpr (bk1 h3),by simp [h1,h2,h3]⟩
theorem al8 {g h:Heap}{L:Addr}{p:Addr × Obj} (hp:p ∈ oH g h L):p.1 ≠ L/\g.get? p.1=none/\h.get? p.1=some p.2:=by
 obtain ⟨b,_,e⟩:=bw1.mp hp
 split at e
 ·cases e
 ·rename_i hn
  cases q:h.get? b with
  | none=>rw [q] at e; simp at e
  | some u=>
   rw [q] at e
   simp only [Option.map_some,Option.some.injEq] at e
   subst e
   refine⟨fun z=>hn (.inl z),?_,q⟩
   show g.get? b=none
   cases r:g.get? b with
   | none=>rfl
   | some v=>exact (hn (.inr (by simp [r]))).elim
noncomputable def dO (g h:Heap) (L d:Addr):List (Addr × Obj):=(oH g h L).filter fun p=>decide (p.1 ≠ d)
theorem A1 {g h:Heap}{L:Addr}:News g L h (oH g h L):=fun p hp=>let ⟨a,b,c⟩:=al8 hp; ⟨c,a,b⟩
structure Mod (K:PySem.W.Frag) (mg:Str->Option Value) (base:Heap):Prop where
 kin:K.In base
 glob:base.Ns mainGlobals mg
 blt:∃ mb,base.Ns builtinsNs mb/\∀ x:Str,x ≠ "__name__"->mb x=bootBuiltins x
 nolimit:base.NoLimit
structure Cx where
 prog:Program
 w:World
 K:PySem.W.Frag
 mg:Str->Option Value
 base:Heap
 A:Around
 N:List Str
 s₀:Shared
 H₀:Hp
 env:Env
 outer:List Env
 stack:List Env
 ex:List Addr
 fn:Str->Bool
 calm:Bool
 pn:List (Addr × Obj)
 xe:Value->Shared->Prop
noncomputable def bQ (l:List Env):List Addr:=l.filterMap (·.frame)
noncomputable abbrev Cx.fs (X:Cx):List Addr:=bQ X.outer
noncomputable def gN (sc:Scope) (x:Str):Prop:=sc.names.lookup x=some .local ∨ sc.names.lookup x=some .cell ∨ sc.names.lookup x=some .free
noncomputable def iE (sc:Scope) (x:Str):Prop:=sc.names.lookup x=some .local ∨ sc.names.lookup x=some .cell
noncomputable def al9 (env:Env) (h:Heap) (m:Str->Option Value) (x:Str) (u:Value):Prop:=
 (env.kindOf x=some .local/\m x=some u) ∨ ((env.kindOf x=some .cell ∨ env.kindOf x=some .free)/\∃ c,env.cells.lookup x=some c/\h.IsCell c (some u))
structure Cx.Ok (X:Cx):Prop where
 mod:Mod X.K X.mg X.base
 kind:X.env.scope.kind = .function
 glob:X.env.globals=mainGlobals
 blt:X.env.builtins=builtinsNs
 above:X.s₀.heap.objs.size<=X.env.locals
 inj:∀ x y c,X.env.cells.lookup x=some c->X.env.cells.lookup y=some c->x=y
 has:∀ x,(X.env.kindOf x=some .cell ∨ X.env.kindOf x=some .free)->∃ c,X.env.cells.lookup x=some c
 cab:∀ x c,X.fn x=true->X.env.cells.lookup x=some c->X.s₀.heap.objs.size<=c
 hd:X.calm=true->X.A.handled=none
 frames:X.A.frames=some X.stack
 stk:X.stack=X.outer ∨ (X.stack=X.env :: X.outer/\X.env.frame=some X.env.locals)
 exf:∀ b ∈ X.ex,b ≠ X.env.locals/\∀ x c,X.env.cells.lookup x=some c->c ≠ b
 bs:∀ b o,X.base.get? b=some o->X.s₀.heap.get? b=some o/\X.H₀ b=none
 bsz:X.base.objs.size<=X.s₀.heap.objs.size
 noex:∀ b o,X.base.get? b=some o->b ∉ X.ex
 exfs:∀ b ∈ X.ex,b ∉ X.fs
 funs:X.s₀.heap.FunFrames X.base X.outer
 frf:∀ b ∈ X.fs,X.H₀ b=none
structure a8 (X:Cx) (pins:List (Addr × Obj)) (σ:List (Option V)) (H:Hp) (s:Shared):Prop where
 ok:X.Ok
 os:s.os=X.s₀.os
 bare:AllBare s.gens
 base:Un X.fs X.ex X.H₀ H X.s₀.heap s.heap
 loc:∃ m,s.heap.Ns X.env.locals m/\∀ (i:Nat) (x:Str) (v:V),X.N[i]? = some x->σ[i]? = some (some v)->gN X.env.scope x->∃ u,aZ v u/\al9 X.env s.heap m x u
 cell:∀ x c,X.env.cells.lookup x=some c->∃ v,s.heap.IsCell c v
 free:H X.env.locals=none
 freeC:∀ x c,X.env.cells.lookup x=some c->H c=none
 pin:∀ p ∈ X.pn ++ pins,s.heap.get? p.1=some p.2/\H p.1=none/\p.1 ≠ X.env.locals/\p.1 ∉ X.fs/\∀ v,p.2.data ≠ .cell v
 hok:bZ X.prog X.w H s.heap
 len:σ.length=X.N.length
section
variable {X : Cx} {pins : List (Addr × Obj)} {σ : List (Option V)} {H H' : Hp} {s : Shared} {h' : Heap}
theorem Cx.Ok.nofr (ok:X.Ok) {b:Addr}{o:Obj} (e:X.base.get? b=some o):b ∉ X.fs:=fun hb=>by
 have:=(ok.funs.mem hb).1
 rw [e] at this; cases this
theorem a8.bs (I:a8 X pins σ H s):∀ b o,X.base.get? b=some o->s.heap.get? b=some o/\H b=none:=fun b o e=>
 ⟨I.base.keep b o (I.ok.bs b o e).1 (I.ok.bs b o e).2 (I.ok.nofr e) (I.ok.noex b o e),I.base.free b o (I.ok.bs b o e).1 (I.ok.bs b o e).2 (I.ok.noex b o e)⟩
theorem a8.bk (I:a8 X pins σ H s):∀ b o,X.base.get? b=some o->s.heap.get? b=some o:=fun b o e=>(I.bs b o e).1
theorem a8.mod (I:a8 X pins σ H s):Mod X.K X.mg X.base:=I.ok.mod
theorem a8.kIn (I:a8 X pins σ H s):X.K.In s.heap:=I.ok.mod.kin.keeps I.bk
theorem a8.fr (I:a8 X pins σ H s):∃ m,Fr X.base X.env.locals s.heap m:=
 let ⟨m,hn,_⟩:=I.loc
 ⟨m,hn,I.bk,bm6 I.ok.bsz I.ok.above⟩
theorem a8.lt (I:a8 X pins σ H s):X.env.locals < s.heap.objs.size:=let ⟨_,hn,_⟩:=I.loc; hn.lt
theorem a8.sz (I:a8 X pins σ H s):X.s₀.heap.objs.size<=s.heap.objs.size:=bm6 I.ok.above (bn5 I.lt)
theorem a8.nofs (I:a8 X pins σ H s) {a:Addr} (h:s.heap.objs.size<=a):a ∉ X.fs:=fun hb=>by
 obtain ⟨_,o,ho,_⟩:=I.ok.funs.mem hb
 exact absurd (bj9 (bk1 ho) (bm6 I.sz h)) (bn2 _)
theorem a8.cne (I:a8 X pins σ H s):∀ x c,X.env.cells.lookup x=some c->c ≠ X.env.locals:=fun x c e z=>by
 obtain ⟨v,o,ho,hd⟩:=I.cell x c e
 obtain ⟨m,⟨o',es,ep,ho',hd',_⟩,_⟩:=I.loc
 rw [z,ho'] at ho; cases ho; rw [hd'] at hd; cases hd
theorem a8.funs (I:a8 X pins σ H s):s.heap.FunFrames X.base X.outer:=by
 have all:∀ (l:List Env),(∀ b ∈ bQ l,b ∈ X.fs)->X.s₀.heap.FunFrames X.base l->s.heap.FunFrames X.base l:=by
  intro l
  induction l with
  | nil=>intro _ _; trivial
  | cons env r ih=>
   intro hs hl
   obtain ⟨hk,⟨L,o,hf,hn,ho,hd⟩,hr⟩:=hl
   have hL:L ∈ X.fs:=hs L (by unfold bQ; rw [List.filterMap_cons,hf]; exact bi9)
   obtain ⟨sl,e⟩:=I.base.slot L o ho (I.ok.frf L hL) hL fun z=>I.ok.exfs L z hL
   exact⟨hk,⟨L,_,hf,hn,e,hd⟩,ih (fun b hb=>hs b (by unfold bQ; rw [List.filterMap_cons,hf]; exact bj7 _ hb)) hr⟩
 exact all X.outer (fun _ hb=>hb) I.ok.funs
theorem a8.stack (I:a8 X pins σ H s):s.heap.FunFrames X.base X.stack:=by
 rcases I.ok.stk with e | ⟨e,hf⟩
 ·rw [e]; exact I.funs
 ·rw [e]
  obtain ⟨m,hn,_⟩:=I.loc
  refine .cons (by rw [I.ok.kind]; decide) hf hn ?_ I.funs
  exact Heap.get?_none_of_le (bm6 I.ok.bsz I.ok.above)
theorem a8.stkSub (I:a8 X pins σ H s):∀ b ∈ bQ X.stack,b ∈ X.env.locals :: X.fs:=fun b hb=>by
 rcases I.ok.stk with e | ⟨e,hf⟩
 ·rw [e] at hb; exact bj7 _ hb
 ·rw [e] at hb
  unfold bQ at hb
  rw [List.filterMap_cons,hf] at hb
  exact hb
theorem a8.stkFree (I:a8 X pins σ H s):∀ b ∈ bQ X.stack,H b=none:=fun b hb=>by
 rcases bj1.mp (I.stkSub b hb) with e | hb
 ·rw [e]; exact I.free
 ·obtain ⟨_,o,ho,_⟩:=I.ok.funs.mem hb
  exact I.base.free b o ho (I.ok.frf b hb) fun z=>I.ok.exfs b z hb
theorem a8.step {g':Array GenState}{t':Nat}{d':Drawn}{ch:List Addr} (I:a8 X pins σ H s)
  (hch:∀ b ∈ ch,(b ∈ X.ex ∨ X.s₀.heap.objs.size<=b)/\b ≠ X.env.locals/\(∀ x c,X.env.cells.lookup x=some c->c ≠ b)/\∀ p ∈ X.pn ++ pins,p.1 ≠ b)
  (keep:∀ b o,b ≠ X.env.locals->b ∉ X.fs->b ∉ ch->s.heap.get? b=some o->H b=none->h'.get? b=some o)
  (slot:∀ b o,b ≠ X.env.locals->b ∈ X.fs->b ∉ ch->s.heap.get? b=some o->H b=none->∃ sl,h'.get? b=some { o with slots:=sl }) (free:∀ b o,b ∉ ch->s.heap.get? b=some o->H b=none->H' b=none)
  (there:∀ b o,b ∉ ch->s.heap.get? b=some o->∃ o',h'.get? b=some o')
  (tups:∀ b xs,H b=some (.tup xs)->H' b=some (.tup xs)) (frzs:∀ b o u,H b=some (.frz o u)->H' b=some (.frz o u)) (tbls:∀ b ps,H b=some (.tbl ps)->∃ more,H' b=some (.tbl (ps ++ more)))
  (ns:∀ m,s.heap.Ns X.env.locals m->h'.Ns X.env.locals m) (hok:bZ X.prog X.w H' h') (hg:AllBare g') :
  a8 X pins σ H' { s with heap:=h',gens:=g',drawn:=d',toks:=t' }:=by
 have neL:∀ b o,X.s₀.heap.get? b=some o->b ≠ X.env.locals:=fun b o e=>bm1 (bj9 (bk1 e) I.ok.above)
 have neC:∀ b o,X.s₀.heap.get? b=some o->b ∉ X.ex->b ∉ ch:=fun b o e hx hb=>by
  rcases (hch b hb).1 with z | z
  ·exact hx z
  ·exact absurd (bj9 (bk1 e) z) (bn2 _)
 have cellK:∀ x c,X.env.cells.lookup x=some c->∀ v,s.heap.IsCell c v->h'.IsCell c v:=fun x c e v ⟨o,ho,hd⟩=>by
  have nch:c ∉ ch:=fun z=>(hch c z).2.2.1 x c e rfl
  by_cases hc:c ∈ X.fs
  ·obtain ⟨sl,q⟩:=slot c o (I.cne x c e) hc nch ho (I.freeC x c e)
   exact⟨_,q,hd⟩
  ·exact⟨o,keep c o (I.cne x c e) hc nch ho (I.freeC x c e),hd⟩
 refine⟨I.ok,I.os,hg,⟨fun b o e n hb hx=>?_,fun b o e n hb hx=>?_,fun b o e n hx=>?_,fun b o e hx=>?_,fun b xs e=>tups b xs (I.base.tups b xs e),fun b o xs e=>frzs b o xs (I.base.frzs b o xs e),fun b ps e=>?_⟩,?_,fun x c e=>?_,?_,fun x c e=>?_,fun p hp=>?_,hok,I.len⟩
 ·exact keep b o (neL b o e) hb (neC b o e hx) (I.base.keep b o e n hb hx) (I.base.free b o e n hx)
 ·obtain ⟨sl,e1⟩:=I.base.slot b o e n hb hx
  obtain ⟨sl',e2⟩:=slot b _ (neL b o e) hb (neC b o e hx) e1 (I.base.free b o e n hx)
  exact⟨sl',e2⟩
 ·obtain ⟨o',e1⟩:=I.base.there b o e hx
  exact free b o' (neC b o e hx) e1 (I.base.free b o e n hx)
 ·obtain ⟨o',e1⟩:=I.base.there b o e hx
  exact there b o' (neC b o e hx) e1
 ·obtain ⟨m1,e1⟩:=I.base.tbls b ps e
  obtain ⟨m2,e2⟩:=tbls b _ e1
  exact⟨m1 ++ m2,by rw [e2,Array.append_assoc]⟩
 ·obtain ⟨m,hn,hl⟩:=I.loc
  refine⟨m,ns m hn,fun i x v e1 e2 e3=>?_⟩
  obtain ⟨u,r,l⟩:=hl i x v e1 e2 e3
  refine⟨u,r,?_⟩
  rcases l with l | ⟨k,c,e,z⟩
  ·exact .inl l
  ·exact .inr ⟨k,c,e,cellK x c e _ z⟩
 ·obtain ⟨v,z⟩:=I.cell x c e
  exact⟨v,cellK x c e v z⟩
 ·obtain ⟨m,⟨o,_,_,ho,_⟩,_⟩:=I.loc
  exact free _ o (fun z=>(hch _ z).2.1 rfl) ho I.free
 ·obtain ⟨v,o,ho,hd⟩:=I.cell x c e
  exact free c o (fun z=>(hch c z).2.2.1 x c e rfl) ho (I.freeC x c e)
 ·obtain ⟨e,n,ne,nf,d⟩:=I.pin p hp
  have nch:p.1 ∉ ch:=fun z=>(hch p.1 z).2.2.2 p hp rfl
  exact⟨keep p.1 p.2 ne nf nch e n,free p.1 p.2 nch e n,ne,nf,d⟩
theorem a8.un {t':Nat} (I:a8 X pins σ H s) (u:Un X.fs [] H H' s.heap h') (hok:bZ X.prog X.w H' h'):a8 X pins σ H' { s with heap:=h',toks:=t' }:=by
 obtain ⟨m,⟨o,es,ep,ho,r⟩,_⟩:=id I.loc
 obtain ⟨sl,hL⟩:=u.any ho I.free (by simp)
 exact I.step (g':=s.gens) (d':=s.drawn) (ch:=[]) (fun _ z=>nomatch z) (fun b o _ hb _ e n=>u.keep b o e n hb (by simp)) (fun b o _ hb _ e n=>u.slot b o e n hb (by simp)) (fun b o _ e n=>u.free b o e n (by simp)) (fun b o _ e=>u.there b o e (by simp)) u.tups u.frzs u.tbls (fun m' hm=>by
  obtain ⟨o',es',ep',ho',r'⟩:=hm
  rw [ho] at ho'; cases ho'
  exact⟨_,es',ep',hL,r'⟩) hok I.bare
theorem a8.call {g':Array GenState}{t':Nat}{d':Drawn}{ch:List Addr} (I:a8 X pins σ H s) (u:Un (bQ X.stack) ch H H' s.heap h') (hok:bZ X.prog X.w H' h') (hg:AllBare g')
  (hch:∀ b ∈ ch,(b ∈ X.ex ∨ X.s₀.heap.objs.size<=b)/\b ≠ X.env.locals/\(∀ x c,X.env.cells.lookup x=some c->c ≠ b)/\∀ p ∈ X.pn ++ pins,p.1 ≠ b) :
  a8 X pins σ H' { s with heap:=h',gens:=g',drawn:=d',toks:=t' }:=by
 obtain ⟨m,⟨o,es,ep,ho,r⟩,_⟩:=id I.loc
 obtain ⟨sl,hL⟩:=u.any ho I.free fun z=>(hch _ z).2.1 rfl
 exact I.step (ch:=ch) hch (fun b o hL hb hc e n=>u.keep b o e n (fun z=>(bj1.mp (I.stkSub b z)).elim hL hb) hc) (fun b o _ _ hc e n=>u.any e n hc) (fun b o hc e n=>u.free b o e n hc) (fun b o hc e=>u.there b o e hc) u.tups u.frzs u.tbls (fun m' hm=>by
  obtain ⟨o',es',ep',ho',r'⟩:=hm
  rw [ho] at ho'; cases ho'
  exact⟨_,es',ep',hL,r'⟩) hok hg
theorem a8.turned {t':Nat}{it:Addr} (I:a8 X pins σ H s) (k:∀ b o,b ≠ it->s.heap.get? b=some o->h'.get? b=some o) (hn:H it=none) (hL:it ≠ X.env.locals)
  (h1:it ∈ X.ex ∨ X.s₀.heap.objs.size<=it) (h2:∀ x c,X.env.cells.lookup x=some c->c ≠ it) (h3:∀ p ∈ X.pn ++ pins,p.1 ≠ it):a8 X pins σ H { s with heap:=h',toks:=t' }:=by
 have nit:∀ b u,H b=some u->b ≠ it:=fun b u e z=>by rw [z,hn] at e; cases e
 refine I.step (g':=s.gens) (d':=s.drawn) (ch:=[it]) (fun b hb=>?_) (fun b o _ _ hc e _=>k b o (fun z=>hc (by simp [z])) e) (fun b o _ _ hc e _=>⟨o.slots,k b o (fun z=>hc (by simp [z])) e⟩) (fun _ _ _ _ n=>n)
  (fun b o hc e=>⟨o,k b o (fun z=>hc (by simp [z])) e⟩) (fun _ _ e=>e) (fun _ _ _ e=>e) (fun b ps e=>⟨#[],by rw [e]; simp⟩) (fun m hm=>?_) (fun b u e=>?_) I.bare
 ·have e:b=it:=by simpa using hb
  subst e
  exact⟨h1,hL,h2,h3⟩
 ·obtain ⟨o,es,ep,ho,r⟩:=hm
  exact⟨o,es,ep,k _ o (Ne.symm hL) ho,r⟩
 ·refine (I.hok b u e).stay (fun c v hc q=>k c v ?_ q) (fun _ q=>q) fun _ _ q=>q
  rcases hc with z | z
  ·rw [z]; exact nit b u e
  ·exact nit c _ z
theorem a8.tok (I:a8 X pins σ H s) (t:Nat):a8 X pins σ H { s with toks:=t }:=I.un (h':=s.heap) (t':=t) Un.refl I.hok
theorem a8.kept {t':Nat} (I:a8 X pins σ H s) (k:∀ b u,s.heap.get? b=some u->h'.get? b=some u):a8 X pins σ H { s with heap:=h',toks:=t' }:=I.un (Un.kept k) (I.hok.kept k)
theorem a8.laid {a:Addr}{o:HO}{t':Nat} (I:a8 X pins σ H s) (k:∀ b u,s.heap.get? b=some u->h'.get? b=some u) (hp:s.heap.objs.size<=a) (new:bW X.prog X.w (upd H a o) h' a o) :
  a8 X pins σ (upd H a o) { s with heap:=h',toks:=t' }:=I.un (Un.laid k hp (I.hok.fresh hp)) (I.hok.laid k hp new)
theorem a8.write {x e:Addr}{o:HO}{t':Nat} (I:a8 X pins σ H s) (mu:oG (H x)) (he:e=x ∨ H e=some (.own x)) (k:∀ b u,b ≠ e->s.heap.get? b=some u->h'.get? b=some u) (heo:∃ u,h'.get? e=some u)
  (new:bW X.prog X.w (upd H x o) h' x o):a8 X pins σ (upd H x o) { s with heap:=h',toks:=t' }:=I.un (Un.write mu he k heo) (I.hok.write mu he k heo new)
theorem a8.weak {σ':List (Option V)} (I:a8 X pins σ H s) (hl:σ'.length=σ.length) (w:∀ (i:Nat) v,σ'[i]? = some (some v)->σ[i]? = some (some v)):a8 X pins σ' H s:=
 ⟨I.ok,I.os,I.bare,I.base,let ⟨m,hn,hl'⟩:=I.loc; ⟨m,hn,fun i x v e1 e2 e3=>hl' i x v e1 (w i v e2) e3⟩,I.cell,I.free,I.freeC,I.pin,I.hok,hl.trans I.len⟩
theorem a8.pins_of {pins':List (Addr × Obj)} (I:a8 X pins σ H s) (h:∀ p ∈ pins',s.heap.get? p.1=some p.2/\H p.1=none/\p.1 ≠ X.env.locals/\p.1 ∉ X.fs/\∀ v,p.2.data ≠ .cell v):a8 X pins' σ H s:=
 ⟨I.ok,I.os,I.bare,I.base,I.loc,I.cell,I.free,I.freeC,fun p hp=>(bi7.mp hp).elim (fun z=>I.pin p (bk7 _ z)) (h p),I.hok,I.len⟩
theorem uM {N:List Str} (hN:N.Nodup) {i j:Nat}{x:Str} (a:N[i]? = some x) (b:N[j]? = some x):i=j:=by
 obtain ⟨h1,e1⟩:=bi5.mp a
 obtain ⟨h2,e2⟩:=bi5.mp b
 exact (List.getElem_inj hN).mp (e1.trans e2.symm)
theorem uN {M:Model}{A:Around}{E:Value->Shared->Prop}{i:Nat}{x:Str}{v:V}{u:Value}{Q:Unit->Shared->Prop} (I:a8 X pins σ H s) (hN:X.N.Nodup) (hi:X.N[i]? = some x) (hx:iE X.env.scope x) (r:aZ v u)
  (h:∀ s',a8 X pins (σ.set i (some v)) H s'->(∃ a,Heap.SameBut a s.heap s'.heap/\(a=X.env.locals ∨ X.env.cells.lookup x=some a))->Q () s') (hf:X.fn x=true ∨ X.env.scope.names.lookup x=some .local:=by first | exact .inl rfl | exact .inr rfl | assumption):wpAny M A (storeName X.env x u) Q E s:=by
 obtain ⟨m,hn,hl⟩:=id I.loc
 have hcls:(X.env.scope.kind == .class || (X.env.scope.kind == .module && X.env.locals != X.env.globals))=false:=by rw [I.ok.kind]; rfl
 have hiσ:i < σ.length:=by rw [I.len]; exact (bi5.mp hi).1
 have cne:=I.cne
 have tracked:∀ {a:Addr}{h':Heap},(∃ o,s.heap.get? a=some o/\H a=none)->Heap.SameBut a s.heap h'->bZ X.prog X.w H h':=fun {a h'} ha hs b ob e=>by
  obtain ⟨_,_,hfree⟩:=ha
  refine (I.hok b ob e).stay (fun c w' hc q=>(hs.2 c ?_).trans q) (fun _ q=>q) fun _ _ q=>q
  rintro rfl
  rcases hc with rfl | hc
  ·rw [hfree] at e; cases e
  ·rw [hfree] at hc; cases hc
 rcases hx with hk | hk
 ·refine wpAny_storeName_local hk hn (fun h' hn' hs=>?_) hcls
  obtain ⟨oL,_,_,hoL,_⟩:=id hn
  refine h _ ⟨I.ok,I.os,I.bare,⟨fun b o e n hb hx=>?_,fun b o e n hb hx=>?_,I.base.free,fun b o e hx=>?_,I.base.tups,I.base.frzs,I.base.tbls⟩,⟨_,hn',fun j y v' e1 e2 e3=>?_⟩,fun y c e=>?_,I.free,I.freeC,fun p hp=>?_,tracked ⟨oL,hoL,I.free⟩ hs,by simpa using I.len⟩ ⟨_,hs,.inl rfl⟩
  ·exact (hs.2 b (bm1 (bj9 (bk1 e) I.ok.above))).trans (I.base.keep b o e n hb hx)
  ·obtain ⟨sl,e1⟩:=I.base.slot b o e n hb hx
   exact⟨sl,(hs.2 b (bm1 (bj9 (bk1 e) I.ok.above))).trans e1⟩
  ·obtain ⟨o',e1⟩:=I.base.there b o e hx
   exact⟨o',(hs.2 b (bm1 (bj9 (bk1 e) I.ok.above))).trans e1⟩
  ·by_cases hj:j=i
   ·subst hj
    rw [hi] at e1; cases e1
    rw [bn3 hiσ] at e2
    cases e2
    exact⟨u,r,.inl ⟨hk,by simp⟩⟩
   ·rw [bl1 (Ne.symm hj)] at e2
    obtain ⟨u',r',q⟩:=hl j y v' e1 e2 e3
    refine⟨u',r',?_⟩
    rcases q with ⟨k,e⟩ | ⟨k,c,e,z⟩
    ·refine .inl ⟨k,?_⟩
     have:y ≠ x:=fun e=>hj (uM hN e1 (e ▸ hi))
     simp [this,e]
    ·exact .inr ⟨k,c,e,z.sameBut hs (cne y c e)⟩
  ·obtain ⟨w',z⟩:=I.cell y c e
   exact⟨w',z.sameBut hs (cne y c e)⟩
  ·obtain ⟨e,n,ne,nf,d⟩:=I.pin p hp
   exact⟨(hs.2 p.1 ne).trans e,n,ne,nf,d⟩
 ·have hfn:X.fn x=true:=by
   rcases hf with z | z
   ·exact z
   ·rw [z] at hk; cases hk
  obtain ⟨c,hc⟩:=I.ok.has x (.inl hk)
  obtain ⟨w',z⟩:=I.cell x c hc
  refine wpAny_storeName_cell I.ok.kind hk hc z (fun h' hc' hs=>?_)
  obtain ⟨oc,hoc,hocd⟩:=id z
  refine h { s with heap:=h' } ⟨I.ok,I.os,I.bare,⟨fun b o e n hb hx=>?_,fun b o e n hb hx=>?_,I.base.free,fun b o e hx=>?_,I.base.tups,I.base.frzs,I.base.tbls⟩,⟨m,hn.sameBut hs (Ne.symm (cne x c hc)),fun j y v' e1 e2 e3=>?_⟩,fun y c' e=>?_,I.free,I.freeC,fun p hp=>?_,tracked ⟨oc,hoc,I.freeC x c hc⟩ hs,by simpa using I.len⟩ ⟨c,hs,.inr hc⟩
  ·exact (hs.2 b (bm1 (bj9 (bk1 e) (I.ok.cab x c hfn hc)))).trans (I.base.keep b o e n hb hx)
  ·obtain ⟨sl,e1⟩:=I.base.slot b o e n hb hx
   exact⟨sl,(hs.2 b (bm1 (bj9 (bk1 e) (I.ok.cab x c hfn hc)))).trans e1⟩
  ·obtain ⟨o',e1⟩:=I.base.there b o e hx
   exact⟨o',(hs.2 b (bm1 (bj9 (bk1 e) (I.ok.cab x c hfn hc)))).trans e1⟩
  ·by_cases hj:j=i
   ·subst hj
    rw [hi] at e1; cases e1
    rw [bn3 hiσ] at e2
    cases e2
    exact⟨u,r,.inr ⟨.inl hk,c,hc,hc'⟩⟩
   ·rw [bl1 (Ne.symm hj)] at e2
    obtain ⟨u',r',q⟩:=hl j y v' e1 e2 e3
    refine⟨u',r',?_⟩
    rcases q with q | ⟨k,c',e,z'⟩
    ·exact .inl q
    ·refine .inr ⟨k,c',e,z'.sameBut hs ?_⟩
     rintro rfl
     exact hj (uM hN e1 (I.ok.inj _ _ _ e hc ▸ hi))
  ·by_cases hcc:c'=c
   ·subst hcc; exact⟨_,hc'⟩
   ·obtain ⟨w2,z2⟩:=I.cell y c' e
    exact⟨w2,z2.sameBut hs hcc⟩
  ·obtain ⟨e,n,ne,nf,d⟩:=I.pin p hp
   refine⟨(hs.2 p.1 ?_).trans e,n,ne,nf,d⟩
   intro q
   rw [q,hoc] at e
   have q':oc=p.2:=bl2 e
   exact d w' (by rw [<- q']; exact hocd)
theorem uO {M:Model}{A:Around}{E:Value->Shared->Prop}{i:Nat}{x:Str}{v:V}{u:Value}{Q:Unit->Shared->Prop} (I:a8 X pins σ H s) (hN:X.N.Nodup) (hi:X.N[i]? = some x) (hx:iE X.env.scope x) (r:aZ v u)
  (h:∀ s',a8 X pins (σ.set i (some v)) H s'->Q () s') (hf:X.fn x=true ∨ X.env.scope.names.lookup x=some .local:=by first | exact .inl rfl | exact .inr rfl | assumption):wpAny M A (storeName X.env x u) Q E s:=
 uN I hN hi hx r (fun s' I' _=>h s' I') hf
theorem a8.call' {s':Shared}{ch:List Addr} (I:a8 X pins σ H s) (ho:s'.os=s.os) (u:Un (bQ X.stack) ch H H' s.heap s'.heap) (hok:bZ X.prog X.w H' s'.heap) (hg:AllBare s'.gens)
  (hch:∀ b ∈ ch,(b ∈ X.ex ∨ X.s₀.heap.objs.size<=b)/\b ≠ X.env.locals/\(∀ x c,X.env.cells.lookup x=some c->c ≠ b)/\∀ p ∈ X.pn ++ pins,p.1 ≠ b):a8 X pins σ H' s':=by
 obtain ⟨h',g',d',t',o'⟩:=s'
 have e:o'=s.os:=ho
 subst e
 exact I.call (g':=g') (t':=t') (d':=d') u hok hg hch
end
noncomputable abbrev XK:=Value->Option Addr->Hp->Prop
noncomputable abbrev St:=List (Option V)
noncomputable abbrev VK:=V->Hp->Prop
noncomputable abbrev TE:=St->Hp->VK->Prop
noncomputable abbrev TT:=St->Hp->(Bool->Hp->Prop)->Prop
noncomputable abbrev TA:=St->Hp->(List V->Hp->Prop)->Prop
structure dL where
 nx:St->Hp->Prop
 rt:VK
 bk:St->Hp->Prop:=fun _ _=>False
 ct:St->Hp->Prop:=fun _ _=>False
noncomputable abbrev TS:=dL->St->Hp->Prop
noncomputable def EP (X:Cx) (pins:List (Addr × Obj)) (σ:St) (Q:VK) (u:Value) (s':Shared):Prop:=∃ v H',a8 X pins σ H' s'/\aZ v u/\Q v H'
noncomputable def TP (X:Cx) (pins:List (Addr × Obj)) (σ:St) (Q:Bool->Hp->Prop) (b:Bool) (s':Shared):Prop:=∃ H',a8 X pins σ H' s'/\Q b H'
noncomputable def AP (X:Cx) (pins:List (Addr × Obj)) (σ:St) (Q:List V->Hp->Prop) (us:List Value) (s':Shared):Prop:=∃ vs H',a8 X pins σ H' s'/\aO vs us/\Q vs H'
noncomputable def SP (X:Cx) (pins:List (Addr × Obj)) (D:dL) (f:Flow) (s':Shared):Prop:=
 match f with
 | .next=>∃ σ' H',a8 X pins σ' H' s'/\D.nx σ' H'
 | .brk=>∃ σ' H',a8 X pins σ' H' s'/\D.bk σ' H'
 | .cont=>∃ σ' H',a8 X pins σ' H' s'/\D.ct σ' H'
 | .ret u=>∃ v σ' H',a8 X pins σ' H' s'/\aZ v u/\D.rt v H'
noncomputable def PE (X:Cx) (e:Expr) (t:TE):Prop:=
 ∀ (pins:List (Addr × Obj)) (s:Shared) (σ:St) (H:Hp) (Q:VK),a8 X pins σ H s->t σ H Q->wpAny (model X.prog X.w) X.A (eval e X.env) (EP X pins σ Q) X.xe s
noncomputable def PT (X:Cx) (e:Expr) (t:TT):Prop:=
 ∀ (pins:List (Addr × Obj)) (s:Shared) (σ:St) (H:Hp) (Q:Bool->Hp->Prop),a8 X pins σ H s->t σ H Q->wpAny (model X.prog X.w) X.A (isTrue e X.env (eval e X.env)) (TP X pins σ Q) X.xe s
noncomputable def PW (X:Cx) (e:Expr) (t:TT):Prop:=
 ∀ (whole:Sem Value) (pins:List (Addr × Obj)) (s:Shared) (σ:St) (H:Hp) (Q:Bool->Hp->Prop),a8 X pins σ H s->t σ H Q->wpAny (model X.prog X.w) X.A (isTrue e X.env whole) (TP X pins σ Q) X.xe s
theorem PW.pt {X:Cx}{e:Expr}{t:TT} (h:PW X e t):PT X e t:=h _
noncomputable def PA (X:Cx) (es:List Expr) (t:TA):Prop:=
 ∀ (pos:Pos) (pins:List (Addr × Obj)) (s:Shared) (σ:St) (H:Hp) (Q:List V->Hp->Prop),a8 X pins σ H s->t σ H Q->wpAny (model X.prog X.w) X.A (spliced (backTo pos (starEach es X.env))) (AP X pins σ Q) X.xe s
noncomputable def PS (X:Cx) (st:Stmt) (t:TS):Prop:=
 ∀ (pins:List (Addr × Obj)) (s:Shared) (σ:St) (H:Hp) (D:dL),a8 X pins σ H s->t D σ H->wpAny (model X.prog X.w) X.A (exec st X.env) (SP X pins D) X.xe s
noncomputable def eI (X:Cx) (st:List Stmt) (t:TS):Prop:=
 ∀ (pins:List (Addr × Obj)) (s:Shared) (σ:St) (H:Hp) (D:dL),a8 X pins σ H s->t D σ H->wpAny (model X.prog X.w) X.A (execs st X.env) (SP X pins D) X.xe s
theorem aQ {α:Type}{t:Sem α}{Q Q':α->Shared->Prop}{M:Model}{A:Around}{E:Value->Shared->Prop}{s:Shared} (h:wpAny M A t Q E s) (hQ:∀ a s,Q a s->Q' a s):wpAny M A t Q' E s:=bq7 h hQ fun _ _ x=>x
section
variable {X : Cx}
theorem bin {a b:Expr}{ta tb:TE} (ha:PE X a ta) (hb:PE X b tb) {pins:List (Addr × Obj)}{s:Shared}{σ:St}{H:Hp}{R:V->V->Hp->Prop} (I:a8 X pins σ H s) (h:ta σ H fun x H1=>tb σ H1 fun y H2=>R x y H2)
  {α:Type}{Q:α->Shared->Prop}{f:Value->Value->Sem α}
  (hf:∀ v u s2 x y H2,a8 X pins σ H2 s2->aZ x v->aZ y u->R x y H2->wpAny (model X.prog X.w) X.A (f v u) Q X.xe s2) :
  wpAny (model X.prog X.w) X.A (eval a X.env) (fun v s₁=>wpAny (model X.prog X.w) X.A (eval b X.env) (fun u s₂=>wpAny (model X.prog X.w) X.A (f v u) Q X.xe s₂) X.xe s₁) X.xe s:=by
 refine aQ (ha pins s σ H _ I h) fun v s1 ⟨x,H1,I1,r1,q1⟩=>?_
 refine aQ (hb pins s1 σ H1 _ I1 q1) fun u s2 ⟨y,H2,I2,r2,q2⟩=>?_
 exact hf v u s2 x y H2 I2 r1 r2 q2
noncomputable def hG (i:Nat):TE:=fun σ H Q=>∃ v,σ[i]? = some (some v)/\Q v H
noncomputable def tC (v:V):TE:=fun _ H Q=>Q v H
theorem iF {i:Nat}{x:Str}{pos:Pos} (hN:X.N[i]? = some x) (hv:gN X.env.scope x) (hd:(x == ("__debug__" : Str))=false:=by decide) (hcd:(x == ("__classdict__" : Str))=false:=by decide):PE X (.Name x pos) (hG i):=by
 intro pins s σ H Q I h
 obtain ⟨v,e,h⟩:=h
 obtain ⟨m,hn,hl⟩:=I.loc
 obtain ⟨u,r,l⟩:=hl i x v hN e hv
 have fin:EP X pins σ Q u s:=⟨v,H,I,r,h⟩
 rcases l with ⟨hk,hm⟩ | ⟨hk,c,hc,hcell⟩
 ·exact wpAny_Name (wpAny_loadName_local I.ok.kind hk hn hm fin) hd
 ·rcases hk with hk | hk
  ·exact wpAny_Name (wpAny_loadName_cell I.ok.kind hk hc hcell fin) hd
  ·exact wpAny_Name (wpAny_loadName_free I.ok.kind hk hc hcell fin hcd) hd
theorem lI {i j pos}:PE X (.Constant (.int i) j pos) (tC (.int i)):=fun _ _ _ H _ I h=>wpAny_Constant_int ⟨.int i,H,I.tok _,⟨_,rfl⟩,h⟩
theorem A2 {b j pos}:PE X (.Constant (.bool b) j pos) (tC (.bl b)):=fun _ _ _ H _ I h=>Constant_bool ⟨.bl b,H,I,rfl,h⟩
theorem am0 {j pos}:PE X (.Constant .none j pos) (tC .non):=fun _ _ _ H _ I h=>Constant_none ⟨.non,H,I,rfl,h⟩
theorem am1 {x j pos}:PE X (.Constant (.str x) j pos) (tC (.str x)):=fun _ _ _ H _ I h=>Calls.Constant_str ⟨.str x,H,I.tok _,⟨_,rfl⟩,h⟩
noncomputable def Gl (X:Cx) (x:Str):Prop:=X.env.kindOf x=some .globalImplicit
theorem oI {E:Value->Shared->Prop}{pins:List (Addr × Obj)}{s:Shared}{σ:St}{H:Hp}{x:Str}{u:Value}{pos:Pos}{Q:Value->Shared->Prop} (I:a8 X pins σ H s) (hg:Gl X x) (hm:X.mg x=some u) (h:Q u s)
  (hd:(x == ("__debug__" : Str))=false:=by decide):wpAny (model X.prog X.w) X.A (eval (.Name x pos) X.env) Q E s:=
 Calls.Name_function_global I.ok.kind hg (Calls.loadGlobal_global (by rw [I.ok.glob]; exact I.mod.glob.keeps I.bk) hm h) hd
theorem jG {E:Value->Shared->Prop}{pins:List (Addr × Obj)}{s:Shared}{σ:St}{H:Hp}{x:Str}{u:Value}{pos:Pos}{Q:Value->Shared->Prop} (I:a8 X pins σ H s) (hg:Gl X x) (hm:X.mg x=none) (hv:bootBuiltins x=some u) (h:Q u s)
  (hn:x ≠ "__name__":=by decide) (hd:(x == ("__debug__" : Str))=false:=by decide):wpAny (model X.prog X.w) X.A (eval (.Name x pos) X.env) Q E s:=by
 obtain ⟨mb,h1,h2⟩:=I.mod.blt
 exact Calls.Name_function_global I.ok.kind hg (Calls.loadGlobal_builtin (by rw [I.ok.glob]; exact I.mod.glob.keeps I.bk) hm (by rw [I.ok.blt]; exact h1.keeps I.bk) ((h2 x hn).trans hv) h) hd
theorem am2 {x:Str}{v:V}{u:Value}{pos:Pos} (hg:Gl X x) (hm:X.mg x=some u) (r:aZ v u) (hd:(x == ("__debug__" : Str))=false:=by decide):PE X (.Name x pos) (tC v):=
 fun _ _ _ H _ I h=>oI I hg hm ⟨v,H,I,r,h⟩ hd
theorem A3 {x:Str}{v:V}{u:Value}{pos:Pos} (hg:Gl X x) (hm:X.mg x=none) (hv:bootBuiltins x=some u) (r:aZ v u) (hn:x ≠ "__name__":=by decide) (hd:(x == ("__debug__" : Str))=false:=by decide):PE X (.Name x pos) (tC v):=
 fun _ _ _ H _ I h=>jG I hg hm hv ⟨v,H,I,r,h⟩ hn hd
variable {a b : Expr} {ta tb : TE} {pos : Pos}
noncomputable def PC (X:Cx) (op:CmpOp) (a b:Expr) (t:TE):Prop:=
 ∀ (pins:List (Addr × Obj)) (s:Shared) (σ:St) (H:Hp) (Q:VK),a8 X pins σ H s->t σ H Q->
  wpAny (model X.prog X.w) X.A (eval a X.env) (fun v s₁=>wpAny (model X.prog X.w) X.A (eval b X.env) (fun u s₂=>wpAny (model X.prog X.w) X.A (compareOp op v u) (EP X pins σ Q) X.xe s₂) X.xe s₁) X.xe s
noncomputable def tB (t:TE):TT:=fun σ H Q=>t σ H fun x H1=>∃ c,x = .bl c/\Q c H1
theorem A4 {op:CmpOp}{t:TE} (h:PC X op a b t) (h1:behindInMarks op b=false:=by first | exact nobehind _ (by decide) (by decide) | rfl):PT X (.Compare a [op] [b] pos) (tB t):=by
 intro pins s σ H Q I hw
 refine wpAny_isTrue_Compare1 (aQ (h pins s σ H _ I hw) fun v s1 h1=>aQ h1 fun u s2 h2=>aQ h2 fun c s3 ⟨x,H1,I1,r1,q1⟩=>?_) h1
 obtain ⟨d,rfl,q⟩:=q1
 cases r1
 exact bt7 ⟨H1,I1,q⟩
theorem am3 {e:Expr}{t:TE} (h:PE X e t) (he:∀ whole,isTrue e X.env whole=(do let v <- whole; standAt e.pos; holding [v] (truthy v)):=by intro _; rfl):PT X e (tB t):=by
 intro pins s σ H Q I hw
 refine isTrue_plain (aQ (h pins s σ H _ I hw) fun v s1 ⟨x,H1,I1,r1,q1⟩=>?_) (he _)
 obtain ⟨d,rfl,q⟩:=q1
 cases r1
 exact bt7 ⟨H1,I1,q⟩
variable {tA tB' : TT} {dO : List Expr}
noncomputable def A5 (t u:TT):TT:=fun σ H Q=>t σ H fun c H1=>if c=true then u σ H1 Q else Q false H1
noncomputable def A6 (t u:TT):TT:=fun σ H Q=>t σ H fun c H1=>if c=true then Q true H1 else u σ H1 Q
noncomputable def A7 (t:TT):TT:=fun σ H Q=>t σ H fun c H1=>Q (!c) H1
theorem am4 (ha:PT X a tA):PW X (.BoolOp .And [a] pos) tA:=by
 intro wh pins s σ H Q I h
 refine isTrue_and (aQ (ha pins s σ H Q I h) fun c s1 e=>?_)
 cases c with
 | true=>exact isTrue_and_nil e
 | false=>exact e
theorem am5 (ha:PT X a tA):PW X (.BoolOp .Or [a] pos) tA:=by
 intro wh pins s σ H Q I h
 refine isTrue_or (aQ (ha pins s σ H Q I h) fun c s1 e=>?_)
 cases c with
 | false=>exact isTrue_or_nil e
 | true=>exact e
theorem am6 (ha:PT X a tA) (hb:PW X (.BoolOp .And (b :: dO) pos) tB'):PW X (.BoolOp .And (a :: b :: dO) pos) (A5 tA tB'):=by
 intro wh pins s σ H Q I h
 refine isTrue_and (aQ (ha pins s σ H _ I h) fun c s1 ⟨H1,I1,q1⟩=>?_)
 cases c with
 | true=>exact hb wh pins s1 σ H1 Q I1 q1
 | false=>exact⟨H1,I1,q1⟩
theorem am7 (ha:PT X a tA) (hb:PW X (.BoolOp .Or (b :: dO) pos) tB'):PW X (.BoolOp .Or (a :: b :: dO) pos) (A6 tA tB'):=by
 intro wh pins s σ H Q I h
 refine isTrue_or (aQ (ha pins s σ H _ I h) fun c s1 ⟨H1,I1,q1⟩=>?_)
 cases c with
 | true=>exact⟨H1,I1,q1⟩
 | false=>exact hb wh pins s1 σ H1 Q I1 q1
theorem am8 (ha:PT X a tA):PT X (.UnaryOp .Not a pos) (A7 tA):=by
 intro pins s σ H Q I h
 exact isTrue_not (ha pins s σ H (fun c H1=>Q (!c) H1) I h)
noncomputable def A8 (ta tb:TE):TE:=fun σ H Q=>ta σ H fun x H1=>∃ c,x = .bl c/\if c=true then tb σ H1 Q else Q (.bl false) H1
noncomputable def A9 (ta:TE):TE:=fun σ H Q=>ta σ H fun x H1=>∃ c,x = .bl c/\Q (.bl (!c)) H1
theorem am9 {op}{t:TE} (h:PE X a t):PE X (.BoolOp op [a] pos) t:=fun pins s σ H Q I hw=>BoolOp_one (h pins s σ H Q I hw)
theorem an0 (ha:PE X a ta) (hb:PE X (.BoolOp .And (b :: dO) pos) tb):PE X (.BoolOp .And (a :: b :: dO) pos) (A8 ta tb):=by
 intro pins s σ H Q I h
 refine BoolOp_and (aQ (ha pins s σ H _ I h) fun v s1 ⟨x,H1,I1,r1,q1⟩=>?_)
 obtain ⟨c,rfl,q1⟩:=q1
 cases r1
 refine bt7 ?_
 cases c with
 | true=>exact hb pins s1 σ H1 Q I1 q1
 | false=>exact⟨.bl false,H1,I1,rfl,q1⟩
theorem an1 (ha:PE X a ta):PE X (.UnaryOp .Not a pos) (A9 ta):=by
 intro pins s σ H Q I h
 refine UnaryOp_ (aQ (ha pins s σ H _ I h) fun v s1 ⟨x,H1,I1,r1,q1⟩=>?_)
 obtain ⟨c,rfl,q1⟩:=q1
 cases r1
 exact not_of (bt7 ⟨.bl (!c),H1,I1,rfl,q1⟩)
end
noncomputable def aM (K:PySem.W.Frag) (H:Hp) (a:Addr) (xs:List V):Prop:=
 Rd H a (.lst xs) ∨
  ∃ (o:Obj) (its:Array Value) (n:Nat),K.lookup a=some o/\o.cls = .type "list"/\o.dict=none/\o.data = .seq its n/\its.size<=sizeLine/\aO xs its.toList
noncomputable def aJ (K:PySem.W.Frag) (H:Hp) (a:Addr) (xs:List V):Prop:=
 Rd H a (.tup xs) ∨
  ∃ (o:Obj) (its:Array Value) (n:Nat),K.lookup a=some o/\o.cls = .type "tuple"/\o.data = .seq its n/\its.size<=sizeLine/\aO xs its.toList
noncomputable def an2:Value->Option V
 | .none=>some .non
 | .bool b=>some (.bl b)
 | .int i _=>some (.int i)
 | .str x _=>some (.str x)
 | .bytes b _=>some (.byt b)
 | .float b _=>some (.flt b)
 | .ref a=>some (.ref a)
 | .type n=>some (.ty n)
 | _=>none
theorem aZ.abs {x:V}{u:Value} (r:aZ x u):an2 u=some x:=by
 cases x with
 | non=>cases r; rfl
 | bl _=>cases r; rfl
 | int _=>obtain ⟨t,rfl⟩:=r; rfl
 | str _=>obtain ⟨t,rfl⟩:=r; rfl
 | byt _=>obtain ⟨t,rfl⟩:=r; rfl
 | flt _=>obtain ⟨t,rfl⟩:=r; rfl
 | ref _=>cases r; rfl
 | ty _=>cases r; rfl
theorem aZ.inj {x y:V}{u:Value} (r:aZ x u) (q:aZ y u):x=y:=bl2 (r.abs.symm.trans q.abs)
theorem aO.inj:∀ {xs ys:List V}{us:List Value},aO xs us->aO ys us->xs=ys
 | _,_,_,.nil,.nil=>rfl
 | _,_,_,.cons r t,.cons r' t'=>by rw [r.inj r',aO.inj t t']
section
variable {X : Cx} {pins : List (Addr × Obj)} {σ : St} {H : Hp} {s : Shared} {a : Addr} {xs ys : List V}
theorem aM.of {K:PySem.W.Frag} (h:H a=some (.lst xs)):aM K H a xs:=.inl (.inl h)
theorem aJ.of {K:PySem.W.Frag} (h:H a=some (.tup xs)):aJ K H a xs:=.inl (.inl h)
theorem a8.list (I:a8 X pins σ H s) (h:aM X.K H a xs):∃ its:List Value,aO xs its/\PlainL s.heap a its.toArray/\xs.length<=sizeLine:=by
 rcases h with h | ⟨o,its,n,hk,hc,hd,hs,hz,r⟩
 ·obtain ⟨z,its,n,r,e⟩:=h.ok I.hok
  exact⟨its,r,⟨_,n,e,rfl,rfl,rfl⟩,z⟩
 ·refine⟨its.toList,r,⟨o,n,I.kIn a o hk,hc,hd,by simpa using hs⟩,?_⟩
  have e:=r.length
  simp only [Array.length_toList] at e
  omega
theorem a8.tuple (I:a8 X pins σ H s) (h:aJ X.K H a xs):∃ its:List Value,aO xs its/\IsTup s.heap a its.toArray/\xs.length<=sizeLine:=by
 rcases h with h | ⟨o,its,n,hk,hc,hs,hz,r⟩
 ·obtain ⟨z,its,r,p,_⟩:=h.ok I.hok
  exact⟨its,r,p,z⟩
 ·refine⟨its.toList,r,⟨o,I.kIn a o hk,hc,n,by simpa using hs⟩,?_⟩
  have e:=r.length
  simp only [Array.length_toList] at e
  omega
theorem a8.list_inj (I:a8 X pins σ H s) (h:aM X.K H a xs) (h':aM X.K H a ys):xs=ys:=by
 obtain ⟨its,r,⟨o,n,e,_,_,d⟩,_⟩:=I.list h
 obtain ⟨its',r',⟨o',n',e',_,_,d'⟩,_⟩:=I.list h'
 rw [e] at e'; cases e'
 rw [d] at d'
 injection d' with d1 _
 have:its=its':=by simpa using congrArg Array.toList d1
 subst this
 exact r.inj r'
theorem a8.tuple_inj (I:a8 X pins σ H s) (h:aJ X.K H a xs) (h':aJ X.K H a ys):xs=ys:=by
 obtain ⟨its,r,⟨o,e,_,n,d⟩,_⟩:=I.tuple h
 obtain ⟨its',r',⟨o',e',_,n',d'⟩,_⟩:=I.tuple h'
 rw [e] at e'; cases e'
 rw [d] at d'
 injection d' with d1 _
 have:its=its':=by simpa using congrArg Array.toList d1
 subst this
 exact r.inj r'
end
noncomputable abbrev Cx.wish (X:Cx) (E:Value->Shared->Prop):Cx:={ X with xe:=E }
noncomputable abbrev Cx.nox (X:Cx):Cx:=X.wish fun _ _=>False
theorem Cx.Ok.wish {X:Cx} (ok:X.Ok) (E:Value->Shared->Prop):(X.wish E).Ok:=
 ⟨ok.mod,ok.kind,ok.glob,ok.blt,ok.above,ok.inj,ok.has,ok.cab,ok.hd,ok.frames,ok.stk,ok.exf,ok.bs,ok.bsz,ok.noex,ok.exfs,ok.funs,ok.frf⟩
theorem Cx.Ok.unwish {X:Cx}{E:Value->Shared->Prop} (ok:(X.wish E).Ok):X.Ok:=
 ⟨ok.mod,ok.kind,ok.glob,ok.blt,ok.above,ok.inj,ok.has,ok.cab,ok.hd,ok.frames,ok.stk,ok.exf,ok.bs,ok.bsz,ok.noex,ok.exfs,ok.funs,ok.frf⟩
section
variable {X : Cx} {pins : List (Addr × Obj)} {σ : St} {H : Hp} {s : Shared} {E : Value → Shared → Prop}
theorem a8.wish (I:a8 X pins σ H s) (E:Value->Shared->Prop):a8 (X.wish E) pins σ H s:=⟨I.ok.wish E,I.os,I.bare,I.base,I.loc,I.cell,I.free,I.freeC,I.pin,I.hok,I.len⟩
theorem a8.unwish (I:a8 (X.wish E) pins σ H s):a8 X pins σ H s:=⟨I.ok.unwish,I.os,I.bare,I.base,I.loc,I.cell,I.free,I.freeC,I.pin,I.hok,I.len⟩
theorem SP.unwish {D:dL}{f:Flow}{s':Shared} (h:SP (X.wish E) pins D f s'):SP X pins D f s':=by
 cases f with
 | next=>obtain ⟨σ',H',I,q⟩:=h; exact⟨σ',H',I.unwish,q⟩
 | brk=>obtain ⟨σ',H',I,q⟩:=h; exact⟨σ',H',I.unwish,q⟩
 | cont=>obtain ⟨σ',H',I,q⟩:=h; exact⟨σ',H',I.unwish,q⟩
 | ret u=>obtain ⟨v,σ',H',I,r,q⟩:=h; exact⟨v,σ',H',I.unwish,r,q⟩
theorem eI.nox {st:List Stmt}{t:TS} (h:eI X.nox st t):eI X st t:=fun pins s σ H D I hw=>
 bq7 (h pins s σ H D (I.wish _) hw) (fun _ _ q=>q.unwish) fun _ _ z=>False.elim z
end
section
variable {X : Cx} {st : Stmt} {dO : List Stmt} {t u : TS} {e : Expr} {te : TE} {pos : Pos}
noncomputable def B0:TS:=fun D σ H=>D.nx σ H
noncomputable def uP (t u:TS):TS:=fun D σ H=>t { D with nx:=u D } σ H
theorem an3:eI X [] B0:=fun _ _ σ H _ I h=>bw5 ⟨σ,H,I,h⟩
theorem kI (h1:PS X st t) (h2:eI X dO u):eI X (st :: dO) (uP t u):=by
 intro pins s σ H D I h
 refine wpAny_execs_cons (aQ (h1 pins s σ H { D with nx:=u D } I h) fun f s1 q=>?_)
 cases f with
 | next=>
  obtain ⟨σ',H',I',q⟩:=q
  exact h2 pins s1 σ' H' D I' q
 | ret v=>exact q
 | brk=>exact q
 | cont=>exact q
theorem kJ (h1:PS X st t):eI X [st] t:=by
 intro pins s σ H D I h
 refine wpAny_execs_cons (aQ (h1 pins s σ H D I h) fun f s1 q=>?_)
 cases f with
 | next=>exact bw5 q
 | ret v=>exact q
 | brk=>exact q
 | cont=>exact q
theorem a8.quiet {pins:List (Addr × Obj)}{σ:St}{H:Hp}{s:Shared} (I:a8 X pins σ H s):interactive X.env=false:=by simp [interactive,I.ok.kind]
noncomputable def oJ (te:TE):TS:=fun D σ H=>te σ H fun _ H1=>D.nx σ H1
theorem kK (he:PE X e te) (hs:swapsWith e none pos.line X.env=pure false:=by rfl):PS X (.Expr e pos) (oJ te):=by
 intro pins s σ H D I h
 exact wpAny_Expr_any (aQ (he pins s σ H _ I h) fun v s1 ⟨x,H1,I1,r1,q1⟩=>⟨σ,H1,I1,q1⟩) I.quiet hs
noncomputable def uQ (te:TE):TS:=fun D σ H=>te σ H D.rt
theorem mI (he:PE X e te):PS X (.Return (some e) pos) (uQ te):=by
 intro pins s σ H D I h
 exact wpAny_Return_some (aQ (he pins s σ H _ I h) fun v s1 ⟨x,H1,I1,r1,q1⟩=>⟨x,σ,H1,I1,r1,q1⟩)
noncomputable def B1 (c:TT) (t u:TS):TS:=fun D σ H=>c σ H fun b H1=>if b=true then t D σ H1 else u D σ H1
theorem an4 {c:Expr}{a b:List Stmt}{tc:TT} (hc:PT X c tc) (ha:eI X a t) (hb:eI X b u):PS X (.If c a b pos) (B1 tc t u):=by
 intro pins s σ H D I h
 refine wpAny_If (aQ (hc pins s σ H _ I h) fun d s1 ⟨H1,I1,q1⟩=>?_)
 cases d with
 | true=>exact ha pins s1 σ H1 D I1 q1
 | false=>exact hb pins s1 σ H1 D I1 q1
noncomputable def an5:TS:=fun _ _ _=>False
theorem an6:PS X st an5:=fun _ _ _ _ _ _ h=>h.elim
end
noncomputable abbrev TG:=V->St->Hp->(St->Hp->Prop)->Prop
noncomputable abbrev lJ:=List V->St->Hp->(St->Hp->Prop)->Prop
noncomputable def PG (X:Cx) (target:Expr) (t:TG):Prop:=
 ∀ (pins:List (Addr × Obj)) (s:Shared) (σ:St) (H:Hp) (v:V) (u:Value) (Q:St->Hp->Prop),a8 X pins σ H s->aZ v u->t v σ H Q->
  wpAny (model X.prog X.w) X.A (assign target X.env u) (fun _ s'=>∃ σ' H',a8 X pins σ' H' s'/\Q σ' H') X.xe s
noncomputable def qY (X:Cx) (ts:List Expr) (t:lJ):Prop:=
 ∀ (pins:List (Addr × Obj)) (s:Shared) (σ:St) (H:Hp) (vs:List V) (us:List Value) (Q:St->Hp->Prop),a8 X pins σ H s->aO vs us->t vs σ H Q->
  wpAny (model X.prog X.w) X.A (assignInOrder ((assignEach ts X.env).map (·.2)) us) (fun _ s'=>∃ σ' H',a8 X pins σ' H' s'/\Q σ' H') X.xe s
noncomputable abbrev uR:=V->V->V->Hp->(Hp->Prop)->Prop
noncomputable def B2 (X:Cx) (t:uR):Prop:=
 ∀ (pins:List (Addr × Obj)) (s:Shared) (σ:St) (H:Hp) (o i v:V) (ov iv u:Value) (Q:Hp->Prop),a8 X pins σ H s->aZ o ov->aZ i iv->aZ v u->t o i v H Q->
  wpAny (model X.prog X.w) X.A (setItem ov iv u) (fun _ s'=>∃ H',a8 X pins σ H' s'/\Q H') X.xe s
section
variable {X : Cx} {pos : Pos}
noncomputable def cO (i:Nat):TG:=fun v σ H Q=>Q (σ.set i (some v)) H
theorem fG {i:Nat}{x:Str} (hN:X.N.Nodup) (hi:X.N[i]? = some x) (hx:iE X.env.scope x) (hf:X.fn x=true ∨ X.env.scope.names.lookup x=some .local:=by first | exact .inl rfl | exact .inr rfl | assumption):PG X (.Name x pos) (cO i):=by
 intro pins s σ H v u Q I r h
 exact wpAny_assign_Name (uO I hN hi hx r (fun s' I'=>⟨_,H,I',h⟩) hf)
noncomputable def lK:lJ:=fun vs σ H Q=>vs = []/\Q σ H
noncomputable def gO (t:TG) (u:lJ):lJ:=fun vs σ H Q=>∃ v r,vs=v :: r/\t v σ H fun σ' H'=>u r σ' H' Q
theorem mJ:qY X [] lK:=by
 intro pins s σ H vs us Q I r h
 obtain ⟨e,h⟩:=h
 subst e
 cases r
 exact assignInOrder_nil ⟨σ,H,I,h⟩
theorem hJ {e:Expr}{es:List Expr}{t:TG}{u:lJ} (h1:PG X e t) (h2:qY X es u)
  (hs:(assignEach (e :: es) X.env).map (·.2)=assign e X.env :: (assignEach es X.env).map (·.2):=by rfl):qY X (e :: es) (gO t u):=by
 intro pins s σ H vs us Q I r h
 obtain ⟨v,vr,e1,h⟩:=h
 subst e1
 cases r with
 | cons r rr=>
  rw [hs]
  refine assignInOrder_cons (aQ (h1 pins s σ H _ _ _ I r h) fun _ s1 ⟨σ1,H1,I1,q1⟩=>?_)
  exact h2 pins s1 σ1 H1 _ _ Q I1 rr q1
noncomputable def lM (K:PySem.W.Frag) (n:Nat) (t:lJ):TG:=fun v σ H Q=>∃ a xs,v = .ref a/\aJ K H a xs/\xs.length=n/\t xs σ H Q
theorem mK {es:List Expr}{k:Nat}{t:lJ}{n:Nat} (hc:X.calm=true) (h:qY X es t)
  (hn:(assignEach es X.env).length=n:=by rfl) (hst:(assignEach es X.env).findIdx? (·.1)=none:=by rfl):PG X (.Tuple es k pos) (lM X.K n t):=by
 intro pins s σ H v u Q I r hw
 obtain ⟨a,xs,e1,hq,hl,hw⟩:=hw
 subst e1
 cases r
 obtain ⟨its,rv,ht,hz⟩:=I.tuple hq
 refine assign_Tuple_tuple (I.ok.hd hc) ht (by simp [hn,<- hl,rv.length]) hst fun h' hx=>?_
 have I1:a8 X pins σ H { s with heap:=h' }:=I.kept (t':=s.toks) fun b o e=>hx b o (bm1 (bk1 e)) e
 exact h pins _ σ H xs _ Q I1 (by simpa using rv) hw
noncomputable def oK (to ti:TE) (t:uR):TG:=fun v σ H Q=>to σ H fun o H1=>ti σ H1 fun i H2=>t o i v H2 fun H3=>Q σ H3
theorem B3 {o i:Expr}{to ti:TE}{t:uR} (ho:PE X o to) (hi:PE X i ti) (hs:B2 X t)
  (ha:∀ v,assign (.Subscript o i pos) X.env v=(do
   let ov <- holding [v] (eval o X.env)
   let iv <- holding [v,ov] (eval i X.env)
   standAt pos
   holding [v,ov,iv] (setItem ov iv v)
   release [v,ov,iv] []):=by intro _; rfl):PG X (.Subscript o i pos) (oK to ti t):=by
 intro pins s σ H v u Q I r h
 rw [ha]
 refine bh8 (bs0 (aQ (ho pins s σ H _ I h) fun ov s1 ⟨x,H1,I1,r1,q1⟩=>?_))
 refine bh8 (bs0 (aQ (hi pins s1 σ H1 _ I1 q1) fun iv s2 ⟨y,H2,I2,r2,q2⟩=>?_))
 refine bh8 (wpAny_standAt (bh8 (bs0 (aQ (hs pins s2 σ H2 x y v ov iv u _ I2 r1 r2 r q2) fun _ s3 ⟨H3,I3,q3⟩=>?_))))
 exact wpAny_release ⟨σ,H3,I3,q3⟩
noncomputable def iW (te:TE) (g:TG):TS:=fun D σ H=>te σ H fun x H1=>g x σ H1 D.nx
theorem B4 {tg e:Expr}{te:TE}{g:TG} (he:PE X e te) (hg:PG X tg g) (hs:swapsWithSole [tg] e pos.line X.env=pure false:=by rfl) (hw:swappedStores [tg] e X.env=pure none:=by rfl)
  (h1:(assignEach [tg] X.env).map (·.2) = [assign tg X.env]:=by rfl):PS X (.Assign [tg] e pos) (iW te g):=by
 intro pins s σ H D I h
 refine wpAny_Assign_stores (aQ (he pins s σ H _ I h) fun v s1 ⟨x,H1,I1,r1,q1⟩=>?_) hs hw
 rw [h1]
 exact aQ (hg pins s1 σ H1 x v _ I1 r1 q1) fun _ s2 q=>q
theorem qZ {i:Nat}{x:Str}{e:Expr}{te:TE}{pos':Pos} (hN:X.N.Nodup) (hi:X.N[i]? = some x) (hx:iE X.env.scope x) (he:PE X e te) (hs:swapsWith e (some (.Name x pos')) pos.line X.env=pure false:=by rfl) (hf:X.fn x=true ∨ X.env.scope.names.lookup x=some .local:=by first | exact .inl rfl | exact .inr rfl | assumption) :
  PS X (.Assign [.Name x pos'] e pos) (iW te (cO i)):=by
 intro pins s σ H D I h
 refine wpAny_Assign_Name (aQ (he pins s σ H _ I h) fun v s1 ⟨y,H1,I1,r1,q1⟩=>?_) hs
 exact uO I1 hN hi hx r1 (fun s2 I2=>⟨_,H1,I2,q1⟩) hf
end
section
variable {X : Cx} {pos : Pos}
noncomputable def B5 (c:TT) (tb:TS):TS:=fun D σ H=>∃ W:Nat->St->Hp->Prop,(∃ m,W m σ H)/\∀ m σ H,W m σ H->
 c σ H fun b H1=>if b=true then ∃ N:St->Hp->Prop,(∀ σ' H',N σ' H'->∃ m',m' < m/\W m' σ' H')/\tb { D with nx:=N,ct:=N,bk:=D.nx } σ H1 else D.nx σ H1
theorem an7 {c:Expr}{body:List Stmt}{tc:TT}{tb:TS} (hp:PassesOwn (model X.prog X.w) X.A X.env X.xe) (hc:PT X c tc) (hb:eI X body tb):PS X (.While c body [] pos) (B5 tc tb):=by
 intro pins s σ H D I h
 obtain ⟨W,⟨m0,w0⟩,turn⟩:=h
 refine wpAny_While (codeAny_whileLoop (fun n s'=>∃ σ' H',a8 X pins σ' H' s'/\W n σ' H') ?_ m0 ⟨σ,H,I,w0⟩)
 rintro n s1 ⟨σ1,H1,I1,w1⟩
 refine bw6 hp (aQ (hc pins s1 σ1 H1 _ I1 (turn n σ1 H1 w1)) fun b s2 ⟨H2,I2,q2⟩=>?_)
 cases b with
 | true=>
  obtain ⟨N,hN,q2⟩:=q2
  rw [if_pos rfl]
  refine bw6 hp (aQ (hb pins s2 σ1 H2 _ I2 q2) fun f s3 q3=>?_)
  cases f with
  | next=>
   obtain ⟨σ3,H3,I3,n3⟩:=q3
   obtain ⟨m',hm,w3⟩:=hN σ3 H3 n3
   exact⟨m',hm,σ3,H3,I3,w3⟩
  | cont=>
   obtain ⟨σ3,H3,I3,n3⟩:=q3
   obtain ⟨m',hm,w3⟩:=hN σ3 H3 n3
   exact⟨m',hm,σ3,H3,I3,w3⟩
  | brk=>exact q3
  | ret v=>exact q3
 | false=>
  rw [if_neg bk3]
  exact bw5 ⟨σ1,H2,I2,q2⟩
end
structure It where
 go:Nat->Hp->Prop
 yld:Nat->Hp->V->Hp->Prop
 stop:Nat->Hp->Prop
noncomputable def hV (X:Cx) (pins:List (Addr × Obj)) (H:Hp) (b:Addr):Prop:=
 H b=none/\b ≠ X.env.locals/\b ∉ X.fs/\(b ∈ X.ex ∨ X.s₀.heap.objs.size<=b)/\(∀ x c,X.env.cells.lookup x=some c->c ≠ b)/\∀ p ∈ X.pn ++ pins,p.1 ≠ b
theorem a8.fpOk {X:Cx}{pins:List (Addr × Obj)}{σ:St}{H H':Hp}{s:Shared}{b:Addr} (I:a8 X pins σ H s) (hb:s.heap.objs.size<=b) (hn:H' b=none):hV X pins H' b:=by
 refine⟨hn,bs1 (bj9 I.lt hb),I.nofs hb,.inr (bm6 I.sz hb),fun x c e z=>?_,fun p hp z=>?_⟩
 ·obtain ⟨v,q⟩:=I.cell x c e
  exact absurd (bj9 q.lt (by rw [z]; exact hb)) (bn2 _)
 ·exact absurd (bj9 (bk1 (I.pin p hp).1) (by rw [z]; exact hb)) (bn2 _)
structure jH (P:Program) (w:World) (K:PySem.W.Frag) (tg:Expr) (J:It) (fp:List Addr) (it:Addr) (tn:Nat->Heap->Prop):Prop where
 mem:it ∈ fp
 obj:∀ i h,tn i h->∀ b ∈ fp,∃ o,h.get? b=some o/\∀ v,o.data ≠ .cell v
 keep:∀ i h h',tn i h->(∀ b ∈ fp,∀ o,h.get? b=some o->h'.get? b=some o)->tn i h'
 item:∀ (X:Cx),X.prog=P->X.w=w->X.K=K->X.calm=true->∀ (i:Nat) (pins:List (Addr × Obj)) (s:Shared) (σ:St) (H:Hp) (E:Value->Shared->Prop),a8 X pins σ H s->(∀ b ∈ fp,hV X pins H b)->tn i s.heap->J.go i H->
  wpAny (model P w) X.A (pyNext (.ref it)) (fun r s1=>∃ u,r=some u/\
   wpAny (model P w) X.A (letOwnedTupleGo tg (.ref it) u) (fun _ s2=>∃ x H',a8 X pins σ H' s2/\aZ x u/\J.yld i H x H'/\tn (i+1) s2.heap/\∀ b ∈ fp,H' b=none) E s1) E s
 done:∀ (X:Cx),X.prog=P->X.w=w->X.K=K->X.calm=true->∀ (i:Nat) (pins:List (Addr × Obj)) (s:Shared) (σ:St) (H:Hp) (E:Value->Shared->Prop),a8 X pins σ H s->(∀ b ∈ fp,hV X pins H b)->tn i s.heap->J.stop i H->
  wpAny (model P w) X.A (pyNext (.ref it)) (fun r s1=>r=none/\a8 X pins σ H s1) E s
 self:∀ (A:Around) (i:Nat) (s:Shared) (Q:Value->Shared->Prop) (E:Value->Shared->Prop),tn i s.heap->Q (.ref it) s->wpAny (model P w) A (pyIter (.ref it)) Q E s
noncomputable abbrev TI:=St->Hp->(It->Hp->Prop)->Prop
noncomputable def B6 (X:Cx) (pins:List (Addr × Obj)) (σ:St) (tg:Expr) (R:It->Hp->Prop) (itv:Value) (s2:Shared):Prop:=
 ∃ (it:Addr) (fp:List Addr) (tn:Nat->Heap->Prop) (J:It) (H':Hp),itv = .ref it/\a8 X pins σ H' s2/\jH X.prog X.w X.K tg J fp it tn/\tn 0 s2.heap/\(∀ b ∈ fp,hV X pins H' b)/\R J H'
noncomputable def PI (X:Cx) (tg iter:Expr) (wi:TI):Prop:=
 ∀ (pins:List (Addr × Obj)) (s:Shared) (σ:St) (H:Hp) (R:It->Hp->Prop),a8 X pins σ H s->wi σ H R->
  wpAny (model X.prog X.w) X.A (eval iter X.env) (fun v s1=>wpAny (model X.prog X.w) X.A (pyIter v) (B6 X pins σ tg R) X.xe s1) X.xe s
theorem r6 {M:Model}{A:Around}{E:Value->Shared->Prop}{s:Shared}{tg:Expr}{it:Addr}{u:Value}{o:Obj}{n:String}{vs:Array Value}{Q:Unit->Shared->Prop} (ho:s.heap.get? it=some o) (hc:o.cls = .type n) (hd:o.data = .fields vs)
    (hn : ["enumerate","zip","dict_itemiterator","dict_reverseitemiterator","odict_iterator","itertools.zip_longest","itertools.pairwise"].contains n=false) (hQ:Q () s):wpAny M A (letOwnedTupleGo tg (.ref it) u) Q E s:=by
  unfold letOwnedTupleGo
  cases tg <;> first
    | exact bj3 hQ
    | (cases u <;> first
        | exact bj3 hQ
        | (refine bh8 (wpAny_load ho ?_)
           rw [hc,hd]
           show wpAny M A (if (["enumerate","zip","dict_itemiterator","dict_reverseitemiterator","odict_iterator","itertools.zip_longest","itertools.pairwise"].contains n && vs[0]? == some (rawInt _))=true then _ else _) Q E s
           rw [if_neg (by intro h; rw [hn,Bool.false_and] at h; cases h)]
           exact bj3 hQ))
noncomputable def mL (K:PySem.W.Frag) (a:Addr):It:=
 ⟨fun i H=>∃ xs x,aM K H a xs/\xs[i]? = some x,fun i H x H'=>H'=H/\∀ xs,aM K H a xs->xs[i]? = some x,fun i H=>∃ xs,aM K H a xs/\xs.length<=i⟩
noncomputable def kL (K:PySem.W.Frag) (a:Addr):It:=
 ⟨fun i H=>∃ xs x,aJ K H a xs/\xs[i]? = some x,fun i H x H'=>H'=H/\∀ xs,aJ K H a xs->xs[i]? = some x,fun i H=>∃ xs,aJ K H a xs/\xs.length<=i⟩
noncomputable def oM (lo:Int) (n:Nat):It:=⟨fun i _=>i < n,fun i H x H'=>H'=H/\x = .int (lo+i),fun i _=>n<=i⟩
theorem an8 {P:Program}{w:World}{K:PySem.W.Frag}{tg:Expr} (a it:Addr):jH P w K tg (mL K a) [it] it (fun i h=>h.IsListIter it a i) where
 mem:=by simp
 obj:=fun i h st b hb=>by
  have e:b=it:=by simpa using hb
  subst e
  obtain ⟨o,e,c,d⟩:=st
  exact⟨o,e,fun v z=>by rw [d] at z; cases z⟩
 keep:=fun i h h' st k=>st.at fun o e=>k it (by simp) o e
 item:=by
  intro X hP hw hK hc i pins s σ H E I hf st hg
  subst hP hw hK
  obtain ⟨xs,x,hq,hx⟩:=hg
  obtain ⟨its,rv,p,hz⟩:=I.list hq
  obtain ⟨u,hu,ru⟩:=rv.get hx
  obtain ⟨f0,f1,f2,f3,f4,f5⟩:=hf it (by simp)
  refine wpAny_pyNext_list_item st p.isList (x:=u) (by simpa using hu) fun h' st' sb=>?_
  have I1:a8 X pins σ H { s with heap:=h' }:=I.turned (t':=s.toks) (fun b o hb e=>(sb.2 b hb).trans e) f0 f1 f3 f4 f5
  obtain ⟨o,e,c,d⟩:=id st'
  exact⟨u,rfl,r6 (s:={ s with heap:=h' }) e c d (by decide) ⟨x,H,I1,ru,⟨rfl,fun ys hy=>by rw [I.list_inj hy hq]; exact hx⟩,st',fun b hb=>(hf b hb).1⟩⟩
 done:=by
  intro X hP hw hK hc i pins s σ H E I hf st hg
  subst hP hw hK
  obtain ⟨xs,hq,hx⟩:=hg
  obtain ⟨its,rv,p,hz⟩:=I.list hq
  obtain ⟨f0,f1,f2,f3,f4,f5⟩:=hf it (by simp)
  have hl:=rv.length
  exact wpAny_pyNext_list_end (I.ok.hd hc) st p.isList (by simp; omega) fun h' eb=>⟨rfl,I.turned (t':=s.toks) (fun b o hb e=>eb b o hb e) f0 f1 f3 f4 f5⟩
 self:=fun _ _ _ _ _ st h=>wpAny_pyIter_listiter st h
theorem B7 {P:Program}{w:World}{K:PySem.W.Frag}{tg:Expr} (a it:Addr):jH P w K tg (kL K a) [it] it (fun i h=>h.IsTupleIter it a i) where
 mem:=by simp
 obj:=fun i h st b hb=>by
  have e:b=it:=by simpa using hb
  subst e
  obtain ⟨o,e,c,d⟩:=st
  exact⟨o,e,fun v z=>by rw [d] at z; cases z⟩
 keep:=fun i h h' st k=>st.at fun o e=>k it (by simp) o e
 item:=by
  intro X hP hw hK hc i pins s σ H E I hf st hg
  subst hP hw hK
  obtain ⟨xs,x,hq,hx⟩:=hg
  obtain ⟨its,rv,p,hz⟩:=I.tuple hq
  obtain ⟨u,hu,ru⟩:=rv.get hx
  obtain ⟨f0,f1,f2,f3,f4,f5⟩:=hf it (by simp)
  refine wpAny_pyNext_tuple_item st (show s.heap.IsTuple a its.toArray from p) (x:=u) (by simpa using hu) fun h' st' sb=>?_
  have I1:a8 X pins σ H { s with heap:=h' }:=I.turned (t':=s.toks) (fun b o hb e=>(sb.2 b hb).trans e) f0 f1 f3 f4 f5
  obtain ⟨o,e,c,d⟩:=id st'
  exact⟨u,rfl,r6 (s:={ s with heap:=h' }) e c d (by decide) ⟨x,H,I1,ru,⟨rfl,fun ys hy=>by rw [I.tuple_inj hy hq]; exact hx⟩,st',fun b hb=>(hf b hb).1⟩⟩
 done:=by
  intro X hP hw hK hc i pins s σ H E I hf st hg
  subst hP hw hK
  obtain ⟨xs,hq,hx⟩:=hg
  obtain ⟨its,rv,p,hz⟩:=I.tuple hq
  obtain ⟨f0,f1,f2,f3,f4,f5⟩:=hf it (by simp)
  have hl:=rv.length
  exact wpAny_pyNext_tuple_end (I.ok.hd hc) st (show s.heap.IsTuple a its.toArray from p) (by simp; omega) fun h' eb=>⟨rfl,I.turned (t':=s.toks) (fun b o hb e=>eb b o hb e) f0 f1 f3 f4 f5⟩
 self:=fun _ _ _ _ _ st h=>wpAny_pyIter_tupleiter st h
theorem an9 {P:Program}{w:World}{K:PySem.W.Frag}{tg:Expr} (it:Addr) (lo:Int) (n:Nat):jH P w K tg (oM lo n) [it] it (fun i h=>IsRangeIter h it (lo+(i:Nat) * 1) ((n:Int) - (i:Nat)) 1) where
 mem:=by simp
 obj:=fun i h st b hb=>by
  have e:b=it:=by simpa using hb
  subst e
  exact⟨_,st,fun v z=>by
   have z':Data.fields _=Data.cell v:=z
   cases z'⟩
 keep:=fun i h h' st k=>k it (by simp) _ st
 item:=by
  intro X hP hw hK hc i pins s σ H E I hf st hg
  subst hP hw hK
  obtain ⟨f0,f1,f2,f3,f4,f5⟩:=hf it (by simp)
  have W:=Walks.range (prog:=X.prog) (w:=X.w) (I.ok.hd hc) it lo 1 n
  refine W.item i s _ _ hg st fun v h' tk hv st' kk=>?_
  obtain ⟨t,rfl⟩:=hv
  have I1:a8 X pins σ H { s with heap:=h',toks:=tk }:=I.turned (fun b o hb e=>kk b o (by simpa using hb) e) f0 f1 f3 f4 f5
  refine⟨_,rfl,r6 (s:={ s with heap:=h',toks:=tk }) (n:="range_iterator") st' rfl rfl (by decide) ⟨.int (lo+i),H,I1,⟨t,?_⟩,⟨rfl,rfl⟩,st',fun b hb=>(hf b hb).1⟩⟩
  rw [Int.mul_one]
 done:=by
  intro X hP hw hK hc i pins s σ H E I hf st hg
  subst hP hw hK
  obtain ⟨f0,f1,f2,f3,f4,f5⟩:=hf it (by simp)
  exact wpAny_pyNext_range_end (I.ok.hd hc) st (by have:n<=i:=hg; omega) fun h' eb=>⟨rfl,I.turned (t':=s.toks) (fun b o hb e=>eb b o hb e) f0 f1 f3 f4 f5⟩
 self:=fun _ _ _ _ _ st h=>wpAny_pyIter_rangeiter st h
section
variable {X : Cx} {tg : Expr}
noncomputable def ao0 (K:PySem.W.Frag) (tl:TE):TI:=fun σ H R=>tl σ H fun x H1=>∃ a,x = .ref a/\(∃ xs,aJ K H1 a xs)/\R (kL K a) H1
theorem r9 {l:Expr}{tl:TE} (hl:PE X l tl):PI X tg l (ao0 X.K tl):=by
 intro pins s σ H R I h
 refine aQ (hl pins s σ H _ I h) fun v s1 ⟨x,H1,I1,r1,q1⟩=>?_
 obtain ⟨a,e,⟨xs,hq⟩,q⟩:=q1
 subst e
 cases r1
 obtain ⟨its,rv,p,hz⟩:=I1.tuple hq
 refine wpAny_pyIter_tuple (show s1.heap.IsTuple a its.toArray from p) ?_
 refine⟨s1.heap.objs.size,[s1.heap.objs.size],_,_,H1,rfl,I1.kept (t':=s1.toks) fun b o e=>bi1 _ e,B7 a _,⟨_,bk0 _ rfl,rfl,rfl⟩,fun b hb=>?_,q⟩
 have e:b=s1.heap.objs.size:=by simpa using hb
 subst e
 exact I1.fpOk (bi8 _) (I1.hok.fresh (bi8 _))
theorem B8 {pins:List (Addr × Obj)}{σ:St}{H:Hp}{s:Shared}{R:It->Hp->Prop}{E:Value->Shared->Prop}{lo hi:Int}{t u v:Tok}{tk:Nat} (I:a8 X pins σ H s) (h1 : -(2 ^ 62)<=lo) (h2:lo < 2 ^ 62) (h3 : -(2 ^ 62)<=hi) (h4:hi < 2 ^ 62)
  (q:R (oM lo (hi - lo).toNat) H):wpAny (model X.prog X.w) X.A (pyIter (.ref s.heap.objs.size)) (B6 X pins σ tg R) E { s with heap:=s.heap.push { cls:=.type "range",data:=.fields #[.int lo t,.int hi u,.int 1 v] },toks:=tk }:=by
 refine wpAny_pyIter_range (IsRange.new ..) (small_one h1 h2 h3 h4) ?_
 have I1:a8 X pins σ H { s with heap:=s.heap.push { cls:=.type "range",data:=.fields #[.int lo t,.int hi u,.int 1 v] },toks:=tk }:=I.kept fun b o e=>bi1 _ e
 refine⟨(s.heap.push { cls:=.type "range",data:=.fields #[.int lo t,.int hi u,.int 1 v] }).objs.size,[(s.heap.push { cls:=.type "range",data:=.fields #[.int lo t,.int hi u,.int 1 v] }).objs.size],_,_,H,rfl,
  I1.kept (t':=tk) fun b o e=>bi1 _ e,an9 _ lo (hi - lo).toNat,?_,fun b hb=>?_,q⟩
 ·have e1:lo+((0:Nat):Int) * 1=lo:=by simp
  have e2:(((hi - lo).toNat:Nat):Int) - ((0:Nat):Int)=Builtin.Range.rangeSize lo hi 1:=by rw [rangeSize_one]; split <;> omega
  show IsRangeIter _ _ (lo+((0:Nat):Int) * 1) ((((hi - lo).toNat:Nat):Int) - ((0:Nat):Int)) 1
  rw [e1,e2]
  exact bk0 _ rfl
 ·have e:b=(s.heap.push { cls:=.type "range",data:=.fields #[.int lo t,.int hi u,.int 1 v] }).objs.size:=by simpa using hb
  subst e
  exact I1.fpOk (bi8 _) (I1.hok.fresh (bi8 _))
noncomputable def B9 (ta:TA):TI:=fun σ H R=>ta σ H fun vs H1=>∃ j:Int,vs = [.int j]/\-(2 ^ 62)<=j/\j < 2 ^ 62/\R (oM 0 j.toNat) H1
noncomputable def C0 (ta:TA):TI:=fun σ H R=>ta σ H fun vs H1=>∃ i j:Int,vs = [.int i,.int j]/\(-(2 ^ 62)<=i/\i < 2 ^ 62/\-(2 ^ 62)<=j/\j < 2 ^ 62)/\R (oM i (j - i).toNat) H1
theorem ao1 {a:Expr}{ta:TA}{p pos:Pos} (hg:Gl X "range") (hm:X.mg "range" = none) (ha:PA X [a] ta) (hs:starEach [a] X.env = [(false,eval a X.env)]:=by rfl):PI X tg (.Call (.Name "range" p) [a] [] pos) (B9 ta):=by
 intro pins s σ H R I h
 refine Call_ (jG I hg hm boot_range (bp6 (aQ (ha pos pins s σ H _ I h) fun us s1 ⟨vs,H1,I1,r1,q1⟩=>?_) hs rfl))
 obtain ⟨j,e,q1,q2,q⟩:=q1
 subst e
 cases r1 with
 | cons r rr=>
  cases rr
  obtain ⟨t,rfl⟩:=r
  exact call_range_1 (B8 I1 (by omega) (by omega) q1 q2 (by simpa using q))
theorem ao2 {a b:Expr}{ta:TA}{p pos:Pos} (hg:Gl X "range") (hm:X.mg "range" = none) (ha:PA X [a,b] ta) (hs:starEach [a,b] X.env = [(false,eval a X.env),(false,eval b X.env)]:=by rfl) (hs2:starEach [b] X.env = [(false,eval b X.env)]:=by rfl) :
  PI X tg (.Call (.Name "range" p) [a,b] [] pos) (C0 ta):=by
 intro pins s σ H R I h
 refine Call_ (jG I hg hm boot_range (bp6 (aQ (ha pos pins s σ H _ I h) fun us s1 ⟨vs,H1,I1,r1,q1⟩=>?_) (by rw [hs,hs2]) (by rw [hs2]; rfl)))
 obtain ⟨i,j,e,⟨q1,q2,q3,q4⟩,q⟩:=q1
 subst e
 cases r1 with
 | cons r rr=>
  cases rr with
  | cons r' rr=>
   cases rr
   obtain ⟨t,rfl⟩:=r
   obtain ⟨t',rfl⟩:=r'
   exact call_range_2 (B8 I1 q1 q2 q3 q4 q)
noncomputable def C1 (wi:TI) (g:TG) (tb:TS):TS:=fun D σ H=>wi σ H fun J H1=>∃ W:Nat->Nat->St->Hp->Prop,(∃ m,W 0 m σ H1)/\∀ i m σ H,W i m σ H->
 (J.stop i H/\D.nx σ H) ∨ (J.go i H/\∃ N:St->Hp->Prop,(∀ σ' H',N σ' H'->∃ m',m' < m/\W (i+1) m' σ' H')/\∀ x H',J.yld i H x H'->g x σ H' fun σ2 H2=>tb { D with nx:=N,ct:=N,bk:=D.nx } σ2 H2)
noncomputable def oN (fp:List Addr) (h:Heap):List (Addr × Obj):=fp.filterMap fun b=>(h.get? b).map fun o=>(b,o)
theorem rA {fp:List Addr}{h:Heap}{b:Addr}{o:Obj} (hb:b ∈ fp) (e:h.get? b=some o):(b,o) ∈ oN fp h:=bw1.mpr ⟨b,hb,by rw [e]; rfl⟩
theorem ao3 {fp:List Addr}{h:Heap}{p:Addr × Obj} (hp:p ∈ oN fp h):p.1 ∈ fp/\h.get? p.1=some p.2:=by
 obtain ⟨b,hb,e⟩:=bw1.mp hp
 cases q:h.get? b with
 | none=>rw [q] at e; cases e
 | some o=>
  rw [q] at e
  have e':(b,o)=p:=bl2 e
  subst e'
  exact⟨hb,q⟩
theorem a8.pinned {pins:List (Addr × Obj)}{σ:St}{H:Hp}{s:Shared}{fp:List Addr} (I:a8 X pins σ H s) (hf:∀ b ∈ fp,hV X pins H b) (ho:∀ b ∈ fp,∃ o,s.heap.get? b=some o/\∀ v,o.data ≠ .cell v):a8 X (pins ++ oN fp s.heap) σ H s:=
 I.pins_of fun p hp=>(bi7.mp hp).elim (fun z=>I.pin p (bk5 _ z)) fun z=>by
  obtain ⟨hb,e⟩:=ao3 z
  obtain ⟨f0,f1,f2,_⟩:=hf p.1 hb
  obtain ⟨o,e',d⟩:=ho p.1 hb
  rw [e] at e'; cases e'
  exact⟨e,f0,f1,f2,d⟩
theorem a8.unpinned {pins pl:List (Addr × Obj)}{σ:St}{H:Hp}{s:Shared} (I:a8 X (pins ++ pl) σ H s):a8 X pins σ H s:=I.pins_of fun p hp=>I.pin p (bk5 _ (bk7 _ hp))
theorem uS {iter:Expr}{body:List Stmt}{wi:TI}{g:TG}{tb:TS}{pos:Pos} (hp:PassesOwn (model X.prog X.w) X.A X.env X.xe) (hc:X.calm=true) (hi:PI X tg iter wi) (hg:PG X tg g) (hb:eI X body tb)
  (hs:∀ x,foldedSetIterable iter X.env x=pure x:=by intro _; rfl):PS X (.For tg iter body [] pos) (C1 wi g tb):=by
 intro pins s σ H D I h
 refine wpAny_For (aQ (hi pins s σ H _ I h) fun v s1 h1=>aQ h1 fun itv s2 h2=>?_) hs
 obtain ⟨it,fp,tn,J,H2,e,I2,T,st2,f2,W,⟨m0,w0⟩,turn⟩:=h2
 subst e
 have stat:∀ {H':Hp},(∀ b ∈ fp,H' b=none)->∀ b ∈ fp,hV X pins H' b:=fun hn b hb=>⟨hn b hb,(f2 b hb).2⟩
 refine codeAny_forLoop_any (fun n s'=>∃ i σ' H',a8 X pins σ' H' s'/\tn i s'.heap/\(∀ b ∈ fp,H' b=none)/\W i n σ' H') ?_ m0 ⟨0,σ,H2,I2,st2,fun b hb=>(f2 b hb).1,w0⟩
 rintro n s3 ⟨i,σ3,H3,I3,st3,fr3,w3⟩
 rcases turn i n σ3 H3 w3 with ⟨stop,qn⟩ | ⟨go,N,hN,step⟩
 ·refine bw6 hp (aQ (T.done X rfl rfl rfl hc i pins s3 σ3 H3 X.xe I3 (stat fr3) st3 stop) fun r s4 ⟨hr,I4⟩=>?_)
  subst hr
  exact bw5 ⟨σ3,H3,I4,qn⟩
 ·refine bw6 hp (aQ (T.item X rfl rfl rfl hc i pins s3 σ3 H3 X.xe I3 (stat fr3) st3 go) fun r s4 ⟨u,hr,h4⟩=>?_)
  subst hr
  refine bw6 hp (aQ h4 fun _ s5 ⟨x,H5,I5,r5,y5,st5,fr5⟩=>?_)
  have I5':=I5.pinned (stat fr5) (T.obj _ _ st5)
  refine bw6 hp (aQ (hg _ s5 σ3 H5 x u _ I5' r5 (step x H5 y5)) fun _ s6 ⟨σ6,H6,I6,q6⟩=>?_)
  refine bw6 hp (aQ (hb _ s6 σ6 H6 _ I6 q6) fun f s7 q7=>?_)
  have again:∀ {σ7:St}{H7:Hp},a8 X (pins ++ oN fp s5.heap) σ7 H7 s7->N σ7 H7->∃ m,m < n/\∃ i σ' H',a8 X pins σ' H' s7/\tn i s7.heap/\(∀ b ∈ fp,H' b=none)/\W i m σ' H':=fun {σ7 H7} I7 n7=>by
   obtain ⟨m',hm,w7⟩:=hN σ7 H7 n7
   refine⟨m',hm,i+1,σ7,H7,I7.unpinned,T.keep _ _ _ st5 fun b hb o e=>(I7.pin (b,o) (bk5 _ (bk5 _ (rA hb e)))).1,fun b hb=>?_,w7⟩
   obtain ⟨o,e,d⟩:=T.obj _ _ st5 b hb
   exact (I7.pin (b,o) (bk5 _ (bk5 _ (rA hb e)))).2.1
  cases f with
  | next=>obtain ⟨σ7,H7,I7,n7⟩:=q7; exact again I7 n7
  | cont=>obtain ⟨σ7,H7,I7,n7⟩:=q7; exact again I7 n7
  | brk=>obtain ⟨σ7,H7,I7,q7⟩:=q7; exact⟨σ7,H7,I7.unpinned,q7⟩
  | ret v=>obtain ⟨x7,σ7,H7,I7,r7,q7⟩:=q7; exact⟨x7,σ7,H7,I7.unpinned,r7,q7⟩
end
theorem bh0 {K:PySem.W.Frag}{a:Addr}{xs:List V}{g:TG}{tb:TS}{D:dL}{σ:St}{H:Hp} (Pv:Nat->St->Hp->Prop) (h0:Pv 0 σ H) (hl:∀ i σ H,i<=xs.length->Pv i σ H->aM K H a xs)
  (hs:∀ i x σ H,xs[i]? = some x->Pv i σ H->g x σ H fun σ2 H2=>tb { D with nx:=Pv (i+1),ct:=Pv (i+1),bk:=D.nx } σ2 H2) (hd:∀ σ H,Pv xs.length σ H->D.nx σ H) :
  ∃ W:Nat->Nat->St->Hp->Prop,(∃ m,W 0 m σ H)/\∀ i m σ H,W i m σ H->
   ((mL K a).stop i H/\D.nx σ H) ∨ ((mL K a).go i H/\∃ N:St->Hp->Prop,(∀ σ' H',N σ' H'->∃ m',m' < m/\W (i+1) m' σ' H')/\∀ x H',(mL K a).yld i H x H'->g x σ H' fun σ2 H2=>tb { D with nx:=N,ct:=N,bk:=D.nx } σ2 H2):=by
 refine⟨fun i m σ H=>m=xs.length - i/\i<=xs.length/\Pv i σ H,⟨xs.length,by simp,bm9 _,h0⟩,?_⟩
 rintro i m σ H ⟨rfl,hi,p⟩
 have q:=hl i σ H hi p
 by_cases hlt:i < xs.length
 ·refine .inr ⟨⟨xs,xs[i],q,by simp [hlt]⟩,Pv (i+1),fun σ' H' p'=>⟨xs.length - (i+1),by omega,rfl,hlt,p'⟩,fun x H' y=>?_⟩
  obtain ⟨e,y⟩:=y
  subst e
  exact hs i x σ _ (y xs q) p
 ·have e:i=xs.length:=by omega
  subst e
  exact .inl ⟨⟨xs,q,bi8 _⟩,hd σ H p⟩
theorem C2 {K:PySem.W.Frag}{a:Addr}{xs:List V}{g:TG}{tb:TS}{D:dL}{σ:St}{H:Hp} (Pv:Nat->St->Hp->Prop) (h0:Pv 0 σ H) (hl:∀ i σ H,i<=xs.length->Pv i σ H->aJ K H a xs)
  (hs:∀ i x σ H,xs[i]? = some x->Pv i σ H->g x σ H fun σ2 H2=>tb { D with nx:=Pv (i+1),ct:=Pv (i+1),bk:=D.nx } σ2 H2) (hd:∀ σ H,Pv xs.length σ H->D.nx σ H) :
  ∃ W:Nat->Nat->St->Hp->Prop,(∃ m,W 0 m σ H)/\∀ i m σ H,W i m σ H->
   ((kL K a).stop i H/\D.nx σ H) ∨ ((kL K a).go i H/\∃ N:St->Hp->Prop,(∀ σ' H',N σ' H'->∃ m',m' < m/\W (i+1) m' σ' H')/\∀ x H',(kL K a).yld i H x H'->g x σ H' fun σ2 H2=>tb { D with nx:=N,ct:=N,bk:=D.nx } σ2 H2):=by
 refine⟨fun i m σ H=>m=xs.length - i/\i<=xs.length/\Pv i σ H,⟨xs.length,by simp,bm9 _,h0⟩,?_⟩
 rintro i m σ H ⟨rfl,hi,p⟩
 have q:=hl i σ H hi p
 by_cases hlt:i < xs.length
 ·refine .inr ⟨⟨xs,xs[i],q,by simp [hlt]⟩,Pv (i+1),fun σ' H' p'=>⟨xs.length - (i+1),by omega,rfl,hlt,p'⟩,fun x H' y=>?_⟩
  obtain ⟨e,y⟩:=y
  subst e
  exact hs i x σ _ (y xs q) p
 ·have e:i=xs.length:=by omega
  subst e
  exact .inl ⟨⟨xs,q,bi8 _⟩,hd σ H p⟩
noncomputable abbrev R2:=V->V->Hp->VK->Prop
noncomputable def c9 (X:Cx) (f:Value->Value->Sem Value) (r:R2):Prop:=
 ∀ (pins:List (Addr × Obj)) (s:Shared) (σ:St) (H:Hp) (x y:V) (v u:Value) (Q:VK),a8 X pins σ H s->aZ x v->aZ y u->r x y H Q->
  wpAny (model X.prog X.w) X.A (f v u) (EP X pins σ Q) X.xe s
noncomputable def uT (X:Cx) (f:Value->Sem Value) (r:V->Hp->VK->Prop):Prop:=
 ∀ (pins:List (Addr × Obj)) (s:Shared) (σ:St) (H:Hp) (x:V) (v:Value) (Q:VK),a8 X pins σ H s->aZ x v->r x H Q->
  wpAny (model X.prog X.w) X.A (f v) (EP X pins σ Q) X.xe s
noncomputable def cX (X:Cx) (f:Value) (r:List V->Hp->VK->Prop):Prop:=
 ∀ (pins:List (Addr × Obj)) (s:Shared) (σ:St) (H:Hp) (xs:List V) (us:List Value) (Q:VK),a8 X pins σ H s->aO xs us->r xs H Q->
  wpAny (model X.prog X.w) X.A (call f us) (EP X pins σ Q) X.xe s
noncomputable def ao4 (X:Cx) (r:V->Hp->(Bool->Hp->Prop)->Prop):Prop:=
 ∀ (pins:List (Addr × Obj)) (s:Shared) (σ:St) (H:Hp) (x:V) (v:Value) (Q:Bool->Hp->Prop),a8 X pins σ H s->aZ x v->r x H Q->
  wpAny (model X.prog X.w) X.A (truthy v) (TP X pins σ Q) X.xe s
noncomputable def mM (r:R2) (ta tb:TE):TE:=fun σ H Q=>ta σ H fun x H1=>tb σ H1 fun y H2=>r x y H2 Q
noncomputable def tUn (r:V->Hp->VK->Prop) (ta:TE):TE:=fun σ H Q=>ta σ H fun x H1=>r x H1 Q
noncomputable def rI (C:Int->Int->Prop) (g:Int->Int->V):R2:=fun x y H Q=>∃ i j,x = .int i/\y = .int j/\C i j/\Q (g i j) H
noncomputable def iX (g:Int->Int->V):R2:=fun x y H Q=>∃ i j,x = .int i/\y = .int j/\Q (g i j) H
noncomputable def rU (g:Int->V):V->Hp->VK->Prop:=fun x H Q=>∃ i,x = .int i/\Q (g i) H
section
variable {X : Cx} {a b c : Expr} {ta tb tc : TE} {pos : Pos}
theorem uU (ha:PE X a ta) (hb:PE X b tb) {pins:List (Addr × Obj)}{s:Shared}{σ:St}{H:Hp}{R:V->V->Hp->Prop} (I:a8 X pins σ H s)
  (h:ta σ H fun x H1=>tb σ H1 fun y H2=>R x y H2) {Q:Value->Shared->Prop}{f:Value->Value->Sem Value}
  (hf:∀ v u s2 x y H2,a8 X pins σ H2 s2->aZ x v->aZ y u->R x y H2->wpAny (model X.prog X.w) X.A (f v u) Q X.xe s2) :
  wpAny (model X.prog X.w) X.A (eval a X.env) (fun v s₁=>wpAny (model X.prog X.w) X.A (eval b X.env) (fun u s₂=>wpAny (model X.prog X.w) X.A (f v u) Q X.xe s₂) X.xe s₁) X.xe s:=by
 refine aQ (ha pins s σ H _ I h) fun v s1 ⟨x,H1,I1,r1,q1⟩=>?_
 refine aQ (hb pins s1 σ H1 _ I1 q1) fun u s2 ⟨y,H2,I2,r2,q2⟩=>?_
 exact hf v u s2 x y H2 I2 r1 r2 q2
theorem ao5 {op:Operator}{r:R2} (ho:c9 X (binaryOp op) r) (ha:PE X a ta) (hb:PE X b tb):PE X (.BinOp a op b pos) (mM r ta tb):=by
 intro pins s σ H Q I h
 exact wpAny_BinOp (uU ha hb I h fun v u s2 x y H2 I2 rx ry q=>ho pins s2 σ H2 x y v u Q I2 rx ry q)
theorem ao6 {op:UnaryOp}{r:V->Hp->VK->Prop} (ho:uT X (unaryOp op) r) (ha:PE X a ta):PE X (.UnaryOp op a pos) (tUn r ta):=by
 intro pins s σ H Q I h
 exact UnaryOp_ (aQ (ha pins s σ H _ I h) fun v s1 ⟨x,H1,I1,r1,q1⟩=>ho pins s1 σ H1 x v Q I1 r1 q1)
theorem rB {f:Value->Value->Sem Value}{C:Int->Int->Prop}{g:Int->Int->Int}
  (rule:∀ (i j:Int) (t u:Tok) (s:Shared) (Q:Value->Shared->Prop) (E:Value->Shared->Prop),C i j->Q (.int (g i j) s.toks) { s with toks:=s.toks+1 }->wpAny (model X.prog X.w) X.A (f (.int i t) (.int j u)) Q E s) :
  c9 X f (rI C fun i j=>.int (g i j)):=by
 intro pins s σ H x y v u Q I rx ry h
 obtain ⟨i,j,rfl,rfl,hc,q⟩:=h
 obtain ⟨t,rfl⟩:=rx
 obtain ⟨t',rfl⟩:=ry
 exact rule i j t t' s _ _ hc ⟨.int (g i j),H,I.tok _,⟨_,rfl⟩,q⟩
theorem C3 {f:Value->Value->Sem Value}{g:Int->Int->Int}
  (rule:∀ (i j:Int) (t u:Tok) (s:Shared) (Q:Value->Shared->Prop) (E:Value->Shared->Prop),Q (.int (g i j) s.toks) { s with toks:=s.toks+1 }->wpAny (model X.prog X.w) X.A (f (.int i t) (.int j u)) Q E s) :
  c9 X f (iX fun i j=>.int (g i j)):=by
 intro pins s σ H x y v u Q I rx ry h
 obtain ⟨i,j,rfl,rfl,q⟩:=h
 obtain ⟨t,rfl⟩:=rx
 obtain ⟨t',rfl⟩:=ry
 exact rule i j t t' s _ _ ⟨.int (g i j),H,I.tok _,⟨_,rfl⟩,q⟩
theorem rC {f:Value->Value->Sem Value}{g:Int->Int->Bool}
  (rule:∀ (i j:Int) (t u:Tok) (s:Shared) (Q:Value->Shared->Prop) (E:Value->Shared->Prop),Q (.bool (g i j)) s->wpAny (model X.prog X.w) X.A (f (.int i t) (.int j u)) Q E s) :
  c9 X f (iX fun i j=>.bl (g i j)):=by
 intro pins s σ H x y v u Q I rx ry h
 obtain ⟨i,j,rfl,rfl,q⟩:=h
 obtain ⟨t,rfl⟩:=rx
 obtain ⟨t',rfl⟩:=ry
 exact rule i j t t' s _ _ ⟨.bl (g i j),H,I,rfl,q⟩
noncomputable def uV (i j:Int):Prop:=0 < j/\j < 1073741824
noncomputable def uW (i j:Int):Prop:=0<=j/\j<=1000000/\i.natAbs < 2 ^ 64
noncomputable def oO (i j:Int):Prop:=(-(2 ^ 64) < i/\i < 2 ^ 64) ∨ (-(2 ^ 64) < j/\j < 2 ^ 64)
theorem oO.ok {i j:Int} (h:oO i j):IntMulOk i j:=by
 rcases h with ⟨h1,h2⟩ | ⟨h1,h2⟩
 ·exact .of_left (intBits_le_64 h1 h2)
 ·exact .of_right (intBits_le_64 h1 h2)
theorem ao7:c9 X (binaryOp .Add) (iX fun i j=>.int (i+j)):=C3 fun _ _ _ _ _ _ _ q=>add_int q
theorem ao8:c9 X (binaryOp .Sub) (iX fun i j=>.int (i - j)):=C3 fun _ _ _ _ _ _ _ q=>sub_int q
theorem ao9:c9 X (binaryOp .Mult) (rI oO fun i j=>.int (i * j)):=rB fun _ _ _ _ _ _ _ hc q=>mul_int q hc.ok
theorem ap0:c9 X (binaryOp .FloorDiv) (rI uV fun i j=>.int (i / j)):=rB fun i j _ _ _ _ _ hc q=>by
 have h1:(0:Int) < j:=hc.1
 have h2:j < 1073741824:=hc.2
 exact floordiv_int (by omega) (by rw [Int.fdiv_eq_ediv_of_nonneg i (by omega)]; exact q) (.inl (PyProof.noPylong_small (by omega)))
theorem ap1:c9 X (binaryOp .Mod) (rI (fun _ j=>0 < j) fun i j=>.int (i % j)):=rB fun i j _ _ _ _ _ hc q=>by
 have h1:(0:Int) < j:=hc
 exact mod_int' (by omega) (by rw [Int.fmod_eq_emod_of_nonneg i (by omega)]; exact q)
theorem ap2:c9 X (binaryOp .Pow) (rI uW fun i j=>.int (i ^ j.toNat)):=rB fun _ _ _ _ _ _ _ hc q=>pow_int_small hc.1 hc.2.1 hc.2.2 q
theorem unI {f:Value->Sem Value}{g:Int->Int}
  (rule:∀ (i:Int) (t:Tok) (s:Shared) (Q:Value->Shared->Prop) (E:Value->Shared->Prop),Q (.int (g i) s.toks) { s with toks:=s.toks+1 }->wpAny (model X.prog X.w) X.A (f (.int i t)) Q E s) :
  uT X f (rU fun i=>.int (g i)):=by
 intro pins s σ H x v Q I rx h
 obtain ⟨i,rfl,q⟩:=h
 obtain ⟨t,rfl⟩:=rx
 exact rule i t s _ _ ⟨.int (g i),H,I.tok _,⟨_,rfl⟩,q⟩
theorem ap3:uT X (unaryOp .USub) (rU fun i=>.int (-i)):=unI fun _ _ _ _ _ q=>neg_int q
end
noncomputable def C4:V->V->Bool
 | .non,.non=>true | .non,.int _=>true | .int _,.non=>true | .non,.bl _=>true | .bl _,.non=>true | .non,.str _=>true | .str _,.non=>true
 | .int _,.int _=>true | .bl _,.bl _=>true | .str _,.str _=>true | .byt _,.byt _=>true
 | .int _,.str _=>true | .str _,.int _=>true | .bl _,.str _=>true | .str _,.bl _=>true
 | _,_=>false
noncomputable def C5:R2:=fun x y H Q=>C4 x y=true/\Q (.bl (decide (x=y))) H
noncomputable def uX:R2:=fun x y H Q=>C4 x y=true/\Q (.bl (!decide (x=y))) H
theorem C6 {i j:Int}:decide (V.int i=V.int j)=(i == j):=by
 rw [bp8]
 simp
theorem C7 {i j:Bool}:decide (V.bl i=V.bl j)=(i == j):=by
 rw [bp8]
 simp
theorem C8 {i j:Str}:decide (V.str i=V.str j)=(i == j):=by
 rw [bp8]
 simp
theorem C9 {i j:Array UInt8}:decide (V.byt i=V.byt j)=(i.toList == j.toList):=by
 rw [bp8]
 cases i
 cases j
 simp
section
variable {X : Cx} {a b c : Expr} {ta tb tc : TE} {pos : Pos}
theorem c8 {pins:List (Addr × Obj)}{σ:St}{H:Hp}{s:Shared}{Q:VK}{k k':Bool} (I:a8 X pins σ H s) (q:Q (.bl k) H) (e:k=k'):EP X pins σ Q (.bool k') s:=by
 subst e
 exact⟨.bl k,H,I,rfl,q⟩
theorem E1:c9 X (compareOp .Eq) C5:=by
 intro pins s σ H x y v u Q I rx ry h
 obtain ⟨hs,q⟩:=h
 cases x with
 | non=>
  cases rx
  cases y with
  | non=>cases ry; exact PySem.EqNone.eq_none_none (c8 I q (by simp))
  | bl j=>cases ry; exact PySem.EqNone.eq_none_bool (c8 I q (by simp))
  | int j=>obtain ⟨t',rfl⟩:=ry; exact PySem.EqNone.eq_none_int (c8 I q (by simp))
  | str j=>obtain ⟨t',rfl⟩:=ry; exact PySem.EqNone.eq_none_str (c8 I q (by simp))
  | _=>exact absurd (show false=true from hs) bk3
 | bl i=>
  cases rx
  cases y with
  | non=>cases ry; exact PySem.EqNone.eq_bool_none (c8 I q (by simp))
  | bl j=>cases ry; exact eq_bool (c8 I q C7)
  | str j=>obtain ⟨t',rfl⟩:=ry; exact PySem.EqMixed.eq_bool_str (c8 I q (by simp))
  | _=>exact absurd (show false=true from hs) bk3
 | int i=>
  obtain ⟨t,rfl⟩:=rx
  cases y with
  | non=>cases ry; exact PySem.EqNone.eq_int_none (c8 I q (by simp))
  | int j=>obtain ⟨t',rfl⟩:=ry; exact eq_int (c8 I q C6)
  | str j=>obtain ⟨t',rfl⟩:=ry; exact PySem.EqMixed.eq_int_str (c8 I q (by simp))
  | _=>exact absurd (show false=true from hs) bk3
 | str i=>
  obtain ⟨t,rfl⟩:=rx
  cases y with
  | non=>cases ry; exact PySem.EqNone.eq_str_none (c8 I q (by simp))
  | bl j=>cases ry; exact PySem.EqMixed.eq_str_bool (c8 I q (by simp))
  | int j=>obtain ⟨t',rfl⟩:=ry; exact PySem.EqMixed.eq_str_int (c8 I q (by simp))
  | str j=>obtain ⟨t',rfl⟩:=ry; exact eq_str (c8 I q C8)
  | _=>exact absurd (show false=true from hs) bk3
 | byt i=>
  obtain ⟨t,rfl⟩:=rx
  cases y with
  | byt j=>obtain ⟨t',rfl⟩:=ry; exact PySem.W.eq_bytes (c8 I q C9)
  | _=>exact absurd (show false=true from hs) bk3
 | _=>cases y <;> exact absurd (show false=true from hs) bk3
theorem E2:c9 X (compareOp .NotEq) uX:=by
 intro pins s σ H x y v u Q I rx ry h
 obtain ⟨hs,q⟩:=h
 cases x with
 | non=>
  cases rx
  cases y with
  | non=>cases ry; exact PySem.EqNone.ne_none_none (c8 I q (by simp))
  | bl j=>cases ry; exact PySem.EqNone.ne_none_bool (c8 I q (by simp))
  | int j=>obtain ⟨t',rfl⟩:=ry; exact PySem.EqNone.ne_none_int (c8 I q (by simp))
  | str j=>obtain ⟨t',rfl⟩:=ry; exact PySem.EqNone.ne_none_str (c8 I q (by simp))
  | _=>exact absurd (show false=true from hs) bk3
 | bl i=>
  cases rx
  cases y with
  | non=>cases ry; exact PySem.EqNone.ne_bool_none (c8 I q (by simp))
  | bl j=>cases ry; exact ne_bool (c8 I q (congrArg not C7))
  | str j=>obtain ⟨t',rfl⟩:=ry; exact PySem.EqMixed.ne_bool_str (c8 I q (by simp))
  | _=>exact absurd (show false=true from hs) bk3
 | int i=>
  obtain ⟨t,rfl⟩:=rx
  cases y with
  | non=>cases ry; exact PySem.EqNone.ne_int_none (c8 I q (by simp))
  | int j=>obtain ⟨t',rfl⟩:=ry; exact ne_int (c8 I q (congrArg not C6))
  | str j=>obtain ⟨t',rfl⟩:=ry; exact PySem.EqMixed.ne_int_str (c8 I q (by simp))
  | _=>exact absurd (show false=true from hs) bk3
 | str i=>
  obtain ⟨t,rfl⟩:=rx
  cases y with
  | non=>cases ry; exact PySem.EqNone.ne_str_none (c8 I q (by simp))
  | bl j=>cases ry; exact PySem.EqMixed.ne_str_bool (c8 I q (by simp))
  | int j=>obtain ⟨t',rfl⟩:=ry; exact PySem.EqMixed.ne_str_int (c8 I q (by simp))
  | str j=>obtain ⟨t',rfl⟩:=ry; exact ne_str (c8 I q (congrArg not C8))
  | _=>exact absurd (show false=true from hs) bk3
 | byt i=>
  obtain ⟨t,rfl⟩:=rx
  cases y with
  | byt j=>obtain ⟨t',rfl⟩:=ry; exact PySem.W.ne_bytes (c8 I q (congrArg not C9))
  | _=>exact absurd (show false=true from hs) bk3
 | _=>cases y <;> exact absurd (show false=true from hs) bk3
theorem rD:c9 X (compareOp .Lt) (iX fun i j=>.bl (decide (i < j))):=rC fun _ _ _ _ _ _ _ q=>lt_int q
theorem ap4:c9 X (compareOp .LtE) (iX fun i j=>.bl (decide (i<=j))):=rC fun _ _ _ _ _ _ _ q=>le_int q
theorem ap5:c9 X (compareOp .Gt) (iX fun i j=>.bl (decide (j < i))):=rC fun _ _ _ _ _ _ _ q=>gt_int q
theorem E3:c9 X (compareOp .GtE) (iX fun i j=>.bl (decide (j<=i))):=rC fun _ _ _ _ _ _ _ q=>ge_int q
theorem ap6:c9 X (compareOp .Is) (fun x y H Q=>y = .non/\Q (.bl (decide (x = .non))) H):=by
 intro pins s σ H x y v u Q I rx ry h
 obtain ⟨rfl,q⟩:=h
 cases ry
 refine is_none_gen (c8 I q ?_)
 cases x <;> first
  | (cases rx; rfl)
  | (obtain ⟨t,rfl⟩:=rx; rfl)
theorem ap7:c9 X (compareOp .IsNot) (fun x y H Q=>y = .non/\Q (.bl (!decide (x = .non))) H):=by
 intro pins s σ H x y v u Q I rx ry h
 obtain ⟨rfl,q⟩:=h
 cases ry
 refine isnot_none_gen (c8 I q ?_)
 cases x <;> first
  | (cases rx; rfl)
  | (obtain ⟨t,rfl⟩:=rx; rfl)
theorem fW (b:Expr) {op:CmpOp} (h:op ≠ .In:=by decide) (h2:op ≠ .NotIn:=by decide):behindInMarks op b=false:=by
 have e1:(op == CmpOp.In)=false:=by cases op <;> first | rfl | exact absurd rfl h
 have e2:(op == CmpOp.NotIn)=false:=by cases op <;> first | rfl | exact absurd rfl h2
 cases b <;> simp [behindInMarks,e1,e2]
theorem uY {op:CmpOp}{r:R2} (ho:c9 X (compareOp op) r) (ha:PE X a ta) (hb:PE X b tb) (hm:behindInMarks op b=false):PE X (.Compare a [op] [b] pos) (mM r ta tb):=by
 intro pins s σ H Q I h
 exact wpAny_Compare1 (uU ha hb I h fun v u s2 x y H2 I2 rx ry q=>ho pins s2 σ H2 x y v u Q I2 rx ry q) hm
noncomputable def ap8 (t:TE):TT:=fun σ H Q=>t σ H fun x H'=>∃ k,x = .bl k/\Q k H'
theorem ap9 {op:CmpOp}{r:R2} (ho:c9 X (compareOp op) r) (ha:PE X a ta) (hb:PE X b tb) (hm:behindInMarks op b=false):PT X (.Compare a [op] [b] pos) (ap8 (mM r ta tb)):=by
 intro pins s σ H Q I h
 refine wpAny_isTrue_Compare1 (aQ (ha pins s σ H _ I h) fun v s1 ⟨x,H1,I1,r1,q1⟩=>aQ (hb pins s1 σ H1 _ I1 q1) fun u s2 ⟨y,H2,I2,r2,q2⟩=>
  aQ (ho pins s2 σ H2 x y v u _ I2 r1 r2 q2) fun c s3 ⟨z,H3,I3,r3,k,e,q3⟩=>?_) hm
 subst e
 cases r3
 exact bt7 ⟨H3,I3,q3⟩
noncomputable def uZ (K:PySem.W.Frag) (x:V) (H:Hp) (k:Bool):Prop:=
 match x with
 | .non=>k=false
 | .bl b=>k=b
 | .int i=>k=(i != 0)
 | .str y=>y.length<=sizeLine/\k=((y.length:Int) != 0)
 | .byt y=>y.size<=sizeLine/\k=((y.size:Int) != 0)
 | .ref p=>(∃ xs,aM K H p xs/\k = !xs.isEmpty) ∨ (∃ xs,aJ K H p xs/\k = !xs.isEmpty) ∨ ∃ kvs,H p=some (.dK kvs)/\k = !kvs.isEmpty
 | _=>False
theorem aq0 {κ:Type}{kvs:List (κ × V)}{vs:List (κ × Value)} (r:KV kvs vs):(!vs.isEmpty) = !kvs.isEmpty:=by
 cases r <;> rfl
theorem E4 {xs:List V}{its:List Value} (r:aO xs its):(!its.toArray.isEmpty) = !xs.isEmpty:=by
 cases r <;> simp
theorem mO:(sizeLine:Nat) < 2 ^ 63:=by rw [sizeLine_eq]; decide
theorem aq1:ao4 X (fun x H Q=>∃ k,uZ X.K x H k/\Q k H):=by
 intro pins s σ H x v Q I rx h
 obtain ⟨k,e,q⟩:=h
 have hl:=mO
 have hs:sizeLine=16777216:=sizeLine_eq
 cases x with
 | non=>
  cases rx
  have e':k=false:=e
  subst e'
  exact truthy_none ⟨H,I,q⟩
 | bl b=>
  cases rx
  have e':k=b:=e
  subst e'
  exact bt7 ⟨H,I,q⟩
 | int i=>
  obtain ⟨t,rfl⟩:=rx
  have e':k=(i != 0):=e
  subst e'
  exact PySem.P.truthy_int ⟨H,I,q⟩
 | str y=>
  obtain ⟨t,rfl⟩:=rx
  obtain ⟨hy,e'⟩:y.length<=sizeLine/\k=((y.length:Int) != 0):=e
  subst e'
  exact PySem.P.truthy_str (by omega) ⟨H,I.tok _,q⟩
 | byt y=>
  obtain ⟨t,rfl⟩:=rx
  obtain ⟨hy,e'⟩:y.size<=sizeLine/\k=((y.size:Int) != 0):=e
  subst e'
  exact PySem.W.truthy_bytes (by omega) ⟨H,I.tok _,q⟩
 | ref p=>
  cases rx
  have e':(∃ xs,aM X.K H p xs/\k = !xs.isEmpty) ∨ (∃ xs,aJ X.K H p xs/\k = !xs.isEmpty) ∨ ∃ kvs,H p=some (.dK kvs)/\k = !kvs.isEmpty:=e
  rcases e' with ⟨xs,hx,e'⟩ | ⟨xs,hx,e'⟩ | ⟨kvs,hx,e'⟩
  ·subst e'
   obtain ⟨its,r,pl,hz⟩:=I.list hx
   have hlen:=r.length
   exact wpAny_truthy_list pl.isList (by simp only [bh9]; omega) ⟨H,I.tok _,by rw [E4 r]; exact q⟩
  ·subst e'
   obtain ⟨its,r,pl,hz⟩:=I.tuple hx
   have hlen:=r.length
   exact truthy_tuple pl (by simp only [bh9]; omega) ⟨H,I.tok _,by rw [E4 r]; exact q⟩
  ·subst e'
   obtain ⟨hz,hS,vs,r,m⟩:kvs.length<=sizeLine/\(p == sysModules)=false/\∃ vs,KV kvs vs/\s.heap.DictOf (fF X.prog X.w) p vs:=I.hok p _ hx
   have hlen:kvs.length=vs.length:=Paired.length r
   exact wpAny_truthy_dict hS m (by omega) ⟨H,I.tok _,by rw [aq0 r]; exact q⟩
 | _=>exact (show False from e).elim
theorem aq2 (ha:PE X a ta) (he:∀ whole,isTrue a X.env whole=(do let v <- whole; standAt a.pos; holding [v] (truthy v))) :
  PT X a (fun σ H Q=>ta σ H fun x H'=>∃ k,uZ X.K x H' k/\Q k H'):=by
 intro pins s σ H Q I h
 exact isTrue_plain (aQ (ha pins s σ H _ I h) fun v s1 ⟨x,H1,I1,r1,q1⟩=>aq1 pins s1 σ H1 x v Q I1 r1 q1) (he _)
theorem hZ {x:V}{us:List Value} (r:aO [x] us):∃ u,us = [u]/\aZ x u:=by
 cases r with
 | cons r1 r2=>cases r2; exact⟨_,rfl,r1⟩
theorem oP {x y:V}{us:List Value} (r:aO [x,y] us):∃ u w',us = [u,w']/\aZ x u/\aZ y w':=by
 cases r with
 | cons r1 r2=>
  cases r2 with
  | cons r3 r4=>cases r4; exact⟨_,_,rfl,r1,r3⟩
theorem aq3 (hc:X.calm=true):cX X (.builtin "max") (fun xs H Q=>∃ i j,xs = [.int i,.int j]/\Q (.int (if j > i then j else i)) H):=by
 intro pins s σ H xs us Q I r h
 obtain ⟨i,j,rfl,q⟩:=h
 obtain ⟨u,w',rfl,⟨t,rfl⟩,⟨t',rfl⟩⟩:=oP r
 refine max_two_ints (I.ok.hd hc) fun h' tk k=>⟨_,H,I.kept k,?_,q⟩
 by_cases hj:j > i
 ·rw [if_pos hj,if_pos hj]; exact⟨_,rfl⟩
 ·rw [if_neg hj,if_neg hj]; exact⟨_,rfl⟩
theorem aq4 (hc:X.calm=true):cX X (.builtin "min") (fun xs H Q=>∃ i j,xs = [.int i,.int j]/\Q (.int (if j < i then j else i)) H):=by
 intro pins s σ H xs us Q I r h
 obtain ⟨i,j,rfl,q⟩:=h
 obtain ⟨u,w',rfl,⟨t,rfl⟩,⟨t',rfl⟩⟩:=oP r
 refine min_two_ints (I.ok.hd hc) fun h' tk k=>⟨_,H,I.kept k,?_,q⟩
 by_cases hj:j < i
 ·rw [if_pos hj,if_pos hj]; exact⟨_,rfl⟩
 ·rw [if_neg hj,if_neg hj]; exact⟨_,rfl⟩
end
structure v0 (h:Heap) (x dx C:Addr) (mA:Str->Option Value):Prop where
 obj:h.get? x=some (PySem.W.instObj C dx)
 ns:h.Ns1 dx mA
 ne:dx ≠ x
theorem aq5 {h:Heap}{dx:Addr}{mA:Str->Option Value} (n:h.Ns1 dx mA):∃ od,h.get? dx=some od/\∀ name,PySem.W.lookIn name od=some (mA name):=by
 obtain ⟨o,es,ep,ho,hd,hk,_,hm⟩:=n
 refine⟨o,ho,fun name=>?_⟩
 have e:=hm name
 unfold nsFind findBy at e
 rw [<- Array.find?_toList] at e
 unfold PySem.W.lookIn
 rw [hd]
 dsimp only
 split
 ·rename_i y q
  rw [q] at e
  exact congrArg some e
 ·rename_i q
  rw [q] at e
  have a:es.toList.any (·.refKey)=false:=by
   rw [List.any_eq_false]
   intro y hy
   obtain ⟨z,t,hkey⟩:=hk y (Array.mem_toList_iff.mp hy)
   simp [DictEntry.refKey,hkey]
  have a' : ¬ es.toList.any (·.refKey)=true:=by rw [a]; exact bk3
  rw [if_neg a']
  exact congrArg some e
theorem v0.look {h:Heap}{x dx C:Addr}{mA:Str->Option Value} (I:v0 h x dx C mA):∃ od,PySem.W.InstAt h x (PySem.W.instObj C dx) C (some od)/\∀ name,PySem.W.lookIn name od=some (mA name):=
 let ⟨od,ho,hl⟩:=aq5 I.ns
 ⟨od,⟨I.obj,rfl,rfl,ho⟩,hl⟩
section
variable {P : Program} {w : World} {H H' : Hp} {h h' : Heap} {a C dx : Addr} {fs fs' : List (Str × V)}
theorem aq6 (hok:bZ P w H h) (e:H a=some (.ins C dx fs)):∃ mA,v0 h a dx C mA/\(∀ f,lH (fs.lookup f) (mA f))/\PySem.Within mA (fs.map (·.1))/\fs.length<=1000/\H dx=some (.own a):=by
 obtain ⟨d,z,ne,ob,mA,n,r,q⟩:=(show bW P w H h a (.ins C dx fs) from hok a _ e)
 exact⟨mA,⟨ob,n,ne⟩,r,q,z,d⟩
end
structure v3 (K:PySem.W.Frag) (C:Addr):Prop where
 pg:PySem.W.plainGet K C Str.empty=true
 hd:PySem.W.hasDictIn K C=true
 po:PySem.W.plainOver K C=true
 sa:PySem.W.findIn K (.ref C) "__setattr__" = some (some (.builtin "object.__setattr__"))
theorem v3.get {K:PySem.W.Frag}{C:Addr} (c:v3 K C) (f:Str):PySem.W.plainGet K C f=true:=c.pg
section
variable {X : Cx} {pins : List (Addr × Obj)} {σ : St} {H : Hp} {s : Shared} {A : Around} {E : Value → Shared → Prop} {Q : Value → Shared → Prop} {c : Value} {b : Bool}
inductive gF (K:PySem.W.Frag) (H:Hp):V->Value->Prop where
 | non:gF K H .non (.type "NoneType")
 | bl (x:Bool):gF K H (.bl x) (.type "bool")
 | int (i:Int):gF K H (.int i) (.type "int")
 | str (x:Str):gF K H (.str x) (.type "str")
 | flt (x:UInt64):gF K H (.flt x) (.type "float")
 | lst {a:Addr}{xs:List V} (e:H a=some (.lst xs)):gF K H (.ref a) (.type "list")
 | frz {a:Addr}{o:Obj}{xs:List V} (e:H a=some (.frz o (.lst xs))):gF K H (.ref a) (.type "list")
 | tup {a:Addr}{xs:List V} (e:H a=some (.tup xs)):gF K H (.ref a) (.type "tuple")
 | dK {a:Addr}{kvs:List (aH × V)} (e:H a=some (.dK kvs)):gF K H (.ref a) (.type "dict")
 | dT {a:Addr}{kvs:List (List aH × V)} (e:H a=some (.dT kvs)):gF K H (.ref a) (.type "dict")
 | ins {a C dx:Addr}{fs:List (Str × V)} (e:H a=some (.ins C dx fs)) (cl:v3 K C) (ha:PySem.W.findIn K (.ref C) "__class__" = some (some (.builtin "object.__class__")))
   (hn:PySem.W.specialIn K (.builtin "object.__class__") "__get__" = some (some (.builtin "getset_descriptor.__get__"))) (htk:PySem.W.takesIn K (.builtin "object.__class__")=some true)
   (hm:PySem.W.mroIn K C (.type "object")=some true):gF K H (.ref a) (.ref C)
theorem aq7 {x:V}{u t:Value} (I:a8 X pins σ H s) (rx:aZ x u) (ty:gF X.K H x t) (e:PySem.W.kitOne X.K t c=some b) (h:∀ tk,Q (.bool b) { s with toks:=tk }) :
  wpAny (model X.prog X.w) A (call (.builtin "isinstance") [u,c]) Q E s:=by
 cases ty with
 | non=>cases (show u=Value.none from rx); exact bp0 PySem.W.kitx_none I.kIn bx2 e (fun z=>nomatch z) h
 | bl y=>cases (show u=Value.bool y from rx); exact bp0 PySem.W.kitx_bool I.kIn bx2 e (fun z=>nomatch z) h
 | int i=>obtain ⟨t,q⟩:=(show ∃ t,u=Value.int i t from rx); cases q; exact bp0 PySem.W.kitx_int I.kIn bx2 e (fun z=>nomatch z) h
 | str y=>obtain ⟨t,q⟩:=(show ∃ t,u=Value.str y t from rx); cases q; exact bp0 PySem.W.kitx_str I.kIn bx2 e (fun z=>nomatch z) h
 | flt y=>obtain ⟨t,q⟩:=(show ∃ t,u=Value.float y t from rx); cases q; exact bp0 PySem.W.kitx_float I.kIn bx2 e (fun z=>nomatch z) h
 | @lst a xs ea=>
  cases (show u=Value.ref a from rx)
  obtain ⟨_,_,n,_,h1⟩:=(show bW X.prog X.w H s.heap a (.lst xs) from I.hok a _ ea)
  exact bp0 PySem.W.kitx_list I.kIn ⟨_,h1,rfl⟩ e (fun z=>nomatch z) h
 | @frz a ob xs ea=>
  cases (show u=Value.ref a from rx)
  obtain ⟨_,_,_,n,_,h1⟩:=(show bW X.prog X.w H s.heap a (.frz ob (.lst xs)) from I.hok a _ ea)
  exact bp0 PySem.W.kitx_list I.kIn ⟨_,h1,rfl⟩ e (fun z=>nomatch z) h
 | @tup a xs ea=>
  cases (show u=Value.ref a from rx)
  obtain ⟨_,_,_,p,_⟩:=(show bW X.prog X.w H s.heap a (.tup xs) from I.hok a _ ea)
  obtain ⟨o,h1,h2,_⟩:=p
  exact bp0 PySem.W.kitx_tuple I.kIn ⟨o,h1,h2⟩ e (fun z=>nomatch z) h
 | @dK a kvs ea=>
  cases (show u=Value.ref a from rx)
  obtain ⟨_,_,vs,_,p⟩:=(show bW X.prog X.w H s.heap a (.dK kvs) from I.hok a _ ea)
  obtain ⟨o,es,ep,h1,h2,_⟩:=p
  exact bp0 PySem.W.kitx_dict I.kIn ⟨o,h1,h2.1⟩ e (fun z=>nomatch z) h
 | @dT a kvs ea=>
  cases (show u=Value.ref a from rx)
  obtain ⟨_,_,xs,_,o,es,ep,h1,h2,_⟩:=(show bW X.prog X.w H s.heap a (.dT kvs) from I.hok a _ ea)
  exact bp0 PySem.W.kitx_dict I.kIn ⟨o,h1,h2.1⟩ e (fun z=>nomatch z) h
 | @ins a C dx fs ea cl ha hn htk hm=>
  cases (show u=Value.ref a from rx)
  obtain ⟨mA,O,_⟩:=aq6 I.hok ea
  obtain ⟨od,J,_⟩:=O.look
  exact bp0 (PySem.W.kitx_own (cl.get _) cl.hd ha hn htk hm) I.kIn J e (fun z=>nomatch z) h
end
structure cC (k:Nat) (A:Around):Prop where
 hd:A.handled=none
 dp:A.depth+3 * k+5 < recursionLimit
 un:A.units+16 * k+200 < cLine
theorem cC.mono {j k:Nat}{A:Around} (r:cC k A) (h:j<=k):cC j A:=⟨r.hd,by have:=r.dp; omega,by have:=r.un; omega⟩
theorem cC.deeper {k:Nat}{A:Around} (r:cC (k+1) A) (env:Env):cC k (A.deeper env):=
 ⟨r.hd,by have:=r.dp; show A.depth+1+3 * k+5 < _; omega,by have:=r.un; show A.units+3+16 * k+200 < _; omega⟩
theorem cC.depth {k:Nat}{A:Around} (r:cC k A):A.depth < recursionLimit:=by have:=r.dp; omega
theorem cC.units {k:Nat}{A:Around} (r:cC k A):A.units+64 < cLine:=by have:=r.un; omega
noncomputable def iY:TA:=fun _ H Q=>Q [] H
noncomputable def i3 (ta:TE) (tr:TA):TA:=fun σ H Q=>ta σ H fun x H1=>tr σ H1 fun xs H2=>Q (x :: xs) H2
section
variable {X : Cx} {e : Expr} {es : List Expr} {te : TE} {t : TA} {pos : Pos}
theorem dF:PA X [] iY:=fun _ _ _ _ H Q I h=>Calls.spliced_nil ⟨[],H,I,.nil,h⟩
theorem cJ (ha:PE X e te) (hr:PA X es t) (hs:starEach (e :: es) X.env=(false,eval e X.env) :: starEach es X.env:=by rfl):PA X (e :: es) (i3 te t):=by
 intro pos pins s σ H Q I h
 rw [hs]
 show wpAny _ _ (spliced ((false,eval e X.env) :: backTo pos (starEach es X.env))) _ _ s
 refine Calls.spliced_cons (aQ (ha pins s σ H _ I h) fun u s1 ⟨x,H1,I1,r1,q1⟩=>?_)
 exact aQ (hr pos pins s1 σ H1 _ I1 q1) fun us s2 ⟨xs,H2,I2,r2,q2⟩=>⟨x :: xs,H2,I2,.cons r1 r2,q2⟩
noncomputable def v4 (t:TA):TE:=fun σ H Q=>t σ H fun xs H1=>xs.length<=sizeLine/\∀ p,H1 p=none->Q (.ref p) (upd H1 p (.tup xs))
noncomputable def rE (t:TA):TE:=fun σ H Q=>t σ H fun xs H1=>xs.length<=sizeLine/\∀ p,H1 p=none->Q (.ref p) (upd H1 p (.lst xs))
theorem E5 {x1} (h:PA X es t):PE X (.Tuple es x1 pos) (v4 t):=by
 intro pins s σ H Q I hq
 refine wpAny_Tuple_spliced (aQ (h pos pins s σ H _ I hq) fun us s1 ⟨xs,H1,I1,r,z,q⟩=>⟨by rw [<- r.length]; exact z,?_⟩)
 have hf:H1 s1.heap.objs.size=none:=I1.hok.fresh (bi8 _)
 refine⟨.ref s1.heap.objs.size,upd H1 s1.heap.objs.size (.tup xs),I1.laid (t':=s1.toks) (fun b u e=>bi1 _ e) (bi8 _) ?_,rfl,q _ hf⟩
 exact⟨z,us,r,⟨_,bk0 _ rfl,rfl,_,rfl⟩,iV.new _ _ rfl⟩
theorem oQ (h:PA X es t):PE X (.List es pos) (rE t):=by
 intro pins s σ H Q I hq
 refine wpAny_List_spliced (aQ (h pos pins s σ H _ I hq) fun us s1 ⟨xs,H1,I1,r,z,q⟩=>⟨by rw [<- r.length]; exact z,?_⟩)
 have hf:H1 s1.heap.objs.size=none:=I1.hok.fresh (bi8 _)
 refine⟨.ref s1.heap.objs.size,upd H1 s1.heap.objs.size (.lst xs),I1.laid (t':=s1.toks) (fun b u e=>bi1 _ e) (bi8 _) ?_,rfl,q _ hf⟩
 exact⟨z,us,0,r,bk0 _ rfl⟩
end
noncomputable abbrev Sp:=List V->Hp->VK->XK->Prop
noncomputable abbrev i4:=List Env->Hp->Shared->XK->Value->Shared->Prop
structure rF (P:Program) (w:World) (K:PySem.W.Frag) (mg:Str->Option Value) (base:Heap) (A:Around) (outer:List Env) (s:Shared) (H:Hp):Prop where
 frames:A.frames=some outer
 mod:Mod K mg base
 bs:∀ b o,base.get? b=some o->s.heap.get? b=some o/\H b=none
 bsz:base.objs.size<=s.heap.objs.size
 funs:s.heap.FunFrames base outer
 frf:∀ b ∈ bQ outer,H b=none
 hok:bZ P w H s.heap
 bare:AllBare s.gens
noncomputable def CE (outer:List Env) (P:Program) (w:World) (H:Hp) (s:Shared) (Q:VK) (u:Value) (s':Shared):Prop:=
 ∃ v H',s'.os=s.os/\AllBare s'.gens/\Un (bQ outer) [] H H' s.heap s'.heap/\bZ P w H' s'.heap/\aZ v u/\Q v H'
noncomputable def CR (CX:i4) (outer:List Env) (P:Program) (w:World) (H:Hp) (s:Shared) (Q:VK) (E:XK) (r:Result) (s':Shared):Prop:=
 match r with
 | .ok (.ret u)=>CE outer P w H s Q u s'
 | .ok _=>False
 | .error e=>CX outer H s E e s'
structure cY (P:Program) (w:World) (K:PySem.W.Frag) (mg:Str->Option Value) (base:Heap) (CX:i4) (k:Nat) (f:Addr) (fd:FuncData) (ps:List Str) (sp:Sp):Prop where
 len:∀ vs H Q E,sp vs H Q E->vs.length=ps.length
 run:∀ (A:Around) (outer:List Env) (s:Shared) (H:Hp) (args:Args) (us:List Value) (vs:List V) (Q:VK) (E:XK),cC k A->rF P w K mg base A outer s H->BindsTo s fd args (ps.zip us)->aO vs us->sp vs H Q E->
  codeAny (model P w) A (.call (.ref f) args) (CR CX outer P w H s Q E) s
theorem cY.imp {P:Program}{w:World}{K:PySem.W.Frag}{mg:Str->Option Value}{base:Heap}{CX:i4}{k:Nat}{f:Addr}{fd:FuncData}{ps:List Str}{sp sp':Sp} (F:cY P w K mg base CX k f fd ps sp)
  (h:∀ vs H Q E,sp' vs H Q E->sp vs H Q E):cY P w K mg base CX k f fd ps sp':=
 ⟨fun vs H Q E q=>F.len vs H Q E (h _ _ _ _ q),fun A outer s H args us vs Q E hr he hb hv hs=>F.run A outer s H args us vs Q E hr he hb hv (h _ _ _ _ hs)⟩
section
variable {X : Cx} {pins : List (Addr × Obj)} {σ : St} {H : Hp} {s s' : Shared}
theorem a8.env0 (I:a8 X pins σ H s):rF X.prog X.w X.K X.mg X.base X.A X.stack s H:=
 ⟨I.ok.frames,I.ok.mod,I.bs,bm6 I.ok.bsz I.sz,I.stack,I.stkFree,I.hok,I.bare⟩
theorem a8.after {Q:VK}{u:Value} (I:a8 X pins σ H s) (h:CE X.stack X.prog X.w H s Q u s'):EP X pins σ Q u s':=by
 obtain ⟨v,H',os,bare,un,hok,r,q⟩:=h
 obtain ⟨hh,g,d,t,os'⟩:=s'
 obtain rfl:os'=s.os:=os
 exact⟨v,H',I.call (h':=hh) (g':=g) (d':=d) (t':=t) (ch:=[]) un hok bare (fun b z=>absurd z (by simp)),r,q⟩
end
noncomputable def v7 (sp:Sp) (dvs:List V) (E:XK) (t:TA):TE:=fun σ H Q=>t σ H fun vs H1=>sp (vs ++ dvs) H1 Q E
noncomputable def iG (K:PySem.W.Frag) (fd:FuncData) (ps:List Str) (ds:List Value):Prop:=
 ∀ (s:Shared) (us:List Value),K.In s.heap->(us ++ ds).length=ps.length->BindsTo s fd ⟨us,[]⟩ (ps.zip (us ++ ds))
theorem iG.all {K:PySem.W.Frag}{fd:FuncData}{ps:List Str} (h:∀ us:List Value,us.length=ps.length->bindArgs fd ⟨us,[]⟩=pure (ps.zip us)):iG K fd ps []:=fun s us _ hl=>by
 rw [bp1] at hl ⊢
 exact .of_eq (h us hl)
noncomputable def oR (CX:i4) (X:Cx) (E:XK):Prop:=∀ (pins:List (Addr × Obj)) (σ:St) (H:Hp) (s:Shared) (e:Value) (s':Shared),a8 X pins σ H s->CX X.stack H s E e s'->X.xe e s'
section
variable {X : Cx} {CX : i4} {k : Nat} {f C : Addr} {fd : FuncData} {ps : List Str} {sp : Sp} {dvs : List V} {ds : List Value} {E : XK} {x m : Str} {p pos apos : Pos} {e o : Expr} {es : List Expr} {ta : TE} {t : TA}
theorem aq8 {pins:List (Addr × Obj)}{σ:St}{H:Hp}{s:Shared}{Q:VK}{us:List Value}{vs:List V} (F:cY X.prog X.w X.K X.mg X.base CX k f fd ps sp) (hr:cC k X.A) (hb:iG X.K fd ps ds) (hd:aO dvs ds) (hx:oR CX X E)
  (I:a8 X pins σ H s) (r:aO vs us) (h:sp (vs ++ dvs) H Q E):wpAny (model X.prog X.w) X.A (call (.ref f) us) (EP X pins σ Q) X.xe s:=by
 have r2:aO (vs ++ dvs) (us ++ ds):=r.append hd
 have hl:(us ++ ds).length=ps.length:=by rw [<- r2.length]; exact F.len _ _ _ _ h
 refine wpAny_call (codeAny_mono (F.run X.A X.stack s H ⟨us,[]⟩ (us ++ ds) (vs ++ dvs) Q E hr I.env0 (hb s us I.kIn hl) r2 h) fun r s' hq=>?_)
 cases r with
 | error e=>exact hx pins σ H s e s' I hq
 | ok fl=>
  cases fl with
  | ret u=>exact I.after hq
  | next=>exact False.elim hq
  | brk=>exact False.elim hq
  | cont=>exact False.elim hq
theorem v8 (F:cY X.prog X.w X.K X.mg X.base CX k f fd ps sp) (hr:cC k X.A) (hg:Gl X x) (hm:X.mg x=some (.ref f)) (hk:PySem.W.keepIn X.K (.ref f)=true) (hb:iG X.K fd ps ds) (hd:aO dvs ds) (hx:oR CX X E)
  (ha:PA X (e :: es) t) (hdb:(x == ("__debug__" : Str))=false:=by decide) (he:starEach (e :: es) X.env=(false,eval e X.env) :: starEach es X.env:=by rfl) (hpl:(backTo pos (starEach es X.env)).any (·.1)=false:=by rfl) :
  PE X (.Call (.Name x p) (e :: es) [] pos) (v7 sp dvs E t):=by
 intro pins s σ H Q I h
 refine wpAny_Call_Name_kw (oI I hg hm ?_ hdb)
 refine PySem.W.callWith_K (h₀:=X.base) I.ok.mod.kin hk (aQ (ha pos pins s σ H _ I h) fun us s1 ⟨vs,H1,I1,r,q⟩=>⟨I1.kIn,?_⟩) he hpl
 exact aq8 F hr hb hd hx I1 r q
end
noncomputable def PK (X:Cx) (kws:List Keyword) (t:TA):Prop:=
 ∀ (pos:Pos) (pins:List (Addr × Obj)) (s:Shared) (σ:St) (H:Hp) (Q:List V->Hp->Prop),a8 X pins σ H s->t σ H Q->wpAny (model X.prog X.w) X.A (evalAll ((backToKw pos (keywordEach kws X.env)).map (·.2))) (AP X pins σ Q) X.xe s
structure FnScope (N P:List Str) (sc:Scope):Prop where
 kind:sc.kind = .function
 co:sc.isCoroutine=false
 gen:sc.isGenerator=false
 nd:N.Nodup
 pre:N.take P.length=P
 par:∀ x ∈ P,sc.names.lookup x=some .local ∨ sc.names.lookup x=some .cell
 nofree:∀ y ∈ sc.names,y.2 ≠ .free
theorem E6 {kindOf:Str->Option NameKind}{x:Str}:∀ {binds:List (Str × Value)}{m:Str->Option Value},(∀ v,(x,v) ∉ binds)->bindL kindOf binds m x=m x
 | [],_,_=>rfl
 | (n,v) :: r,m,h=>by
  unfold bindL
  rw [E6 fun w hw=>h w (bj7 _ hw)]
  split
  ·have:x ≠ n:=by rintro rfl; exact h v bi9
   simp [this]
  ·rfl
theorem E7 {kindOf:Str->Option NameKind}{x:Str}:∀ {binds:List (Str × Value)}{m:Str->Option Value},(∀ v,(x,v) ∉ binds)->bindC kindOf binds m x=m x
 | [],_,_=>rfl
 | (n,v) :: r,m,h=>by
  unfold bindC
  rw [E7 fun w hw=>h w (bj7 _ hw)]
  split
  ·rfl
  ·have:x ≠ n:=by rintro rfl; exact h v bi9
   simp [this]
theorem E8 {kindOf:Str->Option NameKind}{x:Str}{v:Value}:∀ {P:List Str}{vs:List Value}{i:Nat}{m:Str->Option Value},P.Nodup->P[i]? = some x->vs[i]? = some v->kindOf x=some .local->
  bindL kindOf (P.zip vs) m x=some v
 | [],_,_,_,_,h,_,_=>by simp at h
 | _ :: _,[],_,_,_,_,h,_=>by simp at h
 | p :: P,w :: vs,0,m,nd,h1,h2,hk=>by
  simp at h1 h2; subst h1; subst h2
  show bindL kindOf ((p,w) :: P.zip vs) m p=_
  unfold bindL
  rw [E6 fun v hv=>(bo2.mp nd).1 (List.of_mem_zip hv).1,if_pos hk]
  simp
 | p :: P,w :: vs,i+1,m,nd,h1,h2,hk=>by
  show bindL kindOf ((p,w) :: P.zip vs) m x=_
  unfold bindL
  exact E8 (i:=i) (bo2.mp nd).2 (by simpa using h1) (by simpa using h2) hk
theorem E9 {kindOf:Str->Option NameKind}{x:Str}{v:Value}:∀ {P:List Str}{vs:List Value}{i:Nat}{m:Str->Option Value},P.Nodup->P[i]? = some x->vs[i]? = some v->kindOf x ≠ some .local->
  bindC kindOf (P.zip vs) m x=some v
 | [],_,_,_,_,h,_,_=>by simp at h
 | _ :: _,[],_,_,_,_,h,_=>by simp at h
 | p :: P,w :: vs,0,m,nd,h1,h2,hk=>by
  simp at h1 h2; subst h1; subst h2
  show bindC kindOf ((p,w) :: P.zip vs) m p=_
  unfold bindC
  rw [E7 fun v hv=>(bo2.mp nd).1 (List.of_mem_zip hv).1,if_neg hk]
  simp
 | p :: P,w :: vs,i+1,m,nd,h1,h2,hk=>by
  show bindC kindOf ((p,w) :: P.zip vs) m x=_
  unfold bindC
  exact E9 (i:=i) (bo2.mp nd).2 (by simpa using h1) (by simpa using h2) hk
noncomputable def start (N:List Str) (vs:List V):St:=vs.map some ++ List.replicate (N.length - vs.length) none
noncomputable def dP (CX:i4) (P:Program) (w:World) (K:PySem.W.Frag) (mg:Str->Option Value) (base:Heap) (N:List Str) (qual:Str) (scope:Scope) (f:Addr) (cd:Value) (A:Around) (outer:List Env) (s:Shared) (H:Hp) (E:XK):Cx where
 prog:=P
 w:=w
 K:=K
 mg:=mg
 base:=base
 A:=A.deeper (envOfC qual scope s.heap.objs.size f cd)
 N:=N
 s₀:=s
 H₀:=H
 env:=envOfC qual scope s.heap.objs.size f cd
 outer:=outer
 stack:=envOfC qual scope s.heap.objs.size f cd :: outer
 ex:=[]
 calm:=true
 fn:=fun _=>true
 pn:=[]
 xe:=fun e s'=>wpAny (model P w) (A.deeper (envOfC qual scope s.heap.objs.size f cd)) (leaving (envOfC qual scope s.heap.objs.size f cd) e) (fun _ s''=>CX outer H s E e s'') (fun e' s''=>CX outer H s E e' s'') s'
theorem F0 {sc:Scope}{n:Nat}{x:Str} (h:sc.names.lookup x=some .cell):∃ c,(cellsFrom n sc.names []).lookup x=some c:=by
 have q:=PySem.W.cellsFrom_some sc.names n [] (.inl h)
 exact Option.isSome_iff_exists.mp q
theorem aq9 {CX:i4}{P:Program}{w:World}{K:PySem.W.Frag}{mg:Str->Option Value}{base:Heap}{N ps:List Str}{qual:Str}{scope:Scope}{f:Addr}{cd:Value}{A:Around}{outer:List Env}{s s1:Shared}{H:Hp}{E:XK}{us:List Value}{vs:List V}
  (S:FnScope N ps scope) (hd:A.handled=none) (e0:rF P w K mg base A outer s H) (hl:vs.length=ps.length) (r:aO vs us)
  (x:InCallC s s.heap.objs.size (bindL (envOfC qual scope s.heap.objs.size f cd).kindOf (ps.zip us) fun _=>none) (cellsFrom (s.heap.objs.size+1) scope.names []) (bindC (envOfC qual scope s.heap.objs.size f cd).kindOf (ps.zip us) fun _=>none) s1) :
  a8 (dP CX P w K mg base N qual scope f cd A outer s H E) [] (start N vs) H s1:=by
 have hpl:ps.length<=N.length:=by have:=congrArg List.length S.pre; rw [bo1] at this; omega
 obtain ⟨h1,tk,rfl,hk⟩:=x.done
 have noA:∀ b:Addr,b ∉ (dP CX P w K mg base N qual scope f cd A outer s H E).ex:=fun b z=>absurd (show b ∈ ([]:List Addr) from z) (by simp)
 refine⟨⟨e0.mod,S.kind,rfl,rfl,bi8 _,fun y z c h1 h2=>?_,fun y hy=>?_,fun y c _ h=>?_,fun _=>hd,Around.frames_deeper e0.frames,.inr ⟨rfl,rfl⟩,fun b z=>absurd z (noA b),e0.bs,e0.bsz,fun b _ _=>noA b,fun b z=>absurd z (noA b),e0.funs,e0.frf⟩,
  rfl,e0.bare,Un.kept hk,⟨_,x.toInCall.ns,fun i y v h1 h2 h3=>?_⟩,fun y c h=>⟨_,x.cell y c h⟩,e0.hok.fresh (bi8 _),fun y c h=>?_,fun p hp=>absurd (show p ∈ ([]:List (Addr × Obj)) from hp) (by simp),e0.hok.kept hk,?_⟩
 ·exact name_of_addr x.apart (bo0 h1) (bo0 h2)
 ·have hy:scope.names.lookup y=some .cell ∨ scope.names.lookup y=some .free:=hy
  rcases hy with hy | hy
  ·exact F0 hy
  ·exact absurd rfl (S.nofree _ (bo0 hy))
 ·exact bn5 (x.above y c (bo0 h))
 ·have hi:i < vs.length:=by
   unfold start at h2
   by_cases hi:i < vs.length
   ·exact hi
   ·rw [bt8 (by simpa using hi)] at h2
    rw [List.getElem?_replicate] at h2
    split at h2 <;> cases h2
  have ha:vs[i]? = some v:=by
   unfold start at h2
   rw [bl8 (by simpa using hi),bj2] at h2
   cases e:vs[i]? with
   | none=>rw [e] at h2; cases h2
   | some a=>rw [e] at h2; cases h2; rfl
  obtain ⟨u,hu,rv⟩:=r.get ha
  have hp:ps[i]? = some y:=by
   rw [<- S.pre,List.getElem?_take_of_lt (by omega)]; exact h1
  have ndP:ps.Nodup:=by rw [<- S.pre]; exact S.nd.sublist (List.take_sublist _ _)
  refine⟨u,rv,?_⟩
  rcases S.par y (bi0 hp) with k | k
  ·exact .inl ⟨k,E8 ndP hp hu k⟩
  ·obtain ⟨c,e⟩:=F0 (n:=s.heap.objs.size+1) k
   refine .inr ⟨.inl k,c,e,?_⟩
   have q:=x.cell y c e
   rw [E9 ndP hp hu (by show scope.names.lookup y ≠ _; rw [k]; decide)] at q
   exact q
 ·exact e0.hok.fresh (bn5 (x.above y c (bo0 h)))
 ·unfold start
  show _=N.length
  rw [bj4,bi4,bs8]
  omega
theorem F1 {CX:i4}{P:Program}{w:World}{K:PySem.W.Frag}{mg:Str->Option Value}{base:Heap}{k:Nat}{f:Addr}{name qual:Str}{params:Arguments}{body:List Stmt}{scope:Scope}{dV kV doc pm cdv ct oc:Value}{an od:Option Addr}
  {osl:Array (Option Value)}{N ps:List Str}{sp:Sp} (lk:K.lookup f=some ⟨oc,od,.func (PySem.W.fnOf name qual params body scope dV kV doc pm an cdv ct),osl⟩) (hcd:PySem.W.codeIn K cdv qual=true) (S:FnScope N ps scope)
  (len:∀ vs H Q E,sp vs H Q E->vs.length=ps.length)
  (hbody:∀ (A:Around) (outer:List Env) (s:Shared) (H:Hp) (vs:List V) (Q:VK) (E:XK),cC k (A.deeper (envOfC qual scope s.heap.objs.size f cdv))->sp vs H Q E->
   ∃ t,eI (dP CX P w K mg base N qual scope f cdv A outer s H E) body t/\t { nx:=fun _ H'=>Q .non H',rt:=Q } (start N vs) H) :
  cY P w K mg base CX (k+1) f (PySem.W.fnOf name qual params body scope dV kV doc pm an cdv ct) ps sp:=by
 refine⟨len,fun A outer s H args us vs Q E hr e0 hb r hsp=>?_⟩
 have hl:=len _ _ _ _ hsp
 have KX:K.In s.heap:=e0.mod.kin.keeps fun b o e=>(e0.bs b o e).1
 have lim:s.heap.NoLimit:=e0.mod.nolimit.keeps fun b o e=>(e0.bs b o e).1
 have hkind:∀ y ∈ ps.zip us,scope.names.lookup y.1=some .local ∨ (scope.names.lookup y.1=some .cell/\((cellsFrom (s.heap.objs.size+1) scope.names []).lookup y.1).isSome=true):=fun ⟨n,v⟩ hy=>by
  rcases S.par n (List.of_mem_zip hy).1 with q | q
  ·exact .inl q
  ·exact .inr ⟨q,PySem.W.cellsFrom_some _ _ _ (.inl q)⟩
 refine codeAny_call_function hr.depth (KX _ _ lk) rfl S.co S.gen rfl (PySem.W.codeRec_of KX hcd) (hb _ _ _ _ ?_)
 refine wpAny_newFunctionEnv_cells S.kind hkind fun env he s1 x=>?_
 subst he
 refine⟨lim.keeps x.toInCall.keep,codeAny_func ?_⟩
 obtain ⟨t,ht,hq⟩:=hbody A outer s H vs Q E (hr.deeper _) hsp
 have I:a8 (dP CX P w K mg base N qual scope f cdv A outer s H E) [] (start N vs) H s1:=aq9 S hr.hd e0 hl r x
 refine bq7 (ht [] s1 (start N vs) H _ I hq) (fun fl s' hs=>?_) fun e s' hs=>hs
 have fin:∀ {σ':St}{H':Hp}{v:V}{u:Value},a8 (dP CX P w K mg base N qual scope f cdv A outer s H E) [] σ' H' s'->aZ v u->Q v H'->CE outer P w H s Q u s':=
  fun {σ' H' v u} J rv q=>⟨v,H',J.os,J.bare,J.base,J.hok,rv,q⟩
 cases fl with
 | ret u=>
  obtain ⟨v,σ',H',J,rv,q⟩:=hs
  exact fin J rv q
 | next=>
  obtain ⟨σ',H',J,q⟩:=hs
  exact fin (v:=V.non) (u:=Value.none) J rfl q
 | brk=>
  obtain ⟨_,_,_,q⟩:=hs
  exact False.elim q
 | cont=>
  obtain ⟨_,_,_,q⟩:=hs
  exact False.elim q
section
variable {X : Cx} {x : Str} {p pos : Pos} {e : Expr} {es : List Expr} {t : TA} {id T : String} {r : List V → Hp → VK → Prop}
noncomputable def v9 (r:List V->Hp->VK->Prop) (t:TA):TE:=fun σ H Q=>t σ H fun vs H1=>r vs H1 Q
theorem oS (hc:cX X (.builtin id) r) (hg:Gl X x) (hm:X.mg x=none) (hv:bootBuiltins x=some (.builtin id)) (ha:PA X (e :: es) t) (hn:x ≠ "__name__":=by decide) (hdb:(x == ("__debug__" : Str))=false:=by decide)
  (he:starEach (e :: es) X.env=(false,eval e X.env) :: starEach es X.env:=by rfl) (hpl:(backTo pos (starEach es X.env)).any (·.1)=false:=by rfl):PE X (.Call (.Name x p) (e :: es) [] pos) (v9 r t):=by
 intro pins s σ H Q I h
 refine wpAny_Call_Name_kw (jG I hg hm hv ?_ hn hdb)
 exact PyProof.Rows.callWith_builtin1 (aQ (ha pos pins s σ H _ I h) fun us s1 ⟨vs,H1,I1,r1,q1⟩=>hc pins s1 σ H1 vs us Q I1 r1 q1) he hpl
theorem F3 (hc:cX X (.type T) r) (hg:Gl X x) (hm:X.mg x=none) (hv:bootBuiltins x=some (.type T)) (ha:PA X (e :: es) t) (hn:x ≠ "__name__":=by decide) (hdb:(x == ("__debug__" : Str))=false:=by decide)
  (he:starEach (e :: es) X.env=(false,eval e X.env) :: starEach es X.env:=by rfl) (hpl:(backTo pos (starEach es X.env)).any (·.1)=false:=by rfl):PE X (.Call (.Name x p) (e :: es) [] pos) (v9 r t):=by
 intro pins s σ H Q I h
 refine wpAny_Call_Name_kw (jG I hg hm hv ?_ hn hdb)
 exact bp6 (aQ (ha pos pins s σ H _ I h) fun us s1 ⟨vs,H1,I1,r1,q1⟩=>hc pins s1 σ H1 vs us Q I1 r1 q1) he hpl
end
end L2
namespace HT
open PySem PyProof.Rows
noncomputable def eJ:List Int->List Int->Bool
 | [],[]=>false
 | [],_ :: _=>true
 | _ :: _,[]=>false
 | x :: xs,y :: ys=>if x=y then eJ xs ys else decide (x < y)
theorem mP (x y:Int) (xs ys:List Int):eJ (x :: xs) (y :: ys)=if x=y then eJ xs ys else decide (x < y):=rfl
section
variable {prog : Program} {w : World} {A : Around} {E : Value → Shared → Prop} {s : Shared}
theorem ar0 {t b:Addr}{vs ws:List Value}{Q:Value->Shared->Prop} (ht:IsTup s.heap t vs.toArray) (hb:IsTup s.heap b ws.toArray) (hv:vs ≠ [])
  (h1:ws = []->Q (.ref t) s) (h2:ws ≠ []->Q (.ref s.heap.objs.size) { s with heap:=s.heap.push { cls:=.type "tuple",data:=.seq (vs ++ ws).toArray } })
  (hsz:vs.length+ws.length<=sizeLine):wpAny (model prog w) A (binaryOp .Add (.ref t) (.ref b)) Q E s:=by
 obtain ⟨⟨cls,dd,data,sl⟩,ho,hc,n,hd⟩:=id ht
 obtain ⟨⟨cls2,dd2,data2,sl2⟩,ho2,hc2,n2,hd2⟩:=id hb
 simp only at hc hd hc2 hd2
 subst hc hd hc2 hd2
 have e:vs.toArray ++ ws.toArray=(vs ++ ws).toArray:=by simp
 by_cases hw:ws = []
 ·exact concat_meets ⟨_,ho,rfl⟩ ⟨_,ho2,rfl⟩ noFill_tuple_add seq_tuple_add PySem.F.slot_tuple_add PySem.F.entry_tuple_add (PySem.F.args_tuple_add_2 _ _)
   (tuple_addW1 t b vs.toArray ws.toArray n n2 dd dd2 sl sl2 (by simpa using hv) (by simp [hw])) ⟨ho,ho2,h1 hw⟩
 ·refine concat_meets ⟨_,ho,rfl⟩ ⟨_,ho2,rfl⟩ noFill_tuple_add seq_tuple_add PySem.F.slot_tuple_add PySem.F.entry_tuple_add (PySem.F.args_tuple_add_2 _ _)
   (tuple_addW2 t b vs.toArray ws.toArray n n2 dd dd2 sl sl2 (by simpa using hv) (by simpa using hw) (by rw [bh9,bh9]; exact hsz)) ⟨ho,ho2,?_⟩
  rw [e]
  exact h2 hw
noncomputable def b5 (n d:Nat):Option Int->Nat
 | none=>d
 | some v=>if v < 0 then (v+(n:Int)).toNat else min v.toNat n
theorem ar1 (n d:Nat):b5 n d none=d:=rfl
theorem ar2 (n d k:Nat):b5 n d (some (k:Int))=min k n:=by
 show (if (k:Int) < 0 then ((k:Int)+(n:Int)).toNat else min (k:Int).toNat n)=min k n
 rw [if_neg (by omega),bk4]
theorem ar3 (n d:Nat) (hd:d<=n) (o:Option Int):b5 n d o<=n:=by
 cases o with
 | none=>exact hd
 | some v=>
  show (if v < 0 then (v+(n:Int)).toNat else min v.toNat n)<=n
  by_cases hv:v < 0
  ·rw [if_pos hv]; omega
  ·rw [if_neg hv]; exact Nat.min_le_right _ _
theorem F4 (v:Int) (n d:Nat):(if v < 0 then max (v+(n:Int)) 0 else min v (n:Int))=((b5 n d (some v):Nat):Int):=by
 show (if v < 0 then max (v+(n:Int)) 0 else min v (n:Int))=(((if v < 0 then (v+(n:Int)).toNat else min v.toNat n):Nat):Int)
 by_cases hv:v < 0
 ·simp only [if_pos hv]; omega
 ·simp only [if_neg hv]; omega
theorem ar4 (lo hi:Option Int) (n:Nat):Builtin.Slice.sliceAdjust lo hi 1 (n:Int)=(((b5 n 0 lo:Nat):Int),((b5 n n hi:Nat):Int)):=by
 have h1 : ¬ ((1:Int) < 0):=by omega
 unfold Builtin.Slice.sliceAdjust
 simp only [h1,bp9]
 refine Prod.ext ?_ ?_
 ·cases lo with
  | none=>rfl
  | some v=>exact F4 v n 0
 ·cases hi with
  | none=>rfl
  | some v=>exact F4 v n n
theorem ar5 (i j:Nat):Builtin.Slice.slicePlaces (i:Int) (j:Int) 1=j - i:=by
 unfold Builtin.Slice.slicePlaces
 have h1:(1:Int) > 0:=by omega
 simp only [h1,if_true,Int.ediv_one]
 split <;> omega
theorem F5 {v:Value}{o:Option Int}{Q:Option Int->Shared->Prop} (p:IsPart v o) (h:Q o s):wpAny (model prog w) A (Builtin.Slice.slicePartIndex v) Q E s:=by
 cases p with
 | none=>exact slicePart_none h
 | int i t=>exact slicePart_int h
theorem F6 {sl:Addr}{vl vu:Value}{lo hi:Option Int}{n:Nat}{Q:Int × Int × Nat->Shared->Prop} (hs:s.heap.IsSliceOf sl vl vu .none) (pl:IsPart vl lo) (pu:IsPart vu hi)
  (h:Q (((b5 n 0 lo:Nat):Int),1,b5 n n hi - b5 n 0 lo) s):wpAny (model prog w) A (Builtin.Slice.sliceApplied (.ref sl) (pure (n:Int))) Q E s:=by
 obtain ⟨os,hos,hcs,hds⟩:=id hs
 unfold Builtin.Slice.sliceApplied Builtin.Slice.sliceFields
 refine bh8 (bh8 (bs6 hos hds (x:=vl) rfl (bh8 (bs6 hos hds (x:=vu) rfl (bh8 (bs6 hos hds (x:=.none) rfl (bj3 ?_)))))))
 refine bh8 (slicePart_none ?_)
 show wpAny _ _ (if ((1:Int) == 0)=true then _ else _) _ _ s
 rw [if_neg (by decide)]
 refine bh8 (F5 pl (bh8 (F5 pu (bh8 (bj3 ?_)))))
 show wpAny _ _ (match Builtin.Slice.sliceAdjust lo hi 1 (n:Int) with | (lo,hi)=>pure (lo,(1:Int),Builtin.Slice.slicePlaces lo hi 1)) _ _ s
 rw [ar4 lo hi n]
 show wpAny _ _ (pure (((b5 n 0 lo:Nat):Int),(1:Int),Builtin.Slice.slicePlaces ((b5 n 0 lo:Nat):Int) ((b5 n n hi:Nat):Int) 1)) _ _ s
 rw [ar5]
 exact bj3 h
theorem ar6 (xs:Array Value) (i k:Nat):((List.range k).filterMap fun (m:Nat)=>xs[((i:Int)+(m:Int) * 1).toNat]?).toArray=((xs.toList.drop i).take k).toArray:=by
 have e:(fun (m:Nat)=>xs[((i:Int)+(m:Int) * 1).toNat]?)=fun m=>xs[i+m]?:=by
  funext m
  have:((i:Int)+(m:Int) * 1).toNat=i+m:=by omega
  rw [this]
 rw [e]
 have:=pick_run xs i k
 rw [List.filterMap_map] at this
 have e2:((fun x=>xs[x]?) ∘ fun x=>i+x)=fun m=>xs[i+m]?:=rfl
 rw [e2] at this
 rw [this]
theorem ar7 {t sl:Addr}{items:Array Value}{vl vu:Value}{lo hi:Option Int}{Q:Value->Shared->Prop} (ht:IsTup s.heap t items) (hs:s.heap.IsSliceOf sl vl vu .none) (pl:IsPart vl lo) (pu:IsPart vu hi)
  (hw : ¬ (b5 items.size 0 lo=0/\b5 items.size items.size hi=items.size))
  (h:Q (.ref s.heap.objs.size) { s with heap:=s.heap.push { cls:=.type "tuple",data:=.seq ((items.toList.drop (b5 items.size 0 lo)).take (b5 items.size items.size hi - b5 items.size 0 lo)).toArray } })
  (hsz:items.size<=sizeLine):wpAny (model prog w) A (getItem (.ref t) (.ref sl)) Q E s:=by
 have htake:sizeOk (.seq ((items.toList.drop (b5 items.size 0 lo)).take (b5 items.size items.size hi - b5 items.size 0 lo)).toArray):=by
  show ((items.toList.drop (b5 items.size 0 lo)).take (b5 items.size items.size hi - b5 items.size 0 lo)).toArray.size<=sizeLine
  rw [bh9,bo1,bq0,Array.length_toList]
  omega
 have hj:b5 items.size items.size hi<=items.size:=ar3 _ _ (bi8 _) hi
 obtain ⟨os,hos,hcs,hds⟩:=id hs
 have hTs:s.TypeIs (.ref sl) "slice":=⟨os,hos,hcs⟩
 unfold getItem
 try with_reducible refine bs0 ?_
 first | refine bh8 (bj3 ?_) | skip
 refine bh8 (wpAny_sequenceKey ht.typeIs (by decide) ?_)
 refine bh8 (br5 (name:=Str.ofString "__getitem__") ht.typeIs bu4
  (bq1 bu4 ht.typeIs entry_tuple_getitem ?_ (args_tuple_getitem _ _)))
 show wpAny _ _ (Builtin.Tuple.tupleItemsOf (.ref t) >>= _) _ _ s
 refine bh8 (tupleItemsOf_ ht ?_)
 refine bh8 (wpAny_typeOf hTs ?_)
 rw [if_pos (by decide)]
 refine bh8 (F6 hs pl pu ?_)
 have hno : ¬ ((((b5 items.size 0 lo:Nat):Int) == 0 && (1:Int) == 1 && (b5 items.size items.size hi - b5 items.size 0 lo) == items.size)=true):=by
  intro q
  rw [bm2,bm2] at q
  have q1:((b5 items.size 0 lo:Nat):Int)=0:=eq_of_beq q.1.1
  have q2:b5 items.size items.size hi - b5 items.size 0 lo=items.size:=eq_of_beq q.2
  exact hw ⟨by omega,by omega⟩
 show wpAny _ _ (if (((b5 items.size 0 lo:Nat):Int) == 0 && (1:Int) == 1 && (b5 items.size items.size hi - b5 items.size 0 lo) == items.size)=true then _ else _) _ _ s
 rw [if_neg hno,ar6]
 first
  | exact bh8 (m:=Builtin.Tuple.tupleExact _) (bq5 (bj3 ⟨_,rfl,bj3 h⟩) htake)
  | exact bh8 (m:=Builtin.Tuple.tupleExact _) (bq5 (bh8 (bj3 (bj3 ⟨_,rfl,bj3 h⟩))) htake)
  | exact bh8 (bh8 (m:=Builtin.Tuple.tupleExact _) (bq5 (bj3 (bj3 ⟨_,rfl,bj3 h⟩)) htake))
  | exact bh8 (bh8 (m:=Builtin.Tuple.tupleExact _) (bq5 (bj3 ⟨_,rfl,bj3 h⟩) htake))
end
end HT
namespace L2
open PySem PySem.Spec PyProof.Rows
noncomputable abbrev TO:=St->Hp->(Option Int->Hp->Prop)->Prop
noncomputable def PO (X:Cx) (e:Option Expr) (t:TO):Prop:=
 ∀ (pins:List (Addr × Obj)) (s:Shared) (σ:St) (H:Hp) (Q:Option Int->Hp->Prop),a8 X pins σ H s->t σ H Q->
  wpAny (model X.prog X.w) X.A (evalPart e X.env) (fun u s'=>∃ o H',a8 X pins σ H' s'/\IsPart u o/\Q o H') X.xe s
noncomputable def ar8:TO:=fun _ H Q=>Q none H
noncomputable def ar9 (t:TE):TO:=fun σ H Q=>t σ H fun x H1=>∃ i,x = .int i/\Q (some i) H1
theorem mQ {ns:List Int}:∀ {us:List Value},aO (ns.map V.int) us->IntsAre us ns:=by
 induction ns with
 | nil=>intro us r; rw [List.map_nil] at r; cases r; exact .nil
 | cons n ns ih=>
  intro us r
  rw [bm0] at r
  cases r with
  | cons r1 r2=>
   obtain ⟨t,e⟩:=r1
   subst e
   exact .cons n t (ih r2)
section
variable {X : Cx} {e : Expr} {te : TE} {lo hi : Option Expr} {tl th : TO} {pos p2 : Pos}
theorem vA:PO X none ar8:=by
 intro pins s σ H Q I h
 rw [evalPart_none]
 exact bj3 ⟨none,H,I,.none,h⟩
theorem vB (h:PE X e te):PO X (some e) (ar9 te):=by
 intro pins s σ H Q I hw
 rw [evalPart_some]
 refine aQ (h pins s σ H _ I hw) fun u s1 ⟨x,H1,I1,r1,q1⟩=>?_
 obtain ⟨i,rfl,q⟩:=q1
 obtain ⟨t,rfl⟩:=r1
 exact⟨some i,H1,I1,.int i t,q⟩
noncomputable def kM (X:Cx) (r:V->Option Int->Option Int->Hp->VK->Prop):Prop:=
 ∀ (pins:List (Addr × Obj)) (s:Shared) (σ:St) (H:Hp) (x:V) (v vl vu:Value) (lo hi:Option Int) (sl:Addr) (Q:VK),a8 X pins σ H s->aZ x v->s.heap.IsSliceOf sl vl vu .none->IsPart vl lo->IsPart vu hi->r x lo hi H Q->
  ∃ T id,typeLookup (.type T) "__getitem__" = pure (some (.builtin id))/\s.TypeIs v T/\wpAny (model X.prog X.w) X.A (getItem v (.ref sl)) (EP X pins σ Q) X.xe s
theorem kM.or {r r':V->Option Int->Option Int->Hp->VK->Prop} (h:kM X r) (h':kM X r'):kM X (fun x lo hi H Q=>r x lo hi H Q ∨ r' x lo hi H Q):=by
 intro pins s σ H x v vl vu lo hi sl Q I rx hs pl pu q
 rcases q with q | q
 ·exact h pins s σ H x v vl vu lo hi sl Q I rx hs pl pu q
 ·exact h' pins s σ H x v vl vu lo hi sl Q I rx hs pl pu q
noncomputable def tSl (r:V->Option Int->Option Int->Hp->VK->Prop) (te:TE) (tl th:TO):TE:=fun σ H Q=>te σ H fun x H1=>tl σ H1 fun l H2=>th σ H2 fun u H3=>r x l u H3 Q
theorem vC {r:V->Option Int->Option Int->Hp->VK->Prop} (hr:kM X r) (he:PE X e te) (hl:PO X lo tl) (hu:PO X hi th):PE X (.Subscript e (.Slice lo hi none p2) pos) (tSl r te tl th):=by
 intro pins s σ H Q I h
 refine Subscript_ (aQ (he pins s σ H _ I h) fun v s1 ⟨x,H1,I1,r1,q1⟩=>?_)
 refine wpAny_Slice (aQ (hl pins s1 σ H1 _ I1 q1) fun vl s2 ⟨l,H2,I2,pl,q2⟩=>aQ (hu pins s2 σ H2 _ I2 q2) fun vu s3 ⟨u,H3,I3,pu,q3⟩=>?_)
 rw [evalPart_none]
 refine bj3 ?_
 have I4:a8 X pins σ H3 { s3 with heap:=s3.heap.push { cls:=.type "slice",data:=.fields #[vl,vu,.none] } }:=I3.kept (t':=s3.toks) fun b ob q=>bi1 _ q
 obtain ⟨T,id,hT,ht,hg⟩:=hr pins { s3 with heap:=s3.heap.push { cls:=.type "slice",data:=.fields #[vl,vu,.none] } } σ H3 x v vl vu l u s3.heap.objs.size Q I4 r1 (Heap.IsSliceOf.new ..) pl pu q3
 show wpAny (model X.prog X.w) X.A (subscriptTail e (.Slice lo hi none p2) v (.ref s3.heap.objs.size)) (EP X pins σ Q) X.xe { s3 with heap:=s3.heap.push { cls:=.type "slice",data:=.fields #[vl,vu,.none] } }
 exact tail_any (ops:=[.ref s3.heap.objs.size,v]) ht hT hg (by with_unfolding_all rfl)
noncomputable def eW (xs:List V) (lo hi:Option Int):List V:=(xs.drop (HT.b5 xs.length 0 lo)).take (HT.b5 xs.length xs.length hi - HT.b5 xs.length 0 lo)
theorem F7 (xs:List V) (lo hi:Option Int):(eW xs lo hi).length<=xs.length:=by
 unfold eW
 rw [bo1,bq0]
 omega
noncomputable def as0 (K:PySem.W.Frag):V->Option Int->Option Int->Hp->VK->Prop:=fun x lo hi H Q=>∃ a xs,x = .ref a/\aJ K H a xs/\
 ¬ (HT.b5 xs.length 0 lo=0/\HT.b5 xs.length xs.length hi=xs.length)/\∀ p,H p=none->Q (.ref p) (upd H p (.tup (eW xs lo hi)))
theorem as1:kM X (as0 X.K):=by
 intro pins s σ H x v vl vu lo hi sl Q I rx hs pl pu h
 obtain ⟨a,xs,rfl,hx,hw,q⟩:=h
 cases rx
 obtain ⟨its,r,ht,hz⟩:=I.tuple hx
 have hlen:its.toArray.size=xs.length:=by rw [bh9]; exact r.length.symm
 refine⟨"tuple",_,PyProof.Rows.slot_tuple_getitem.lookup,ht.typeIs,?_⟩
 refine HT.ar7 ht hs pl pu (by rw [hlen]; exact hw) ?_ (by rw [hlen]; exact hz)
 rw [hlen]
 refine⟨.ref s.heap.objs.size,_,I.laid (t':=s.toks) (o:=.tup (eW xs lo hi)) (fun b ob q=>bi1 _ q) (bi8 _) ?_,rfl,q _ (I.hok.fresh (bi8 _))⟩
 exact⟨bm6 (F7 xs lo hi) hz,_,(r.drop (HT.b5 xs.length 0 lo)).take (HT.b5 xs.length xs.length hi - HT.b5 xs.length 0 lo),IsTup.new _ _,iV.new _ _ rfl⟩
noncomputable def as2 (K:PySem.W.Frag):R2:=fun x y H Q=>∃ a b xs ys,x = .ref a/\y = .ref b/\aJ K H a xs/\aJ K H b ys/\xs ≠ []/\xs.length+ys.length<=sizeLine/\
 (ys = []->Q (.ref a) H)/\(ys ≠ []->∀ p,H p=none->Q (.ref p) (upd H p (.tup (xs ++ ys))))
theorem aO.nil_iff {xs:List V}{us:List Value} (r:aO xs us):us = [] ↔ xs = []:=by
 cases r with
 | nil=>simp
 | cons _ _=>simp
theorem as3:c9 X (binaryOp .Add) (as2 X.K):=by
 intro pins s σ H x y v u Q I rx ry h
 obtain ⟨a,b,xs,ys,rfl,rfl,ha,hb,hx,hz,q1,q2⟩:=h
 cases rx
 cases ry
 obtain ⟨its,r1,p1,_⟩:=I.tuple ha
 obtain ⟨its2,r2,p2,_⟩:=I.tuple hb
 refine HT.ar0 p1 p2 (fun z=>hx (r1.nil_iff.mp z)) (fun z=>⟨.ref a,H,I,rfl,q1 (r2.nil_iff.mp z)⟩) (fun z=>?_) (by rw [<- r1.length,<- r2.length]; exact hz)
 refine⟨.ref s.heap.objs.size,_,I.laid (t':=s.toks) (o:=.tup (xs ++ ys)) (fun b ob q=>bi1 _ q) (bi8 _) ?_,rfl,q2 (fun w=>z (r2.nil_iff.mpr w)) _ (I.hok.fresh (bi8 _))⟩
 exact⟨by rw [bj4]; exact hz,_,r1.append r2,IsTup.new _ _,iV.new _ _ rfl⟩
end
noncomputable def eL (n:Nat) (i:Int):Option Nat:=if 0<=i then (if i < n then some i.toNat else none) else if -(n:Int)<=i then some (i+n).toNat else none
noncomputable def atI {α:Type} (xs:List α) (i:Int):Option α:=(eL xs.length i).bind fun j=>xs[j]?
theorem F8 {n:Nat}{i:Int}{j:Nat} (h:eL n i=some j):seqIndex? i n=some j/\j < n/\-(n:Int)<=i/\i < n:=by
 unfold eL at h
 by_cases h0:0<=i
 ·rw [if_pos h0] at h
  by_cases h1:i < n
  ·rw [if_pos h1] at h
   have e:i.toNat=j:=bl2 h
   exact⟨by rw [seqIndex_of h0 h1,e],by omega,by omega,h1⟩
  ·rw [if_neg h1] at h; cases h
 ·rw [if_neg h0] at h
  by_cases h1 : -(n:Int)<=i
  ·rw [if_pos h1] at h
   have e:(i+n).toNat=j:=bl2 h
   exact⟨by rw [seqIndex_neg (by omega) h1,e],by omega,h1,by omega⟩
  ·rw [if_neg h1] at h; cases h
theorem vD {α:Type}{xs:List α}{i:Int}{v:α} (h:atI xs i=some v):∃ j,seqIndex? i xs.length=some j/\xs[j]? = some v/\j < xs.length/\-(xs.length:Int)<=i/\i < xs.length:=by
 unfold atI at h
 cases e:eL xs.length i with
 | none=>rw [e] at h; cases h
 | some j=>
  rw [e] at h
  obtain ⟨h1,h2,h3,h4⟩:=F8 e
  exact⟨j,h1,h,h2,h3,h4⟩
theorem jI {α:Type}{xs:List α}{j:Nat}{v:α} (h:xs[j]? = some v):atI xs (j:Int)=some v:=by
 have hj:j < xs.length:=(bi5.mp h).1
 have e:eL xs.length (j:Int)=some j:=by
  unfold eL
  rw [if_pos (by omega),if_pos (by omega)]; simp
 unfold atI; rw [e]; exact h
noncomputable def vE (b:Expr):Prop:=∀ o i,subscripted b false o i=operate [o,i] (getItem o i)
noncomputable def jJ (X:Cx) (r:R2):Prop:=
 ∀ (value slice:Expr) (pins:List (Addr × Obj)) (s:Shared) (σ:St) (H:Hp) (x y:V) (v u:Value) (Q:VK),a8 X pins σ H s->aZ x v->aZ y u->r x y H Q->
  subscripted slice false v u=operate [v,u] (getItem v u)->wpAny (model X.prog X.w) X.A (subscriptTail value slice v u) (EP X pins σ Q) X.xe s
noncomputable def F9 (X:Cx) (id:String) (r:V->List V->Hp->VK->Prop):Prop:=
 ∀ (pins:List (Addr × Obj)) (s:Shared) (σ:St) (H:Hp) (x:V) (xs:List V) (v:Value) (us:List Value) (Q:VK),a8 X pins σ H s->aZ x v->aO xs us->r x xs H Q->
  wpAny (model X.prog X.w) X.A (call (.builtin id) (v :: us)) (EP X pins σ Q) X.xe s
section
variable {X : Cx} {a b : Expr} {ta tb : TE} {pos : Pos}
theorem jJ.or {r r':R2} (h:jJ X r) (h':jJ X r'):jJ X (fun x y H Q=>r x y H Q ∨ r' x y H Q):=by
 intro value slice pins s σ H x y v u Q I rx ry q hs
 rcases q with q | q
 ·exact h value slice pins s σ H x y v u Q I rx ry q hs
 ·exact h' value slice pins s σ H x y v u Q I rx ry q hs
theorem iZ {r:R2} (hr:jJ X r) (ha:PE X a ta) (hb:PE X b tb) (hs:vE b):PE X (.Subscript a b pos) (mM r ta tb):=by
 intro pins s σ H Q I h
 exact Subscript_ (uU ha hb I h fun v u s2 x y H2 I2 rx ry q=>hr a b pins s2 σ H2 x y v u Q I2 rx ry q (hs _ _))
noncomputable def G0 (K:PySem.W.Frag):R2:=fun x y H Q=>∃ p xs i v,x = .ref p/\y = .int i/\aM K H p xs/\atI xs i=some v/\Q v H
noncomputable def G1 (K:PySem.W.Frag):R2:=fun x y H Q=>∃ p xs i v,x = .ref p/\y = .int i/\aJ K H p xs/\atI xs i=some v/\Q v H
noncomputable def G2:R2:=fun x y H Q=>∃ z i c,x = .str z/\y = .int i/\z.length<=sizeLine/\atI z.cps.toList i=some c/\Q (.str ⟨#[c]⟩) H
theorem oT:jJ X (G0 X.K):=by
 intro value slice pins s σ H x y v u Q I rx ry h hs
 obtain ⟨p,xs,i,z,rfl,rfl,hq,he,q⟩:=h
 cases rx
 obtain ⟨t,rfl⟩:=ry
 obtain ⟨its,r,pl,hz⟩:=I.list hq
 obtain ⟨j,h1,h2,h3,h4,h5⟩:=vD he
 obtain ⟨w,ew,rw'⟩:=r.get h2
 have hl:=r.length
 have hn:=mO
 have fin:EP X pins σ Q w s:=⟨z,H,I,rw',q⟩
 by_cases h0:0<=i
 ·have hj:i.toNat=j:=by
   rw [seqIndex_of h0 h5] at h1
   exact bl2 h1
  exact item_listR pl.isList h0 (by omega) (by rw [hj]; simpa using ew) fin hs
 ·have hj:(i+(its.toArray.size:Int)).toNat=j:=by
   rw [seqIndex_neg (by omega) h4] at h1
   rw [bh9,<- hl]
   exact bl2 h1
  exact subscriptTail_builtinR (x:=w) pl.isList.typeIs slot_list_getitem.lookup
   (wpAny_getItem_list_neg (Q:=fun r s'=>r=w/\EP X pins σ Q r s') pl.isList (by omega) (by rw [bh9] <;> omega) (by omega) (by rw [hj]; simpa using ew) ⟨rfl,fin⟩) hs
theorem oU:jJ X (G1 X.K):=by
 intro value slice pins s σ H x y v u Q I rx ry h hs
 obtain ⟨p,xs,i,z,rfl,rfl,hq,he,q⟩:=h
 cases rx
 obtain ⟨t,rfl⟩:=ry
 obtain ⟨its,r,pl,hz⟩:=I.tuple hq
 obtain ⟨j,h1,h2,h3,h4,h5⟩:=vD he
 obtain ⟨w,ew,rw'⟩:=r.get h2
 have hl:=r.length
 have hn:=mO
 have fin:EP X pins σ Q w s:=⟨z,H,I,rw',q⟩
 exact subscriptTail_builtinR (x:=w) pl.typeIs slot_tuple_getitem.lookup
  (getItem_tuple (j:=j) (Q:=fun r s'=>r=w/\EP X pins σ Q r s') pl (by omega) (by omega) (by rw [bh9,<- hl]; exact h1) (by simpa using ew) ⟨rfl,fin⟩) hs
theorem as4:jJ X G2:=by
 intro value slice pins s σ H x y v u Q I rx ry h hs
 obtain ⟨z,i,c,rfl,rfl,hz,he,q⟩:=h
 obtain ⟨t,rfl⟩:=rx
 obtain ⟨t',rfl⟩:=ry
 obtain ⟨j,h1,h2,h3,h4,h5⟩:=vD he
 have hl:z.cps.toList.length=z.length:=by simp [Str.length]
 rw [hl] at h1 h4 h5
 have hn:=mO
 exact tail_any (typeIs_str s z t) slot_str_getitem.lookup (getItem_str (c:=c) (by
  have e1:decide (i < -(2 ^ 63:Int))=false:=bj5 (by omega)
  have e2:decide (i >= 2 ^ 63)=false:=bj5 (by omega)
  rw [e1,e2,Bool.or_false]) (by rw [h1]; simpa using h2) ⟨.str ⟨#[c]⟩,H,I.tok _,⟨_,rfl⟩,q⟩) hs
noncomputable def vF (K:PySem.W.Frag):R2:=fun x y H Q=>G0 K x y H Q ∨ G1 K x y H Q ∨ G2 x y H Q
theorem G3:jJ X (vF X.K):=oT.or (oU.or as4)
theorem as5 (its:List Value) (n j:Nat) (u:Value):Obj.mapSeq (·.setIfInBounds j u) { cls:=.type "list",data:=.seq its.toArray n }={ cls:=.type "list",data:=.seq (its.set j u).toArray n }:=by
 simp [Obj.mapSeq]
theorem a8.lst {pins:List (Addr × Obj)}{σ:St}{H:Hp}{s:Shared}{p:Addr}{xs:List V} (I:a8 X pins σ H s) (h:H p=some (.lst xs)) :
  ∃ (its:List Value) (n:Nat),aO xs its/\s.heap.get? p=some { cls:=.type "list",data:=.seq its.toArray n }/\xs.length<=sizeLine:=by
 obtain ⟨z,its,n,r,e⟩:=I.hok p _ h
 exact⟨its,n,r,e,z⟩
theorem a8.lstUpd {pins:List (Addr × Obj)}{σ:St}{H:Hp}{s:Shared}{p:Addr}{xs ys:List V}{its its':List Value}{n n':Nat}{f:Obj->Obj} (I:a8 X pins σ H s) (h:H p=some (.lst xs))
  (ho:s.heap.get? p=some { cls:=.type "list",data:=.seq its.toArray n }) (hf:f { cls:=.type "list",data:=.seq its.toArray n }={ cls:=.type "list",data:=.seq its'.toArray n' }) (r:aO ys its') (hz:ys.length<=sizeLine) (t:Nat) :
  a8 X pins σ (upd H p (.lst ys)) { s with heap:=s.heap.update p f,toks:=t }:=by
 have e:(s.heap.update p f).get? p=some { cls:=.type "list",data:=.seq its'.toArray n' }:=by
  rw [Heap.get?_update_self f ho (by rw [hf] <;> rfl),hf]
 refine I.write (x:=p) (e:=p) (by rw [h]; trivial) (.inl rfl) (fun b u hb q=>(Heap.get?_update_other _ _ (Ne.symm hb)).trans q) ⟨_,e⟩ ?_
 exact⟨hz,its',n',r,e⟩
noncomputable def oV:V->V->V->Hp->(Hp->Prop)->Prop:=fun o i v H Q=>∃ p xs k j,o = .ref p/\i = .int k/\H p=some (.lst xs)/\eL xs.length k=some j/\Q (upd H p (.lst (xs.set j v)))
theorem G4:B2 X oV:=by
 intro pins s σ H o i v ov iv u Q I ro ri rv h
 obtain ⟨p,xs,k,j,rfl,rfl,hp,hj,q⟩:=h
 cases ro
 obtain ⟨t,rfl⟩:=ri
 obtain ⟨its,n,r,ho,hz⟩:=I.lst hp
 obtain ⟨h1,h2,h3,h4⟩:=F8 hj
 have hl:=r.length
 have hn:=mO
 have I':a8 X pins σ (upd H p (.lst (xs.set j v))) { s with heap:=s.heap.update p (Obj.mapSeq (·.setIfInBounds j u)) }:=
  I.lstUpd hp ho (as5 its n j u) (r.set rv j) (by rw [bm3]; exact hz) s.toks
 by_cases h0:0<=k
 ·have hk:k.toNat=j:=by
   rw [seqIndex_of h0 h4] at h1
   exact bl2 h1
  exact PySem.W.ki_setAt ho h0 (by omega) (by rw [bh9,<- hl]; exact h4) (by rw [hk]; exact⟨_,I',q⟩)
 ·have hk:(k+(its.toArray.size:Int)).toNat=j:=by
   rw [seqIndex_neg (by omega) h3] at h1
   rw [bh9,<- hl]
   exact bl2 h1
  exact PySem.W.ki_setBack ho (by omega) (by rw [bh9,<- hl]; exact h3) (by omega) (by rw [hk]; exact⟨_,I',q⟩)
theorem as6 (lo hi:Option Int) (n:Nat):(sliceBounds lo hi none n).1=((HT.b5 n 0 lo:Nat):Int)/\(sliceBounds lo hi none n).2.1=((HT.b5 n n hi:Nat):Int)/\(sliceBounds lo hi none n).2.2=1:=by
 refine⟨?_,?_,rfl⟩
 ·cases lo with
  | none=>simp [sliceBounds,HT.b5]
  | some i=>
   simp only [sliceBounds,HT.b5,Option.getD_none,show (1:Int) > 0 by decide,if_true]
   by_cases h:i < 0
   ·simp only [h,if_true] <;> omega
   ·simp only [h,bp9] <;> omega
 ·cases hi with
  | none=>simp [sliceBounds,HT.b5]
  | some i=>
   simp only [sliceBounds,HT.b5,Option.getD_none,show (1:Int) > 0 by decide,if_true]
   by_cases h:i < 0
   ·simp only [h,if_true] <;> omega
   ·simp only [h,bp9] <;> omega
theorem as7 (its:List Value) (lo hi:Option Int):slicePick its.toArray lo hi none=((its.drop (HT.b5 its.length 0 lo)).take (HT.b5 its.length its.length hi - HT.b5 its.length 0 lo)).toArray:=by
 obtain ⟨h1,h2,h3⟩:=as6 lo hi its.toArray.size
 unfold slicePick
 rw [h1,h2,h3]
 simp only [sliceRange_one,pick_run,bh9] <;> rfl
noncomputable def as8 (K:PySem.W.Frag):V->Option Int->Option Int->Hp->VK->Prop:=fun x lo hi H Q=>∃ a xs,x = .ref a/\aM K H a xs/\∀ p,H p=none->Q (.ref p) (upd H p (.lst (eW xs lo hi)))
theorem G5:kM X (as8 X.K):=by
 intro pins s σ H x v vl vu lo hi sl Q I rx hs pl pu h
 obtain ⟨a,xs,rfl,hx,q⟩:=h
 cases rx
 obtain ⟨its,r,ht,hz⟩:=I.list hx
 have hlen:=r.length
 refine⟨"list",_,slot_list_getitem.lookup,ht.isList.typeIs,?_⟩
 refine wpAny_getItem_list_slice ht.isList hs pl pu .none (by simp) ?_ (by rw [bh9] <;> omega)
 rw [as7,<- hlen]
 refine⟨.ref s.heap.objs.size,_,I.laid (t':=s.toks) (o:=.lst (eW xs lo hi)) (fun b ob q=>bi1 _ q) (bi8 _) ?_,rfl,q _ (I.hok.fresh (bi8 _))⟩
 exact⟨bm6 (F7 xs lo hi) hz,_,0,(r.drop (HT.b5 xs.length 0 lo)).take (HT.b5 xs.length xs.length hi - HT.b5 xs.length 0 lo),bk0 _ rfl⟩
noncomputable def jK:V->Bool
 | .non=>true
 | .bl _=>true
 | .int _=>true
 | .str _=>true
 | _=>false
noncomputable def iH:V->V->Bool
 | .non,.non=>true
 | .bl a,.bl b=>a == b
 | .bl a,.int b=>(if a then 1 else 0) == b
 | .int a,.bl b=>a == (if b then 1 else 0)
 | .int a,.int b=>a == b
 | .str a,.str b=>a == b
 | _,_=>false
theorem as9 {A:Around}{s:Shared}{y x:V}{u v:Value} (ry:aZ y u) (rx:aZ x v) (fy:jK y=true) (fx:jK x=true):SeqAt.EqAt A s u v (iH y x):=by
 cases y with
 | non=>
  cases ry
  cases x with
  | non=>cases rx; exact SeqAt.EqAt.same _
  | bl b=>cases rx; exact SeqAt.EqAt.none_bool b
  | int b=>obtain ⟨t,rfl⟩:=rx; exact SeqAt.EqAt.none_int b t
  | str b=>obtain ⟨t,rfl⟩:=rx; exact SeqAt.EqAt.none_str b t
  | _=>exact absurd (show false=true from fx) bk3
 | bl a=>
  cases ry
  cases x with
  | non=>cases rx; exact SeqAt.EqAt.bool_none a
  | bl b=>cases rx; exact SeqAt.EqAt.bool_bool a b
  | int b=>obtain ⟨t,rfl⟩:=rx; exact SeqAt.EqAt.bool_int a b t
  | str b=>obtain ⟨t,rfl⟩:=rx; exact SeqAt.EqAt.bool_str a b t
  | _=>exact absurd (show false=true from fx) bk3
 | int a=>
  obtain ⟨t',rfl⟩:=ry
  cases x with
  | non=>cases rx; exact SeqAt.EqAt.int_none a t'
  | bl b=>cases rx; exact SeqAt.EqAt.int_bool a t' b
  | int b=>obtain ⟨t,rfl⟩:=rx; exact SeqAt.EqAt.int_int a t' b t
  | str b=>obtain ⟨t,rfl⟩:=rx; exact SeqAt.EqAt.int_str a t' b t
  | _=>exact absurd (show false=true from fx) bk3
 | str a=>
  obtain ⟨t',rfl⟩:=ry
  cases x with
  | non=>cases rx; exact SeqAt.EqAt.str_none a t'
  | bl b=>cases rx; exact SeqAt.EqAt.str_bool a t' b
  | int b=>obtain ⟨t,rfl⟩:=rx; exact SeqAt.EqAt.str_int a t' b t
  | str b=>obtain ⟨t,rfl⟩:=rx; exact SeqAt.EqAt.str_str a t' b t
  | _=>exact absurd (show false=true from fx) bk3
 | _=>exact absurd (show false=true from fy) bk3
noncomputable def fX (x:V) (u:Value):Bool:=match u with
 | .none=>iH .non x
 | .bool b=>iH (.bl b) x
 | .int i _=>iH (.int i) x
 | .str z _=>iH (.str z) x
 | _=>false
theorem G6 {x y:V}{u:Value} (r:aZ y u) (f:jK y=true):fX x u=iH y x:=by
 cases y with
 | non=>cases r; rfl
 | bl b=>cases r; rfl
 | int i=>obtain ⟨t,rfl⟩:=r; rfl
 | str z=>obtain ⟨t,rfl⟩:=r; rfl
 | _=>exact absurd (show false=true from f) bk3
theorem oW {x:V}:∀ {xs:List V}{us:List Value},aO xs us->xs.all jK=true->us.any (fX x)=xs.any fun y=>iH y x
 | _,_,.nil,_=>rfl
 | y :: xs,u :: us,.cons r t,f=>by
  rw [List.all_cons,bm2] at f
  rw [bv9,bv9,G6 r f.1,oW t f.2]
theorem oX {A:Around}{s:Shared}{x:V}{v:Value} (rx:aZ x v) (fx:jK x=true):∀ {xs:List V}{us:List Value},aO xs us->xs.all jK=true->∀ u ∈ us,SeqAt.EqAt A s u v (fX x u)
 | _,_,.nil,_=>fun u hu=>by cases hu
 | y :: xs,u :: us,.cons r t,f=>fun u' hu=>by
  rw [List.all_cons,bm2] at f
  rcases bj1.mp hu with rfl | hu
  ·rw [G6 r f.1]; exact as9 r rx f.1 fx
  ·exact oX rx fx t f.2 u' hu
noncomputable def oY (x:V) (xs:List V):Bool:=xs.any fun y=>iH y x
noncomputable def vG (K:PySem.W.Frag) (neg:Bool):R2:=fun x y H Q=>∃ p xs,y = .ref p/\(aM K H p xs ∨ aJ K H p xs)/\jK x=true/\xs.all jK=true/\Q (.bl (if neg then !oY x xs else oY x xs)) H
theorem at0:c9 X (compareOp .In) (vG X.K false):=by
 intro pins s σ H x y v u Q I rx ry h
 obtain ⟨p,xs,rfl,hq,fx,fs,q⟩:=h
 cases ry
 rcases hq with hq | hq
 ·obtain ⟨its,r,pl,hz⟩:=I.list hq
  refine SeqAt.in_listAt (fX x) pl.isList (fun w hw=>oX rx fx r fs w (by simpa using hw)) ⟨.bl _,H,I,rfl,?_⟩
  rw [show its.toArray.any (fX x)=its.any (fX x) by simp,oW r fs]
  exact q
 ·obtain ⟨its,r,pl,hz⟩:=I.tuple hq
  refine SeqAt.in_tupleAt (fX x) pl (fun w hw=>oX rx fx r fs w (by simpa using hw)) ⟨.bl _,H,I,rfl,?_⟩
  rw [show its.toArray.any (fX x)=its.any (fX x) by simp,oW r fs]
  exact q
theorem at2:c9 X (compareOp .NotIn) (vG X.K true):=by
 intro pins s σ H x y v u Q I rx ry h
 obtain ⟨p,xs,rfl,hq,fx,fs,q⟩:=h
 cases ry
 rcases hq with hq | hq
 ·obtain ⟨its,r,pl,hz⟩:=I.list hq
  refine SeqAt.notIn_listAt (fX x) pl.isList (fun w hw=>oX rx fx r fs w (by simpa using hw)) ⟨.bl _,H,I,rfl,?_⟩
  rw [show its.toArray.any (fX x)=its.any (fX x) by simp,oW r fs]
  exact q
 ·obtain ⟨its,r,pl,hz⟩:=I.tuple hq
  refine SeqAt.notIn_tupleAt (fX x) pl (fun w hw=>oX rx fx r fs w (by simpa using hw)) ⟨.bl _,H,I,rfl,?_⟩
  rw [show its.toArray.any (fX x)=its.any (fX x) by simp,oW r fs]
  exact q
theorem at3:cX X (.builtin "len") (fun xs H Q=>∃ p ys,xs = [.ref p]/\(aM X.K H p ys ∨ aJ X.K H p ys)/\Q (.int ys.length) H):=by
 intro pins s σ H xs us Q I r h
 obtain ⟨p,ys,rfl,hq,q⟩:=h
 obtain ⟨u,rfl,rx⟩:=hZ r
 cases rx
 have hn:=mO
 rcases hq with hq | hq
 ·obtain ⟨its,r',pl,hz⟩:=I.list hq
  have hlen:=r'.length
  exact Calls.call_len_list pl.isList (by simp only [bh9] <;> omega) ⟨.int ys.length,H,I.tok _,⟨s.toks+1,by rw [bh9,hlen]⟩,q⟩
 ·obtain ⟨its,r',pl,hz⟩:=I.tuple hq
  have hlen:=r'.length
  exact len_tuple pl (by simp only [bh9] <;> omega) ⟨.int ys.length,H,I.tok _,⟨s.toks+1,by rw [bh9,hlen]⟩,q⟩
theorem cX.or {f:Value}{r r':List V->Hp->VK->Prop} (h:cX X f r) (h':cX X f r'):cX X f (fun xs H Q=>r xs H Q ∨ r' xs H Q):=by
 intro pins s σ H xs us Q I rs q
 rcases q with q | q
 ·exact h pins s σ H xs us Q I rs q
 ·exact h' pins s σ H xs us Q I rs q
theorem at5:cX X (.type "list") (fun xs H Q=>∃ p ys,xs = [.ref p]/\(aM X.K H p ys ∨ aJ X.K H p ys)/\∀ l,H l=none->Q (.ref l) (upd H l (.lst ys))):=by
 intro pins s σ H xs us Q I r h
 obtain ⟨p,ys,rfl,hq,q⟩:=h
 obtain ⟨u,rfl,rx⟩:=hZ r
 cases rx
 have fin:∀ (its:List Value),aO ys its->ys.length<=sizeLine->∀ (h':Heap) (c':Nat),(∀ b o',s.heap.get? b=some o'->h'.get? b=some o')->
   h'.get? s.heap.objs.size=some { cls:=.type "list",dict:=none,data:=.seq its.toArray c',slots:=#[] }->EP X pins σ Q (.ref s.heap.objs.size) { s with heap:=h' }:=fun its r' hz h' c' kp e=>
  ⟨.ref s.heap.objs.size,_,I.laid (t':=s.toks) kp (bi8 _) (show bW X.prog X.w _ h' _ (.lst ys) from ⟨hz,its,c',r',e⟩),rfl,q _ (I.hok.fresh (bi8 _))⟩
 rcases hq with hq | hq
 ·obtain ⟨its,r',pl,hz⟩:=I.list hq
  have hlen:=r'.length
  obtain ⟨o,ho,hc,n,hd⟩:=pl.isList
  exact call_list_seq p (.inl rfl) ho hc hd (fun h' c' kp e=>fin its r' hz h' c' kp e) (by simp only [bh9] <;> omega)
 ·obtain ⟨its,r',pl,hz⟩:=I.tuple hq
  have hlen:=r'.length
  obtain ⟨o,ho,hc,n,hd⟩:=pl
  exact call_list_seq p (.inr rfl) ho hc hd (fun h' c' kp e=>fin its r' hz h' c' kp e) (by simp only [bh9] <;> omega)
theorem at6:cX X (.type "tuple") (fun xs H Q=>∃ p ys,xs = [.ref p]/\((aM X.K H p ys/\∀ l,H l=none->Q (.ref l) (upd H l (.tup ys))) ∨ (aJ X.K H p ys/\Q (.ref p) H))):=by
 intro pins s σ H xs us Q I r h
 obtain ⟨p,ys,rfl,h⟩:=h
 obtain ⟨u,rfl,rx⟩:=hZ r
 cases rx
 rcases h with ⟨hq,q⟩ | ⟨hq,q⟩
 ·obtain ⟨its,r',pl,hz⟩:=I.list hq
  have hlen:=r'.length
  refine call_tuple_list pl.isList (fun h' kp=>?_) (by simp only [bh9] <;> omega)
  have I1:a8 X pins σ H { s with heap:=h' }:=I.kept (t':=s.toks) kp
  have I2:a8 X pins σ (upd H h'.objs.size (.tup ys)) { s with heap:=h'.push { cls:=.type "tuple",data:=.seq its.toArray } }:=
   I1.laid (t':=s.toks) (fun b o e=>bi1 _ e) (bi8 _) (show bW X.prog X.w _ _ _ (.tup ys) from ⟨hz,its,r',IsTup.new _ _,iV.new _ _ rfl⟩)
  exact⟨.ref h'.objs.size,_,I2,rfl,q _ (I1.hok.fresh (bi8 _))⟩
 ·obtain ⟨its,r',pl,hz⟩:=I.tuple hq
  exact call_tuple_same pl ⟨.ref p,H,I,rfl,q⟩
noncomputable def i5 (K:PySem.W.Frag) (T:String) (x:V) (H:Hp):Prop:=match x with
 | .str _=>T="str"
 | .int _=>T="int"
 | .ref p=>(T="list"/\∃ xs,aM K H p xs) ∨ (T="tuple"/\∃ o,K.lookup p=some o/\o.cls = .type "tuple"/\o.dict=none) ∨
   (T="dict"/\((∃ kvs,H p=some (.dK kvs)) ∨ ∃ kvs,H p=some (.dT kvs))) ∨ (T="set"/\∃ S n,H p=some (.set S n))
 | _=>False
theorem G7 {pins:List (Addr × Obj)}{σ:St}{H:Hp}{s:Shared}{T:String}{x:V}{v:Value} (I:a8 X pins σ H s) (r:aZ x v) (ty:i5 X.K T x H) :
  s.TypeIs v T/\∀ a,v = .ref a->∃ ob,s.heap.get? a=some ob/\ob.dict=none:=by
 cases x with
 | str z=>
  obtain ⟨t,rfl⟩:=r
  cases (show T="str" from ty)
  exact⟨typeIs_str s z t,fun _ e=>nomatch e⟩
 | int i=>
  obtain ⟨t,rfl⟩:=r
  cases (show T="int" from ty)
  exact⟨typeIs_int s i t,fun _ e=>nomatch e⟩
 | ref p=>
  cases r
  rcases ty with ⟨rfl,xs,hq⟩ | ⟨rfl,o,hk,hc,hd⟩ | ⟨rfl,hk⟩ | ⟨rfl,S,n,hk⟩
  ·obtain ⟨its,_,pl,_⟩:=I.list hq
   refine⟨pl.isList.typeIs,fun a e=>?_⟩
   cases e
   obtain ⟨o,n,e,c,hd,_⟩:=pl
   exact⟨o,e,hd⟩
  ·refine⟨⟨o,I.kIn p o hk,hc⟩,fun a e=>?_⟩
   cases e
   exact⟨o,I.kIn _ o hk,hd⟩
  ·have z:∃ o,s.heap.get? p=some o/\o.ExactDict:=by
    rcases hk with ⟨kvs,hk⟩ | ⟨kvs,hk⟩
    ·obtain ⟨_,_,_,_,o,_,_,e,ex,_⟩:=I.hok p _ hk
     exact⟨o,e,ex⟩
    ·obtain ⟨_,_,_,_,o,_,_,e,ex,_⟩:=I.hok p _ hk
     exact⟨o,e,ex⟩
   obtain ⟨o,e,ex⟩:=z
   refine⟨⟨o,e,ex.1⟩,fun a e2=>?_⟩
   cases e2
   exact⟨o,e,ex.2.1⟩
  ·obtain ⟨o,_,_,_,e,ex,_⟩:=I.hok p _ hk
   refine⟨⟨o,e,ex.1⟩,fun a e2=>?_⟩
   cases e2
   exact⟨o,e,ex.2.1⟩
 | _=>exact False.elim ty
noncomputable def G8 (K:PySem.W.Frag) (T:String) (r:V->List V->Hp->VK->Prop) (to:TE):TE:=fun σ H Q=>to σ H fun x H1=>i5 K T x H1/\r x [] H1 Q
noncomputable def oZ (K:PySem.W.Frag) (T:String) (r:V->List V->Hp->VK->Prop) (to:TE) (t:TA):TE:=fun σ H Q=>to σ H fun x H1=>i5 K T x H1/\t σ H1 fun xs H2=>r x xs H2 Q
variable {o e : Expr} {es : List Expr} {to : TE} {t : TA} {name : Str} {apos cpos : Pos} {T id : String} {r : V → List V → Hp → VK → Prop}
theorem at7 (pa:PlainAttrs T) (slot:Slot T name id) (hty:typeOf (.builtin id)=pure (.type "method_descriptor")) (hm:F9 X id r) (ho:PE X o to)
  (hbase:attributeBase o name X.env (eval o X.env)=eval o X.env:=by rfl) (hline:(apos.endLine == cpos.line)=true:=by rfl):PE X (.Call (.Attribute o name apos) [] [] cpos) (G8 X.K T r to):=by
 intro pins s σ H Q I h
 refine wpAny_Call_method0_late hbase hline (aQ (ho pins s σ H _ I h) fun v s1 ⟨x,H1,I1,r1,ty,q1⟩=>?_)
 obtain ⟨h1,h2⟩:=G7 I1 r1 ty
 exact⟨T,id,pa,slot,hty,h1,h2,Calls.callWith_builtin rfl (PySem.evalArgs_none (hm pins s1 σ H1 x [] v [] Q I1 r1 .nil q1))⟩
theorem kN (pa:PlainAttrs T) (slot:Slot T name id) (hty:typeOf (.builtin id)=pure (.type "method_descriptor")) (hm:F9 X id r) (ho:PE X o to) (ha:PA X (e :: es) t)
  (hbase:attributeBase o name X.env (eval o X.env)=eval o X.env:=by rfl)
  (hfew:((backTo cpos (starEach (e :: es) X.env)).all (fun x=>!x.1) && (backToKw cpos (keywordEach [] X.env)).all (fun x=>x.1.isSome)
   && decide ((e :: es).length+([]:List Keyword).length+(if ([]:List Keyword).isEmpty then 0 else 1) < 30))=true:=by rfl)
  (hline:(apos.endLine == cpos.line)=true:=by rfl) (hs:starEach (e :: es) X.env=(false,eval e X.env) :: starEach es X.env:=by rfl) (hplain:(backTo cpos (starEach es X.env)).any (·.1)=false:=by rfl) :
  PE X (.Call (.Attribute o name apos) (e :: es) [] cpos) (oZ X.K T r to t):=by
 intro pins s σ H Q I h
 refine wpAny_Call_method_late hbase hfew hline rfl (aQ (ho pins s σ H _ I h) fun v s1 ⟨x,H1,I1,r1,ty,q1⟩=>?_)
 obtain ⟨h1,h2⟩:=G7 I1 r1 ty
 refine⟨T,id,pa,slot,hty,h1,h2,?_⟩
 have hA:=ha cpos pins s1 σ H1 _ I1 q1
 rw [hs] at hA ⊢
 refine Calls.callWith_builtin (by show (false || (backTo cpos (starEach es X.env)).any (·.1))=false; rw [hplain] <;> rfl) (Calls.evalArgs_plain ?_)
 exact aQ hA fun us s2 ⟨vs,H2,I2,r2,q2⟩=>hm pins s2 σ H2 x vs v us Q I2 r1 r2 q2
end
noncomputable def mR (X:Cx) (id:String) (r:V->List V->Hp->VK->Prop):Prop:=
 ∀ (pins:List (Addr × Obj)) (s:Shared) (σ:St) (H:Hp) (x:V) (xs:List V) (v:Value) (us:List Value) (Q:VK),a8 X pins σ H s->aZ x v->aO xs us->r x xs H Q->
  wpAny (model X.prog X.w) X.A (call (.builtin id) (v :: us)) (EP X pins σ Q) X.xe s
theorem aO.one {x:V}{us:List Value} (h:aO [x] us):∃ u,us = [u]/\aZ x u:=by
 cases h with
 | cons r t=>
  cases t
  exact⟨_,rfl,r⟩
theorem aO.two {x y:V}{us:List Value} (h:aO [x,y] us):∃ u v,us = [u,v]/\aZ x u/\aZ y v:=by
 cases h with
 | cons r t=>
  cases t with
  | cons q t=>
   cases t
   exact⟨_,_,rfl,r,q⟩
theorem aO.zero:∀ {us:List Value},aO [] us->us = []
 | _,.nil=>rfl
theorem aO.dropLast {xs:List V}{us:List Value} (h:aO xs us):aO xs.dropLast us.dropLast:=by
 induction h with
 | nil=>exact .nil
 | cons r t ih=>
  cases t with
  | nil=>exact .nil
  | cons q t'=>exact .cons r ih
theorem aO.rep {xs:List V}{us:List Value} (h:aO xs us):∀ k:Nat,aO (List.replicate k xs).flatten (List.replicate k us).flatten
 | 0=>.nil
 | k+1=>by
  rw [bn1,bn1,bs7,bs7]
  exact aO.append h (aO.rep h k)
theorem at8 {α:Type} (l:List α):l.eraseIdx (l.length - 1)=l.dropLast:=by
 induction l with
 | nil=>rfl
 | cons a r ih=>
  cases r with
  | nil=>rfl
  | cons b r=>
   have e:(a :: b :: r).length - 1=((b :: r).length - 1)+1:=by
    have h1:(a :: b :: r).length=r.length+2:=rfl
    have h2:(b :: r).length=r.length+1:=rfl
    omega
   rw [e,List.eraseIdx_cons_succ,ih]
   all_goals rfl
theorem G9 (its:List Value):∀ (k:Nat) (acc:List Value),
  List.foldl (fun x1 x2=>x1 ++ x2) acc.toArray (List.replicate k its.toArray)=(acc ++ (List.replicate k its).flatten).toArray
 | 0,acc=>by simp
 | k+1,acc=>by
  have e:acc.toArray ++ its.toArray=(acc ++ its).toArray:=by simp
  have e2:(acc ++ its) ++ (List.replicate k its).flatten=acc ++ (List.replicate (k+1) its).flatten:=by
   rw [bn1,bs7,List.append_assoc]
  rw [<- e2,<- G9 its k (acc ++ its),<- e,bn1,List.foldl_cons]
section
variable {X : Cx} {pins : List (Addr × Obj)} {σ : St} {H : Hp} {s : Shared} {l b : Addr} {xs ys zs : List V}
theorem a8.lset {its its':List Value}{n:Nat}{f:Array Value->Array Value}{t':Nat} (I:a8 X pins σ H s) (hH:H l=some (.lst xs))
  (e:s.heap.get? l=some { cls:=.type "list",data:=.seq its.toArray n }) (hf:f its.toArray=its'.toArray) (hv:aO ys its') (hz:ys.length<=sizeLine) :
  a8 X pins σ (upd H l (.lst ys)) { s with heap:=s.heap.update l (Obj.mapSeq f),toks:=t' }:=by
 have q:=PySem.IsL.update e f
 rw [hf] at q
 refine I.write (x:=l) (e:=l) (by rw [hH]; exact trivial) (.inl rfl) (fun b' u hb hu=>(Heap.get?_update_other s.heap (Obj.mapSeq f) (Ne.symm hb)).trans hu) ⟨_,q⟩ ?_
 exact⟨hz,its',_,hv,q⟩
theorem a8.lnew {its:List Value}{t':Nat} (I:a8 X pins σ H s) (hv:aO ys its) (hz:ys.length<=sizeLine) :
  a8 X pins σ (upd H s.heap.objs.size (.lst ys)) { s with heap:=s.heap.push { cls:=.type "list",data:=.seq its.toArray },toks:=t' }:=
 I.laid (fun _ _ q=>bi1 _ q) (bi8 _) ⟨hz,its,0,hv,bk0 _ rfl⟩
theorem a8.fresh (I:a8 X pins σ H s):H s.heap.objs.size=none:=I.hok.fresh (bi8 _)
theorem a8.lstM (I:a8 X pins σ H s) (hH:H l=some (.lst xs)):xs.length<=sizeLine/\∃ (its:List Value) (n:Nat),aO xs its/\xs.length=its.length/\s.heap.get? l=some { cls:=.type "list",data:=.seq its.toArray n }:=by
 obtain ⟨z,its,n,r,e⟩:=I.hok l _ hH
 exact⟨z,its,n,r,r.length,e⟩
theorem vH {n:Nat} (h:n<=sizeLine):Builtin.List.listTooLong n=false:=by
 unfold Builtin.List.listTooLong
 exact bj5 (by omega)
end
section
variable {X : Cx}
noncomputable def vI:V->List V->Hp->VK->Prop:=fun x vs H Q=>∃ l xs y,x = .ref l/\vs = [y]/\H l=some (.lst xs)/\xs.length < sizeLine/\Q .non (upd H l (.lst (xs ++ [y])))
theorem lN:mR X "list.append" vI:=by
 intro pins s σ H x vs v us Q I rx rv h
 obtain ⟨l,xs,y,rfl,rfl,hH,hz,q⟩:=h
 cases rx
 obtain ⟨u,rfl,ru⟩:=rv.one
 obtain ⟨z,its,n,r,hl,e⟩:=I.lstM hH
 refine call_meets F.slot_list_append ⟨_,e,rfl⟩ F.entry_list_append (F.args_list_append_2 _ _) (PySem.list_append l its.toArray n u (by rw [bh9]; omega)) ⟨e,?_⟩
 refine⟨.non,_,I.lset (its':=its ++ [u]) hH e (by simp) (r.append (.cons ru .nil)) ?_,rfl,q⟩
 rw [bj4,bm8]
 omega
noncomputable def J0:V->List V->Hp->VK->Prop:=fun x vs H Q=>∃ l b xs zs,x = .ref l/\vs = [.ref b]/\H l=some (.lst xs)/\H b=some (.lst zs)/\xs.length+zs.length<=sizeLine/\Q .non (upd H l (.lst (xs ++ zs)))
theorem at9:mR X "list.extend" J0:=by
 intro pins s σ H x vs v us Q I rx rv h
 obtain ⟨l,b,xs,zs,rfl,rfl,hH,hB,hz,q⟩:=h
 cases rx
 obtain ⟨u,rfl,ru⟩:=rv.one
 cases ru
 obtain ⟨z,its,n,r,hl,e⟩:=I.lstM hH
 obtain ⟨z2,its2,n2,r2,hl2,e2⟩:=I.lstM hB
 have hsz:its.toArray.size+its2.toArray.size<=sizeLine:=by rw [bh9,bh9]; omega
 have hlong : ¬ (!its.toArray.isEmpty && Builtin.List.listTooLong (its.toArray.size+its2.toArray.size))=true:=by
  rw [vH hsz,bu0]
  exact bk3
 refine call_meets F.slot_list_extend ⟨_,e,rfl⟩ F.entry_list_extend (F.args_list_extend_2 _ _)
  (AutoSeq1.list_extend_list_list_0 l its.toArray n b its2.toArray n2 hlong (by rw [bh9]; omega) (by omega)) ⟨e,e2,?_⟩
 refine⟨.non,_,I.lset (its':=its ++ its2) hH e (by simp) (r.append r2) ?_,rfl,q⟩
 rw [bj4]
 omega
noncomputable def J1:V->List V->Hp->VK->Prop:=fun x vs H Q=>∃ l xs y,x = .ref l/\vs = []/\H l=some (.lst xs)/\xs[xs.length - 1]? = some y/\Q y (upd H l (.lst xs.dropLast))
theorem au0:mR X "list.pop" J1:=by
 intro pins s σ H x vs v us Q I rx rv h
 obtain ⟨l,xs,y,rfl,rfl,hH,hy,q⟩:=h
 cases rx
 have hus:=rv.zero
 subst hus
 obtain ⟨z,its,n,r,hl,e⟩:=I.lstM hH
 obtain ⟨u,hu,ru⟩:=r.get hy
 have hy':its.toArray[its.toArray.size - 1]? = some u:=by
  show its.toArray[its.length - 1]? = some u
  rw [<- Array.getElem?_toList,<- hl]
  exact hu
 refine call_meets F.slot_list_pop ⟨_,e,rfl⟩ F.entry_list_pop (F.args_list_pop_1 _) (MeetsSeq.list_pop_last l its.toArray n u hy' (by rw [bh9]; omega)) ⟨e,?_⟩
 refine⟨y,_,I.lset (its':=its.dropLast) hH e ?_ r.dropLast ?_,ru,q⟩
 ·show its.toArray.eraseIdxIfInBounds (its.toArray.size - 1)=its.dropLast.toArray
  rw [bh9,List.eraseIdxIfInBounds_toArray,at8]
 ·rw [List.length_dropLast]
  omega
noncomputable def vJ:R2:=fun x y H Q=>∃ l b xs zs,x = .ref l/\y = .ref b/\H l=some (.lst xs)/\H b=some (.lst zs)/\xs.length+zs.length<=sizeLine/\∀ p,H p=none->Q (.ref p) (upd H p (.lst (xs ++ zs)))
theorem J2:c9 X (binaryOp .Add) vJ:=by
 intro pins s σ H x y v u Q I rx ry h
 obtain ⟨l,b,xs,zs,rfl,rfl,hH,hB,hz,q⟩:=h
 cases rx
 cases ry
 obtain ⟨z,its,n,r,hl,e⟩:=I.lstM hH
 obtain ⟨z2,its2,n2,r2,hl2,e2⟩:=I.lstM hB
 refine PySem.P.add_list e e2 ?_ (by rw [bh9,bh9]; omega)
 have ea:its.toArray ++ its2.toArray=(its ++ its2).toArray:=by simp
 rw [ea]
 exact⟨.ref _,_,I.lnew (t':=s.toks) (r.append r2) (by rw [bj4]; omega),rfl,q _ I.fresh⟩
noncomputable def J3:R2:=fun x y H Q=>∃ l k xs,x = .ref l/\y = .int k/\H l=some (.lst xs)/\-(2 ^ 63)<=k/\k < 2 ^ 63/\xs.length * k.toNat<=sizeLine/\
 ∀ p,H p=none->Q (.ref p) (upd H p (.lst (List.replicate k.toNat xs).flatten))
theorem au1 {α:Type} (xs:List α) (k:Nat):(List.replicate k xs).flatten.length=k * xs.length:=by
 induction k with
 | zero=>simp
 | succ k ih=>rw [bn1,bs7,bj4,ih,Nat.succ_mul,Nat.add_comm]
theorem au2:c9 X (binaryOp .Mult) J3:=by
 intro pins s σ H x y v u Q I rx ry h
 obtain ⟨l,k,xs,rfl,rfl,hH,h1,h2,hz,q⟩:=h
 cases rx
 obtain ⟨t,rfl⟩:=ry
 obtain ⟨z,its,n,r,hl,e⟩:=I.lstM hH
 have hlen:its.toArray.size * k.toNat<=sizeLine:=by rw [bh9,<- hl]; exact hz
 have hcap : ¬ its.toArray.size * k.toNat > (2 ^ 63 - 1) / 8:=by
  have:(sizeLine:Nat)<=(2 ^ 63 - 1) / 8:=by decide
  omega
 have hfit : ¬ (!Builtin.List.listFitsIndex k)=true:=by
  rw [fitsIndex_both h1 h2]
  exact bk3
 have hlong : ¬ Builtin.List.listTooLong (its.toArray.size * k.toNat)=true:=by
  rw [vH hlen]
  exact bk3
 have hnew:List.foldl (fun x1 x2=>x1 ++ x2) #[] (List.replicate (if its.toArray.isEmpty=true then 0 else k.toNat) its.toArray)=(List.replicate k.toNat its).flatten.toArray:=by
  have f0:∀ m:Nat,List.foldl (fun x1 x2=>x1 ++ x2) #[] (List.replicate m its.toArray)=(List.replicate m its).flatten.toArray:=fun m=>by
   have:=G9 its m []
   rw [List.nil_append] at this
   exact this
  rw [f0]
  cases its with
  | nil=>simp
  | cons a r'=>rw [if_neg (by simp)]
 refine wpAny_binaryOp_repeat_ref (T:="list") (U:="int") (by decide) ⟨_,e,rfl⟩ (fun s'=>typeIs_int s' k t) noFill_list_mul F.fills_int_mul F.slot_int_rmul repeat_list F.slot_int_index.lookup
  (call_meets F.slot_int_rmul (typeIs_int s k t) F.entry_int_rmul (F.args_int_rmul_2 _ _) (int___rmul___int_list k t l its.toArray n)
   ⟨e,rfl,⟨_,e,rfl⟩,call_meets F.slot_list_mul ⟨_,e,rfl⟩ F.entry_list_mul (F.args_list_mul_2 _ _) (AutoListH.list___mul___list_int_3 l its.toArray n k t hfit hcap hlong) ⟨e,?_⟩⟩)
 rw [hnew]
 exact⟨.ref _,_,I.lnew (t':=s.toks) (r.rep k.toNat) (by rw [au1,Nat.mul_comm]; exact hz),rfl,q _ I.fresh⟩
end
section
variable {κ : Type} [DecidableEq κ]
noncomputable def fY (kvs:List (κ × V)) (k:κ):Option V:=(kvs.find? fun kv=>decide (kv.1=k)).map (·.2)
noncomputable def eR (kvs:List (κ × V)) (k:κ) (v:V):List (κ × V):=
 if (kvs.any fun kv=>decide (kv.1=k))=true then kvs.map (fun kv=>if kv.1=k then (kv.1,v) else kv) else kvs ++ [(k,v)]
theorem vK {p:κ × V}{r:List (κ × V)}{k:κ} (e:p.1=k):fY (p :: r) k=some p.2:=by simp [fY,bt4,e]
theorem vL {p:κ × V}{r:List (κ × V)}{k:κ} (e : ¬ p.1=k):fY (p :: r) k=fY r k:=by simp [fY,bt4,e]
theorem J4 (k:κ):∀ kvs:List (κ × V),(kvs.any fun kv=>decide (kv.1=k))=(fY kvs k).isSome
 | []=>rfl
 | p :: r=>by
  rw [bv9]
  by_cases e:p.1=k
  ·simp only [vK e,bi6 e,Bool.true_or,Option.isSome_some]
  ·rw [vL e,bj5 e,Bool.false_or]; exact J4 k r
theorem vM (kvs:List (κ × V)) (k:κ) (v:V):(eR kvs k v).length<=kvs.length+1:=by
 unfold eR
 split
 ·rw [bi4]; omega
 ·rw [bj4,bk9,List.length_nil]; omega
theorem lH.isSome_eq {o:Option V}{u:Option Value} (r:lH o u):o.isSome=u.isSome:=by
 cases o with
 | none=>cases u with
  | none=>rfl
  | some _=>exact (show False from r).elim
 | some _=>cases u with
  | none=>exact (show False from r).elim
  | some _=>rfl
theorem KV.val {kvs:List (κ × V)}{vs:List (κ × Value)} (r:KV kvs vs) (k:κ):lH (fY kvs k) (valueAt vs k):=by
 unfold KV at r
 induction r with
 | nil=>exact bx2
 | @cons p q ps qs h t ih=>
  obtain ⟨h1,h2⟩:=h
  by_cases e:p.1=k
  ·have e':q.1=k:=h1.symm.trans e
   have b:valueAt (q :: qs) k=some q.2:=by simp [valueAt,bt4,e']
   rw [vK e,b]; exact h2
  ·have e' : ¬ q.1=k:=fun z=>e (h1.trans z)
   have b:valueAt (q :: qs) k=valueAt qs k:=by simp [valueAt,bt4,e']
   rw [vL e,b]; exact ih
theorem KV.any {kvs:List (κ × V)}{vs:List (κ × Value)} (r:KV kvs vs) (k:κ):(kvs.any fun kv=>decide (kv.1=k))=vs.any fun kv=>decide (kv.1=k):=by
 unfold KV at r
 induction r with
 | nil=>rfl
 | cons h t ih=>rw [bv9,bv9,ih,h.1]
theorem KV.repl {kvs:List (κ × V)}{vs:List (κ × Value)} (r:KV kvs vs) (k:κ) {y:V}{u:Value} (ry:aZ y u) :
  KV (kvs.map fun kv=>if kv.1=k then (kv.1,y) else kv) (vs.map fun kv=>if kv.1=k then (kv.1,u) else kv):=by
 unfold KV at r ⊢
 induction r with
 | nil=>exact .nil
 | @cons p q ps qs h t ih=>
  rw [bm0,bm0]
  refine .cons ?_ ih
  obtain ⟨h1,h2⟩:=h
  by_cases e:p.1=k
  ·rw [if_pos e,if_pos (h1.symm.trans e)]; exact⟨h1,ry⟩
  ·rw [if_neg e,if_neg (fun z=>e (h1.trans z))]; exact⟨h1,h2⟩
theorem KV.put {kvs:List (κ × V)}{vs:List (κ × Value)} (r:KV kvs vs) (k:κ) {y:V}{u:Value} (ry:aZ y u):KV (eR kvs k y) (stored vs k u):=by
 unfold eR stored
 rw [r.any k]
 by_cases e:(vs.any fun kv=>decide (kv.1=k))=true
 ·rw [if_pos e,if_pos e]; exact r.repl k ry
 ·rw [if_neg e,if_neg e]; exact Paired.snoc r ⟨rfl,ry⟩
theorem KV.length {kvs:List (κ × V)}{vs:List (κ × Value)} (r:KV kvs vs):kvs.length=vs.length:=Paired.length r
end
theorem p5 {P:Program}{w:World}{k:aH}{u:Value} (r:aZ (kV k) u):(fF P w).is k u=true:=by
 cases k with
 | inl i=>obtain ⟨t,e⟩:=(show ∃ t,u=Value.int i t from r); subst e; exact al1 P w i t
 | inr x=>obtain ⟨t,e⟩:=(show ∃ t,u=Value.str x t from r); subst e; exact al2 P w x t
theorem J5 {P:Program}{w:World}:∀ {ks:List aH}{us:List Value},aO (ks.map kV) us->ItemsAre (fF P w) ks us
 | [],_,r=>by rw [List.map_nil] at r; cases r; exact .nil
 | k :: ks,_,r=>by
  rw [bm0] at r
  cases r with
  | cons h t=>exact .cons (p5 h) (J5 t)
noncomputable abbrev KT (H:Hp):List (List aH × V)->List (List aH × Addr × Value)->Prop:=Paired fun p q=>p.1=q.1/\H q.2.1=some (.tup (p.1.map kV))/\aZ p.2 q.2.2
theorem KT.val {H:Hp}{kvs:List (List aH × V)}{xs:List (List aH × Addr × Value)} (r:KT H kvs xs) (k:List aH):lH (fY kvs k) ((atKey xs k).map (·.2)):=by
 induction r with
 | nil=>exact bx2
 | @cons p q ps qs h t ih=>
  obtain ⟨h1,_,h2⟩:=h
  by_cases e:p.1=k
  ·have e':q.1=k:=h1.symm.trans e
   have b:atKey (q :: qs) k=some q.2:=by simp [atKey,bt4,e']
   rw [vK e,b]; exact h2
  ·have e' : ¬ q.1=k:=fun z=>e (h1.trans z)
   have b:atKey (q :: qs) k=atKey qs k:=by simp [atKey,bt4,e']
   rw [vL e,b]; exact ih
theorem KT.repl {H:Hp}{kvs:List (List aH × V)}{xs:List (List aH × Addr × Value)} (r:KT H kvs xs) (k:List aH) {y:V}{u:Value} (ry:aZ y u) :
  KT H (kvs.map fun kv=>if kv.1=k then (kv.1,y) else kv) (xs.map (putAt k u)):=by
 induction r with
 | nil=>exact .nil
 | @cons p q ps qs h t ih=>
  rw [bm0,bm0]
  refine .cons ?_ ih
  obtain ⟨h1,h2,h3⟩:=h
  unfold putAt
  by_cases e:p.1=k
  ·rw [if_pos e,if_pos (h1.symm.trans e)]; exact⟨h1,h2,ry⟩
  ·rw [if_neg e,if_neg (fun z=>e (h1.trans z))]; exact⟨h1,h2,h3⟩
theorem KT.put {H:Hp}{kvs:List (List aH × V)}{xs:List (List aH × Addr × Value)} (r:KT H kvs xs) (k:List aH) {b:Addr}{y:V}{u:Value} (hb:H b=some (.tup (k.map kV))) (ry:aZ y u) :
  KT H (eR kvs k y) (storedH xs k b u):=by
 have e:(kvs.any fun kv=>decide (kv.1=k))=(atKey xs k).isSome:=by
  rw [J4,(r.val k).isSome_eq,Option.isSome_map]
 unfold eR storedH
 rw [e]
 by_cases q:(atKey xs k).isSome=true
 ·rw [if_pos q,if_pos q]; exact r.repl k ry
 ·rw [if_neg q,if_neg q]; exact Paired.snoc r ⟨rfl,hb,ry⟩
theorem KT.keeps {H H':Hp}{kvs:List (List aH × V)}{xs:List (List aH × Addr × Value)} (r:KT H kvs xs) (ht:∀ b ys,H b=some (.tup ys)->H' b=some (.tup ys)):KT H' kvs xs:=
 Paired.mapP r fun _ _ z=>⟨z.1,ht _ _ z.2.1,z.2.2⟩
section
variable {P : Program} {w : World} {H : Hp} {h : Heap} {a : Addr}
theorem J6 {u:HO} (ok:bZ P w H h) (e:Rd H a u):bW P w H h a u:=e.ok ok
theorem rG {kvs:List (aH × V)} (ok:bZ P w H h) (e:Rd H a (.dK kvs)):kvs.length<=sizeLine/\(a == sysModules)=false/\∃ vs,KV kvs vs/\h.DictOf (fF P w) a vs:=
 show bW P w H h a (.dK kvs) from J6 ok e
theorem J7 {kvs:List (aH × V)} (ok:bZ P w H h) (e:H a=some (.dK kvs)):kvs.length<=sizeLine/\(a == sysModules)=false/\∃ vs,KV kvs vs/\h.DictOf (fF P w) a vs:=rG ok (.inl e)
theorem rH {ks:List aH} (ok:bZ P w H h) (e:H a=some (.tup (ks.map kV))):(tupleKind (fF P w)).is h ks a:=by
 obtain ⟨_,its,r,⟨o,h1,h2,n,h3⟩,_⟩:=(show bW P w H h a (.tup (ks.map kV)) from ok a _ e)
 exact⟨o,its.toArray,n,h1,h2,h3,by simpa using J5 r⟩
theorem vN {kvs:List (List aH × V)} (ok:bZ P w H h) (e:Rd H a (.dT kvs)):kvs.length<=sizeLine/\(a == sysModules)=false/\
  ∃ xs,KT H kvs xs/\h.DictOfH (tupleKind (fF P w)) a xs:=by
 obtain ⟨z,y,xs,r,o,es,ep,h1,h2,h3,h4,h5⟩:=(show bW P w H h a (.dT kvs) from J6 ok e)
 refine⟨z,y,xs,r,o,es,ep,h1,h2,h3,h4,fun x hx=>?_,h5⟩
 have all:∀ {l:List (List aH × V)}{m:List (List aH × Addr × Value)},KT H l m->∀ x ∈ m,(tupleKind (fF P w)).is h x.1 x.2.1:=by
  intro l m q
  induction q with
  | nil=>intro x hx; exact nomatch hx
  | @cons p q ps qs hq t ih=>
   intro x hx
   rcases bj1.mp hx with e | hx
   ·subst e
    exact rH ok (by rw [<- hq.1]; exact hq.2.1)
   ·exact ih x hx
 exact all r x hx
theorem au3 {kvs:List (List aH × V)} (ok:bZ P w H h) (e:H a=some (.dT kvs)):kvs.length<=sizeLine/\(a == sysModules)=false/\
  ∃ xs,KT H kvs xs/\h.DictOfH (tupleKind (fF P w)) a xs:=vN ok (.inl e)
end
noncomputable def iI (H:Hp) (a:Addr) (y:V) (r:Option V):Prop:=
 (∃ kvs k,Rd H a (.dK kvs)/\y=kV k/\r=fY kvs k) ∨ ∃ kvs k b,Rd H a (.dT kvs)/\y = .ref b/\H b=some (.tup (k.map kV))/\r=fY kvs k
noncomputable def p6 (H:Hp) (a:Addr) (y v:V) (H':Hp):Prop:=
 (∃ kvs k,H a=some (.dK kvs)/\y=kV k/\kvs.length < sizeLine/\H'=upd H a (.dK (eR kvs k v))) ∨
 ∃ kvs k b,H a=some (.dT kvs)/\y = .ref b/\H b=some (.tup (k.map kV))/\kvs.length < sizeLine/\H'=upd H a (.dT (eR kvs k v))
theorem iI.k {H:Hp}{a:Addr}{kvs:List (aH × V)}{k:aH} (e:H a=some (.dK kvs)):iI H a (kV k) (fY kvs k):=.inl ⟨kvs,k,.inl e,rfl,rfl⟩
theorem iI.t {H:Hp}{a b:Addr}{kvs:List (List aH × V)}{k:List aH} (e:H a=some (.dT kvs)) (eb:H b=some (.tup (k.map kV))):iI H a (.ref b) (fY kvs k):=.inr ⟨kvs,k,b,.inl e,rfl,eb,rfl⟩
theorem p6.k {H:Hp}{a:Addr}{kvs:List (aH × V)}{k:aH}{v:V} (e:H a=some (.dK kvs)) (hl:kvs.length < sizeLine):p6 H a (kV k) v (upd H a (.dK (eR kvs k v))):=.inl ⟨kvs,k,e,rfl,hl,rfl⟩
section
variable {X : Cx} {pins : List (Addr × Obj)} {σ : St} {H : Hp} {s : Shared} {a : Addr} {y v : V} {u r : Value} {o : Option V} {A : Around} {E : Value → Shared → Prop}
theorem a8.big (I:a8 X pins σ H s):sysModules < s.heap.objs.size:=by
 have h:mainGlobals < s.heap.objs.size:=(I.mod.glob.keeps I.bk).lt
 exact Nat.lt_trans (by decide) h
theorem au4 {Q:Value->Shared->Prop} (hu:A.units+1 < cLine) (I:a8 X pins σ H s) (g:iI H a y o) (ry:aZ y u) (h:∀ s',a8 X pins σ H s'->Q (.bool o.isSome) s') :
  wpAny (model X.prog X.w) A (compareOp .In u (.ref a)) Q E s:=by
 rcases g with ⟨kvs,k,e,ey,l⟩ | ⟨kvs,k,b,e,ey,eb,l⟩
 ·subst ey
  obtain ⟨z,hd,vs,rel,dd⟩:=rG I.hok e
  refine wpAny_in_of (p5 ry) hd dd.mapOf ?_
  rw [<- (rel.val k).isSome_eq,<- l]
  exact h _ (I.tok _)
 ·subst ey
  cases (show u=Value.ref b from ry)
  obtain ⟨z,hd,xs,rel,dd⟩:=vN I.hok e
  refine wpAny_in_heap (tupleKind_room_in1 hu) (rH I.hok eb) hd dd ?_
  have q:=(rel.val k).isSome_eq
  rw [Option.isSome_map] at q
  rw [<- q,<- l]
  exact h _ (I.tok _)
theorem au5 {Q:Value->Shared->Prop} (hu:A.units+1 < cLine) (I:a8 X pins σ H s) (g:iI H a y o) (ry:aZ y u) (h:∀ s',a8 X pins σ H s'->Q (.bool (!o.isSome)) s') :
  wpAny (model X.prog X.w) A (compareOp .NotIn u (.ref a)) Q E s:=by
 rcases g with ⟨kvs,k,e,ey,l⟩ | ⟨kvs,k,b,e,ey,eb,l⟩
 ·subst ey
  obtain ⟨z,hd,vs,rel,dd⟩:=rG I.hok e
  refine wpAny_notIn_of (p5 ry) hd dd.mapOf ?_
  rw [<- (rel.val k).isSome_eq,<- l]
  exact h _ (I.tok _)
 ·subst ey
  cases (show u=Value.ref b from ry)
  obtain ⟨z,hd,xs,rel,dd⟩:=vN I.hok e
  refine wpAny_notIn_heap (tupleKind_room_in1 hu) (rH I.hok eb) hd dd ?_
  have q:=(rel.val k).isSome_eq
  rw [Option.isSome_map] at q
  rw [<- q,<- l]
  exact h _ (I.tok _)
theorem vO {h':Heap}{t':Nat}{ob:HO} (I:a8 X pins σ H s) (mu:oG (H a)) (hs:Heap.SameBut a s.heap h') (he:∃ q,h'.get? a=some q) (new:bW X.prog X.w (upd H a ob) h' a ob) :
  a8 X pins σ (upd H a ob) { s with heap:=h',toks:=t' }:=
 I.write (x:=a) (e:=a) mu (.inl rfl) (fun b q hb z=>(hs.2 b hb).trans z) he new
theorem J8 {P:Program}{w:World}{H':Hp}{h':Heap}{kvs:List (aH × V)}{vs:List (aH × Value)} (z:kvs.length<=sizeLine) (hd:(a == sysModules)=false) (rel:KV kvs vs) (dd:h'.DictOf (fF P w) a vs) :
  bW P w H' h' a (.dK kvs):=⟨z,hd,vs,rel,dd⟩
theorem au6 {H':Hp}{Q:Unit->Shared->Prop} (hu:A.units+1 < cLine) (I:a8 X pins σ H s) (g:p6 H a y v H') (ry:aZ y u) (rv:aZ v r) (h:∀ s',a8 X pins σ H' s'->Q () s') :
  wpAny (model X.prog X.w) A (setItem (.ref a) u r) Q E s:=by
 rcases g with ⟨kvs,k,e,ey,l,eH⟩ | ⟨kvs,k,b,e,ey,eb,l,eH⟩
 ·subst ey eH
  obtain ⟨z,hd,vs,rel,dd⟩:=J7 I.hok e
  have hz:vs.length<=sizeLine:=by rw [<- rel.length]; exact z
  have hl:(eR kvs k v).length<=sizeLine:=by have:=vM kvs k v; omega
  refine wpAny_setItem_pairs (hsz:=hz) (p5 ry) dd fun h' dd' hs=>h _ ?_
  have he:∃ q,h'.get? a=some q:=let ⟨q,_,_,hq,_⟩:=dd'; ⟨q,hq⟩
  exact vO I (by rw [e]; exact bx2) hs he (J8 hl hd (rel.put k rv) dd')
 ·subst ey eH
  cases (show u=Value.ref b from ry)
  obtain ⟨z,hd,xs,rel,dd⟩:=au3 I.hok e
  have hz:xs.length<=sizeLine:=by rw [<- Paired.length rel]; exact z
  have hl:(eR kvs k v).length<=sizeLine:=by have:=vM kvs k v; omega
  refine wpAny_setItem_heap (hsz:=hz) (tupleKind_room_in1 hu) (rH I.hok eb) dd fun h' dd' hs=>h _ ?_
  obtain ⟨q,es,ep,hq,h2,h3,h4,_,h5⟩:=dd'
  refine vO I (by rw [e]; exact bx2) hs ⟨q,hq⟩ ⟨hl,hd,_,(rel.put k eb rv).keeps fun c ys ec=>?_,q,es,ep,hq,h2,h3,h4,h5⟩
  rw [aR (al4 ec e (fun z=>nomatch z))]
  exact ec
end
section
variable {X : Cx} {pins : List (Addr × Obj)} {σ : St} {H : Hp} {s : Shared} {a : Addr} {kvs : List (aH × V)} {k : aH} {u : Value} {A : Around} {E : Value → Shared → Prop}
theorem au7 {Q:Value->Shared->Prop} (I:a8 X pins σ H s) (e:Rd H a (.dK kvs)) (h:∀ t s',a8 X pins σ H s'->Q (.int kvs.length t) s'):wpAny (model X.prog X.w) A (call (.builtin "len") [.ref a]) Q E s:=by
 obtain ⟨z,hd,vs,rel,dd⟩:=rG I.hok e
 refine call_len_dict hd dd (by rw [<- rel.length]; rw [sizeLine_eq] at z; omega) ?_
 rw [<- rel.length]
 exact h _ _ (I.tok _)
end
noncomputable def K0 (ty td:TE):TE:=fun σ H Q=>ty σ H fun y H1=>td σ H1 fun x H2=>∃ a o,x = .ref a/\iI H2 a y o/\Q (.bl o.isSome) H2
noncomputable def K1 (ty td:TE):TE:=fun σ H Q=>ty σ H fun y H1=>td σ H1 fun x H2=>∃ a o,x = .ref a/\iI H2 a y o/\Q (.bl (!o.isSome)) H2
noncomputable def K2 (td ty tv:TE):TS:=fun D σ H=>tv σ H fun v H1=>td σ H1 fun x H2=>ty σ H2 fun y H3=>∃ a H4,x = .ref a/\p6 H3 a y v H4/\D.nx σ H4
section
variable {X : Cx} {o i e value : Expr} {pos pos' tpos : Pos} {td ty tv : TE}
theorem au8 (hu:X.A.units+1 < cLine) (hi:PE X i ty) (ho:PE X o td):PC X .In i o (K0 ty td):=by
 intro pins s σ H Q I h
 refine aQ (hi pins s σ H _ I h) fun iv s1 ⟨y,H1,I1,ry,q1⟩=>aQ (ho pins s1 σ H1 _ I1 q1) fun u s2 ⟨x,H2,I2,rx,a,ov,ex,g,q2⟩=>?_
 subst ex
 obtain rfl:u=Value.ref a:=rx
 exact au4 hu I2 g ry fun s3 I3=>⟨.bl ov.isSome,H2,I3,rfl,q2⟩
theorem au9 (hu:X.A.units+1 < cLine) (hi:PE X i ty) (ho:PE X o td):PC X .NotIn i o (K1 ty td):=by
 intro pins s σ H Q I h
 refine aQ (hi pins s σ H _ I h) fun iv s1 ⟨y,H1,I1,ry,q1⟩=>aQ (ho pins s1 σ H1 _ I1 q1) fun u s2 ⟨x,H2,I2,rx,a,ov,ex,g,q2⟩=>?_
 subst ex
 obtain rfl:u=Value.ref a:=rx
 exact au5 hu I2 g ry fun s3 I3=>⟨.bl (!ov.isSome),H2,I3,rfl,q2⟩
theorem av0 (hu:X.A.units+1 < cLine) (ho:PE X o td) (hi:PE X i ty) (hv:PE X value tv) (hs:swapsWith value (some (.Subscript o i pos')) pos.line X.env=pure false) :
  PS X (.Assign [.Subscript o i pos'] value pos) (K2 td ty tv):=by
 intro pins s σ H D I h
 refine wpAny_Assign_Subscript (aQ (hv pins s σ H _ I h) fun r s1 ⟨v,H1,I1,rv,q1⟩=>aQ (ho pins s1 σ H1 _ I1 q1) fun u s2 ⟨x,H2,I2,rx,q2⟩=>aQ (hi pins s2 σ H2 _ I2 q2) fun iv s3 ⟨y,H3,I3,ry,a,H4,ex,g,q3⟩=>?_) hs
 subst ex
 obtain rfl:u=Value.ref a:=rx
 exact au6 hu I3 g ry rv fun s4 I4=>⟨σ,H4,I4,q3⟩
end
theorem K3 {P:Program}{w:World}{H:Hp} (h:Heap) (hb:sysModules < h.objs.size):bW P w H (h.push { cls:=.type "dict",data:=.dict #[] }) h.objs.size (.dK []):=
 ⟨bm9 _,beq_eq_false_iff_ne.mpr (Ne.symm (bm1 hb)),[],.nil,Heap.DictOf.new h⟩
noncomputable def K4:TE:=fun _ H Q=>∀ p,H p=none->Q (.ref p) (upd H p (.dK []))
section
variable {X : Cx} {pos : Pos}
theorem av1:PE X (.Dict [] [] pos) K4:=fun pins s σ H Q I h=>
 wpAny_Dict_empty ⟨.ref s.heap.objs.size,_,I.laid (a:=s.heap.objs.size) (o:=.dK []) (t':=s.toks) (fun _ _ q=>bi1 _ q) (bi8 _) (K3 s.heap I.big),rfl,h _ (I.hok.fresh (bi8 _))⟩
end
noncomputable def vP:List (TE × TE)->St->Hp->(List (V × V)->Hp->Prop)->Prop
 | [],_,H,Q=>Q [] H
 | (tk,tv) :: r,σ,H,Q=>tk σ H fun x H1=>tv σ H1 fun y H2=>vP r σ H2 fun ps H3=>Q ((x,y) :: ps) H3
noncomputable abbrev VV:List (V × V)->List (Value × Value)->Prop:=Paired fun p q=>aZ p.1 q.1/\aZ p.2 q.2
noncomputable def rJ (X:Cx) (pos:Pos) (keys:List (Option Expr)) (values:List Expr) (trs:List (TE × TE)):Prop:=
 ∀ (pins:List (Addr × Obj)) (s:Shared) (σ:St) (H:Hp) (Q:List (V × V)->Hp->Prop),a8 X pins σ H s->vP trs σ H Q->
  wpAny (model X.prog X.w) X.A (evalPairs (pairTrees keys values X.env pos)) (fun vs s'=>∃ ps H',a8 X pins σ H' s'/\VV ps vs/\Q ps H') X.xe s
theorem av2 {X:Cx}{pos:Pos}:rJ X pos [] [] []:=fun pins s σ H Q I h=>pairTrees_nil_walk ⟨[],H,I,.nil,h⟩
theorem av3 {X:Cx}{pos:Pos}{k v:Expr}{ks:List (Option Expr)}{vs:List Expr}{tk tv:TE}{trs:List (TE × TE)} (hk:PE X k tk) (hv:PE X v tv) (hr:rJ X pos ks vs trs) :
  rJ X pos (some k :: ks) (v :: vs) ((tk,tv) :: trs):=fun pins s σ H Q I h=>
 pairTrees_cons_walk (aQ (hk pins s σ H _ I h) fun u s1 ⟨x,H1,I1,rx,q1⟩=>aQ (hv pins s1 σ H1 _ I1 q1) fun w2 s2 ⟨y,H2,I2,ry,q2⟩=>
  aQ (hr pins s2 σ H2 _ I2 q2) fun ws s3 ⟨ps,H3,I3,rel,q3⟩=>⟨(x,y) :: ps,H3,I3,.cons ⟨rx,ry⟩ rel,q3⟩)
noncomputable def mS (kvs more:List (aH × V)):List (aH × V):=more.foldl (fun acc kv=>eR acc kv.1 kv.2) kvs
theorem KV.merge:∀ {more:List (aH × V)}{rs:List (aH × Value)}{kvs:List (aH × V)}{vs:List (aH × Value)},KV more rs->KV kvs vs->KV (mS kvs more) (merged vs rs):=by
 intro more rs kvs vs r
 unfold KV at r
 induction r generalizing kvs vs with
 | nil=>intro q; exact q
 | @cons p q ps qs h t ih=>
  intro r0
  have e:KV (eR kvs p.1 p.2) (stored vs q.1 q.2):=by
   have:=r0.put p.1 h.2
   rw [<- h.1]; exact this
  exact ih e
theorem K5:∀ (more kvs:List (aH × V)),(mS kvs more).length<=kvs.length+more.length
 | [],kvs=>by show kvs.length<=kvs.length+0; omega
 | p :: r,kvs=>by
  have h1:=K5 r (eR kvs p.1 p.2)
  have h2:=vM kvs p.1 p.2
  show (mS (eR kvs p.1 p.2) r).length<=_
  rw [bk9]; omega
theorem K6 {P:Program}{w:World}:∀ {kvs:List (aH × V)}{ws:List (Value × Value)},VV (kvs.map fun kv=>(kV kv.1,kv.2)) ws->∃ rs,Carries (fF P w) ws rs/\KV kvs rs
 | [],_,r=>by rw [List.map_nil] at r; cases r; exact⟨[],bx2,.nil⟩
 | p :: kvs,_,r=>by
  rw [bm0] at r
  cases r with
  | @cons a b as bs h t=>
   obtain ⟨rs,c,q⟩:=K6 (P:=P) (w:=w) t
   obtain ⟨b1,b2⟩:=b
   exact⟨(p.1,b2) :: rs,⟨p5 h.1,rfl,c⟩,.cons ⟨rfl,h.2⟩ q⟩
noncomputable def K7 (trs:List (TE × TE)):TE:=fun σ H Q=>∀ p,H p=none->vP trs σ (upd H p (.dK [])) fun ps H2=>H2 p=some (.dK [])/\∃ kvs:List (aH × V),ps=kvs.map (fun kv=>(kV kv.1,kv.2))/\kvs.length<=15/\Q (.ref p) (upd H2 p (.dK (mS [] kvs)))
theorem av4 {X:Cx}{pos:Pos}{keys:List (Option Expr)}{values:List Expr}{trs:List (TE × TE)} (h:rJ X pos keys values trs) (hall:keys.all (·.isSome)=true) (hl:keys.length=values.length) (h0:keys ≠ [])
  (h15:keys.length<=15):PE X (.Dict keys values pos) (K7 trs):=by
 intro pins s σ H Q I q
 have hn:=I.hok.fresh (bi8 s.heap.objs.size)
 have I1:=I.laid (a:=s.heap.objs.size) (o:=.dK []) (h':=s.heap.push { cls:=.type "dict",data:=.dict #[] }) (t':=s.toks) (fun _ _ q=>bi1 _ q) (bi8 _) (K3 s.heap I.big)
 refine wpAny_Dict_walk (knd:=fF X.prog X.w) hall hl h0 h15 (aQ (h pins _ σ _ _ I1 (q _ hn)) fun ws s2 ⟨ps,H2,I2,rel,e,kvs,ep,lk,q2⟩=>?_)
 subst ep
 obtain ⟨rs,c,rk⟩:=K6 (P:=X.prog) (w:=X.w) rel
 obtain ⟨z,hd,vs0,r0,dd⟩:=J7 I2.hok e
 cases r0
 refine⟨rs,c,dd,fun h' dd' hs=>⟨.ref s.heap.objs.size,_,?_,rfl,q2⟩⟩
 have hz:(mS [] kvs).length<=sizeLine:=by
  have h1:=K5 kvs []
  rw [List.length_nil] at h1
  rw [sizeLine_eq]; omega
 have he:∃ q,h'.get? s.heap.objs.size=some q:=let ⟨q,_,_,hq,_⟩:=dd'; ⟨q,hq⟩
 exact vO I2 (by rw [e]; exact bx2) hs he (J8 hz hd (rk.merge .nil) dd')
structure M2 (X:Cx) (o:Expr) (m:Str) (apos:Pos) (e f:Expr) (cpos:Pos):Prop where
 base:attributeBase o m X.env (eval o X.env)=eval o X.env
 few:((backTo cpos (starEach [e,f] X.env)).all (fun x=>!x.1) && (backToKw cpos (keywordEach [] X.env)).all (fun x=>x.1.isSome)
  && decide (([e,f]:List Expr).length+([]:List Keyword).length+(if ([]:List Keyword).isEmpty then 0 else 1) < 30))=true
 line:(apos.endLine == cpos.line)=true
 trees:backTo cpos (starEach [e,f] X.env) = [(false,eval e X.env),(false,eval f X.env)]
end L2
namespace Att
open PySem PySem.W PySem.Calls PyProof.Rows
theorem av5 {P:Params}{h:Heap}:∀ (ns:List Int) (vs:List Value),WellAll P h vs (ns.map WData.int)->IntsAre vs ns:=by
 intro ns
 induction ns with
 | nil=>
  intro vs w
  rw [List.map_nil] at w
  cases w
  exact .nil
 | cons n ns ih=>
  intro vs w
  rw [bm0] at w
  cases w with
  | cons a b=>
   cases a
   exact .cons _ _ (ih _ b)
theorem K8 {l:OpenLaw}{n:Nat} (hn:l.most=some n) {P:Params}{h:Heap}{args:List WData}{vals:List Value}
  (hpre:l.row.toRowW.claim.pre args=true) (hwl:WellAll P h vals args) :
  ∃ a vs ns,vals = [Value.ref a]/\args = [WData.list (ns.map WData.int)]/\h.get? a=some { cls:=.type "list",data:=.seq vs.toArray }/\IntsAre vs ns/\ns.length<=n:=by
 have hsh:WShape.hasAll [] args [.list .int]=true:=(pre_splitW hpre).1
 have hc:l.pre.holds [] { args:=args }=true:=(pre_splitW hpre).2
 obtain ⟨d,r,rfl,h1,h2⟩:=hasAllW_cons hsh
 obtain rfl:=hasAllW_nil h2
 obtain ⟨xs,rfl,h3⟩:=hasW_list h1
 obtain ⟨ns,rfl⟩:=items_int h3
 have hlen:ns.length<=n:=by
  unfold OpenLaw.pre at hc
  have h4:(WTm.not (.lt (.lit (.int (n:Int))) (.len (.arg 0)))).holds [] { args:=[.list (ns.map .int)] }=true:=by
   have h4:=(holds_andW hc).1
   rw [hn] at h4
   exact h4
  have h5:=condW_of h4 (w_not (w_lt w_lit (w_len_list (w_arg rfl))))
  rw [bi4] at h5
  refine bw0 fun q=>?_
  have q':(n:Int) < ((ns.length:Nat):Int):=by omega
  first
   | (rw [bi6 q'] at h5; exact absurd h5 (by decide))
   | (simp at h5; omega)
 cases hwl with
 | cons w1 w2=>
  cases w2
  cases w1 with
  | list ho hall=>exact⟨_,_,ns,rfl,rfl,ho,av5 ns _ hall,hlen⟩
theorem K9 (l:OpenLaw) (args:List WData):l.row.toRowW.claim.post args (.bool true) args=true:=
 postW_of (r:=l.row.toRowW) (X:=(true == true))
  (show WShape.has [] (.bool true) .bool=true by first | rfl | decide | simp [WShape.has,WShape.arms,WShape.armsAll])
  (show (WTm.eq .res (.lit (.bool true))).value [] { args:=args,res:=some (.bool true),after:=args }=some (.bool (true == true)) from w_eq_bool (w_res rfl) w_lit) rfl
theorem bh1 {l:OpenLaw}{n:Nat}{q:Program}{loose:List Str}{XP:(Str->Option Value)->Heap->Prop}{YP:World->Heap->Prop}{d:DefRec}{x:Str}
  (hn:l.most=some n) (hdf:d.params.defaults = [])
  (hbind:∀ pm cd doc v:Value,bindArgs (docDef d.name d.params d.body d.scope pm cd doc) ⟨[v],[]⟩=pure [(x,v)])
  (hx:d.scope.names.lookup x=some .local ∨ d.scope.names.lookup x=some .cell)
  (hk:d.scope.kind = .function) (hco:d.scope.isCoroutine=false) (hgen:d.scope.isGenerator=false)
  (body:∀ (w:World) (s₀ s₁ s:Shared) (mg mb:Str->Option Value) (fa:Addr) (o:Obj) (pm cd doc:Value) (a:Addr) (vs:List Value) (ns:List Int),
   Ground q loose [] XP w s₀ mg mb s₁.heap->YP w s₁.heap->
   s₁.heap.get? fa=some o->o.data = .func (docDef d.name d.params d.body d.scope pm cd doc)->s₁.heap.CodeRec cd d.name->mg d.name=some (.ref fa)->
   s₁.heap.get? a=some { cls:=.type "list",data:=.seq vs.toArray }->IntsAre vs ns->ns.length<=n->
   s.gens = #[]->s.os=s₁.os->
   Fr s₁.heap s₁.heap.objs.size s.heap (bindL (envOfC d.name d.scope s₁.heap.objs.size fa cd).kindOf [(x,.ref a)] fun _=>none)->
   Cl s₁.heap.objs.size (cellsFrom (s₁.heap.objs.size+1) d.scope.names []) s.heap (bindC (envOfC d.name d.scope s₁.heap.objs.size fa cd).kindOf [(x,.ref a)] fun _=>none)->
   wpAny (model l.prog w) (callerA.deeper (envOfC d.name d.scope s₁.heap.objs.size fa cd)) (execs d.body (envOfC d.name d.scope s₁.heap.objs.size fa cd))
    (fun f s'=>f = .ret (.bool true)/\OldK s₁.heap s'.heap/\s'.os=s₁.os/\AllBare s'.gens) (fun _ _=>False) s) :
  WalkO q loose XP YP l.row.toRowW d [] (fun f vs=>PySem.call f vs):=by
 intro w s₀ s₁ mg mb G Y fa o pm cd doc dV kV ho hd hcd hD hmg hg args vals as hpre hlay hrd hwl hlo
 obtain rfl:dV = .none:=Dflts.none hD hdf
 obtain rfl:kV = .none:=Dflts.noKw hD
 obtain ⟨a,vs,ns,rfl,rfl,hobj,hints,hlen⟩:=K8 hn hpre hwl
 refine enter_call ?_
 refine call_cells_ret (o:=o) (by rw [depth_caller]; decide) ho (fd_plain hd) G.T.nolimit hcd (hbind pm cd doc (.ref a)) (fun y hy=>?_) (fun h₁ tk F X=>?_) hco hgen hk
 ·obtain rfl:y=(x,Value.ref a):=bi3.mp hy
  rcases hx with e | e
  ·exact .inl e
  ·exact .inr ⟨e,cellsFrom_some _ _ _ (.inl e)⟩
 ·refine bq7 (body w s₀ s₁ { s₁ with heap:=h₁,toks:=tk } mg mb fa o pm cd doc a vs ns G Y ho (fd_plain hd) hcd hmg hobj hints hlen hg rfl F X) (fun f s' hq=>?_) (fun _ _ hq=>hq)
  obtain ⟨rfl,h2,h3,h4⟩:=hq
  exact⟨.inl ⟨.bool true,.bool true,[],rfl,fun _=>rfl,.bool true,K9 l _,fun _=>⟨bu1,fun _ hm=>(nomatch hm)⟩⟩,h2,h3,h4⟩
theorem av6 {l:OpenLaw}{n:Nat}{q:Program}{loose:List Str}{XP:(Str->Option Value)->Heap->Prop}{YP:World->Heap->Prop}{d:DefRec}
  (hn:l.most=some n) (hdf:d.params.defaults = [])
  (call:∀ (w:World) (s₀ s₁:Shared) (mg mb:Str->Option Value) (fa:Addr) (o:Obj) (pm cd doc:Value) (a:Addr) (vs:List Value) (ns:List Int),
   Ground q loose [] XP w s₀ mg mb s₁.heap->YP w s₁.heap->
   s₁.heap.get? fa=some o->o.data = .func (docDef d.name d.params d.body d.scope pm cd doc)->s₁.heap.CodeRec cd d.name->mg d.name=some (.ref fa)->
   s₁.heap.get? a=some { cls:=.type "list",data:=.seq vs.toArray }->IntsAre vs ns->ns.length<=n->s₁.gens = #[]->
   codeAny (model l.prog w) callerA (.call (.ref fa) ⟨[.ref a],[]⟩) (fun r s'=>r = .ok (.ret (.bool true))/\OldK s₁.heap s'.heap/\s'.os=s₁.os/\AllBare s'.gens) s₁) :
  WalkO q loose XP YP l.row.toRowW d [] (fun f vs=>PySem.call f vs):=by
 intro w s₀ s₁ mg mb G Y fa o pm cd doc dV kV ho hd hcd hD hmg hg args vals as hpre hlay hrd hwl hlo
 obtain rfl:dV = .none:=Dflts.none hD hdf
 obtain rfl:kV = .none:=Dflts.noKw hD
 obtain ⟨a,vs,ns,rfl,rfl,hobj,hints,hlen⟩:=K8 hn hpre hwl
 refine enter_call (codeAny_mono (call w s₀ s₁ mg mb fa o pm cd doc a vs ns G Y ho (fd_plain hd) hcd hmg hobj hints hlen hg) fun r s' hq=>?_)
 obtain ⟨rfl,h2,h3,h4⟩:=hq
 exact⟨.inl ⟨.bool true,.bool true,[],rfl,fun _=>rfl,.bool true,K9 l _,fun _=>⟨bu1,fun _ hm=>(nomatch hm)⟩⟩,h2,h3,h4⟩
section
variable {prog : Program} {w : World} {A : Around} {E : Value → Shared → Prop} {s : Shared} {K : Frag}
noncomputable def bh2 (h:Heap) (L d:Addr):List (Addr × Obj):=(List.range h.objs.size).filterMap fun a=>if a=L ∨ a=d then none else (h.get? a).map fun o=>(a,o)
end
end Att
namespace L2
open PySem PySem.Spec PyProof.Rows
theorem rK:∀ {vs:List Value}{ns:List Int},IntsAre vs ns->aO (ns.map V.int) vs
 | _,_,.nil=>.nil
 | _,_,.cons n t h=>.cons ⟨t,rfl⟩ (rK h)
noncomputable def rL (H:Hp):Prop:=∀ b,H b=none ∨ ∃ o xs,H b=some (.frz o (.lst xs))
theorem av7 {P:Program}{w:World}{K:PySem.W.Frag}{mg mb:Str->Option Value}{CX:i4}{k:Nat}{fa a:Addr}{fd:FuncData}{x:Str}{sp:Sp}{s₁:Shared}{vs:List Value}{ns:List Int}
  (KX:K.In s₁.heap) (hns:s₁.heap.Ns mainGlobals mg) (hb:s₁.heap.Ns builtinsNs mb) (hbb:∀ x:Str,x ≠ "__name__"->mb x=bootBuiltins x) (hlim:s₁.heap.NoLimit) (hg:s₁.gens = #[])
  (ha:s₁.heap.get? a=some { cls:=.type "list",data:=.seq vs.toArray }) (hi:IntsAre vs ns) (hl:ns.length<=sizeLine) (hr:cC k callerA)
  (F:∀ base:Heap,K.In base->base.Ns mainGlobals mg->cY P w K mg base CX k fa fd [x] sp) (hbind:∀ (s:Shared) (u:Value),BindsTo s fd ⟨[u],[]⟩ [(x,u)])
  (hsp:∀ H:Hp,rL H->aM K H a (ns.map V.int)->sp [.ref a] H (fun v _=>v = .bl true) fun _ _ _=>False)
  (hCX:∀ H e s',CX [] H s₁ (fun _ _ _=>False) e s'->False) :
  codeAny (model P w) callerA (.call (.ref fa) ⟨[.ref a],[]⟩) (fun r s'=>r = .ok (.ret (.bool true))/\OldK s₁.heap s'.heap/\s'.os=s₁.os/\AllBare s'.gens) s₁:=by
 have rv:=rK hi
 have lenV:=hi.length
 have core:∀ H:Hp,rL H->aM K H a (ns.map V.int)->bZ P w H s₁.heap->(∀ b,H b ≠ none->b=a)->(H a ≠ none->K.lookup a=none)->
   codeAny (model P w) callerA (.call (.ref fa) ⟨[.ref a],[]⟩) (fun r s'=>r = .ok (.ret (.bool true))/\OldK s₁.heap s'.heap/\s'.os=s₁.os/\AllBare s'.gens) s₁:=by
  intro H hO hS hok hA hK
  have base_of:∀ {b:Addr}{o:Obj},s₁.heap.get? b=some o->H b=none->(jF s₁.heap H).get? b=some o:=fun e n=>al6 e n
  have noA:∀ {b:Addr}{o:Obj}{es:Array DictEntry}{ep:Nat},s₁.heap.get? b=some o->o.data = .dict es ep->H b=none:=fun {b o es ep} e d=>by
   cases q:H b with
   | none=>rfl
   | some u=>
    have e':b=a:=hA b (by rw [q]; simp)
    subst e'
    rw [ha] at e; cases e
    have d':Data.seq vs.toArray _=Data.dict es ep:=d
    cases d'
  have nsK:∀ {b:Addr}{m:Str->Option Value},s₁.heap.Ns b m->(jF s₁.heap H).Ns b m:=fun {b m} ⟨o,es,ep,e,d,r⟩=>⟨o,es,ep,base_of e (noA e d),d,r⟩
  have hKb:K.In (jF s₁.heap H):=fun b o e=>base_of (KX b o e) (by
   cases q:H b with
   | none=>rfl
   | some u=>
    have e':b=a:=hA b (by rw [q]; simp)
    subst e'
    rw [hK (by rw [q]; simp)] at e; cases e)
  have hM:Mod K mg (jF s₁.heap H):=⟨hKb,nsK hns,⟨mb,nsK hb,hbb⟩,let ⟨mc,h1,h2⟩:=hlim; ⟨mc,nsK h1,h2⟩⟩
  have e0:rF P w K mg (jF s₁.heap H) callerA [] s₁ H:=⟨rfl,hM,fun b o e=>al7 e,Nat.le_of_eq (al5 _ _),trivial,fun b hb=>absurd (show b ∈ ([]:List Addr) from hb) (by simp),hok,.of_eq hg⟩
  refine codeAny_mono ((F _ hKb (nsK hns)).run callerA [] s₁ H ⟨[.ref a],[]⟩ [.ref a] [.ref a] _ _ hr e0 (hbind s₁ (.ref a)) (.cons rfl .nil) (hsp H hO hS)) fun r s' h=>?_
  cases r with
  | error e=>exact (hCX H e s' h).elim
  | ok fl=>
   cases fl with
   | next=>exact False.elim h
   | brk=>exact False.elim h
   | cont=>exact False.elim h
   | ret u=>
    obtain ⟨v,H',os,bare,un,hok',r',q⟩:=h
    have q':v = .bl true:=q
    subst q'
    obtain rfl:u=Value.bool true:=r'
    refine⟨rfl,OldK.of_keep fun b o e=>?_,os,bare⟩
    cases q:H b with
    | none=>exact un.keep b o e q (by intro z; exact absurd (show b ∈ ([]:List Addr) from z) (by simp)) (by simp)
    | some u=>
     rcases hO b with z | ⟨ob,xs,z⟩
     ·rw [q] at z; cases z
     ·have z2:=un.frzs b ob _ z
      obtain ⟨e1,_⟩:=hok b _ z
      obtain ⟨e2,_⟩:=hok' b _ z2
      rw [e] at e1; cases e1
      exact e2
 cases hk:K.lookup a with
 | some o=>
  have e:=KX a o hk
  rw [ha] at e
  cases e
  refine core (fun _=>none) (fun _=>.inl rfl) (.inr ⟨_,vs.toArray,_,hk,rfl,rfl,rfl,by rw [bh9,lenV]; exact hl,by simpa using rv⟩) (fun b u z=>by have z':(none:Option HO)=some u:=z; cases z') (fun b z=>absurd rfl z) fun z=>absurd rfl z
 | none=>
  refine core (fun b=>if b=a then some (.frz { cls:=.type "list",data:=.seq vs.toArray } (.lst (ns.map V.int))) else none) (fun b=>?_) (.inl (.inr ⟨{ cls:=.type "list",data:=.seq vs.toArray },if_pos rfl⟩)) (fun b u z=>?_) (fun b z=>?_) fun _=>hk
  ·by_cases hb:b=a
   ·exact .inr ⟨_,_,if_pos hb⟩
   ·exact .inl (if_neg hb)
  ·by_cases hb:b=a
   ·have z':=(if_pos hb).symm.trans z
    cases z'
    subst hb
    exact⟨ha,by rw [bi4]; exact hl,vs,_,rv,ha⟩
   ·have z':=(if_neg hb).symm.trans z
    cases z'
  ·by_cases hb:b=a
   ·exact hb
   ·exact absurd (if_neg hb) z
theorem av8 {l:PySem.W.OpenLaw}{n k:Nat}{q:Program}{loose:List Str}{XP:(Str->Option Value)->Heap->Prop}{YP:World->Heap->Prop}{d:DefRec}{K:Params->PySem.W.Frag}{CX:World->i4}{sp:World->Sp}{x:Str}
  (hn:l.most=some n) (hn2:n<=sizeLine) (hdf:d.params.defaults = []) (hr:cC k callerA)
  (hY:∀ (w:World) (h:Heap),YP w h->(K w.params).In h)
  (F:∀ (w:World) (mg:Str->Option Value) (fa:Addr) (h:Heap),(K w.params).In h->h.Ns mainGlobals mg->mg d.name=some (.ref fa)->
   ∃ fd:FuncData,(∀ (s:Shared) (u:Value),BindsTo s fd ⟨[u],[]⟩ [(x,u)])/\
    ∀ base:Heap,(K w.params).In base->base.Ns mainGlobals mg->cY l.prog w (K w.params) mg base (CX w) k fa fd [x] (sp w))
  (hsp:∀ (w:World) (H:Hp) (a:Addr) (ns:List Int),ns.length<=n->rL H->aM (K w.params) H a (ns.map V.int)->sp w [.ref a] H (fun v _=>v = .bl true) fun _ _ _=>False)
  (hCX:∀ (w:World) (H:Hp) (s:Shared) (e:Value) (s':Shared),CX w [] H s (fun _ _ _=>False) e s'->False) :
  PySem.W.WalkO q loose XP YP l.row.toRowW d [] (fun f vs=>PySem.call f vs):=by
 refine Att.av6 hn hdf fun w s₀ s₁ mg mb fa o pm cd doc a vs ns G Y ho hd hcd hmg hobj hints hlen hg=>?_
 have KX:=hY w _ Y
 obtain ⟨fd,hb,hF⟩:=F w mg fa _ KX G.T.g hmg
 exact av7 KX G.T.g G.T.b G.T.builtins G.T.nolimit hg hobj hints (bm6 hlen hn2) hr hF hb (fun H hO hS=>hsp w H a ns hlen hO hS) fun H e s'=>hCX w H s₁ e s'
noncomputable def jL (s:Stmt):Arguments:=match s with
 | .FunctionDef _ a _ _ _ _ _ _ _ _=>a
 | _=>{ posonlyargs:=[],args:=[],vararg:=none,kwonlyargs:=[],kw_defaults:=[],kwarg:=none,defaults:=[] }
noncomputable def fH (s:Stmt):List Stmt:=match s with
 | .FunctionDef _ _ b _ _ _ _ _ _ _=>b
 | _=>[]
noncomputable def aY (s:Stmt):Scope:=match s with
 | .FunctionDef _ _ _ _ _ _ sc _ _ _=>sc
 | _=>{ kind:=.function,names:=[],isGenerator:=false,isCoroutine:=false }
noncomputable abbrev e9:i4:=fun _ _ _ _ _ _=>False
noncomputable abbrev E0:XK:=fun _ _ _=>False
theorem av9 {X:Cx}:oR e9 X E0:=fun _ _ _ _ _ _ _ h=>h.elim
structure fI (K:PySem.W.Frag) (x qual:Str) (st:Stmt) (f:Addr) (fd:FuncData):Prop where
 ex:∃ (oc:Value) (od:Option Addr) (kV doc pm:Value) (an:Option Addr) (cdv ct:Value) (osl:Array (Option Value)),
  fd=PySem.W.fnOf x qual (jL st) (fH st) (aY st) .none kV doc pm an cdv ct/\K.lookup f=some ⟨oc,od,.func fd,osl⟩/\PySem.W.codeIn K cdv qual=true
 kp:PySem.W.keepIn K (.ref f)=true
section
variable {P : Program} {w : World} {K : PySem.W.Frag} {mg : Str → Option Value} {base : Heap}
theorem fI.ok {x qual:Str}{st:Stmt}{f:Addr}{fd:FuncData}{N ps:List Str}{k:Nat}{sp:Sp} (F:fI K x qual st f fd) (S:FnScope N ps (aY st)) (len:∀ vs H Q E,sp vs H Q E->vs.length=ps.length)
  (hbody:∀ (cdv:Value) (A:Around) (outer:List Env) (s:Shared) (H:Hp) (vs:List V) (Q:VK) (E:XK),cC k (A.deeper (envOfC qual (aY st) s.heap.objs.size f cdv))->sp vs H Q E->
   ∃ t,eI (dP e9 P w K mg base N qual (aY st) f cdv A outer s H E).nox (fH st) t/\t { nx:=fun _ H'=>Q .non H',rt:=Q } (start N vs) H):cY P w K mg base e9 (k+1) f fd ps sp:=by
 obtain ⟨oc,od,kV,doc,pm,an,cdv,ct,osl,rfl,lk,hcd⟩:=F.ex
 refine F1 lk hcd S len fun A outer s H vs Q E hr hsp=>?_
 obtain ⟨t,h,q⟩:=hbody cdv A outer s H vs Q E hr hsp
 exact⟨t,h.nox,q⟩
theorem fI.binds {x qual:Str}{st:Stmt}{f:Addr}{fd:FuncData}{ps:List Str} (F:fI K x qual st f fd)
  (h:∀ (kV doc pm:Value) (an:Option Addr) (cdv ct:Value) (us:List Value),us.length=ps.length->bindArgs (PySem.W.fnOf x qual (jL st) (fH st) (aY st) .none kV doc pm an cdv ct) ⟨us,[]⟩=pure (ps.zip us)):iG K fd ps []:=by
 obtain ⟨oc,od,kV,doc,pm,an,cdv,ct,osl,rfl,lk,hcd⟩:=F.ex
 exact .all (h kV doc pm an cdv ct)
theorem aw0 {x qual:Str}{st:Stmt}{f:Addr}{oc:Value}{od an:Option Addr}{osl:Array (Option Value)}{kV doc pm cdv ct:Value} (l:K.lookup f=some ⟨oc,od,.func (PySem.W.fnOf x qual (jL st) (fH st) (aY st) .none kV doc pm an cdv ct),osl⟩)
  (c:PySem.W.codeIn K cdv qual=true) (k:PySem.W.keepIn K (.ref f)=true):fI K x qual st f (PySem.W.fnOf x qual (jL st) (fH st) (aY st) .none kV doc pm an cdv ct):=⟨⟨oc,od,kV,doc,pm,an,cdv,ct,osl,rfl,l,c⟩,k⟩
end
theorem rM {A:Around}{k:Nat} (hr:cC k A):A.units+1 < cLine:=Nat.lt_of_le_of_lt (Nat.add_le_add_left (by decide:1<=64) _) hr.units
theorem p7 {n:Nat} (h:n<=1000):n < sizeLine:=Nat.lt_of_le_of_lt h (by decide)
section
variable {X : Cx}
theorem pv (i:Nat) {x:Str}{pos:Pos} (hN:X.N[i]? = some x:=by rfl) (hv:gN X.env.scope x:=by first | exact Or.inl rfl | exact Or.inr (Or.inl rfl) | exact Or.inr (Or.inr rfl)) (hd:(x == ("__debug__" : Str))=false:=by decide)
  (hcd:(x == ("__classdict__" : Str))=false:=by decide):PE X (.Name x pos) (hG i):=iF hN hv hd hcd
theorem aw1:cX X (.builtin "len") (fun xs H Q=>∃ a kvs,xs = [V.ref a]/\H a=some (.dK kvs)/\Q (.int kvs.length) H):=by
 intro pins s σ H xs us Q I r h
 obtain ⟨a,kvs,rfl,ha,q⟩:=h
 obtain ⟨u,rfl,ru⟩:=hZ r
 cases ru
 exact au7 I (.inl ha) fun t s' I'=>⟨.int kvs.length,H,I',⟨t,rfl⟩,q⟩
end
theorem bF {A B:Prop} (h:B):if false=true then A else B:=by
 rw [if_neg bk3]
 exact h
theorem bJ {A B:Prop} (h:A):if true=true then A else B:=by
 rw [if_pos rfl]
 exact h
noncomputable def aC (H H':Hp):Prop:=∀ b o,H b=some o->H' b=some o
theorem aC.refl (H:Hp):aC H H:=fun _ _ h=>h
theorem aC.trans {H H1 H2:Hp} (a:aC H H1) (b:aC H1 H2):aC H H2:=fun c o h=>b c o (a c o h)
theorem aC.free {H H':Hp} (e:aC H H') {l:Addr} (h:H' l=Option.none):H l=Option.none:=by
 cases q:H l with
 | none=>rfl
 | some o=>
  rw [e l o q] at h
  cases h
theorem aC.seq {K:PySem.W.Frag}{H H':Hp}{a:Addr}{xs:List V} (e:aC H H') (h:aM K H a xs):aM K H' a xs:=by
 rcases h with (h | ⟨o,h⟩) | h
 ·exact .inl (.inl (e _ _ h))
 ·exact .inl (.inr ⟨o,e _ _ h⟩)
 ·exact .inr h
noncomputable def eY (cells:List (Str × Addr)):List (Str × NameKind)->List (Str × Addr)->List (Str × Addr)
 | [],cs=>cs
 | (n,k) :: r,cs=>eY cells r (if k == .free then (n,(cells.lookup n).getD 0) :: cs else cs)
theorem vQ {env:Env}:∀ (ns:List (Str × NameKind)) (cs:List (Str × Addr)),(∀ x ∈ ns,x.2 = .free->∃ c,env.cells.lookup x.1=some c)->
  (forIn ns cs (fun (x:Str × NameKind) r=>(match x with
   | (name,kind)=>if (kind == .free)=true then (do let y <- cellOf env name; pure (ForInStep.yield ((name,y) :: r))) else pure (ForInStep.yield r)):_->_->Sem _))=(pure (eY env.cells ns cs):Sem (List (Str × Addr)))
 | [],cs,_=>by rw [List.forIn_nil]; rfl
 | (n,k) :: r,cs,h=>by
  rw [List.forIn_cons]
  have hr:∀ x ∈ r,x.2 = .free->∃ c,env.cells.lookup x.1=some c:=fun x hx=>h x (bj7 _ hx)
  cases hk:(k == NameKind.free) with
  | true=>
   have e:k = .free:=by simpa using hk
   obtain ⟨c,hc⟩:=h (n,k) bi9 e
   simp only [hk,if_true]
   have e1:cellOf env n=pure c:=by unfold cellOf; rw [hc]
   rw [e1]
   show ((pure c >>= fun y=>pure (ForInStep.yield ((n,y) :: cs))) >>= _:Sem _)=_
   rw [pure_bind,pure_bind]
   have:=vQ (env:=env) r ((n,c) :: cs) hr
   refine this.trans ?_
   unfold eY
   simp only [hk,if_true,hc,Option.getD_some]
   cases r <;> rfl
  | false=>
   simp only [hk,bl5,bp9]
   rw [pure_bind]
   have:=vQ (env:=env) r cs hr
   refine this.trans ?_
   conv=>rhs; unfold eY
   simp only [hk,bl5,bp9]
theorem rN {scope:Scope}{env:Env} (h:∀ x ∈ scope.names,x.2 = .free->∃ c,env.cells.lookup x.1=some c):closureFor scope env=pure (eY env.cells scope.names []):=by
 have e:=vQ (env:=env) scope.names [] h
 unfold closureFor
 rw [show (pure (eY env.cells scope.names []):Sem (List (Str × Addr)))=(pure (eY env.cells scope.names []) >>= pure) by rw [pure_bind]]
 rw [<- e]
theorem rO {cells:List (Str × Addr)}:∀ (ns:List (Str × NameKind)) (cs:List (Str × Addr)) {x:Str}{c:Addr},(∀ y ∈ ns,y.2 = .free->∃ c,cells.lookup y.1=some c)->
  (∀ x c,cs.lookup x=some c->cells.lookup x=some c)->(eY cells ns cs).lookup x=some c->cells.lookup x=some c
 | [],cs,x,c,_,hc,h=>hc x c h
 | (n,k) :: r,cs,x,c,hn,hc,h=>by
  unfold eY at h
  have hr:∀ y ∈ r,y.2 = .free->∃ c,cells.lookup y.1=some c:=fun y hy=>hn y (bj7 _ hy)
  cases hk:(k == NameKind.free) with
  | false=>
   simp only [hk,bl5,bp9] at h
   exact rO r cs hr hc h
  | true=>
   simp only [hk,if_true] at h
   refine rO r _ hr (fun y d e=>?_) h
   obtain ⟨c0,h0⟩:=hn (n,k) bi9 (by simpa using hk)
   have h0:cells.lookup n=some c0:=h0
   rw [h0] at e
   rw [bp2] at e
   by_cases hyn:y=n
   ·subst hyn
    simp only [bs2,Option.getD_some] at e
    rw [h0]; exact e
   ·have:(y == n)=false:=beq_eq_false_iff_ne.mpr hyn
    simp only [this] at e
    exact hc y d e
theorem vR {cells:List (Str × Addr)}:∀ (ns:List (Str × NameKind)) (cs:List (Str × Addr)) {x:Str},((x,NameKind.free) ∈ ns ∨ ∃ c,cs.lookup x=some c)->∃ c,(eY cells ns cs).lookup x=some c
 | [],cs,x,h=>by
  rcases h with h | h
  ·simp at h
  ·exact h
 | (n,k) :: r,cs,x,h=>by
  unfold eY
  refine vR r _ ?_
  rcases h with h | ⟨c,h⟩
  ·rcases bj1.mp h with e | e
   ·cases e
    exact .inr ⟨_,by simp [bp2]; rfl⟩
   ·exact .inl e
  ·right
   cases hk:(k == NameKind.free) with
   | false=>exact⟨c,by simpa [hk] using h⟩
   | true=>
    simp only [if_true]
    rw [bp2]
    by_cases hxn:(x == n)=true
    ·simp only [hxn]; exact⟨_,rfl⟩
    ·simp only [bu2.mpr hxn]; exact⟨c,h⟩
theorem rP {env:Env}:∀ {names:List (Str × NameKind)}{x:Str}{k:NameKind},(names.map fun (n,k)=>if (k == NameKind.free && env.scope.kind == .function && env.kindOf n == some .cell) then (n,NameKind.cell) else (n,k)).lookup x=some k->
  names.lookup x=some k ∨ (names.lookup x=some .free/\k = .cell)
 | [],_,_,h=>by simp at h
 | (n,q) :: r,x,k,h=>by
  have ih:=@rP env r x k
  rw [bm0] at h
  by_cases hx:(x == n)=true
  ·have e:x=n:=by simpa using hx
   subst e
   by_cases hc:(q == NameKind.free && env.scope.kind == .function && env.kindOf x == some .cell)=true
   ·simp only [hc,if_true,bp2,bs2] at h
    have hq:q = .free:=by simp at hc; exact hc.1.1
    exact .inr ⟨by simp [bp2,hq],(bl2 h).symm⟩
   ·simp only [hc,bl5,bp9,bp2,bs2] at h
    exact .inl (by simp [bp2]; exact bl2 h)
  ·have hx':(x == n)=false:=bu2.mpr hx
   have h':(r.map fun (n,k)=>if (k == NameKind.free && env.scope.kind == .function && env.kindOf n == some .cell) then (n,NameKind.cell) else (n,k)).lookup x=some k:=by
    by_cases hc:(q == NameKind.free && env.scope.kind == .function && env.kindOf n == some .cell)=true
    ·simp only [hc,if_true,bp2,hx'] at h; exact h
    ·simp only [hc,bl5,bp9,bp2,hx'] at h; exact h
   simp only [bp2,hx']
   exact ih h'
noncomputable def gG (fr:List (Option Nat)) (σ:St):St:=fr.map fun o=>o.bind fun j=>(σ[j]?).join
noncomputable def Wk (σ₁ σ₂:St):Prop:=σ₁.length=σ₂.length/\∀ (i:Nat) v,σ₁[i]? = some (some v)->σ₂[i]? = some (some v)
theorem Wk.refl (σ:St):Wk σ σ:=⟨rfl,fun _ _ h=>h⟩
theorem Wk.set {σ τ:St}{i:Nat}{v:V} (h:Wk σ τ) (hi:σ[i]? = some none):Wk σ (τ.set i (some v)):=by
 refine⟨by rw [bm3]; exact h.1,fun j w e=>?_⟩
 by_cases hj:j=i
 ·subst hj; rw [hi] at e; cases e
 ·rw [bl1 (Ne.symm hj)]; exact h.2 j w e
theorem jM:∀ (ns:List (Str × NameKind)) (n:Nat) (cs:List (Str × Addr)),cellsFrom n ns cs=cellsFrom n ns [] ++ cs
 | [],_,_=>rfl
 | (x,k) :: r,n,cs=>by
  unfold cellsFrom
  split
  ·rw [jM r (n+1) ((x,n) :: cs),jM r (n+1) [(x,n)]]; simp
  ·exact jM r n cs
theorem vS:∀ (ns:List (Str × NameKind)) (n:Nat) {x:Str}{c:Addr},(x,c) ∈ cellsFrom n ns []->(x,NameKind.cell) ∈ ns
 | [],_,_,_,h=>by simp [cellsFrom] at h
 | (y,k) :: r,n,x,c,h=>by
  unfold cellsFrom at h
  split at h
  ·rename_i hk
   rw [jM] at h
   rcases bi7.mp h with z | z
   ·exact bj7 _ (vS r _ z)
   ·rw [bi3] at z
    cases z
    have:k = .cell:=by simpa using hk
    rw [this]; exact bi9
  ·exact bj7 _ (vS r _ h)
theorem rQ:∀ (ns:List (Str × NameKind)) (n:Nat) {x:Str},(x,NameKind.cell) ∈ ns->∃ c,(x,c) ∈ cellsFrom n ns []
 | (y,k) :: r,n,x,h=>by
  unfold cellsFrom
  rcases bj1.mp h with z | z
  ·cases z
   rw [if_pos (by rfl),jM]
   exact⟨n,bk5 _ (by simp)⟩
  ·split
   ·obtain ⟨c,hc⟩:=rQ r (n+1) z
    rw [jM]
    exact⟨c,bk7 _ hc⟩
   ·exact rQ r n z
theorem vT {α:Type}:∀ {l:List (Str × α)}{x:Str}{c:α},(x,c) ∈ l->∃ d,l.lookup x=some d
 | (y,v) :: r,x,c,h=>by
  rw [bp2]
  cases hb:x == y with
  | true=>exact⟨v,rfl⟩
  | false=>
   rcases bj1.mp h with z | z
   ·cases z; simp at hb
   ·exact vT z
theorem rR {α:Type}{x:Str}:∀ (l r:List (Str × α)),(l ++ r).lookup x=(match l.lookup x with | some v=>some v | none=>r.lookup x)
 | [],_=>rfl
 | (y,v) :: l,r=>by
  rw [List.cons_append,bp2,bp2]
  cases hb:x == y with
  | true=>rfl
  | false=>exact rR l r
noncomputable def i6 (X:Cx) (scope:Scope) (C:Addr):List (Str × Addr):=cellsFrom (C+1) scope.names (eY X.env.cells scope.names [])
theorem lO {X:Cx}{scope:Scope}{C:Addr}{x:Str}{c:Addr} (h:(i6 X scope C).lookup x=some c) :
  (x,c) ∈ cellsFrom (C+1) scope.names [] ∨ ((∀ d,(x,d) ∉ cellsFrom (C+1) scope.names [])/\(eY X.env.cells scope.names []).lookup x=some c):=by
 unfold i6 at h
 rw [jM,rR] at h
 cases e:(cellsFrom (C+1) scope.names []).lookup x with
 | some v=>rw [e] at h; cases h; exact .inl (bo0 e)
 | none=>
  rw [e] at h
  refine .inr ⟨fun d hd=>?_,h⟩
  obtain ⟨d',z⟩:=vT hd
  rw [e] at z; cases z
theorem aw2 {X:Cx}{scope:Scope}{C:Addr}{x:Str}{c:Addr} (hn:(x,NameKind.cell) ∉ scope.names) (h:(eY X.env.cells scope.names []).lookup x=some c):(i6 X scope C).lookup x=some c:=by
 unfold i6
 rw [jM,rR]
 cases e:(cellsFrom (C+1) scope.names []).lookup x with
 | some v=>exact absurd (vS _ _ (bo0 e)) hn
 | none=>exact h
theorem L4 {X:Cx}{scope:Scope}{C:Addr}{x:Str} (h:(x,NameKind.cell) ∈ scope.names ∨ ∃ c,(eY X.env.cells scope.names []).lookup x=some c):∃ c,(i6 X scope C).lookup x=some c:=by
 unfold i6
 rw [jM,rR]
 cases e:(cellsFrom (C+1) scope.names []).lookup x with
 | some v=>exact⟨v,rfl⟩
 | none=>
  rcases h with h | h
  ·obtain ⟨c,hc⟩:=rQ scope.names (C+1) h
   obtain ⟨d,hd⟩:=vT hc
   rw [e] at hd; cases hd
  ·exact h
noncomputable def bP (X:Cx) (scope:Scope) (N:List Str) (s:Shared) (H:Hp) (C:Addr) (fp:List Addr) (E:Value->Shared->Prop):Cx:=
 { X with N:=N,s₀:=s,H₀:=H,env:=compEnvC scope (i6 X scope C) C X.env,outer:=X.stack,ex:=fp,fn:=fun x=>scope.names.lookup x == some .cell,pn:=[],xe:=E }
structure cP (X:Cx) (scope:Scope) (N:List Str) (fr:List (Option Nat)):Prop where
 kind:scope.kind = .function
 own:∀ y ∈ scope.names,y.2 = .cell->scope.names.lookup y.1=some .cell
 names:∀ y ∈ scope.names,y.2 = .local->scope.names.lookup y.1=some .local
 free:∀ y ∈ scope.names,y.2 = .free->X.env.scope.names.lookup y.1=some .cell ∨ X.env.scope.names.lookup y.1=some .free
 len:fr.length=N.length
 from_:∀ (i j:Nat),fr[i]? = some (some j)->∃ x,N[i]? = some x/\X.N[j]? = some x/\scope.names.lookup x=some .free
section
variable {X : Cx} {pins : List (Addr × Obj)} {σ : St} {H : Hp} {s : Shared} {scope : Scope} {N : List Str} {fr : List (Option Nat)}
theorem cP.cells (S:cP X scope N fr) (I:a8 X pins σ H s):∀ y ∈ scope.names,y.2 = .free->∃ c,X.env.cells.lookup y.1=some c:=fun y hy hk=>I.ok.has y.1 (S.free y hy hk)
theorem aw3 {C D:Addr}{fp:List Addr}{E:Value->Shared->Prop}{h1:Heap}{tk:Nat}{m:Str->Option Value} (S:cP X scope N fr) (I:a8 X pins σ H s)
  (hf:∀ b ∈ fp,hV X pins H b) (hfl:∀ b ∈ fp,b < s.heap.objs.size) (hD:s.heap.objs.size<=D) (hC:s.heap.objs.size<=C) (hDC:D < C)
  (old:∀ b o,s.heap.get? b=some o->h1.get? b=some o) (hns:h1.Ns C m) (hacc:h1.get? D=some { cls:=.type "list",data:=.seq #[] 0 }) (hco:CellsOk h1 (C+1) (cellsFrom (C+1) scope.names [])) :
  a8 (bP X scope N s H C fp E) [] (gG fr σ) (upd H D (.lst [])) { s with heap:=h1,toks:=tk }:=by
 have hHD:H D=none:=I.hok.fresh hD
 have cl:=S.cells I
 have cs:∀ {x:Str}{c:Addr},(eY X.env.cells scope.names []).lookup x=some c->X.env.cells.lookup x=some c:=fun {x c} h=>rO scope.names [] cl (fun _ _ z=>by simp at z) h
 have clt:∀ {x:Str}{c:Addr},X.env.cells.lookup x=some c->c < s.heap.objs.size:=fun {x c} h=>by obtain ⟨v,z⟩:=I.cell x c h; exact z.lt
 have nge:∀ {x:Str}{c:Addr},(x,c) ∈ cellsFrom (C+1) scope.names []->C < c:=fun {x c} h=>(hco.empty x c h).2
 refine⟨⟨I.ok.mod,?_,I.ok.glob,I.ok.blt,hC,?_,?_,?_,I.ok.hd,I.ok.frames,.inl rfl,?_,I.bs,bm6 I.ok.bsz I.sz,?_,?_,I.stack,I.stkFree⟩,rfl,I.bare,Un.laid old hD hHD,⟨m,hns,?_⟩,?_,?_,?_,fun p hp=>absurd (show p ∈ ([]:List (Addr × Obj)) from hp) (by simp),?_,?_⟩
 ·exact S.kind
 ·intro x y c h1 h2
  rcases lO h1 with a | ⟨_,a⟩ <;> rcases lO h2 with b | ⟨_,b⟩
  ·exact name_of_addr hco.apart a b
  ·exact absurd (bj9 (Nat.lt_trans (nge a) (clt (cs b))) hC) (bn2 _)
  ·exact absurd (bj9 (Nat.lt_trans (nge b) (clt (cs a))) hC) (bn2 _)
  ·exact I.ok.inj x y c (cs a) (cs b)
 ·intro x hx
  have hx:(relabel scope X.env).names.lookup x=some .cell ∨ (relabel scope X.env).names.lookup x=some .free:=hx
  have fin:(x,NameKind.free) ∈ scope.names->∃ c,(i6 X scope C).lookup x=some c:=fun z=>L4 (.inr (vR scope.names [] (.inl z)))
  rcases hx with hx | hx
  ·rcases rP hx with z | z
   ·exact L4 (.inl (bo0 z))
   ·exact fin (bo0 z.1)
  ·rcases rP hx with z | z
   ·exact fin (bo0 z)
   ·exact absurd z.2 (by decide)
 ·intro x c hx h
  have hx:(scope.names.lookup x == some NameKind.cell)=true:=hx
  have hx:scope.names.lookup x=some .cell:=by simpa using hx
  rcases lO h with a | ⟨a,_⟩
  ·exact bm6 hC (bn5 (nge a))
  ·obtain ⟨d,hd⟩:=rQ scope.names (C+1) (bo0 hx)
   exact absurd hd (a d)
 ·intro b hb
  refine⟨bm1 (bj9 (hfl b hb) hC),fun x c e=>?_⟩
  rcases lO e with a | ⟨_,a⟩
  ·exact bs1 (Nat.lt_trans (bj9 (hfl b hb) hC) (nge a))
  ·exact (hf b hb).2.2.2.2.1 x c (cs a)
 ·intro b o e hb
  rcases (hf b hb).2.2.2.1 with z | z
  ·exact I.ok.noex b o e z
  ·exact absurd (bj9 (bk1 e) (bm6 I.ok.bsz z)) (bn2 _)
 ·intro b hb z
  rcases bj1.mp (I.stkSub b z) with e | e
  ·exact (hf b hb).2.1 e
  ·exact (hf b hb).2.2.1 e
 ·intro i x v e1 e2 e3
  have e2:(fr.map fun o=>o.bind fun j=>(σ[j]?).join)[i]? = some (some v):=e2
  rw [bj2] at e2
  cases ef:fr[i]? with
  | none=>rw [ef] at e2; cases e2
  | some o=>
   rw [ef] at e2
   cases o with
   | none=>cases e2
   | some j=>
    have e2:some ((σ[j]?).join)=some (some v):=e2
    have ej:σ[j]? = some (some v):=by
     cases q:σ[j]? with
     | none=>rw [q] at e2; cases e2
     | some w=>rw [q] at e2; cases w with
      | none=>cases e2
      | some w=>cases e2; rfl
    obtain ⟨y,a1,a2,a4⟩:=S.from_ i j ef
    have e1:N[i]? = some x:=e1
    rw [e1] at a1
    cases a1
    have a3:(x,NameKind.free) ∈ scope.names:=bo0 a4
    have vis:gN X.env.scope x:=(S.free _ a3 rfl).elim (fun z=>.inr (.inl z)) fun z=>.inr (.inr z)
    obtain ⟨m0,hn0,hl0⟩:=I.loc
    obtain ⟨u,r,l⟩:=hl0 j x v a2 ej vis
    refine⟨u,r,.inr ⟨?_,?_⟩⟩
    ·have e3:(relabel scope X.env).names.lookup x=some .local ∨ (relabel scope X.env).names.lookup x=some .cell ∨ (relabel scope X.env).names.lookup x=some .free:=e3
     rcases e3 with z | z | z
     ·rcases rP z with y | y
      ·rw [a4] at y; cases y
      ·exact absurd y.2 (by decide)
     ·exact .inl z
     ·exact .inr z
    ·obtain ⟨c,hc⟩:=vR (cells:=X.env.cells) scope.names [] (x:=x) (.inl a3)
     refine⟨c,aw2 (fun z=>by have:=S.own _ z rfl; rw [a4] at this; cases this) hc,?_⟩
     have hc':=cs hc
     have S1:=S.free (x,.free) a3 rfl
     rcases l with ⟨k,_⟩ | ⟨_,c2,hc2,z⟩
     ·have k:X.env.scope.names.lookup x=some .local:=k
      rcases S1 with q | q <;> (have q:X.env.scope.names.lookup x=_:=q; rw [k] at q; cases q)
     ·rw [hc'] at hc2; cases hc2
      obtain ⟨oc,ho,hd⟩:=z
      exact⟨oc,old c oc ho,hd⟩
 ·intro x c e
  rcases lO e with a | ⟨_,a⟩
  ·exact⟨_,(hco.empty x c a).1⟩
  ·obtain ⟨v,oc,ho,hd⟩:=I.cell x c (cs a)
   exact⟨v,oc,old c oc ho,hd⟩
 ·show upd H D (.lst []) C=none
  rw [aR (bs1 hDC)]; exact I.hok.fresh hC
 ·intro x c e
  show upd H D (.lst []) c=none
  rcases lO e with a | ⟨_,a⟩
  ·rw [aR (bs1 (Nat.lt_trans hDC (nge a)))]; exact I.hok.fresh (bm6 hC (bn5 (nge a)))
  ·have q:=cs a
   rw [aR (bm1 (bj9 (clt q) hD))]
   exact I.freeC x c q
 ·exact I.hok.laid old hD ⟨bm9 _,[],0,.nil,hacc⟩
 ·show (gG fr σ).length=N.length
  unfold gG; rw [bi4]; exact S.len
end
noncomputable def kO (X:Cx) (ifs:List Expr) (t:TT):Prop:=
 ∀ (pins:List (Addr × Obj)) (s:Shared) (σ:St) (H:Hp) (Q:Bool->Hp->Prop),a8 X pins σ H s->t σ H Q->
  wpAny (model X.prog X.w) X.A (forIn ifs true fun c r=>if r=true then do let ok <- isTrue c X.env (eval c X.env); pure (ForInStep.yield ok) else pure (ForInStep.yield r)) (TP X pins σ Q) X.xe s
noncomputable def vU:TT:=fun _ H Q=>Q true H
theorem p9 {X:Cx}:kO X [] vU:=fun _ _ _ H _ I h=>wpAny_tests_nil ⟨H,I,h⟩
theorem aw4 {X:Cx}{c:Expr}{t:TT} (h:PT X c t):kO X [c] t:=fun pins s σ H Q I hq=>wpAny_tests_one (h pins s σ H Q I hq)
section
variable {prog : Program} {w : World} {A : Around}
noncomputable def vV (prog:Program) (w:World) (A:Around) (elt tg:Expr) (ifs:List Expr) (it acc:Value) (env:Env) (lost:Value->Shared->Prop) (stop next:Shared->Prop) (s:Shared):Prop:=
 let M:=model prog w
 let tests:Sem Bool:=forIn ifs true fun c r=>if r=true then do let ok <- isTrue c env (eval c env); pure (ForInStep.yield ok) else pure (ForInStep.yield r)
 let put:Shared->Prop:=wpAny M A (eval elt env) (fun x=>wpAny M A (call (.builtin "list.append") [acc,x]) (fun _=>next) lost) lost
 let taken:Value->Shared->Prop:=fun v=>wpAny M A (letOwnedTupleGo tg it v) (fun _=>wpAny M A (assign tg env v) (fun _=>wpAny M A tests (fun ok s'=>if ok=true then put s' else next s') lost) lost) lost
 wpAny M A (pyNext it) (fun r s'=>match r with
  | none=>stop s'
  | some v=>taken v s') lost s
theorem aw5 {R:Result->Shared->Prop}{s:Shared}{elt tg iter:Expr}{ifs:List Expr}{scope:Scope}{pos:Pos}{it acc:Value}{env:Env} (I:Nat->Shared->Prop)
  (turn:∀ n s,I n s->vV prog w A elt tg ifs it acc env (notedBy (model prog w) A env fun e=>R (.error e)) (R (.ok .next)) (fun s'=>∃ m,m < n/\I m s') s) (n:Nat) (h:I n s) :
  codeAny (model prog w) A (.compLoop (.ListComp elt [⟨tg,iter,ifs,0⟩] scope pos) 0 it acc env) R s:=by
 apply codeAny_loop rfl I _ n h
 intro k s1 h1
 change wpAny _ A ((compTurn _ 0 it acc env).onRaise (fun x=>do noteFrame x env; theTreesLotGoes x)) _ _ s1
 apply wpAny_noted
 rw [compTurn_list]
 have t:=turn k s1 h1
 unfold vV at t
 apply bh8
 apply wpAny_standAt
 apply bh8
 refine bq7 t (fun r s2 h2=>?_) fun _ _ z=>z
 cases r with
 | none=>exact bj3 h2
 | some v=>
  apply bh8
  refine bq7 h2 (fun _ s3 h3=>?_) fun _ _ z=>z
  apply bh8
  refine bq7 h3 (fun _ s4 h4=>?_) fun _ _ z=>z
  apply bh8
  refine bq7 h4 (fun ok s5 h5=>?_) fun _ _ z=>z
  cases ok with
  | false=>exact bj3 ⟨rfl,h5⟩
  | true=>
   apply bh8
   apply bh8
   refine bq7 h5 (fun x s6 h6=>?_) fun _ _ z=>z
   apply bh8
   exact bq7 h6 (fun _ s7 h7=>bj3 (bj3 ⟨rfl,h7⟩)) fun _ _ z=>z
end
noncomputable def pA (g:TG) (tc:TT) (te:TE) (σ0:St) (J:It) (D:Addr) (Q:VK) (W:Nat->Nat->List V->Hp->Prop):Prop:=
 ∀ i m acc H',W i m acc H'->H' D=some (.lst acc)/\((J.stop i H'/\Q (.ref D) H') ∨ (J.go i H'/\∀ x H2,J.yld i H' x H2->g x σ0 H2 fun σ2 H3=>Wk σ0 σ2/\tc σ2 H3 fun b H4=>
  if b=true then te σ2 H4 fun v H5=>H5 D=some (.lst acc)/\acc.length < sizeLine/\∃ m',m' < m/\W (i+1) m' (acc ++ [v]) (upd H5 D (.lst (acc ++ [v]))) else ∃ m',m' < m/\W (i+1) m' acc H4))
noncomputable def L5 (wi:TI) (fr:List (Option Nat)) (g:TG) (tc:TT) (te:TE):TE:=fun σ H Q=>wi σ H fun J H1=>∀ D,H1 D=none->
 ∃ W:Nat->Nat->List V->Hp->Prop,(∃ m,W 0 m [] (upd H1 D (.lst [])))/\pA g tc te (gG fr σ) J D Q W
section
variable {M : Model} {A : Around} {E : Value → Shared → Prop} {s : Shared}
theorem aw6 {scope:Scope}{globals:Addr}{cl:List (Str × Addr)}{qual:Str}{func:Option Addr}{code:Value}{builtins:Addr}{outer:Env}{Q:Env->Shared->Prop}
  (hQ:∀ h',h'.Ns s.heap.objs.size (fun _=>none)->(∀ b o,s.heap.get? b=some o->h'.get? b=some o)->CellsOk h' (s.heap.objs.size+1) (cellsFrom (s.heap.objs.size+1) scope.names [])->
   Q (newEnv scope s.heap.objs.size globals (cellsFrom (s.heap.objs.size+1) scope.names cl) qual func code (some outer) builtins) { s with heap:=h' }) :
  wpAny M A (newFunctionEnv scope globals cl [] qual func code (some outer) builtins) Q E s:=by
 simp only [newFunctionEnv,Option.isSome_some,if_true]
 refine bh8 (wpAny_alloc ?_)
 refine bh8 (wpAny_layCells _ (fun name kind cells=>by cases hkc:kind == NameKind.cell <;> simp [hkc]) _ _ _ _ ?_)
 have ok:=cellsFrom_ok scope.names (s.heap.push { cls:=.type "dict",data:=.dict #[] }) (s.heap.objs.size+1) [] ⟨fun _ _ hm=>(nomatch hm),bu1⟩ (by rw [bx4]; exact bi8 _)
 rw [bx4] at ok
 rw [show ({ s with heap:=s.heap.push { cls:=.type "dict",data:=.dict #[] } }:Shared).heap.objs.size=s.heap.objs.size+1 from bx4 ..]
 rw [List.forIn_nil]
 refine bh8 (bj3 (bj3 (hQ _ ((Heap.Ns.new s.heap (.type "dict")).keeps (pushCells_keeps _ _)) (fun b o e=>pushCells_keeps _ _ b o (bi1 _ e)) ok)))
end
section
variable {X : Cx} {pins : List (Addr × Obj)} {σ : St} {H : Hp} {s : Shared} {scope : Scope} {N : List Str} {fr : List (Option Nat)} {tg iter elt : Expr} {ifs : List Expr} {pos : Pos} {wi : TI} {g : TG} {tc : TT} {te : TE}
structure mT (X:Cx) (scope:Scope) (N:List Str) (tg:Expr) (ifs:List Expr) (elt:Expr) (s:Shared) (H:Hp) (g:TG) (tc:TT) (te:TE):Prop where
 tg:∀ (C:Addr) (fp:List Addr),PG (bP X scope N s H C fp fun _ _=>False) tg g
 ifs:∀ (C:Addr) (fp:List Addr),kO (bP X scope N s H C fp fun _ _=>False) ifs tc
 elt:∀ (C:Addr) (fp:List Addr),PE (bP X scope N s H C fp fun _ _=>False) elt te
structure pB (X:Cx) (scope:Scope) (N:List Str) (tg:Expr) (ifs:List Expr) (elt:Expr) (g:TG) (tc:TT) (te:TE):Prop where
 tg:∀ (s:Shared) (H:Hp) (C:Addr) (fp:List Addr),PG (bP X scope N s H C fp fun _ _=>False) tg g
 ifs:∀ (s:Shared) (H:Hp) (C:Addr) (fp:List Addr),kO (bP X scope N s H C fp fun _ _=>False) ifs tc
 elt:∀ (s:Shared) (H:Hp) (C:Addr) (fp:List Addr),PE (bP X scope N s H C fp fun _ _=>False) elt te
theorem pB.at (B:pB X scope N tg ifs elt g tc te) (s:Shared) (H:Hp):mT X scope N tg ifs elt s H g tc te:=⟨B.tg s H,B.ifs s H,B.elt s H⟩
theorem aw7 {C:Addr}{fp:List Addr}{E:Value->Shared->Prop}{pins':List (Addr × Obj)}{σ':St}{H':Hp}{s':Shared} (I:a8 X pins σ H s) (hf:∀ b ∈ fp,hV X pins H b) (I':a8 (bP X scope N s H C fp E) pins' σ' H' s'):a8 X pins σ H' s':=
 I.call' (ch:=fp) I'.os I'.base I'.hok I'.bare fun b hb=>⟨(hf b hb).2.2.2.1,(hf b hb).2.1,(hf b hb).2.2.2.2.1,(hf b hb).2.2.2.2.2⟩
theorem rS {Rr:Value->Addr->Result->Shared->Prop}{J:It}{fp:List Addr}{it:Addr}{tn:Nat->Heap->Prop}{Q:VK}
  (hc:X.calm=true) (S:cP X scope N fr) (B:mT X scope N tg ifs elt s H g tc te) (I:a8 X pins σ H s) (T:jH X.prog X.w X.K tg J fp it tn) (hst:tn 0 s.heap) (hf:∀ b ∈ fp,hV X pins H b)
  (h:∀ D,H D=none->∃ W:Nat->Nat->List V->Hp->Prop,(∃ m,W 0 m [] (upd H D (.lst [])))/\pA g tc te (gG fr σ) J D Q W)
  (hend:∀ (D C:Addr) (s':Shared) (H':Hp) (m:Str->Option Value),s.heap.objs.size<=C->s.heap.objs.size<=D->a8 X pins σ H' s'->s'.heap.Ns C m->H' C=none->Q (.ref D) H'->Rr (.ref D) C (.ok .next) s') :
  wpAny (model X.prog X.w) X.A (newList []) (fun acc s₃=>wpAny (model X.prog X.w) X.A (newFunctionEnv scope X.env.globals (eY X.env.cells scope.names []) [] X.env.qual none .none (some X.env)) (fun cenv s₄=>
   codeAny (model X.prog X.w) X.A (.compStart (.ListComp elt [⟨tg,iter,ifs,0⟩] scope pos) 0 (.ref it) acc { cenv with scope:=relabel scope X.env }) (Rr acc cenv.locals) s₄) X.xe s₃) X.xe s:=by
 refine bq5 (aw6 (fun h₁ hns₁ keep₁ hco₁=>?_))
 dsimp only at hns₁ keep₁ hco₁ ⊢
 generalize hH2:s.heap.push { cls:=.type "list",dict:=none,data:=.seq ([]:List Value).toArray }=H2 at hns₁ keep₁ hco₁ ⊢
 have hC:H2.objs.size=s.heap.objs.size+1:=by rw [<- hH2,bx4]
 have hDC:s.heap.objs.size < H2.objs.size:=by rw [hC]; exact Nat.lt_succ_self _
 have hCle:s.heap.objs.size<=H2.objs.size:=by rw [hC]; exact Nat.le_succ _
 have old:∀ b o,s.heap.get? b=some o->h₁.get? b=some o:=fun b o e=>keep₁ b o (hH2 ▸ bi1 _ e)
 have hacc:h₁.get? s.heap.objs.size=some { cls:=.type "list",data:=.seq #[] 0 }:=keep₁ _ _ (hH2 ▸ bk0 _ rfl)
 have hfl:∀ b ∈ fp,b < s.heap.objs.size:=fun b hb=>by obtain ⟨o,e,_⟩:=T.obj _ _ hst b hb; exact bk1 e
 obtain ⟨W,⟨m0,w0⟩,turn⟩:=h s.heap.objs.size (I.hok.fresh (bi8 _))
 have st1:tn 0 h₁:=T.keep _ _ _ hst fun b _ o e=>old b o e
 have fr0:∀ b ∈ fp,upd H s.heap.objs.size (.lst []) b=none:=fun b hb=>by rw [aR (bm1 (hfl b hb))]; exact (hf b hb).1
 have stat:∀ {H':Hp},(∀ b ∈ fp,H' b=none)->∀ b ∈ fp,hV (bP X scope N s H H2.objs.size fp fun _ _=>False) [] H' b:=fun {H'} hn b hb=>by
  have f:=hf b hb
  refine⟨hn b hb,bm1 (bj9 (hfl b hb) hCle),fun z=>?_,.inl hb,fun x c e=>(lO e).elim (fun z=>bs1 (Nat.lt_trans (bj9 (hfl b hb) hCle) (hco₁.empty x c z).2)) fun z=>f.2.2.2.2.1 x c (rO scope.names [] (S.cells I) (fun _ _ z=>by simp at z) z.2),fun p hp=>absurd (show p ∈ ([]:List (Addr × Obj)) from hp) (by simp)⟩
  rcases bj1.mp (I.stkSub b z) with e | e
  ·exact f.2.1 e
  ·exact f.2.2.1 e
 generalize hX:bP X scope N s H H2.objs.size fp (fun _ _=>False)=Y at stat
 have I0:a8 Y [] (gG fr σ) (upd H s.heap.objs.size (.lst [])) { s with heap:=h₁ }:=hX ▸ aw3 S I hf hfl (bi8 _) hCle hDC old hns₁ hacc hco₁
 have bt:PG Y tg g:=hX ▸ B.tg H2.objs.size fp
 have bi:kO Y ifs tc:=hX ▸ B.ifs H2.objs.size fp
 have be:PE Y elt te:=hX ▸ B.elt H2.objs.size fp
 have eP:Y.prog=X.prog:=by rw [<- hX]; rfl
 have ew:Y.w=X.w:=by rw [<- hX]; rfl
 have eK:Y.K=X.K:=by rw [<- hX]; rfl
 have eA:Y.A=X.A:=by rw [<- hX]; rfl
 have eE:Y.env=compEnvC scope (i6 X scope H2.objs.size) H2.objs.size X.env:=by rw [<- hX]; rfl
 have eX:Y.xe=fun _ _=>False:=by rw [<- hX]; rfl
 have ec:Y.calm=true:=by rw [<- hX]; exact hc
 have never:∀ {E:Value->Shared->Prop} (e:Value) (s':Shared),Y.xe e s'->E e s':=fun {E} e s' z=>by rw [eX] at z; exact z.elim
 have out:∀ {pins' σ' H' s'},a8 Y pins' σ' H' s'->a8 X pins σ H' s':=fun {_ _ _ _} I'=>aw7 (C:=H2.objs.size) (E:=fun _ _=>False) (scope:=scope) (N:=N) I hf (hX ▸ I')
 have loop:codeAny (model X.prog X.w) X.A (.compLoop (.ListComp elt [⟨tg,iter,ifs,0⟩] scope pos) 0 (.ref it) (.ref s.heap.objs.size) (compEnvC scope (i6 X scope H2.objs.size) H2.objs.size X.env))
   (Rr (.ref s.heap.objs.size) H2.objs.size) { s with heap:=h₁ }:=by
  refine aw5 (fun n s'=>∃ i acc H',a8 Y [] (gG fr σ) H' s'/\tn i s'.heap/\(∀ b ∈ fp,H' b=none)/\W i n acc H') ?_ m0 ⟨0,[],_,I0,st1,fr0,w0⟩
  rintro n s3 ⟨i,acc,H3,I3,st3,fr3,w3⟩
  unfold vV
  dsimp only
  obtain ⟨hD3,step⟩:=turn i n acc H3 w3
  rcases step with ⟨stop,qn⟩ | ⟨go,step⟩
  ·have z:=T.done Y eP ew eK ec i [] s3 _ H3 (notedBy (model X.prog X.w) X.A (compEnvC scope (i6 X scope H2.objs.size) H2.objs.size X.env) fun e s'=>Rr (.ref s.heap.objs.size) H2.objs.size (.error e) s') I3 (stat fr3) st3 stop
   rw [eA] at z
   refine aQ z fun r s4 ⟨hr,I4⟩=>?_
   subst hr
   obtain ⟨m4,hn4,_⟩:=I4.loc
   rw [eE] at hn4
   have f4:=I4.free
   rw [eE] at f4
   exact hend _ _ s4 H3 m4 hCle (bi8 _) (out I4) hn4 f4 qn
  ·have z:=T.item Y eP ew eK ec i [] s3 _ H3 (notedBy (model X.prog X.w) X.A (compEnvC scope (i6 X scope H2.objs.size) H2.objs.size X.env) fun e s'=>Rr (.ref s.heap.objs.size) H2.objs.size (.error e) s') I3 (stat fr3) st3 go
   rw [eA] at z
   refine aQ z fun r s4 ⟨u,hr,h4⟩=>?_
   subst hr
   refine aQ h4 fun _ s5 ⟨x,H5,I5,r5,y5,st5,fr5⟩=>?_
   have I5':=I5.pinned (stat fr5) (T.obj _ _ st5)
   have q1:=bt _ s5 _ H5 x u _ I5' r5 (step x H5 y5)
   rw [eP,ew,eA,eE] at q1
   refine bq7 q1 (fun _ s6 ⟨σ6,H6,I6,wk,q6⟩=>?_) never
   have q2:=bi _ s6 σ6 H6 _ I6 q6
   rw [eP,ew,eA,eE] at q2
   refine bq7 q2 (fun b s7 ⟨H7,I7,q7⟩=>?_) never
   have again:∀ {H8:Hp}{s8:Shared}{acc':List V},a8 Y ([] ++ oN fp s5.heap) σ6 H8 s8->(∃ m',m' < n/\W (i+1) m' acc' H8)->∃ m,m < n/\∃ i acc H',a8 Y [] (gG fr σ) H' s8/\tn i s8.heap/\(∀ b ∈ fp,H' b=none)/\W i m acc H':=fun {H8 s8 acc'} I8 n8=>by
    obtain ⟨m',hm,w8⟩:=n8
    refine⟨m',hm,i+1,acc',H8,(I8.unpinned).weak wk.1 wk.2,T.keep _ _ _ st5 fun b hb o e=>(I8.pin (b,o) (bk5 _ (bk5 _ (rA hb e)))).1,fun b hb=>?_,w8⟩
    obtain ⟨o,e,d⟩:=T.obj _ _ st5 b hb
    exact (I8.pin (b,o) (bk5 _ (bk5 _ (rA hb e)))).2.1
   cases b with
   | false=>
    rw [if_neg bk3] at q7 ⊢
    exact again I7 q7
   | true=>
    rw [if_pos rfl] at q7 ⊢
    have q3:=be _ s7 σ6 H7 _ I7 q7
    rw [eP,ew,eA,eE] at q3
    refine bq7 q3 (fun v s8 ⟨y,H8,I8,r8,hD8,hz8,q8⟩=>?_) never
    have q4:=lN _ s8 σ6 H8 (.ref s.heap.objs.size) [y] (.ref s.heap.objs.size) [v] (fun _ H9=>∃ m',m' < n/\W (i+1) m' (acc ++ [y]) H9) I8 rfl (.cons r8 .nil) ⟨_,_,_,rfl,rfl,hD8,hz8,q8⟩
    rw [eP,ew,eA] at q4
    exact bq7 q4 (fun _ s9 ⟨_,H9,I9,_,q9⟩=>again I9 q9) never
 exact codeAny_compStart_list loop (T.self _ 0 _ _ _ st1 loop)
end
section
variable {X : Cx} {scope : Scope} {N : List Str} {fr : List (Option Nat)} {tg iter elt : Expr} {ifs : List Expr} {pos : Pos} {wi : TI} {g : TG} {tc : TT} {te : TE}
theorem a8.drop {pins:List (Addr × Obj)}{σ:St}{H H':Hp}{s s':Shared}{C:Addr}{h':Heap} (I0:a8 X pins σ H s) (hC:s.heap.objs.size<=C) {σ':St} (I:a8 X pins σ' H' s') (hn:H' C=none) (sb:Heap.SameBut C s'.heap h'):a8 X pins σ' H' { s' with heap:=h' }:=by
 refine I.turned (t':=s'.toks) (it:=C) (fun b o hb e=>(sb.2 b hb).trans e) hn (bs1 (bj9 I0.lt hC)) (.inr (bm6 I0.sz hC)) (fun x c e z=>?_) fun p hp z=>?_
 ·obtain ⟨v,q⟩:=I0.cell x c e
  exact absurd (bj9 q.lt (by rw [z]; exact hC)) (bn2 _)
 ·exact absurd (bj9 (bk1 (I0.pin p hp).1) (by rw [z]; exact hC)) (bn2 _)
theorem L6 (hc:X.calm=true) (S:cP X scope N fr) (hi:PI X tg iter wi) (B:pB X scope N tg ifs elt g tc te)
  (hs:∀ x,foldedSetIterable iter X.env x=pure x:=by intro _; rfl):PE X (.ListComp elt [⟨tg,iter,ifs,0⟩] scope pos) (L5 wi fr g tc te):=by
 intro pins s σ H Q I h
 rw [eval_ListComp]
 refine wpAny_comprehension_free (use:=none) rfl hs (rN (S.cells I)) S.kind S.names (aQ (hi pins s σ H _ I h) fun v s1 h1=>aQ h1 fun itv s2 h2=>?_)
 obtain ⟨it,fp,tn,J,H2,e,I2,T,st2,f2,hW⟩:=h2
 subst e
 refine rS (Rr:=fun acc C=>compPost (model X.prog X.w) X.A X.xe none (EP X pins σ Q) acc C) hc S (B.at _ _) I2 T st2 f2 hW ?_
 intro D C s' H' m hC hD I' hns hHC q
 exact⟨m,hns,fun h' sb=>⟨.ref D,H',I2.drop hC I' hHC sb,rfl,q⟩⟩
theorem L7 {i:Nat}{x:Str}{px spos:Pos} (hc:X.calm=true) (S:cP X scope N fr) (hi:PI X tg iter wi) (B:pB X scope N tg ifs elt g tc te) (hN:X.N.Nodup) (hix:X.N[i]? = some x) (hx:X.env.scope.names.lookup x=some .local)
  (hsw:swapsWith (.ListComp elt [⟨tg,iter,ifs,0⟩] scope pos) (some (.Name x px)) spos.line X.env=pure true) (hs:∀ x,foldedSetIterable iter X.env x=pure x:=by intro _; rfl) :
  PS X (.Assign [.Name x px] (.ListComp elt [⟨tg,iter,ifs,0⟩] scope pos) spos) (iW (L5 wi fr g tc te) (cO i)):=by
 intro pins s σ H D I h
 rw [exec_Assign_Name_used _ _ _ _ hsw]
 refine bh8 (wpAny_standAt (bh8 ?_))
 show wpAny _ _ (do let _ <- comprehension (.ListComp elt [⟨tg,iter,ifs,0⟩] scope pos) scope X.env _ (newList []) false (eval iter X.env) (some (assign (.Name x px) X.env))) _ _ s
 refine bh8 (bq7 (wpAny_comprehension_free (Q:=fun _ s'=>SP X pins D .next s') (use:=some (assign (.Name x px) X.env)) rfl hs (rN (S.cells I)) S.kind S.names (aQ (hi pins s σ H _ I h) fun v s1 h1=>aQ h1 fun itv s2 h2=>?_))
  (fun _ s' hq=>bj3 (bj3 hq)) fun _ _ e=>e)
 obtain ⟨it,fp,tn,J,H2,e,I2,T,st2,f2,hW⟩:=h2
 subst e
 refine rS (Rr:=fun acc C=>compPost (model X.prog X.w) X.A X.xe (some (assign (.Name x px) X.env)) (fun _ s'=>SP X pins D .next s') acc C) hc S (B.at _ _) I2 T st2 f2 hW ?_
 intro D' C s' H' m hC hD I' hns hHC q
 refine wpAny_assign_Name (uN I' hN hix (.inl hx) (v:=.ref D') rfl (fun s'' I'' sb=>?_) (.inr hx))
 obtain ⟨a,sb,ha⟩:=sb
 have hCa:C ≠ a:=by
  rcases ha with z | z
  ·rw [z]; exact bs1 (bj9 I2.lt hC)
  ·intro e; subst e
   obtain ⟨v,q⟩:=I2.cell x _ z
   exact absurd (bj9 q.lt hC) (bn2 _)
 exact⟨m,hns.sameBut sb hCa,fun h' sb'=>⟨_,H',I2.drop hC I'' hHC sb',q⟩⟩
variable {gh : Hp → TG} {tch : Hp → TT} {teh : Hp → TE}
noncomputable def vW (wi:TI) (fr:List (Option Nat)) (gh:Hp->TG) (tch:Hp->TT) (teh:Hp->TE):TE:=fun σ H Q=>wi σ H fun J H1=>∀ D,H1 D=none->
 ∃ W:Nat->Nat->List V->Hp->Prop,(∃ m,W 0 m [] (upd H1 D (.lst [])))/\pA (gh H1) (tch H1) (teh H1) (gG fr σ) J D Q W
theorem vX (hc:X.calm=true) (S:cP X scope N fr) (hi:PI X tg iter wi) (B:∀ (s:Shared) (H:Hp),mT X scope N tg ifs elt s H (gh H) (tch H) (teh H))
  (hs:∀ x,foldedSetIterable iter X.env x=pure x:=by intro _; rfl):PE X (.ListComp elt [⟨tg,iter,ifs,0⟩] scope pos) (vW wi fr gh tch teh):=by
 intro pins s σ H Q I h
 rw [eval_ListComp]
 refine wpAny_comprehension_free (use:=none) rfl hs (rN (S.cells I)) S.kind S.names (aQ (hi pins s σ H _ I h) fun v s1 h1=>aQ h1 fun itv s2 h2=>?_)
 obtain ⟨it,fp,tn,J,H2,e,I2,T,st2,f2,hW⟩:=h2
 subst e
 refine rS (Rr:=fun acc C=>compPost (model X.prog X.w) X.A X.xe none (EP X pins σ Q) acc C) hc S (B _ _) I2 T st2 f2 hW ?_
 intro D C s' H' m hC hD I' hns hHC q
 exact⟨m,hns,fun h' sb=>⟨.ref D,H',I2.drop hC I' hHC sb,rfl,q⟩⟩
theorem vY {i:Nat}{x:Str}{px spos:Pos} (hc:X.calm=true) (S:cP X scope N fr) (hi:PI X tg iter wi) (B:∀ (s:Shared) (H:Hp),mT X scope N tg ifs elt s H (gh H) (tch H) (teh H)) (hN:X.N.Nodup) (hix:X.N[i]? = some x) (hx:X.env.scope.names.lookup x=some .local)
  (hsw:swapsWith (.ListComp elt [⟨tg,iter,ifs,0⟩] scope pos) (some (.Name x px)) spos.line X.env=pure true) (hs:∀ x,foldedSetIterable iter X.env x=pure x:=by intro _; rfl) :
  PS X (.Assign [.Name x px] (.ListComp elt [⟨tg,iter,ifs,0⟩] scope pos) spos) (iW (vW wi fr gh tch teh) (cO i)):=by
 intro pins s σ H D I h
 rw [exec_Assign_Name_used _ _ _ _ hsw]
 refine bh8 (wpAny_standAt (bh8 ?_))
 show wpAny _ _ (do let _ <- comprehension (.ListComp elt [⟨tg,iter,ifs,0⟩] scope pos) scope X.env _ (newList []) false (eval iter X.env) (some (assign (.Name x px) X.env))) _ _ s
 refine bh8 (bq7 (wpAny_comprehension_free (Q:=fun _ s'=>SP X pins D .next s') (use:=some (assign (.Name x px) X.env)) rfl hs (rN (S.cells I)) S.kind S.names (aQ (hi pins s σ H _ I h) fun v s1 h1=>aQ h1 fun itv s2 h2=>?_))
  (fun _ s' hq=>bj3 (bj3 hq)) fun _ _ e=>e)
 obtain ⟨it,fp,tn,J,H2,e,I2,T,st2,f2,hW⟩:=h2
 subst e
 refine rS (Rr:=fun acc C=>compPost (model X.prog X.w) X.A X.xe (some (assign (.Name x px) X.env)) (fun _ s'=>SP X pins D .next s') acc C) hc S (B _ _) I2 T st2 f2 hW ?_
 intro D' C s' H' m hC hD I' hns hHC q
 refine wpAny_assign_Name (uN I' hN hix (.inl hx) (v:=.ref D') rfl (fun s'' I'' sb=>?_) (.inr hx))
 obtain ⟨a,sb,ha⟩:=sb
 have hCa:C ≠ a:=by
  rcases ha with z | z
  ·rw [z]; exact bs1 (bj9 I2.lt hC)
  ·intro e; subst e
   obtain ⟨v,q⟩:=I2.cell x _ z
   exact absurd (bj9 q.lt hC) (bn2 _)
 exact⟨m,hns.sameBut sb hCa,fun h' sb'=>⟨_,H',I2.drop hC I'' hHC sb',q⟩⟩
end
theorem bH {H:Hp}{p:Addr} (h:H p=none) (o:HO):aC H (upd H p o):=fun b u q=>by rw [aR (e8 q h)]; exact q
theorem aC.tup {K:PySem.W.Frag}{H H':Hp}{a:Addr}{xs:List V} (e:aC H H') (h:aJ K H a xs):aJ K H' a xs:=by
 rcases h with (h | ⟨o,h⟩) | h
 ·exact .inl (.inl (e _ _ h))
 ·exact .inl (.inr ⟨o,e _ _ h⟩)
 ·exact .inr h
structure L8 (H:Hp) (J:It) (xs:List V):Prop where
 go:∀ i H',aC H H'->i < xs.length->J.go i H'
 yld:∀ i H' x H2,aC H H'->J.yld i H' x H2->i < xs.length->xs[i]? = some x/\H2=H'
 stop:∀ H',aC H H'->J.stop xs.length H'
theorem L9 {K:PySem.W.Frag}{H:Hp}{a:Addr}{xs:List V} (h:aJ K H a xs):L8 H (kL K a) xs:=
 ⟨fun i H' e hi=>⟨xs,xs[i],e.tup h,by simp [hi]⟩,fun i H' x H2 e y hi=>⟨y.2 xs (e.tup h),y.1⟩,fun H' e=>⟨xs,e.tup h,bi8 _⟩⟩
noncomputable def jN (lo:Int) (n:Nat):List V:=(List.range n).map fun (i:Nat)=>V.int (lo+(i:Int))
theorem vZ (lo:Int) (n:Nat):(jN lo n).length=n:=by unfold jN; rw [bi4,List.length_range]
noncomputable def CW (H1:Hp) (D:Addr) (n:Nat) (Pv:Nat->List V->Hp->Prop):Nat->Nat->List V->Hp->Prop:=fun i m acc H'=>m=n - i/\i<=n/\acc.length<=i/\aC H1 H'/\H' D=some (.lst acc)/\Pv i acc H'
noncomputable def w4 (H1:Hp) (D:Addr) (n:Nat) (Pv:Nat->List V->Hp->Prop) (i:Nat) (acc:List V) (v:V) (H5:Hp):Prop:=H5 D=some (.lst acc)/\acc.length < sizeLine/\∃ m',m' < n - i/\CW H1 D n Pv (i+1) m' (acc ++ [v]) (upd H5 D (.lst (acc ++ [v])))
noncomputable def M0 (H1:Hp) (D:Addr) (n:Nat) (Pv:Nat->List V->Hp->Prop) (i:Nat) (acc:List V) (H4:Hp):Prop:=∃ m',m' < n - i/\CW H1 D n Pv (i+1) m' acc H4
structure rT (H1:Hp) (D:Addr) (n i:Nat) (acc:List V) (H':Hp):Prop where
 lt:i < n
 few:acc.length<=i
 sz:n<=sizeLine
 same:aC H1 H'
 new:H1 D=none
 acc:H' D=some (.lst acc)
theorem rT.yes {H1:Hp}{D:Addr}{n i:Nat}{acc:List V}{H' H5:Hp}{Pv:Nat->List V->Hp->Prop}{v:V} (c:rT H1 D n i acc H') (s:aC H' H5) (p:Pv (i+1) (acc ++ [v]) (upd H5 D (.lst (acc ++ [v])))):w4 H1 D n Pv i acc v H5:=by
 refine⟨s _ _ c.acc,Nat.lt_of_le_of_lt c.few (bj9 c.lt c.sz),_,?_,rfl,c.lt,?_,fun b o e=>?_,bI,p⟩
 ·have:=c.lt; omega
 ·rw [bj4,bm8]; exact Nat.succ_le_succ c.few
 ·rw [aR (e8 e c.new)]; exact s _ _ (c.same _ _ e)
theorem M1 {H1:Hp}{J:It}{xs:List V}{g:TG}{tc:TT}{te:TE}{σ0:St}{Q:VK} (O:L8 H1 J xs) (Pv:Nat->List V->Hp->Prop) (hn:xs.length<=sizeLine)
  (h0:∀ D,H1 D=none->Pv 0 [] (upd H1 D (.lst [])))
  (hs:∀ i x acc D H',xs[i]? = some x->rT H1 D xs.length i acc H'->Pv i acc H'->g x σ0 H' fun σ2 H3=>Wk σ0 σ2/\tc σ2 H3 fun b H4=>
   if b=true then te σ2 H4 fun v H5=>w4 H1 D xs.length Pv i acc v H5 else M0 H1 D xs.length Pv i acc H4)
  (hd:∀ D acc H',H1 D=none->aC H1 H'->H' D=some (.lst acc)->acc.length<=xs.length->Pv xs.length acc H'->Q (.ref D) H') :
  ∀ D,H1 D=none->∃ W:Nat->Nat->List V->Hp->Prop,(∃ m,W 0 m [] (upd H1 D (.lst [])))/\pA g tc te σ0 J D Q W:=by
 intro D hD
 refine⟨CW H1 D xs.length Pv,⟨xs.length,rfl,bm9 _,bi8 _,bH hD _,bI,h0 D hD⟩,?_⟩
 rintro i m acc H' ⟨rfl,hi,ha,sm,hDa,p⟩
 refine⟨hDa,?_⟩
 by_cases hlt:i < xs.length
 ·refine .inr ⟨O.go i H' sm hlt,fun x H2 y=>?_⟩
  obtain ⟨hx,e⟩:=O.yld i H' x H2 sm y hlt
  subst e
  exact hs i x acc D H2 hx ⟨hlt,ha,hn,sm,hD,hDa⟩ p
 ·have e:i=xs.length:=by omega
  subst e
  exact .inl ⟨O.stop H' sm,hd D acc H' hD sm hDa ha p⟩
end L2
namespace Srt
open PySem PySem.W PyProof.Rows
noncomputable abbrev G (p:Array Nat) (i:Nat):Nat:=p.getD i 0
theorem pC {p q:Array Nat}{i j:Nat} (h:p[i]? = q[j]?):G p i=G q j:=by
 unfold G; rw [bv6,bv6,h]
theorem w5 {p:Array Nat}{i j:Nat} (hj:j<=p.size) (k:Nat):G (kas_rev p i j) k=if i<=k/\k < j then G p (i+j - 1 - k) else G p k:=by
 have e:=getElem?_mirror_all (i:=i) hj k
 unfold kas_rev
 by_cases h1:i<=k/\k < j
 ·rw [if_pos h1] at e ⊢; exact pC e
 ·rw [if_neg h1] at e ⊢; exact pC e
theorem aw8 {p:Array Nat}{src d:Nat} (hs:src < p.size) (hd:d<=src) (k:Nat):G (bubble p src d) k=if k=src - d then G p src else if src - d < k/\k<=src then G p (k - 1) else G p k:=by
 have e:=getElem?_bubble hs d hd k
 by_cases h1:k=src - d
 ·rw [if_pos h1] at e ⊢; exact pC e
 ·rw [if_neg h1] at e ⊢
  by_cases h2:src - d < k/\k<=src
  ·rw [if_pos h2] at e ⊢; exact pC e
  ·rw [if_neg h2] at e ⊢; exact pC e
noncomputable def PP (n:Nat) (p:Array Nat):Prop:=p.toList.Perm (List.range n)
theorem PP.size {n:Nat}{p:Array Nat} (h:PP n p):p.size=n:=by
 have:=h.length_eq
 rw [List.length_range] at this
 simpa using this
theorem PP.lt {n:Nat}{p:Array Nat} (h:PP n p) {k:Nat} (hk:k < n):G p k < n:=by
 have hs:=h.size
 have hk':k < p.toList.length:=by simpa [hs] using hk
 have e:G p k=p.toList[k]:=by
  unfold G; rw [bv6]; simp [hs,hk]
 have m:p.toList[k] ∈ p.toList:=List.getElem_mem hk'
 rw [e]
 exact bv2.mp (h.mem_iff.mp m)
theorem PP.of {n:Nat}{p q:Array Nat} (h:PP n p) (e:q.Perm p):PP n q:=(Array.perm_iff_toList_perm.mp e).trans h
theorem PP.rev {n:Nat}{p:Array Nat} (h:PP n p) (i j:Nat):PP n (kas_rev p i j):=h.of (mirror_perm _ _ _ _)
theorem PP.bub {n:Nat}{p:Array Nat} (h:PP n p) (i j:Nat):PP n (bubble p i j):=h.of (bubble_perm _ _ _)
structure rV (c:Nat->Nat->Bool):Prop where
 asym:∀ {i j},c i j=true->c j i=false
 ntr:∀ {i j k},c i j=false->c j k=false->c i k=false
section
variable {c : Nat → Nat → Bool} (O : rV c)
noncomputable def Le (c:Nat->Nat->Bool) (i j:Nat):Prop:=c j i=false
include O
theorem le_refl (i:Nat):Le c i i:=by
 unfold Le
 cases h:c i i with
 | false=>rfl
 | true=>have:=O.asym h; rw [h] at this; exact this
theorem le_trans {i j k:Nat} (h1:Le c i j) (h2:Le c j k):Le c i k:=O.ntr h2 h1
theorem rW {i j:Nat} (h:c i j=true):Le c i j:=O.asym h
omit O
noncomputable def gH (c:Nat->Nat->Bool) (p:Array Nat) (n:Nat):Prop:=∀ a b,a<=b->b < n->Le c (G p a) (G p b)
noncomputable def kQ (c:Nat->Nat->Bool) (p:Array Nat) (n:Nat):Prop:=∀ a b,a<=b->b < n->Le c (G p b) (G p a)
include O
theorem aw9 {p:Array Nat}{n:Nat} (h:gH c p n) (h1:1<=n) (hl:Le c (G p (n - 1)) (G p n)):gH c p (n+1):=fun a b hab hb=>by
 by_cases hbn:b < n
 ·exact h a b hab hbn
 ·have e:b=n:=by omega
  subst e
  by_cases han:a=b
  ·subst han; exact le_refl O _
  ·exact le_trans O (h a (b - 1) (by omega) (by omega)) hl
theorem rX {p:Array Nat}{n:Nat} (h:kQ c p n) (h1:1<=n) (hl:Le c (G p n) (G p (n - 1))):kQ c p (n+1):=fun a b hab hb=>by
 by_cases hbn:b < n
 ·exact h a b hab hbn
 ·have e:b=n:=by omega
  subst e
  by_cases han:a=b
  ·subst han; exact le_refl O _
  ·exact le_trans O hl (h a (b - 1) (by omega) (by omega))
omit O
noncomputable def cA {α:Type} (n:Nat) (c:Nat->Nat->Bool) (R:α->Prop):KasT α->Prop
 | .ret a=>R a
 | .ask i j k=>i < n/\j < n/\cA n c R (k (c i j))
theorem cA.mono {α:Type}{n:Nat}{R R':α->Prop} (h:∀ a,R a->R' a):∀ (t:KasT α),cA n c R t->cA n c R' t
 | .ret a,q=>h a q
 | .ask i j k,q=>⟨q.1,q.2.1,cA.mono h (k (c i j)) q.2.2⟩
theorem cA.bind {α β:Type}{n:Nat}{R:α->Prop}{R':β->Prop}{f:α->KasT β} (h:∀ a,R a->cA n c R' (f a)):∀ (t:KasT α),cA n c R t->cA n c R' (t.bind f)
 | .ret a,q=>h a q
 | .ask i j k,q=>⟨q.1,q.2.1,cA.bind h (k (c i j)) q.2.2⟩
theorem cA.run {α:Type}{n:Nat}{R:α->Prop}{I:Shared->Prop}{cmp:Nat->Nat->(Bool->Shared->Prop)->Shared->Prop}{Q:α->Shared->Prop}
  (hc:∀ i j C s,i < n->j < n->I s->(∀ s',I s'->C (c i j) s')->cmp i j C s) (hQ:∀ a s,R a->I s->Q a s):∀ (t:KasT α) (s:Shared),I s->cA n c R t->t.kasWp cmp Q s
 | .ret a,s,hI,q=>hQ a s q hI
 | .ask i j k,s,hI,q=>hc i j _ s q.1 q.2.1 hI fun s' hI'=>cA.run hc hQ (k (c i j)) s' hI' q.2.2
include O
theorem w6 {n:Nat}{p:Array Nat} (hp:PP n p):∀ (f m:Nat),1<=m->m+f<=n->gH c p m->cA n c (fun r=>m<=r/\r<=m+f/\gH c p r/\(r < m+f->c (G p r) (G p (r - 1))=true)) (kas_asc p f m)
 | 0,m,_,_,h=>⟨bi8 _,bi8 _,h,fun z=>absurd z (bn2 _)⟩
 | f+1,m,h1,h2,h=>by
  refine⟨hp.lt (by omega),hp.lt (by omega),?_⟩
  by_cases hc:c (p.getD m 0) (p.getD (m - 1) 0)=true
  ·simp only [hc,if_true]
   exact⟨bi8 _,by omega,h,fun _=>hc⟩
  ·have hc':c (p.getD m 0) (p.getD (m - 1) 0)=false:=bu2.mpr hc
   simp only [hc',bl5,bp9]
   refine cA.mono (fun r q=>⟨by omega,by omega,q.2.2.1,fun z=>q.2.2.2 (by omega)⟩) _ (w6 hp f (m+1) (by omega) (by omega) (aw9 O h h1 hc'))
omit O
noncomputable def lP (c:Nat->Nat->Bool) (i j:Nat):Prop:=Le c i j/\Le c j i
include O
theorem w9 {p q:Array Nat}{n:Nat} (h:kQ c p n) (e:∀ k,k < n->lP c (G q k) (G p k)):kQ c q n:=fun a b hab hb=>
 le_trans O (e b hb).1 (le_trans O (h a b hab hb) (e a (by omega)).2)
theorem M3 {n m i:Nat}{p:Array Nat} (hp:PP n p) (hm:m<=n) (h:∀ a,i<=a->a < m->lP c (G p a) (G p (m - 1))):∀ k,lP c (G (kas_rev p i m) k) (G p k):=fun k=>by
 rw [w5 (by rw [hp.size]; exact hm)]
 by_cases hk:i<=k/\k < m
 ·rw [if_pos hk]
  have h1:=h (i+m - 1 - k) (by omega) (by omega)
  have h2:=h k hk.1 hk.2
  exact⟨le_trans O h1.1 h2.2,le_trans O h2.1 h1.2⟩
 ·rw [if_neg hk]; exact⟨le_refl O _,le_refl O _⟩
omit O
noncomputable def DI (c:Nat->Nat->Bool) (n:Nat) (p:Array Nat) (m q:Nat):Prop:=PP n p/\1<=m/\m<=n/\kQ c p m/\q+1<=m/\∀ a,m - (q+1)<=a->a < m->lP c (G p a) (G p (m - 1))
include O
theorem M4 {n m q:Nat}{p:Array Nat} (h:DI c n p m q):PP n (kas_rev p (m - (q+1)) m)/\∀ k,lP c (G (kas_rev p (m - (q+1)) m) k) (G p k):=
 ⟨h.1.rev _ _,M3 O h.1 h.2.2.1 h.2.2.2.2.2⟩
theorem rY {n:Nat}:∀ (f:Nat) (p:Array Nat) (m q:Nat),m+f<=n->DI c n p m q->cA n c (fun r=>DI c n r.1 r.2.1 r.2.2) (kas_desc f p m q)
 | 0,p,m,q,_,h=>h
 | f+1,p,m,q,hf,h=>by
  have hp:=h.1
  have h1:=h.2.1
  refine⟨hp.lt (by omega),hp.lt (by omega),?_⟩
  by_cases hc:c (p.getD m 0) (p.getD (m - 1) 0)=true
  ·simp only [hc,if_true]
   have dn:kQ c p (m+1):=rX O h.2.2.2.1 h1 (rW O hc)
   by_cases hq:q > 0
   ·simp only [hq,if_true]
    obtain ⟨pr,er⟩:=M4 O h
    refine rY f _ (m+1) 0 (by omega) ⟨pr,by omega,by omega,w9 O dn fun k _=>er k,by omega,fun a h1 h2=>?_⟩
    have e:a=m+1 - 1:=by omega
    rw [e]; exact⟨le_refl O _,le_refl O _⟩
   ·simp only [hq,bp9]
    refine rY f p (m+1) 0 (by omega) ⟨hp,by omega,by omega,dn,by omega,fun a h1 h2=>?_⟩
    have e:a=m+1 - 1:=by omega
    rw [e]; exact⟨le_refl O _,le_refl O _⟩
  ·have hc':c (p.getD m 0) (p.getD (m - 1) 0)=false:=bu2.mpr hc
   simp only [hc',bl5,bp9]
   refine⟨hp.lt (by omega),hp.lt (by omega),?_⟩
   by_cases hd:c (p.getD (m - 1) 0) (p.getD m 0)=true
   ·simp only [hd,if_true]
    exact h
   ·have hd':c (p.getD (m - 1) 0) (p.getD m 0)=false:=bu2.mpr hd
    simp only [hd',bl5,bp9]
    have ee:lP c (G p (m - 1)) (G p m):=⟨hc',hd'⟩
    refine rY f p (m+1) (q+1) (by omega) ⟨hp,by omega,by omega,rX O h.2.2.2.1 h1 ee.2,by have:=h.2.2.2.2.1; omega,fun a h1 h2=>?_⟩
    rw [Nat.add_sub_cancel]
    by_cases ha:a=m
    ·rw [ha]; exact⟨le_refl O _,le_refl O _⟩
    ·have z:=h.2.2.2.2.2 a (by omega) (by omega)
     exact⟨le_trans O z.1 ee.1,le_trans O ee.2 z.2⟩
omit O
noncomputable def CI (c:Nat->Nat->Bool) (n:Nat) (r:Nat × Array Nat):Prop:=PP n r.2/\1<=r.1/\r.1<=n/\gH c r.2 r.1
include O
theorem M5 {n m:Nat}{p:Array Nat} (hp:PP n p) (h1:1<=m) (hm:m<=n) (h:kQ c p m):cA n c (CI c n) (kas_tail3 m n p):=by
 have ha:gH c (kas_rev p 0 m) m:=fun a b hab hb=>by
  rw [w5 (by rw [hp.size]; exact hm),w5 (by rw [hp.size]; exact hm),if_pos ⟨bm9 _,by omega⟩,if_pos ⟨bm9 _,hb⟩]
  exact h _ _ (by omega) (by omega)
 refine cA.bind (R:=fun r=>m<=r/\r<=m+(n - m)/\gH c (kas_rev p 0 m) r/\_) (fun r q=>?_) _ (w6 O (hp.rev 0 m) (n - m) m h1 (by omega) ha)
 exact⟨hp.rev _ _,by have:=q.1; omega,by have:=q.2.1; omega,q.2.2.1⟩
theorem M6 {n m:Nat}{p:Array Nat} (hp:PP n p) (h1:1<=m) (hm:m+1<=n) (h:kQ c p (m+1)):cA n c (CI c n) (kas_descPart m n p):=by
 refine cA.bind (R:=fun r=>DI c n r.1 r.2.1 r.2.2) (fun r q=>?_) _ (rY O (n - (m+1)) p (m+1) 0 (by omega) ⟨hp,by omega,hm,h,by omega,fun a h1 h2=>?_⟩)
 ·by_cases hq:r.2.2 > 0
  ·rw [if_pos hq]
   obtain ⟨pr,er⟩:=M4 O q
   exact M5 O pr q.2.1 q.2.2.1 (w9 O q.2.2.2.1 fun k _=>er k)
  ·rw [if_neg hq]
   exact M5 O q.1 q.2.1 q.2.2.1 q.2.2.2.1
 ·have e:a=m+1 - 1:=by omega
  rw [e]; exact⟨le_refl O _,le_refl O _⟩
theorem ax0 {n:Nat}{p:Array Nat} (hp:PP n p) (hn:1<=n):cA n c (CI c n) (kas_count n p):=by
 have a1:gH c p 1:=fun a b hab hb=>by
  have e1:a=0:=by omega
  have e2:b=0:=by omega
  rw [e1,e2]; exact le_refl O _
 refine cA.bind (R:=fun r=>1<=r/\r<=1+(n - 1)/\gH c p r/\(r < 1+(n - 1)->c (G p r) (G p (r - 1))=true)) (fun m q=>?_) _ (w6 O hp (n - 1) 1 (bi8 _) (by omega) a1)
 obtain ⟨q1,q2,q3,q4⟩:=q
 by_cases hm:(m == n)=true
 ·rw [if_pos hm]
  exact⟨hp,q1,by omega,q3⟩
 ·rw [if_neg hm]
  have hne:m ≠ n:=by simpa using hm
  have hc:=q4 (by omega)
  by_cases h1:m > 1
  ·rw [if_pos h1]
   refine⟨hp.lt (by omega),hp.lt (by omega),?_⟩
   by_cases hd:c (p.getD 0 0) (p.getD (m - 1) 0)=true
   ·simp only [hd,if_true]
    exact⟨hp,q1,by omega,q3⟩
   ·have hd':c (p.getD 0 0) (p.getD (m - 1) 0)=false:=bu2.mpr hd
    simp only [hd',bl5,bp9]
    have eq:∀ a,0<=a->a < m->lP c (G p a) (G p (m - 1)):=fun a _ ha=>⟨q3 a (m - 1) (by omega) (by omega),le_trans O hd' (q3 0 a (bm9 _) ha)⟩
    have er:=M3 O hp (by omega:m<=n) eq
    refine M6 O (hp.rev 0 m) q1 (by omega) (w9 O (p:=p) ?_ fun k _=>er k)
    refine rX O (fun a b hab hb=>?_) q1 (rW O hc)
    exact le_trans O (eq b (bm9 _) hb).1 (eq a (bm9 _) (by omega)).2
  ·rw [if_neg h1]
   have e:m=1:=by omega
   subst e
   refine M6 O hp (bi8 _) (by omega) (rX O (fun a b hab hb=>?_) (bi8 _) (rW O hc))
   have e1:a=0:=by omega
   have e2:b=0:=by omega
   rw [e1,e2]; exact le_refl O _
theorem wA {n k:Nat}{p:Array Nat} (hp:PP n p) (hk:k < n) (ha:gH c p k):∀ (f l r:Nat),l<=r->r<=k->r - l<=f->(∀ a,a < l->Le c (G p a) (G p k))->(∀ a,r<=a->a < k->Le c (G p k) (G p a))->
  cA n c (fun l=>l<=k/\(∀ a,a < l->Le c (G p a) (G p k))/\∀ a,l<=a->a < k->Le c (G p k) (G p a)) (kas_place p k f l r)
 | 0,l,r,h1,h2,h3,hl,hr=>⟨by omega,hl,fun a h4 h5=>hr a (by omega) h5⟩
 | f+1,l,r,h1,h2,h3,hl,hr=>by
  unfold kas_place
  by_cases hlr:l >= r
  ·rw [if_pos hlr]
   exact⟨by omega,hl,fun a h4 h5=>hr a (by omega) h5⟩
  ·rw [if_neg hlr]
   refine⟨hp.lt hk,hp.lt (by omega),?_⟩
   by_cases hc:c (p.getD k 0) (p.getD ((l+r) / 2) 0)=true
   ·simp only [hc,if_true]
    exact wA hp hk ha f l ((l+r) / 2) (by omega) (by omega) (by omega) hl fun a h4 h5=>le_trans O (rW O hc) (ha _ _ h4 h5)
   ·have hc':c (p.getD k 0) (p.getD ((l+r) / 2) 0)=false:=bu2.mpr hc
    simp only [hc',bl5,bp9]
    exact wA hp hk ha f ((l+r) / 2+1) r (by omega) h2 (by omega) (fun a h4=>le_trans O (ha a ((l+r) / 2) (by omega) (by omega)) hc') hr
theorem M7 {n:Nat}:∀ (f:Nat) (p:Array Nat) (k:Nat),PP n p->k+f<=n->gH c p k->cA n c (fun q=>PP n q/\gH c q (k+f)) (kas_bin f p k)
 | 0,p,k,hp,_,h=>⟨hp,h⟩
 | f+1,p,k,hp,hk,h=>by
  refine cA.bind (R:=fun l=>l<=k/\(∀ a,a < l->Le c (G p a) (G p k))/\∀ a,l<=a->a < k->Le c (G p k) (G p a)) (fun l q=>?_) _ (wA O hp (by omega) h k 0 k (bm9 _) (bi8 _) (by omega) (fun a z=>absurd z (Nat.not_lt_zero _)) fun a h1 h2=>absurd h2 (by omega))
  obtain ⟨q1,q2,q3⟩:=q
  have e:∀ a,G (bubble p k (k - l)) a=if a=l then G p k else if l < a/\a<=k then G p (a - 1) else G p a:=fun a=>by
   rw [aw8 (by rw [hp.size]; omega) (by omega),show k - (k - l)=l by omega]
  refine cA.mono (fun r z=>⟨z.1,by rw [show k+(f+1)=k+1+f by omega]; exact z.2⟩) _ (M7 f _ (k+1) (hp.bub _ _) (by omega) fun a b hab hb=>?_)
  rw [e,e]
  by_cases ha:a=l
  ·rw [if_pos ha]
   by_cases hb':b=l
   ·rw [if_pos hb']; exact le_refl O _
   ·rw [if_neg hb',if_pos (by omega)]; exact q3 _ (by omega) (by omega)
  ·rw [if_neg ha]
   by_cases ha2:l < a/\a<=k
   ·rw [if_pos ha2,if_neg (by omega),if_pos (by omega)]
    exact h _ _ (by omega) (by omega)
   ·rw [if_neg ha2]
    by_cases hb':b=l
    ·rw [if_pos hb']; exact q2 a (by omega)
    ·rw [if_neg hb']
     by_cases hb2:l < b/\b<=k
     ·rw [if_pos hb2]; exact h _ _ (by omega) (by omega)
     ·rw [if_neg hb2]; exact h _ _ hab (by omega)
theorem M8 {n:Nat} (hn:1<=n):cA n c (fun q=>PP n q/\gH c q n) (kas_sort n):=by
 have hp:PP n (List.toArray (List.range n)):=by unfold PP; simp
 refine cA.bind (R:=CI c n) (fun r q=>?_) _ (ax0 O hp hn)
 obtain ⟨q1,q2,q3,q4⟩:=q
 by_cases h:r.1 < n
 ·rw [if_pos h]
  have e:max r.1 1=r.1:=by omega
  rw [e]
  exact cA.mono (fun p z=>⟨z.1,by rw [show r.1+(n - r.1)=n by omega] at z; exact z.2⟩) _ (M7 O (n - r.1) r.2 r.1 q1 (by omega) q4)
 ·rw [if_neg h]
  have e:r.1=n:=by omega
  exact⟨q1,by rw [e] at q4; exact q4⟩
end
end Srt
namespace L2
open PySem PySem.Spec PyProof.Rows
theorem bW.there {P:Program}{w:World}{H:Hp}{h:Heap}{a:Addr}{o:HO} (x:bW P w H h a o):∃ u,h.get? a=some u:=by
 cases o with
 | lst xs=>obtain ⟨_,_,_,_,e⟩:=x; exact⟨_,e⟩
 | tup xs=>obtain ⟨_,_,_,⟨o,e,_⟩,_⟩:=x; exact⟨_,e⟩
 | dK kvs=>obtain ⟨_,_,_,_,o,_,_,e,_⟩:=x; exact⟨_,e⟩
 | dT kvs=>obtain ⟨_,_,_,_,o,_,_,e,_⟩:=x; exact⟨_,e⟩
 | set S n=>obtain ⟨o,_,_,_,e,_⟩:=x; exact⟨_,e⟩
 | ins C dx fs=>obtain ⟨_,_,_,e,_⟩:=x; exact⟨_,e⟩
 | own y=>exact x
 | xd fs=>obtain ⟨_,⟨_,_,_,e,_⟩,_⟩:=x; exact⟨_,e⟩
 | rng lo hi=>obtain ⟨_,_,_,e⟩:=x; exact⟨_,e⟩
 | frz ob u=>obtain ⟨e,_⟩:=x; exact⟨_,e⟩
 | tbl ps=>exact⟨_,(show h.get? a=some _ from x)⟩
 | met f y=>exact⟨_,(show h.get? a=some _ from x)⟩
 | ext φ=>obtain ⟨_,z,_⟩:=x; exact z
section
variable {X : Cx} {pins : List (Addr × Obj)} {σ : St} {H : Hp} {s : Shared} {h' : Heap} {a : Addr} {o : HO} {t' : Nat}
theorem a8.laidF (I:a8 X pins σ H s) (hn:s.heap.get? a=none) (k:∀ b u,b ≠ X.env.locals->s.heap.get? b=some u->h'.get? b=some u) (ns:∀ m,s.heap.Ns X.env.locals m->h'.Ns X.env.locals m)
  (new:bW X.prog X.w (upd H a o) h' a o):H a=none/\a8 X pins σ (upd H a o) { s with heap:=h',toks:=t' }:=by
 have hHn:H a=none:=by
  cases q:H a with
  | none=>rfl
  | some u=>obtain ⟨z,e⟩:=(I.hok a u q).there; rw [hn] at e; cases e
 have ne:∀ b u,s.heap.get? b=some u->b ≠ a:=fun b u e z=>by rw [z,hn] at e; cases e
 have hL:=I.free
 refine⟨hHn,I.step (g':=s.gens) (d':=s.drawn) (ch:=[]) (fun _ z=>nomatch z) (fun b o' h1 _ _ e _=>k b o' h1 e) (fun b o' h1 _ _ e _=>⟨o'.slots,k b o' h1 e⟩) (fun b o' _ e n=>by rw [aR (ne b o' e)]; exact n) (fun b o' _ e=>?_)
  (fun b xs q=>by rw [aR (e8 q hHn)]; exact q) (fun b u xs q=>by rw [aR (e8 q hHn)]; exact q) (fun b ps q=>⟨#[],by rw [aR (e8 q hHn),q]; simp⟩) ns (fun b u q=>?_) I.bare⟩
 ·by_cases hb:b=X.env.locals
  ·obtain ⟨m,hm,_⟩:=I.loc
   obtain ⟨o2,_,_,e2,_⟩:=ns m hm
   exact⟨o2,by rw [hb]; exact e2⟩
  ·exact⟨o',k b o' hb e⟩
 ·by_cases hb:b=a
  ·subst hb; rw [bI] at q; cases q; exact new
  ·rw [aR hb] at q
   refine (I.hok b u q).stay (fun c v hc e=>k c v ?_ e) (fun c e=>by rw [aR (e8 e hHn)]; exact e) fun c xs e=>by rw [aR (e8 e hHn)]; exact e
   rcases hc with z | z
   ·rw [z]; intro y; rw [y,hL] at q; cases q
   ·intro y; rw [y,hL] at z; cases z
theorem a8.newsAll (I:a8 X pins σ H s) {news:List (Addr × Obj)}{m:Str->Option Value} (hs:∀ p ∈ oH X.base s.heap X.env.locals,p ∈ news) (F:Fr X.base X.env.locals h' m) (N:News X.base X.env.locals h' news) :
  ∀ b o,b ≠ X.env.locals->s.heap.get? b=some o->h'.get? b=some o:=fun b o h1 e=>by
 cases q:X.base.get? b with
 | some u=>
  have:=I.bk b u q
  rw [e] at this; cases this
  exact F.keep b _ q
 | none=>exact (N (b,o) (hs _ (uL h1 q e))).1
end
theorem M9 {α:Type}{d:α} (l:List α) {p:List Nat} (h:p.Perm (List.range l.length)):(p.map fun i=>l.getD i d).Perm l:=by
 have e:(List.range l.length).map (fun i=>l.getD i d)=l:=by
  apply List.ext_getElem
  ·simp
  ·intro i h1 h2
   simp at h1
   simp [h1]
 have:=h.map fun i=>l.getD i d
 rw [e] at this
 exact this
theorem rZ:∀ {xs:List V}{us:List Value} (i:Nat),i < xs.length->aO xs us->aZ (xs.getD i .non) (us.getD i Value.none)
 | _,_,_,h,.nil=>by simp at h
 | _,_,0,_,.cons r _=>by simpa using r
 | _,_,i+1,h,.cons _ t=>by
  have:=rZ i (by simpa using h) t
  simpa using this
theorem wB {xs:List V}{us:List Value} (r:aO xs us):∀ {p:List Nat},(∀ i ∈ p,i < xs.length)->aO (p.map fun i=>xs.getD i .non) (p.map fun i=>us.getD i Value.none)
 | [],_=>.nil
 | i :: p,h=>.cons (rZ i (h i bi9) r) (wB r fun j hj=>h j (bj7 _ hj))
theorem N0 {α:Type}:∀ l:List α,(l.zip l).map (·.2)=l
 | []=>rfl
 | a :: l=>by
  show a :: ((l.zip l).map (·.2))=a :: l
  rw [N0 l]
theorem N1 {prog:Program}{w:World}{A:Around}{E:Value->Shared->Prop}{s:Shared}{a:Addr}{vs:List Value}{n:Nat}{P:PySem.Fin->Shared->Prop} (e:s.heap.get? a=some (seqObj "list" vs.toArray n)) (few:vs.length < 2)
  (q:P (.done (.ret .none)) { s with heap:=sortedHeap s.heap a vs vs.toArray }):wpAny (model prog w) A (Builtin.«list.sort» ⟨[.ref a],[]⟩) P E s:=by
 have big:vs.length<=sizeLine:=bm6 (bn5 few) (by decide)
 have la:=bk1 e
 have c:vs.toArray.size < 2:=by simpa using few
 have same:(arrOf (SortSt.mk' general' (vs.toArray.zip vs.toArray) #[] 7 none)).map (·.2)=vs.toArray:=by
  change (vs.toArray.zip vs.toArray).map (·.2)=vs.toArray
  apply Array.ext'
  simpa using N0 vs
 obtain ⟨k,ek⟩:∃ k,(s.heap.update a (Obj.mapSeq fun _=>#[])).get? a=some (seqObj "list" #[] k):=⟨_,get?_update_seq e fun _=>#[]⟩
 have there:(((s.heap.update a (Obj.mapSeq fun _=>#[])).push (seqObj "tuple" vs.toArray 0)).push (seqObj "list" #[] 0)).get? a=some (seqObj "list" #[] k):=
  bi1 _ (bi1 _ ek)
 rw [list_sort_plain]
 apply bh8
 apply listItems_at e rfl
 apply bh8
 refine listUpdate_at e rfl ?_ (by simpa using big) (bm9 _)
 apply bh8
 apply seqEpoch_at ek rfl
 apply bh8
 refine wpAny_newTuple ?_ big
 apply bh8
 refine wpAny_newList ?_ (bm9 _)
 apply bs0
 simp only [c,if_true,StateT.run_pure]
 apply bh8
 apply bj3
 apply bh8
 apply bj3
 apply bh8
 apply seqEpoch_at there rfl
 apply bh8
 refine listUpdate_at there rfl ?_ (bm9 _) (by rw [same,bh9]; exact Nat.le_succ_of_le big)
 rw [same]
 simp only [bne_self_eq_false,bl5,bp9]
 exact bj3 q
theorem ax1 {prog:Program}{w:World}{A:Around}{E:Value->Shared->Prop}{s:Shared}{l:Addr}{vs:List Value}{Q:Value->Shared->Prop} (hl:s.heap.IsList l vs.toArray) (few:vs.length < 2)
  (q:Q (.ref (s.heap.objs.size+1)) { s with heap:=sortedAll s.heap vs vs.toArray }):wpAny (model prog w) A (call (.builtin "sorted") [.ref l]) Q E s:=by
 have big:vs.length<=sizeLine:=bm6 (bn5 few) (by decide)
 apply Calls.call_function_entry kind_sorted plain_sorted entry_sorted (args_sorted1 _)
 simp only [Builtin.«sorted»]
 apply bh8 (m:=checkCount "sorted" 1 1 _)
 apply bj3
 apply bh8
 refine collect_list hl ?_ big
 apply bh8
 refine wpAny_newList ?_ big
 have one:((s.heap.push (seqObj "list" #[] 0)).update s.heap.objs.size (Obj.mapSeq (· ++ vs.toArray))).objs.size=s.heap.objs.size+1:=(Heap.size_update _ _ _).trans (size_push' _ _)
 have at1:(((s.heap.push (seqObj "list" #[] 0)).update s.heap.objs.size (Obj.mapSeq (· ++ vs.toArray))).push (seqObj "list" vs.toArray 0)).get? (s.heap.objs.size+1)=some (seqObj "list" vs.toArray 0):=one ▸ bk0 _ rfl
 change wpAny _ _ _ _ _ { s with heap:=((s.heap.push (seqObj "list" #[] 0)).update s.heap.objs.size (Obj.mapSeq (· ++ vs.toArray))).push (seqObj "list" vs.toArray 0) }
 rw [one]
 apply bh8
 apply bs0
 refine bq1 slot_list_sort ⟨_,at1,rfl⟩ entry_list_sort ?_ (args_list_sort _)
 refine N1 at1 few ⟨_,rfl,?_⟩
 exact bj3 ⟨_,rfl,q⟩
noncomputable def N3 (K:PySem.W.Frag):List V->Hp->VK->Prop:=fun xs H Q=>∃ a ns,xs = [.ref a]/\aM K H a (ns.map V.int)/\ns.length < 64/\∀ l (ms:List Int),H l=none->ms.Perm ns->ms.Pairwise (· <= ·)->Q (.ref l) (upd H l (.lst (ms.map V.int)))
theorem ax2 {X:Cx}:cX X (.builtin "sorted") (N3 X.K):=by
 intro pins s σ H xs us Q I r h
 obtain ⟨a,ns,rfl,hs,h64,q⟩:=h
 obtain ⟨u,rfl,ru⟩:=hZ r
 cases ru
 obtain ⟨its,rv,p,hz⟩:=I.list hs
 have hl:=rv.length
 rw [bi4] at hl
 refine sorted_ints p.isList (mQ rv) (by omega) fun out ns' a1 a2 a3=>?_
 obtain ⟨e,he⟩:=sortedAll_at s.heap its out
 have hn:s.heap.objs.size<=s.heap.objs.size+1:=Nat.le_succ _
 have hlen:ns'.length=ns.length:=a2.length_eq
 refine⟨.ref (s.heap.objs.size+1),upd H (s.heap.objs.size+1) (.lst (ns'.map V.int)),I.laid (t':=s.toks) (fun _ _=>sortedAll_old) hn ⟨?_,out.toList,e,rK a1,by simpa using he⟩,rfl,q _ ns' (I.hok.fresh hn) a2 a3⟩
 rw [bi4,hlen]
 exact bn5 (p7 (by omega))
theorem wC:∀ {a b:List Int},HT.eJ a b=true->HT.eJ b a=false
 | [],[],h=>by cases h
 | [],_ :: _,_=>rfl
 | _ :: _,[],h=>by cases h
 | x :: xs,y :: ys,h=>by
  rw [HT.mP] at h ⊢
  by_cases e:x=y
  ·rw [if_pos e] at h; rw [if_pos e.symm]; exact wC h
  ·rw [if_neg e] at h; rw [if_neg (Ne.symm e)]
   have:=bn0 h
   exact bj5 (by omega)
theorem wD:∀ {a b c:List Int},HT.eJ a b=false->HT.eJ b c=false->HT.eJ a c=false
 | [],[],c,_,h=>h
 | [],_ :: _,_,h,_=>by cases h
 | _ :: _,[],[],_,_=>rfl
 | _ :: _,[],_ :: _,_,h=>by cases h
 | _ :: _,_ :: _,[],_,_=>rfl
 | x :: xs,y :: ys,z :: zs,h1,h2=>by
  rw [HT.mP] at h1 h2 ⊢
  by_cases e1:x=y
  ·rw [if_pos e1] at h1
   by_cases e2:y=z
   ·rw [if_pos e2] at h2; rw [if_pos (e1.trans e2)]; exact wD h1 h2
   ·rw [if_neg e2] at h2; rw [if_neg (by rw [e1]; exact e2)]; rw [e1]; exact h2
  ·rw [if_neg e1] at h1
   have k1:=of_decide_eq_false h1
   by_cases e2:y=z
   ·rw [<- e2,if_neg e1]; exact h1
   ·rw [if_neg e2] at h2
    have k2:=of_decide_eq_false h2
    rw [if_neg (by omega)]
    exact bj5 (by omega)
section
variable {prog : Program} {w : World} {A : Around} {s : Shared} {Q : Bool → Shared → Prop}
theorem wE:∀ {us ws:List Value}{xs ys:List Int} (i:Nat),IntsAre us xs->IntsAre ws ys->Q (HT.eJ xs ys) s->PySem.W.KatLex prog w A true (decide (us.length < ws.length)) Q (us.zip ws) i s
 | _,_,_,_,_,.nil,.nil,h=>h
 | _,_,_,_,_,.nil,.cons _ _ _,h=>h
 | _,_,_,_,_,.cons _ _ _,.nil,h=>h
 | _,_,_,_,i,.cons (vs:=us) x t hx,.cons (vs:=ws) y u hy,h=>by
  refine PySem.W.kat_cons (wpAny_eqBool_int ?_)
  rw [HT.mP] at h
  by_cases e:x=y
  ·rw [if_pos e] at h
   have eb:(x == y)=true:=by simpa using e
   rw [eb]
   refine PySem.W.kat_yes ?_
   have e2:decide ((Value.int x t :: us).length < (Value.int y u :: ws).length)=decide (us.length < ws.length):=by simp
   rw [e2]
   exact wE (i+1) hx hy h
  ·rw [if_neg e] at h
   have eb:(x == y)=false:=by simpa using e
   rw [eb]
   refine PySem.W.kat_no ?_
   cases hi:(true && i == 0) with
   | true=>exact PySem.W.kat_lt_int h
   | false=>exact PySem.W.kat_one _ _ (lt_int h)
end
noncomputable def N4 (K:PySem.W.Frag):List V->Hp->VK->Prop:=fun xs H Q=>∃ (a:Addr) (ys:List V) (key:V->List Int),xs = [.ref a]/\aM K H a ys/\ys.length < 64/\(∀ y ∈ ys,∃ b,y = .ref b/\aJ K H b ((key y).map V.int)/\key y ≠ [])/\
 ∀ l (zs:List V),H l=none->zs.Perm ys->zs.Pairwise (fun u v=>HT.eJ (key v) (key u)=false)->Q (.ref l) (upd H l (.lst zs))
theorem N5 {c:Nat->Nat->Bool}{R:V->V->Prop}{ys:List V}{p:Array Nat}{n:Nat} (hp:Srt.PP n p) (ha:Srt.gH c p n) (hR:∀ i j,Srt.Le c i j->R (ys.getD i .non) (ys.getD j .non)) :
  (p.toList.map fun i=>ys.getD i .non).Pairwise R:=by
 rw [bo3,List.pairwise_iff_getElem]
 intro i j hi hj hij
 have hs:=hp.size
 have h1:i < n:=by rw [<- hs]; simpa using hi
 have h2:j < n:=by rw [<- hs]; simpa using hj
 have q:=ha i j (bn5 hij) h2
 have e:∀ k (hk:k < p.toList.length),Srt.G p k=p.toList[k]:=fun k hk=>by
  have hk':k < p.size:=by simpa using hk
  unfold Srt.G; rw [bv6]; simp [hk']
 rw [e i hi,e j hj] at q
 exact hR _ _ q
theorem ax3 {X:Cx}:cX X (.builtin "sorted") (N4 X.K):=by
 intro pins s σ H xs us Q I r h
 obtain ⟨a,ys,key,rfl,hs,h64,hk,q⟩:=h
 obtain ⟨u,rfl,ru⟩:=hZ r
 cases ru
 obtain ⟨its,rv,p,hz⟩:=I.list hs
 have hl:=rv.length
 by_cases h2:its.length < 2
 ·
  refine ax1 p.isList h2 ?_
  obtain ⟨e,he⟩:=sortedAll_at s.heap its its.toArray
  have hn:s.heap.objs.size<=s.heap.objs.size+1:=Nat.le_succ _
  refine⟨.ref (s.heap.objs.size+1),upd H (s.heap.objs.size+1) (.lst ys),I.laid (t':=s.toks) (fun _ _=>sortedAll_old) hn ⟨hz,its,e,rv,he⟩,rfl,q _ ys (I.hok.fresh hn) (bx5 _) ?_⟩
  match ys,hl with
  | [],_=>exact bu1
  | [_],_=>exact bl7 _ _
  | _ :: _ :: _,hl=>simp at hl; omega
 ·obtain ⟨m,F⟩:=I.fr
  have hL:∀ {b:Addr}{k:List Int},aJ X.K H b (k.map V.int)->b ≠ X.env.locals:=fun {b k} z e=>by
   obtain ⟨its',_,⟨ob,e1,c1,_⟩,_⟩:=I.tuple z
   obtain ⟨m',⟨o',es',ep',e2,d2,_⟩,_⟩:=I.loc
   rcases z with (z | ⟨_,z⟩) | ⟨o3,its3,n3,z3,zc,zd,_⟩
   ·rw [e,I.free] at z; cases z
   ·rw [e,I.free] at z; cases z
   ·have:=I.kIn b o3 z3
    rw [e,e2] at this
    cases this
    rw [d2] at zd; cases zd
  refine PySem.W.kat_sorted F (A1 (g:=X.base) (h:=s.heap) (L:=X.env.locals)) p.isList (by omega) (by omega) fun D e1 h' F' N' hD=>?_
  have keep:=I.newsAll (fun p hp=>bj7 _ hp) F' N'
  have look:∀ i,i < ys.length->∃ (b:Addr) (ob:Obj) (us:List Value) (n:Nat),its.getD i Value.none = .ref b/\h'.get? b=some ob/\ob.cls = .type "tuple"/\ob.data = .seq us.toArray n/\IntsAre us (key (ys.getD i .non))/\key (ys.getD i .non) ≠ []:=fun i hi=>by
   have hy:ys.getD i .non ∈ ys:=by
    rw [bj0,bi2 hi]; exact List.getElem_mem hi
   obtain ⟨b,eb,sq,ne⟩:=hk _ hy
   have rr:=rZ i hi rv
   rw [eb] at rr
   have rr:its.getD i Value.none = .ref b:=rr
   obtain ⟨us,ru,⟨ob,e1,c1,n1,d1⟩,_⟩:=I.tuple sq
   exact⟨b,ob,us,n1,rr,keep b ob (hL sq) e1,c1,d1,mQ ru,ne⟩
  have firsts:∀ {xs:List V}{vs:List Value},aO xs vs->(∀ y ∈ xs,∃ b,y = .ref b/\aJ X.K H b ((key y).map V.int)/\key y ≠ [])->∃ fs:List Value,PySem.W.KatTups h' vs fs/\fs.length=vs.length/\∀ v ∈ fs,∃ i t,v=Value.int i t:=by
   intro xs vs r
   induction r with
   | nil=>intro _; exact⟨[],PySem.W.KatTups.nil,rfl,fun _ z=>nomatch z⟩
   | @cons x v xs vs rx rt ih=>
    intro hh
    obtain ⟨fs,t1,t2,t3⟩:=ih fun y hy=>hh y (bj7 _ hy)
    obtain ⟨b,eb,sq,ne⟩:=hh x bi9
    subst eb
    cases rx
    obtain ⟨us,ru,⟨ob,e1,c1,n1,d1⟩,_⟩:=I.tuple sq
    have ia:=mQ ru
    generalize key (V.ref b)=kk at ia ne
    cases ia with
    | nil=>exact absurd rfl ne
    | @cons n t vs0 ns0 ht=>
     exact⟨Value.int n t :: fs,PySem.W.KatTups.cons (keep b ob (hL sq) e1) c1 d1 (by simp) t1,by simp [t2],fun v hv=>(bj1.mp hv).elim (fun z=>⟨n,t,z⟩) (t3 v)⟩
  obtain ⟨fs,t1,t2,t3⟩:=firsts rv hk
  refine PySem.W.kat_kind (T:=.type "int") t1 (by omega) (fun v hv=>?_) (by decide) ?_
  ·obtain ⟨i,t,rfl⟩:=t3 v hv
   exact PySem.W.Looks.now
  let c:Nat->Nat->Bool:=fun i j=>HT.eJ (key (ys.getD i .non)) (key (ys.getD j .non))
  have O:Srt.rV c:=⟨fun h=>wC h,fun h1 h2=>wD h1 h2⟩
  have ok:=Srt.M8 (n:=its.length) O (by omega)
  refine Srt.cA.run (I:=fun s'=>s'={ s with heap:=h' }) (fun i j C s' hi hj hI hC=>?_) (fun pa s' hR hI=>?_) _ _ rfl ok
  ·subst hI
   obtain ⟨b1,o1,u1,n1,g1,g2,_,g4,g5,_⟩:=look i (by omega)
   obtain ⟨b2,o2,u2,n2,k1,k2,_,k4,k5,_⟩:=look j (by omega)
   show wpAny _ _ (keyLt' (tuples' (Value.type "int" != Value.type "tuple")) (its.getD i Value.none) (its.getD j Value.none)) _ _ _
   rw [g1,k1]
   have eT:(Value.type "int" != Value.type "tuple")=true:=by decide
   rw [eT]
   refine PySem.W.kat_lt g2 g4 k2 k4 ?_
   have:=wE (prog:=X.prog) (w:=X.w) (A:=X.A.in1.in1) (s:={ s with heap:=h' }) (Q:=C) 0 g5 k5 (hC _ rfl)
   simpa using this
  ·subst hI
   obtain ⟨hp,hasc⟩:=hR
   refine PySem.W.KasFin.intro F' N' (PySem.W.UpdF.head fun p hp=>bm1 (hD p hp)) fun h2 cc F2 N2=>?_
   have keep2:=I.newsAll (fun p hp=>bj7 _ hp) F2 N2
   have hDn:s.heap.get? D=none:=by
    cases z:s.heap.get? D with
    | none=>rfl
    | some o=>
     obtain ⟨_,n1,n2⟩:=N2 (D,_) bi9
     exact absurd (hD _ (uL n1 n2 z)) (bn2 _)
   have hpl:∀ i ∈ pa.toList,i < ys.length:=fun i hi=>by
    have:=bv2.mp (hp.mem_iff.mp hi); omega
   have hp':pa.toList.Perm (List.range ys.length):=by rw [hl]; exact hp
   have pm:=M9 (d:=V.non) ys hp'
   obtain ⟨hDo,hDL,hDb⟩:=N2 (D,_) bi9
   obtain ⟨hHD,I2⟩:=I.laidF (t':=s.toks) (a:=D) (o:=.lst (pa.toList.map fun i=>ys.getD i .non)) hDn keep2 (fun m' hm'=>by
     have e:m'=m:=funext fun nm=>Heap.Ns.agree hm' F.ns nm
     rw [e]; exact F2.ns) ⟨by rw [pm.length_eq]; exact hz,_,cc,wB rv hpl,hDo⟩
   exact⟨.ref D,_,I2,rfl,q D _ hHD pm (N5 hp hasc fun i j hle=>hle)⟩
end L2
namespace Raw
open PySem PySem.W PySem.Calls PyProof.Rows
noncomputable def i7 (h:Heap) (d:Addr) (es:Array DictEntry) (ep:Nat):Prop:=∃ o,h.get? d=some o/\o.ExactDict/\o.data = .dict es ep
theorem i7.ty {s:Shared}{d:Addr}{es:Array DictEntry}{ep:Nat} (x:i7 s.heap d es ep):s.TypeIs (.ref d) "dict":=x.elim fun o y=>⟨o,y.1,y.2.1.1⟩
theorem i7.lt {h:Heap}{d:Addr}{es:Array DictEntry}{ep:Nat} (x:i7 h d es ep):d < h.objs.size:=x.elim fun _ y=>bk1 y.1
theorem i7.keep {h h':Heap}{d:Addr}{es:Array DictEntry}{ep:Nat} (x:i7 h d es ep) (k:∀ o,h.get? d=some o->h'.get? d=some o):i7 h' d es ep:=x.elim fun o y=>⟨o,k o y.1,y.2⟩
section
variable {prog : Program} {w : World} {A : Around} {E : Value → Shared → Prop} {s : Shared} {d it : Addr} {es : Array DictEntry} {ep i : Nat}
theorem made (far:(d == sysModules)=false) (x:i7 s.heap d es ep) {Q:Value->Shared->Prop}
  (q:Q (.ref s.heap.objs.size) { s with heap:=s.heap.push { cls:=.type "dict_keyiterator",data:=.fields #[.ref d,.int 0 0,.int es.size 0,.int ep 0] } }):wpAny (model prog w) A (pyIter (.ref d)) Q E s:=by
 have T:=x.ty
 obtain ⟨o,e1,e2,e3⟩:=x
 apply wpAny_pyIter_slot T PySem.F.slot_dict_iter
 apply bq1 PySem.F.slot_dict_iter T PySem.F.entry_dict_iter _ (PySem.F.args_dict_iter_1 _)
 simp only [Builtin.«dict.__iter__»,Builtin.Dict.dictSlotNone]
 apply bh8
 apply bh8
 apply wpAny_notOrdered_dict T
 apply bj3
 change wpAny _ _ (Builtin.Dict.showsAll d >>= _) _ _ s
 have far':Builtin.Dict.showsAll d=pure ():=by
  unfold Builtin.Dict.showsAll
  simp only [far,bl5,bp9]
 rw [far',pure_bind]
 apply bh8
 apply wpAny_dictEntries e1 e3
 apply bh8
 apply wpAny_dictEpoch e1 e3
 apply bh8
 refine bq5 (bj3 ?_)
 refine⟨.ref s.heap.objs.size,rfl,"dict_keyiterator",_,⟨_,bk0 _ rfl,rfl⟩,PySem.F.slot_dict_keyiterator_next.lookup,?_⟩
 simpa only [rawInt] using q
theorem turn (hh:A.handled=none) (hi:s.heap.IsKeyIter it d i es.size ep) (x:i7 s.heap d es ep) {Q:Option Value->Shared->Prop}
  (yes:∀ (lt:i < es.size) h',h'.IsKeyIter it d (i+1) es.size ep->Heap.SameBut it s.heap h'->Q (some es[i].key) { s with heap:=h' })
  (no:es.size<=i->∀ h',Heap.ExtBut it s.heap h'->Q none { s with heap:=h' }):wpAny (model prog w) A (pyNext (.ref it)) Q E s:=by
 have T:=hi.typeIs
 obtain ⟨oi,f1,f2,f3⟩:=hi
 obtain ⟨o,e1,e2,e3⟩:=x
 have slot:=PySem.F.slot_dict_keyiterator_next
 have plain:Builtin.Dict_items.ownsTuple "dict_keyiterator" = false:=by decide
 have isref:(Value.ref d == Value.none)=false:=rfl
 have nn : ¬ (i:Int) < 0:=by omega
 unfold pyNext
 apply bh8
 apply wpAny_attempt
 apply br5 (name:=Str.ofString "__next__") T slot
 apply bq1 slot T PySem.F.entry_dict_keyiterator_next _ (PySem.F.args_dict_keyiterator_next_1 _)
 apply bh8
 apply bj3
 apply bh8
 apply bh8
 apply bh8
 first
  | apply wpAny_typeNameOfWhole_keyiter T
  | apply wpAny_typeNameOf_keyiter T
 apply bj3
 apply bh8
 apply wpAny_fieldsOf f1 f3
 simp only [plain,bl5,bp9]
 change wpAny _ _ (if (Value.ref d == Value.none)=true then _ else _) _ _ s
 have adr:Builtin.Dict_items.addrOf (Value.ref d)=pure d:=rfl
 simp only [isref,bl5,bp9,adr,pure_bind]
 apply bh8
 apply wpAny_dictEntries e1 e3
 simp only [bne_self_eq_false,bl5,bp9]
 apply bh8
 apply wpAny_dictEpoch e1 e3
 simp only [bne_self_eq_false,bl5,bp9]
 apply bj3
 simp only [nn,bp9,bk4]
 by_cases lt:i < es.size
 ·simp only [Array.getElem?_eq_getElem lt]
  apply bh8
  apply bh8
  first
   | apply wpAny_typeNameOfWhole_keyiter T
   | apply wpAny_typeNameOf_keyiter T
  apply bj3
  apply bh8
  apply wpAny_isOneOf_keyiter T
  change wpAny _ _ (setField (.ref it) 1 (rawInt ((i:Int)+1)) >>= _) _ _ s
  apply bh8
  refine wpAny_setField f1 f3 (by simp) ?_
  have again:(s.heap.update it (Obj.mapFields (·.setIfInBounds 1 (rawInt ((i:Int)+1))))).IsKeyIter it d (i+1) es.size ep:=by
   refine⟨_,Heap.get?_update_self _ f1 (Obj.isFreed_of_fields (Obj.data_mapFields f3 _)),?_,?_⟩
   ·rw [Obj.cls_mapFields]; exact f2
   ·rw [Obj.data_mapFields f3]; simp [rawInt]
  apply bh8
  apply bs0
  apply bh8
  refine wpAny_isOneOf_keyiter (s:={ s with heap:=s.heap.update it (Obj.mapFields (·.setIfInBounds 1 (rawInt ((i:Int)+1)))) }) again.typeIs ?_
  change wpAny _ _ (pure es[i].key) _ _ _
  apply bj3
  apply bj3
  exact⟨es[i].key,rfl,bj3 (yes lt _ again (Heap.SameBut.update ..))⟩
 ·have ge:es.size<=i:=bw0 lt
  simp only [Array.getElem?_eq_none ge]
  apply bh8
  apply bh8
  first
   | apply wpAny_typeNameOfWhole_keyiter T
   | apply wpAny_typeNameOf_keyiter T
  apply bj3
  change wpAny _ _ (setField (.ref it) 0 .none >>= _) _ _ s
  apply bh8
  refine wpAny_setField f1 f3 (by simp) ?_
  apply bh8
  simp only [newExc,newTuple]
  apply bh8
  refine bq5 ?_ (by size_fits)
  apply bh8
  refine wpAny_of_eq (a:=Value.none) (by first | rfl | (simp only [firstArgMember]; rfl)) ?_
  refine bq5 ?_ (by size_fits)
  unfold raiseNew
  apply bh8
  apply wpAny_handled
  have quiet:A.in1.handled=none:=hh
  rw [quiet]
  refine wpAny_throw ?_
  apply bh8
  refine wpAny_isInstance (T:="StopIteration") (b:=true) ⟨_,bk0 _ rfl,rfl⟩ isSubtype_stop ?_
  exact bj3 (no ge _ (((Heap.SameBut.update ..).extBut.push _).push _))
theorem ax4 (hh:A.handled=none) (ne:d ≠ it):Walks prog w A it [it,d] [it] es.size (fun i v=>∃ lt:i < es.size,es[i].key=v) (fun i h=>h.IsKeyIter it d i es.size ep/\i7 h d es ep) where
 sub:=by intro b hb; rw [bi3.mp hb]; exact bi9
 frame:=by
  intro i h h' st hk
  exact⟨st.1.at (hk it bi9),st.2.keep (hk d (bj7 _ bi9))⟩
 item:=by
  intro i s Q E lt st hQ
  refine turn hh st.1 st.2 (fun lt' h' again sb=>?_) fun ge=>absurd lt (Nat.not_lt.mpr ge)
  exact hQ _ h' s.toks ⟨lt',rfl⟩ ⟨again,st.2.keep fun o e=>sb.extBut d o ne e⟩ fun b o hb e=>sb.extBut b o (fun z=>hb (bi3.mpr z)) e
 done:=by
  intro s Q E st hQ
  refine turn hh st.1 st.2 (fun lt=>absurd lt (bn2 _)) fun _ h' eb=>?_
  exact hQ h' s.toks fun b o hb e=>eb b o (fun z=>hb (bi3.mpr z)) e
 self:=by intro i s Q E st hQ; exact wpAny_pyIter_keyiter st.1 hQ
theorem ax5 (far:(d == sysModules)=false):KdlSrc prog w "dict" d d es.size (fun i v=>∃ lt:i < es.size,es[i].key=v) (fun h=>i7 h d es ep) where
 type:=fun _ x=>x.ty
 there:=fun _ x=>⟨x.lt,x.lt⟩
 keep:=fun _ _ x k=>x.keep (k d (.inl rfl))
 notList:=by decide
 notTuple:=by decide
 hint:=fun _ _ _ _ x q=>kdl_hint_dict x.ty q
 iter:=fun _ _ hh x=>⟨_,_,fun _ _ q=>made far x q,ax4 hh (bm1 x.lt),⟨_,bk0 _ rfl,rfl,rfl⟩,x.keep fun o e=>bi1 _ e⟩
end
end Raw
namespace L2
open PySem PySem.Spec PyProof.Rows
section
variable {X : Cx} {pins : List (Addr × Obj)} {σ : St} {H : Hp} {s : Shared} {a : Addr}
theorem ax6 {kvs:List (aH × V)} (I:a8 X pins σ H s) (h:H a=some (.dK kvs)):∃ es ep,Raw.i7 s.heap a es ep/\(a == sysModules)=false/\aO (kvs.map fun p=>kV p.1) (es.toList.map (·.key))/\kvs.length<=sizeLine:=by
 obtain ⟨z,far,vs,rel,o,es,ep,e1,e2,e3,kk,pr,nd⟩:=(show bW X.prog X.w H s.heap a (.dK kvs) from I.hok a _ h)
 refine⟨es,ep,⟨o,e1,e2,e3⟩,far,?_,z⟩
 clear z far e1 e2 e3 kk nd h
 generalize es.toList=l at pr
 induction pr generalizing kvs with
 | nil=>cases rel; exact .nil
 | @cons e k es' kvs' h1 h2 _ ih=>
  cases rel with
  | @cons p q ps qs r rs=>
   refine .cons ?_ (ih rs)
   obtain ⟨r1,_⟩:=r
   show aZ (kV p.1) e.key
   rw [r1]
   rcases iU h1 with ⟨n,t,e4,e5⟩ | ⟨x,t,e4,e5⟩
   ·rw [e4,e5]; exact⟨t,rfl⟩
   ·rw [e4,e5]; exact⟨t,rfl⟩
theorem ax7 {es:Array DictEntry}{acc:Array Value} (h:ItemsOf (fun i v=>∃ lt:i < es.size,es[i].key=v) acc es.size):acc.toList=es.toList.map (·.key):=by
 apply List.ext_getElem?
 intro j
 have h1:=h.1
 by_cases hj:j < es.size
 ·have hj':j < acc.size:=by rw [h1]; exact hj
  obtain ⟨_,e⟩:=h.2 j acc[j] (by simp [hj'])
  rw [bj2]
  simp [hj,hj',e]
 ·have hj' : ¬ j < acc.size:=by rw [h1]; exact hj
  rw [bj2]
  simp [bw0 hj,bw0 hj']
end
section
variable {X : Cx}
theorem ax8:cX X (.builtin "isinstance") (fun xs H Q=>∃ x t n b,xs = [x,.ty n]/\gF X.K H x t/\PySem.W.kitOne X.K t (.type n)=some b/\Q (.bl b) H):=by
 intro pins s σ H xs us Q I r h
 obtain ⟨x,t,n,b,rfl,ty,e,q⟩:=h
 obtain ⟨u,u',rfl,ru,ru'⟩:=oP r
 cases ru'
 exact aq7 I ru ty e fun tk=>⟨.bl b,H,I.tok tk,rfl,q⟩
end
noncomputable def N6 (outer:List (Str × NameKind)) (XN:List Str) (names:List (Str × NameKind)) (N:List Str) (fr:List (Option Nat)):Bool:=
 names.all (fun y=>!(y.2 == .cell) || names.lookup y.1 == some .cell) && names.all (fun y=>!(y.2 == .local) || names.lookup y.1 == some .local) &&
 names.all (fun y=>!(y.2 == .free) || (outer.lookup y.1 == some .cell || outer.lookup y.1 == some .free)) && fr.length == N.length &&
 (fr.zip N).all (fun p=>match p.1 with
  | none=>true
  | some j=>XN[j]? == some p.2 && names.lookup p.2 == some .free)
theorem cP.of {X:Cx}{scope:Scope}{N:List Str}{fr:List (Option Nat)} (hk:scope.kind = .function) (h:N6 X.env.scope.names X.N scope.names N fr=true):cP X scope N fr:=by
 unfold N6 at h
 simp only [bm2] at h
 obtain ⟨⟨⟨⟨h1,h2⟩,h3⟩,h4⟩,h5⟩:=h
 refine⟨hk,fun y hy e=>?_,fun y hy e=>?_,fun y hy e=>?_,by simpa using h4,fun i j e=>?_⟩
 ·have:=bq9.mp h1 y hy
  rw [e] at this; simpa using this
 ·have:=bq9.mp h2 y hy
  rw [e] at this; simpa using this
 ·have:=bq9.mp h3 y hy
  rw [e] at this; simpa using this
 ·have hl:fr.length=N.length:=by simpa using h4
  have hi:i < fr.length:=(bi5.mp e).1
  have m:(some j,N[i]'(by omega)) ∈ fr.zip N:=by
   have:(fr.zip N)[i]? = some (some j,N[i]'(by omega)):=by
    rw [List.getElem?_zip_eq_some]
    exact⟨e,by simp⟩
   exact bi0 this
  have:=bq9.mp h5 _ m
  simp only [bm2,beq_iff_eq] at this
  exact⟨N[i]'(by omega),by simp,this.1,this.2⟩
theorem N7 {n:Option V}{r:St}{v:V}:Wk (none :: r) (some v :: r):=(Wk.refl (none :: r)).set (i:=0) rfl
noncomputable def pD (H:Hp) (ys:List V) (ls:List (Int × Int)):Prop:=Paired (fun y l=>∃ b,y = .ref b/\H b=some (.tup [.int l.1,.int l.2])) ys ls
structure N8 (H:Hp) (v:V) (ws:List Int) (ls:List (Int × Int)):Prop where
 at_:∃ a p q ys,v = .ref a/\H a=some (.tup [.ref p,.ref q])/\H p=some (.tup (ws.map V.int))/\H q=some (.tup ys)/\pD H ys ls
theorem pD.get {H:Hp}:∀ {ys:List V}{ls:List (Int × Int)}{i:Nat}{y:V},pD H ys ls->ys[i]? = some y->∃ l b,ls[i]? = some l/\y = .ref b/\H b=some (.tup [.int l.1,.int l.2])
 | _,_,_,_,.nil,e=>by simp at e
 | _,_,0,_,.cons (b:=l) ⟨b,h1,h2⟩ _,e=>by simp at e; subst e; exact⟨l,b,rfl,h1,h2⟩
 | _,_,i+1,_,.cons _ t,e=>by
  obtain ⟨l,b,h1,h2⟩:=pD.get (i:=i) t (by simpa using e)
  exact⟨l,b,by simpa using h1,h2⟩
noncomputable def aN (ls:List (Int × Int)) (k:Int):List Int:=ls.flatMap fun l=>(if l.1=k then [l.2] else []) ++ (if l.2=k then [l.1] else [])
theorem ax9 (ls:List (Int × Int)) (l:Int × Int) (k:Int):aN (ls ++ [l]) k=aN ls k ++ ((if l.1=k then [l.2] else []) ++ (if l.2=k then [l.1] else [])):=by
 unfold aN; rw [List.flatMap_append]; simp
theorem N9 {ls:List (Int × Int)}{i:Nat}{l:Int × Int} (h:ls[i]? = some l) (k:Int):aN (ls.take (i+1)) k=aN (ls.take i) k ++ ((if l.1=k then [l.2] else []) ++ (if l.2=k then [l.1] else [])):=by
 rw [bm4,h]; exact ax9 _ _ _
structure iJ (H H':Hp) (r:Addr) (bs:List Addr) (f:Nat->List Int):Prop where
 new:H r=none
 news:∀ b ∈ bs,H b=none/\b ≠ r
 nd:bs.Nodup
 row:H' r=some (.lst (bs.map V.ref))
 rows:∀ (k:Nat) (b:Addr),bs[k]? = some b->H' b=some (.lst ((f k).map V.int))
 same:aC H H'
theorem iJ.congr {H H':Hp}{r:Addr}{bs:List Addr}{f g:Nat->List Int} (h:iJ H H' r bs f) (e:∀ k,k < bs.length->f k=g k):iJ H H' r bs g:=
 ⟨h.new,h.news,h.nd,h.row,fun k b hb=>by rw [<- e k (bi5.mp hb).1]; exact h.rows k b hb,h.same⟩
theorem iJ.app {H H':Hp}{r:Addr}{bs:List Addr}{f:Nat->List Int} (h:iJ H H' r bs f) {k:Nat}{b:Addr} (hb:bs[k]? = some b) (x:Int) :
  iJ H (upd H' b (.lst ((f k).map V.int ++ [V.int x]))) r bs (fun j=>if j=k then f j ++ [x] else f j):=by
 have hm:b ∈ bs:=bi0 hb
 refine⟨h.new,h.news,h.nd,by rw [aR (Ne.symm (h.news b hm).2)]; exact h.row,fun j c hc=>?_,fun c o e=>by rw [aR (e8 e (h.news b hm).1)]; exact h.same c o e⟩
 by_cases hj:j=k
 ·subst hj
  rw [hb] at hc; cases hc
  rw [bI,if_pos rfl]; simp
 ·rw [if_neg hj]
  have ne:c ≠ b:=fun z=>by
   subst z
   obtain ⟨i1,e1⟩:=bi5.mp hb
   obtain ⟨i2,e2⟩:=bi5.mp hc
   refine hj (Nat.le_antisymm (bw0 fun z=>?_) (bw0 fun z=>?_))
   ·exact List.pairwise_iff_getElem.mp h.nd _ _ i1 i2 z (e1.trans e2.symm)
   ·exact List.pairwise_iff_getElem.mp h.nd _ _ i2 i1 z (e2.trans e1.symm)
  rw [aR ne]; exact h.rows j c hc
theorem pE (ls:List (Int × Int)) (k:Int):(aN ls k).length<=2 * ls.length:=by
 induction ls with
 | nil=>exact bi8 _
 | cons l r ih=>
  have e:aN (l :: r) k=((if l.1=k then [l.2] else []) ++ (if l.2=k then [l.1] else [])) ++ aN r k:=rfl
  rw [e,bj4,bj4,bk9]
  have h1:(if l.1=k then [l.2] else []).length<=1:=by split <;> simp
  have h2:(if l.2=k then [l.1] else []).length<=1:=by split <;> simp
  omega
theorem lQ {α:Type}{xs:List α}{i:Int}{v:α} (h0:0<=i) (h:xs[i.toNat]? = some v):atI xs i=some v:=by
 have:=jI h
 rwa [show ((i.toNat:Nat):Int)=i by omega] at this
theorem gP {n:Nat} (h:n<=16000000):n < sizeLine:=by rw [sizeLine_eq]; omega
theorem pF {σ:St}{H:Hp}{A B:Hp->Prop} (h:A H):vU σ H fun b H4=>if b=true then A H4 else B H4:=by
 show if true=true then A H else B H
 rw [if_pos rfl]; exact h
theorem jO {K:PySem.W.Frag}{H:Hp}{p:Addr}{xs:List V} (h:aM K H p xs):i5 K "list" (.ref p) H:=.inl ⟨rfl,xs,h⟩
theorem wF {l:Int × Int}{k x:Int}:x ∈ (if l.1=k then [l.2] else []) ++ (if l.2=k then [l.1] else []) ↔ (l.1=k/\x=l.2) ∨ (l.2=k/\x=l.1):=by
 rw [bi7]
 by_cases h1:l.1=k <;> by_cases h2:l.2=k <;> simp [h1,h2]
theorem cQ {ls:List (Int × Int)}{k x:Int}:x ∈ aN ls k ↔ (k,x) ∈ ls ∨ (x,k) ∈ ls:=by
 unfold aN
 rw [List.mem_flatMap]
 constructor
 ·rintro ⟨l,hl,hx⟩
  rcases wF.mp hx with ⟨h1,h2⟩ | ⟨h1,h2⟩
  ·left; rw [<- h1,h2]; exact hl
  ·right; rw [<- h1,h2]; exact hl
 ·rintro (h | h)
  ·exact⟨_,h,wF.mpr (.inl ⟨rfl,rfl⟩)⟩
  ·exact⟨_,h,wF.mpr (.inr ⟨rfl,rfl⟩)⟩
theorem jP {ls:List (Int × Int)}{k x:Int} (h:x ∈ aN ls k):k ∈ aN ls x:=cQ.mpr (cQ.mp h).symm
end L2
namespace Zp
open PySem PyProof.Rows
section
variable {prog : Program} {w : World} {A : Around} {E : Value → Shared → Prop} {s : Shared}
theorem ay0 {it t:Addr}{i:Nat}{items:Array Value}{x:Value}{Q:Value->Shared->Prop} (hi:s.heap.IsTupleIter it t i) (ht:s.heap.IsTuple t items) (hx:items[i]? = some x)
  (q:∀ h',h'.IsTupleIter it t (i+1)->Heap.SameBut it s.heap h'->Q x { s with heap:=h' }):wpAny (model prog w) A (Builtin.SmallTypes.nextOf (.ref it)) Q E s:=by
 have T:=hi.typeIs
 obtain ⟨o,e1,e2,e3⟩:=hi
 obtain ⟨u,f1,_,k,f3⟩:=ht
 have slot:=PySem.F.slot_tuple_iterator_next
 have isref:(Value.ref t == Value.none)=false:=rfl
 unfold Builtin.SmallTypes.nextOf
 apply bh8
 apply br5 (name:=Str.ofString "__next__") T slot
 apply bq1 slot T PySem.F.entry_tuple_iterator_next _ (PySem.F.args_tuple_iterator_next_1 _)
 change wpAny _ _ (field (.ref it) 0 >>= _) _ _ s
 apply bh8
 refine bs6 e1 e3 (x:=.ref t) rfl ?_
 change wpAny _ _ (if (Value.ref t == Value.none)=true then _ else _) _ _ s
 simp only [isref,bl5,bp9]
 change wpAny _ _ (field (.ref it) 1 >>= _) _ _ s
 apply bh8
 refine bs6 e1 e3 (x:=.int i 0) rfl ?_
 change wpAny _ _ (seqItems? (.ref t) >>= _) _ _ s
 apply bh8
 apply bw3 f1 f3
 simp only [bk4,hx]
 apply bh8
 refine wpAny_setField e1 e3 (by simp) ?_
 apply bj3
 refine⟨x,rfl,bj3 (q _ ⟨_,Heap.get?_update_self _ e1 (Obj.isFreed_of_fields (Obj.data_mapFields e3 _)),?_,?_⟩ (Heap.SameBut.update ..))⟩
 ·rw [Obj.cls_mapFields]; exact e2
 ·rw [Obj.data_mapFields e3]; simp [rawInt]
theorem ay1 {it t:Addr}{i:Nat}{items:Array Value}{Q:Value->Shared->Prop} (hh:A.handled=none) (hi:s.heap.IsTupleIter it t i) (ht:s.heap.IsTuple t items) (hx:items[i]? = none)
  (q:∀ h' e,Heap.ExtBut it s.heap h'->(∃ o,h'.get? e=some o/\o.cls = .type "StopIteration")->E (.ref e) { s with heap:=h' }):wpAny (model prog w) A (Builtin.SmallTypes.nextOf (.ref it)) Q E s:=by
 have T:=hi.typeIs
 obtain ⟨o,e1,e2,e3⟩:=hi
 obtain ⟨u,f1,_,k,f3⟩:=ht
 have slot:=PySem.F.slot_tuple_iterator_next
 have isref:(Value.ref t == Value.none)=false:=rfl
 unfold Builtin.SmallTypes.nextOf
 apply bh8
 apply br5 (name:=Str.ofString "__next__") T slot
 apply bq1 slot T PySem.F.entry_tuple_iterator_next _ (PySem.F.args_tuple_iterator_next_1 _)
 change wpAny _ _ (field (.ref it) 0 >>= _) _ _ s
 apply bh8
 refine bs6 e1 e3 (x:=.ref t) rfl ?_
 change wpAny _ _ (if (Value.ref t == Value.none)=true then _ else _) _ _ s
 simp only [isref,bl5,bp9]
 change wpAny _ _ (field (.ref it) 1 >>= _) _ _ s
 apply bh8
 refine bs6 e1 e3 (x:=.int i 0) rfl ?_
 change wpAny _ _ (seqItems? (.ref t) >>= _) _ _ s
 apply bh8
 apply bw3 f1 f3
 simp only [bk4,hx]
 apply bh8
 apply wpAny_rule
 apply bh8
 refine wpAny_setField e1 e3 (by simp) ?_
 apply bh8
 simp only [newExc,newTuple]
 apply bh8
 refine bq5 ?_ (by size_fits)
 apply bh8
 refine wpAny_of_eq (a:=Value.none) (by first | rfl | (simp only [firstArgMember]; rfl)) ?_
 refine bq5 ?_ (by size_fits)
 unfold raiseNew
 apply bh8
 apply wpAny_handled
 have quiet:A.in1.handled=none:=hh
 rw [quiet]
 refine wpAny_throw ?_
 exact q _ _ (((Heap.SameBut.update ..).extBut.push _).push _) ⟨_,bk0 _ rfl,rfl⟩
theorem ay2 (hh:A.handled=none) (it t:Addr) (ne:t ≠ it) (items:Array Value):Draws prog w A it [it,t] items.size (fun i v=>items[i]? = some v) (fun i h=>h.IsTupleIter it t i/\h.IsTuple t items) where
 live:=fun _ _ st=>st.1.elim fun o y=>⟨o,y.1⟩
 frame:=fun _ _ _ st k=>⟨st.1.at fun o e=>k it bi9 o e,st.2.elim fun o y=>⟨o,k t (bj7 _ bi9) o y.1,y.2⟩⟩
 item:=fun i s Q E lt st q=>ay0 st.1 st.2 (Array.getElem?_eq_getElem lt) fun h' again sb=>q _ h' s.toks (Array.getElem?_eq_getElem lt) ⟨again,st.2.elim fun o y=>⟨o,sb.extBut t o ne y.1,y.2⟩⟩ sb
 done:=fun s Q E st q=>ay1 hh st.1 st.2 (Array.getElem?_eq_none (bi8 _)) q
end
structure Ap (z TI TO i1 i2:Addr) (fp1 fp2:List Addr):Prop where
 TIz:TI ≠ z
 TOz:TO ≠ z
 TITO:TI ≠ TO
 z1:z ∉ fp1
 z2:z ∉ fp2
 o1:TO ∉ fp1
 o2:TO ∉ fp2
 t1:TI ∉ fp1
 t2:TI ∉ fp2
 m1:i1 ∈ fp1
 m2:i2 ∈ fp2
 n1:i1 ∉ fp2
 n2:i2 ∉ fp1
structure wG (z TI TO i1 i2:Addr) (St1 St2:Nat->Heap->Prop) (f0:Value) (i j:Nat) (h:Heap):Prop where
 zz:IsZip h z TI TO f0
 ti:IsPair h TI (.ref i1) (.ref i2)
 to_:∃ a b,IsPair h TO a b
 s1:St1 i h
 s2:St2 j h
section
variable {prog : Program} {w : World} {A : Around} {E : Value → Shared → Prop} {s : Shared} {z TI TO i1 i2 : Addr} {fp1 fp2 : List Addr} {n1 n2 : Nat} {P1 P2 : Nat → Value → Prop} {St1 St2 : Nat → Heap → Prop}
theorem mU (ap:Ap z TI TO i1 i2 fp1 fp2) {b:Addr} (h:b ∉ fp1):b ≠ i1:=fun e=>h (e ▸ ap.m1)
theorem sA (ap:Ap z TI TO i1 i2 fp1 fp2) {b:Addr} (h:b ∉ fp2):b ≠ i2:=fun e=>h (e ▸ ap.m2)
theorem item (D1:Draws prog w A.in1 i1 fp1 n1 P1 St1) (D2:Draws prog w A.in1 i2 fp2 n2 P2 St2) (ap:Ap z TI TO i1 i2 fp1 fp2) {i:Nat} (l1:i < n1) (l2:i < n2) (st:wG z TI TO i1 i2 St1 St2 .none i i s.heap) {Q:Option Value->Shared->Prop}
  (q:∀ x y h' tk,P1 i x->P2 i y->wG z TI TO i1 i2 St1 St2 (rawInt s.heap.objs.size) (i+1) (i+1) h'->IsPair h' s.heap.objs.size x y->(∀ c o,c ≠ z->c ≠ TO->c ≠ i1->c ≠ i2->s.heap.get? c=some o->h'.get? c=some o)->
   h'.objs.size=s.heap.objs.size+1->Q (some (.ref s.heap.objs.size)) { s with heap:=h',toks:=tk }):wpAny (model prog w) A (pyNext (.ref z)) Q E s:=by
 obtain ⟨hz,hti,⟨a,b,hto⟩,h1,h2⟩:=st
 have T:s.TypeIs (.ref z) "zip":=⟨_,hz,rfl⟩
 have slot:=PySem.F.slot_zip_next
 unfold pyNext
 apply bh8
 apply wpAny_attempt
 apply br5 (name:=Str.ofString "__next__") T slot
 apply bq1 slot T PySem.F.entry_zip_next _ (PySem.F.args_zip_next_1 _)
 change wpAny _ _ (field (.ref z) 2 >>= _) _ _ _
 apply bh8
 refine bs6 hz rfl (x:=.bool false) rfl ?_
 change wpAny _ _ (field (.ref z) 3 >>= _) _ _ _
 apply bh8
 refine bs6 hz rfl (x:=.ref TI) rfl ?_
 apply bh8
 apply bw3 hti rfl
 change wpAny _ _ (Builtin.SmallTypes.ownedTupleIsFree (.ref z) >>= _) _ _ _
 apply bh8
 unfold Builtin.SmallTypes.ownedTupleIsFree
 apply bh8
 refine bs6 hz rfl (x:=.none) rfl (bj3 ?_)
 simp only [if_true]
 apply bh8
 apply wpAny_rule
 apply bh8
 refine bs6 hz rfl (x:=.ref TO) rfl ?_
 apply bh8
 refine bw4 hz (by simp) fun g1 hz1 sb1=>?_
 have k1:∀ c o,c ≠ z->s.heap.get? c=some o->g1.get? c=some o:=fun c o c1 e=>sb1.extBut c o c1 e
 apply bh8
 simp only [List.zipIdx_cons,List.zipIdx_nil,List.forIn_cons,List.forIn_nil]
 apply bh8
 apply bh8
 apply wpAny_onRaise
 change wpAny _ _ (Builtin.SmallTypes.nextOf (.ref i1) >>= _) _ _ _
 apply bh8
 refine D1.item i { s with heap:=g1 } _ _ l1 (D1.frame _ _ _ h1 fun c hc o e=>k1 c o (fun y=>ap.z1 (y ▸ hc)) e) fun x g2 tk2 px st1 sb2=>bj3 ?_
 have k2:∀ c o,c ≠ z->c ≠ i1->s.heap.get? c=some o->g2.get? c=some o:=fun c o c1 c2 e=>sb2.extBut c o c2 (k1 c o c1 e)
 have to2:IsPair g2 TO a b:=k2 _ _ ap.TOz (mU ap ap.o1) hto
 apply bh8
 apply bw3 to2 rfl
 apply bh8
 refine wpAny_updateSeq_pair to2 fun g3 to3 sb3=>?_
 have to3:IsPair g3 TO x b:=to3
 apply bh8
 apply wpAny_letGo
 apply bj3
 apply bh8
 apply bh8
 apply wpAny_onRaise
 change wpAny _ _ (Builtin.SmallTypes.nextOf (.ref i2) >>= _) _ _ _
 apply bh8
 have k3:∀ c o,c ≠ z->c ≠ i1->c ≠ TO->s.heap.get? c=some o->g3.get? c=some o:=fun c o c1 c2 c3 e=>sb3.extBut c o c3 (k2 c o c1 c2 e)
 refine D2.item i { s with heap:=g3,toks:=tk2 } _ _ l2 (D2.frame _ _ _ h2 fun c hc o e=>k3 c o (fun y=>ap.z2 (y ▸ hc)) (fun y=>ap.n1 (y ▸ hc)) (fun y=>ap.o2 (y ▸ hc)) e) fun y g4 tk4 py st2 sb4=>bj3 ?_
 have to4:IsPair g4 TO x b:=sb4.extBut _ _ (sA ap ap.o2) to3
 apply bh8
 apply bw3 to4 rfl
 apply bh8
 refine wpAny_updateSeq_pair to4 fun g5 to5 sb5=>?_
 have to5:IsPair g5 TO x y:=to5
 apply bh8
 apply wpAny_letGo
 apply bj3
 apply bj3
 apply bh8
 apply bw3 to5 rfl
 apply bh8
 refine wpAny_newTuple ?_ (by show 2<=sizeLine; decide)
 have size:g5.objs.size=s.heap.objs.size:=by rw [sb5.1,sb4.1,sb3.1,sb2.1,sb1.1]
 have k5:∀ c o,c ≠ z->c ≠ TO->c ≠ i1->c ≠ i2->s.heap.get? c=some o->g5.get? c=some o:=fun c o c1 c2 c3 c4 e=>sb5.extBut c o c2 (sb4.extBut c o c4 (k3 c o c1 c3 c2 e))
 have z5:IsZip g5 z TI TO .ellipsis:=sb5.extBut _ _ (Ne.symm ap.TOz) (sb4.extBut _ _ (sA ap ap.z2) (sb3.extBut _ _ (Ne.symm ap.TOz) (sb2.extBut _ _ (mU ap ap.z1) hz1)))
 change wpAny _ _ (Builtin.SmallTypes.ownedTupleHandOut (.ref z) (.ref g5.objs.size) >>= _) _ _ _
 apply bh8
 unfold Builtin.SmallTypes.ownedTupleHandOut
 apply bh8
 have z6:IsZip (g5.push { cls:=.type "tuple",data:=.seq #[x,y] }) z TI TO .ellipsis:=bi1 _ z5
 refine bw4 z6 (by simp) fun g7 z7 sb7=>?_
 have z7:IsZip g7 z TI TO (rawInt g5.objs.size):=z7
 refine bw4 z7 (by simp) fun g8 z8 sb8=>?_
 have z8:IsZip g8 z TI TO (rawInt g5.objs.size):=z8
 have zlt:z < g5.objs.size:=bk1 z5
 have up:∀ c o,c ≠ z->g5.get? c=some o->g8.get? c=some o:=fun c o c1 e=>sb8.extBut c o c1 (sb7.extBut c o c1 (bi1 _ e))
 have p8:IsPair g8 g5.objs.size x y:=sb8.extBut _ _ (bs1 zlt) (sb7.extBut _ _ (bs1 zlt) (bk0 _ rfl))
 have s8:g8.objs.size=g5.objs.size+1:=by rw [sb8.1,sb7.1,bx4]
 have f1:St1 (i+1) g8:=D1.frame _ _ _ st1 fun c hc o e=>up c o (fun y=>ap.z1 (y ▸ hc)) (sb5.extBut c o (fun y=>ap.o1 (y ▸ hc)) (sb4.extBut c o (fun y=>ap.n2 (y ▸ hc)) (sb3.extBut c o (fun y=>ap.o1 (y ▸ hc)) e)))
 have f2:St2 (i+1) g8:=D2.frame _ _ _ st2 fun c hc o e=>up c o (fun y=>ap.z2 (y ▸ hc)) (sb5.extBut c o (fun y=>ap.o2 (y ▸ hc)) e)
 have ti8:IsPair g8 TI (.ref i1) (.ref i2):=up _ _ ap.TIz (k5 _ _ ap.TIz ap.TITO (mU ap ap.t1) (sA ap ap.t2) hti)
 rw [size] at z8 p8 s8
 apply bj3
 refine⟨_,rfl,bj3 ?_⟩
 change Q (some (.ref g5.objs.size)) _
 rw [size]
 exact q x y g8 tk4 px py ⟨z8,ti8,⟨x,y,up _ _ ap.TOz to5⟩,f1,f2⟩ p8 (fun c o c1 c2 c3 c4 e=>up c o c1 (k5 c o c1 c2 c3 c4 e)) s8
theorem fin (D1:Draws prog w A.in1 i1 fp1 n1 P1 St1) (D2:Draws prog w A.in1 i2 fp2 n2 P2 St2) (ap:Ap z TI TO i1 i2 fp1 fp2) {i:Nat} (le:i=n1 ∨ (i < n1/\i=n2)) (st:wG z TI TO i1 i2 St1 St2 .none i i s.heap) {Q:Option Value->Shared->Prop}
  (q:∀ h' tk,(∀ c o,c ≠ z->c ≠ TO->c ≠ i1->c ≠ i2->s.heap.get? c=some o->h'.get? c=some o)->Q none { s with heap:=h',toks:=tk }):wpAny (model prog w) A (pyNext (.ref z)) Q E s:=by
 obtain ⟨hz,hti,⟨a,b,hto⟩,h1,h2⟩:=st
 have T:s.TypeIs (.ref z) "zip":=⟨_,hz,rfl⟩
 have slot:=PySem.F.slot_zip_next
 unfold pyNext
 apply bh8
 apply wpAny_attempt
 apply br5 (name:=Str.ofString "__next__") T slot
 apply bq1 slot T PySem.F.entry_zip_next _ (PySem.F.args_zip_next_1 _)
 change wpAny _ _ (field (.ref z) 2 >>= _) _ _ _
 apply bh8
 refine bs6 hz rfl (x:=.bool false) rfl ?_
 change wpAny _ _ (field (.ref z) 3 >>= _) _ _ _
 apply bh8
 refine bs6 hz rfl (x:=.ref TI) rfl ?_
 apply bh8
 apply bw3 hti rfl
 change wpAny _ _ (Builtin.SmallTypes.ownedTupleIsFree (.ref z) >>= _) _ _ _
 apply bh8
 unfold Builtin.SmallTypes.ownedTupleIsFree
 apply bh8
 refine bs6 hz rfl (x:=.none) rfl (bj3 ?_)
 simp only [if_true]
 apply bh8
 apply wpAny_rule
 apply bh8
 refine bs6 hz rfl (x:=.ref TO) rfl ?_
 apply bh8
 refine bw4 hz (by simp) fun g1 hz1 sb1=>?_
 have k1:∀ c o,c ≠ z->s.heap.get? c=some o->g1.get? c=some o:=fun c o c1 e=>sb1.extBut c o c1 e
 apply bh8
 simp only [List.zipIdx_cons,List.zipIdx_nil,List.forIn_cons,List.forIn_nil]
 apply bh8
 apply bh8
 apply wpAny_onRaise
 change wpAny _ _ (Builtin.SmallTypes.nextOf (.ref i1) >>= _) _ _ _
 apply bh8
 have z1:IsZip g1 z TI TO .ellipsis:=hz1
 rcases le with rfl | ⟨lt,rfl⟩
 ·refine D1.done { s with heap:=g1 } _ _ (D1.frame _ _ _ h1 fun c hc o e=>k1 c o (fun y=>ap.z1 (y ▸ hc)) e) fun g2 e eb ex=>?_
  have z2:IsZip g2 z TI TO .ellipsis:=eb _ _ (mU ap ap.z1) z1
  refine bw4 z2 (by simp) fun g3 z3 sb3=>?_
  obtain ⟨oe,eo,co⟩:=ex
  have ne:e ≠ z:=fun y=>by
   rw [y,z2] at eo
   have:=bl2 eo
   rw [<- this] at co; exact absurd (show Value.type "zip" = Value.type "StopIteration" from co) (by decide)
  apply bh8
  refine wpAny_isInstance (T:="StopIteration") (b:=true) ⟨oe,sb3.extBut _ _ ne eo,co⟩ isSubtype_stop ?_
  exact bj3 (q g3 s.toks fun c o c1 _ c3 _ e=>sb3.extBut c o c1 (eb c o c3 (k1 c o c1 e)))
 ·refine D1.item i { s with heap:=g1 } _ _ lt (D1.frame _ _ _ h1 fun c hc o e=>k1 c o (fun y=>ap.z1 (y ▸ hc)) e) fun x g2 tk2 px st1 sb2=>bj3 ?_
  have k2:∀ c o,c ≠ z->c ≠ i1->s.heap.get? c=some o->g2.get? c=some o:=fun c o c1 c2 e=>sb2.extBut c o c2 (k1 c o c1 e)
  have to2:IsPair g2 TO a b:=k2 _ _ ap.TOz (mU ap ap.o1) hto
  apply bh8
  apply bw3 to2 rfl
  apply bh8
  refine wpAny_updateSeq_pair to2 fun g3 to3 sb3=>?_
  apply bh8
  apply wpAny_letGo
  apply bj3
  apply bh8
  apply bh8
  apply wpAny_onRaise
  change wpAny _ _ (Builtin.SmallTypes.nextOf (.ref i2) >>= _) _ _ _
  apply bh8
  have k3:∀ c o,c ≠ z->c ≠ i1->c ≠ TO->s.heap.get? c=some o->g3.get? c=some o:=fun c o c1 c2 c3 e=>sb3.extBut c o c3 (k2 c o c1 c2 e)
  refine D2.done { s with heap:=g3,toks:=tk2 } _ _ (D2.frame _ _ _ h2 fun c hc o e=>k3 c o (fun y=>ap.z2 (y ▸ hc)) (fun y=>ap.n1 (y ▸ hc)) (fun y=>ap.o2 (y ▸ hc)) e) fun g4 e eb ex=>?_
  have z4:IsZip g4 z TI TO .ellipsis:=eb _ _ (sA ap ap.z2) (sb3.extBut _ _ (Ne.symm ap.TOz) (sb2.extBut _ _ (mU ap ap.z1) z1))
  refine bw4 z4 (by simp) fun g5 z5 sb5=>?_
  obtain ⟨oe,eo,co⟩:=ex
  have ne:e ≠ z:=fun y=>by
   rw [y,z4] at eo
   have:=bl2 eo
   rw [<- this] at co; exact absurd (show Value.type "zip" = Value.type "StopIteration" from co) (by decide)
  apply bh8
  refine wpAny_isInstance (T:="StopIteration") (b:=true) ⟨oe,sb5.extBut _ _ ne eo,co⟩ isSubtype_stop ?_
  exact bj3 (q g5 tk2 fun c o c1 c2 c3 c4 e=>sb5.extBut c o c1 (eb c o c4 (k3 c o c1 c3 c2 e)))
end
noncomputable def gQ (h:Heap) (t u:Addr):Heap:=
 ((((h.push { cls:=.type "tuple_iterator",data:=.fields #[.ref t,.int 0 0] }).push { cls:=.type "tuple_iterator",data:=.fields #[.ref u,.int 0 0] }).push { cls:=.type "tuple",data:=.seq #[.ref h.objs.size,.ref (h.objs.size+1)] }).push
  { cls:=.type "tuple",data:=.seq #[.none,.none] }).push { cls:=.type "zip",data:=.fields #[.none,.bool false,.bool false,.ref (h.objs.size+2),.ref (h.objs.size+3)] }
theorem ay3 (t u:Addr) (xs ys:Array Value):Meets (Builtin.«zip.__new__» ⟨[.type "zip",.ref t,.ref u],[]⟩) (fun _ R s=>s.heap.IsTuple t xs/\s.heap.IsTuple u ys/\R (.ok (.ret (.ref (s.heap.objs.size+4)))) { s with heap:=gQ s.heap t u }):=
 .of_wp fun prog w A R s h=>by
  obtain ⟨hp,g,d,tk,os⟩:=s
  obtain ⟨ht,hu,h⟩:=h
  have sub:=sub_zip
  have a1:Heap.IsTuple (Shared.heap ⟨hp,g,d,tk,os⟩) t xs:=ht
  have a2:Heap.IsTuple (Shared.heap ⟨hp.push { cls:=.type "tuple_iterator",data:=.fields #[.ref t,.int 0 0] },g,d,tk,os⟩) u ys:=hu.elim fun o y=>⟨o,bi1 _ y.1,y.2⟩
  wp_walk using wpAny_pyIter_tuple a1,wpAny_pyIter_tuple a2
  have e:∀ (o:Obj) (k:Heap),(k.push o).objs.size=k.objs.size+1:=fun o k=>bx4 ..
  refine⟨_,rfl,?_⟩
  simp only [gQ,e] at h ⊢
  exact h
section
variable {prog : Program} {w : World} {A : Around} {E : Value → Shared → Prop} {s : Shared}
theorem ay4 {t u:Addr}{xs ys:Array Value}{Q:Value->Shared->Prop} (ht:s.heap.IsTuple t xs) (hu:s.heap.IsTuple u ys)
  (q:∀ h',IsZip h' (s.heap.objs.size+4) (s.heap.objs.size+2) (s.heap.objs.size+3) .none->IsPair h' (s.heap.objs.size+2) (.ref s.heap.objs.size) (.ref (s.heap.objs.size+1))->
   IsPair h' (s.heap.objs.size+3) .none .none->h'.IsTupleIter s.heap.objs.size t 0->h'.IsTupleIter (s.heap.objs.size+1) u 0->(∀ c o,s.heap.get? c=some o->h'.get? c=some o)->Q (.ref (s.heap.objs.size+4)) { s with heap:=h' }) :
  wpAny (model prog w) A (call (.type "zip") [.ref t,.ref u]) Q E s:=by
 refine callType_new PySem.F.called_zip (by decide) (PySem.F.typeCall_zip_2 _ _) (PySem.F.newCall_zip_2 _ _) (fun obj=>PySem.F.args_object_init_3 obj _ _) PySem.F.entry_zip_new (ay3 t u xs ys) ⟨ht,hu,?_⟩
 have e:∀ (o:Obj) (k:Heap),(k.push o).objs.size=k.objs.size+1:=fun o k=>bx4 ..
 have p0:∀ (k:Heap) (o:Obj) (m:Nat),o.isFreed=false->m=k.objs.size->(k.push o).get? m=some o:=fun k o m f z=>by rw [z]; exact bk0 _ f
 have g0:(gQ s.heap t u).get? s.heap.objs.size=some { cls:=.type "tuple_iterator",data:=.fields #[.ref t,.int 0 0] }:=by
  unfold gQ
  exact bi1 _ (bi1 _ (bi1 _ (bi1 _ (p0 _ _ _ rfl rfl))))
 have g1:(gQ s.heap t u).get? (s.heap.objs.size+1)=some { cls:=.type "tuple_iterator",data:=.fields #[.ref u,.int 0 0] }:=by
  unfold gQ
  exact bi1 _ (bi1 _ (bi1 _ (p0 _ _ _ rfl (by simp only [e]))))
 have g2:(gQ s.heap t u).get? (s.heap.objs.size+2)=some { cls:=.type "tuple",data:=.seq #[.ref s.heap.objs.size,.ref (s.heap.objs.size+1)] }:=by
  unfold gQ
  exact bi1 _ (bi1 _ (p0 _ _ _ rfl (by simp only [e])))
 have g3:(gQ s.heap t u).get? (s.heap.objs.size+3)=some { cls:=.type "tuple",data:=.seq #[.none,.none] }:=by
  unfold gQ
  exact bi1 _ (p0 _ _ _ rfl (by simp only [e]))
 have g4:(gQ s.heap t u).get? (s.heap.objs.size+4)=some { cls:=.type "zip",data:=.fields #[.none,.bool false,.bool false,.ref (s.heap.objs.size+2),.ref (s.heap.objs.size+3)] }:=by
  unfold gQ
  exact p0 _ _ _ rfl (by simp only [e])
 refine⟨⟨_,g4,rfl⟩,q _ g4 g2 g3 ⟨_,g0,rfl,rfl⟩ ⟨_,g1,rfl,rfl⟩ fun c o z=>?_⟩
 unfold gQ
 exact bi1 _ (bi1 _ (bi1 _ (bi1 _ (bi1 _ z))))
end
end Zp
namespace L2
open PySem PySem.Spec PyProof.Rows
noncomputable def wH (K:PySem.W.Frag) (a b:Addr):It:=
  ⟨fun i H=>∃ xs ys x y,aJ K H a xs/\aJ K H b ys/\xs[i]? = some x/\ys[i]? = some y,
   fun i H v H'=>∃ T x y,H T=none/\v = .ref T/\H'=upd H T (.tup [x,y])/\∀ xs ys,aJ K H a xs->aJ K H b ys->xs[i]? = some x/\ys[i]? = some y,
   fun i H=>∃ xs ys,aJ K H a xs/\aJ K H b ys/\(i=xs.length ∨ (i < xs.length/\i=ys.length))⟩
noncomputable def Sq (t:Bool) (K:PySem.W.Frag) (H:Hp) (a:Addr) (xs:List V):Prop:=match t with
 | true=>aJ K H a xs
 | false=>aM K H a xs
noncomputable def gR (t:Bool) (h:Heap) (i a:Addr) (n:Nat):Prop:=match t with
 | true=>h.IsTupleIter i a n
 | false=>h.IsListIter i a n
noncomputable def O0 (t:Bool) (h:Heap) (a:Addr) (xs:Array Value):Prop:=match t with
 | true=>h.IsTuple a xs
 | false=>h.IsList a xs
theorem gR.at {h h':Heap}{i a:Addr}{n:Nat}:∀ {t:Bool},gR t h i a n->(∀ o,h.get? i=some o->h'.get? i=some o)->gR t h' i a n
 | true,x,k=>Heap.IsTupleIter.at x k
 | false,x,k=>Heap.IsListIter.at x k
theorem gR.ob {h:Heap}{i a:Addr}{n:Nat}:∀ {t:Bool},gR t h i a n->∃ o,h.get? i=some o/\∀ v,o.data ≠ .cell v
 | true,⟨o,f,_,d⟩=>⟨o,f,fun v q=>by rw [d] at q; cases q⟩
 | false,⟨o,f,_,d⟩=>⟨o,f,fun v q=>by rw [d] at q; cases q⟩
theorem gR.draws {prog:Program}{w:World}{A:Around}:∀ (t:Bool) (hh:A.handled=none) (it a:Addr) (ne:a ≠ it) (items:Array Value),Draws prog w A it [it,a] items.size (fun i v=>items[i]? = some v) (fun i h=>gR t h it a i/\O0 t h a items)
 | true,hh,it,a,ne,items=>Zp.ay2 hh it a ne items
 | false,hh,it,a,ne,items=>Draws.list hh it a ne items
section
variable {X : Cx} {pins : List (Addr × Obj)} {σ : St} {H : Hp} {s : Shared} {a : Addr} {xs ys : List V}
theorem Sq.get (I:a8 X pins σ H s):∀ {t:Bool},Sq t X.K H a xs->∃ us,aO xs us/\O0 t s.heap a us.toArray
 | true,h=>by obtain ⟨us,r,p,_⟩:=I.tuple h; exact⟨us,r,p⟩
 | false,h=>by obtain ⟨us,r,p,_⟩:=I.list h; exact⟨us,r,p.isList⟩
theorem Sq.inj (I:a8 X pins σ H s):∀ {t:Bool},Sq t X.K H a xs->Sq t X.K H a ys->xs=ys
 | true,h,g=>I.tuple_inj h g
 | false,h,g=>I.list_inj h g
theorem Sq.off (I:a8 X pins σ H s) (he:H a=none) (hb:X.base.get? a=none):∀ {t:Bool},Sq t X.K H a xs->False
 | true,h=>by
  rcases h with (h | ⟨_,h⟩) | ⟨o,_,_,h,_⟩
  ·rw [he] at h; cases h
  ·rw [he] at h; cases h
  ·have:=I.ok.mod.kin a o h
   rw [hb] at this; cases this
 | false,h=>by
  rcases h with (h | ⟨_,h⟩) | ⟨o,_,_,h,_⟩
  ·rw [he] at h; cases h
  ·rw [he] at h; cases h
  ·have:=I.ok.mod.kin a o h
   rw [hb] at this; cases this
end
noncomputable def ay5 (t1 t2:Bool) (K:PySem.W.Frag) (a b:Addr):It:=
  ⟨fun i H=>∃ xs ys x y,Sq t1 K H a xs/\Sq t2 K H b ys/\xs[i]? = some x/\ys[i]? = some y,
   fun i H v H'=>∃ T x y,H T=none/\v = .ref T/\H'=upd H T (.tup [x,y])/\∀ xs ys,Sq t1 K H a xs->Sq t2 K H b ys->xs[i]? = some x/\ys[i]? = some y,
   fun i H=>∃ xs ys,Sq t1 K H a xs/\Sq t2 K H b ys/\(i=xs.length ∨ (i < xs.length/\i=ys.length))⟩
structure wI (t1 t2:Bool) (z TI TO i1 i2 a b:Addr) (i:Nat) (h:Heap):Prop where
 zz:IsZip h z TI TO .none
 ti:IsPair h TI (.ref i1) (.ref i2)
 to_:∃ x y,IsPair h TO x y
 s1:gR t1 h i1 a i
 s2:gR t2 h i2 b i
theorem O1 (t1 t2:Bool) {P:Program}{w:World}{K:PySem.W.Frag}{elts:List Expr}{k:Nat}{pos:Pos} (a b z TI TO i1 i2:Addr) (d : [z,TI,TO,i1,i2].Nodup) :
  jH P w K (.Tuple elts k pos) (ay5 t1 t2 K a b) [z,TI,TO,i1,i2] z (wI t1 t2 z TI TO i1 i2 a b):=by
 have nd:z ≠ TI/\z ≠ TO/\z ≠ i1/\z ≠ i2/\TI ≠ TO/\TI ≠ i1/\TI ≠ i2/\TO ≠ i1/\TO ≠ i2/\i1 ≠ i2:=by
  simp only [bo2,bj1,bl0,bq2,not_or] at d
  obtain ⟨⟨a1,a2,a3,a4⟩,⟨b1,b2,b3⟩,⟨c1,c2⟩,e1,_⟩:=d
  exact⟨a1,a2,a3,a4,b1,b2,b3,c1,c2,e1⟩
 obtain ⟨n1,n2,n3,n4,n5,n6,n7,n8,n9,n10⟩:=nd
 have offBase:∀ {X:Cx}{pins:List (Addr × Obj)}{σ:St}{H:Hp}{s:Shared},a8 X pins σ H s->(∀ c ∈ [z,TI,TO,i1,i2],hV X pins H c)->∀ c ∈ [z,TI,TO,i1,i2],X.base.get? c=none:=by
  intro X pins σ H s I hf c hc
  cases q:X.base.get? c with
  | none=>rfl
  | some o=>
   rcases (hf c hc).2.2.2.1 with h | h
   ·exact absurd h (I.ok.noex c o q)
   ·exact absurd (bj9 (bk1 q) (bm6 I.ok.bsz h)) (bn2 _)
 have off:∀ {t:Bool}{X:Cx}{pins:List (Addr × Obj)}{σ:St}{H:Hp}{s:Shared}{c:Addr}{zs:List V},a8 X pins σ H s->(∀ c ∈ [z,TI,TO,i1,i2],hV X pins H c)->Sq t X.K H c zs->c ∉ [z,TI,TO,i1,i2]:=by
  intro t X pins σ H s c zs I hf hc hm
  exact Sq.off I (hf c hm).1 (offBase I hf c hm) hc
 have ap:∀ {c e:Addr},c ∉ [z,TI,TO,i1,i2]->e ∉ [z,TI,TO,i1,i2]->Zp.Ap z TI TO i1 i2 [i1,c] [i2,e]:=fun {c e} hc he=>by
  simp only [bj1,bl0,bq2,not_or] at hc he
  obtain ⟨c1,c2,c3,c4,c5⟩:=hc
  obtain ⟨e1,e2,e3,e4,e5⟩:=he
  have two:∀ {q u v:Addr},q ≠ u->q ≠ v->q ∉ [u,v]:=fun {q u v} h1 h2 hm=>by
   simp only [bj1,bl0,bq2] at hm
   exact hm.elim h1 h2
  exact⟨n1.symm,n2.symm,n5,two n3 (Ne.symm c1),two n4 (Ne.symm e1),two n8 (Ne.symm c3),two n9 (Ne.symm e3),two n6 (Ne.symm c2),two n7 (Ne.symm e2),bi9,bi9,two n10 (Ne.symm e4),two n10.symm (Ne.symm c5)⟩
 refine⟨by simp,fun i h st c hc=>?_,fun i h h' st kp=>?_,?_,?_,fun A i s Q E st q=>wpAny_pyIter_zip st.zz q⟩
 ·simp only [bj1,bl0,bq2] at hc
  obtain ⟨x,y,to⟩:=st.to_
  rcases hc with rfl | rfl | rfl | rfl | rfl
  ·exact⟨_,st.zz,fun v q=>by cases q⟩
  ·exact⟨_,st.ti,fun v q=>by cases q⟩
  ·exact⟨_,to,fun v q=>by cases q⟩
  ·exact st.s1.ob
  ·exact st.s2.ob
 ·obtain ⟨x,y,to⟩:=st.to_
  exact⟨kp z (by simp) _ st.zz,kp TI (by simp) _ st.ti,⟨x,y,kp TO (by simp) _ to⟩,st.s1.at fun o e=>kp i1 (by simp) o e,st.s2.at fun o e=>kp i2 (by simp) o e⟩
 ·
  intro X hP hw hK hc i pins s σ H E I hf st hg
  subst hP hw hK
  obtain ⟨xs,ys,x,y,ha,hb,hx,hy⟩:=hg
  obtain ⟨us,ru,pu⟩:=Sq.get I ha
  obtain ⟨vs,rv,pv'⟩:=Sq.get I hb
  obtain ⟨ux,eux,rux⟩:=ru.get hx
  obtain ⟨vy,evy,rvy⟩:=rv.get hy
  have fa:=off I hf ha
  have fb:=off I hf hb
  have hh:X.A.in1.handled=none:=I.ok.hd hc
  have l1:i < us.toArray.size:=by simpa using (bi5.mp eux).1
  have l2:i < vs.toArray.size:=by simpa using (bi5.mp evy).1
  have fa':a ≠ i1:=fun q=>fa (by rw [q]; simp)
  have fb':b ≠ i2:=fun q=>fb (by rw [q]; simp)
  have D1:=gR.draws t1 (prog:=X.prog) (w:=X.w) hh i1 a fa' us.toArray
  have D2:=gR.draws t2 (prog:=X.prog) (w:=X.w) hh i2 b fb' vs.toArray
  refine Zp.item D1 D2 (ap fa fb) l1 l2 ⟨st.zz,st.ti,st.to_,⟨st.s1,pu⟩,⟨st.s2,pv'⟩⟩ fun p q h' tk hp hq st' pr kp sz=>⟨_,rfl,?_⟩
  obtain rfl:p=ux:=by
   have:us.toArray[i]? = some ux:=by simpa using eux
   rw [this] at hp; exact (bl2 hp).symm
  obtain rfl:q=vy:=by
   have:vs.toArray[i]? = some vy:=by simpa using evy
   rw [this] at hq; exact (bl2 hq).symm
  refine wpAny_letOwnedTupleGo_zip (s:={ s with heap:=h',toks:=tk }) st'.zz fun g zz sb=>?_
  have hzl:z < s.heap.objs.size:=bk1 st.zz
  have up:∀ c o,c ≠ z->c ≠ TO->c ≠ i1->c ≠ i2->s.heap.get? c=some o->g.get? c=some o:=fun c o c1 c2 c3 c4 e=>sb.extBut c o c1 (kp c o c1 c2 c3 c4 e)
  have hT:H s.heap.objs.size=none:=I.hok.fresh (bi8 _)
  have prG:IsPair g s.heap.objs.size p q:=sb.extBut _ _ (bs1 hzl) pr
  have fpn:∀ c u,H c=some u->c ∉ [z,TI,TO,i1,i2]:=fun c u e hm=>by rw [(hf c hm).1] at e; cases e
  have upH:∀ c o u,H c=some u->s.heap.get? c=some o->g.get? c=some o:=fun c o u e z=>by
   have:=fpn c u e
   simp only [bj1,bl0,bq2,not_or] at this
   exact up c o this.1 this.2.2.1 this.2.2.2.1 this.2.2.2.2 z
  have ns:∀ m,s.heap.Ns X.env.locals m->g.Ns X.env.locals m:=fun m hm=>by
   obtain ⟨o,es,ep,e1,e2⟩:=hm
   exact⟨o,es,ep,up _ o (Ne.symm (hf z (by simp)).2.1) (Ne.symm (hf TO (by simp)).2.1) (Ne.symm (hf i1 (by simp)).2.1) (Ne.symm (hf i2 (by simp)).2.1) e1,e2⟩
  have I2:a8 X pins σ (upd H s.heap.objs.size (.tup [x,y])) { s with heap:=g,toks:=tk }:=by
   refine I.step (g':=s.gens) (d':=s.drawn) (ch:=[z,TO,i1,i2]) (fun c hc'=>?_) (fun c o _ _ hc' e _=>?_) (fun c o _ _ hc' e _=>⟨o.slots,?_⟩) (fun c o _ e n=>?_) (fun c o hc' e=>⟨o,?_⟩)
    (fun c zs e=>by rw [aR (e8 e hT)]; exact e) (fun c u zs e=>by rw [aR (e8 e hT)]; exact e) (fun c ps e=>⟨#[],by rw [aR (e8 e hT),e]; simp⟩) ns (fun c u e=>?_) I.bare
   ·have hm:c ∈ [z,TI,TO,i1,i2]:=by
     simp only [bj1,bl0,bq2] at hc' ⊢
     rcases hc' with h | h | h | h <;> simp [h]
    exact⟨(hf c hm).2.2.2.1,(hf c hm).2.1,(hf c hm).2.2.2.2.1,(hf c hm).2.2.2.2.2⟩
   ·simp only [bj1,bl0,bq2,not_or] at hc'
    exact up c o hc'.1 hc'.2.1 hc'.2.2.1 hc'.2.2.2 e
   ·simp only [bj1,bl0,bq2,not_or] at hc'
    exact up c o hc'.1 hc'.2.1 hc'.2.2.1 hc'.2.2.2 e
   ·rw [aR (bm1 (bk1 e))]; exact n
   ·simp only [bj1,bl0,bq2,not_or] at hc'
    exact up c o hc'.1 hc'.2.1 hc'.2.2.1 hc'.2.2.2 e
   ·by_cases hcT:c=s.heap.objs.size
    ·subst hcT
     rw [bI] at e; cases e
     exact⟨by show 2<=sizeLine; decide,[p,q],.cons rux (.cons rvy .nil),⟨_,prG,rfl,_,rfl⟩,fun u e=>by rw [prG] at e; cases e; rfl⟩
    ·rw [aR hcT] at e
     refine (I.hok c u e).stay (fun c' o' hc2 q'=>?_) (fun c' q'=>by rw [aR (e8 q' hT)]; exact q') fun c' zs q'=>by rw [aR (e8 q' hT)]; exact q'
     rcases hc2 with rfl | hc2
     ·exact upH _ _ _ e q'
     ·exact upH _ _ _ hc2 q'
  obtain ⟨x',y',to'⟩:=st'.to_
  refine⟨.ref s.heap.objs.size,_,I2,rfl,⟨_,x,y,hT,rfl,rfl,fun xs' ys' ha' hb'=>?_⟩,⟨zz,sb.extBut _ _ n1.symm st'.ti,⟨x',y',sb.extBut _ _ n2.symm to'⟩,st'.s1.1.at fun o e=>sb.extBut _ o n3.symm e,st'.s2.1.at fun o e=>sb.extBut _ o n4.symm e⟩,fun c hc'=>?_⟩
  ·rw [Sq.inj I ha' ha,Sq.inj I hb' hb]; exact⟨hx,hy⟩
  ·obtain ⟨o,e,_⟩:∃ o,s.heap.get? c=some o/\True:=by
    simp only [bj1,bl0,bq2] at hc'
    obtain ⟨x2,y2,to2⟩:=st.to_
    obtain ⟨o1,f1,_⟩:=st.s1.ob
    obtain ⟨o2,f2,_⟩:=st.s2.ob
    rcases hc' with rfl | rfl | rfl | rfl | rfl
    ·exact⟨_,st.zz,trivial⟩
    ·exact⟨_,st.ti,trivial⟩
    ·exact⟨_,to2,trivial⟩
    ·exact⟨_,f1,trivial⟩
    ·exact⟨_,f2,trivial⟩
   rw [aR (bm1 (bk1 e))]; exact (hf c hc').1
 ·
  intro X hP hw hK hc i pins s σ H E I hf st hg
  subst hP hw hK
  obtain ⟨xs,ys,ha,hb,hi⟩:=hg
  obtain ⟨us,ru,pu⟩:=Sq.get I ha
  obtain ⟨vs,rv,pv'⟩:=Sq.get I hb
  have fa:=off I hf ha
  have fb:=off I hf hb
  have hh:X.A.in1.handled=none:=I.ok.hd hc
  have fa':a ≠ i1:=fun q=>fa (by rw [q]; simp)
  have fb':b ≠ i2:=fun q=>fb (by rw [q]; simp)
  have D1:=gR.draws t1 (prog:=X.prog) (w:=X.w) hh i1 a fa' us.toArray
  have D2:=gR.draws t2 (prog:=X.prog) (w:=X.w) hh i2 b fb' vs.toArray
  have e1:=ru.length
  have e2:=rv.length
  refine Zp.fin D1 D2 (ap fa fb) (by simp only [bh9]; omega) ⟨st.zz,st.ti,st.to_,⟨st.s1,pu⟩,⟨st.s2,pv'⟩⟩ fun g tk kp=>⟨rfl,?_⟩
  have fpn:∀ c u,H c=some u->c ∉ [z,TI,TO,i1,i2]:=fun c u e hm=>by rw [(hf c hm).1] at e; cases e
  have upH:∀ c o u,H c=some u->s.heap.get? c=some o->g.get? c=some o:=fun c o u e z=>by
   have:=fpn c u e
   simp only [bj1,bl0,bq2,not_or] at this
   exact kp c o this.1 this.2.2.1 this.2.2.2.1 this.2.2.2.2 z
  have ns:∀ m,s.heap.Ns X.env.locals m->g.Ns X.env.locals m:=fun m hm=>by
   obtain ⟨o,es,ep,e1,e2⟩:=hm
   exact⟨o,es,ep,kp _ o (Ne.symm (hf z (by simp)).2.1) (Ne.symm (hf TO (by simp)).2.1) (Ne.symm (hf i1 (by simp)).2.1) (Ne.symm (hf i2 (by simp)).2.1) e1,e2⟩
  refine I.step (g':=s.gens) (d':=s.drawn) (ch:=[z,TO,i1,i2]) (fun c hc'=>?_) (fun c o _ _ hc' e _=>?_) (fun c o _ _ hc' e _=>⟨o.slots,?_⟩) (fun c o _ e n=>n) (fun c o hc' e=>⟨o,?_⟩)
   (fun c zs e=>e) (fun c u zs e=>e) (fun c ps e=>⟨#[],by rw [e]; simp⟩) ns (fun c u e=>?_) I.bare
  ·have hm:c ∈ [z,TI,TO,i1,i2]:=by
    simp only [bj1,bl0,bq2] at hc' ⊢
    rcases hc' with h | h | h | h <;> simp [h]
   exact⟨(hf c hm).2.2.2.1,(hf c hm).2.1,(hf c hm).2.2.2.2.1,(hf c hm).2.2.2.2.2⟩
  ·simp only [bj1,bl0,bq2,not_or] at hc'
   exact kp c o hc'.1 hc'.2.1 hc'.2.2.1 hc'.2.2.2 e
  ·simp only [bj1,bl0,bq2,not_or] at hc'
   exact kp c o hc'.1 hc'.2.1 hc'.2.2.1 hc'.2.2.2 e
  ·simp only [bj1,bl0,bq2,not_or] at hc'
   exact kp c o hc'.1 hc'.2.1 hc'.2.2.1 hc'.2.2.2 e
  ·refine (I.hok c u e).stay (fun c' o' hc2 q'=>?_) (fun _ q'=>q') fun _ _ q'=>q'
   rcases hc2 with rfl | hc2
   ·exact upH _ _ _ e q'
   ·exact upH _ _ _ hc2 q'
noncomputable abbrev ay6:=wI true true
theorem ay7 {P:Program}{w:World}{K:PySem.W.Frag}{elts:List Expr}{k:Nat}{pos:Pos} (a b z TI TO i1 i2:Addr) (d : [z,TI,TO,i1,i2].Nodup) :
  jH P w K (.Tuple elts k pos) (wH K a b) [z,TI,TO,i1,i2] z (ay6 z TI TO i1 i2 a b):=O1 true true a b z TI TO i1 i2 d
section
variable {X : Cx}
noncomputable def ay8 (K:PySem.W.Frag) (ta:TA):TI:=fun σ H R=>ta σ H fun vs H1=>∃ a b xs ys,vs = [.ref a,.ref b]/\aJ K H1 a xs/\aJ K H1 b ys/\R (wH K a b) H1
theorem ay9 {elts:List Expr}{kt:Nat}{pt:Pos}{a b:Expr}{ta:TA}{p pos:Pos} (hg:Gl X "zip") (hm:X.mg "zip" = none) (ha:PA X [a,b] ta) (hs:starEach [a,b] X.env = [(false,eval a X.env),(false,eval b X.env)]:=by rfl) (hs2:starEach [b] X.env = [(false,eval b X.env)]:=by rfl) :
  PI X (.Tuple elts kt pt) (.Call (.Name "zip" p) [a,b] [] pos) (ay8 X.K ta):=by
 intro pins s σ H R I h
 refine Call_ (jG I hg hm PyProof.Rows.boot_zip (bp6 (aQ (ha pos pins s σ H _ I h) fun us s1 ⟨vs,H1,I1,r1,q1⟩=>?_) (by rw [hs,hs2]) (by rw [hs2]; rfl)))
 obtain ⟨a',b',xs,ys,e,h1,h2,q⟩:=q1
 subst e
 cases r1 with
 | cons r rr=>
  cases rr with
  | cons r' rr=>
   cases rr
   cases r
   cases r'
   obtain ⟨us,_,p1,_⟩:=I1.tuple h1
   obtain ⟨ws,_,p2,_⟩:=I1.tuple h2
   refine Zp.ay4 p1 p2 fun h' z ti to s1' s2' kp=>wpAny_pyIter_zip z ?_
   have fresh:∀ k,H1 (s1.heap.objs.size+k)=none:=fun k=>I1.hok.fresh (br0 _ _)
   refine⟨s1.heap.objs.size+4,[s1.heap.objs.size+4,s1.heap.objs.size+2,s1.heap.objs.size+3,s1.heap.objs.size,s1.heap.objs.size+1],_,_,H1,rfl,I1.kept (t':=s1.toks) kp,
    ay7 a' b' _ _ _ _ _ (by simp),⟨z,ti,⟨_,_,to⟩,s1',s2'⟩,fun c hc=>?_,q⟩
   simp only [bj1,bl0,bq2] at hc
   rcases hc with rfl | rfl | rfl | rfl | rfl
   ·exact I1.fpOk (br0 _ _) (fresh 4)
   ·exact I1.fpOk (br0 _ _) (fresh 2)
   ·exact I1.fpOk (br0 _ _) (fresh 3)
   ·exact I1.fpOk (bi8 _) (fresh 0)
   ·exact I1.fpOk (br0 _ _) (fresh 1)
theorem wJ (hc:X.calm=true):cX X (.builtin "all") (fun xs H Q=>∃ (a:Addr) (bs:List Bool),xs = [.ref a]/\aM X.K H a (bs.map V.bl)/\Q (.bl (bs.all id)) H):=by
 intro pins s σ H xs us Q I r h
 obtain ⟨a,bs,rfl,hq,q⟩:=h
 obtain ⟨u,rfl,ru⟩:=hZ r
 cases ru
 obtain ⟨its,rv,p,hz⟩:=I.list hq
 have hl:=rv.length
 rw [bi4] at hl
 have hlt:a < s.heap.objs.size:=by obtain ⟨o,e,_⟩:=p.isList; exact bk1 e
 refine call_all_walk (wpAny_pyIter_list p.isList ?_)
 have hh:X.A.in1.handled=none:=I.ok.hd hc
 refine⟨s.heap.objs.size,_,_,_,_,_,fun i=>bs.getD i false,rfl,Walks.list hh s.heap.objs.size a (bm1 hlt) its.toArray,⟨⟨_,bk0 _ rfl,rfl,rfl⟩,p.isList.push _⟩,?_,fun h' tk kp=>?_⟩
 ·intro i v s' Q' E' hP hQ'
  have hi:its[i]? = some v:=by simpa using hP
  have hil:i < bs.length:=by rw [hl]; exact (bi5.mp hi).1
  obtain ⟨u,e1,e2⟩:=rv.get (i:=i) (x:=.bl bs[i]) (by simp [hil])
  rw [hi] at e1; cases e1
  cases e2
  have:bs.getD i false=bs[i]:=by rw [bj0,bi2 hil]; rfl
  have hQ2:Q' (bs.getD i false) s':=hQ'
  rw [this] at hQ2
  exact bt7 hQ2
 ·have all_eq:(List.range its.toArray.size).all (fun i=>bs.getD i false)=bs.all id:=by
   rw [bh9,<- hl]
   clear q rv hz hl hq hlt p hh kp
   induction bs with
   | nil=>rfl
   | cons b r ih=>
    rw [bk9,List.range_succ_eq_map,List.all_cons,List.all_map,List.all_cons,<- ih]
    rfl
  rw [all_eq]
  refine⟨.bl (bs.all id),H,I.kept (t':=tk) (h':=h') fun b o e=>kp b o (fun z=>?_) (bi1 _ e),rfl,q⟩
  rw [bi3.mp z] at e
  exact absurd (bk1 e) (bn2 _)
end
structure wK (H:Hp) (J:It) (n:Nat) (R:Nat->V->Hp->Prop):Prop where
 go:∀ i H',aC H H'->i < n->J.go i H'
 yld:∀ i H' x H2,aC H H'->J.yld i H' x H2->i < n->aC H' H2/\R i x H2
 stop:∀ H',aC H H'->J.stop n H'
theorem wL {H1:Hp}{J:It}{n:Nat}{R:Nat->V->Hp->Prop}{g:TG}{tc:TT}{te:TE}{σ0:St}{Q:VK} (O:wK H1 J n R) (Pv:Nat->List V->Hp->Prop) (hn:n<=sizeLine)
  (h0:∀ D,H1 D=none->Pv 0 [] (upd H1 D (.lst [])))
  (mono:∀ i acc H' H2,aC H' H2->Pv i acc H'->Pv i acc H2)
  (hs:∀ i x acc D H',i < n->R i x H'->rT H1 D n i acc H'->Pv i acc H'->g x σ0 H' fun σ2 H3=>Wk σ0 σ2/\tc σ2 H3 fun b H4=>
   if b=true then te σ2 H4 fun v H5=>w4 H1 D n Pv i acc v H5 else M0 H1 D n Pv i acc H4)
  (hd:∀ D acc H',H1 D=none->aC H1 H'->H' D=some (.lst acc)->acc.length<=n->Pv n acc H'->Q (.ref D) H') :
  ∀ D,H1 D=none->∃ W:Nat->Nat->List V->Hp->Prop,(∃ m,W 0 m [] (upd H1 D (.lst [])))/\pA g tc te σ0 J D Q W:=by
 intro D hD
 refine⟨CW H1 D n Pv,⟨n,rfl,bm9 _,bi8 _,bH hD _,bI,h0 D hD⟩,?_⟩
 rintro i m acc H' ⟨rfl,hi,ha,sm,hDa,p⟩
 refine⟨hDa,?_⟩
 by_cases hlt:i < n
 ·refine .inr ⟨O.go i H' sm hlt,fun x H2 y=>?_⟩
  obtain ⟨s2,r2⟩:=O.yld i H' x H2 sm y hlt
  exact hs i x acc D H2 hlt r2 ⟨hlt,ha,hn,sm.trans s2,hD,s2 _ _ hDa⟩ (mono i acc H' H2 s2 p)
 ·have e:i=n:=by omega
  subst e
  exact .inl ⟨O.stop H' sm,hd D acc H' hD sm hDa ha p⟩
theorem O3 {K:PySem.W.Frag}{H:Hp}{a b:Addr}{xs ys:List V} (ha:aJ K H a xs) (hb:aJ K H b ys) (hl:ys.length<=xs.length) :
  wK H (wH K a b) ys.length (fun i v H2=>∃ T x y,v = .ref T/\H2 T=some (.tup [x,y])/\xs[i]? = some x/\ys[i]? = some y):=by
 refine⟨fun i H' sm hi=>⟨xs,ys,xs[i]'(by omega),ys[i],sm.tup ha,sm.tup hb,by simp,by simp⟩,fun i H' v H2 sm y hi=>?_,fun H' sm=>⟨xs,ys,sm.tup ha,sm.tup hb,by omega⟩⟩
 obtain ⟨T,x,y',hT,hv,e,hxy⟩:=y
 subst e
 obtain ⟨h1,h2⟩:=hxy xs ys (sm.tup ha) (sm.tup hb)
 exact⟨bH hT _,T,x,y',hv,bI,h1,h2⟩
end L2
namespace HT
open PySem PyProof.Rows
section
variable {prog : Program} {w : World} {A : Around} {E : Value → Shared → Prop} {s : Shared}
theorem az0 {t sl:Addr}{items:Array Value}{vl vu:Value}{lo hi:Option Int}{Q:Value->Shared->Prop} (ht:IsTup s.heap t items) (hs:s.heap.IsSliceOf sl vl vu .none) (pl:IsPart vl lo) (pu:IsPart vu hi)
  (h1:b5 items.size 0 lo=0) (h2:b5 items.size items.size hi=items.size) (h:Q (.ref t) s):wpAny (model prog w) A (getItem (.ref t) (.ref sl)) Q E s:=by
 obtain ⟨o,e1,e2,e3⟩:=id hs
 have T:s.TypeIs (.ref sl) "slice":=⟨o,e1,e2⟩
 unfold getItem
 try with_reducible refine bs0 ?_
 first | refine bh8 (bj3 ?_) | skip
 apply bh8
 apply wpAny_sequenceKey ht.typeIs (by decide)
 apply bh8
 apply br5 (name:=Str.ofString "__getitem__") ht.typeIs bu4
 apply bq1 bu4 ht.typeIs entry_tuple_getitem _ (args_tuple_getitem _ _)
 change wpAny _ _ (Builtin.Tuple.tupleItemsOf (.ref t) >>= _) _ _ s
 apply bh8
 apply tupleItemsOf_ ht
 apply bh8
 apply wpAny_typeOf T
 rw [if_pos (by decide)]
 apply bh8
 apply F6 hs pl pu
 rw [h1,h2]
 have yes:((((0:Nat):Int) == 0 && (1:Int) == 1 && (items.size - 0) == items.size)=true):=by simp
 change wpAny _ _ (if ((((0:Nat):Int) == 0 && (1:Int) == 1 && (items.size - 0) == items.size)=true) then _ else _) _ _ s
 rw [if_pos yes]
 apply bh8
 unfold Builtin.Tuple.tupleIsExact
 apply bh8
 apply wpAny_typeOf ht.typeIs
 apply bj3
 change wpAny _ _ (rule "tuple.getitem.whole" >>= fun _=>ret (Value.ref t)) _ _ s
 apply bh8
 apply wpAny_rule
 exact bj3 ⟨_,rfl,bj3 h⟩
end
end HT
namespace L2
open PySem PySem.Spec PyProof.Rows
section
variable {X : Cx}
noncomputable def az1 (K:PySem.W.Frag):V->Option Int->Option Int->Hp->VK->Prop:=fun x lo hi H Q=>∃ a xs,x = .ref a/\aJ K H a xs/\(∀ p,H p=none->Q (.ref p) (upd H p (.tup (eW xs lo hi))))/\(eW xs lo hi=xs->Q (.ref a) H)
theorem O4:kM X (az1 X.K):=by
 intro pins s σ H x v vl vu lo hi sl Q I rx hs pl pu h
 obtain ⟨a,xs,ex,hx,q1,q2⟩:=h
 by_cases hw:HT.b5 xs.length 0 lo=0/\HT.b5 xs.length xs.length hi=xs.length
 ·subst ex
  cases rx
  obtain ⟨its,r,ht,hz⟩:=I.tuple hx
  have hlen:its.toArray.size=xs.length:=by rw [bh9]; exact r.length.symm
  refine⟨"tuple",_,PyProof.Rows.slot_tuple_getitem.lookup,ht.typeIs,?_⟩
  refine HT.az0 ht hs pl pu (by rw [hlen]; exact hw.1) (by rw [hlen]; exact hw.2) ⟨.ref a,H,I,rfl,q2 ?_⟩
  unfold eW
  rw [hw.1,hw.2]
  simp
 ·exact as1 pins s σ H x v vl vu lo hi sl Q I rx hs pl pu ⟨a,xs,ex,hx,hw,q1⟩
end
theorem wM (xs:List V):eW xs (some 1) none=xs.drop 1:=by
 unfold eW
 have e1:HT.b5 xs.length 0 (some 1)=min 1 xs.length:=HT.ar2 xs.length 0 1
 have e2:HT.b5 xs.length xs.length none=xs.length:=rfl
 rw [e1,e2]
 cases xs with
 | nil=>rfl
 | cons x r=>
  have:min 1 (x :: r).length=1:=by simp
  rw [this]
  simp
noncomputable def wN (K:PySem.W.Frag) (a b:Addr):It:=
  ⟨fun i H=>∃ xs ys x y,aM K H a xs/\aM K H b ys/\xs[i]? = some x/\ys[i]? = some y,
   fun i H v H'=>∃ T x y,H T=none/\v = .ref T/\H'=upd H T (.tup [x,y])/\∀ xs ys,aM K H a xs->aM K H b ys->xs[i]? = some x/\ys[i]? = some y,
   fun i H=>∃ xs ys,aM K H a xs/\aM K H b ys/\(i=xs.length ∨ (i < xs.length/\i=ys.length))⟩
noncomputable abbrev az2:=wI false false
theorem az3 {P:Program}{w:World}{K:PySem.W.Frag}{elts:List Expr}{k:Nat}{pos:Pos} (a b z TI TO i1 i2:Addr) (d : [z,TI,TO,i1,i2].Nodup) :
  jH P w K (.Tuple elts k pos) (wN K a b) [z,TI,TO,i1,i2] z (az2 z TI TO i1 i2 a b):=O1 false false a b z TI TO i1 i2 d
section
variable {X : Cx}
noncomputable def az4 (K:PySem.W.Frag) (ta:TA):TI:=fun σ H R=>ta σ H fun vs H1=>∃ a b xs ys,vs = [.ref a,.ref b]/\aM K H1 a xs/\aM K H1 b ys/\R (wN K a b) H1
theorem az5 {elts:List Expr}{kt:Nat}{pt:Pos}{a b:Expr}{ta:TA}{p pos:Pos} (hg:Gl X "zip") (hm:X.mg "zip" = none) (ha:PA X [a,b] ta) (hs:starEach [a,b] X.env = [(false,eval a X.env),(false,eval b X.env)]:=by rfl) (hs2:starEach [b] X.env = [(false,eval b X.env)]:=by rfl) :
  PI X (.Tuple elts kt pt) (.Call (.Name "zip" p) [a,b] [] pos) (az4 X.K ta):=by
 intro pins s σ H R I h
 refine Call_ (jG I hg hm PyProof.Rows.boot_zip (bp6 (aQ (ha pos pins s σ H _ I h) fun us s1 ⟨vs,H1,I1,r1,q1⟩=>?_) (by rw [hs,hs2]) (by rw [hs2]; rfl)))
 obtain ⟨a',b',xs,ys,e,h1,h2,q⟩:=q1
 subst e
 cases r1 with
 | cons r rr=>
  cases rr with
  | cons r' rr=>
   cases rr
   cases r
   cases r'
   obtain ⟨us,_,p1,_⟩:=I1.list h1
   obtain ⟨ws,_,p2,_⟩:=I1.list h2
   refine call_zip_2 p1.isList p2.isList fun h' z ti to s1' s2' _ kp=>wpAny_pyIter_zip z ?_
   have fresh:∀ k,H1 (s1.heap.objs.size+k)=none:=fun k=>I1.hok.fresh (br0 _ _)
   refine⟨s1.heap.objs.size+4,[s1.heap.objs.size+4,s1.heap.objs.size+2,s1.heap.objs.size+3,s1.heap.objs.size,s1.heap.objs.size+1],_,_,H1,rfl,I1.kept (t':=s1.toks) kp,
    az3 a' b' _ _ _ _ _ (by simp),⟨z,ti,⟨_,_,to⟩,s1',s2'⟩,fun c hc=>?_,q⟩
   simp only [bj1,bl0,bq2] at hc
   rcases hc with rfl | rfl | rfl | rfl | rfl
   ·exact I1.fpOk (br0 _ _) (fresh 4)
   ·exact I1.fpOk (br0 _ _) (fresh 2)
   ·exact I1.fpOk (br0 _ _) (fresh 3)
   ·exact I1.fpOk (bi8 _) (fresh 0)
   ·exact I1.fpOk (br0 _ _) (fresh 1)
end
theorem az6 {K:PySem.W.Frag}{H:Hp}{a b:Addr}{xs ys:List V} (ha:aM K H a xs) (hb:aM K H b ys) (hl:ys.length<=xs.length) :
  wK H (wN K a b) ys.length (fun i v H2=>∃ T x y,v = .ref T/\H2 T=some (.tup [x,y])/\xs[i]? = some x/\ys[i]? = some y):=by
 refine⟨fun i H' sm hi=>⟨xs,ys,xs[i]'(by omega),ys[i],sm.seq ha,sm.seq hb,by simp,by simp⟩,fun i H' v H2 sm y hi=>?_,fun H' sm=>⟨xs,ys,sm.seq ha,sm.seq hb,by omega⟩⟩
 obtain ⟨T,x,y',hT,hv,e,hxy⟩:=y
 subst e
 obtain ⟨h1,h2⟩:=hxy xs ys (sm.seq ha) (sm.seq hb)
 exact⟨bH hT _,T,x,y',hv,bI,h1,h2⟩
theorem az7 (l:Addr) (items:Array Value) (n:Nat) (b:Addr) (items2:Array Value) (n2:Nat) (dd:Option Addr) (ss:Array (Option Value)) (h0 : ¬(!items.isEmpty && Builtin.List.listTooLong (items.size+items2.size))=true) (h1:items.size<=sizeLine) (h2:items.size+items2.size<=sizeLine+1) :
  Meets (Builtin.«list.extend» ⟨[.ref l,.ref b],[]⟩) (fun _ R s=>s.heap.get? l=some { cls:=.type "list",dict:=none,data:=.seq items n,slots:=#[] }/\s.heap.get? b=some { cls:=.type "tuple",dict:=dd,data:=.seq items2 n2,slots:=ss }/\R (.ok (.ret Value.none)) { s with heap:=s.heap.update l (Obj.mapSeq fun x=>x ++ items2),toks:=s.toks }):=
 .of_wp fun prog w A R s h=>by
  obtain ⟨hp,g,d,tk,os⟩:=s; obtain ⟨hl,hb,h⟩:=h; have f2:=AutoSeq1.sub_tuple_tuple; have f3:=AutoSeq1.sub_list_list; have f4:=AutoSeq1.sub_tuple_list; have f5:=AutoSeq1.sub_list_tuple
  have hz':(items ++ items2).size<=sizeLine+1:=by rw [Array.size_append]; exact h2
  wp_walk using (wpAny_updateSeq hl rfl (hz:=h1) (_hz':=hz')),AutoSeq1.wpAny_loadPart' hl,AutoSeq1.wpAny_loadPart' hb
  exact⟨_,rfl,h⟩
noncomputable def O5 (K:PySem.W.Frag):V->List V->Hp->VK->Prop:=fun x vs H Q=>∃ (l b:Addr) (xs zs:List V),x = .ref l/\vs = [.ref b]/\H l=some (.lst xs)/\aJ K H b zs/\xs.length+zs.length<=sizeLine/\Q .non (upd H l (.lst (xs ++ zs)))
theorem az8 {X:Cx}:mR X "list.extend" (O5 X.K):=by
 intro pins s σ H x vs v us Q I rx rv h
 obtain ⟨l,b,xs,zs,rfl,rfl,hH,hB,hz,q⟩:=h
 cases rx
 obtain ⟨u,rfl,ru⟩:=rv.one
 cases ru
 obtain ⟨z,its,n,r,hl,e⟩:=I.lstM hH
 obtain ⟨its2,r2,⟨⟨cls,dd,data,ss⟩,e2,hc,n2,hd⟩,z2⟩:=I.tuple hB
 cases hc
 cases hd
 have hl2:=r2.length
 have hsz:its.toArray.size+its2.toArray.size<=sizeLine:=by rw [bh9,bh9]; omega
 have hlong : ¬ (!its.toArray.isEmpty && Builtin.List.listTooLong (its.toArray.size+its2.toArray.size))=true:=by
  rw [vH hsz,bu0]
  exact bk3
 refine call_meets F.slot_list_extend ⟨_,e,rfl⟩ F.entry_list_extend (F.args_list_extend_2 _ _)
  (az7 l its.toArray n b its2.toArray n2 dd ss hlong (by rw [bh9]; omega) (by omega)) ⟨e,e2,?_⟩
 refine⟨.non,_,I.lset (its':=its ++ its2) hH e (by simp) (r.append r2) ?_,rfl,q⟩
 rw [bj4]
 omega
end L2
namespace PP
open PySem L2
inductive PV where
 | non | bl (b:Bool) | int (i:Int) | str (x:Str) | tup (xs:List PV) | lst (xs:List PV)
 | dK (kvs:List (aH × PV)) | dT (kvs:List (List aH × PV)) | scr (ns:List Int) | kt (xs:List PV) | exc (c:Str) | fK (kvs:List (aH × PV)) | fT (kvs:List (List aH × PV))
mutual
noncomputable def flat:PV->Bool
 | .tup xs=>flats xs
 | .lst _=>false
 | .dK _=>false
 | .dT _=>false
 | .non=>true
 | .bl _=>true
 | .int _=>true
 | .str _=>true
 | .scr _=>true
 | .kt xs=>flats xs
 | .exc _=>true
 | .fK _=>false
 | .fT _=>false
noncomputable def flats:List PV->Bool
 | []=>true
 | x :: r=>flat x && flats r
end
noncomputable def jQ (K:PySem.W.Frag) (H:Hp) (a:Addr) (ns:List Int):Prop:=(∃ o,H a=some (.frz o (.lst (ns.map V.int)))) ∨
  ∃ (o:Obj) (its:Array Value) (n:Nat),K.lookup a=some o/\o.cls = .type "list"/\o.dict=none/\o.data = .seq its n/\its.size<=sizeLine/\aO (ns.map V.int) its.toList
noncomputable def mV (K:PySem.W.Frag) (a:Addr) (us:List V):Prop:=∃ (o:Obj) (its:Array Value) (n:Nat),K.lookup a=some o/\o.cls = .type "tuple"/\o.data = .seq its n/\its.size<=sizeLine/\aO us its.toList
mutual
inductive aI (K:PySem.W.Frag) (M:Addr->Prop) (H:Hp):V->PV->Prop
 | non:aI K M H .non .non
 | bl (b:Bool):aI K M H (.bl b) (.bl b)
 | int (i:Int):aI K M H (.int i) (.int i)
 | str (x:Str):aI K M H (.str x) (.str x)
 | tup {a:Addr}{us:List V}{xs:List PV}:H a=some (.tup us)->Reps K M H us xs->aI K M H (.ref a) (.tup xs)
 | lst {a:Addr}{us:List V}{xs:List PV}:M a->H a=some (.lst us)->Reps K M H us xs->aI K M H (.ref a) (.lst xs)
 | dK {a:Addr}{kvs:List (aH × V)}{ps:List (aH × PV)}:M a->H a=some (.dK kvs)->kvs.map (·.1)=ps.map (·.1)->Reps K M H (kvs.map (·.2)) (ps.map (·.2))->aI K M H (.ref a) (.dK ps)
 | dT {a:Addr}{kvs:List (List aH × V)}{ps:List (List aH × PV)}:M a->H a=some (.dT kvs)->kvs.map (·.1)=ps.map (·.1)->Reps K M H (kvs.map (·.2)) (ps.map (·.2))->aI K M H (.ref a) (.dT ps)
 | scr {a:Addr}{ns:List Int}:jQ K H a ns->aI K M H (.ref a) (.scr ns)
 | kt {a:Addr}{us:List V}{xs:List PV}:mV K a us->Reps K M H us xs->aI K M H (.ref a) (.kt xs)
 | exc {a C:Addr}{o:Obj}{c:Str}:H a=some (.frz o (.own a))->PySem.W.nsIn K mainGlobals c=some (some (.ref C))->o.cls = .ref C->aI K M H (.ref a) (.exc c)
 | fK {a:Addr}{o:Obj}{kvs:List (aH × V)}{ps:List (aH × PV)}:H a=some (.frz o (.dK kvs))->kvs.map (·.1)=ps.map (·.1)->Reps K M H (kvs.map (·.2)) (ps.map (·.2))->aI K M H (.ref a) (.fK ps)
 | fT {a:Addr}{o:Obj}{kvs:List (List aH × V)}{ps:List (List aH × PV)}:H a=some (.frz o (.dT kvs))->kvs.map (·.1)=ps.map (·.1)->Reps K M H (kvs.map (·.2)) (ps.map (·.2))->aI K M H (.ref a) (.fT ps)
inductive Reps (K:PySem.W.Frag) (M:Addr->Prop) (H:Hp):List V->List PV->Prop
 | nil:Reps K M H [] []
 | cons {v:V}{x:PV}{vs:List V}{xs:List PV}:aI K M H v x->Reps K M H vs xs->Reps K M H (v :: vs) (x :: xs)
end
structure gS (M M':Addr->Prop) (H H':Hp):Prop where
 lst:∀ a us,M a->H a=some (.lst us)->M' a/\H' a=some (.lst us)
 dK:∀ a kvs,M a->H a=some (.dK kvs)->M' a/\H' a=some (.dK kvs)
 dT:∀ a kvs,M a->H a=some (.dT kvs)->M' a/\H' a=some (.dT kvs)
 tup:∀ a us,H a=some (.tup us)->H' a=some (.tup us)
 frz:∀ a o u,H a=some (.frz o u)->H' a=some (.frz o u)
theorem jQ.keep {K:PySem.W.Frag}{H H':Hp}{a:Addr}{ns:List Int} (k:∀ a o u,H a=some (.frz o u)->H' a=some (.frz o u)) (h:jQ K H a ns):jQ K H' a ns:=
 h.elim (fun ⟨o,e⟩=>.inl ⟨o,k _ _ _ e⟩) .inr
mutual
theorem aI.keep {K:PySem.W.Frag}{M M':Addr->Prop}{H H':Hp} (k:gS M M' H H'):∀ {v:V}{x:PV},aI K M H v x->aI K M' H' v x
 | _,_,.non=>.non
 | _,_,.bl b=>.bl b
 | _,_,.int i=>.int i
 | _,_,.str x=>.str x
 | _,_,.tup h r=>.tup (k.tup _ _ h) (Reps.keep k r)
 | _,_,.lst m h r=>.lst (k.lst _ _ m h).1 (k.lst _ _ m h).2 (Reps.keep k r)
 | _,_,.dK m h e r=>.dK (k.dK _ _ m h).1 (k.dK _ _ m h).2 e (Reps.keep k r)
 | _,_,.dT m h e r=>.dT (k.dT _ _ m h).1 (k.dT _ _ m h).2 e (Reps.keep k r)
 | _,_,.scr h=>.scr (h.keep k.frz)
 | _,_,.kt h r=>.kt h (Reps.keep k r)
 | _,_,.exc h e c=>.exc (k.frz _ _ _ h) e c
 | _,_,.fK h e r=>.fK (k.frz _ _ _ h) e (Reps.keep k r)
 | _,_,.fT h e r=>.fT (k.frz _ _ _ h) e (Reps.keep k r)
theorem Reps.keep {K:PySem.W.Frag}{M M':Addr->Prop}{H H':Hp} (k:gS M M' H H'):∀ {vs:List V}{xs:List PV},Reps K M H vs xs->Reps K M' H' vs xs
 | _,_,.nil=>.nil
 | _,_,.cons r t=>.cons (aI.keep k r) (Reps.keep k t)
end
mutual
theorem aI.flat {K:PySem.W.Frag}{M M':Addr->Prop}{H:Hp}{v:V}{x:PV} (f:flat x=true) (r:aI K M H v x):aI K M' H v x:=by
 cases r with
 | non=>exact .non
 | bl b=>exact .bl b
 | int i=>exact .int i
 | str x=>exact .str x
 | tup h r=>exact .tup h (Reps.flat (by unfold PP.flat at f; exact f) r)
 | lst m h r=>unfold PP.flat at f; cases f
 | dK m h e r=>unfold PP.flat at f; cases f
 | dT m h e r=>unfold PP.flat at f; cases f
 | scr h=>exact .scr h
 | kt h r=>exact .kt h (Reps.flat (by unfold PP.flat at f; exact f) r)
 | exc h e c=>exact .exc h e c
 | fK h e r=>unfold PP.flat at f; cases f
 | fT h e r=>unfold PP.flat at f; cases f
theorem Reps.flat {K:PySem.W.Frag}{M M':Addr->Prop}{H:Hp}{vs:List V}{xs:List PV} (f:flats xs=true) (r:Reps K M H vs xs):Reps K M' H vs xs:=by
 cases r with
 | nil=>exact .nil
 | cons r t=>
  unfold PP.flats at f
  rw [bm2] at f
  exact .cons (aI.flat f.1 r) (Reps.flat f.2 t)
end
theorem gS.same {M M':Addr->Prop}{H H':Hp} (s:aC H H') (m:∀ a,M a->M' a):gS M M' H H':=
 ⟨fun a _ h e=>⟨m a h,s _ _ e⟩,fun a _ h e=>⟨m a h,s _ _ e⟩,fun a _ h e=>⟨m a h,s _ _ e⟩,fun _ _ e=>s _ _ e,fun _ _ _ e=>s _ _ e⟩
theorem aI.same {K:PySem.W.Frag}{M M':Addr->Prop}{H H':Hp}{v:V}{x:PV} (r:aI K M H v x) (s:aC H H') (m:∀ a,M a->M' a):aI K M' H' v x:=r.keep (.same s m)
theorem Reps.same {K:PySem.W.Frag}{M M':Addr->Prop}{H H':Hp}{v:List V}{x:List PV} (r:Reps K M H v x) (s:aC H H') (m:∀ a,M a->M' a):Reps K M' H' v x:=r.keep (.same s m)
noncomputable def jR:HO->Bool
 | .lst _=>true
 | .dK _=>true
 | .dT _=>true
 | _=>false
theorem gS.upd {M M':Addr->Prop}{H:Hp}{a:Addr}{o o':HO} (h:H a=some o') (mu:jR o'=true) (m:∀ b,M b->b ≠ a/\M' b):gS M M' H (upd H a o):=
 ⟨fun b _ hb e=>⟨(m b hb).2,by rw [aR (m b hb).1]; exact e⟩,fun b _ hb e=>⟨(m b hb).2,by rw [aR (m b hb).1]; exact e⟩,fun b _ hb e=>⟨(m b hb).2,by rw [aR (m b hb).1]; exact e⟩,
  fun b _ e=>by rw [aR (fun z=>by rw [z,h] at e; cases e; cases mu)]; exact e,
  fun b _ _ e=>by rw [aR (fun z=>by rw [z,h] at e; cases e; cases mu)]; exact e⟩
theorem Reps.length {K:PySem.W.Frag}{M:Addr->Prop}{H:Hp}:∀ {vs:List V}{xs:List PV},Reps K M H vs xs->vs.length=xs.length
 | _,_,.nil=>rfl
 | _,_,.cons _ t=>congrArg (· + 1) t.length
theorem Reps.get {K:PySem.W.Frag}{M:Addr->Prop}{H:Hp}:∀ {vs:List V}{xs:List PV}{i:Nat}{v:V},Reps K M H vs xs->vs[i]? = some v->∃ x,xs[i]? = some x/\aI K M H v x
 | _,_,_,_,.nil,e=>by simp at e
 | _,_,0,_,.cons r _,e=>by simp at e; subst e; exact⟨_,rfl,r⟩
 | _,_,i+1,v,.cons _ t,e=>by
  rw [br6] at e
  obtain ⟨x,h1,h2⟩:=t.get e
  exact⟨x,by rw [br6]; exact h1,h2⟩
theorem Reps.at {K:PySem.W.Frag}{M:Addr->Prop}{H:Hp}:∀ {vs:List V}{xs:List PV}{i:Nat}{x:PV},Reps K M H vs xs->xs[i]? = some x->∃ v,vs[i]? = some v/\aI K M H v x
 | _,_,_,_,.nil,e=>by simp at e
 | _,_,0,_,.cons r _,e=>by simp at e; subst e; exact⟨_,rfl,r⟩
 | _,_,i+1,v,.cons _ t,e=>by
  rw [br6] at e
  obtain ⟨x,h1,h2⟩:=t.at e
  exact⟨x,by rw [br6]; exact h1,h2⟩
theorem Reps.append {K:PySem.W.Frag}{M:Addr->Prop}{H:Hp}:∀ {vs:List V}{xs:List PV}{us:List V}{ys:List PV},Reps K M H vs xs->Reps K M H us ys->Reps K M H (vs ++ us) (xs ++ ys)
 | _,_,_,_,.nil,s=>s
 | _,_,_,_,.cons r t,s=>.cons r (t.append s)
theorem Reps.set {K:PySem.W.Frag}{M:Addr->Prop}{H:Hp}{v:V}{x:PV} (q:aI K M H v x):∀ (i:Nat) {vs:List V}{xs:List PV},Reps K M H vs xs->Reps K M H (vs.set i v) (xs.set i x)
 | _,_,_,.nil=>.nil
 | 0,_,_,.cons r t=>.cons q t
 | i+1,_,_,.cons r t=>.cons r (Reps.set q i t)
theorem Reps.take {K:PySem.W.Frag}{M:Addr->Prop}{H:Hp}:∀ (n:Nat) {vs:List V}{xs:List PV},Reps K M H vs xs->Reps K M H (vs.take n) (xs.take n)
 | 0,_,_,_=>by simp; exact .nil
 | _+1,_,_,.nil=>.nil
 | n+1,_,_,.cons r t=>.cons r (Reps.take n t)
theorem Reps.drop {K:PySem.W.Frag}{M:Addr->Prop}{H:Hp}:∀ (n:Nat) {vs:List V}{xs:List PV},Reps K M H vs xs->Reps K M H (vs.drop n) (xs.drop n)
 | 0,_,_,r=>r
 | _+1,_,_,.nil=>.nil
 | n+1,_,_,.cons _ t=>Reps.drop n t
noncomputable abbrev intz (ns:List Int):List PV:=ns.map PV.int
theorem Reps.intz {K:PySem.W.Frag}{M:Addr->Prop}{H:Hp}:∀ (ns:List Int),Reps K M H (ns.map V.int) (intz ns)
 | []=>.nil
 | n :: r=>.cons (.int n) (Reps.intz r)
theorem Reps.ofInts {K:PySem.W.Frag}{M:Addr->Prop}{H:Hp}:∀ {ns:List Int}{us:List V},Reps K M H us (PP.intz ns)->us=ns.map V.int
 | [],_,.nil=>rfl
 | n :: r,_,.cons q t=>by
  cases q
  rw [Reps.ofInts t]; rfl
theorem dG:∀ (ns:List Int),flats (intz ns)=true
 | []=>rfl
 | n :: r=>by show (flat (.int n) && flats (intz r))=true; rw [dG r]; rfl
inductive Tg | rd | sh | nw | fr
inductive Slot | sh (g:Bool) (x:PV) | own (x:PV)
noncomputable def Slot.val:Slot->PV
 | .sh _ x=>x
 | .own x=>x
noncomputable def Slot.tag:Slot->Tg
 | .sh true _=>.nw
 | .sh false _=>.sh
 | .own _=>.rd
noncomputable abbrev bM:=List (Option Slot)
noncomputable def Ms (H0:Hp) (W:Addr->Prop):Bool->Addr->Prop
 | false,a=>¬ W a
 | true,a=>¬ W a/\H0 a=none
noncomputable def Mg (H0:Hp) (W:Addr->Prop) (Hs:Hp):Tg->Addr->Prop
 | .rd,_=>True
 | .sh,a=>¬ W a
 | .nw,a=>¬ W a/\H0 a=none
 | .fr,a=>Hs a=none
noncomputable def iK (K:PySem.W.Frag) (M:Addr->Prop) (H:Hp) (a:Addr):PV->Prop
 | .lst xs=>∃ us,H a=some (.lst us)/\Reps K M H us xs
 | .dK ps=>∃ kvs,H a=some (.dK kvs)/\kvs.map (·.1)=ps.map (·.1)/\Reps K M H (kvs.map (·.2)) (ps.map (·.2))
 | .dT ps=>∃ kvs,H a=some (.dT kvs)/\kvs.map (·.1)=ps.map (·.1)/\Reps K M H (kvs.map (·.2)) (ps.map (·.2))
 | _=>False
noncomputable def O6 (K:PySem.W.Frag) (H0:Hp) (W:Addr->Prop) (H:Hp) (v:V):Slot->Prop
 | .sh g x=>aI K (Ms H0 W g) H v x
 | .own x=>∃ a,v = .ref a/\W a/\iK K (Ms H0 W true) H a x
structure PX (K:PySem.W.Frag) (H0:Hp) (W:Addr->Prop) (σ:St) (ρ:bM) (H:Hp):Prop where
 len:ρ.length=σ.length
 same:aC H0 H
 wm:∀ a,W a->H0 a=none/\∃ o,H a=some o/\jR o=true
 sl:∀ (i:Nat) (m:Slot),ρ[i]? = some (some m)->∃ v,σ[i]? = some (some v)/\O6 K H0 W H v m
 dis:∀ (i j:Nat) (x y:PV) (a:Addr),ρ[i]? = some (some (.own x))->ρ[j]? = some (some (.own y))->σ[i]? = some (some (.ref a))->σ[j]? = some (some (.ref a))->i=j
theorem iK.keep {K:PySem.W.Frag}{M M':Addr->Prop}{H H':Hp}{a:Addr} (k:gS M M' H H') (ha:∀ o,H a=some o->H' a=some o):∀ {x:PV},iK K M H a x->iK K M' H' a x
 | .lst _,⟨us,e,r⟩=>⟨us,ha _ e,r.keep k⟩
 | .dK _,⟨us,e,q,r⟩=>⟨us,ha _ e,q,r.keep k⟩
 | .dT _,⟨us,e,q,r⟩=>⟨us,ha _ e,q,r.keep k⟩
theorem iK.at {K:PySem.W.Frag}{M:Addr->Prop}{H:Hp}{a:Addr}:∀ {x:PV},iK K M H a x->∃ o,H a=some o/\jR o=true
 | .lst _,⟨us,e,r⟩=>⟨_,e,rfl⟩
 | .dK _,⟨us,e,q,r⟩=>⟨_,e,rfl⟩
 | .dT _,⟨us,e,q,r⟩=>⟨_,e,rfl⟩
theorem iK.rep {K:PySem.W.Frag}{M M':Addr->Prop}{H:Hp}{a:Addr} (m:∀ b,M b->M' b) (ha:M' a):∀ {x:PV},iK K M H a x->aI K M' H (.ref a) x
 | .lst _,⟨us,e,r⟩=>.lst ha e (r.same (aC.refl _) m)
 | .dK _,⟨us,e,q,r⟩=>.dK ha e q (r.same (aC.refl _) m)
 | .dT _,⟨us,e,q,r⟩=>.dT ha e q (r.same (aC.refl _) m)
section
variable {K : PySem.W.Frag} {H0 : Hp} {W W' : Addr → Prop} {σ : St} {ρ : bM} {H H' : Hp}
theorem PX.mono (p:PX K H0 W σ ρ H) (s:aC H H'):PX K H0 W σ ρ H':=by
 refine⟨p.len,p.same.trans s,fun a h=>⟨(p.wm a h).1,let ⟨o,e,m⟩:=(p.wm a h).2; ⟨o,s _ _ e,m⟩⟩,fun i m h=>?_,p.dis⟩
 obtain ⟨v,e,r⟩:=p.sl i m h
 refine⟨v,e,?_⟩
 cases m with
 | sh g x=>exact aI.same r s fun _ z=>z
 | own x=>
  obtain ⟨a,e1,e2,r⟩:=r
  exact⟨a,e1,e2,r.keep (.same s fun _ z=>z) fun _ z=>s _ _ z⟩
theorem PX.new (p:PX K H0 W σ ρ H) {a:Addr} (h:H a=none) : ¬ W a/\H0 a=none:=
 ⟨fun z=>(by obtain ⟨_,o,e,_⟩:=p.wm a z; rw [h] at e; cases e),p.same.free h⟩
theorem Mg.back {g:Tg}{H1:Hp} (s:aC H H1) {a:Addr} (h:Mg H0 W H1 g a):Mg H0 W H g a:=by
 cases g with
 | fr=>exact s.free h
 | rd=>exact h
 | sh=>exact h
 | nw=>exact h
end
noncomputable abbrev PK:=PV->Tg->Prop
noncomputable abbrev aG:=bM->PK->Prop
noncomputable abbrev cK:=bM->(Bool->Prop)->Prop
noncomputable abbrev cG:=bM->(List (PV × Tg)->Prop)->Prop
inductive i8 (K:PySem.W.Frag) (H0:Hp) (W:Addr->Prop) (Hs H:Hp):List V->List (PV × Tg)->Prop
 | nil:i8 K H0 W Hs H [] []
 | cons {v:V}{x:PV}{g:Tg}{vs:List V}{xs:List (PV × Tg)}:aI K (Mg H0 W Hs g) H v x->i8 K H0 W Hs H vs xs->i8 K H0 W Hs H (v :: vs) ((x,g) :: xs)
noncomputable def sB (K:PySem.W.Frag) (H0:Hp) (W:Addr->Prop) (H:Hp) (Q:PK) (Q':VK):Prop:=∀ v H' x g,aC H H'->aI K (Mg H0 W H g) H' v x->Q x g->Q' v H'
noncomputable def LE (X:Cx) (t:aG):TE:=fun σ H Q'=>∃ (W:Addr->Prop) (ρ:bM) (Q:PK),PX X.K X.H₀ W σ ρ H/\t ρ Q/\sB X.K X.H₀ W H Q Q'
noncomputable def LT (X:Cx) (t:cK):TT:=fun σ H Q'=>∃ (W:Addr->Prop) (ρ:bM) (Q:Bool->Prop),PX X.K X.H₀ W σ ρ H/\t ρ Q/\∀ b H',aC H H'->Q b->Q' b H'
noncomputable def LA (X:Cx) (t:cG):TA:=fun σ H Q'=>∃ (W:Addr->Prop) (ρ:bM) (Q:List (PV × Tg)->Prop),PX X.K X.H₀ W σ ρ H/\t ρ Q/\∀ vs H' xs,aC H H'->i8 X.K X.H₀ W H H' vs xs->Q xs->Q' vs H'
theorem i8.same {K:PySem.W.Frag}{H0:Hp}{W:Addr->Prop}{Hs Hs' H H':Hp} (s:aC H H') (b:aC Hs' Hs):∀ {vs:List V}{xs:List (PV × Tg)},i8 K H0 W Hs H vs xs->i8 K H0 W Hs' H' vs xs
 | _,_,.nil=>.nil
 | _,_,.cons r t=>.cons (r.same s fun _ z=>Mg.back b z) (t.same s b)
theorem i8.any {K:PySem.W.Frag}{H0:Hp}{W:Addr->Prop}{Hs H:Hp}:∀ {vs:List V}{xs:List (PV × Tg)},i8 K H0 W Hs H vs xs->Reps K (fun _=>True) H vs (xs.map (·.1))
 | _,_,.nil=>.nil
 | _,_,.cons r t=>.cons (r.same (aC.refl _) fun _ _=>trivial) t.any
noncomputable def Nw:Tg->PV->Prop
 | .fr,_=>True
 | .nw,_=>True
 | _,x=>flat x=true
noncomputable def kR (xs:List (PV × Tg)):Prop:=∀ p ∈ xs,Nw p.2 p.1
section
variable {K : PySem.W.Frag} {H0 Hs H : Hp} {W : Addr → Prop} {σ : St} {ρ : bM}
theorem Nw.rep {g:Tg}{x:PV}{v:V} (px:PX K H0 W σ ρ Hs) (n:Nw g x) (r:aI K (Mg H0 W Hs g) H v x):aI K (Ms H0 W true) H v x:=by
 cases g with
 | fr=>exact r.same (aC.refl _) fun a z=>px.new z
 | nw=>exact r.same (aC.refl _) fun a z=>z
 | sh=>exact r.flat n
 | rd=>exact r.flat n
theorem kR.reps {vs:List V}:∀ {xs:List (PV × Tg)}{vs:List V},PX K H0 W σ ρ Hs->kR xs->i8 K H0 W Hs H vs xs->Reps K (Ms H0 W true) H vs (xs.map (·.1))
 | _,_,px,n,.nil=>.nil
 | _,_,px,n,.cons r t=>.cons (Nw.rep px (n _ bi9) r) (kR.reps (vs:=vs) px (fun p hp=>n p (bj7 _ hp)) t)
theorem O7 {v:V}{m:Slot} (r:O6 K H0 W H v m):aI K (Mg H0 W Hs m.tag) H v m.val:=by
 cases m with
 | sh g x=>
  cases g with
  | true=>exact aI.same r (aC.refl _) fun _ z=>z
  | false=>exact aI.same r (aC.refl _) fun _ z=>z
 | own x=>
  obtain ⟨a,rfl,_,r⟩:=r
  exact r.rep (fun _ _=>trivial) trivial
end
section
variable {X : Cx} {σ : St} {H : Hp} {Q' : VK} {ta tb : aG}
noncomputable def a5 (i:Nat):aG:=fun ρ Q=>∃ m,ρ[i]? = some (some m)/\Q m.val m.tag
noncomputable def qC (x:PV):aG:=fun _ Q=>Q x .fr
theorem az9 {i:Nat} (h:LE X (a5 i) σ H Q'):hG i σ H Q':=by
 obtain ⟨W,ρ,Q,px,⟨m,e,q⟩,k⟩:=h
 obtain ⟨v,ev,r⟩:=px.sl i m e
 exact⟨v,ev,k v H _ _ (aC.refl _) (O7 r) q⟩
theorem sC {x:PV}{v:V} (hr:∀ M,aI X.K M H v x) (h:LE X (qC x) σ H Q'):tC v σ H Q':=by
 obtain ⟨W,ρ,Q,px,q,k⟩:=h
 exact k v H _ _ (aC.refl _) (hr _) q
noncomputable def eM (X:Cx) (R:PV->Tg->PV->Tg->PK->Prop) (r:R2):Prop:=∀ (W:Addr->Prop) (Hs H:Hp) (u v:V) (x y:PV) (g g':Tg) (Q:PK) (Q':VK),aC Hs H->
 (∀ a,Hs a=none->¬ W a/\X.H₀ a=none)->aI X.K (Mg X.H₀ W Hs g) H u x->aI X.K (Mg X.H₀ W Hs g') H v y->R x g y g' Q->(∀ w H' z gz,aC H H'->aI X.K (Mg X.H₀ W Hs gz) H' w z->Q z gz->Q' w H')->r u v H Q'
noncomputable def q2 (R:PV->Tg->PV->Tg->PK->Prop) (ta tb:aG):aG:=fun ρ Q=>ta ρ fun x g=>tb ρ fun y g'=>R x g y g' Q
theorem sD {R:PV->Tg->PV->Tg->PK->Prop}{r:R2} (c:eM X R r) (h:LE X (q2 R ta tb) σ H Q'):mM r (LE X ta) (LE X tb) σ H Q':=by
 obtain ⟨W,ρ,Q,px,q,k⟩:=h
 refine⟨W,ρ,_,px,q,fun u H1 x g s1 r1 q1=>⟨W,ρ,_,px.mono s1,q1,fun v H2 y g' s2 r2 q2=>?_⟩⟩
 exact c W H H2 u v x y g g' Q Q' (s1.trans s2) (fun a z=>px.new z) (r1.same s2 fun _ z=>z) (r2.same (aC.refl _) fun _ z=>Mg.back s1 z) q2 fun w H' z gz s3 r3 q3=>k w H' z gz ((s1.trans s2).trans s3) r3 q3
noncomputable def RI (C:Int->Int->Prop) (f:Int->Int->PV):PV->Tg->PV->Tg->PK->Prop:=fun x _ y _ Q=>∃ i j,x = .int i/\y = .int j/\C i j/\Q (f i j) .fr
noncomputable def fJ (f:Int->Int->PV):PV->Tg->PV->Tg->PK->Prop:=fun x _ y _ Q=>∃ i j,x = .int i/\y = .int j/\Q (f i j) .fr
theorem sE {C:Int->Int->Prop}{f:Int->Int->Int}:eM X (RI C fun i j=>.int (f i j)) (rI C fun i j=>.int (f i j)):=by
 rintro W Hs H u v x y g g' Q Q' s n r1 r2 ⟨i,j,rfl,rfl,c,q⟩ k
 cases r1; cases r2
 exact⟨i,j,rfl,rfl,c,k _ _ _ _ (aC.refl _) (.int _) q⟩
theorem O8 {f:Int->Int->Int}:eM X (fJ fun i j=>.int (f i j)) (iX fun i j=>.int (f i j)):=by
 rintro W Hs H u v x y g g' Q Q' s n r1 r2 ⟨i,j,rfl,rfl,q⟩ k
 cases r1; cases r2
 exact⟨i,j,rfl,rfl,k _ _ _ _ (aC.refl _) (.int _) q⟩
theorem mW {f:Int->Int->Bool}:eM X (fJ fun i j=>.bl (f i j)) (iX fun i j=>.bl (f i j)):=by
 rintro W Hs H u v x y g g' Q Q' s n r1 r2 ⟨i,j,rfl,rfl,q⟩ k
 cases r1; cases r2
 exact⟨i,j,rfl,rfl,k _ _ _ _ (aC.refl _) (.bl _) q⟩
noncomputable def lR (neg:Bool):PV->Tg->PV->Tg->PK->Prop:=fun x _ y _ Q=>(∃ i j,x = .int i/\y = .int j/\Q (.bl (if neg=true then !decide (i=j) else decide (i=j))) .fr) ∨ (∃ i j,x = .bl i/\y = .bl j/\Q (.bl (if neg=true then !decide (i=j) else decide (i=j))) .fr)
theorem O9 (i j:Int):decide (V.int i=V.int j)=decide (i=j):=by
 rw [bp8,bq6,bq6]; exact⟨fun z=>V.int.inj z,fun z=>congrArg V.int z⟩
theorem P0 (i j:Bool):decide (V.bl i=V.bl j)=decide (i=j):=by
 rw [bp8,bq6,bq6]; exact⟨fun z=>V.bl.inj z,fun z=>congrArg V.bl z⟩
theorem P3:eM X (lR false) C5:=by
 rintro W Hs H u v x y g g' Q Q' s n r1 r2 (⟨i,j,rfl,rfl,q⟩ | ⟨i,j,rfl,rfl,q⟩) k
 ·cases r1; cases r2
  exact⟨rfl,by rw [O9]; exact k _ _ _ _ (aC.refl _) (.bl _) q⟩
 ·cases r1; cases r2
  exact⟨rfl,by rw [P0]; exact k _ _ _ _ (aC.refl _) (.bl _) q⟩
theorem aA0:eM X (lR true) uX:=by
 rintro W Hs H u v x y g g' Q Q' s n r1 r2 (⟨i,j,rfl,rfl,q⟩ | ⟨i,j,rfl,rfl,q⟩) k
 ·cases r1; cases r2
  exact⟨rfl,by rw [O9]; exact k _ _ _ _ (aC.refl _) (.bl _) q⟩
 ·cases r1; cases r2
  exact⟨rfl,by rw [P0]; exact k _ _ _ _ (aC.refl _) (.bl _) q⟩
noncomputable def bD (t:aG):cK:=fun ρ Q=>t ρ fun x _=>∃ b,x = .bl b/\Q b
theorem sF {t:aG}{Q':Bool->Hp->Prop} (h:LT X (bD t) σ H Q'):LE X t σ H fun x H'=>∃ k,x = .bl k/\Q' k H':=by
 obtain ⟨W,ρ,Q,px,q,k⟩:=h
 refine⟨W,ρ,_,px,q,?_⟩
 rintro v H1 x g s r ⟨b,rfl,q⟩
 cases r
 exact⟨b,rfl,k _ _ s q⟩
noncomputable def mX (t u:cK):cK:=fun ρ Q=>t ρ fun c=>if c=true then u ρ Q else Q false
noncomputable def pG (t u:cK):cK:=fun ρ Q=>t ρ fun c=>if c=true then Q true else u ρ Q
noncomputable def j3 (t:cK):cK:=fun ρ Q=>t ρ fun c=>Q (!c)
variable {t u : cK} {Qb : Bool → Hp → Prop}
theorem aA1 (h:LT X (mX t u) σ H Qb):A5 (LT X t) (LT X u) σ H Qb:=by
 obtain ⟨W,ρ,Q,px,q,k⟩:=h
 refine⟨W,ρ,_,px,q,fun b H1 s1 q1=>?_⟩
 cases b with
 | true=>exact bJ ⟨W,ρ,Q,px.mono s1,by simpa using q1,fun b H2 s2 q2=>k _ _ (s1.trans s2) q2⟩
 | false=>exact bF (k _ _ s1 (by simpa using q1))
theorem aA2 (h:LT X (pG t u) σ H Qb):A6 (LT X t) (LT X u) σ H Qb:=by
 obtain ⟨W,ρ,Q,px,q,k⟩:=h
 refine⟨W,ρ,_,px,q,fun b H1 s1 q1=>?_⟩
 cases b with
 | false=>exact bF ⟨W,ρ,Q,px.mono s1,by simpa using q1,fun b H2 s2 q2=>k _ _ (s1.trans s2) q2⟩
 | true=>exact bJ (k _ _ s1 (by simpa using q1))
theorem aA3 (h:LT X (j3 t) σ H Qb):A7 (LT X t) σ H Qb:=by
 obtain ⟨W,ρ,Q,px,q,k⟩:=h
 exact⟨W,ρ,_,px,q,fun b H1 s1 q1=>k _ _ s1 q1⟩
noncomputable def pH (ta tb:aG):aG:=fun ρ Q=>ta ρ fun x _=>∃ c,x = .bl c/\if c=true then tb ρ Q else Q (.bl false) .fr
noncomputable def wO (ta:aG):aG:=fun ρ Q=>ta ρ fun x _=>∃ c,x = .bl c/\Q (.bl (!c)) .fr
theorem sB.back {K:PySem.W.Frag}{H0:Hp}{W:Addr->Prop}{H H1:Hp}{Q:PK} (k:sB K H0 W H Q Q') (s:aC H H1):sB K H0 W H1 Q Q':=fun v H' x g s' r q=>k v H' x g (s.trans s') (r.same (aC.refl _) fun _ z=>Mg.back s z) q
theorem aA4 (h:LE X (pH ta tb) σ H Q'):A8 (LE X ta) (LE X tb) σ H Q':=by
 obtain ⟨W,ρ,Q,px,q,k⟩:=h
 refine⟨W,ρ,_,px,q,?_⟩
 rintro v H1 x g s1 r ⟨c,rfl,q⟩
 cases r
 refine⟨c,rfl,?_⟩
 cases c with
 | true=>exact bJ ⟨W,ρ,Q,px.mono s1,by simpa using q,k.back s1⟩
 | false=>exact bF (k _ _ _ _ s1 (.bl _) (by simpa using q))
theorem aA5 (h:LE X (wO ta) σ H Q'):A9 (LE X ta) σ H Q':=by
 obtain ⟨W,ρ,Q,px,q,k⟩:=h
 refine⟨W,ρ,_,px,q,?_⟩
 rintro v H1 x g s1 r ⟨c,rfl,q⟩
 cases r
 exact⟨c,rfl,k _ _ _ _ s1 (.bl _) q⟩
noncomputable def a9:cG:=fun _ Q=>Q []
noncomputable def a6 (te:aG) (tr:cG):cG:=fun ρ Q=>te ρ fun x g=>tr ρ fun xs=>Q ((x,g) :: xs)
variable {Qa : List V → Hp → Prop} {tr : cG}
theorem aA6 (h:LA X a9 σ H Qa):iY σ H Qa:=by
 obtain ⟨W,ρ,Q,px,q,k⟩:=h
 exact k _ _ _ (aC.refl _) .nil q
theorem aA7 (h:LA X (a6 ta tr) σ H Qa):i3 (LE X ta) (LA X tr) σ H Qa:=by
 obtain ⟨W,ρ,Q,px,q,k⟩:=h
 refine⟨W,ρ,_,px,q,fun v H1 x g s1 r1 q1=>⟨W,ρ,_,px.mono s1,q1,fun vs H2 xs s2 r2 q2=>?_⟩⟩
 exact k _ _ _ (s1.trans s2) (.cons (r1.same s2 fun _ z=>z) (r2.same (aC.refl _) s1)) q2
noncomputable def wP (t:cG):aG:=fun ρ Q=>t ρ fun xs=>xs.length<=1000/\kR xs/\Q (.tup (xs.map (·.1))) .nw
noncomputable def eZ (t:cG):aG:=fun ρ Q=>t ρ fun xs=>xs.length<=1000/\flats (xs.map (·.1))=true/\Q (.tup (xs.map (·.1))) .fr
noncomputable def dQ (t:cG):aG:=fun ρ Q=>t ρ fun xs=>xs.length<=1000/\flats (xs.map (·.1))=true/\Q (.lst (xs.map (·.1))) .fr
theorem i8.length {K:PySem.W.Frag}{H0:Hp}{W:Addr->Prop}{Hs H:Hp}:∀ {vs:List V}{xs:List (PV × Tg)},i8 K H0 W Hs H vs xs->vs.length=xs.length
 | _,_,.nil=>rfl
 | _,_,.cons _ t=>congrArg (· + 1) t.length
theorem mY {n:Nat} (h:n<=1000):n<=sizeLine:=bn5 (p7 h)
theorem aA8 (h:LE X (wP tr) σ H Q'):v4 (LA X tr) σ H Q':=by
 obtain ⟨W,ρ,Q,px,q,k⟩:=h
 refine⟨W,ρ,_,px,q,?_⟩
 rintro vs H1 xs s1 r ⟨hl,n,q⟩
 refine⟨by rw [r.length]; exact mY hl,fun p hp=>k _ _ _ .nw (s1.trans (bH hp _)) (.tup bI ?_) q⟩
 exact (kR.reps (vs:=vs) px n r).same (bH hp _) fun _ z=>z
theorem aA9 (h:LE X (eZ tr) σ H Q'):v4 (LA X tr) σ H Q':=by
 obtain ⟨W,ρ,Q,px,q,k⟩:=h
 refine⟨W,ρ,_,px,q,?_⟩
 rintro vs H1 xs s1 r ⟨hl,n,q⟩
 refine⟨by rw [r.length]; exact mY hl,fun p hp=>k _ _ _ .fr (s1.trans (bH hp _)) (.tup bI ?_) q⟩
 exact (r.any.flat n).same (bH hp _) fun _ z=>z
theorem aB0 (h:LE X (dQ tr) σ H Q'):rE (LA X tr) σ H Q':=by
 obtain ⟨W,ρ,Q,px,q,k⟩:=h
 refine⟨W,ρ,_,px,q,?_⟩
 rintro vs H1 xs s1 r ⟨hl,n,q⟩
 refine⟨by rw [r.length]; exact mY hl,fun p hp=>k _ _ _ .fr (s1.trans (bH hp _)) (.lst (s1.free hp) bI ?_) q⟩
 exact (r.any.flat n).same (bH hp _) fun _ z=>z
noncomputable def fZ (X:Cx) (R:List PV->(PV->Prop)->Prop) (r:List V->Hp->VK->Prop):Prop:=∀ (H:Hp) (vs:List V) (xs:List PV) (Q:PV->Prop) (Q':VK),Reps X.K (fun _=>True) H vs xs->R xs Q->
 (∀ w H' z,aC H H'->aI X.K (fun a=>H a=none) H' w z->Q z->Q' w H')->r vs H Q'
noncomputable def aB (R:List PV->(PV->Prop)->Prop) (t:cG):aG:=fun ρ Q=>t ρ fun xs=>R (xs.map (·.1)) fun z=>Q z .fr
theorem P4 {R:List PV->(PV->Prop)->Prop}{r:List V->Hp->VK->Prop} (c:fZ X R r) (h:LE X (aB R tr) σ H Q'):v9 r (LA X tr) σ H Q':=by
 obtain ⟨W,ρ,Q,px,q,k⟩:=h
 refine⟨W,ρ,_,px,q,fun vs H1 xs s1 r1 q1=>c H1 vs _ _ Q' r1.any q1 fun w H' z s2 r2 q2=>k w H' z .fr (s1.trans s2) (r2.same (aC.refl _) fun _ z=>s1.free z) q2⟩
end
structure g6 where
 nx:bM->Prop
 rt:PV->Prop
 bk:bM->Prop:=fun _=>False
 ct:bM->Prop:=fun _=>False
noncomputable abbrev aK:=g6->bM->Prop
noncomputable def Ev (W:Addr->Prop) (H:Hp) (W':Addr->Prop) (H':Hp):Prop:=∀ b o,H b=some o->¬ W b->H' b=some o/\¬ W' b
theorem Ev.trans {W W1 W2:Addr->Prop}{H H1 H2:Hp} (a:Ev W H W1 H1) (b:Ev W1 H1 W2 H2):Ev W H W2 H2:=fun c o h n=>let ⟨h1,n1⟩:=a c o h n; b c o h1 n1
theorem Ev.same {W:Addr->Prop}{H H':Hp} (s:aC H H'):Ev W H W H':=fun c o h n=>⟨s _ _ h,n⟩
theorem Ev.refl (W:Addr->Prop) (H:Hp):Ev W H W H:=Ev.same (aC.refl _)
structure pI (X:Cx) (W:Addr->Prop) (H:Hp) (D':g6) (D:dL):Prop where
 nx:∀ W' σ' H' ρ',Ev W H W' H'->PX X.K X.H₀ W' σ' ρ' H'->D'.nx ρ'->D.nx σ' H'
 rt:∀ v H' x,aC X.H₀ H'->aI X.K (fun a=>X.H₀ a=none) H' v x->D'.rt x->D.rt v H'
 bk:∀ W' σ' H' ρ',Ev W H W' H'->PX X.K X.H₀ W' σ' ρ' H'->D'.bk ρ'->D.bk σ' H'
 ct:∀ W' σ' H' ρ',Ev W H W' H'->PX X.K X.H₀ W' σ' ρ' H'->D'.ct ρ'->D.ct σ' H'
theorem pI.step {X:Cx}{W W1:Addr->Prop}{H H1:Hp}{D':g6}{D:dL} (k:pI X W H D' D) (e:Ev W H W1 H1):pI X W1 H1 D' D:=
 ⟨fun W' σ' H' ρ' e'=>k.nx W' σ' H' ρ' (e.trans e'),k.rt,fun W' σ' H' ρ' e'=>k.bk W' σ' H' ρ' (e.trans e'),fun W' σ' H' ρ' e'=>k.ct W' σ' H' ρ' (e.trans e')⟩
noncomputable def LS (X:Cx) (t:aK):TS:=fun D σ H=>∃ (W:Addr->Prop) (ρ:bM) (D':g6),PX X.K X.H₀ W σ ρ H/\t D' ρ/\pI X W H D' D
theorem fL {α:Type}{l:List α}{i j:Nat}{a b:α} (h:(l.set i a)[j]? = some b):(j=i/\i < l.length/\b=a) ∨ (j ≠ i/\l[j]? = some b):=by
 by_cases e:j=i
 ·subst e
  have hl:j < (l.set j a).length:=(bi5.mp h).1
  rw [bm3] at hl
  rw [bn3 hl] at h
  exact .inl ⟨rfl,hl,(bl2 h).symm⟩
 ·rw [bl1 (Ne.symm e)] at h
  exact .inr ⟨e,h⟩
section
variable {K : PySem.W.Frag} {H0 : Hp} {W W' : Addr → Prop} {σ : St} {ρ : bM} {H H' Hs : Hp}
theorem PX.setSh {i:Nat}{v:V}{g:Bool}{x:PV} (p:PX K H0 W σ ρ H) (r:aI K (Ms H0 W g) H v x):PX K H0 W (σ.set i (some v)) (ρ.set i (some (.sh g x))) H:=by
 refine⟨by rw [bm3,bm3]; exact p.len,p.same,p.wm,fun j m h=>?_,fun j k y z a h1 h2 h3 h4=>?_⟩
 ·rcases fL h with ⟨rfl,hl,e⟩ | ⟨hne,h⟩
  ·cases e
   rw [p.len] at hl
   exact⟨v,bn3 hl,r⟩
  ·obtain ⟨u,e,q⟩:=p.sl j m h
   exact⟨u,by rw [bl1 (Ne.symm hne)]; exact e,q⟩
 ·rcases fL h1 with ⟨_,_,e⟩ | ⟨n1,h1⟩
  ·cases e
  ·rcases fL h2 with ⟨_,_,e⟩ | ⟨n2,h2⟩
   ·cases e
   ·rw [bl1 (Ne.symm n1)] at h3
    rw [bl1 (Ne.symm n2)] at h4
    exact p.dis j k y z a h1 h2 h3 h4
theorem PX.setNone {i:Nat}{o:Option V} (p:PX K H0 W σ ρ H):PX K H0 W (σ.set i o) (ρ.set i none) H:=by
 refine⟨by rw [bm3,bm3]; exact p.len,p.same,p.wm,fun j m h=>?_,fun j k y z a h1 h2 h3 h4=>?_⟩
 ·rcases fL h with ⟨rfl,hl,e⟩ | ⟨hne,h⟩
  ·cases e
  ·obtain ⟨u,e,q⟩:=p.sl j m h
   exact⟨u,by rw [bl1 (Ne.symm hne)]; exact e,q⟩
 ·rcases fL h1 with ⟨_,_,e⟩ | ⟨n1,h1⟩
  ·cases e
  ·rcases fL h2 with ⟨_,_,e⟩ | ⟨n2,h2⟩
   ·cases e
   ·rw [bl1 (Ne.symm n1)] at h3
    rw [bl1 (Ne.symm n2)] at h4
    exact p.dis j k y z a h1 h2 h3 h4
noncomputable def lS (W:Addr->Prop) (a:Addr):Addr->Prop:=fun b=>W b ∨ b=a
theorem sG {g:Bool}{a b:Addr} (n:b ≠ a) (h:Ms H0 W g b):Ms H0 (lS W a) g b:=by
 cases g with
 | true=>exact⟨fun z=>z.elim h.1 n,h.2⟩
 | false=>exact fun z=>z.elim h n
theorem PX.setOwn {i:Nat}{a:Addr}{x:PV} (p:PX K H0 W σ ρ Hs) (s:aC Hs H) (ha:Hs a=none) (r:iK K (Ms H0 (lS W a) true) H a x):PX K H0 (lS W a) (σ.set i (some (.ref a))) (ρ.set i (some (.own x))) H:=by
 have old:∀ b o,Hs b=some o->b ≠ a:=fun b o e z=>by rw [z,ha] at e; cases e
 have kp:∀ g,gS (Ms H0 W g) (Ms H0 (lS W a) g) Hs H:=fun g=>⟨fun b _ m e=>⟨sG (old _ _ e) m,s _ _ e⟩,fun b _ m e=>⟨sG (old _ _ e) m,s _ _ e⟩,fun b _ m e=>⟨sG (old _ _ e) m,s _ _ e⟩,fun _ _ e=>s _ _ e,fun _ _ _ e=>s _ _ e⟩
 have wa : ¬ W a:=(p.new ha).1
 refine⟨by rw [bm3,bm3]; exact p.len,p.same.trans s,fun b z=>?_,fun j m h=>?_,fun j k y z b h1 h2 h3 h4=>?_⟩
 ·rcases z with z | rfl
  ·obtain ⟨h1,o,h2,h3⟩:=p.wm b z
   exact⟨h1,o,s _ _ h2,h3⟩
  ·exact⟨(p.new ha).2,r.at⟩
 ·rcases fL h with ⟨rfl,hl,e⟩ | ⟨hne,h⟩
  ·cases e
   rw [p.len] at hl
   exact⟨_,bn3 hl,a,rfl,.inr rfl,r⟩
  ·obtain ⟨u,e,q⟩:=p.sl j m h
   refine⟨u,by rw [bl1 (Ne.symm hne)]; exact e,?_⟩
   cases m with
   | sh g y=>exact aI.keep (kp g) q
   | own y=>
    obtain ⟨b,e1,e2,q⟩:=q
    exact⟨b,e1,.inl e2,q.keep (kp true) fun o z=>s _ _ z⟩
 ·have ne:∀ {j:Nat}{y:PV},ρ[j]? = some (some (.own y))->σ[j]? ≠ some (some (.ref a)):=fun {j y} h1 h2=>by
   obtain ⟨u,e,c,e1,e2,_⟩:=p.sl j _ h1
   rw [h2] at e
   cases e
   cases e1
   exact wa e2
  rcases fL h1 with ⟨e1,l1,_⟩ | ⟨n1,h1⟩
  ·rcases fL h2 with ⟨e2,_,_⟩ | ⟨n2,h2⟩
   ·rw [e1,e2]
   ·rw [e1,bn3 (by rw [<- p.len]; exact l1)] at h3
    rw [bl1 (Ne.symm n2)] at h4
    cases h3
    exact absurd h4 (ne h2)
  ·rw [bl1 (Ne.symm n1)] at h3
   rcases fL h2 with ⟨e2,l2,_⟩ | ⟨n2,h2⟩
   ·rw [e2,bn3 (by rw [<- p.len]; exact l2)] at h4
    cases h4
    exact absurd h3 (ne h1)
   ·rw [bl1 (Ne.symm n2)] at h4
    exact p.dis j k y z b h1 h2 h3 h4
theorem Ev.own {a:Addr} (s:aC Hs H) (ha:Hs a=none):Ev W Hs (lS W a) H:=fun b o e n=>⟨s _ _ e,fun z=>z.elim n fun z=>by rw [z,ha] at e; cases e⟩
theorem iL {g:Bool}{a b:Addr} (wa:W a) (h:Ms H0 W g b):b ≠ a:=by
 cases g with
 | true=>exact fun z=>h.1 (by rw [z]; exact wa)
 | false=>exact fun z=>h (by rw [z]; exact wa)
theorem PX.updOwn {i:Nat}{a:Addr}{x y:PV}{o:HO} (p:PX K H0 W σ ρ H) (hi:ρ[i]? = some (some (.own x))) (ha:σ[i]? = some (some (.ref a))) (wa:W a) (mu:jR o=true) (r:iK K (Ms H0 W true) (upd H a o) a y) :
  PX K H0 W σ (ρ.set i (some (.own y))) (upd H a o):=by
 obtain ⟨w0,o',e',mu'⟩:=p.wm a wa
 have kp:∀ g,gS (Ms H0 W g) (Ms H0 W g) H (upd H a o):=fun g=>.upd e' mu' fun b m=>⟨iL wa m,m⟩
 refine⟨by rw [bm3]; exact p.len,fun b u e=>by rw [aR (fun z=>by rw [z,w0] at e; cases e)]; exact p.same _ _ e,fun b z=>?_,fun j m h=>?_,fun j k y' z b h1 h2 h3 h4=>?_⟩
 ·by_cases e:b=a
  ·subst e; exact⟨w0,o,bI,mu⟩
  ·obtain ⟨h1,o2,h2,h3⟩:=p.wm b z
   exact⟨h1,o2,by rw [aR e]; exact h2,h3⟩
 ·rcases fL h with ⟨rfl,hl,e⟩ | ⟨hne,h⟩
  ·cases e
   exact⟨_,ha,a,rfl,wa,r⟩
  ·obtain ⟨u,e,q⟩:=p.sl j m h
   refine⟨u,e,?_⟩
   cases m with
   | sh g y=>exact aI.keep (kp g) q
   | own y=>
    obtain ⟨b,e1,e2,q⟩:=q
    have hb:b ≠ a:=fun z=>by
     subst e1
     rw [z] at e
     exact hne (p.dis j i _ _ a h hi e ha)
    exact⟨b,e1,e2,q.keep (kp true) fun o z=>by rw [aR hb]; exact z⟩
 ·have g1:∃ y,ρ[j]? = some (some (.own y)):=by
   rcases fL h1 with ⟨e,_,_⟩ | ⟨_,h⟩
   ·exact⟨x,by rw [e]; exact hi⟩
   ·exact⟨_,h⟩
  have g2:∃ y,ρ[k]? = some (some (.own y)):=by
   rcases fL h2 with ⟨e,_,_⟩ | ⟨_,h⟩
   ·exact⟨x,by rw [e]; exact hi⟩
   ·exact⟨_,h⟩
  obtain ⟨y1,g1⟩:=g1
  obtain ⟨y2,g2⟩:=g2
  exact p.dis j k y1 y2 b g1 g2 h3 h4
theorem Ev.upd {a:Addr}{o:HO} (wa:W a):Ev W H W (upd H a o):=fun b u e n=>⟨by rw [aR (fun z=>n (by rw [z]; exact wa))]; exact e,n⟩
noncomputable def pJ (W:Addr->Prop) (a:Addr):Addr->Prop:=fun b=>W b/\b ≠ a
theorem wQ {g:Bool}{a b:Addr} (h:Ms H0 W g b):Ms H0 (pJ W a) g b:=by
 cases g with
 | true=>exact⟨fun z=>h.1 z.1,h.2⟩
 | false=>exact fun z=>h z.1
theorem PX.freeze {i:Nat}{a:Addr}{x:PV} (p:PX K H0 W σ ρ H) (hi:ρ[i]? = some (some (.own x))) (ha:σ[i]? = some (some (.ref a))):PX K H0 (pJ W a) σ (ρ.set i (some (.sh true x))) H:=by
 obtain ⟨v,ev,a',e1,wa,r⟩:=p.sl i _ hi
 rw [ha] at ev
 cases ev
 cases e1
 refine⟨by rw [bm3]; exact p.len,p.same,fun b z=>p.wm b z.1,fun j m h=>?_,fun j k y' z b h1 h2 h3 h4=>?_⟩
 ·rcases fL h with ⟨rfl,hl,e⟩ | ⟨hne,h⟩
  ·cases e
   exact⟨_,ha,r.rep (M':=Ms H0 (pJ W a) true) (fun b m=>wQ (g:=true) m) (show Ms H0 (pJ W a) true a from ⟨fun z=>z.2 rfl,(p.wm a wa).1⟩)⟩
  ·obtain ⟨u,e,q⟩:=p.sl j m h
   refine⟨u,e,?_⟩
   cases m with
   | sh g y=>exact aI.same q (aC.refl _) fun _ m=>wQ m
   | own y=>
    obtain ⟨b,e1,e2,q⟩:=q
    have hb:b ≠ a:=fun z=>by
     subst e1
     rw [z] at e
     exact hne (p.dis j i _ _ a h hi e ha)
    exact⟨b,e1,⟨e2,hb⟩,q.keep (.same (aC.refl _) fun _ m=>wQ m) fun _ z=>z⟩
 ·rcases fL h1 with ⟨_,_,e⟩ | ⟨_,h1⟩
  ·cases e
  ·rcases fL h2 with ⟨_,_,e⟩ | ⟨_,h2⟩
   ·cases e
   ·exact p.dis j k _ _ b h1 h2 h3 h4
theorem Ev.off {a:Addr}:Ev W H (pJ W a) H:=fun b u e n=>⟨e,fun z=>n z.1⟩
end
section
variable {X : Cx} {σ : St} {H : Hp} {D : dL} {te : aG} {t u : aK}
noncomputable def cH:aK:=fun D ρ=>D.nx ρ
noncomputable def aE (t u:aK):aK:=fun D ρ=>t { D with nx:=u D } ρ
theorem aB1 (h:LS X cH D σ H):B0 D σ H:=by
 obtain ⟨W,ρ,D',px,q,k⟩:=h
 exact k.nx W σ H ρ (Ev.refl _ _) px q
theorem aB2 (h:LS X (aE t u) D σ H):uP (LS X t) (LS X u) D σ H:=by
 obtain ⟨W,ρ,D',px,q,k⟩:=h
 exact⟨W,ρ,_,px,q,fun W' σ' H' ρ' e px' q'=>⟨W',ρ',D',px',q',k.step e⟩,k.rt,k.bk,k.ct⟩
noncomputable def P5:Tg->PV->Bool
 | .fr,_=>true
 | .nw,_=>true
 | _,x=>flat x
noncomputable def P6:Tg->PV->Prop
 | .rd,x=>flat x=true
 | _,_=>True
theorem aB3 {K:PySem.W.Frag}{H0 Hs H:Hp}{W:Addr->Prop}{σ:St}{ρ:bM}{g:Tg}{x:PV}{v:V} (px:PX K H0 W σ ρ Hs) (n:P6 g x) (r:aI K (Mg H0 W Hs g) H v x):aI K (Ms H0 W (P5 g x)) H v x:=by
 cases g with
 | fr=>exact Nw.rep (g:=.fr) px trivial r
 | nw=>exact Nw.rep (g:=.nw) px trivial r
 | sh=>
  show aI K (Ms H0 W (flat x)) H v x
  cases e:flat x with
  | true=>exact r.flat e
  | false=>exact r.same (aC.refl _) fun _ z=>z
 | rd=>exact r.flat n
noncomputable def b4 (i:Nat) (te:aG):aK:=fun D ρ=>te ρ fun x g=>P6 g x/\D.nx (ρ.set i (some (.sh (P5 g x) x)))
theorem wR {i:Nat} (h:LS X (b4 i te) D σ H):iW (LE X te) (cO i) D σ H:=by
 obtain ⟨W,ρ,D',px,q,k⟩:=h
 refine⟨W,ρ,_,px,q,?_⟩
 rintro v H1 x g s r ⟨n,q⟩
 exact k.nx W _ H1 _ (Ev.same s) ((px.mono s).setSh (aB3 px n r)) q
noncomputable def P7:PV->Bool
 | .lst xs=>flats xs
 | .dK ps=>flats (ps.map (·.2))
 | .dT ps=>flats (ps.map (·.2))
 | _=>false
theorem aB4 {K:PySem.W.Frag}{M:Addr->Prop}{H:Hp}{v:V}{x:PV} (r:aI K M H v x) (o:P7 x=true):∃ a,v = .ref a/\M a/\∀ M',iK K M' H a x:=by
 cases r with
 | lst m e r=>exact⟨_,rfl,m,fun _=>⟨_,e,r.flat o⟩⟩
 | dK m e q r=>exact⟨_,rfl,m,fun _=>⟨_,e,q,r.flat o⟩⟩
 | dT m e q r=>exact⟨_,rfl,m,fun _=>⟨_,e,q,r.flat o⟩⟩
 | _=>cases o
noncomputable def dR (i:Nat) (te:aG):aK:=fun D ρ=>te ρ fun x g=>g = .fr/\P7 x=true/\D.nx (ρ.set i (some (.own x)))
theorem P8 {i:Nat} (h:LS X (dR i te) D σ H):iW (LE X te) (cO i) D σ H:=by
 obtain ⟨W,ρ,D',px,q,k⟩:=h
 refine⟨W,ρ,_,px,q,?_⟩
 rintro v H1 x g s r ⟨rfl,o,q⟩
 obtain ⟨a,rfl,m,w⟩:=aB4 r o
 exact k.nx _ _ H1 _ (Ev.own s m) (px.setOwn s m (w _)) q
noncomputable def mZ (i:Nat) (t:aK):aK:=fun D ρ=>∃ x,ρ[i]? = some (some (.own x))/\t D (ρ.set i (some (.sh true x)))
theorem aB5 {i:Nat} (h:LS X (mZ i t) D σ H):LS X t D σ H:=by
 obtain ⟨W,ρ,D',px,⟨x,hi,q⟩,k⟩:=h
 obtain ⟨v,ev,a,rfl,wa,r⟩:=px.sl i _ hi
 exact⟨_,_,D',px.freeze hi ev,q,k.step Ev.off⟩
noncomputable def bN (te:aG):aK:=fun D ρ=>te ρ fun x g=>Nw g x/\D.rt x
theorem aB6 (h:LS X (bN te) D σ H):uQ (LE X te) D σ H:=by
 obtain ⟨W,ρ,D',px,q,k⟩:=h
 refine⟨W,ρ,_,px,q,?_⟩
 rintro v H1 x g s r ⟨n,q⟩
 exact k.rt v H1 x (px.same.trans s) ((Nw.rep px n r).same (aC.refl _) fun _ z=>z.2) q
noncomputable def Slot.nw:Slot->Prop
 | .own _=>True
 | .sh true _=>True
 | .sh false x=>flat x=true
noncomputable def j4 (i:Nat):aK:=fun D ρ=>∃ m,ρ[i]? = some (some m)/\m.nw/\D.rt m.val
theorem aB7 {i:Nat} (h:LS X (j4 i) D σ H):uQ (hG i) D σ H:=by
 obtain ⟨W,ρ,D',px,⟨m,hi,n,q⟩,k⟩:=h
 obtain ⟨v,ev,r⟩:=px.sl i _ hi
 refine⟨v,ev,k.rt v H _ px.same ?_ q⟩
 cases m with
 | own x=>
  obtain ⟨a,rfl,wa,r⟩:=r
  exact r.rep (fun _ z=>z.2) (px.wm a wa).1
 | sh g x=>
  cases g with
  | true=>exact aI.same r (aC.refl _) fun _ z=>z.2
  | false=>exact aI.flat n r
noncomputable def cD (c:cK) (t u:aK):aK:=fun D ρ=>c ρ fun b=>if b=true then t D ρ else u D ρ
theorem aB8 {c:cK} (h:LS X (cD c t u) D σ H):B1 (LT X c) (LS X t) (LS X u) D σ H:=by
 obtain ⟨W,ρ,D',px,q,k⟩:=h
 refine⟨W,ρ,_,px,q,fun b H1 s q1=>?_⟩
 cases b with
 | true=>exact bJ ⟨W,ρ,D',px.mono s,by simpa using q1,k.step (Ev.same s)⟩
 | false=>exact bF ⟨W,ρ,D',px.mono s,by simpa using q1,k.step (Ev.same s)⟩
noncomputable def lT (c:cK) (tb:aK):aK:=fun D ρ=>∃ I:Nat->bM->Prop,(∃ m,I m ρ)/\∀ m ρ',I m ρ'->c ρ' fun b=>if b=true then tb { D with nx:=fun ρ2=>∃ m',m' < m/\I m' ρ2,ct:=fun ρ2=>∃ m',m' < m/\I m' ρ2,bk:=D.nx } ρ' else D.nx ρ'
theorem aB9 {c:cK}{tb:aK} (h:LS X (lT c tb) D σ H):B5 (LT X c) (LS X tb) D σ H:=by
 obtain ⟨W,ρ,D',px,⟨I,⟨m0,i0⟩,turn⟩,k⟩:=h
 refine⟨fun m σ2 H2=>∃ W2 ρ2,PX X.K X.H₀ W2 σ2 ρ2 H2/\Ev W H W2 H2/\I m ρ2,⟨m0,W,ρ,px,Ev.refl _ _,i0⟩,?_⟩
 rintro m σ2 H2 ⟨W2,ρ2,px2,e2,i2⟩
 refine⟨W2,ρ2,_,px2,turn m ρ2 i2,fun b H3 s3 q3=>?_⟩
 cases b with
 | true=>
  refine bJ ⟨fun σ4 H4=>∃ W4 ρ4,PX X.K X.H₀ W4 σ4 ρ4 H4/\Ev W H W4 H4/\∃ m',m' < m/\I m' ρ4,fun σ4 H4 ⟨W4,ρ4,a,b,m',c,d⟩=>⟨m',c,W4,ρ4,a,b,d⟩,W2,ρ2,_,px2.mono s3,by simpa using q3,?_⟩
  have e3:Ev W H W2 H3:=e2.trans (Ev.same s3)
  exact⟨fun W' σ' H' ρ' e p q=>⟨W',ρ',p,e3.trans e,q⟩,k.rt,fun W' σ' H' ρ' e p q=>k.nx W' σ' H' ρ' (e3.trans e) p q,fun W' σ' H' ρ' e p q=>⟨W',ρ',p,e3.trans e,q⟩⟩
 | false=>exact bF (k.nx W2 σ2 H3 ρ2 (e2.trans (Ev.same s3)) (px2.mono s3) (by simpa using q3))
end
theorem lim {n:Nat} (h:n<=16000000):n<=sizeLine:=bn5 (gP h)
theorem aI.sqT {K:PySem.W.Frag}{M:Addr->Prop}{H:Hp}{v:V}{xs:List PV} (r:aI K M H v (.tup xs)):∃ a us,v = .ref a/\H a=some (.tup us)/\Reps K M H us xs:=by
 cases r with
 | tup e r=>exact⟨_,_,rfl,e,r⟩
theorem aI.sqL {K:PySem.W.Frag}{M:Addr->Prop}{H:Hp}{v:V}{xs:List PV} (r:aI K M H v (.lst xs)):∃ a us,v = .ref a/\M a/\H a=some (.lst us)/\Reps K M H us xs:=by
 cases r with
 | lst m e r=>exact⟨_,_,rfl,m,e,r⟩
theorem jQ.sqL {K:PySem.W.Frag}{H:Hp}{a:Addr}{ns:List Int} (h:jQ K H a ns):aM K H a (ns.map V.int):=h.elim (fun z=>.inl (.inr z)) .inr
noncomputable def jS:PV->Option (List PV)
 | .tup xs=>some xs
 | .lst xs=>some xs
 | .scr ns=>some (intz ns)
 | .kt xs=>some xs
 | _=>none
theorem aI.seq {K:PySem.W.Frag}{M:Addr->Prop}{H:Hp}{v:V}{x:PV}{xs:List PV} (r:aI K M H v x) (e:jS x=some xs):∃ a us,v = .ref a/\(aM K H a us ∨ aJ K H a us)/\Reps K M H us xs:=by
 cases r with
 | tup h r=>cases e; exact⟨_,_,rfl,.inr (aJ.of h),r⟩
 | lst m h r=>cases e; exact⟨_,_,rfl,.inl (aM.of h),r⟩
 | scr h=>cases e; exact⟨_,_,rfl,.inl h.sqL,Reps.intz _⟩
 | kt h r=>cases e; exact⟨_,_,rfl,.inr (.inr h),r⟩
 | _=>cases e
section
variable {X : Cx} {σ : St} {H : Hp} {D : dL} {te ti to : aG} {t u : aK} {Q' : VK}
theorem _root_.PP.PX.updL {K:PySem.W.Frag}{H0:Hp}{W:Addr->Prop}{σ:St}{ρ:bM}{H:Hp}{i:Nat}{a:Addr}{x:PV}{us:List V}{ys:List PV} (p:PX K H0 W σ ρ H) (hi:ρ[i]? = some (some (.own x))) (ha:σ[i]? = some (some (.ref a))) (wa:W a) (r:Reps K (Ms H0 W true) (upd H a (.lst us)) us ys) :
  PX K H0 W σ (ρ.set i (some (.own (.lst ys)))) (upd H a (.lst us)):=p.updOwn hi ha wa rfl (y:=.lst ys) ⟨us,bI,r⟩
noncomputable def gT (i:Nat) (te:aG):aK:=fun D ρ=>∃ xs,ρ[i]? = some (some (.own (.lst xs)))/\te ρ fun x g=>Nw g x/\xs.length < 16000000/\D.nx (ρ.set i (some (.own (.lst (xs ++ [x])))))
theorem aC0 {i:Nat} (h:LS X (gT i te) D σ H):oJ (oZ X.K "list" vI (hG i) (i3 (LE X te) iY)) D σ H:=by
 obtain ⟨W,ρ,D',px,⟨xs,hi,q⟩,k⟩:=h
 obtain ⟨v,ev,a,rfl,wa,us,ea,r⟩:=px.sl i _ hi
 refine⟨_,ev,jO (aM.of ea),W,ρ,_,px,q,?_⟩
 rintro w H1 x g s rx ⟨n,hl,q⟩
 have ea1:=s _ _ ea
 refine⟨a,us,w,rfl,rfl,ea1,gP (by rw [r.length]; omega),?_⟩
 refine k.nx W σ _ _ ((Ev.same s).trans (Ev.upd wa)) ((px.mono s).updL hi ev wa ?_) q
 exact ((r.same s fun _ z=>z).append (.cons (Nw.rep px n rx) .nil)).keep (.upd ea1 rfl fun b m=>⟨iL wa m,m⟩)
noncomputable def P9 (K:PySem.W.Frag):V->List V->Hp->VK->Prop:=fun x vs H Q=>J0 x vs H Q ∨ O5 K x vs H Q
noncomputable def wS (i:Nat) (te:aG):aK:=fun D ρ=>∃ xs,ρ[i]? = some (some (.own (.lst xs)))/\te ρ fun y g=>∃ ys,(y = .tup ys ∨ y = .lst ys)/\(Nw g y ∨ flats ys=true)/\xs.length+ys.length<=16000000/\D.nx (ρ.set i (some (.own (.lst (xs ++ ys)))))
theorem aC1 {i:Nat} (h:LS X (wS i te) D σ H):oJ (oZ X.K "list" (P9 X.K) (hG i) (i3 (LE X te) iY)) D σ H:=by
 obtain ⟨W,ρ,D',px,⟨xs,hi,q⟩,k⟩:=h
 obtain ⟨v,ev,a,rfl,wa,us,ea,r⟩:=px.sl i _ hi
 refine⟨_,ev,jO (aM.of ea),W,ρ,_,px,q,?_⟩
 rintro w H1 y g s ry ⟨ys,hy,n,hl,q⟩
 have ea1:=s _ _ ea
 have key:∀ (zs:List V),Reps X.K (Ms X.H₀ W true) H1 zs ys->D.nx σ (upd H1 a (.lst (us ++ zs))):=fun zs rz=>by
  refine k.nx W σ _ _ ((Ev.same s).trans (Ev.upd wa)) ((px.mono s).updL hi ev wa ?_) q
  exact ((r.same s fun _ z=>z).append rz).keep (.upd ea1 rfl fun b m=>⟨iL wa m,m⟩)
 have lr:=r.length
 rcases hy with rfl | rfl
 ·obtain ⟨b,zs,rfl,eb,rz⟩:=ry.sqT
  have lz:=rz.length
  refine .inr ⟨a,b,us,zs,rfl,rfl,ea1,aJ.of eb,lim (by omega),key zs ?_⟩
  rcases n with n | n
  ·obtain ⟨b',zs',e1,e2,rz'⟩:=(Nw.rep px n ry).sqT
   cases e1; rw [eb] at e2; cases e2; exact rz'
  ·exact rz.flat n
 ·obtain ⟨b,zs,rfl,_,eb,rz⟩:=ry.sqL
  have lz:=rz.length
  refine .inl ⟨a,b,us,zs,rfl,rfl,ea1,eb,lim (by omega),key zs ?_⟩
  rcases n with n | n
  ·obtain ⟨b',zs',e1,_,e2,rz'⟩:=(Nw.rep px n ry).sqL
   cases e1; rw [eb] at e2; cases e2; exact rz'
  ·exact rz.flat n
noncomputable def kS (i:Nat) (tk te:aG):aK:=fun D ρ=>te ρ fun x g=>∃ xs,ρ[i]? = some (some (.own (.lst xs)))/\tk ρ fun y _=>∃ n j,y = .int n/\eL xs.length n=some j/\Nw g x/\D.nx (ρ.set i (some (.own (.lst (xs.set j x)))))
theorem aC2 {i:Nat}{tk:aG} (h:LS X (kS i tk te) D σ H):iW (LE X te) (oK (hG i) (LE X tk) oV) D σ H:=by
 obtain ⟨W,ρ,D',px,q,k⟩:=h
 refine⟨W,ρ,_,px,q,?_⟩
 rintro w H1 x g s rx ⟨xs,hi,q1⟩
 obtain ⟨v,ev,a,rfl,wa,us,ea,r⟩:=(px.mono s).sl i _ hi
 refine⟨_,ev,W,ρ,_,px.mono s,q1,?_⟩
 rintro kv H2 y gy s2 ry ⟨n,j,rfl,hj,nw,q2⟩
 cases ry
 have ea2:=s2 _ _ ea
 refine⟨a,us,n,j,rfl,rfl,ea2,by rw [r.length]; exact hj,?_⟩
 refine k.nx W σ _ _ ((Ev.same (s.trans s2)).trans (Ev.upd wa)) ((px.mono (s.trans s2)).updL hi ev wa ?_) q2
 exact (Reps.set ((Nw.rep px nw rx).same s2 fun _ z=>z) j (r.same s2 fun _ z=>z)).keep (.upd ea2 rfl fun b m=>⟨iL wa m,m⟩)
noncomputable def wT (i j:Nat):aK:=fun D ρ=>∃ xs y,ρ[i]? = some (some (.own (.lst (xs ++ [y]))))/\D.nx ((ρ.set i (some (.own (.lst xs)))).set j (some (.sh true y)))
theorem Reps.snoc_inv {K:PySem.W.Frag}{M:Addr->Prop}{H:Hp}{us:List V}{xs:List PV}{y:PV} (r:Reps K M H us (xs ++ [y])):∃ vs v,us=vs ++ [v]/\Reps K M H vs xs/\aI K M H v y:=by
 have l:=r.length
 have h1:=r.take xs.length
 have h2:=r.drop xs.length
 rw [List.take_left] at h1
 rw [List.drop_left] at h2
 generalize hd:us.drop xs.length=ds at h2
 cases h2 with
 | cons q t=>
  cases t
  exact⟨_,_,by rw [<- hd,List.take_append_drop],h1,q⟩
theorem aC3 {i j:Nat} (h:LS X (wT i j) D σ H):iW (G8 X.K "list" J1 (hG i)) (cO j) D σ H:=by
 obtain ⟨W,ρ,D',px,⟨xs,y,hi,q⟩,k⟩:=h
 obtain ⟨v,ev,a,rfl,wa,us,ea,r⟩:=px.sl i _ hi
 obtain ⟨vs,w,rfl,r1,ry⟩:=r.snoc_inv
 refine⟨_,ev,jO (aM.of ea),a,_,w,rfl,rfl,ea,by simp,?_⟩
 rw [List.dropLast_concat]
 have kp:gS (Ms X.H₀ W true) (Ms X.H₀ W true) H (upd H a (.lst vs)):=.upd ea rfl fun b m=>⟨iL wa m,m⟩
 exact k.nx W _ _ _ (Ev.upd wa) ((px.updL hi ev wa (r1.keep kp)).setSh (ry.keep kp)) q
end
theorem Reps.atI {K:PySem.W.Frag}{M:Addr->Prop}{H:Hp}{us:List V}{xs:List PV}{i:Int}{z:PV} (r:Reps K M H us xs) (h:L2.atI xs i=some z):∃ v,L2.atI us i=some v/\aI K M H v z:=by
 unfold L2.atI at h ⊢
 rw [r.length]
 cases e:eL xs.length i with
 | none=>rw [e] at h; cases h
 | some j=>rw [e] at h; exact r.at h
section
variable {X : Cx} {σ : St} {H : Hp} {Q' : VK} {ta tb te : aG} {tr : cG}
noncomputable def wU:PV->Tg->PV->Tg->PK->Prop:=fun x g y _ Q=>∃ xs i z,jS x=some xs/\y = .int i/\L2.atI xs i=some z/\Q z g
theorem aC4:eM X wU (vF X.K):=by
 rintro W Hs H u v x y g g' Q Q' s n r1 r2 ⟨xs,i,z,e,rfl,hz,q⟩ k
 cases r2
 obtain ⟨a,us,rfl,hs,r⟩:=r1.seq e
 obtain ⟨v,hv,rv⟩:=r.atI hz
 rcases hs with hs | hs
 ·exact .inl ⟨a,us,i,v,rfl,rfl,hs,hv,k v H z g (aC.refl _) rv q⟩
 ·exact .inr (.inl ⟨a,us,i,v,rfl,rfl,hs,hv,k v H z g (aC.refl _) rv q⟩)
noncomputable def wV:PV->Option Nat
 | .tup xs=>some xs.length
 | .lst xs=>some xs.length
 | .scr ns=>some ns.length
 | .dK ps=>some ps.length
 | .kt xs=>some xs.length
 | _=>none
noncomputable def dH:List PV->(PV->Prop)->Prop:=fun xs Q=>∃ x n,xs = [x]/\wV x=some n/\Q (.int n)
theorem Reps.one {K:PySem.W.Frag}{M:Addr->Prop}{H:Hp}{vs:List V}{x:PV} (r:Reps K M H vs [x]):∃ v,vs = [v]/\aI K M H v x:=by
 cases r with
 | cons r t=>cases t; exact⟨_,rfl,r⟩
theorem Reps.two {K:PySem.W.Frag}{M:Addr->Prop}{H:Hp}{vs:List V}{x y:PV} (r:Reps K M H vs [x,y]):∃ v w,vs = [v,w]/\aI K M H v x/\aI K M H w y:=by
 cases r with
 | cons r t=>
  obtain ⟨w,rfl,q⟩:=t.one
  exact⟨_,_,rfl,r,q⟩
theorem aC5:fZ X dH (fun xs H Q=>(∃ p ys,xs = [.ref p]/\(aM X.K H p ys ∨ aJ X.K H p ys)/\Q (.int ys.length) H) ∨ ∃ a kvs,xs = [V.ref a]/\H a=some (.dK kvs)/\Q (.int kvs.length) H):=by
 rintro H vs xs Q Q' r ⟨x,n,rfl,e,q⟩ k
 obtain ⟨v,rfl,r1⟩:=r.one
 have fin:∀ {m:Nat},m=n->Q' (.int m) H:=fun {m} z=>by rw [z]; exact k _ _ _ (aC.refl _) (.int _) q
 cases r1 with
 | tup h r2=>cases e; exact .inl ⟨_,_,rfl,.inr (aJ.of h),fin r2.length⟩
 | lst m h r2=>cases e; exact .inl ⟨_,_,rfl,.inl (aM.of h),fin r2.length⟩
 | scr h=>cases e; exact .inl ⟨_,_,rfl,.inl h.sqL,fin (by rw [bi4])⟩
 | kt h r2=>cases e; exact .inl ⟨_,_,rfl,.inr (.inr h),fin r2.length⟩
 | dK m h e' r=>
  cases e
  refine .inr ⟨_,_,rfl,h,fin ?_⟩
  have:=congrArg List.length e'
  rw [bi4,bi4] at this
  exact this
 | _=>cases e
noncomputable def seqT:PV->Option (List PV)
 | .kt _=>none
 | x=>jS x
noncomputable def Q0:List PV->(PV->Prop)->Prop:=fun xs Q=>∃ x ys,xs = [x]/\seqT x=some ys/\flats ys=true/\Q (.tup ys)
noncomputable def wW:List PV->(PV->Prop)->Prop:=fun xs Q=>∃ x ys,xs = [x]/\jS x=some ys/\flats ys=true/\Q (.lst ys)
theorem aC6:fZ X (fun xs Q=>Q0 xs Q/\∀ ns,xs ≠ [.scr ns]) (fun xs H Q=>∃ p ys,xs = [.ref p]/\((aM X.K H p ys/\∀ l,H l=none->Q (.ref l) (upd H l (.tup ys))) ∨ (aJ X.K H p ys/\Q (.ref p) H))):=by
 rintro H vs xs Q Q' r ⟨⟨x,ys,rfl,e,f,q⟩,nsc⟩ k
 obtain ⟨v,rfl,r1⟩:=r.one
 cases r1 with
 | tup h r2=>cases e; exact⟨_,_,rfl,.inr ⟨aJ.of h,k _ _ _ (aC.refl _) (.tup h (r2.flat f)) q⟩⟩
 | lst m h r2=>cases e; exact⟨_,_,rfl,.inl ⟨aM.of h,fun l hl=>k _ _ _ (bH hl _) (.tup bI ((r2.flat f).same (bH hl _) fun _ z=>z)) q⟩⟩
 | scr h=>exact absurd rfl (nsc _)
 | _=>cases e
theorem aC7:fZ X wW (fun xs H Q=>∃ p ys,xs = [.ref p]/\(aM X.K H p ys ∨ aJ X.K H p ys)/\∀ l,H l=none->Q (.ref l) (upd H l (.lst ys))):=by
 rintro H vs xs Q Q' r ⟨x,ys,rfl,e,f,q⟩ k
 obtain ⟨v,rfl,r1⟩:=r.one
 obtain ⟨a,us,rfl,hs,r2⟩:=r1.seq e
 exact⟨_,_,rfl,hs,fun l hl=>k _ _ _ (bH hl _) (.lst hl bI ((r2.flat f).same (bH hl _) fun _ z=>z)) q⟩
noncomputable def sH:List PV->(PV->Prop)->Prop:=fun xs Q=>∃ ns,xs = [.lst (intz ns)]/\ns.length < 64/\∀ ms:List Int,ms.Perm ns->ms.Pairwise (· <= ·)->Q (.lst (intz ms))
theorem aC8:fZ X sH (N3 X.K):=by
 rintro H vs xs Q Q' r ⟨ns,rfl,hl,q⟩ k
 obtain ⟨v,rfl,r1⟩:=r.one
 obtain ⟨a,us,rfl,_,h,r2⟩:=r1.sqL
 obtain rfl:=r2.ofInts
 exact⟨a,ns,rfl,aM.of h,hl,fun l ms hl' p o=>k _ _ _ (bH hl' _) (.lst hl' bI (Reps.intz ms)) (q ms p o)⟩
noncomputable def wX:List PV->(PV->Prop)->Prop:=fun xs Q=>∃ bs:List Bool,xs = [.lst (bs.map PV.bl)]/\Q (.bl (bs.all id))
theorem Reps.ofBls {K:PySem.W.Frag}{M:Addr->Prop}{H:Hp}:∀ {ns:List Bool}{us:List V},Reps K M H us (ns.map PV.bl)->us=ns.map V.bl
 | [],_,.nil=>rfl
 | n :: r,_,.cons q t=>by
  cases q
  rw [Reps.ofBls t]; rfl
theorem aC9:fZ X wX (fun xs H Q=>∃ (a:Addr) (bs:List Bool),xs = [.ref a]/\aM X.K H a (bs.map V.bl)/\Q (.bl (bs.all id)) H):=by
 rintro H vs xs Q Q' r ⟨bs,rfl,q⟩ k
 obtain ⟨v,rfl,r1⟩:=r.one
 obtain ⟨a,us,rfl,_,h,r2⟩:=r1.sqL
 obtain rfl:=r2.ofBls
 exact⟨a,bs,rfl,aM.of h,k _ _ _ (aC.refl _) (.bl _) q⟩
noncomputable def nA:List PV->(PV->Prop)->Prop:=fun xs Q=>∃ i j,xs = [.int i,.int j]/\Q (.int (if j < i then j else i))
noncomputable def nB:List PV->(PV->Prop)->Prop:=fun xs Q=>∃ i j,xs = [.int i,.int j]/\Q (.int (if j > i then j else i))
theorem aD0:fZ X nA (fun xs H Q=>∃ i j,xs = [.int i,.int j]/\Q (.int (if j < i then j else i)) H):=by
 rintro H vs xs Q Q' r ⟨i,j,rfl,q⟩ k
 obtain ⟨v,w,rfl,r1,r2⟩:=r.two
 cases r1; cases r2
 exact⟨i,j,rfl,k _ _ _ (aC.refl _) (.int _) q⟩
theorem aD1:fZ X nB (fun xs H Q=>∃ i j,xs = [.int i,.int j]/\Q (.int (if j > i then j else i)) H):=by
 rintro H vs xs Q Q' r ⟨i,j,rfl,q⟩ k
 obtain ⟨v,w,rfl,r1,r2⟩:=r.two
 cases r1; cases r2
 exact⟨i,j,rfl,k _ _ _ (aC.refl _) (.int _) q⟩
noncomputable abbrev bK:=List PV->(PV->Prop)->Prop
noncomputable def pK (K:PySem.W.Frag) (p:bK):Sp:=fun vs H Q _=>∃ xs Qp,Reps K (fun _=>True) H vs xs/\p xs Qp/\∀ v H' x,aC H H'->aI K (fun a=>H a=none) H' v x->Qp x->Q v H'
theorem aD2 {p:bK}{E:XK} (h:LE X (aB p tr) σ H Q'):v7 (pK X.K p) [] E (LA X tr) σ H Q':=by
 obtain ⟨W,ρ,Q,px,q,k⟩:=h
 refine⟨W,ρ,_,px,q,fun vs H1 xs s1 r1 q1=>⟨_,_,by rw [bp1]; exact r1.any,q1,fun v H' x s2 r2 q2=>k v H' x .fr (s1.trans s2) (r2.same (aC.refl _) fun _ z=>s1.free z) q2⟩⟩
noncomputable def aD3:PV->Option Bool
 | .non=>some false
 | .bl b=>some b
 | .int i=>some (i != 0)
 | .tup xs=>some (!xs.isEmpty)
 | .lst xs=>some (!xs.isEmpty)
 | .dK ps=>some (!ps.isEmpty)
 | _=>none
noncomputable def jT (t:aG):cK:=fun ρ Q=>t ρ fun x _=>∃ b,aD3 x=some b/\Q b
theorem wY {α β:Type}:∀ {l:List α}{m:List β},l.length=m.length->l.isEmpty=m.isEmpty
 | [],[],_=>rfl
 | _ :: _,_ :: _,_=>rfl
theorem aD4 {t:aG}{Qb:Bool->Hp->Prop} (h:LT X (jT t) σ H Qb):LE X t σ H fun x H'=>∃ k,uZ X.K x H' k/\Qb k H':=by
 obtain ⟨W,ρ,Q,px,q,k⟩:=h
 refine⟨W,ρ,_,px,q,?_⟩
 rintro v H1 x g s r ⟨b,e,q⟩
 refine⟨b,?_,k _ _ s q⟩
 cases r with
 | non=>cases e; rfl
 | bl b=>cases e; rfl
 | int i=>cases e; rfl
 | str x=>cases e
 | tup h r=>cases e; exact .inr (.inl ⟨_,aJ.of h,by rw [wY r.length]⟩)
 | lst m h r=>cases e; exact .inl ⟨_,aM.of h,by rw [wY r.length]⟩
 | dK m h e' r=>
  cases e
  refine .inr (.inr ⟨_,h,?_⟩)
  have:=congrArg List.length e'
  rw [bi4,bi4] at this
  rw [wY this]
 | dT m h e' r=>cases e
 | scr h=>cases e
 | kt h r=>cases e
 | exc h e' c=>cases e
 | fK h e' r=>cases e
 | fT h e' r=>cases e
noncomputable def wZ:PV->Bool
 | .non=>true
 | _=>false
noncomputable def nC (neg:Bool):PV->Tg->PV->Tg->PK->Prop:=fun x _ y _ Q=>y = .non/\Q (.bl (if neg=true then !wZ x else wZ x)) .fr
theorem Q2 {K:PySem.W.Frag}{M:Addr->Prop}{H:Hp}{v:V}{x:PV} (r:aI K M H v x):decide (v = .non)=wZ x:=by
 cases r <;> rfl
theorem aD5:eM X (nC false) (fun x y H Q=>y = .non/\Q (.bl (decide (x = .non))) H):=by
 rintro W Hs H u v x y g g' Q Q' s n r1 r2 ⟨rfl,q⟩ k
 cases r2
 exact⟨rfl,by rw [Q2 r1]; exact k _ _ _ _ (aC.refl _) (.bl _) q⟩
theorem aD6:eM X (nC true) (fun x y H Q=>y = .non/\Q (.bl (!decide (x = .non))) H):=by
 rintro W Hs H u v x y g g' Q Q' s n r1 r2 ⟨rfl,q⟩ k
 cases r2
 exact⟨rfl,by rw [Q2 r1]; exact k _ _ _ _ (aC.refl _) (.bl _) q⟩
end
structure sI (K:PySem.W.Frag) (H0:Hp) (W:Addr->Prop) (g:Bool) (H1:Hp) (J:It) (xs:List PV):Prop where
 go:∀ W' H' i,Ev W H1 W' H'->i < xs.length->J.go i H'
 yld:∀ W' H' i v H2,Ev W H1 W' H'->J.yld i H' v H2->i < xs.length->aC H' H2/\∃ x,xs[i]? = some x/\aI K (Ms H0 W' g) H2 v x
 stop:∀ W' H',Ev W H1 W' H'->J.stop xs.length H'
noncomputable abbrev g9:=bM->(List PV->Bool->Prop)->Prop
noncomputable def LI (X:Cx) (t:g9):TI:=fun σ H R=>∃ (W:Addr->Prop) (ρ:bM) (Q:List PV->Bool->Prop),PX X.K X.H₀ W σ ρ H/\t ρ Q/\∀ J H1 xs g,aC H H1->sI X.K X.H₀ W g H1 J xs->Q xs g->R J H1
theorem Ev.keep {H0:Hp}{W W':Addr->Prop}{H H':Hp}{g:Bool} (e:Ev W H W' H') (tw:∀ a,W a->∃ o,H a=some o/\jR o=true):gS (Ms H0 W g) (Ms H0 W' g) H H':=by
 have m:∀ {a:Addr}{o:HO},Ms H0 W g a->H a=some o->Ms H0 W' g a/\H' a=some o:=fun {a o} z h=>by
  cases g with
  | true=>
   obtain ⟨h1,h2⟩:=e a _ h z.1
   exact⟨⟨h2,z.2⟩,h1⟩
  | false=>
   obtain ⟨h1,h2⟩:=e a _ h z
   exact⟨h2,h1⟩
 refine⟨fun a _ z h=>m z h,fun a _ z h=>m z h,fun a _ z h=>m z h,fun a _ h=>(e a _ h fun z=>?_).1,fun a _ _ h=>(e a _ h fun z=>?_).1⟩
 ·obtain ⟨o,h',mu⟩:=tw a z; rw [h] at h'; cases h'; cases mu
 ·obtain ⟨o,h',mu⟩:=tw a z; rw [h] at h'; cases h'; cases mu
section
variable {X : Cx} {σ : St} {H : Hp} {te : aG} {tr : cG} {R : It → Hp → Prop}
noncomputable def Q3 (K:PySem.W.Frag) (tl:TE):TI:=fun σ H R=>tl σ H fun x H1=>∃ a,x = .ref a/\((∃ xs,aM K H1 a xs/\R (mL K a) H1) ∨ (∃ xs,aJ K H1 a xs/\R (kL K a) H1))
noncomputable def x3:Tg->List PV->Bool
 | .fr,_=>true
 | .nw,_=>true
 | _,xs=>flats xs
noncomputable def cR (te:aG):g9:=fun ρ Q=>te ρ fun x g=>∃ xs,jS x=some xs/\(g = .rd->flat x=true)/\Q xs (x3 g xs)
theorem Q4 {K:PySem.W.Frag}{H0:Hp}{W:Addr->Prop}{g:Bool}{H1:Hp}{a:Addr}{us:List V}{xs:List PV} (tw:∀ a,W a->∃ o,H1 a=some o/\jR o=true) (ha:∀ W' H',Ev W H1 W' H'->aM K H' a us) (r:Reps K (Ms H0 W g) H1 us xs):sI K H0 W g H1 (mL K a) xs:=by
 have lr:=r.length
 refine⟨fun W' H' i e hi=>⟨us,us[i]'(by omega),ha W' H' e,by simp⟩,fun W' H' i v H2 e y hi=>?_,fun W' H' e=>⟨us,ha W' H' e,by omega⟩⟩
 obtain ⟨rfl,y⟩:=y
 obtain ⟨x,hx,rx⟩:=r.get (y us (ha W' _ e))
 exact⟨aC.refl _,x,hx,rx.keep (e.keep tw)⟩
theorem Q5 {K:PySem.W.Frag}{H0:Hp}{W:Addr->Prop}{g:Bool}{H1:Hp}{a:Addr}{us:List V}{xs:List PV} (tw:∀ a,W a->∃ o,H1 a=some o/\jR o=true) (ha:∀ W' H',Ev W H1 W' H'->aJ K H' a us) (r:Reps K (Ms H0 W g) H1 us xs):sI K H0 W g H1 (kL K a) xs:=by
 have lr:=r.length
 refine⟨fun W' H' i e hi=>⟨us,us[i]'(by omega),ha W' H' e,by simp⟩,fun W' H' i v H2 e y hi=>?_,fun W' H' e=>⟨us,ha W' H' e,by omega⟩⟩
 obtain ⟨rfl,y⟩:=y
 obtain ⟨x,hx,rx⟩:=r.get (y us (ha W' _ e))
 exact⟨aC.refl _,x,hx,rx.keep (e.keep tw)⟩
theorem pL {K:PySem.W.Frag}{H0 Hs H:Hp}{W:Addr->Prop}{σ:St}{ρ:bM}{g:Tg}{us:List V}{xs:List PV} (px:PX K H0 W σ ρ Hs) (hg:g = .rd->flats xs=true) (r:Reps K (Mg H0 W Hs g) H us xs):Reps K (Ms H0 W (x3 g xs)) H us xs:=by
 cases g with
 | fr=>exact r.same (aC.refl _) fun _ z=>px.new z
 | nw=>exact r.same (aC.refl _) fun _ z=>z
 | sh=>
  show Reps K (Ms H0 W (flats xs)) H us xs
  cases e:flats xs with
  | true=>exact r.flat e
  | false=>exact r.same (aC.refl _) fun _ z=>z
 | rd=>exact r.flat (hg rfl)
theorem aD7 (h:LI X (cR te) σ H R):Q3 X.K (LE X te) σ H R:=by
 obtain ⟨W,ρ,Q,px,q,k⟩:=h
 refine⟨W,ρ,_,px,q,?_⟩
 rintro v H1 x g s r ⟨xs,e,hg,q⟩
 have px1:=px.mono s
 have tw:∀ a,W a->∃ o,H1 a=some o/\jR o=true:=fun a z=>(px1.wm a z).2
 cases r with
 | tup h r=>
  cases e
  refine⟨_,rfl,.inr ⟨_,aJ.of h,k _ _ _ _ s (Q5 tw (fun W' H' e=>aJ.of (e _ _ h fun z=>?_).1) (pL px (fun z=>by have:=hg z; unfold flat at this; exact this) r)) q⟩⟩
  obtain ⟨o,h',mu⟩:=tw _ z; rw [h] at h'; cases h'; cases mu
 | @lst a us xs' m h r=>
  cases e
  have wa : ¬ W a:=by
   cases g with
   | fr=>exact (px.new m).1
   | nw=>exact m.1
   | sh=>exact m
   | rd=>have:=hg rfl; unfold flat at this; cases this
  exact⟨_,rfl,.inl ⟨_,aM.of h,k _ _ _ _ s (Q4 tw (fun W' H' e=>aM.of (e _ _ h wa).1) (pL px (fun z=>by have:=hg z; unfold flat at this; cases this) r)) q⟩⟩
 | scr h=>
  cases e
  refine⟨_,rfl,.inl ⟨_,h.sqL,k _ _ _ _ s (Q4 tw (fun W' H' e=>(jQ.keep (fun a o u hz=>(e _ _ hz fun z=>?_).1) h).sqL) (pL (g:=g) px (fun z=>dG _) (Reps.intz _))) q⟩⟩
  obtain ⟨o,h',mu⟩:=tw _ z; rw [hz] at h'; cases h'; cases mu
 | kt h r=>
  cases e
  exact⟨_,rfl,.inr ⟨_,.inr h,k _ _ _ _ s (Q5 tw (fun W' H' e=>.inr h) (pL px (fun z=>by have:=hg z; unfold flat at this; exact this) r)) q⟩⟩
 | _=>cases e
noncomputable def fM (lo:Int) (n:Nat):List PV:=(List.range n).map fun (i:Nat)=>PV.int (lo+(i:Int))
theorem gA (lo:Int) (n:Nat):(fM lo n).length=n:=by unfold fM; rw [bi4,List.length_range]
theorem x4 {lo:Int}{n i:Nat} (h:i < n):(fM lo n)[i]? = some (.int (lo+i)):=by unfold fM; rw [bj2,List.getElem?_range h]; rfl
noncomputable def j5 (te:aG):g9:=fun ρ Q=>te ρ fun x _=>∃ j:Int,x = .int j/\-1000000<=j/\j<=1000000/\Q (fM 0 j.toNat) true
noncomputable def sJ (ta tb:aG):g9:=fun ρ Q=>ta ρ fun x _=>tb ρ fun y _=>∃ i j:Int,x = .int i/\y = .int j/\(-1000000<=i/\i<=1000000/\-1000000<=j/\j<=1000000)/\Q (fM i (j - i).toNat) true
theorem Q6 {K:PySem.W.Frag}{H0:Hp}{W:Addr->Prop}{H1:Hp} (lo:Int) (n:Nat):sI K H0 W true H1 (oM lo n) (fM lo n):=by
 refine⟨fun W' H' i e hi=>by rw [gA] at hi; exact hi,fun W' H' i v H2 e y hi=>?_,fun W' H' e=>by show n<=(fM lo n).length; rw [gA]; exact bi8 _⟩
 rw [gA] at hi
 obtain ⟨rfl,rfl⟩:=y
 exact⟨aC.refl _,_,x4 hi,.int _⟩
theorem aD8 (h:LI X (j5 te) σ H R):B9 (i3 (LE X te) iY) σ H R:=by
 obtain ⟨W,ρ,Q,px,q,k⟩:=h
 refine⟨W,ρ,_,px,q,?_⟩
 rintro v H1 x g s r ⟨j,rfl,h1,h2,q⟩
 cases r
 exact⟨j,rfl,by omega,by omega,k _ _ _ _ s (Q6 0 j.toNat) q⟩
theorem aD9 {ta tb:aG} (h:LI X (sJ ta tb) σ H R):C0 (i3 (LE X ta) (i3 (LE X tb) iY)) σ H R:=by
 obtain ⟨W,ρ,Q,px,q,k⟩:=h
 refine⟨W,ρ,_,px,q,fun v H1 x g s r q=>⟨W,ρ,_,px.mono s,q,?_⟩⟩
 rintro w H2 y g' s2 r2 ⟨i,j,rfl,rfl,h,q⟩
 cases r; cases r2
 exact⟨i,j,rfl,by omega,k _ _ _ _ (s.trans s2) (Q6 i (j - i).toNat) q⟩
end
noncomputable abbrev kT:=PV->Bool->bM->(bM->Prop)->Prop
noncomputable def pM (K:PySem.W.Frag) (own:Nat->Prop) (p:kT) (t:TG):Prop:=∀ (H0:Hp) (W:Addr->Prop) (σ:St) (ρ:bM) (H:Hp) (v:V) (x:PV) (g:Bool) (Q:bM->Prop) (Q':St->Hp->Prop),
 PX K H0 W σ ρ H->aI K (Ms H0 W g) H v x->p x g ρ Q->(∀ σ' ρ',PX K H0 W σ' ρ' H->(∀ i,¬ own i->σ'[i]? = σ[i]?)->σ'.length=σ.length->Q ρ'->Q' σ' H)->t v σ H Q'
noncomputable def bX (i:Nat):kT:=fun x g ρ Q=>Q (ρ.set i (some (.sh (g || flat x) x)))
theorem sK {K:PySem.W.Frag}{H0 H:Hp}{W:Addr->Prop}{v:V}{x:PV}{g:Bool} (r:aI K (Ms H0 W g) H v x):aI K (Ms H0 W (g || flat x)) H v x:=by
 cases g with
 | true=>exact r
 | false=>
  show aI K (Ms H0 W (flat x)) H v x
  cases e:flat x with
  | true=>exact r.flat e
  | false=>exact r
theorem pN (K:PySem.W.Frag) (i:Nat):pM K (· = i) (bX i) (cO i):=by
 intro H0 W σ ρ H v x g Q Q' px r q k
 exact k _ _ (px.setSh (sK r)) (fun j hj=>by rw [bl1 (Ne.symm hj)]) (bm3 ..) q
noncomputable def gU (i j:Nat):kT:=fun x g ρ Q=>∃ y z,x = .tup [y,z]/\Q ((ρ.set i (some (.sh (g || flat y) y))).set j (some (.sh (g || flat z) z)))
theorem x5 (K:PySem.W.Frag) (i j:Nat):pM K (fun k=>k=i ∨ k=j) (gU i j) (lM K 2 (gO (cO i) (gO (cO j) lK))):=by
 intro H0 W σ ρ H v x g Q Q' px r q k
 obtain ⟨y,z,rfl,q⟩:=q
 obtain ⟨a,us,rfl,h,r⟩:=r.sqT
 obtain ⟨u1,u2,rfl,r1,r2⟩:=r.two
 refine⟨a,_,rfl,aJ.of h,rfl,u1,_,rfl,u2,_,rfl,rfl,k _ _ ((px.setSh (sK r1)).setSh (sK r2)) (fun k hk=>?_) (by rw [bm3,bm3]) q⟩
 rw [bl1 (fun e=>hk (.inr e.symm)),bl1 (fun e=>hk (.inl e.symm))]
section
variable {X : Cx} {σ : St} {H : Hp} {D : dL}
noncomputable def dS (ti:g9) (p:kT) (tb:aK):aK:=fun D ρ=>ti ρ fun xs g=>∃ I:Nat->bM->Prop,I 0 ρ/\(∀ i x ρ',xs[i]? = some x->I i ρ'->p x g ρ' fun ρ2=>tb { D with nx:=I (i+1),ct:=I (i+1),bk:=D.nx } ρ2)/\∀ ρ',I xs.length ρ'->D.nx ρ'
theorem aE0 {ti:g9}{p:kT}{g:TG}{tb:aK}{own:Nat->Prop} (hg:pM X.K own p g) (h:LS X (dS ti p tb) D σ H):C1 (LI X ti) g (LS X tb) D σ H:=by
 obtain ⟨W,ρ,D',px,q,k⟩:=h
 refine⟨W,ρ,_,px,q,?_⟩
 rintro J H1 xs gb s it ⟨I,i0,turn,fin⟩
 refine⟨fun i m σ2 H2=>m=xs.length - i/\i<=xs.length/\∃ W2 ρ2,PX X.K X.H₀ W2 σ2 ρ2 H2/\Ev W H1 W2 H2/\I i ρ2,⟨xs.length,by omega,bm9 _,W,ρ,px.mono s,Ev.refl _ _,i0⟩,?_⟩
 rintro i m σ2 H2 ⟨rfl,hi,W2,ρ2,px2,e2,i2⟩
 have e0:Ev W H W2 H2:=(Ev.same s).trans e2
 by_cases hlt:i < xs.length
 ·refine .inr ⟨it.go W2 H2 i e2 hlt,fun σ3 H3=>∃ W3 ρ3,PX X.K X.H₀ W3 σ3 ρ3 H3/\Ev W H1 W3 H3/\I (i+1) ρ3,fun σ3 H3 ⟨W3,ρ3,a,b,c⟩=>⟨xs.length - (i+1),by omega,rfl,hlt,W3,ρ3,a,b,c⟩,fun v H3 y=>?_⟩
  obtain ⟨s3,x,hx,rx⟩:=it.yld W2 H2 i v H3 e2 y hlt
  refine hg X.H₀ W2 σ2 ρ2 H3 v x gb _ _ (px2.mono s3) rx (turn i x ρ2 hx i2) fun σ4 ρ4 px4 _ _ q4=>?_
  have e3:Ev W H1 W2 H3:=e2.trans (Ev.same s3)
  have e3':Ev W H W2 H3:=e0.trans (Ev.same s3)
  exact⟨W2,ρ4,_,px4,q4,fun W' σ' H' ρ' e p q=>⟨W',ρ',p,e3.trans e,q⟩,k.rt,fun W' σ' H' ρ' e p q=>k.nx W' σ' H' ρ' (e3'.trans e) p q,fun W' σ' H' ρ' e p q=>⟨W',ρ',p,e3.trans e,q⟩⟩
 ·have e:i=xs.length:=by omega
  subst e
  exact .inl ⟨it.stop W2 H2 e2,k.nx W2 σ2 H2 ρ2 e0 px2 (fin ρ2 i2)⟩
end
noncomputable def nD (fr:List (Option Nat)) (ρ:bM):bM:=fr.map fun o=>o.bind fun j=>(ρ[j]?).join.map fun m=>Slot.sh false m.val
noncomputable def lU (D:Addr):Addr->Prop:=fun a=>a=D
theorem aE1 {K:PySem.W.Frag}{H0:Hp}{W:Addr->Prop}{σ:St}{ρ:bM}{H1 H':Hp}{D:Addr}{acc:List V}{fr:List (Option Nat)} (px:PX K H0 W σ ρ H1) (hD:H1 D=none) (s:aC H1 H') (ha:H' D=some (.lst acc)) :
  PX K H1 (lU D) (gG fr σ) (nD fr ρ) H':=by
 have old:∀ {a:Addr}{o:HO},H1 a=some o->a ≠ D:=fun {a o} e z=>by rw [z,hD] at e; cases e
 refine⟨by unfold gG nD; rw [bi4,bi4],s,fun a z=>by cases z; exact⟨hD,_,ha,rfl⟩,fun i m h=>?_,fun i j x y a h1=>?_⟩
 ·unfold nD at h
  rw [bj2] at h
  cases ef:fr[i]? with
  | none=>rw [ef] at h; cases h
  | some o=>
   rw [ef] at h
   cases o with
   | none=>cases h
   | some j=>
    have h:some ((ρ[j]?).join.map fun m=>Slot.sh false m.val)=some (some m):=h
    cases er:ρ[j]? with
    | none=>rw [er] at h; cases h
    | some o=>
     rw [er] at h
     cases o with
     | none=>cases h
     | some m0=>
      cases h
      obtain ⟨v,ev,r⟩:=px.sl j m0 er
      refine⟨v,?_,?_⟩
      ·unfold gG
       rw [bj2,ef]
       show some ((σ[j]?).join)=_
       rw [ev]; rfl
      ·have r':aI K (fun _=>True) H1 v m0.val:=(O7 (Hs:=H1) r).same (aC.refl _) fun _ _=>trivial
       exact r'.keep ⟨fun a _ _ e=>⟨old e,s _ _ e⟩,fun a _ _ e=>⟨old e,s _ _ e⟩,fun a _ _ e=>⟨old e,s _ _ e⟩,fun _ _ e=>s _ _ e,fun _ _ _ e=>s _ _ e⟩
 ·unfold nD at h1
  rw [bj2] at h1
  cases ef:fr[i]? with
  | none=>rw [ef] at h1; cases h1
  | some o=>
   rw [ef] at h1
   cases o with
   | none=>cases h1
   | some j=>
    have h1:some ((ρ[j]?).join.map fun m=>Slot.sh false m.val)=some (some (Slot.own x)):=h1
    cases er:ρ[j]? with
    | none=>rw [er] at h1; cases h1
    | some o=>
     rw [er] at h1
     cases o with
     | none=>cases h1
     | some m0=>cases h1
section
variable {X : Cx} {σ : St} {H : Hp} {Q' : VK}
noncomputable abbrev _root_.L2.Cx.frm (X:Cx) (H1:Hp):Cx:={ X with H₀:=H1 }
noncomputable def cZ (ti:g9) (fr:List (Option Nat)) (p:kT) (tc:cK) (te:aG):aG:=fun ρ Q=>ti ρ fun xs g=>xs.length<=16000000/\∃ I:Nat->List PV->Prop,I 0 []/\
 (∀ i x acc,xs[i]? = some x->I i acc->p x false (nD fr ρ) fun ρ2=>tc ρ2 fun b=>if b=true then te ρ2 fun y gy=>Nw gy y/\I (i+1) (acc ++ [y]) else I (i+1) acc)/\∀ acc,I xs.length acc->Q (.lst acc) .fr
theorem nE {ti:g9}{fr:List (Option Nat)}{p:kT}{g:TG}{tc:cK}{te:aG}{own:Nat->Prop} (hg:pM X.K own p g) (ho:∀ i,own i->fr[i]? = some none) (h:LE X (cZ ti fr p tc te) σ H Q') :
  vW (LI X ti) fr (fun _=>g) (fun H1=>LT (X.frm H1) tc) (fun H1=>LE (X.frm H1) te) σ H Q':=by
 obtain ⟨W,ρ,Q,px,q,k⟩:=h
 refine⟨W,ρ,_,px,q,?_⟩
 rintro J H1 xs gb s it ⟨hl,I,i0,turn,fin⟩ D hD
 have px1:=px.mono s
 refine⟨fun i m acc H'=>m=xs.length - i/\i<=xs.length/\aC H1 H'/\H' D=some (.lst acc)/\∃ ys,Reps X.K (Ms H1 (lU D) true) H' acc ys/\ys.length<=i/\I i ys,⟨xs.length,by omega,bm9 _,bH hD _,bI,[],.nil,bi8 _,i0⟩,?_⟩
 rintro i m acc H' ⟨rfl,hi,sm,ha,ys,ry,hy,iy⟩
 refine⟨ha,?_⟩
 have ev:Ev W H1 (lS W D) H':=Ev.own sm hD
 by_cases hlt:i < xs.length
 ·refine .inr ⟨it.go _ H' i ev hlt,fun v H2 y=>?_⟩
  obtain ⟨s2,x,hx,rx⟩:=it.yld _ H' i v H2 ev y hlt
  have ha2:=s2 _ _ ha
  have pxb:PX X.K H1 (lU D) (gG fr σ) (nD fr ρ) H2:=aE1 px1 hD (sm.trans s2) ha2
  have rx':aI X.K (Ms H1 (lU D) false) H2 v x:=rx.same (aC.refl _) fun a z=>by
   cases gb with
   | true=>exact fun e=>z.1 (.inr e)
   | false=>exact fun e=>z (.inr e)
  refine hg H1 (lU D) _ _ H2 v x false _ _ pxb rx' (turn i x ys hx iy) fun σ2 ρ2 px2 hown hlen q2=>⟨⟨hlen.symm,fun j w e=>?_⟩,?_⟩
  ·by_cases oj:own j
   ·have:=ho j oj
    unfold gG at e
    rw [bj2,this] at e
    cases e
   ·rw [hown j oj]; exact e
  ·refine⟨lU D,ρ2,_,px2,q2,fun b H4 s4 q4=>?_⟩
   have ha4:=s4 _ _ ha2
   have sm4:=(sm.trans s2).trans s4
   cases b with
   | false=>
    refine bF ⟨xs.length - (i+1),by omega,rfl,hlt,sm4,ha4,ys,ry.same (s2.trans s4) fun _ z=>z,by omega,by simpa using q4⟩
   | true=>
    refine bJ ⟨lU D,ρ2,_,px2.mono s4,by simpa using q4,?_⟩
    rintro w H5 y gy s5 ryy ⟨nw,q5⟩
    have ha5:=s5 _ _ ha4
    have lr:=ry.length
    refine⟨ha5,gP (by omega),xs.length - (i+1),by omega,rfl,hlt,fun b o e=>?_,bI,ys ++ [y],?_,by rw [bj4,bm8]; omega,q5⟩
    ·rw [aR (fun z=>by rw [z,hD] at e; cases e)]
     exact s5 _ _ (sm4 _ _ e)
    ·exact ((ry.same ((s2.trans s4).trans s5) fun _ z=>z).append (.cons (Nw.rep (px2.mono s4) nw ryy) .nil)).keep (.upd ha5 rfl fun b m=>⟨m.1,m⟩)
 ·have e:i=xs.length:=by omega
  subst e
  refine .inl ⟨it.stop _ H' ev,k _ H' _ .fr (s.trans sm) (.lst (s.free hD) ha (ry.same (aC.refl _) fun _ z=>s.free z.2)) (fin ys iy)⟩
noncomputable def dA:cK:=fun _ Q=>Q true
theorem aE2 {Qb:Bool->Hp->Prop} (h:LT X dA σ H Qb):vU σ H Qb:=by
 obtain ⟨W,ρ,Q,px,q,k⟩:=h
 exact k _ _ (aC.refl _) q
end
section
variable {κ : Type} [DecidableEq κ]
noncomputable def cL (ps:List (κ × PV)) (k:κ):Option PV:=(ps.find? fun p=>decide (p.1=k)).map (·.2)
noncomputable def fN (ps:List (κ × PV)) (k:κ) (x:PV):List (κ × PV):=if (ps.any fun p=>decide (p.1=k))=true then ps.map (fun p=>if p.1=k then (p.1,x) else p) else ps ++ [(k,x)]
variable {K : PySem.W.Frag} {M : Addr → Prop} {H : Hp}
theorem jU (k:κ):∀ {kvs:List (κ × V)}{ps:List (κ × PV)},kvs.map (·.1)=ps.map (·.1)->Reps K M H (kvs.map (·.2)) (ps.map (·.2))->(cL ps k=none->fY kvs k=none)/\∀ x,cL ps k=some x->∃ v,fY kvs k=some v/\aI K M H v x
 | [],[],_,_=>⟨fun _=>rfl,fun x h=>by cases h⟩
 | [],_ :: _,e,_=>by cases e
 | _ :: _,[],e,_=>by cases e
 | (k1,v) :: kvs,(k2,x) :: ps,e,r=>by
  injection e with e1 e2
  have e1:k1=k2:=e1
  subst e1
  cases r with
  | cons r t=>
   obtain ⟨h1,h2⟩:=jU k e2 t
   unfold cL fY at h1 h2 ⊢
   by_cases e:k1=k
   ·simp only [bt4,e,decide_true,Option.map_some]
    exact⟨fun z=>(by cases z),fun y z=>(by cases z; exact⟨v,rfl,r⟩)⟩
   ·simp only [bt4,e,decide_false]
    exact⟨h1,h2⟩
theorem aE3 (k:κ) {kvs:List (κ × V)}{ps:List (κ × PV)} (e:kvs.map (·.1)=ps.map (·.1)):(kvs.any fun p=>decide (p.1=k))=ps.any fun p=>decide (p.1=k):=by
 have h1:(kvs.any fun p=>decide (p.1=k))=(kvs.map (·.1)).any fun z=>decide (z=k):=by rw [List.any_map]; rfl
 have h2:(ps.any fun p=>decide (p.1=k))=(ps.map (·.1)).any fun z=>decide (z=k):=by rw [List.any_map]; rfl
 rw [h1,h2,e]
theorem Q7 (k:κ) {w:V}{y:PV} (q:aI K M H w y):∀ {kvs:List (κ × V)}{ps:List (κ × PV)},kvs.map (·.1)=ps.map (·.1)->Reps K M H (kvs.map (·.2)) (ps.map (·.2))->
  (kvs.map fun kv=>if kv.1=k then (kv.1,w) else kv).map (·.1)=(ps.map fun kv=>if kv.1=k then (kv.1,y) else kv).map (·.1)/\Reps K M H ((kvs.map fun kv=>if kv.1=k then (kv.1,w) else kv).map (·.2)) ((ps.map fun kv=>if kv.1=k then (kv.1,y) else kv).map (·.2))
 | [],[],_,_=>⟨rfl,.nil⟩
 | [],_ :: _,e,_=>by cases e
 | _ :: _,[],e,_=>by cases e
 | (k1,v) :: kvs,(k2,x) :: ps,e,r=>by
  injection e with e1 e2
  have e1:k1=k2:=e1
  subst e1
  cases r with
  | cons r t=>
   obtain ⟨h1,h2⟩:=Q7 k q e2 t
   by_cases e:k1=k
   ·simp only [bm0,e,if_true]
    exact⟨by rw [h1],.cons q h2⟩
   ·simp only [bm0,e,bp9]
    exact⟨by rw [h1],.cons r h2⟩
theorem aE4 (k:κ) {w:V}{y:PV} (q:aI K M H w y) {kvs:List (κ × V)}{ps:List (κ × PV)} (e:kvs.map (·.1)=ps.map (·.1)) (r:Reps K M H (kvs.map (·.2)) (ps.map (·.2))) :
  (eR kvs k w).map (·.1)=(fN ps k y).map (·.1)/\Reps K M H ((eR kvs k w).map (·.2)) ((fN ps k y).map (·.2)):=by
 unfold eR fN
 rw [aE3 k e]
 split
 ·exact Q7 k q e r
 ·rw [bk2,bk2,bk2,bk2,e]
  exact⟨rfl,r.append (.cons q .nil)⟩
end
noncomputable def kP:aH->PV
 | .inl i=>.int i
 | .inr x=>.str x
theorem x6 {K:PySem.W.Frag}{M:Addr->Prop}{H:Hp}{v:V}{k:aH} (r:aI K M H v (kP k)):v=kV k:=by
 cases k with
 | inl i=>cases r; rfl
 | inr x=>cases r; rfl
theorem Q8 {K:PySem.W.Frag}{M:Addr->Prop}{H:Hp}:∀ {ks:List aH}{us:List V},Reps K M H us (ks.map kP)->us=ks.map kV
 | [],_,.nil=>rfl
 | k :: r,_,.cons q t=>by rw [x6 q,Q8 t]; rfl
noncomputable def Q9:PV->PV
 | .fK ps=>.dK ps
 | .fT ps=>.dT ps
 | x=>x
noncomputable def R3 (x y:PV) (o:Option PV):Prop:=(∃ ps k,Q9 x = .dK ps/\y=kP k/\o=cL ps k) ∨ (∃ ps k,Q9 x = .dT ps/\y = .tup (k.map kP)/\o=cL ps k)
theorem R4 {K:PySem.W.Frag}{M M2:Addr->Prop}{H:Hp}{v w:V}{x y:PV}{o:Option PV} (h:R3 x y o) (rx:aI K M H v x) (ry:aI K M2 H w y):∃ a o',v = .ref a/\iI H a w o'/\(o=none->o'=none)/\∀ z,o=some z->∃ u,o'=some u/\aI K M H u z:=by
 rcases h with ⟨ps,k,ex,rfl,rfl⟩ | ⟨ps,k,ex,rfl,rfl⟩
 ·obtain rfl:=x6 ry
  cases rx with
  | dK m h e r=>cases ex; exact⟨_,_,rfl,iI.k h,(jU k e r).1,(jU k e r).2⟩
  | fK h e r=>cases ex; exact⟨_,_,rfl,.inl ⟨_,k,.inr ⟨_,h⟩,rfl,rfl⟩,(jU k e r).1,(jU k e r).2⟩
  | _=>cases ex
 ·obtain ⟨b,us,rfl,hb,rb⟩:=ry.sqT
  obtain rfl:=Q8 rb
  cases rx with
  | dT m h e r=>cases ex; exact⟨_,_,rfl,iI.t h hb,(jU k e r).1,(jU k e r).2⟩
  | fT h e r=>cases ex; exact⟨_,_,rfl,.inr ⟨_,k,b,.inr ⟨_,h⟩,rfl,hb,rfl⟩,(jU k e r).1,(jU k e r).2⟩
  | _=>cases ex
section
variable {X : Cx} {σ : St} {H : Hp} {D : dL} {tk td te : aG} {Q' : VK}
noncomputable def kU (neg:Bool) (tk td:aG):aG:=fun ρ Q=>tk ρ fun y _=>td ρ fun x _=>∃ o,R3 x y o/\Q (.bl (if neg=true then !o.isSome else o.isSome)) .fr
theorem R5 {α β:Type}{o:Option α}{o':Option β}{P:β->α->Prop} (h1:o=none->o'=none) (h2:∀ z,o=some z->∃ u,o'=some u/\P u z):o'.isSome=o.isSome:=by
 cases o with
 | none=>rw [h1 rfl]; rfl
 | some z=>obtain ⟨u,e,_⟩:=h2 z rfl; rw [e]; rfl
theorem aE5 (h:LE X (kU false tk td) σ H Q'):K0 (LE X tk) (LE X td) σ H Q':=by
 obtain ⟨W,ρ,Q,px,q,k⟩:=h
 refine⟨W,ρ,_,px,q,fun w H1 y g s r q=>⟨W,ρ,_,px.mono s,q,?_⟩⟩
 rintro v H2 x g' s2 r2 ⟨o,ak,q⟩
 obtain ⟨a,o',rfl,dg,h1,h2⟩:=R4 ak r2 (r.same s2 fun _ z=>z)
 refine⟨a,o',rfl,dg,?_⟩
 rw [R5 h1 h2]
 exact k _ _ _ .fr (s.trans s2) (.bl _) q
theorem aE6 (h:LE X (kU true tk td) σ H Q'):K1 (LE X tk) (LE X td) σ H Q':=by
 obtain ⟨W,ρ,Q,px,q,k⟩:=h
 refine⟨W,ρ,_,px,q,fun w H1 y g s r q=>⟨W,ρ,_,px.mono s,q,?_⟩⟩
 rintro v H2 x g' s2 r2 ⟨o,ak,q⟩
 obtain ⟨a,o',rfl,dg,h1,h2⟩:=R4 ak r2 (r.same s2 fun _ z=>z)
 refine⟨a,o',rfl,dg,?_⟩
 rw [R5 h1 h2]
 exact k _ _ _ .fr (s.trans s2) (.bl _) q
theorem PX.updD {K:PySem.W.Frag}{H0:Hp}{W:Addr->Prop}{σ:St}{ρ:bM}{H:Hp}{i:Nat}{a:Addr}{x:PV}{kvs:List (aH × V)}{ps:List (aH × PV)} (p:PX K H0 W σ ρ H) (hi:ρ[i]? = some (some (.own x))) (ha:σ[i]? = some (some (.ref a))) (wa:W a)
  (r:kvs.map (·.1)=ps.map (·.1)/\Reps K (Ms H0 W true) (upd H a (.dK kvs)) (kvs.map (·.2)) (ps.map (·.2))):PX K H0 W σ (ρ.set i (some (.own (.dK ps)))) (upd H a (.dK kvs)):=p.updOwn hi ha wa rfl (y:=.dK ps) ⟨kvs,bI,r⟩
theorem aE7 {κ α β:Type}{l:List (κ × α)}{m:List (κ × β)} (e:l.map (·.1)=m.map (·.1)):l.length=m.length:=by
 have:=congrArg List.length e
 rw [bi4,bi4] at this
 exact this
noncomputable def pO (i:Nat) (tk te:aG):aK:=fun D ρ=>te ρ fun z g=>∃ ps,ρ[i]? = some (some (.own (.dK ps)))/\tk ρ fun y _=>∃ k,y=kP k/\Nw g z/\ps.length < 16000000/\D.nx (ρ.set i (some (.own (.dK (fN ps k z)))))
theorem aE8 {i:Nat} (h:LS X (pO i tk te) D σ H):K2 (hG i) (LE X tk) (LE X te) D σ H:=by
 obtain ⟨W,ρ,D',px,q,k⟩:=h
 refine⟨W,ρ,_,px,q,?_⟩
 rintro w H1 z g s rz ⟨ps,hi,q⟩
 obtain ⟨v,ev,a,rfl,wa,kvs,ea,e1,r⟩:=(px.mono s).sl i _ hi
 refine⟨_,ev,W,ρ,_,px.mono s,q,?_⟩
 rintro kv H2 y g' s2 ry ⟨kk,rfl,nw,hl,q⟩
 obtain rfl:=x6 ry
 have ea2:=s2 _ _ ea
 refine⟨a,_,rfl,p6.k ea2 (gP (by rw [aE7 e1]; omega)),?_⟩
 refine k.nx W σ _ _ ((Ev.same (s.trans s2)).trans (Ev.upd wa)) ((px.mono (s.trans s2)).updD hi ev wa ?_) q
 obtain ⟨h1,h2⟩:=aE4 kk ((Nw.rep px nw rz).same s2 fun _ z=>z) e1 (r.same s2 fun _ z=>z)
 exact⟨h1,h2.keep (.upd ea2 rfl fun b m=>⟨iL wa m,m⟩)⟩
theorem aE9 (h:LE X (qC (.dK [])) σ H Q'):K4 σ H Q':=by
 obtain ⟨W,ρ,Q,px,q,k⟩:=h
 exact fun p hp=>k _ _ _ .fr (bH hp _) (.dK hp bI rfl .nil) q
end
noncomputable def dU:Nat->PV->PV->Bool
 | _,.non,.non=>true
 | _,.bl a,.bl b=>a == b
 | _,.int a,.int b=>a == b
 | _,.str a,.str b=>a == b
 | n+1,.tup xs,.tup ys=>(xs.zip ys).all (fun p=>dU n p.1 p.2) && xs.length == ys.length
 | n+1,.lst xs,.lst ys=>(xs.zip ys).all (fun p=>dU n p.1 p.2) && xs.length == ys.length
 | n+1,.kt xs,.kt ys=>(xs.zip ys).all (fun p=>dU n p.1 p.2) && xs.length == ys.length
 | _,_,_=>false
noncomputable def gI:Nat->PV->PV->Bool
 | _,.non,.non=>true
 | _,.bl _,.bl _=>true
 | _,.int _,.int _=>true
 | _,.str _,.str _=>true
 | _,.non,.int _=>true
 | _,.int _,.non=>true
 | n+1,.tup xs,.tup ys=>(xs.zip ys).all (fun p=>gI n p.1 p.2)
 | n+1,.lst xs,.lst ys=>(xs.zip ys).all (fun p=>gI n p.1 p.2)
 | n+1,.kt xs,.kt ys=>(xs.zip ys).all (fun p=>gI n p.1 p.2)
 | _+1,.non,.tup _=>true
 | _+1,.tup _,.non=>true
 | _,_,_=>false
noncomputable def sL (ta:aG):aG:=fun ρ Q=>ta ρ fun x _=>∃ i,x = .int i/\Q (.int (-i)) .fr
noncomputable def nF (neg:Bool):PV->Tg->PV->Tg->PK->Prop:=fun x _ y _ Q=>∃ i ns,x = .int i/\jS y=some (intz ns)/\Q (.bl (if neg=true then !decide (i ∈ ns) else decide (i ∈ ns))) .fr
noncomputable def R6:PV->Option String
 | .non=>some "NoneType"
 | .bl _=>some "bool"
 | .int _=>some "int"
 | .str _=>some "str"
 | .tup _=>some "tuple"
 | .kt _=>some "tuple"
 | .lst _=>some "list"
 | _=>none
noncomputable def lV (K:PySem.W.Frag) (n:String) (te:aG):aG:=fun ρ Q=>te ρ fun x _=>∃ T b,R6 x=some T/\PySem.W.kitOne K (.type T) (.type n)=some b/\Q (.bl b) .fr
noncomputable def sM (n:Nat) (neg:Bool):PV->Tg->PV->Tg->PK->Prop:=fun x _ y _ Q=>((∃ xs ys,x = .tup xs/\y = .tup ys) ∨ (∃ xs ys,x = .lst xs/\y = .lst ys))/\gI (n+1) x y=true/\Q (.bl (if neg=true then !dU (n+1) x y else dU (n+1) x y)) .fr
noncomputable abbrev nG:=bM->(Option Int->Prop)->Prop
noncomputable def fO (xs:List PV) (lo hi:Option Int):List PV:=(xs.drop (HT.b5 xs.length 0 lo)).take (HT.b5 xs.length xs.length hi - HT.b5 xs.length 0 lo)
noncomputable def aF0:PV->List PV->PV
 | .tup _,ys=>.tup ys
 | .kt _,ys=>.tup ys
 | _,ys=>.lst ys
noncomputable def pP:nG:=fun _ Q=>Q none
noncomputable def lW (te:aG):nG:=fun ρ Q=>te ρ fun x _=>∃ i,x = .int i/\Q (some i)
noncomputable def nH (te:aG) (tl th:nG):aG:=fun ρ Q=>te ρ fun x _=>tl ρ fun lo=>th ρ fun hi=>∃ xs,seqT x=some xs/\flats xs=true/\Q (aF0 x (fO xs lo hi)) .fr
noncomputable def gJ (N:List Str) (xs:List PV):bM:=xs.map (fun x=>some (.sh (flat x) x)) ++ List.replicate (N.length - xs.length) none
noncomputable abbrev cB (ta tb:aG):aG:=q2 (fJ fun i j=>.int (i+j)) ta tb
noncomputable abbrev jV (ta tb:aG):aG:=q2 (fJ fun i j=>.int (i - j)) ta tb
noncomputable abbrev pQ (ta tb:aG):aG:=q2 (RI oO fun i j=>.int (i * j)) ta tb
noncomputable abbrev i9 (ta tb:aG):aG:=q2 (RI uV fun i j=>.int (i / j)) ta tb
noncomputable abbrev cE (ta tb:aG):aG:=q2 (RI (fun _ j=>0 < j) fun i j=>.int (i % j)) ta tb
noncomputable abbrev pR (ta tb:aG):aG:=q2 (RI uW fun i j=>.int (i ^ j.toNat)) ta tb
noncomputable abbrev nI (ta tb:aG):aG:=q2 (fJ fun i j=>.bl (decide (i < j))) ta tb
noncomputable abbrev R7 (ta tb:aG):aG:=q2 (fJ fun i j=>.bl (decide (i<=j))) ta tb
noncomputable abbrev R8 (ta tb:aG):aG:=q2 (fJ fun i j=>.bl (decide (j < i))) ta tb
noncomputable abbrev pS (ta tb:aG):aG:=q2 (fJ fun i j=>.bl (decide (j<=i))) ta tb
noncomputable abbrev jW (ta tb:aG):aG:=q2 (lR false) ta tb
noncomputable abbrev R9 (ta tb:aG):aG:=q2 (lR true) ta tb
noncomputable abbrev aF1 (ta tb:aG):aG:=q2 (nC false) ta tb
noncomputable abbrev aF2 (ta tb:aG):aG:=q2 (nC true) ta tb
noncomputable abbrev bA (ta tb:aG):aG:=q2 wU ta tb
noncomputable def j6:List PV->(PV->Prop)->Prop:=fun xs Q=>Q0 xs Q/\∀ ns,xs ≠ [.scr ns]
noncomputable def pT:aK:=fun _ _=>False
noncomputable def QE (X:Cx) (e:Expr) (t:aG):Prop:=PE X e (LE X t)
noncomputable def QT (X:Cx) (e:Expr) (t:cK):Prop:=PT X e (LT X t)
noncomputable def QW (X:Cx) (e:Expr) (t:cK):Prop:=PW X e (LT X t)
noncomputable def QA (X:Cx) (es:List Expr) (t:cG):Prop:=PA X es (LA X t)
noncomputable def QS (X:Cx) (st:Stmt) (t:aK):Prop:=PS X st (LS X t)
noncomputable def fA (X:Cx) (st:List Stmt) (t:aK):Prop:=eI X st (LS X t)
noncomputable def QI (X:Cx) (tg iter:Expr) (t:g9):Prop:=PI X tg iter (LI X t)
section
variable {X : Cx}
theorem cF {e:Expr}{t t':TE} (h:PE X e t) (m:∀ σ H Q,t' σ H Q->t σ H Q):PE X e t':=fun pins s σ H Q I q=>h pins s σ H Q I (m σ H Q q)
theorem nJ {e:Expr}{t t':TT} (h:PT X e t) (m:∀ σ H Q,t' σ H Q->t σ H Q):PT X e t':=fun pins s σ H Q I q=>h pins s σ H Q I (m σ H Q q)
theorem S0 {e:Expr}{t t':TT} (h:PW X e t) (m:∀ σ H Q,t' σ H Q->t σ H Q):PW X e t':=fun wh pins s σ H Q I q=>h wh pins s σ H Q I (m σ H Q q)
theorem S2 {e:List Expr}{t t':TA} (h:PA X e t) (m:∀ σ H Q,t' σ H Q->t σ H Q):PA X e t':=fun pos pins s σ H Q I q=>h pos pins s σ H Q I (m σ H Q q)
theorem dW {e:Stmt}{t t':TS} (h:PS X e t) (m:∀ D σ H,t' D σ H->t D σ H):PS X e t':=fun pins s σ H D I q=>h pins s σ H D I (m D σ H q)
theorem sN {e:List Stmt}{t t':TS} (h:eI X e t) (m:∀ D σ H,t' D σ H->t D σ H):eI X e t':=fun pins s σ H D I q=>h pins s σ H D I (m D σ H q)
theorem sO {tg e:Expr}{t t':TI} (h:PI X tg e t) (m:∀ σ H R,t' σ H R->t σ H R):PI X tg e t':=fun pins s σ H R I q=>h pins s σ H R I (m σ H R q)
variable {a b c e o : Expr} {es dO : List Expr} {ta tb te to tk : aG} {tr : cG} {tA tB' tc : cK} {pos p2 px : Pos} {st : Stmt} {sts : List Stmt} {t u : aK}
theorem qv (i:Nat) {x:Str}{pos:Pos} (hN:X.N[i]? = some x:=by rfl) (hv:gN X.env.scope x:=by first | exact Or.inl rfl | exact Or.inr (Or.inl rfl) | exact Or.inr (Or.inr rfl)) (hd:(x == ("__debug__" : Str))=false:=by decide)
  (hcd:(x == ("__classdict__" : Str))=false:=by decide):QE X (.Name x pos) (a5 i):=cF (iF hN hv hd hcd) fun _ _ _=>az9
theorem aD {i j}:QE X (.Constant (.int i) j pos) (qC (.int i)):=cF lI fun _ _ _=>sC fun _=>.int i
theorem dX {i j}:QE X (.Constant (.bool i) j pos) (qC (.bl i)):=cF A2 fun _ _ _=>sC fun _=>.bl i
theorem pU {j}:QE X (.Constant .none j pos) (qC .non):=cF am0 fun _ _ _=>sC fun _=>.non
theorem sP {i j}:QE X (.Constant (.str i) j pos) (qC (.str i)):=cF am1 fun _ _ _=>sC fun _=>.str i
theorem j7 {op:Operator}{R:PV->Tg->PV->Tg->PK->Prop}{r:R2} (ho:c9 X (binaryOp op) r) (cv:eM X R r) (ha:QE X a ta) (hb:QE X b tb):QE X (.BinOp a op b pos) (q2 R ta tb):=cF (ao5 ho ha hb) fun _ _ _=>sD cv
theorem cM (ha:QE X a ta) (hb:QE X b tb):QE X (.BinOp a .Add b pos) (q2 (fJ fun i j=>.int (i+j)) ta tb):=j7 ao7 O8 ha hb
theorem jX (ha:QE X a ta) (hb:QE X b tb):QE X (.BinOp a .Sub b pos) (q2 (fJ fun i j=>.int (i - j)) ta tb):=j7 ao8 O8 ha hb
theorem pV (ha:QE X a ta) (hb:QE X b tb):QE X (.BinOp a .Mult b pos) (q2 (RI oO fun i j=>.int (i * j)) ta tb):=j7 ao9 sE ha hb
theorem iM (ha:QE X a ta) (hb:QE X b tb):QE X (.BinOp a .FloorDiv b pos) (q2 (RI uV fun i j=>.int (i / j)) ta tb):=j7 ap0 sE ha hb
theorem dI (ha:QE X a ta) (hb:QE X b tb):QE X (.BinOp a .Mod b pos) (q2 (RI (fun _ j=>0 < j) fun i j=>.int (i % j)) ta tb):=j7 ap1 sE ha hb
theorem x8 (ha:QE X a ta) (hb:QE X b tb):QE X (.BinOp a .Pow b pos) (q2 (RI uW fun i j=>.int (i ^ j.toNat)) ta tb):=j7 ap2 sE ha hb
theorem sQ {op:CmpOp}{R:PV->Tg->PV->Tg->PK->Prop}{r:R2} (ho:c9 X (compareOp op) r) (cv:eM X R r) (ha:QE X a ta) (hb:QE X b tb) (hm:behindInMarks op b=false):QE X (.Compare a [op] [b] pos) (q2 R ta tb):=cF (uY ho ha hb hm) fun _ _ _=>sD cv
theorem iN {op:CmpOp}{R:PV->Tg->PV->Tg->PK->Prop}{r:R2} (ho:c9 X (compareOp op) r) (cv:eM X R r) (ha:QE X a ta) (hb:QE X b tb) (hm:behindInMarks op b=false):QT X (.Compare a [op] [b] pos) (bD (q2 R ta tb)):=nJ (ap9 ho ha hb hm) fun _ _ _ h=>sD cv (sF h)
theorem S3 (ha:QE X a ta) (hb:QE X b tb):QE X (.Compare a [.Lt] [b] pos) (q2 (fJ fun i j=>.bl (decide (i < j))) ta tb):=sQ rD mW ha hb (fW _)
theorem aF3 (ha:QE X a ta) (hb:QE X b tb):QE X (.Compare a [.GtE] [b] pos) (q2 (fJ fun i j=>.bl (decide (j<=i))) ta tb):=sQ E3 mW ha hb (fW _)
theorem x9 (ha:QE X a ta) (hb:QE X b tb):QE X (.Compare a [.Eq] [b] pos) (q2 (lR false) ta tb):=sQ E1 P3 ha hb (fW _)
theorem sR (ha:QE X a ta) (hb:QE X b tb):QT X (.Compare a [.Lt] [b] pos) (bD (q2 (fJ fun i j=>.bl (decide (i < j))) ta tb)):=iN rD mW ha hb (fW _)
theorem S4 (ha:QE X a ta) (hb:QE X b tb):QT X (.Compare a [.LtE] [b] pos) (bD (q2 (fJ fun i j=>.bl (decide (i<=j))) ta tb)):=iN ap4 mW ha hb (fW _)
theorem S7 (ha:QE X a ta) (hb:QE X b tb):QT X (.Compare a [.Gt] [b] pos) (bD (q2 (fJ fun i j=>.bl (decide (j < i))) ta tb)):=iN ap5 mW ha hb (fW _)
theorem sS (ha:QE X a ta) (hb:QE X b tb):QT X (.Compare a [.GtE] [b] pos) (bD (q2 (fJ fun i j=>.bl (decide (j<=i))) ta tb)):=iN E3 mW ha hb (fW _)
theorem nK (ha:QE X a ta) (hb:QE X b tb):QT X (.Compare a [.Eq] [b] pos) (bD (q2 (lR false) ta tb)):=iN E1 P3 ha hb (fW _)
theorem S8 (ha:QE X a ta) (hb:QE X b tb):QT X (.Compare a [.NotEq] [b] pos) (bD (q2 (lR true) ta tb)):=iN E2 aA0 ha hb (fW _)
theorem aF4 (ha:QE X a ta) (hb:QE X b tb):QT X (.Compare a [.Is] [b] pos) (bD (q2 (nC false) ta tb)):=iN ap6 aD5 ha hb (fW _)
theorem aF5 (ha:QE X a ta) (hb:QE X b tb):QT X (.Compare a [.IsNot] [b] pos) (bD (q2 (nC true) ta tb)):=iN ap7 aD6 ha hb (fW _)
theorem aF6 (hu:X.A.units+1 < cLine) (hk:QE X a tk) (hd:QE X b te) (hm:behindInMarks .In b=false:=by rfl):QT X (.Compare a [.In] [b] pos) (bD (kU false tk te)):=nJ (A4 (au8 hu hk hd) hm) fun _ _ _ h=>aE5 (sF h)
theorem xA (hu:X.A.units+1 < cLine) (hk:QE X a tk) (hd:QE X b te) (hm:behindInMarks .NotIn b=false:=by rfl):QT X (.Compare a [.NotIn] [b] pos) (bD (kU true tk te)):=nJ (A4 (au9 hu hk hd) hm) fun _ _ _ h=>aE6 (sF h)
theorem kW (h:QE X e te) (he:∀ whole,isTrue e X.env whole=(do let v <- whole; standAt e.pos; holding [v] (truthy v)):=by intro _; rfl):QT X e (bD te):=nJ (am3 h he) fun _ _ _ h=>sF h
theorem lX (h:QE X e te) (he:∀ whole,isTrue e X.env whole=(do let v <- whole; standAt e.pos; holding [v] (truthy v)):=by intro _; rfl):QT X e (jT te):=nJ (aq2 h he) fun _ _ _ h=>aD4 h
theorem sT (ha:QT X a tA):QW X (.BoolOp .And [a] pos) tA:=am4 ha
theorem S9 (ha:QT X a tA):QW X (.BoolOp .Or [a] pos) tA:=am5 ha
theorem sV (ha:QT X a tA) (hb:QW X (.BoolOp .And (b :: dO) pos) tB'):QW X (.BoolOp .And (a :: b :: dO) pos) (mX tA tB'):=S0 (am6 ha hb) fun _ _ _=>aA1
theorem xB (ha:QT X a tA) (hb:QW X (.BoolOp .Or (b :: dO) pos) tB'):QW X (.BoolOp .Or (a :: b :: dO) pos) (pG tA tB'):=S0 (am7 ha hb) fun _ _ _=>aA2
theorem nL (h:QW X e tA):QT X e tA:=PW.pt h
theorem kX (ha:QT X a tA):QT X (.UnaryOp .Not a pos) (j3 tA):=nJ (am8 ha) fun _ _ _=>aA3
theorem xC {op} (h:QE X a ta):QE X (.BoolOp op [a] pos) ta:=am9 h
theorem xD (ha:QE X a ta) (hb:QE X (.BoolOp .And (b :: dO) pos) tb):QE X (.BoolOp .And (a :: b :: dO) pos) (pH ta tb):=cF (an0 ha hb) fun _ _ _=>aA4
theorem aF7 (ha:QE X a ta):QE X (.UnaryOp .Not a pos) (wO ta):=cF (an1 ha) fun _ _ _=>aA5
theorem aA:QA X [] a9:=S2 dF fun _ _ _=>aA6
theorem a7 (ha:QE X e te) (hr:QA X es tr) (hs:starEach (e :: es) X.env=(false,eval e X.env) :: starEach es X.env:=by rfl):QA X (e :: es) (a6 te tr):=S2 (cJ ha hr hs) fun _ _ _=>aA7
theorem gB {x1} (h:QA X es tr):QE X (.Tuple es x1 pos) (eZ tr):=cF (E5 h) fun _ _ _=>aA9
theorem aF8 {x1} (h:QA X es tr):QE X (.Tuple es x1 pos) (wP tr):=cF (E5 h) fun _ _ _=>aA8
theorem eS (h:QA X es tr):QE X (.List es pos) (dQ tr):=cF (oQ h) fun _ _ _=>aB0
theorem bC (ha:QE X a ta) (hb:QE X b tb) (hs:vE b:=by exact fun _ _=>rfl):QE X (.Subscript a b pos) (q2 wU ta tb):=cF (iZ G3 ha hb hs) fun _ _ _=>sD aC4
theorem T0:QE X (.Dict [] [] pos) (qC (.dK [])):=cF av1 fun _ _ _=>aE9
theorem j8 {x:Str}{id:String}{R:List PV->(PV->Prop)->Prop}{r:List V->Hp->VK->Prop} (hc:cX X (.builtin id) r) (cv:fZ X R r) (hg:Gl X x) (hm:X.mg x=none) (hv:bootBuiltins x=some (.builtin id)) (ha:QA X (e :: es) tr) (hn:x ≠ "__name__":=by decide) (hdb:(x == ("__debug__" : Str))=false:=by decide)
  (he:starEach (e :: es) X.env=(false,eval e X.env) :: starEach es X.env:=by rfl) (hpl:(backTo pos (starEach es X.env)).any (·.1)=false:=by rfl):QE X (.Call (.Name x p2) (e :: es) [] pos) (aB R tr):=cF (oS hc hg hm hv ha hn hdb he hpl) fun _ _ _=>P4 cv
theorem T1 {x:Str}{T:String}{R:List PV->(PV->Prop)->Prop}{r:List V->Hp->VK->Prop} (hc:cX X (.type T) r) (cv:fZ X R r) (hg:Gl X x) (hm:X.mg x=none) (hv:bootBuiltins x=some (.type T)) (ha:QA X (e :: es) tr) (hn:x ≠ "__name__":=by decide) (hdb:(x == ("__debug__" : Str))=false:=by decide)
  (he:starEach (e :: es) X.env=(false,eval e X.env) :: starEach es X.env:=by rfl) (hpl:(backTo pos (starEach es X.env)).any (·.1)=false:=by rfl):QE X (.Call (.Name x p2) (e :: es) [] pos) (aB R tr):=cF (F3 hc hg hm hv ha hn hdb he hpl) fun _ _ _=>P4 cv
theorem cS:fA X [] cH:=sN an3 fun _ _ _=>aB1
theorem aF (h1:QS X st t) (h2:fA X sts u):fA X (st :: sts) (aE t u):=sN (kI h1 h2) fun _ _ _=>aB2
theorem aT (h1:QS X st t):fA X [st] t:=kJ h1
theorem sW:QS X st pT:=dW an6 fun _ _ _ ⟨_,_,_,_,h,_⟩=>h
theorem b7 {i:Nat}{x:Str} (hN:X.N.Nodup) (he:QE X e te) (hi:X.N[i]? = some x:=by rfl) (hx:iE X.env.scope x:=by first | exact Or.inl rfl | exact Or.inr rfl) (hs:swapsWith e (some (.Name x p2)) pos.line X.env=pure false:=by rfl) (hf:X.fn x=true ∨ X.env.scope.names.lookup x=some .local:=by first | exact .inl rfl | exact .inr rfl) :
  QS X (.Assign [.Name x p2] e pos) (b4 i te):=dW (qZ hN hi hx he hs hf) fun _ _ _=>wR
theorem fB {i:Nat}{x:Str} (hN:X.N.Nodup) (he:QE X e te) (hi:X.N[i]? = some x:=by rfl) (hx:iE X.env.scope x:=by first | exact Or.inl rfl | exact Or.inr rfl) (hs:swapsWith e (some (.Name x p2)) pos.line X.env=pure false:=by rfl) (hf:X.fn x=true ∨ X.env.scope.names.lookup x=some .local:=by first | exact .inl rfl | exact .inr rfl) :
  QS X (.Assign [.Name x p2] e pos) (dR i te):=dW (qZ hN hi hx he hs hf) fun _ _ _=>P8
theorem sX (i:Nat) (h:QS X st t):QS X st (mZ i t):=dW h fun _ _ _=>aB5
theorem bR (he:QE X e te):QS X (.Return (some e) pos) (bN te):=dW (mI he) fun _ _ _=>aB6
theorem lY (i:Nat) {x:Str} (hN:X.N[i]? = some x:=by rfl) (hv:gN X.env.scope x:=by first | exact Or.inl rfl | exact Or.inr (Or.inl rfl) | exact Or.inr (Or.inr rfl)) (hd:(x == ("__debug__" : Str))=false:=by decide) (hcd:(x == ("__classdict__" : Str))=false:=by decide) :
  QS X (.Return (some (.Name x p2)) pos) (j4 i):=dW (mI (iF hN hv hd hcd)) fun _ _ _=>aB7
theorem cN {sa sb:List Stmt} (hc:QT X c tc) (ha:fA X sa t) (hb:fA X sb u):QS X (.If c sa sb pos) (cD tc t u):=dW (an4 hc ha hb) fun _ _ _=>aB8
theorem pW {body:List Stmt} (hp:PassesOwn (model X.prog X.w) X.A X.env X.xe) (hc:QT X c tc) (hb:fA X body t):QS X (.While c body [] pos) (lT tc t):=dW (an7 hp hc hb) fun _ _ _=>aB9
theorem jY (i:Nat) {x:Str}{apos cpos xpos:Pos} (he:QE X e te) (hN:X.N[i]? = some x:=by rfl) (hv:gN X.env.scope x:=by first | exact Or.inl rfl | exact Or.inr (Or.inl rfl) | exact Or.inr (Or.inr rfl)) (hd:(x == ("__debug__" : Str))=false:=by decide) (hcd:(x == ("__classdict__" : Str))=false:=by decide)
  (hbase:attributeBase (.Name x xpos) "append" X.env (eval (.Name x xpos) X.env)=eval (.Name x xpos) X.env:=by rfl)
  (hfew:((backTo cpos (starEach [e] X.env)).all (fun x=>!x.1) && (backToKw cpos (keywordEach [] X.env)).all (fun x=>x.1.isSome) && decide (([e]:List Expr).length+([]:List Keyword).length+(if ([]:List Keyword).isEmpty then 0 else 1) < 30))=true:=by rfl)
  (hline:(apos.endLine == cpos.line)=true:=by rfl) (hs:starEach [e] X.env=(false,eval e X.env) :: starEach [] X.env:=by rfl) (hplain:(backTo cpos (starEach [] X.env)).any (·.1)=false:=by rfl)
  (hsw:swapsWith (.Call (.Attribute (.Name x xpos) "append" apos) [e] [] cpos) none pos.line X.env=pure false:=by rfl) :
  QS X (.Expr (.Call (.Attribute (.Name x xpos) "append" apos) [e] [] cpos) pos) (gT i te):=
 dW (kK (kN bo7 bt2 bt3 lN (iF hN hv hd hcd) (cJ he dF hs) hbase hfew hline hs hplain) hsw) fun _ _ _=>aC0
theorem xE {i:Nat}{x:Str}{xpos tpos:Pos} (hu:X.A.units+1 < cLine) (hk:QE X a tk) (he:QE X e te) (hN:X.N[i]? = some x:=by rfl) (hv:gN X.env.scope x:=by first | exact Or.inl rfl | exact Or.inr (Or.inl rfl) | exact Or.inr (Or.inr rfl)) (hd:(x == ("__debug__" : Str))=false:=by decide) (hcd:(x == ("__classdict__" : Str))=false:=by decide)
  (hs:swapsWith e (some (.Subscript (.Name x xpos) a tpos)) pos.line X.env=pure false:=by rfl):QS X (.Assign [.Subscript (.Name x xpos) a tpos] e pos) (pO i tk te):=dW (av0 hu (iF hN hv hd hcd) hk he hs) fun _ _ _=>aE8
theorem aF9 {tg l:Expr}{tl:TE} (hl:PE X l tl):PI X tg l (Q3 X.K tl):=by
 intro pins s σ H R I h
 refine aQ (hl pins s σ H _ I h) fun v s1 ⟨x,H1,I1,r1,q1⟩=>?_
 obtain ⟨a,e,q⟩:=q1
 subst e
 cases r1
 rcases q with ⟨xs,hq,q⟩ | ⟨xs,hq,q⟩
 ·obtain ⟨its,rv,p,hz⟩:=I1.list hq
  refine wpAny_pyIter_list p.isList ?_
  refine⟨s1.heap.objs.size,[s1.heap.objs.size],_,_,H1,rfl,I1.kept (t':=s1.toks) fun b o e=>bi1 _ e,an8 a _,⟨_,bk0 _ rfl,rfl,rfl⟩,fun b hb=>?_,q⟩
  have e:b=s1.heap.objs.size:=by simpa using hb
  subst e
  exact I1.fpOk (bi8 _) (I1.hok.fresh (bi8 _))
 ·obtain ⟨its,rv,p,hz⟩:=I1.tuple hq
  refine wpAny_pyIter_tuple (show s1.heap.IsTuple a its.toArray from p) ?_
  refine⟨s1.heap.objs.size,[s1.heap.objs.size],_,_,H1,rfl,I1.kept (t':=s1.toks) fun b o e=>bi1 _ e,B7 a _,⟨_,bk0 _ rfl,rfl,rfl⟩,fun b hb=>?_,q⟩
  have e:b=s1.heap.objs.size:=by simpa using hb
  subst e
  exact I1.fpOk (bi8 _) (I1.hok.fresh (bi8 _))
theorem dJ {tg l:Expr} (hl:QE X l te):QI X tg l (cR te):=sO (aF9 hl) fun _ _ _=>aD7
theorem kY {tg:Expr} (hg:Gl X "range") (hm:X.mg "range" = none) (ha:QE X a ta) (hs:starEach [a] X.env = [(false,eval a X.env)]:=by rfl):QI X tg (.Call (.Name "range" p2) [a] [] pos) (j5 ta):=sO (ao1 hg hm (cJ ha dF hs) hs) fun _ _ _=>aD8
theorem T4 {tg:Expr} (hg:Gl X "range") (hm:X.mg "range" = none) (ha:QE X a ta) (hb:QE X b tb) (hs:starEach [a,b] X.env = [(false,eval a X.env),(false,eval b X.env)]:=by rfl) (hs2:starEach [b] X.env = [(false,eval b X.env)]:=by rfl) :
  QI X tg (.Call (.Name "range" p2) [a,b] [] pos) (sJ ta tb):=sO (ao2 hg hm (cJ ha (cJ hb dF hs2) (by rw [hs,hs2])) hs hs2) fun _ _ _=>aD9
theorem T5 {tg:Expr}{body:List Stmt}{ti:g9}{p:kT}{g:TG}{own:Nat->Prop} (hp:PassesOwn (model X.prog X.w) X.A X.env X.xe) (hc:X.calm=true) (hi:QI X tg e ti) (hg:PG X tg g) (ht:pM X.K own p g) (hb:fA X body t)
  (hs:∀ x,foldedSetIterable e X.env x=pure x:=by intro _; rfl):QS X (.For tg e body [] pos) (dS ti p t):=dW (uS hp hc hi hg hb hs) fun _ _ _=>aE0 ht
end
section
variable {X : Cx} {pins : List (Addr × Obj)} {σ : St} {H : Hp} {s : Shared} {K : PySem.W.Frag} {M M' : Addr → Prop}
theorem mV.inj {a:Addr}{us ws:List V} (h:mV K a us) (h':mV K a ws):us=ws:=by
 obtain ⟨o,its,n,e1,_,e2,_,v⟩:=h
 obtain ⟨o',its',n',e1',_,e2',_,v'⟩:=h'
 rw [e1] at e1'; cases e1'
 rw [e2] at e2'; cases e2'
 exact v.inj v'
theorem Reps.self_of {n:Nat} (ih:∀ {v:V}{x y:PV},aI K M H v x->aI K M' H v y->gI n x y=true->dU n x y=true):∀ {vs:List V}{xs ys:List PV},Reps K M H vs xs->Reps K M' H vs ys->((xs.zip ys).all fun p=>gI n p.1 p.2)=true->(((xs.zip ys).all fun p=>dU n p.1 p.2) && xs.length == ys.length)=true
 | _,_,_,.nil,.nil,_=>rfl
 | _,_,_,.cons r t,.cons r' t',o=>by
  simp only [List.zip_cons_cons,List.all_cons,bm2] at o
  have h1:=ih r r' o.1
  have h2:=Reps.self_of ih t t' o.2
  simp only [List.zip_cons_cons,List.all_cons,h1,Bool.true_and,bk9] at h2 ⊢
  rw [<- h2]
  congr 1
  simp
theorem aI.self:∀ (n:Nat) {v:V}{x y:PV},aI K M H v x->aI K M' H v y->gI n x y=true->dU n x y=true:=by
 intro n
 induction n with
 | zero=>
  intro v x y r r' o
  cases r with
  | non=>cases r'; rfl
  | bl b=>cases r'; exact bs2 b
  | int i=>cases r'; exact bs2 i
  | str z=>cases r'; exact bs2 z
  | _=>cases o
 | succ n ih=>
  intro v x y r r' o
  cases r with
  | non=>cases r'; rfl
  | bl b=>cases r'; exact bs2 b
  | int i=>cases r'; exact bs2 i
  | str z=>cases r'; exact bs2 z
  | tup h rr=>
   cases r' with
   | tup h' rr'=>rw [h] at h'; cases h'; exact Reps.self_of ih rr rr' o
   | _=>cases o
  | lst _ h rr=>
   cases r' with
   | lst _ h' rr'=>rw [h] at h'; cases h'; exact Reps.self_of ih rr rr' o
   | _=>cases o
  | kt h rr=>
   cases r' with
   | kt h' rr'=>cases mV.inj h h'; exact Reps.self_of ih rr rr' o
   | _=>cases o
  | _=>cases o
theorem Reps.self (n:Nat) {vs:List V}{xs ys:List PV} (r:Reps K M H vs xs) (r':Reps K M' H vs ys) (o:((xs.zip ys).all fun p=>gI n p.1 p.2)=true):(((xs.zip ys).all fun p=>dU n p.1 p.2) && xs.length == ys.length)=true:=Reps.self_of (aI.self n) r r' o
theorem jZ (n:Nat) (xs ys:List PV):(List.range (min xs.length ys.length)).all (fun j=>dU n (xs.getD j .non) (ys.getD j .non))=(xs.zip ys).all fun p=>dU n p.1 p.2:=by
 rw [bp8]
 simp only [bq9,bv2]
 constructor
 ·intro h p hp
  obtain ⟨j,hj,e⟩:=List.getElem_of_mem hp
  have hj':j < min xs.length ys.length:=by simpa using hj
  have:=h j hj'
  rw [List.getElem_zip] at e
  subst e
  have h1:j < xs.length:=by omega
  have h2:j < ys.length:=by omega
  simpa [bj0,h1,h2] using this
 ·intro h j hj
  have h1:j < xs.length:=by omega
  have h2:j < ys.length:=by omega
  have hz:j < (xs.zip ys).length:=by simp; omega
  have:=h _ (List.getElem_mem hz)
  rw [List.getElem_zip] at this
  simpa [bj0,h1,h2] using this
theorem aG0 (I:a8 X pins σ H s):∀ (n:Nat) {A:Around}{v w:V}{x y:PV}{a b:Value},A.units+n < cLine->aI X.K M H v x->aI X.K M' H w y->aZ v a->aZ w b->gI n x y=true->SeqAt.EqAt A s a b (dU n x y):=by
 intro n
 induction n with
 | zero=>
  intro A v w x y a b hu rx ry ra rb o
  cases rx with
  | non=>
   cases ra
   cases ry with
   | non=>cases rb; exact SeqAt.EqAt.same _
   | int i=>obtain ⟨t',rfl⟩:=rb; exact SeqAt.EqAt.none_int _ _
   | _=>cases o
  | bl i=>
   cases ra
   cases ry with
   | bl j=>cases rb; exact SeqAt.EqAt.bool_bool _ _
   | _=>cases o
  | int i=>
   obtain ⟨t,rfl⟩:=ra
   cases ry with
   | int j=>obtain ⟨t',rfl⟩:=rb; exact SeqAt.EqAt.int_int _ _ _ _
   | non=>cases rb; exact SeqAt.EqAt.int_none _ _
   | _=>cases o
  | str i=>
   obtain ⟨t,rfl⟩:=ra
   cases ry with
   | str j=>obtain ⟨t',rfl⟩:=rb; exact SeqAt.EqAt.str_str _ _ _ _
   | _=>cases o
  | _=>cases o
 | succ n ih=>
  intro A v w x y a b hu rx ry ra rb o
  have items:∀ {us ws:List V}{xs ys:List PV}{its its2:List Value},Reps X.K M H us xs->Reps X.K M' H ws ys->aO us its->aO ws its2->((xs.zip ys).all fun p=>gI n p.1 p.2)=true->
    ∀ j (h1:j < its.toArray.size) (h2:j < its2.toArray.size),SeqAt.EqAt A.in1 s its.toArray[j] its2.toArray[j] (dU n (xs.getD j .non) (ys.getD j .non)):=fun {us ws xs ys its its2} r1 r2 v1 v2 ok j h1 h2=>by
   have l1:=v1.length
   have l2:=v2.length
   have m1:=r1.length
   have m2:=r2.length
   have k1:j < its.length:=by simpa using h1
   have k2:j < its2.length:=by simpa using h2
   have j1:j < us.length:=by omega
   have j2:j < ws.length:=by omega
   have i1:j < xs.length:=by omega
   have i2:j < ys.length:=by omega
   obtain ⟨u,hu',ru⟩:=v1.get (bi2 j1)
   obtain ⟨u2,hu2',ru2⟩:=v2.get (bi2 j2)
   obtain ⟨x,hx,rx⟩:=r1.get (bi2 j1)
   obtain ⟨y,hy,ry⟩:=r2.get (bi2 j2)
   have e1:its.toArray[j]=u:=by
    rw [bi2 k1] at hu'
    simpa using hu'
   have e2:its2.toArray[j]=u2:=by
    rw [bi2 k2] at hu2'
    simpa using hu2'
   have ok':gI n x y=true:=by
    rw [bq9] at ok
    have hz:j < (xs.zip ys).length:=by simp; omega
    have:=ok _ (List.getElem_mem hz)
    rw [List.getElem_zip] at this
    rw [bi2 i1] at hx
    rw [bi2 i2] at hy
    cases hx; cases hy
    exact this
   rw [e1,e2]
   have g1:xs.getD j .non=x:=by rw [bj0,hx]; rfl
   have g2:ys.getD j .non=y:=by rw [bj0,hy]; rfl
   rw [g1,g2]
   exact ih (by show A.units+1+n < cLine; omega) rx ry ru ru2 ok'
  have huA:A.units < cLine:=by omega
  cases rx with
  | @kt p us xs h1 r1=>
   obtain ⟨its,v1,p1,_⟩:=I.tuple (.inr h1)
   cases (show a=Value.ref p from ra)
   cases ry with
   | @kt p2 ws ys h2 r2=>
    obtain ⟨its2,v2,p2',_⟩:=I.tuple (.inr h2)
    cases (show b=Value.ref p2 from rb)
    by_cases e:p=p2
    ·subst e
     have:=aI.self (K:=X.K) (M:=M) (M':=M') (n+1) (.kt h1 r1) (.kt h2 r2) o
     rw [this]
     exact SeqAt.EqAt.same _
    ·have:=SeqAt.RcAt.tuples p1 p2' huA (items r1 r2 v1 v2 o)
     refine .of_refs e ?_
     have l1:=v1.length
     have l2:=v2.length
     have m1:=r1.length
     have m2:=r2.length
     rw [bh9,bh9,<- l1,<- l2,m1,m2,jZ] at this
     exact this
   | _=>cases o
  | @tup p us xs h1 r1=>
   obtain ⟨its,v1,p1,_⟩:=I.tuple (aJ.of (K:=X.K) h1)
   cases (show a=Value.ref p from ra)
   cases ry with
   | @tup p2 ws ys h2 r2=>
    obtain ⟨its2,v2,p2',_⟩:=I.tuple (aJ.of (K:=X.K) h2)
    cases (show b=Value.ref p2 from rb)
    by_cases e:p=p2
    ·subst e
     have:=aI.self (K:=X.K) (M:=M) (M':=M') (n+1) (.tup h1 r1) (.tup h2 r2) o
     rw [this]
     exact SeqAt.EqAt.same _
    ·have:=SeqAt.RcAt.tuples p1 p2' huA (items r1 r2 v1 v2 o)
     refine .of_refs e ?_
     have l1:=v1.length
     have l2:=v2.length
     have m1:=r1.length
     have m2:=r2.length
     rw [bh9,bh9,<- l1,<- l2,m1,m2,jZ] at this
     exact this
   | non=>cases rb; exact SeqAt.EqAt.tuple_none p1 huA
   | _=>cases o
  | @lst p us xs _ h1 r1=>
   obtain ⟨its,v1,p1,_⟩:=I.list (aM.of (K:=X.K) h1)
   cases (show a=Value.ref p from ra)
   cases ry with
   | @lst p2 ws ys _ h2 r2=>
    obtain ⟨its2,v2,p2',_⟩:=I.list (aM.of (K:=X.K) h2)
    cases (show b=Value.ref p2 from rb)
    have l1:=v1.length
    have l2:=v2.length
    have m1:=r1.length
    have m2:=r2.length
    by_cases e:p=p2
    ·subst e
     rw [h1] at h2; cases h2
     have:=Reps.self n r1 r2 o
     show SeqAt.EqAt A s _ _ ((xs.zip ys).all (fun p=>dU n p.1 p.2) && xs.length == ys.length)
     rw [this]
     exact SeqAt.EqAt.same _
    ·refine .of_refs e ?_
     by_cases hl:xs.length=ys.length
     ·have:=SeqAt.RcAt.lists p1.isList p2'.isList (by rw [bh9,bh9]; omega) huA (items r1 r2 v1 v2 o)
      have hm:min xs.length ys.length=its.length:=by omega
      rw [bh9,<- hm,jZ] at this
      show SeqAt.RcAt A s _ _ ((xs.zip ys).all (fun p=>dU n p.1 p.2) && xs.length == ys.length)
      rw [show (xs.length == ys.length)=true by simpa using hl,Bool.and_true]
      exact this
     ·have:=SeqAt.RcAt.lists_lengths (A:=A) p1.isList p2'.isList (by rw [bh9,bh9]; simp; omega) huA
      show SeqAt.RcAt A s _ _ ((xs.zip ys).all (fun p=>dU n p.1 p.2) && xs.length == ys.length)
      rw [show (xs.length == ys.length)=false by simpa using hl,bu0]
      exact this
   | _=>cases o
  | non=>
   cases ra
   cases ry with
   | non=>cases rb; exact SeqAt.EqAt.same _
   | int i=>obtain ⟨t',rfl⟩:=rb; exact SeqAt.EqAt.none_int _ _
   | @tup p2 ws ys h2 r2=>
    obtain ⟨its2,v2,p2',_⟩:=I.tuple (aJ.of (K:=X.K) h2)
    cases (show b=Value.ref p2 from rb)
    exact SeqAt.EqAt.none_tuple p2' huA
   | _=>cases o
  | bl i=>
   cases ra
   cases ry with
   | bl j=>cases rb; exact SeqAt.EqAt.bool_bool _ _
   | _=>cases o
  | int i=>
   obtain ⟨t,rfl⟩:=ra
   cases ry with
   | int j=>obtain ⟨t',rfl⟩:=rb; exact SeqAt.EqAt.int_int _ _ _ _
   | non=>cases rb; exact SeqAt.EqAt.int_none _ _
   | _=>cases o
  | str i=>
   obtain ⟨t,rfl⟩:=ra
   cases ry with
   | str j=>obtain ⟨t',rfl⟩:=rb; exact SeqAt.EqAt.str_str _ _ _ _
   | _=>cases o
  | _=>cases o
end
structure Bt (mg:Str->Option Value):Prop where
 len:mg "len" = none
 range:mg "range" = none
 tuple:mg "tuple" = none
 list:mg "list" = none
 sorted:mg "sorted" = none
 all:mg "all" = none
 any:mg "any" = none
 zip:mg "zip" = none
 min:mg "min" = none
 max:mg "max" = none
 sum:mg "sum" = none
 isinst:mg "isinstance" = none
 int:mg "int" = none
 bool:mg "bool" = none
 enum:mg "enumerate" = none
section
variable {X : Cx} {a b c e o : Expr} {es dO : List Expr} {ta tb te to tk : aG} {tr : cG} {tA tB' tc : cK} {pos p2 px : Pos} {st : Stmt} {sts : List Stmt} {t u : aK}
theorem dY (B:Bt X.mg) (ha:QA X [e] tr) (hg:Gl X "len":=by rfl) (he:starEach [e] X.env=(false,eval e X.env) :: starEach [] X.env:=by rfl) (hpl:(backTo pos (starEach [] X.env)).any (·.1)=false:=by rfl):QE X (.Call (.Name "len" p2) [e] [] pos) (aB dH tr):=
 j8 (at3.or aw1) aC5 hg B.len PySem.boot_len ha (he:=he) (hpl:=hpl)
theorem k7 (B:Bt X.mg) (ha:QA X [e] tr) (hg:Gl X "tuple":=by rfl) (he:starEach [e] X.env=(false,eval e X.env) :: starEach [] X.env:=by rfl) (hpl:(backTo pos (starEach [] X.env)).any (·.1)=false:=by rfl):QE X (.Call (.Name "tuple" p2) [e] [] pos) (aB j6 tr):=
 T1 at6 aC6 hg B.tuple PyProof.Rows.boot_tuple ha (he:=he) (hpl:=hpl)
theorem aG1 (B:Bt X.mg) (ha:QA X [e] tr) (hg:Gl X "list":=by rfl) (he:starEach [e] X.env=(false,eval e X.env) :: starEach [] X.env:=by rfl) (hpl:(backTo pos (starEach [] X.env)).any (·.1)=false:=by rfl):QE X (.Call (.Name "list" p2) [e] [] pos) (aB wW tr):=
 T1 at5 aC7 hg B.list PyProof.Rows.boot_list ha (he:=he) (hpl:=hpl)
theorem T6 (B:Bt X.mg) (ha:QA X [e] tr) (hg:Gl X "sorted":=by rfl) (he:starEach [e] X.env=(false,eval e X.env) :: starEach [] X.env:=by rfl) (hpl:(backTo pos (starEach [] X.env)).any (·.1)=false:=by rfl):QE X (.Call (.Name "sorted" p2) [e] [] pos) (aB sH tr):=
 j8 ax2 aC8 hg B.sorted PyProof.Rows.boot_sorted ha (he:=he) (hpl:=hpl)
theorem aG2 (B:Bt X.mg) (hc:X.calm=true) (ha:QA X [e] tr) (hg:Gl X "all":=by rfl) (he:starEach [e] X.env=(false,eval e X.env) :: starEach [] X.env:=by rfl) (hpl:(backTo pos (starEach [] X.env)).any (·.1)=false:=by rfl):QE X (.Call (.Name "all" p2) [e] [] pos) (aB wX tr):=
 j8 (wJ hc) aC9 hg B.all PyProof.Rows.boot_all ha (he:=he) (hpl:=hpl)
theorem sY (B:Bt X.mg) (hc:X.calm=true) (ha:QA X [a,b] tr) (hg:Gl X "min":=by rfl) (he:starEach [a,b] X.env=(false,eval a X.env) :: starEach [b] X.env:=by rfl) (hpl:(backTo pos (starEach [b] X.env)).any (·.1)=false:=by rfl):QE X (.Call (.Name "min" p2) [a,b] [] pos) (aB nA tr):=
 j8 (aq4 hc) aD0 hg B.min PyProof.Rows.boot_min ha (he:=he) (hpl:=hpl)
theorem sZ (B:Bt X.mg) (hc:X.calm=true) (ha:QA X [a,b] tr) (hg:Gl X "max":=by rfl) (he:starEach [a,b] X.env=(false,eval a X.env) :: starEach [b] X.env:=by rfl) (hpl:(backTo pos (starEach [b] X.env)).any (·.1)=false:=by rfl):QE X (.Call (.Name "max" p2) [a,b] [] pos) (aB nB tr):=
 j8 (aq3 hc) aD1 hg B.max PyProof.Rows.boot_max ha (he:=he) (hpl:=hpl)
theorem xF (ha:QE X a ta):QE X (.UnaryOp .USub a pos) (sL ta):=cF (ao6 ap3 ha) fun σ H Q' h=>by
 obtain ⟨W,ρ,Q,px,q,k⟩:=h
 refine⟨W,ρ,_,px,q,?_⟩
 rintro v H1 x g s r ⟨i,rfl,q⟩
 cases r
 exact⟨i,rfl,k _ _ _ .fr s (.int _) q⟩
theorem T7 (x:Int):∀ (xs:List Int),oY (.int x) (xs.map V.int)=decide (x ∈ xs)
 | []=>by simp [oY]
 | y :: r=>by
  have ih:=T7 x r
  unfold oY at ih ⊢
  rw [bm0,bv9,ih]
  by_cases e:y=x
  ·subst e; simp [iH]
  ·have:iH (.int y) (.int x)=false:=by simpa [iH] using e
   rw [this,Bool.false_or,bp8]
   simp [Ne.symm e]
theorem T8:∀ (xs:List Int),(xs.map V.int).all jK=true
 | []=>rfl
 | _ :: r=>by rw [bm0,List.all_cons,T8 r]; rfl
theorem T9 (neg:Bool):eM X (nF neg) (vG X.K neg):=by
 rintro W Hs H u v x y g g' Q Q' s n r1 r2 ⟨i,ns,rfl,e,q⟩ k
 cases r1
 obtain ⟨a,us,rfl,hs,r⟩:=r2.seq e
 obtain rfl:=r.ofInts
 refine⟨a,_,rfl,hs,rfl,T8 ns,?_⟩
 have:=k _ _ _ .fr (aC.refl _) (.bl _) q
 rw [T7]
 cases neg <;> exact this
theorem aG3 (ha:QE X a ta) (hb:QE X b tb) (hm:behindInMarks .In b=false:=by rfl):QE X (.Compare a [.In] [b] pos) (q2 (nF false) ta tb):=sQ at0 (T9 false) ha hb hm
theorem U0 (ha:QE X a ta) (hb:QE X b tb) (hm:behindInMarks .NotIn b=false:=by rfl):QT X (.Compare a [.NotIn] [b] pos) (bD (q2 (nF true) ta tb)):=iN at2 (T9 true) ha hb hm
theorem aI.kt_ {K:PySem.W.Frag}{M:Addr->Prop}{H:Hp}{v:V}{xs:List PV} (r:aI K M H v (.kt xs)):∃ a us,v = .ref a/\mV K a us/\Reps K M H us xs:=by
 cases r with
 | kt h r=>exact⟨_,_,rfl,h,r⟩
noncomputable def U1 (K:PySem.W.Frag) (H:Hp) (x:V) (t:Value):Prop:=gF K H x t ∨ ∃ a us,x = .ref a/\aJ K H a us/\t = .type "tuple"
theorem aG4:cX X (.builtin "isinstance") (fun xs H Q=>∃ x t n b,xs = [x,.ty n]/\U1 X.K H x t/\PySem.W.kitOne X.K t (.type n)=some b/\Q (.bl b) H):=by
 intro pins s σ H xs us Q I r h
 obtain ⟨x,t,n,b,rfl,ty,e,q⟩:=h
 rcases ty with ty | ⟨a,ws,rfl,hs,rfl⟩
 ·exact ax8 pins s σ H _ us Q I r ⟨x,t,n,b,rfl,ty,e,q⟩
 obtain ⟨u,u',rfl,ru,ru'⟩:=oP r
 cases ru'
 cases (show u=Value.ref a from ru)
 obtain ⟨its,_,⟨o,h1,h2,_⟩,_⟩:=I.tuple hs
 exact bp0 PySem.W.kitx_tuple I.kIn ⟨o,h1,h2⟩ e (fun z=>nomatch z) fun tk=>⟨.bl b,H,I.tok tk,rfl,q⟩
theorem aG5 {K:PySem.W.Frag}{M:Addr->Prop}{H:Hp}{v:V}{x:PV}{T:String} (r:aI K M H v x) (e:R6 x=some T):U1 K H v (.type T):=by
 cases r with
 | non=>cases e; exact .inl .non
 | bl b=>cases e; exact .inl (.bl b)
 | int i=>cases e; exact .inl (.int i)
 | str i=>cases e; exact .inl (.str i)
 | tup h _=>cases e; exact .inl (.tup h)
 | lst _ h _=>cases e; exact .inl (.lst h)
 | kt h _=>cases e; exact .inr ⟨_,_,rfl,.inr h,rfl⟩
 | _=>cases e
theorem xG {x:Str}{n:String} (B:Bt X.mg) (hn:bootBuiltins x=some (.type n)) (hm:X.mg x=none) (ha:QE X a ta) (hg:Gl X "isinstance":=by rfl) (hgx:Gl X x:=by rfl) (hx:x ≠ "__name__":=by decide) (hdx:(x == ("__debug__" : Str))=false:=by decide)
  (he:starEach [a,.Name x px] X.env=(false,eval a X.env) :: starEach [.Name x px] X.env:=by rfl) (he2:starEach [.Name x px] X.env=(false,eval (.Name x px) X.env) :: starEach [] X.env:=by rfl) (hpl:(backTo pos (starEach [.Name x px] X.env)).any (·.1)=false:=by rfl):QE X (.Call (.Name "isinstance" p2) [a,.Name x px] [] pos) (lV X.K n ta):=
 cF (oS aG4 hg B.isinst PyProof.Rows.boot_isinstance (cJ ha (cJ (A3 (v:=.ty n) hgx hm hn rfl hx hdx) dF he2) he) (he:=he) (hpl:=hpl)) fun σ H Q' h=>by
  obtain ⟨W,ρ,Q,px,q,k⟩:=h
  refine⟨W,ρ,_,px,q,?_⟩
  rintro v H1 x g s r ⟨T,b,e,kt,q⟩
  exact⟨v,_,n,b,rfl,aG5 r e,kt,k _ _ _ .fr s (.bl _) q⟩
theorem aG6 (B:Bt X.mg) (ha:QE X a ta) (hg:Gl X "isinstance":=by rfl) (hgx:Gl X "int":=by rfl)
  (he:starEach [a,.Name "int" px] X.env=(false,eval a X.env) :: starEach [.Name "int" px] X.env:=by rfl) (he2:starEach [.Name "int" px] X.env=(false,eval (.Name "int" px) X.env) :: starEach [] X.env:=by rfl) (hpl:(backTo pos (starEach [.Name "int" px] X.env)).any (·.1)=false:=by rfl):QE X (.Call (.Name "isinstance" p2) [a,.Name "int" px] [] pos) (lV X.K "int" ta):=xG B PyProof.Rows.boot_int B.int ha (hg:=hg) (hgx:=hgx) (he:=he) (he2:=he2) (hpl:=hpl)
theorem aG7 (B:Bt X.mg) (ha:QE X a ta) (hg:Gl X "isinstance":=by rfl) (hgx:Gl X "bool":=by rfl)
  (he:starEach [a,.Name "bool" px] X.env=(false,eval a X.env) :: starEach [.Name "bool" px] X.env:=by rfl) (he2:starEach [.Name "bool" px] X.env=(false,eval (.Name "bool" px) X.env) :: starEach [] X.env:=by rfl) (hpl:(backTo pos (starEach [.Name "bool" px] X.env)).any (·.1)=false:=by rfl):QE X (.Call (.Name "isinstance" p2) [a,.Name "bool" px] [] pos) (lV X.K "bool" ta):=xG B PyProof.Rows.boot_bool B.bool ha (hg:=hg) (hgx:=hgx) (he:=he) (he2:=he2) (hpl:=hpl)
theorem aG8 (B:Bt X.mg) (ha:QE X a ta) (hg:Gl X "isinstance":=by rfl) (hgx:Gl X "tuple":=by rfl)
  (he:starEach [a,.Name "tuple" px] X.env=(false,eval a X.env) :: starEach [.Name "tuple" px] X.env:=by rfl) (he2:starEach [.Name "tuple" px] X.env=(false,eval (.Name "tuple" px) X.env) :: starEach [] X.env:=by rfl) (hpl:(backTo pos (starEach [.Name "tuple" px] X.env)).any (·.1)=false:=by rfl):QE X (.Call (.Name "isinstance" p2) [a,.Name "tuple" px] [] pos) (lV X.K "tuple" ta):=xG B PyProof.Rows.boot_tuple B.tuple ha (hg:=hg) (hgx:=hgx) (he:=he) (he2:=he2) (hpl:=hpl)
noncomputable def xH (K:PySem.W.Frag) (n:Nat) (neg:Bool):R2:=fun v w H Q=>∃ x y,aI K (fun _=>True) H v x/\aI K (fun _=>True) H w y/\((∃ xs ys,x = .tup xs/\y = .tup ys) ∨ (∃ xs ys,x = .lst xs/\y = .lst ys) ∨ (∃ xs ys,x = .kt xs/\y = .kt ys))/\gI (n+1) x y=true/\Q (.bl (if neg=true then !dU (n+1) x y else dU (n+1) x y)) H
theorem nM {pins:List (Addr × Obj)}{σ:St}{H:Hp}{s:Shared}{M M':Addr->Prop} (I:a8 X pins σ H s) {n:Nat}{A:Around} (hu:A.units+(n+1) < cLine) {us ws:List V}{xs ys:List PV}{its its2:List Value} (r1:Reps X.K M H us xs) (r2:Reps X.K M' H ws ys) (v1:aO us its) (v2:aO ws its2)
  (ok:((xs.zip ys).all fun p=>gI n p.1 p.2)=true):∀ j (h1:j < its.toArray.size) (h2:j < its2.toArray.size),SeqAt.EqAt A.in1 s its.toArray[j] its2.toArray[j] (dU n (xs.getD j .non) (ys.getD j .non)):=by
 intro j h1 h2
 have l1:=v1.length
 have l2:=v2.length
 have m1:=r1.length
 have m2:=r2.length
 have k1:j < its.length:=by simpa using h1
 have k2:j < its2.length:=by simpa using h2
 have j1:j < us.length:=by omega
 have j2:j < ws.length:=by omega
 have i1:j < xs.length:=by omega
 have i2:j < ys.length:=by omega
 obtain ⟨u,hu',ru⟩:=v1.get (bi2 j1)
 obtain ⟨u2,hu2',ru2⟩:=v2.get (bi2 j2)
 obtain ⟨x,hx,rx⟩:=r1.get (bi2 j1)
 obtain ⟨y,hy,ry⟩:=r2.get (bi2 j2)
 have e1:its.toArray[j]=u:=by
  rw [bi2 k1] at hu'
  simpa using hu'
 have e2:its2.toArray[j]=u2:=by
  rw [bi2 k2] at hu2'
  simpa using hu2'
 have ok':gI n x y=true:=by
  rw [bq9] at ok
  have hz:j < (xs.zip ys).length:=by simp; omega
  have:=ok _ (List.getElem_mem hz)
  rw [List.getElem_zip] at this
  rw [bi2 i1] at hx
  rw [bi2 i2] at hy
  cases hx; cases hy
  exact this
 rw [e1,e2]
 have g1:xs.getD j .non=x:=by rw [bj0,hx]; rfl
 have g2:ys.getD j .non=y:=by rw [bj0,hy]; rfl
 rw [g1,g2]
 exact aG0 I n (by show A.units+1+n < cLine; omega) rx ry ru ru2 ok'
theorem bh3 (n:Nat) (hu:X.A.units+(n+1) < cLine):c9 X (compareOp .Eq) (xH X.K n false):=by
 intro pins s σ H v w a b Q I ra rb h
 obtain ⟨x,y,rx,ry,kd,o,q⟩:=h
 have hu0:X.A.units < cLine:=by omega
 rcases kd with ⟨xs,ys,rfl,rfl⟩ | ⟨xs,ys,rfl,rfl⟩ | ⟨xs,ys,rfl,rfl⟩
 ·obtain ⟨p,us,rfl,h1,r1⟩:=rx.sqT
  obtain ⟨p2,ws,rfl,h2,r2⟩:=ry.sqT
  cases ra; cases rb
  obtain ⟨its,v1,p1,_⟩:=I.tuple (aJ.of (K:=X.K) h1)
  obtain ⟨its2,v2,p2',_⟩:=I.tuple (aJ.of (K:=X.K) h2)
  have l1:=v1.length
  have l2:=v2.length
  have m1:=r1.length
  have m2:=r2.length
  have:=SeqAt.RcAt.tuples p1 p2' hu0 (nM I hu r1 r2 v1 v2 o)
  rw [bh9,bh9,<- l1,<- l2,m1,m2,jZ] at this
  exact this _ _ _ _ ⟨.bl _,H,I,rfl,q⟩
 ·obtain ⟨p,us,rfl,_,h1,r1⟩:=rx.sqL
  obtain ⟨p2,ws,rfl,_,h2,r2⟩:=ry.sqL
  cases ra; cases rb
  obtain ⟨its,v1,p1,_⟩:=I.list (aM.of (K:=X.K) h1)
  obtain ⟨its2,v2,p2',_⟩:=I.list (aM.of (K:=X.K) h2)
  have l1:=v1.length
  have l2:=v2.length
  have m1:=r1.length
  have m2:=r2.length
  have q:Q (.bl ((xs.zip ys).all (fun p=>dU n p.1 p.2) && xs.length == ys.length)) H:=q
  by_cases hl:xs.length=ys.length
  ·have:=SeqAt.RcAt.lists p1.isList p2'.isList (by rw [bh9,bh9]; omega) hu0 (nM I hu r1 r2 v1 v2 o)
   have hm:min xs.length ys.length=its.length:=by omega
   rw [bh9,<- hm,jZ] at this
   rw [show (xs.length == ys.length)=true by simpa using hl,Bool.and_true] at q
   exact this _ _ _ _ ⟨.bl _,H,I,rfl,q⟩
  ·have:=SeqAt.RcAt.lists_lengths (A:=X.A) p1.isList p2'.isList (by rw [bh9,bh9]; simp; omega) hu0
   rw [show (xs.length == ys.length)=false by simpa using hl,bu0] at q
   exact this _ _ _ _ ⟨.bl _,H,I,rfl,q⟩
 ·obtain ⟨p,us,rfl,h1,r1⟩:=rx.kt_
  obtain ⟨p2,ws,rfl,h2,r2⟩:=ry.kt_
  cases ra; cases rb
  obtain ⟨its,v1,p1,_⟩:=I.tuple (.inr h1)
  obtain ⟨its2,v2,p2',_⟩:=I.tuple (.inr h2)
  have l1:=v1.length
  have l2:=v2.length
  have m1:=r1.length
  have m2:=r2.length
  have:=SeqAt.RcAt.tuples p1 p2' hu0 (nM I hu r1 r2 v1 v2 o)
  rw [bh9,bh9,<- l1,<- l2,m1,m2,jZ] at this
  exact this _ _ _ _ ⟨.bl _,H,I,rfl,q⟩
theorem aG9 (n:Nat) (hu:X.A.units+(n+1) < cLine):c9 X (compareOp .NotEq) (xH X.K n true):=by
 intro pins s σ H v w a b Q I ra rb h
 obtain ⟨x,y,rx,ry,kd,o,q⟩:=h
 have hu0:X.A.units < cLine:=by omega
 rcases kd with ⟨xs,ys,rfl,rfl⟩ | ⟨xs,ys,rfl,rfl⟩ | ⟨xs,ys,rfl,rfl⟩
 ·obtain ⟨p,us,rfl,h1,r1⟩:=rx.sqT
  obtain ⟨p2,ws,rfl,h2,r2⟩:=ry.sqT
  cases ra; cases rb
  obtain ⟨its,v1,p1,_⟩:=I.tuple (aJ.of (K:=X.K) h1)
  obtain ⟨its2,v2,p2',_⟩:=I.tuple (aJ.of (K:=X.K) h2)
  have l1:=v1.length
  have l2:=v2.length
  have m1:=r1.length
  have m2:=r2.length
  have:=SeqAt.RcNeAt.tuples p1 p2' hu0 (nM I hu r1 r2 v1 v2 o)
  rw [bh9,bh9,<- l1,<- l2,m1,m2,jZ] at this
  exact this _ _ _ _ ⟨.bl _,H,I,rfl,q⟩
 ·obtain ⟨p,us,rfl,_,h1,r1⟩:=rx.sqL
  obtain ⟨p2,ws,rfl,_,h2,r2⟩:=ry.sqL
  cases ra; cases rb
  obtain ⟨its,v1,p1,_⟩:=I.list (aM.of (K:=X.K) h1)
  obtain ⟨its2,v2,p2',_⟩:=I.list (aM.of (K:=X.K) h2)
  have l1:=v1.length
  have l2:=v2.length
  have m1:=r1.length
  have m2:=r2.length
  have q:Q (.bl (!((xs.zip ys).all (fun p=>dU n p.1 p.2) && xs.length == ys.length))) H:=q
  by_cases hl:xs.length=ys.length
  ·have:=SeqAt.RcNeAt.lists p1.isList p2'.isList (by rw [bh9,bh9]; omega) hu0 (nM I hu r1 r2 v1 v2 o)
   have hm:min xs.length ys.length=its.length:=by omega
   rw [bh9,<- hm,jZ] at this
   rw [show (xs.length == ys.length)=true by simpa using hl,Bool.and_true] at q
   exact this _ _ _ _ ⟨.bl _,H,I,rfl,q⟩
  ·have:=SeqAt.RcNeAt.lists_lengths (A:=X.A) p1.isList p2'.isList (by rw [bh9,bh9]; simp; omega) hu0
   rw [show (xs.length == ys.length)=false by simpa using hl,bu0] at q
   exact this _ _ _ _ ⟨.bl _,H,I,rfl,q⟩
 ·obtain ⟨p,us,rfl,h1,r1⟩:=rx.kt_
  obtain ⟨p2,ws,rfl,h2,r2⟩:=ry.kt_
  cases ra; cases rb
  obtain ⟨its,v1,p1,_⟩:=I.tuple (.inr h1)
  obtain ⟨its2,v2,p2',_⟩:=I.tuple (.inr h2)
  have l1:=v1.length
  have l2:=v2.length
  have m1:=r1.length
  have m2:=r2.length
  have:=SeqAt.RcNeAt.tuples p1 p2' hu0 (nM I hu r1 r2 v1 v2 o)
  rw [bh9,bh9,<- l1,<- l2,m1,m2,jZ] at this
  exact this _ _ _ _ ⟨.bl _,H,I,rfl,q⟩
theorem aH0 {n:Nat}{neg:Bool}:eM X (sM n neg) (xH X.K n neg):=by
 rintro W Hs H u v x y g g' Q Q' s n r1 r2 ⟨kd,o,q⟩ k
 exact⟨x,y,r1.same (aC.refl _) fun _ _=>trivial,r2.same (aC.refl _) fun _ _=>trivial,kd.elim .inl fun z=>.inr (.inl z),o,k _ _ _ .fr (aC.refl _) (.bl _) q⟩
theorem U2 (hu:X.A.units+3 < cLine) (ha:QE X a ta) (hb:QE X b tb):QT X (.Compare a [.NotEq] [b] pos) (bD (q2 (sM 2 true) ta tb)):=iN (aG9 2 hu) aH0 ha hb (fW _)
end
end PP
namespace PP
open PySem L2 PyProof.Rows
noncomputable def LO (X:Cx) (t:nG):TO:=fun σ H Q'=>∃ (W:Addr->Prop) (ρ:bM) (Q:Option Int->Prop),PX X.K X.H₀ W σ ρ H/\t ρ Q/\∀ o H',aC H H'->Q o->Q' o H'
noncomputable def QO (X:Cx) (e:Option Expr) (t:nG):Prop:=PO X e (LO X t)
theorem Reps.cut {K:PySem.W.Frag}{M:Addr->Prop}{H:Hp}{us:List V}{xs:List PV} (r:Reps K M H us xs) (lo hi:Option Int):Reps K M H (eW us lo hi) (fO xs lo hi):=by
 unfold eW fO
 rw [r.length]
 exact (r.drop _).take _
section
variable {X : Cx} {a b c e o : Expr} {es dO : List Expr} {ta tb te to tk : aG} {tr : cG} {tA tB' tc : cK} {pos p2 px : Pos} {st : Stmt} {sts : List Stmt} {t u : aK}
theorem t4:QO X none pP:=fun pins s σ H Q I h=>vA pins s σ H Q I (by
 obtain ⟨W,ρ,Q1,px,q,k⟩:=h
 exact k _ _ (aC.refl _) q)
theorem nN (h:QE X e te):QO X (some e) (lW te):=fun pins s σ H Q I hq=>vB h pins s σ H Q I (by
 obtain ⟨W,ρ,Q1,px,q,k⟩:=hq
 refine⟨W,ρ,_,px,q,?_⟩
 rintro v H1 x g s r ⟨i,rfl,q⟩
 cases r
 exact⟨i,rfl,k _ _ s q⟩)
theorem pX {lo hi:Option Expr}{tl th:nG}{sp:Pos} (he:QE X e te) (hl:QO X lo tl) (hh:QO X hi th):QE X (.Subscript e (.Slice lo hi none sp) pos) (nH te tl th):=cF (vC (G5.or O4) he hl hh) fun σ H Q' h=>by
 obtain ⟨W,ρ,Q,px,q,k⟩:=h
 refine⟨W,ρ,_,px,q,fun v H1 x g s1 r1 q1=>⟨W,ρ,_,px.mono s1,q1,fun lo H2 s2 q2=>⟨W,ρ,_,px.mono (s1.trans s2),q2,?_⟩⟩⟩
 rintro hi H3 s3 ⟨xs,e,f,q3⟩
 have S:=(s1.trans s2).trans s3
 have r3:=r1.same (M':=Mg X.H₀ W H g) (s2.trans s3) fun _ z=>z
 cases r3 with
 | tup h r=>
  cases e
  refine .inr ⟨_,_,rfl,aJ.of h,fun p hp=>k _ _ _ .fr (S.trans (bH hp _)) (.tup bI (((r.flat f).cut lo hi).same (bH hp _) fun _ z=>z)) q3,fun ec=>k _ _ _ .fr S (.tup h ?_) q3⟩
  have:=(r.flat (M':=Mg X.H₀ W H .fr) f).cut lo hi
  rw [ec] at this
  exact this
 | lst m h r=>
  cases e
  exact .inl ⟨_,_,rfl,aM.of h,fun p hp=>k _ _ _ .fr (S.trans (bH hp _)) (.lst (S.free hp) bI (((r.flat f).cut lo hi).same (bH hp _) fun _ z=>z)) q3⟩
 | scr h=>
  cases e
  exact .inl ⟨_,_,rfl,h.sqL,fun p hp=>k _ _ _ .fr (S.trans (bH hp _)) (.lst (S.free hp) bI (((Reps.intz _).cut lo hi).same (bH hp _) fun _ z=>z)) q3⟩
 | _=>cases e
structure Df (P:Program) (w:World) (K:PySem.W.Frag) (mg:Str->Option Value) (base:Heap) (k:Nat) (x:Str) (ps:List Str) (p:bK):Prop where
 ex:∃ f fd,cY P w K mg base e9 k f fd ps (pK K p)/\iG K fd ps []/\PySem.W.keepIn K (.ref f)=true/\mg x=some (.ref f)
theorem bB {k j:Nat}{x:Str}{ps:List Str}{p:bK} (d:Df X.prog X.w X.K X.mg X.base k x ps p) (hr:cC j X.A) (ha:QA X (e :: es) tr) (hkj:k<=j:=by decide) (hg:Gl X x:=by rfl) (hdb:(x == ("__debug__" : Str))=false:=by decide)
  (he:starEach (e :: es) X.env=(false,eval e X.env) :: starEach es X.env:=by rfl) (hpl:(backTo pos (starEach es X.env)).any (·.1)=false:=by rfl):QE X (.Call (.Name x p2) (e :: es) [] pos) (aB p tr):=by
 obtain ⟨f,fd,F,b,kp,m⟩:=d.ex
 exact cF (v8 F (hr.mono hkj) hg m kp b .nil av9 ha hdb he hpl) fun _ _ _=>aD2
theorem xI {K:PySem.W.Frag}{H:Hp}{N:List Str}{vs:List V}{xs:List PV} (r:Reps K (fun _=>True) H vs xs):PX K H (fun _=>False) (L2.start N vs) (gJ N xs) H:=by
 have lr:=r.length
 have own:∀ {i:Nat}{m:Slot},(gJ N xs)[i]? = some (some m)->∃ x,xs[i]? = some x/\m = .sh (flat x) x:=fun {i m} h=>by
  unfold gJ at h
  by_cases hi:i < xs.length
  ·rw [bl8 (by simpa using hi),bj2] at h
   rw [bi2 hi] at h ⊢
   cases h
   exact⟨_,rfl,rfl⟩
  ·rw [bt8 (by simpa using hi),List.getElem?_replicate] at h
   split at h <;> cases h
 refine⟨by unfold L2.start gJ; simp [lr],aC.refl _,fun a z=>z.elim,fun i m h=>?_,fun i j x y a h1=>?_⟩
 ·obtain ⟨x,hx,rfl⟩:=own h
  obtain ⟨v,hv,rx⟩:=r.at hx
  refine⟨v,?_,sK (g:=false) (rx.same (aC.refl _) fun _ _ z=>z)⟩
  have hi:i < vs.length:=(bi5.mp hv).1
  unfold L2.start
  rw [bl8 (by simpa using hi),bj2,hv]; rfl
 ·obtain ⟨x,_,e⟩:=own h1
  cases e
theorem Df.of {P:Program}{w:World}{K:PySem.W.Frag}{mg:Str->Option Value}{base:Heap}{k:Nat}{x:Str}{ps N:List Str}{p:bK}{st:Stmt}{f:Addr}{fd:FuncData} (F:fI K x x st f fd) (m:mg x=some (.ref f)) (S:FnScope N ps (aY st))
  (hb:∀ (kV doc pm:Value) (an:Option Addr) (cdv ct:Value) (us:List Value),us.length=ps.length->bindArgs (PySem.W.fnOf x x (jL st) (fH st) (aY st) .none kV doc pm an cdv ct) ⟨us,[]⟩=pure (ps.zip us))
  (len:∀ xs Q,p xs Q->xs.length=ps.length)
  (body:∀ (cdv:Value) (A:Around) (outer:List Env) (s:Shared) (H:Hp) (E:XK),cC k (A.deeper (envOfC x (aY st) s.heap.objs.size f cdv))->
   ∃ t,fA (dP e9 P w K mg base N x (aY st) f cdv A outer s H E).nox (fH st) t/\∀ xs Q,p xs Q->t { nx:=fun _=>Q .non,rt:=Q } (gJ N xs)):Df P w K mg base (k+1) x ps p:=by
 refine⟨f,fd,F.ok S (fun vs H Q E h=>?_) (fun cdv A outer s H vs Q E hr h=>?_),F.binds hb,F.kp,m⟩
 ·obtain ⟨xs,Qp,r,q,_⟩:=h
  rw [r.length]; exact len xs Qp q
 ·obtain ⟨xs,Qp,r,q,k⟩:=h
  obtain ⟨t,ht,hq⟩:=body cdv A outer s H E hr
  refine⟨_,ht,fun _=>False,gJ N xs,_,xI r,hq xs Qp q,?_,?_,?_,?_⟩
  ·exact fun W' σ' H' ρ' e px q=>k _ _ _ px.same .non q
  ·exact fun v H' x s r q=>k _ _ _ s r q
  ·exact fun W' σ' H' ρ' e px q=>q
  ·exact fun W' σ' H' ρ' e px q=>q
theorem gK (i:Nat) {x:Str}{tp:Pos}{body:List Stmt}{ti:g9} (hN:X.N.Nodup) (hi:QI X (.Name x tp) e ti) (hb:fA X body t) (hx:X.N[i]? = some x:=by rfl) (hl:iE X.env.scope x:=by first | exact Or.inl rfl | exact Or.inr rfl) (hf:X.fn x=true ∨ X.env.scope.names.lookup x=some .local:=by first | exact .inl rfl | exact .inr rfl)
  (hp:PassesOwn (model X.prog X.w) X.A X.env X.xe:=by exact bw8) (hc:X.calm=true:=by rfl) (hs:∀ x,foldedSetIterable e X.env x=pure x:=by intro _; rfl):QS X (.For (.Name x tp) e body [] pos) (dS ti (bX i) t):=
 T5 hp hc hi (fG hN hx hl hf) (pN _ i) hb hs
theorem xJ (i j:Nat) {x y:Str}{tp xp yp:Pos}{kt:Nat}{body:List Stmt}{ti:g9} (hN:X.N.Nodup) (hi:QI X (.Tuple [.Name x xp,.Name y yp] kt tp) e ti) (hb:fA X body t) (hx:X.N[i]? = some x:=by rfl) (hy:X.N[j]? = some y:=by rfl) (hlx:iE X.env.scope x:=by first | exact Or.inl rfl | exact Or.inr rfl) (hly:iE X.env.scope y:=by first | exact Or.inl rfl | exact Or.inr rfl)
  (hfx:X.fn x=true ∨ X.env.scope.names.lookup x=some .local:=by first | exact .inl rfl | exact .inr rfl) (hfy:X.fn y=true ∨ X.env.scope.names.lookup y=some .local:=by first | exact .inl rfl | exact .inr rfl)
  (hp:PassesOwn (model X.prog X.w) X.A X.env X.xe:=by exact bw8) (hc:X.calm=true:=by rfl) (hs:∀ x,foldedSetIterable e X.env x=pure x:=by intro _; rfl):QS X (.For (.Tuple [.Name x xp,.Name y yp] kt tp) e body [] pos) (dS ti (gU i j) t):=
 T5 hp hc hi (mK hc (hJ (fG hN hx hlx hfx) (hJ (fG hN hy hly hfy) mJ))) (x5 _ i j) hb hs
noncomputable abbrev cT:Value->Shared->Prop:=fun _ _=>False
section
variable {scope : Scope} {N : List Str} {fr : List (Option Nat)} {x y : Str} {tp xp yp : Pos} {kt : Nat} {iter elt : Expr} {ti : g9}
theorem t5 {ifs:List Expr}{tcs:cK} (he:∀ (s:Shared) (H:Hp) (C:Addr) (fp:List Addr),QE (bP X scope N s H C fp cT) elt te) (hi:∀ (s:Shared) (H:Hp) (C:Addr) (fp:List Addr),kO (bP X scope N s H C fp cT) ifs (LT (bP X scope N s H C fp cT) tcs))
  (hN:N.Nodup) (h0:N[0]? = some x) (hl:∀ (s:Shared) (H:Hp) (C:Addr) (fp:List Addr),(bP X scope N s H C fp cT).env.scope.names.lookup x=some .local) (s:Shared) (H:Hp) :
  mT X scope N (.Name x tp) ifs elt s H (cO 0) (LT (X.frm H) tcs) (LE (X.frm H) te):=
 ⟨fun C fp=>fG (X:=bP X scope N s H C fp cT) hN h0 (.inl (hl s H C fp)) (.inr (hl s H C fp)),fun C fp=>hi s H C fp,fun C fp=>he s H C fp⟩
theorem pY {Y:Cx}:kO Y [] (LT Y dA):=fun pins s σ H Q I h=>p9 pins s σ H Q I (aE2 h)
theorem nO (hi:QI X (.Name x tp) iter ti) (he:∀ (s:Shared) (H:Hp) (C:Addr) (fp:List Addr),QE (bP X scope N s H C fp cT) elt te)
  (hc:X.calm=true:=by rfl) (S:cP X scope N fr:=by exact cP.of rfl rfl) (hN:N.Nodup:=by decide +kernel) (h0:N[0]? = some x:=by rfl) (hl:∀ (s:Shared) (H:Hp) (C:Addr) (fp:List Addr),(bP X scope N s H C fp cT).env.scope.names.lookup x=some .local:=by intro _ _ _ _; rfl) (hf:fr[0]? = some none:=by rfl)
  (hs:∀ x,foldedSetIterable iter X.env x=pure x:=by intro _; rfl):QE X (.ListComp elt [⟨.Name x tp,iter,[],0⟩] scope pos) (cZ ti fr (bX 0) dA te):=
 cF (vX (gh:=fun _=>cO 0) (tch:=fun H=>LT (X.frm H) dA) (teh:=fun H=>LE (X.frm H) te) hc S hi (t5 he (fun _ _ _ _=>pY) hN h0 hl) hs) fun _ _ _=>nE (pN _ 0) (fun i e=>by subst e; exact hf)
theorem pZ {c:Expr}{tcs:cK} (hi:QI X (.Name x tp) iter ti) (ht:∀ (s:Shared) (H:Hp) (C:Addr) (fp:List Addr),QT (bP X scope N s H C fp cT) c tcs) (he:∀ (s:Shared) (H:Hp) (C:Addr) (fp:List Addr),QE (bP X scope N s H C fp cT) elt te)
  (hc:X.calm=true:=by rfl) (S:cP X scope N fr:=by exact cP.of rfl rfl) (hN:N.Nodup:=by decide +kernel) (h0:N[0]? = some x:=by rfl) (hl:∀ (s:Shared) (H:Hp) (C:Addr) (fp:List Addr),(bP X scope N s H C fp cT).env.scope.names.lookup x=some .local:=by intro _ _ _ _; rfl) (hf:fr[0]? = some none:=by rfl)
  (hs:∀ x,foldedSetIterable iter X.env x=pure x:=by intro _; rfl):QE X (.ListComp elt [⟨.Name x tp,iter,[c],0⟩] scope pos) (cZ ti fr (bX 0) tcs te):=
 cF (vX (gh:=fun _=>cO 0) (tch:=fun H=>LT (X.frm H) tcs) (teh:=fun H=>LE (X.frm H) te) hc S hi (t5 he (fun s H C fp=>aw4 (ht s H C fp)) hN h0 hl) hs) fun _ _ _=>nE (pN _ 0) (fun i e=>by subst e; exact hf)
theorem aH1 {i:Nat}{z:Str}{zp:Pos} (nd:X.N.Nodup) (hi:QI X (.Name x tp) iter ti) (he:∀ (s:Shared) (H:Hp) (C:Addr) (fp:List Addr),QE (bP X scope N s H C fp cT) elt te)
  (hz:X.N[i]? = some z:=by rfl) (hzl:X.env.scope.names.lookup z=some .local:=by rfl) (hsw:swapsWith (.ListComp elt [⟨.Name x tp,iter,[],0⟩] scope p2) (some (.Name z zp)) pos.line X.env=pure true:=by rfl)
  (hc:X.calm=true:=by rfl) (S:cP X scope N fr:=by exact cP.of rfl rfl) (hN:N.Nodup:=by decide +kernel) (h0:N[0]? = some x:=by rfl) (hl:∀ (s:Shared) (H:Hp) (C:Addr) (fp:List Addr),(bP X scope N s H C fp cT).env.scope.names.lookup x=some .local:=by intro _ _ _ _; rfl) (hf:fr[0]? = some none:=by rfl)
  (hs:∀ x,foldedSetIterable iter X.env x=pure x:=by intro _; rfl):QS X (.Assign [.Name z zp] (.ListComp elt [⟨.Name x tp,iter,[],0⟩] scope p2) pos) (b4 i (cZ ti fr (bX 0) dA te)):=
 dW (vY (gh:=fun _=>cO 0) (tch:=fun H=>LT (X.frm H) dA) (teh:=fun H=>LE (X.frm H) te) hc S hi (t5 he (fun _ _ _ _=>pY) hN h0 hl) nd hz hzl hsw hs) fun D σ H h=>nE (pN _ 0) (fun i e=>by subst e; exact hf) (wR h)
theorem aH2 {i:Nat}{z:Str}{zp:Pos} (nd:X.N.Nodup) (hi:QI X (.Name x tp) iter ti) (he:∀ (s:Shared) (H:Hp) (C:Addr) (fp:List Addr),QE (bP X scope N s H C fp cT) elt te)
  (hz:X.N[i]? = some z:=by rfl) (hzl:X.env.scope.names.lookup z=some .local:=by rfl) (hsw:swapsWith (.ListComp elt [⟨.Name x tp,iter,[],0⟩] scope p2) (some (.Name z zp)) pos.line X.env=pure true:=by rfl)
  (hc:X.calm=true:=by rfl) (S:cP X scope N fr:=by exact cP.of rfl rfl) (hN:N.Nodup:=by decide +kernel) (h0:N[0]? = some x:=by rfl) (hl:∀ (s:Shared) (H:Hp) (C:Addr) (fp:List Addr),(bP X scope N s H C fp cT).env.scope.names.lookup x=some .local:=by intro _ _ _ _; rfl) (hf:fr[0]? = some none:=by rfl)
  (hs:∀ x,foldedSetIterable iter X.env x=pure x:=by intro _; rfl):QS X (.Assign [.Name z zp] (.ListComp elt [⟨.Name x tp,iter,[],0⟩] scope p2) pos) (dR i (cZ ti fr (bX 0) dA te)):=
 dW (vY (gh:=fun _=>cO 0) (tch:=fun H=>LT (X.frm H) dA) (teh:=fun H=>LE (X.frm H) te) hc S hi (t5 he (fun _ _ _ _=>pY) hN h0 hl) nd hz hzl hsw hs) fun D σ H h=>nE (pN _ 0) (fun i e=>by subst e; exact hf) (P8 h)
end
theorem aH3:mR X "list.extend" (P9 X.K):=fun pins s σ H x xs v us Q I rx rs h=>h.elim (at9 pins s σ H x xs v us Q I rx rs) (az8 pins s σ H x xs v us Q I rx rs)
theorem aH4 (i:Nat) {x:Str}{apos cpos xpos:Pos} (he:QE X e te) (hN:X.N[i]? = some x:=by rfl) (hv:gN X.env.scope x:=by first | exact Or.inl rfl | exact Or.inr (Or.inl rfl) | exact Or.inr (Or.inr rfl)) (hd:(x == ("__debug__" : Str))=false:=by decide) (hcd:(x == ("__classdict__" : Str))=false:=by decide)
  (hbase:attributeBase (.Name x xpos) "extend" X.env (eval (.Name x xpos) X.env)=eval (.Name x xpos) X.env:=by rfl)
  (hfew:((backTo cpos (starEach [e] X.env)).all (fun x=>!x.1) && (backToKw cpos (keywordEach [] X.env)).all (fun x=>x.1.isSome) && decide (([e]:List Expr).length+([]:List Keyword).length+(if ([]:List Keyword).isEmpty then 0 else 1) < 30))=true:=by rfl)
  (hline:(apos.endLine == cpos.line)=true:=by rfl) (hs:starEach [e] X.env=(false,eval e X.env) :: starEach [] X.env:=by rfl) (hplain:(backTo cpos (starEach [] X.env)).any (·.1)=false:=by rfl)
  (hsw:swapsWith (.Call (.Attribute (.Name x xpos) "extend" apos) [e] [] cpos) none pos.line X.env=pure false:=by rfl) :
  QS X (.Expr (.Call (.Attribute (.Name x xpos) "extend" apos) [e] [] cpos) pos) (wS i te):=
 dW (kK (kN bo7 PySem.F.slot_list_extend PySem.F.type_list_extend aH3 (iF hN hv hd hcd) (cJ he dF hs) hbase hfew hline hs hplain) hsw) fun _ _ _=>aC1
theorem nP {i:Nat}{x:Str}{xpos tpos:Pos} (hk:QE X a tk) (he:QE X e te) (hN:X.N[i]? = some x:=by rfl) (hv:gN X.env.scope x:=by first | exact Or.inl rfl | exact Or.inr (Or.inl rfl) | exact Or.inr (Or.inr rfl)) (hd:(x == ("__debug__" : Str))=false:=by decide) (hcd:(x == ("__classdict__" : Str))=false:=by decide)
  (hp:∀ (tx:TE) (tg:TE),PE X (.Name x xpos) tx->PE X a tg->PG X (.Subscript (.Name x xpos) a tpos) (oK tx tg oV):=by intro _ _ h1 h2; exact B3 h1 h2 G4)
  (hs:swapsWithSole [.Subscript (.Name x xpos) a tpos] e pos.line X.env=pure false:=by rfl) (hw:swappedStores [.Subscript (.Name x xpos) a tpos] e X.env=pure none:=by rfl) :
  QS X (.Assign [.Subscript (.Name x xpos) a tpos] e pos) (kS i tk te):=dW (B4 he (hp _ _ (iF hN hv hd hcd) hk) hs hw) fun _ _ _=>aC2
end
end PP
namespace SO
open PySem PyProof.Rows
variable {rk : Keyed → Int}
section
variable {κ : SortKind} {a0 : Array Keyed} {pd : Array (Nat × Nat × Nat)} {st : SortSt} {prog : Program} {w : World} {A : Around} {E : Value → Shared → Prop} {s : Shared} {Ok : Keyed → Prop}
noncomputable abbrev DS:=Option (Option Nat) × Nat × Nat
end
noncomputable abbrev LS:=Option (Array Keyed) × Array Keyed × Nat × Nat × Nat × Nat × Nat
noncomputable abbrev LO:=Option (Array Keyed) × Array Keyed × Nat × Nat × Nat
variable {rk : Keyed → Int} {xs ys o : List Keyed} {i j : Nat}
variable {rk : Keyed → Int} {xs ys o : List Keyed} {i j : Nat}
variable {rk : Keyed → Int}
noncomputable def Ch:Nat->List (Nat × Nat)->Nat->Prop
 | a,[],b=>a=b
 | a,(p,n) :: r,b=>p=a/\0 < n/\Ch (a+n) r b
variable {rk : Keyed → Int} {κ : SortKind} {a0 : Array Keyed} {pd : Array (Nat × Nat × Nat)} {st : SortSt} {prog : Program} {w : World} {A : Around} {E : Value → Shared → Prop} {s : Shared} {Ok : Keyed → Prop}
end SO
namespace L2
open PySem PySem.Spec PyProof.Rows
theorem bW.at {P:Program}{w:World}{H:Hp}{h:Heap}{a:Addr}{o:HO} (x:bW P w H h a o):∃ ob,h.get? a=some ob:=by
 cases o with
 | lst xs=>obtain ⟨_,_,_,_,e⟩:=x; exact⟨_,e⟩
 | tup xs=>obtain ⟨_,_,_,⟨_,e,_⟩,_⟩:=x; exact⟨_,e⟩
 | dK kvs=>obtain ⟨_,_,_,_,_,_,_,e,_⟩:=x; exact⟨_,e⟩
 | dT kvs=>obtain ⟨_,_,_,_,_,_,_,e,_⟩:=x; exact⟨_,e⟩
 | set S n=>obtain ⟨_,_,_,_,e,_⟩:=x; exact⟨_,e⟩
 | ins C dx fs=>obtain ⟨_,_,_,e,_⟩:=x; exact⟨_,e⟩
 | own y=>exact x
 | xd fs=>obtain ⟨_,⟨_,_,_,e,_⟩,_⟩:=x; exact⟨_,e⟩
 | rng lo hi=>obtain ⟨_,_,_,e⟩:=x; exact⟨_,e⟩
 | frz ob u=>obtain ⟨e,_⟩:=x; exact⟨_,e⟩
 | tbl ps=>exact⟨_,x⟩
 | met f y=>exact⟨_,x⟩
 | ext φ=>exact x.2.1
structure lZ (P:Program) (w:World) (outer:List Env) (H:Hp) (s:Shared) (H':Hp) (B:Heap) (a C:Addr) (s':Shared):Prop where
 os:s'.os=s.os
 bare:AllBare s'.gens
 un:Un (bQ outer) [] H H' s.heap s'.heap
 hok:bZ P w H' s'.heap
 fly:∃ a0,Heap.FlyingW B outer a (.ref C) a0 s'.heap
 b0:∀ b o,s.heap.get? b=some o->b ∉ bQ outer->∃ o',B.get? b=some o'
 b1:∀ b o,s.heap.get? b=some o->H b=none->b ∉ bQ outer->B.get? b=some o
 b2:∀ b u o,H' b=some u->s'.heap.get? b=some o->B.get? b=some o
noncomputable def eU (P:Program) (w:World):i4:=fun outer H s E e s'=>∃ (H':Hp) (B:Heap) (a C:Addr),e = .ref a/\lZ P w outer H s H' B a C s'/\E (.ref C) none H'
section
variable {P : Program} {w : World} {outer : List Env} {H H' : Hp} {s s' : Shared} {B h2 : Heap} {a C : Addr}
theorem lZ.fresh (f:lZ P w outer H s H' B a C s'):H' a=none:=by
 cases q:H' a with
 | none=>rfl
 | some u=>
  obtain ⟨ob,e⟩:=(f.hok a u q).at
  have z:=f.b2 a u ob q e
  obtain ⟨_,_,n,_⟩:=f.fly
  rw [n] at z; cases z
theorem lZ.hok2 (f:lZ P w outer H s H' B a C s') (k:B.StaysIn h2):bZ P w H' h2:=fun b u e=>
 (f.hok b u e).stay (fun c v hc q=>by
  rcases hc with z | z
  ·subst z; exact k _ _ (f.b2 _ _ _ e q)
  ·exact k _ _ (f.b2 _ _ _ z q)) (fun _ q=>q) fun _ _ q=>q
end
section
variable {P : Program} {w : World} {K : PySem.W.Frag} {mg : Str → Option Value} {base : Heap} {N : List Str} {qual : Str} {scope : Scope} {f : Addr} {cd : Value} {A : Around} {outer : List Env} {s₀ : Shared} {H₀ : Hp} {E₀ E₁ : XK}
theorem t6 {pins:List (Addr × Obj)}{σ:St}{H:Hp}{s:Shared} (I:a8 (dP (eU P w) P w K mg base N qual scope f cd A outer s₀ H₀ E₀) pins σ H s) {b:Addr}{o:Obj} (e:s₀.heap.get? b=some o) (n:b ∉ bQ outer) :
  b ∉ bQ (envOfC qual scope s₀.heap.objs.size f cd :: outer):=fun z=>by
 rcases bj1.mp (I.stkSub b z) with y | y
 ·have l:=bk1 e
  have y:b=s₀.heap.objs.size:=y
  exact absurd l (by rw [y]; exact bn2 _)
 ·exact n y
theorem aH5 (hE:∀ c d H',E₁ c d H'->E₀ c d H'):oR (eU P w) (dP (eU P w) P w K mg base N qual scope f cd A outer s₀ H₀ E₀) E₁:=by
 intro pins σ H s e s' I hx
 obtain ⟨H',B,a,C,e1,fl,q⟩:=hx
 subst e1
 have I':=I.call' fl.os fl.un fl.hok fl.bare (ch:=[]) (fun b z=>absurd z (by simp))
 obtain ⟨a0,fly⟩:=fl.fly
 refine wpAny_leaves_onW I.ok.frames rfl fly fun h' fly' up=>?_
 have slot:∀ b o,s₀.heap.get? b=some o->b ∈ bQ outer->∃ sl,h'.get? b=some { o with slots:=sl }:=fun b o e hb=>by
  obtain ⟨sl,e1⟩:=I'.base.slot b o e (I.ok.frf b hb) hb (fun z=>nomatch z)
  obtain ⟨_,o2,e2,nf⟩:=I.ok.funs.mem hb
  rw [show (dP (eU P w) P w K mg base N qual scope f cd A outer s₀ H₀ E₀).s₀=s₀ from rfl,e] at e2
  cases e2
  obtain ⟨sl',e3⟩:=up b _ e1 nf
  exact⟨sl',e3⟩
 have old:∀ b o,s₀.heap.get? b=some o->H₀ b=none->b ∉ bQ outer->B.get? b=some o:=fun b o e n hb=>
  fl.b1 b o (I.base.keep b o e n hb (fun z=>nomatch z)) (I.base.free b o e n (fun z=>nomatch z)) (t6 I e hb)
 have old0:∀ b o,s₀.heap.get? b=some o->b ∉ bQ outer->∃ o',B.get? b=some o':=fun b o e hb=>by
  obtain ⟨o1,e1⟩:=I.base.there b o e (fun z=>nomatch z)
  exact fl.b0 b o1 e1 (t6 I e hb)
 refine⟨H',B,a,C,rfl,⟨I'.os,I'.bare,⟨fun b o e n hb _=>fly'.1 _ _ (old b o e n hb),fun b o e n hb _=>slot b o e hb,fun b o e n hx=>I'.base.free b o e n hx,fun b o e _=>?_,I'.base.tups,I'.base.frzs,I'.base.tbls⟩,fl.hok2 fly'.1,⟨a0,fly'⟩,old0,old,fun b u o e h=>?_⟩,hE _ _ _ q⟩
 ·by_cases hb:b ∈ bQ outer
  ·obtain ⟨sl,e1⟩:=slot b o e hb
   exact⟨_,e1⟩
  ·obtain ⟨o',e1⟩:=old0 b o e hb
   exact⟨o',fly'.1 _ _ e1⟩
 ·obtain ⟨ob,e1⟩:=(fl.hok b u e).at
  have e2:=fl.b2 b u ob e e1
  have e3:=fly'.1 _ _ e2
  have h:h'.get? b=some o:=h
  rw [h] at e3; cases e3; exact e2
theorem aH6 {pins:List (Addr × Obj)}{σ:St}{H:Hp}{s:Shared}{h':Heap}{e C:Addr}{args:List Value} (I:a8 (dP (eU P w) P w K mg base N qual scope f cd A outer s₀ H₀ E₀) pins σ H s) (mx:Heap.MadeExcOf s.heap h' e (.ref C) args) (q:E₀ (.ref C) none H) :
  (dP (eU P w) P w K mg base N qual scope f cd A outer s₀ H₀ E₀).xe (.ref e) { s with heap:=h' }:=by
 have tr:∀ b u,H b=some u->b ∉ bQ (envOfC qual scope s₀.heap.objs.size f cd :: outer):=fun b u z n=>by
  rw [I.stkFree b n] at z; cases z
 have inB:∀ b o,s.heap.get? b=some o->b ∉ bQ (envOfC qual scope s₀.heap.objs.size f cd :: outer)->(PySem.W.hideAll s.heap (bQ (envOfC qual scope s₀.heap.objs.size f cd :: outer))).get? b=some o:=fun b o z n=>PySem.W.hideAll_get _ z n
 refine wpAny_leaves_madeW (base:=PySem.W.hideAll s.heap (bQ (envOfC qual scope s₀.heap.objs.size f cd :: outer))) I.ok.frames rfl (fun b o z=>PySem.W.of_hideAll _ z) (PySem.W.funFrames_hide I.stack fun env he b hb=>bw1.mpr ⟨env,he,hb⟩) mx fun h'' t fly _ _ up=>?_
 have slot:∀ b o,s₀.heap.get? b=some o->b ∈ bQ outer->∃ sl,h''.get? b=some { o with slots:=sl }:=fun b o e hb=>by
  obtain ⟨sl,e1⟩:=I.base.slot b o e (I.ok.frf b hb) hb (fun z=>nomatch z)
  obtain ⟨_,o2,e2,nf⟩:=I.ok.funs.mem hb
  rw [show (dP (eU P w) P w K mg base N qual scope f cd A outer s₀ H₀ E₀).s₀=s₀ from rfl,e] at e2
  cases e2
  obtain ⟨sl',e3⟩:=up b _ (mx.keeps _ _ e1) nf
  exact⟨sl',e3⟩
 have old:∀ b o,s₀.heap.get? b=some o->H₀ b=none->b ∉ bQ outer->(PySem.W.hideAll s.heap (bQ (envOfC qual scope s₀.heap.objs.size f cd :: outer))).get? b=some o:=fun b o e n hb=>
  inB b o (I.base.keep b o e n hb (fun z=>nomatch z)) (t6 I e hb)
 have old0:∀ b o,s₀.heap.get? b=some o->b ∉ bQ outer->∃ o',(PySem.W.hideAll s.heap (bQ (envOfC qual scope s₀.heap.objs.size f cd :: outer))).get? b=some o':=fun b o e hb=>by
  obtain ⟨o1,e1⟩:=I.base.there b o e (fun z=>nomatch z)
  exact⟨o1,inB b o1 e1 (t6 I e hb)⟩
 refine⟨H,_,e,C,rfl,⟨I.os,I.bare,⟨fun b o e n hb _=>fly.1 _ _ (old b o e n hb),fun b o e n hb _=>slot b o e hb,fun b o e n hx=>I.base.free b o e n hx,fun b o e _=>?_,I.base.tups,I.base.frzs,I.base.tbls⟩,fun b u z=>?_,⟨_,fly⟩,old0,old,fun b u o z h=>?_⟩,q⟩
 ·by_cases hb:b ∈ bQ outer
  ·obtain ⟨sl,e1⟩:=slot b o e hb
   exact⟨_,e1⟩
  ·obtain ⟨o',e1⟩:=old0 b o e hb
   exact⟨o',fly.1 _ _ e1⟩
 ·refine (I.hok b u z).stay (fun c v hc y=>?_) (fun _ y=>y) fun _ _ y=>y
  rcases hc with z' | z'
  ·subst z'; exact fly.1 _ _ (inB _ _ y (tr _ _ z))
  ·exact fly.1 _ _ (inB _ _ y (tr _ _ z'))
 ·obtain ⟨ob,e1⟩:=(I.hok b u z).at
  have e2:=inB b ob e1 (tr b u z)
  have e3:=fly.1 _ _ e2
  have h:h''.get? b=some o:=h
  rw [h] at e3; cases e3; exact e2
end
structure nQ (X:Cx) (E:XK):Prop where
 pass:oR (eU X.prog X.w) X E
 made:∀ (pins:List (Addr × Obj)) (σ:St) (H:Hp) (s:Shared) (h':Heap) (e C:Addr) (args:List Value),a8 X pins σ H s->Heap.MadeExcOf s.heap h' e (.ref C) args->E (.ref C) none H->X.xe (.ref e) { s with heap:=h' }
 own:PassesOwn (model X.prog X.w) X.A X.env X.xe
theorem aH7 {P:Program}{w:World}{K:PySem.W.Frag}{mg:Str->Option Value}{base:Heap}{N:List Str}{qual:Str}{scope:Scope}{f:Addr}{cd:Value}{A:Around}{outer:List Env}{s₀:Shared}{H₀:Hp}{E₀ E₁:XK} (hE:∀ c d H',E₁ c d H'->E₀ c d H') :
  nQ (dP (eU P w) P w K mg base N qual scope f cd A outer s₀ H₀ E₀) E₁:=
 ⟨aH5 hE,fun _ _ _ _ _ _ _ _ I mx q=>aH6 I mx (hE _ _ _ q),PassesOwn.leaving⟩
noncomputable def U3 (E:XK) (C:Addr) (t:TA):TS:=fun _ σ H=>t σ H fun vs H1=>vs.length<=sizeLine/\E (.ref C) none H1
theorem aH8 {X:Cx}{E:XK}{x:Str}{C:Addr}{bm:List Value}{B newId initId:String}{np cpos pos:Pos}{e:Expr}{es:List Expr}{t:TA} (hX:nQ X E) (hc:X.calm=true) (O:OwnCls x C bm newId X.mg X.base) (FB:ExcBaseFacts B newId initId bm) (ha:PA X (e :: es) t) (hg:Gl X x)
  (hd:(x == ("__debug__" : Str))=false:=by decide) (he:starEach (e :: es) X.env=(false,eval e X.env) :: starEach es X.env:=by rfl) (hpl:(backTo cpos (starEach es X.env)).any (·.1)=false:=by rfl) :
  PS X (.Raise (some (.Call (.Name x np) (e :: es) [] cpos)) none pos) (U3 E C t):=by
 intro pins s σ H D I h
 obtain ⟨tl,Na,nm,qn,bs,hx,sn,sub,ab,col,dd,k0,k1,k2,k3,k5,mN,hC,hN,hni,T⟩:=O.obj
 refine wpAny_Raise_call_subT (nm:=nm) (q:=qn) (N:=Na) (bs:=bs) (bm:=tl) (hdct:=hx) (sn:=sn) (sub:=sub) (ab:=ab) (col:=col) (dd:=dd) (k0:=k0) (k1:=k1) (k2:=k2) (k3:=k3) (k5:=k5) FB (C:=C) (mN:=mN) (T.hasType FB.hasBase) (I.ok.hd hc) (by rw [he]; show (false || (backTo cpos (starEach es X.env)).any (·.1))=false; rw [hpl]; rfl) hni (oI I hg O.bound ⟨rfl,?_⟩ hd)
 have h1:=ha cpos pins s σ H _ I h
 rw [he] at h1 ⊢
 refine Calls.evalArgs_plain (bq7 h1 (fun us s2 h2=>?_) fun _ _ y=>y)
 obtain ⟨vs,H2,I2,r,hl,q⟩:=h2
 have r:aO vs us:=r
 exact⟨rfl,by show us.length<=sizeLine; rw [<- r.length]; exact hl,I2.bk _ _ hC,hN.keeps I2.bk,T.keeps I2.bk,fun h' e' mx=>hX.made pins σ H2 s2 h' e' C _ I2 mx q⟩
theorem fI.okX {P:Program}{w:World}{K:PySem.W.Frag}{mg:Str->Option Value}{base:Heap}{x qual:Str}{st:Stmt}{f:Addr}{fd:FuncData}{N ps:List Str}{k:Nat}{sp:Sp} (F:fI K x qual st f fd) (S:FnScope N ps (aY st)) (len:∀ vs H Q E,sp vs H Q E->vs.length=ps.length)
  (hbody:∀ (cdv:Value) (A:Around) (outer:List Env) (s:Shared) (H:Hp) (vs:List V) (Q:VK) (E:XK),cC k (A.deeper (envOfC qual (aY st) s.heap.objs.size f cdv))->sp vs H Q E->
   ∃ t,eI (dP (eU P w) P w K mg base N qual (aY st) f cdv A outer s H E) (fH st) t/\t { nx:=fun _ H'=>Q .non H',rt:=Q } (start N vs) H):cY P w K mg base (eU P w) (k+1) f fd ps sp:=by
 obtain ⟨oc,od,kV,doc,pm,an,cdv,ct,osl,rfl,lk,hcd⟩:=F.ex
 exact F1 lk hcd S len fun A outer s H vs Q E hr hsp=>hbody cdv A outer s H vs Q E hr hsp
section
variable {X : Cx} {pins : List (Addr × Obj)} {σ : St} {H H1 H' : Hp} {s s1 s' : Shared} {B h2 : Heap} {a C : Addr}
theorem U4 {oe:Obj} (I:a8 X pins σ H1 s1) (fl:lZ X.prog X.w X.stack H1 s1 H' B a C s') (st:B.StaysIn h2) (up:s'.heap.UpToSlots h2) (he:h2.get? a=some oe) :
  a8 X pins σ (upd H' a (.frz oe (.own a))) { s' with heap:=h2 }:=by
 obtain ⟨a0,fly⟩:=fl.fly
 have na:B.get? a=none:=fly.2.1
 have nf:a ∉ bQ X.stack:=fun z=>by
  obtain ⟨_,o,e,d⟩:=fly.2.2.1.mem z
  obtain ⟨o2,vs,e2,_,d2,_⟩:=fly.first
  rw [e] at e2; cases e2
  exact d vs d2
 have nb:∀ b o,s1.heap.get? b=some o->b ≠ a:=fun b o e z=>by
  subst z
  obtain ⟨o',e'⟩:=fl.b0 _ o e nf
  rw [na] at e'; cases e'
 have nt:∀ b u,H' b=some u->b ≠ a:=fun b u e z=>by
  subst z; rw [fl.fresh] at e; cases e
 have off:∀ b,b ≠ X.env.locals->b ∉ X.fs->b ∉ bQ X.stack:=fun b n1 n2 z=>(bj1.mp (I.stkSub b z)).elim n1 n2
 have slot:∀ b o,s1.heap.get? b=some o->b ∈ bQ X.stack->∃ sl,h2.get? b=some { o with slots:=sl }:=fun b o e hb=>by
  obtain ⟨sl,e1⟩:=fl.un.any e (I.stkFree b hb) (fun z=>nomatch z)
  obtain ⟨_,o2,e2,d⟩:=I.stack.mem hb
  rw [e] at e2; cases e2
  obtain ⟨sl',e3⟩:=up b _ e1 d
  exact⟨sl',e3⟩
 have ns:∀ m,s1.heap.Ns X.env.locals m->h2.Ns X.env.locals m:=fun m hm=>by
  obtain ⟨o,es,ep,e,r⟩:=hm
  obtain ⟨sl,e1⟩:=fl.un.any e I.free (fun z=>nomatch z)
  exact up.ns ⟨_,es,ep,e1,r⟩
 have hok:bZ X.prog X.w (upd H' a (.frz oe (.own a))) h2:=fun b u e=>by
  by_cases hb:b=a
  ·subst hb; rw [bI] at e; cases e; exact⟨he,_,he⟩
  ·rw [aR hb] at e
   exact (fl.hok2 st b u e).stay (fun _ _ _ q=>q) (fun c q=>by rw [aR (nt c _ q)]; exact q) fun c xs q=>by rw [aR (nt c _ q)]; exact q
 have bare:=fl.bare
 have un:=fl.un
 have b0:=fl.b0
 have b1:=fl.b1
 have os:=fl.os
 clear fl fly up
 obtain ⟨hh,g,d,t,os'⟩:=s'
 obtain rfl:os'=s1.os:=os
 show a8 X pins σ _ { s1 with heap:=h2,gens:=g,drawn:=d,toks:=t }
 refine I.step (h':=h2) (g':=g) (d':=d) (t':=t) (ch:=[]) (fun _ z=>nomatch z) (fun b o n1 n2 _ e n=>st _ _ (b1 b o e n (off b n1 n2))) (fun b o n1 hb _ e n=>?_) (fun b o _ e n=>by rw [aR (nb b o e)]; exact un.free b o e n (fun z=>nomatch z)) (fun b o _ e=>?_)
  (fun b xs q=>by rw [aR (nt b _ (un.tups b xs q))]; exact un.tups b xs q) (fun b o u q=>by rw [aR (nt b _ (un.frzs b o u q))]; exact un.frzs b o u q) (fun b ps q=>by
   obtain ⟨more,q'⟩:=un.tbls b ps q
   exact⟨more,by rw [aR (nt b _ q')]; exact q'⟩) ns hok bare
 ·by_cases hs:b ∈ bQ X.stack
  ·exact slot b o e hs
  ·exact⟨o.slots,st _ _ (b1 b o e n hs)⟩
 ·by_cases hb:b ∈ bQ X.stack
  ·obtain ⟨sl,e1⟩:=slot b o e hb
   exact⟨_,e1⟩
  ·obtain ⟨o',e1⟩:=b0 b o e hb
   exact⟨o',st _ _ e1⟩
noncomputable abbrev Cx.suite (X:Cx) (a:Addr):Cx:={ X with A:=X.A.mark (some (.ref a)),calm:=false,xe:=fun _ _=>False }
theorem Cx.Ok.suite {X:Cx} (ok:X.Ok) (a:Addr):(X.suite a).Ok:=
 ⟨ok.mod,ok.kind,ok.glob,ok.blt,ok.above,ok.inj,ok.has,ok.cab,fun z=>Bool.noConfusion z,ok.frames,ok.stk,ok.exf,ok.bs,ok.bsz,ok.noex,ok.exfs,ok.funs,ok.frf⟩
theorem a8.suite (I:a8 X pins σ H s) (a:Addr):a8 (X.suite a) pins σ H s:=⟨I.ok.suite a,I.os,I.bare,I.base,I.loc,I.cell,I.free,I.freeC,I.pin,I.hok,I.len⟩
theorem a8.unsuite (I:a8 (X.suite a) pins σ H s) (ok:X.Ok):a8 X pins σ H s:=⟨ok,I.os,I.bare,I.base,I.loc,I.cell,I.free,I.freeC,I.pin,I.hok,I.len⟩
theorem t7 {M:Model}{A:Around}{E:Value->Shared->Prop}{i:Nat}{x:Str}{pos:Pos}{Q:Unit->Shared->Prop} (I:a8 X pins σ H s) (hN:X.N.Nodup) (hi:X.N[i]? = some x) (hk:X.env.scope.names.lookup x=some .local)
  (h:∀ s',a8 X pins (σ.set i none) H s'->Q () s'):wpAny M A (do bindName X.env x .none; unbindBehindTheSuite X.env x pos) Q E s:=by
 obtain ⟨m,hn,hl⟩:=id I.loc
 obtain ⟨oL,_,_,hoL,_⟩:=id hn
 have ab:∀ b o,X.s₀.heap.get? b=some o->b ≠ X.env.locals:=fun b o e=>bm1 (bj9 (bk1 e) I.ok.above)
 refine wpAny_nameGoes_keeps hk hn (by rw [I.ok.kind]; rfl) fun h' v hn' hs=>?_
 refine h _ ⟨I.ok,I.os,I.bare,⟨fun b o e n hb hx=>(hs.2 b (ab b o e)).trans (I.base.keep b o e n hb hx),fun b o e n hb hx=>?_,I.base.free,fun b o e hx=>?_,I.base.tups,I.base.frzs,I.base.tbls⟩,⟨_,hn',fun j y v' e1 e2 e3=>?_⟩,fun y c e=>?_,I.free,I.freeC,fun p hp=>?_,fun b u e=>?_,by simpa using I.len⟩
 ·obtain ⟨sl,e1⟩:=I.base.slot b o e n hb hx
  exact⟨sl,(hs.2 b (ab b o e)).trans e1⟩
 ·obtain ⟨o',e1⟩:=I.base.there b o e hx
  exact⟨o',(hs.2 b (ab b o e)).trans e1⟩
 ·by_cases hj:j=i
  ·subst hj
   have hjl:j < σ.length:=by rw [I.len]; exact (bi5.mp hi).1
   rw [bn3 hjl] at e2
   cases e2
  ·rw [bl1 (Ne.symm hj)] at e2
   obtain ⟨u',r',q⟩:=hl j y v' e1 e2 e3
   refine⟨u',r',?_⟩
   rcases q with ⟨k,e⟩ | ⟨k,c,e,z⟩
   ·have ny:y ≠ x:=fun z=>hj (uM hN e1 (z ▸ hi))
    exact .inl ⟨k,by simp [ny,e]⟩
   ·exact .inr ⟨k,c,e,z.sameBut hs (I.cne y c e)⟩
 ·obtain ⟨w',z⟩:=I.cell y c e
  exact⟨w',z.sameBut hs (I.cne y c e)⟩
 ·obtain ⟨e,n,ne,nf,d⟩:=I.pin p hp
  exact⟨(hs.2 p.1 ne).trans e,n,ne,nf,d⟩
 ·refine (I.hok b u e).stay (fun c v hc q=>(hs.2 c fun z=>?_).trans q) (fun _ q=>q) fun _ _ q=>q
  subst z
  rcases hc with z | z
  ·subst z; rw [I.free] at e; cases e
  ·rw [I.free] at z; cases z
theorem aH9 {M:Model}{A:Around}{E:Value->Shared->Prop}{K:PySem.W.Frag}{e C D:Addr}{oe:Obj}{Q:Bool->Shared->Prop} (k:K.In s.heap) (he:s.heap.get? e=some oe) (hc:oe.cls = .ref C) (h1:(PySem.W.clsIn K D).isSome=true) (h2:PySem.W.typeIn K (.ref D)=some (.type "type"))
  (h3:PySem.W.subIn K (.ref D) (.type "BaseException")=some true) (h4:PySem.W.subIn K (.ref C) (.ref D)=some true) (hq:Q true s):wpAny M A (excMatches (.ref e) (.ref D)) Q E s:=by
 obtain ⟨h,g,d,t,os⟩:=s
 have k:K.In h:=k
 have he:h.get? e=some oe:=he
 have l1:PySem.W.Looks M h (isType (.ref D)) true:=by
  unfold PySem.W.clsIn at h1
  split at h1
  ·rename_i c' d' cd' sl' ho
   intro A' Q' E' s' kk q
   unfold isType loadHead
   exact bh8 (wpAny_loadPart (kk _ _ (k _ _ ho)) (bj3 q))
  ·cases h1
 have l2:PySem.W.Looks M h (typeOf (.ref D)) (.type "type"):=PySem.W.looks_typeIn k h2
 have l3:PySem.W.Looks M h (isSubtype (.ref D) (.type "BaseException")) true:=PySem.W.looks_subIn k h3
 have l4:PySem.W.Looks M h (isSubtype (.ref C) (.ref D)) true:=PySem.W.looks_subIn k h4
 have l5:PySem.W.Looks M h (typeOf (.ref e)) (.ref C):=hc ▸ (PySem.W.Looks.ld he).andThen .now
 have l6:PySem.W.Looks M h (isInstance (.ref D) (.type "tuple")) false:=l2.andThen (PySem.W.Looks.of_pure tc_notTuple)
 have l7:PySem.W.Looks M h (isExcClass (.ref D)) true:=by
  unfold isExcClass
  exact l1.andThen (by simpa using l3)
 have f:=tc_notTuple
 unfold excMatches
 repeat (first | exact hq | (with_reducible refine l2.at ?_) | (with_reducible refine l7.at ?_) | (with_reducible refine l1.at ?_) | (with_reducible refine l3.at ?_) | (with_reducible refine l5.at ?_) | (with_reducible refine l4.at ?_) | wp_step)
end
noncomputable def xK (D:dL) (i:Nat):dL:={ nx:=fun σ H=>D.nx (σ.set i none) H,rt:=D.rt,bk:=fun σ H=>D.bk (σ.set i none) H,ct:=fun σ H=>D.ct (σ.set i none) H }
section
variable {X : Cx} {pins : List (Addr × Obj)} {σ : St} {H H1 H' : Hp} {s s1 s' : Shared} {B : Heap} {a C Ch : Addr} {i : Nat} {x n : Str} {np pos hpos : Pos} {b₀ : Stmt} {suite : List Stmt} {ts : TS} {D : dL} {dO : List ExceptHandler}
structure xM (K:PySem.W.Frag) (Ch:Addr):Prop where
 c1:(PySem.W.clsIn K Ch).isSome=true
 c2:PySem.W.typeIn K (.ref Ch)=some (.type "type")
 c3:PySem.W.subIn K (.ref Ch) (.type "BaseException")=some true
theorem aI0 (I:a8 X pins σ H1 s1) (fl:lZ X.prog X.w X.stack H1 s1 H' B a C s') (hstk:X.stack=X.env :: X.outer/\X.env.frame=some X.env.locals) (hg:Gl X x) (hm:X.mg x=some (.ref Ch)) (ct:xM X.K Ch) (sub:PySem.W.subIn X.K (.ref C) (.ref Ch)=some true)
  (hN:X.N.Nodup) (hi:X.N[i]? = some n) (hl:X.env.scope.names.lookup n=some .local) (hs:eI (X.suite a) (b₀ :: suite) ts) (q:∀ oe:Obj,oe.cls = .ref C->ts (xK D i) (σ.set i (some (.ref a))) (upd H' a (.frz oe (.own a)))) (hd:(x == ("__debug__" : Str))=false) :
  wpAny (model X.prog X.w) X.A (noteFrame (.ref a) X.env) (fun _ s₂=>wpAny (model X.prog X.w) X.A (setFlight (.ref a) none) (fun _ s₃=>wpAny (model X.prog X.w) X.A (handleBy (.ref a) X.env (.ExceptHandler (some (.Name x np)) (some n) (b₀ :: suite) hpos :: dO)) (SP X pins D) X.xe s₃) X.xe s₂) X.xe s':=by
 obtain ⟨a0,fly⟩:=fl.fly
 rw [hstk.1] at fly
 refine wpAny_looks_onW (outer:=X.outer) (L:=X.env.locals) (by rw [I.ok.frames,hstk.1]) hstk.2 fly fun h4 held up4=>wpAny_landsW held fun h5 fly5 up5=>?_
 obtain ⟨o5,v5,e5,c5,_⟩:=fly5.first
 have I5:=U4 I fl fly5.1 (up4.trans up5) e5
 refine wpAny_handleBy_cons (codeAny_handlers_test (oI (I5.suite a) hg hm ?_ hd)) (by intro z; cases z)
 refine aH9 I5.kIn e5 c5 ct.c1 ct.c2 ct.c3 sub ?_
 show codeAny (model X.prog X.w) (X.A.mark (some (.ref a))) (.handlers (.ref a) [.ExceptHandler none (some n) (b₀ :: suite) hpos] X.env) _ _
 refine codeAny_handlers_suite_as (lands_againW fly5 fun h6 fly6 up6=>?_)
 obtain ⟨o6,v6,e6,c6,_⟩:=fly6.first
 have I6:=U4 I fl fly6.1 ((up4.trans up5).trans up6) e6
 refine uO I6 hN hi (.inl hl) (v:=.ref a) rfl (fun s7 I7=>?_) (.inr hl)
 refine bq7 (hs pins s7 _ _ (xK D i) (I7.suite a) (q o6 c6)) (fun f s8 h8=>?_) fun _ _ z=>z.elim
 show wpAny (model X.prog X.w) X.A (do bindName X.env n .none; unbindBehindTheSuite X.env n hpos) (fun _ s9=>SP X pins D f s9) X.xe s8
 cases f with
 | next=>obtain ⟨σ',H',J,q⟩:=h8; exact t7 (J.unsuite I.ok) hN hi hl fun s9 J9=>⟨_,_,J9,q⟩
 | brk=>obtain ⟨σ',H',J,q⟩:=h8; exact t7 (J.unsuite I.ok) hN hi hl fun s9 J9=>⟨_,_,J9,q⟩
 | cont=>obtain ⟨σ',H',J,q⟩:=h8; exact t7 (J.unsuite I.ok) hN hi hl fun s9 J9=>⟨_,_,J9,q⟩
 | ret u=>obtain ⟨v,σ',H',J,r,q⟩:=h8; exact t7 (J.unsuite I.ok) hN hi hl fun s9 J9=>⟨v,_,_,J9,r,q⟩
end
noncomputable abbrev TB:=dL->XK->St->Hp->Prop
noncomputable def XB (X:Cx) (pins:List (Addr × Obj)) (σ:St) (Ex:XK):Value->Shared->Prop:=fun e s'=>∃ H1 s1,a8 X pins σ H1 s1/\eU X.prog X.w X.stack H1 s1 Ex e s'
noncomputable def PB (X:Cx) (sts:List Stmt) (t:TB):Prop:=
 ∀ (pins:List (Addr × Obj)) (s:Shared) (σ:St) (H:Hp) (D:dL) (Ex:XK),a8 X pins σ H s->t D Ex σ H->wpAny (model X.prog X.w) X.A (execs sts X.env) (SP X pins D) (XB X pins σ Ex) s
noncomputable def aI1 (sp:Sp) (t:TA):TB:=fun D Ex σ H=>t σ H fun vs H1=>sp vs H1 (fun _ H2=>D.nx σ H2) Ex
noncomputable def aI2 (c:TT) (t u:TB):TB:=fun D Ex σ H=>c σ H fun b H1=>if b=true then t D Ex σ H1 else u D Ex σ H1
section
variable {X : Cx} {k : Nat} {f Ch : Addr} {fd : FuncData} {ps : List Str} {sp : Sp} {x n : Str} {p cp pos np hpos : Pos} {e c : Expr} {es : List Expr} {t : TA} {tb ub : TB} {tc : TT} {sa sb body : List Stmt} {i : Nat} {b₀ : Stmt} {suite : List Stmt} {ts : TS}
theorem aI3 (F:cY X.prog X.w X.K X.mg X.base (eU X.prog X.w) k f fd ps sp) (hr:cC k X.A) (hg:Gl X x) (hm:X.mg x=some (.ref f)) (hk:PySem.W.keepIn X.K (.ref f)=true) (hb:iG X.K fd ps []) (ha:∀ E,PA (X.wish E) (e :: es) t)
  (hdb:(x == ("__debug__" : Str))=false:=by decide) (he:starEach (e :: es) X.env=(false,eval e X.env) :: starEach es X.env:=by rfl) (hpl:(backTo cp (starEach es X.env)).any (·.1)=false:=by rfl) (hsw:swapsWith (.Call (.Name x p) (e :: es) [] cp) none pos.line X.env=pure false:=by rfl) :
  PB X [.Expr (.Call (.Name x p) (e :: es) [] cp) pos] (aI1 sp t):=by
 intro pins s σ H D Ex I h
 refine wpAny_execs_cons (wpAny_Expr_any ?_ I.quiet hsw)
 refine wpAny_Call_Name_kw (oI I hg hm ?_ hdb)
 refine PySem.W.callWith_K (h₀:=X.base) I.ok.mod.kin hk (aQ (ha (XB X pins σ Ex) cp pins s σ H _ (I.wish _) h) fun us s1 h1=>⟨?_,?_⟩) he hpl
 ·obtain ⟨_,_,I1,_⟩:=h1
  exact I1.kIn
 ·obtain ⟨vs,H1,I1,r,q⟩:=h1
  have I1:=I1.unwish
  have hl:us.length=ps.length:=by rw [<- r.length]; exact F.len _ _ _ _ q
  have bd:=hb s1 us I1.kIn (by rw [bp1]; exact hl)
  rw [bp1] at bd
  refine wpAny_call (codeAny_mono (F.run X.A X.stack s1 H1 ⟨us,[]⟩ us vs _ Ex hr I1.env0 bd r q) fun rs s' hq=>?_)
  cases rs with
  | error ev=>exact⟨H1,s1,I1,hq⟩
  | ok fl=>
   cases fl with
   | ret u=>
    obtain ⟨v,H2,I2,_,q2⟩:=I1.after hq
    exact bw5 ⟨σ,H2,I2,q2⟩
   | next=>exact False.elim hq
   | brk=>exact False.elim hq
   | cont=>exact False.elim hq
theorem aI4 (hc:∀ E,PT (X.wish E) c tc) (ha:PB X sa tb) (hb:PB X sb ub):PB X [.If c sa sb pos] (aI2 tc tb ub):=by
 intro pins s σ H D Ex I h
 refine wpAny_execs_cons (wpAny_If (aQ (hc (XB X pins σ Ex) pins s σ H _ (I.wish _) h) fun d s1 h1=>?_))
 obtain ⟨H1,I1,q1⟩:=h1
 have I1:=I1.unwish
 have fin:∀ (fl:Flow) (s2:Shared),SP X pins D fl s2->(match fl with | .next=>wpAny (model X.prog X.w) X.A (execs [] X.env) (SP X pins D) (XB X pins σ Ex) s2 | fl=>SP X pins D fl s2):=fun fl s2 q=>by
  cases fl with
  | next=>exact bw5 q
  | _=>exact q
 cases d with
 | true=>exact aQ (ha pins s1 σ H1 D Ex I1 q1) fin
 | false=>exact aQ (hb pins s1 σ H1 D Ex I1 q1) fin
noncomputable def U5 (K:PySem.W.Frag) (Ch:Addr) (i:Nat) (tb:TB) (ts:TS):TS:=fun D σ H=>
 tb D (fun c _ H'=>∀ (a C:Addr) (oe:Obj),c = .ref C->H' a=none->oe.cls = .ref C->PySem.W.subIn K (.ref C) (.ref Ch)=some true/\ts (xK D i) (σ.set i (some (.ref a))) (upd H' a (.frz oe (.own a)))) σ H
theorem aI5 (hstk:X.stack=X.env :: X.outer/\X.env.frame=some X.env.locals) (hb:PB X body tb) (hg:Gl X x) (hm:X.mg x=some (.ref Ch)) (ct:xM X.K Ch) (hN:X.N.Nodup) (hi:X.N[i]? = some n) (hl:X.env.scope.names.lookup n=some .local) (hs:∀ a,eI (X.suite a) (b₀ :: suite) ts)
  (hd:(x == ("__debug__" : Str))=false:=by decide):PS X (.Try body [.ExceptHandler (some (.Name x np)) (some n) (b₀ :: suite) hpos] [] [] pos) (U5 X.K Ch i tb ts):=by
 intro pins s σ H D I h
 refine wpAny_Try_except (bq7 (hb pins s σ H D _ I h) (fun fl s1 q=>?_) (fun ev s1 q=>?_))
 ·cases fl with
  | next=>exact bw5 q
  | _=>exact q
 ·obtain ⟨H1,s2,I1,H',B,a,C,e1,fl,q⟩:=q
  subst e1
  obtain ⟨a0,fly⟩:=fl.fly
  obtain ⟨o5,_,_,c5,_⟩:=fly.first
  exact aI0 I1 fl hstk hg hm ct (q a C o5 rfl fl.fresh c5).1 hN hi hl (hs a) (fun oe hc=>(q a C oe rfl fl.fresh hc).2) hd
end
end L2
namespace L2
open PySem PySem.Spec PyProof.Rows PySem.Calls Builtin Builtin.ObjectAttr Builtin.Getset_descriptor
structure j9 (K:PySem.W.Frag) (D:Addr):Prop where
 cls:(PySem.W.clsIn K D).isSome=true
 ga:PySem.W.findIn K (.ref D) "__getattribute__" = some (some (.builtin "BaseException.__getattribute__"))
 gt:PySem.W.findIn K (.ref D) "__getattr__" = some none
 fc:PySem.W.findIn K (.ref D) "__class__" = some (some (.builtin "object.__class__"))
 fg:PySem.W.specialIn K (.builtin "object.__class__") "__get__" = some (some (.builtin "getset_descriptor.__get__"))
 ft:PySem.W.takesIn K (.builtin "object.__class__")=some true
 ob:PySem.W.mroIn K D (.type "object")=some true
 be:PySem.W.mroIn K D (.type "BaseException")=some true
noncomputable def kZ (h:Heap) (x D:Addr):Prop:=∃ ox:Obj,h.get? x=some ox/\ox.cls = .ref D
theorem kZ.type {h:Heap}{x D:Addr}{M:Model} (I:kZ h x D):PySem.W.Looks M h (typeOf (.ref x)) (.ref D):=by
 obtain ⟨ox,e,c⟩:=I
 exact c ▸ (PySem.W.Looks.ld e).andThen .now
section
variable {prog : Program} {w : World} {A : Around} {E : Value → Shared → Prop} {K : PySem.W.Frag} {x D : Addr} {h : Heap} {g : Array GenState} {d : Drawn} {t : Nat} {os : OsState}
theorem aI6 {M:Model} (F:j9 K D) (k:K.In h):PySem.W.Looks M h (find (.ref x) (.ref D) "__class__") (.bind (.builtin "getset_descriptor.__get__") (.builtin "object.__class__")):=by
 have L1:=PySem.W.looks_findIn (M:=M) k F.fc
 have L2:=PySem.W.looks_specialIn (M:=M) k F.fg
 have L3:=PySem.W.looks_takesIn (M:=M) k F.ft
 unfold find
 refine L1.andThen (PySem.W.Looks.andThen (a:=some (Value.builtin "getset_descriptor.__get__")) L2 ?_)
 refine PySem.W.Looks.andThen (a:=some (Value.builtin "getset_descriptor.__get__",Value.builtin "object.__class__")) ?_ (PySem.W.Looks.tag .now)
 unfold dataDescriptor?
 exact L3.andThen .now
theorem aI7 {tp:Value}{R:Result->Shared->Prop} (F:j9 K D) (k:K.In h) (I:kZ h x D) (hq:R (.ok (.ret (.ref D))) ⟨h,g,d,t,os⟩):codeAny (model prog w) A (.call (.builtin "getset_descriptor.__get__") ⟨[.builtin "object.__class__",.ref x,tp],[]⟩) R ⟨h,g,d,t,os⟩:=by
 have L0:=I.type (M:=model prog w)
 have L1:=PySem.W.looks_mroIn (M:=model prog w) k F.ob
 refine codeAny_call_builtin PySem.W.KF.slot_gs.plain PySem.W.KF.entry_gs (PySem.W.KF.slot_gs.check _ _ _ _ _ _ _ _ PySem.W.KF.type_class (PySem.W.KF.args_gs _ _ _) ?_)
 unfold Builtin.«getset_descriptor.__get__» descrGet; rw [PySem.W.dga_obj]
 refine bh8 (bj3 ?_); unfold descrGetter descrCheckInstance descrNameAndClass isInstance
 simp only [PySem.W.KF.owner_class]
 repeat lk
 refine⟨Code.quiet_builtin _ (by decide +kernel),codeAny_builtin PySem.W.KF.entry_class ?_⟩; unfold Builtin.«object.__class__» shownTypeOf
 repeat lk
 exact hq
theorem aI8 {M:Model}{nameV:Value}{Q:Unit->Shared->Prop} (F:j9 K D) (k:K.In h) (I:kZ h x D) (hq:Q () ⟨h,g,d,t,os⟩):wpAny M A (checkBuiltinCall "BaseException.__getattribute__" ⟨[.ref x,nameV],[]⟩) Q E ⟨h,g,d,t,os⟩:=by
 have kd:builtinKind "BaseException.__getattribute__" = some .slot:=by decide +kernel
 have sp:splitId "BaseException.__getattribute__" = some ("BaseException","__getattribute__"):=by decide +kernel
 have L:PySem.W.Looks M h (isInstance (.ref x) (.type "BaseException")) true:=(I.type (M:=M)).andThen (PySem.W.looks_mroIn k F.be)
 have ha:=PySem.F.args_bexc_ga (.ref x) nameV
 simp only [checkBuiltinCall,kd,sp]
 refine bh8 (L.at ?_)
 repeat (any_goals (first | assumption | wp_step))
theorem aI9 {tk:Tok}{Q:Fin->Shared->Prop} (F:j9 K D) (k:K.In h) (I:kZ h x D) (hq:Q (.done (.ret (.ref D))) ⟨h,g,d,t,os⟩):wpAny (model prog w) A (Builtin.«object.__getattribute__» ⟨[.ref x,.str "__class__" tk],[]⟩) Q E ⟨h,g,d,t,os⟩:=by
 have L0:=I.type (M:=model prog w)
 have L1:=aI6 (M:=model prog w) F k (x:=x)
 refine bh8 (bj3 (bh8 (bj3 (bh8 (L0.at (bh8 (L1.at ?_)))))))
 show wpAny _ _ (holding [_] (call _ _) >>= ret) _ _ _
 exact bh8 (bs0 (wpAny_call (aI7 F k I (bj3 hq))))
theorem aJ0 {tk:Tok}{R:Result->Shared->Prop} (F:j9 K D) (k:K.In h) (I:kZ h x D) (hq:R (.ok (.ret (.ref D))) ⟨h,g,d,t,os⟩):codeAny (model prog w) A (.call (.builtin "BaseException.__getattribute__") ⟨[.ref x,.str "__class__" tk],[]⟩) R ⟨h,g,d,t,os⟩:=
 codeAny_call_builtin PySem.F.excAttr_ValueError.ga.plain PySem.F.entry_bexc_ga (aI8 F k I (aI9 F k I hq))
theorem aJ1 {Q:Option Value->Shared->Prop} (F:j9 K D) (k:K.In h) (I:kZ h x D) (hq:Q (some (.ref D)) ⟨h,g,d,t+1,os⟩):wpAny (model prog w) A (getAttr? (.ref x) "__class__") Q E ⟨h,g,d,t,os⟩:=by
 have L0:=I.type (M:=model prog w)
 have L1:=PySem.W.looks_findIn (M:=model prog w) k F.ga
 have L2:=PySem.W.looks_findIn (M:=model prog w) k F.gt
 have f3:=PySem.F.excAttr_ValueError.ga.bind (.ref x)
 unfold getAttr? getAttrBy? getAttrBy
 refine bh8 (wpAny_mkText (bh8 (wpAny_attempt (bs0 (bh8 (L0.at (bh8 (L1.at ?_))))))))
 have nx:(onTheHeap (Value.ref D) && Value.builtin "BaseException.__getattribute__" == Value.builtin "object.__getattribute__")=false:=by
  rw [show (Value.builtin "BaseException.__getattribute__" == Value.builtin "object.__getattribute__")=false by decide +kernel,bu0]
 dsimp only
 rw [if_neg (by rw [nx]; decide)]
 unfold getAttrByItsOwn hookBefore
 repeat (any_goals (first | assumption | (with_reducible refine L2.at ?_) | wp_step))
 exact aJ0 F k I (PySem.W.handed_on rfl (bj3 hq))
end
theorem aJ2 {K:PySem.W.Frag}{x D:Addr} (F:j9 K D):PySem.W.KitX K (.ref x) (.ref D) (fun h=>kZ h x D) where
 ty:=fun _ _ _ I=>I.type
 it:=fun M h k _=>by
  have z:=F.cls
  unfold PySem.W.clsIn at z
  split at z
  ·rename_i c' d' cd' sl' ho
   intro A' Q' E' s' kk q
   unfold isType loadHead
   exact bh8 (wpAny_loadPart (kk _ _ (k _ _ ho)) (bj3 q))
  ·cases z
 ne:=fun h tp dd its n sl k htp=>by
  have z:=F.cls
  refine bu2.mpr fun q=>?_
  obtain rfl:D=tp:=Value.ref.inj (beq_iff_eq.mp q)
  unfold PySem.W.clsIn at z
  split at z
  ·rename_i ho
   have y:=(k _ _ ho).symm.trans htp
   cases y
  ·cases z
 ca:=fun {_ _ _ _ _ s} k I q=>by
  obtain ⟨h,g,d,t,os⟩:=s
  exact aJ1 F k I q
end L2
namespace L2
open PySem PySem.Spec PyProof.Rows
section
variable {X : Cx}
noncomputable def U6:V->List V->Hp->VK->Prop:=fun x vs H Q=>∃ l xs y,∃ k:Nat,x = .ref l/\vs = [.int k,y]/\H l=some (.lst xs)/\k<=xs.length/\xs.length < sizeLine/\Q .non (upd H l (.lst (xs.take k ++ y :: xs.drop k)))
theorem aJ3:mR X "list.insert" U6:=by
 intro pins s σ H x vs v us Q I rx rv h
 obtain ⟨l,xs,y,k,rfl,rfl,hH,hk,hz,q⟩:=h
 obtain ⟨u1,u2,rfl,⟨t,rfl⟩,r2⟩:=rv.two
 obtain rfl:v=Value.ref l:=rx
 obtain ⟨z,its,n,r,hl,e⟩:=I.lstM hH
 have hs:sizeLine=16777216:=sizeLine_eq
 obtain ⟨x,hx⟩:∃ x:Int,x=(k:Int):=⟨_,rfl⟩
 rw [<- hx]
 have hf : ¬(!Builtin.List.listFitsIndex x)=true:=by
  have h1:Builtin.List.listFitsIndex x=true:=by
   unfold Builtin.List.listFitsIndex
   rw [bm2]
   exact⟨bi6 (by omega),bi6 (by omega)⟩
  rw [h1]; exact bk3
 have hz2:its.toArray.size<=sizeLine:=by rw [bh9]; omega
 refine call_meets PySem.F.slot_list_insert ⟨_,e,rfl⟩ PySem.F.entry_list_insert (PySem.F.args_list_insert_3 _ _ _) (AutoSeq1.list_insert_list_int_val_1 l its.toArray n x t u2 hf hz2) ⟨e,.non,_,?_,rfl,q⟩
 refine I.lset (its':=its.take k ++ u2 :: its.drop k) hH e ?_ ((r.take k).append (.cons r2 (r.drop k))) ?_
 ·have e1:(if x < 0 then (x+(its.toArray.size:Int)).toNat else min x.toNat its.toArray.size)=k:=by
   rw [if_neg (by omega),bh9]
   omega
  dsimp only
  rw [e1]
  apply Array.toList_inj.mp
  simp only [Array.toList_append,Array.toList_push,Array.toList_extract,List.extract_eq_drop_take]
  simp
  rw [bl6 (by rw [bq0]; omega)]
 ·rw [bj4,bk9,bo1,bq0]
  omega
end
end L2
namespace Core
open PySem L2 PP
noncomputable def iO (ns:List Int):Bool:=((ns.zip (ns.drop 1)).map fun p=>decide (p.1 < p.2)).all id
theorem qA {α β:Type}{l:List α}{f:α->β}{i:Nat}{x:α} (h:l[i]? = some x):(l.take (i+1)).map f=(l.take i).map f ++ [f x]:=by
 rw [bm4,h]; simp
theorem gC:∀ {ns:List Int},iO ns=true->ns.Pairwise (· < ·)
 | [],_=>.nil
 | [x],_=>bl7 _ _
 | x :: y :: r,h=>by
  have e:iO (x :: y :: r)=(decide (x < y) && iO (y :: r)):=rfl
  rw [e,bm2] at h
  have ih:=gC h.2
  refine br8.mpr ⟨fun z hz=>?_,ih⟩
  rcases bj1.mp hz with rfl | hz
  ·exact bn0 h.1
  ·exact Int.lt_trans (bn0 h.1) (List.rel_of_pairwise_cons ih hz)
theorem t8:∀ {ns:List Int},ns.Pairwise (· < ·)->iO ns=true
 | [],_=>rfl
 | [x],_=>rfl
 | x :: y :: r,h=>by
  have e:iO (x :: y :: r)=(decide (x < y) && iO (y :: r)):=rfl
  have h':=br8.mp h
  rw [e,t8 h'.2,Bool.and_true]
  exact bi6 (h'.1 y bi9)
noncomputable def kin (ws:List Int) (ls:List (Int × Int)) (S:List Int) (h:Int):Bool:=!decide (h ∈ S) && decide (ws.getD h.toNat 0<=(((aN ls h).filter fun x=>decide (x ∈ S)).length:Int))
noncomputable def nextOf (ws:List Int) (ls:List (Int × Int)) (S:List Int):List Int:=((List.range ws.length).map fun (i:Nat)=>(i:Int)).filter (kin ws ls S)
noncomputable def qB (ws:List Int) (ls:List (Int × Int)) (S:List Int):Nat->List Int
 | 0=>S
 | k+1=>qB ws ls S k ++ nextOf ws ls (qB ws ls S k)
noncomputable def U7 (ws:List Int) (S:List Int):Nat:=(((List.range ws.length).map fun (i:Nat)=>(i:Int)).filter fun x=>!decide (x ∈ S)).length
theorem U8 {α:Type} (p q:α->Bool) (h:∀ x,q x=true->p x=false):∀ L:List α,(L.filter fun x=>!p x && !q x).length+(L.filter q).length=(L.filter fun x=>!p x).length
 | []=>rfl
 | x :: r=>by
  have ih:=U8 p q h r
  cases e1:p x with
  | true=>
   have e2:q x=false:=by
    cases e:q x with
    | false=>rfl
    | true=>have:=h x e; rw [e1] at this; cases this
   simp only [bs3,e1,e2,Bool.not_true,Bool.false_and,bl5,bp9]
   exact ih
  | false=>
   cases e2:q x with
   | true=>
    simp only [bs3,e1,e2,Bool.not_true,Bool.not_false,bu0,bl5,bp9,if_true,bk9]
    omega
   | false=>
    simp only [bs3,e1,e2,Bool.not_false,Bool.and_true,bl5,bp9,if_true,bk9]
    omega
theorem aJ4 {ws:List Int}{ls:List (Int × Int)}{S:List Int}{x:Int} (h:kin ws ls S x=true):decide (x ∈ S)=false:=by
 unfold kin at h
 cases e:decide (x ∈ S) with
 | false=>rfl
 | true=>rw [e] at h; cases h
noncomputable def after (ws:List Int) (ls:List (Int × Int)) (S:List Int) (m:Nat):List (List Int):=(List.range m).map fun k=>nextOf ws ls (qB ws ls S k)
theorem aJ5 {ws ns:List Int} (hu:ns.Pairwise (· < ·)) (hin:∀ x ∈ ns,0<=x/\x < (ws.length:Int)):ns.length+U7 ws ns<=ws.length:=by
 have nd:ns.Nodup:=hu.imp fun h=>bu3 h
 have sub:ns ⊆ ((List.range ws.length).map fun (i:Nat)=>(i:Int)).filter fun x=>decide (x ∈ ns):=fun x hx=>by
  refine bj6.mpr ⟨bj8.mpr ⟨x.toNat,bv2.mpr ?_,?_⟩,bi6 hx⟩
  ·have:=hin x hx; omega
  ·have:=hin x hx; omega
 have h1:=nd.length_le_of_subset sub
 have h2:=U8 (fun _=>false) (fun x=>decide (x ∈ ns)) (fun _ _=>rfl) ((List.range ws.length).map fun (i:Nat)=>(i:Int))
 have h3:(((List.range ws.length).map fun (i:Nat)=>(i:Int)).filter fun x=>!false && !decide (x ∈ ns)).length=U7 ws ns:=rfl
 have h4:(((List.range ws.length).map fun (i:Nat)=>(i:Int)).filter fun x=>!false).length<=ws.length:=by
  refine bm6 (bn7 _ _) ?_
  rw [bi4,List.length_range]; exact bi8 _
 rw [h3] at h2
 omega
noncomputable def dL (ws:List Int) (ls:List (Int × Int)) (ns:List Int) (m:Nat):Prop:=(∀ k < m,nextOf ws ls (qB ws ls ns k) ≠ [])/\nextOf ws ls (qB ws ls ns m) = []
theorem gV {ns:List Int}{i:Nat}{x:PV} (h:(intz ns)[i]? = some x):∃ n,x = .int n/\ns[i]? = some n:=by
 rw [bj2] at h
 cases e:ns[i]? with
 | none=>rw [e] at h; cases h
 | some n=>rw [e] at h; exact⟨n,(bl2 h).symm,rfl⟩
theorem jA {lo:Int}{n i:Nat}{x:PV} (h:(fM lo n)[i]? = some x):x = .int (lo+i)/\i < n:=by
 have hi:i < n:=by
  have:=(bi5.mp h).1
  rwa [gA] at this
 rw [x4 hi] at h
 exact⟨(bl2 h).symm,hi⟩
noncomputable def rng (n:Nat):List Int:=(List.range n).map fun (i:Nat)=>(i:Int)
theorem dM (n:Nat):(rng n).length=n:=by unfold rng; rw [bi4,List.length_range]
theorem nR {n i:Nat} (h:i < n):(rng n)[i]? = some (i:Int):=by unfold rng; rw [bj2,List.getElem?_range h]; rfl
theorem bY {n:Nat}{x:Int}:x ∈ rng n ↔ 0<=x/\x < (n:Int):=by
 unfold rng
 rw [bj8]
 constructor
 ·rintro ⟨i,hi,rfl⟩
  have:=bv2.mp hi
  omega
 ·intro h
  exact⟨x.toNat,bv2.mpr (by omega),by omega⟩
theorem qD {α:Type}{l:List α}{p:α->Bool}{i:Nat}{x:α} (h:l[i]? = some x):(l.take (i+1)).filter p=(l.take i).filter p ++ (if p x=true then [x] else []):=by
 rw [bm4,h,List.filter_append]
 congr 1
 cases e:p x <;> simp [e]
theorem eN (a b:List Int):intz (a ++ b)=intz a ++ intz b:=bk2
theorem b8 (a:List Int):(intz a).length=a.length:=bi4 _
noncomputable def b6 (ws:List Int) (ls:List (Int × Int)):PV:=.tup [.tup (intz ws),.tup (ls.map fun l=>.tup [.int l.1,.int l.2])]
structure Wb (ws:List Int) (ls:List (Int × Int)):Prop where
 few:ws.length<=40
 most:ls.length<=1700
 links:∀ l ∈ ls,(0<=l.1/\l.1 < ws.length)/\0<=l.2/\l.2 < ws.length
noncomputable def cU (x:PV) (ns:List Int):Prop:=x = .tup (intz ns) ∨ x = .lst (intz ns)
theorem cU.seq {x:PV}{ns:List Int} (h:cU x ns):jS x=some (intz ns):=by rcases h with rfl | rfl <;> rfl
theorem cU.seqT {x:PV}{ns:List Int} (h:cU x ns):seqT x=some (intz ns):=by rcases h with rfl | rfl <;> rfl
theorem iP:∀ (ls:List (Int × Int)),flats (ls.map fun l=>PV.tup [.int l.1,.int l.2])=true
 | []=>rfl
 | l :: r=>by
  show (flat (.tup [.int l.1,.int l.2]) && flats (r.map fun l=>PV.tup [.int l.1,.int l.2]))=true
  rw [iP r]; rfl
theorem xN (ws:List Int) (ls:List (Int × Int)):flat (b6 ws ls)=true:=by
 show flats [.tup (intz ws),.tup (ls.map fun l=>PV.tup [.int l.1,.int l.2])]=true
 show (flat (.tup (intz ws)) && (flat (.tup (ls.map fun l=>PV.tup [.int l.1,.int l.2])) && true))=true
 show (flats (intz ws) && (flats (ls.map fun l=>PV.tup [.int l.1,.int l.2]) && true))=true
 rw [dG,iP]; rfl
noncomputable def gW:bK:=fun xs Q=>∃ ws ls,xs = [b6 ws ls]/\Q (.int ws.length)
noncomputable def U9:aK:=(bN (aB dH (a6 (bA (a5 0) (qC (.int 0))) a9)))
noncomputable abbrev cI (t:aK) (N:List Str) (p:bK):Prop:=∀ xs Q,p xs Q->t { nx:=fun _=>Q .non,rt:=Q } (gJ N xs)
theorem aJ6:cI U9 ["web"] gW:=by
 rintro xs Q ⟨ws,ls,rfl,q⟩
 refine⟨_,rfl,_,_,_,rfl,rfl,rfl,_,_,rfl,rfl,trivial,?_⟩
 rw [b8]; exact q
noncomputable def xO:bK:=fun xs Q=>∃ x ns,xs = [x]/\cU x ns/\ns.length<=1000/\Q (.bl (iO ns))
noncomputable def inB (n:Nat) (x:Int):Bool:=decide (0<=x) && decide (x < (n:Int))
noncomputable def t9:bK:=fun xs Q=>∃ ws ls n,xs = [b6 ws ls,.int n]/\Q (.bl (inB ws.length n))
noncomputable def V0:aK:=(bN (pH (pS (a5 1) (qC (.int 0))) (nI (a5 1) (aB gW (a6 (a5 0) a9)))))
theorem aJ7:cI V0 ["web","number"] t9:=by
 rintro xs Q ⟨ws,ls,n,rfl,q⟩
 refine⟨_,rfl,_,_,rfl,rfl,_,rfl,?_⟩
 unfold inB at q
 by_cases h:(0:Int)<=n
 ·rw [bi6 h] at q ⊢
  refine bJ ⟨_,rfl,_,rfl,ws,ls,rfl,_,_,rfl,rfl,trivial,?_⟩
  simpa using q
 ·rw [bj5 h] at q ⊢
  exact bF ⟨trivial,by simpa using q⟩
noncomputable def bE (n:Nat) (ns:List Int):Bool:=iO ns && (ns.map (inB n)).all id
noncomputable def tD:bK:=fun xs Q=>∃ ws ls x ns,xs = [b6 ws ls,x]/\cU x ns/\ns.length<=1000/\Q (.bl (bE ws.length ns))
noncomputable def V1:aK:=(bN (pH (aB xO (a6 (a5 1) a9)) (aB wX (a6 (cZ (cR (a5 1)) [none,some 0] (bX 0) dA (aB t9 (a6 (a5 1) (a6 (a5 0) a9)))) a9))))
theorem qE {x:PV}{ns:List Int} (h:cU x ns):(Slot.sh (flat x) x).tag = .rd->flat x=true:=by
 cases flat x <;> intro z <;> cases z
theorem aJ8:cI V1 ["web","numbers"] tD:=by
 rintro xs Q ⟨ws,ls,x,ns,rfl,hx,hl,q⟩
 refine⟨_,rfl,x,ns,rfl,hx,hl,_,rfl,?_⟩
 unfold bE at q
 cases h:iO ns with
 | false=>rw [h] at q; exact bF ⟨trivial,q⟩
 | true=>
  rw [h] at q
  refine bJ ⟨_,rfl,_,hx.seq,qE hx,by rw [b8]; omega,fun i acc=>acc=(((ns.take i).map (inB ws.length)).map PV.bl),rfl,?_,?_⟩
  ·rintro i y acc hy rfl
   obtain ⟨n,rfl,hn⟩:=gV hy
   have tk:((ns.take (i+1)).map (inB ws.length)).map PV.bl=((ns.take i).map (inB ws.length)).map PV.bl ++ [PV.bl (inB ws.length n)]:=by rw [qA hn,bk2]; rfl
   exact⟨_,rfl,_,rfl,ws,ls,n,rfl,trivial,tk.symm⟩
  ·rintro acc rfl
   rw [b8,bp3]
   exact⟨_,rfl,trivial,by simpa using q⟩
theorem cU.noscr {x:PV}{ns:List Int} (h:cU x ns):∀ ms,([x]:List PV) ≠ [.scr ms]:=by
 rcases h with rfl | rfl <;> intro ms z <;> cases z
structure DS (ps:List (aH × PV)) (S:List Int):Prop where
 has:∀ i:Int,(cL ps (Sum.inl i:aH)).isSome=decide (i ∈ S)
 len:ps.length<=S.length
 fl:flats (ps.map (·.2))=true
theorem DS.nil:DS [] []:=⟨fun i=>rfl,bi8 _,rfl⟩
section
variable {κ : Type} [DecidableEq κ]
theorem k8 {p:κ × PV}{r:List (κ × PV)}{k:κ} (e:p.1=k):cL (p :: r) k=some p.2:=by simp [cL,bt4,e]
theorem k9 {p:κ × PV}{r:List (κ × PV)}{k:κ} (e : ¬ p.1=k):cL (p :: r) k=cL r k:=by simp [cL,bt4,e]
theorem tE (k:κ):∀ kvs:List (κ × PV),(kvs.any fun kv=>decide (kv.1=k))=(cL kvs k).isSome
 | []=>rfl
 | p :: r=>by
  rw [bv9]
  by_cases e:p.1=k
  ·simp only [k8 e,bi6 e,Bool.true_or,Option.isSome_some]
  ·rw [k9 e,bj5 e,Bool.false_or]; exact tE k r
theorem V2 (k j:κ) (y:PV):∀ kvs:List (κ × PV),cL (kvs.map fun kv=>if kv.1=k then (kv.1,y) else kv) j=(cL kvs j).map fun x=>if j=k then y else x
 | []=>rfl
 | p :: r=>by
  have ih:=V2 k j y r
  rw [bm0]
  by_cases h:p.1=k
  ·rw [if_pos h]
   by_cases e:p.1=j
   ·rw [k8 (p:=(p.1,y)) e,k8 e,Option.map_some,if_pos (e.symm.trans h)]
   ·rw [k9 (p:=(p.1,y)) e,k9 e,ih]
  ·rw [if_neg h]
   by_cases e:p.1=j
   ·rw [k8 (p:=p) e,k8 e,Option.map_some,if_neg (fun z=>h (e.trans z))]
   ·rw [k9 (p:=p) e,k9 e,ih]
theorem V3 (k j:κ) (y:PV):∀ kvs:List (κ × PV),cL kvs k=none->cL (kvs ++ [(k,y)]) j=if j=k then some y else cL kvs j
 | [],_=>by
  by_cases e:k=j
  ·rw [if_pos e.symm]; exact k8 (p:=(k,y)) e
  ·rw [if_neg (fun z=>e z.symm)]; exact k9 (p:=(k,y)) e
 | p :: r,hn=>by
  rw [List.cons_append]
  have hk : ¬ p.1=k:=fun z=>by rw [k8 z] at hn; cases hn
  rw [k9 hk] at hn
  have ih:=V3 k j y r hn
  by_cases e:p.1=j
  ·rw [k8 e,k8 e,if_neg (fun z=>hk (e.trans z))]
  ·rw [k9 e,k9 e,ih]
theorem aJ9 (kvs:List (κ × PV)) (k j:κ) (y:PV):cL (fN kvs k y) j=if j=k then some y else cL kvs j:=by
 unfold fN
 by_cases a:(kvs.any fun kv=>decide (kv.1=k))=true
 ·rw [if_pos a,V2]
  rw [tE] at a
  by_cases e:j=k
  ·obtain ⟨x,hx⟩:=Option.isSome_iff_exists.mp a
   rw [if_pos e,e,hx,Option.map_some,if_pos rfl]
  ·rw [if_neg e]
   cases cL kvs j with
   | none=>rfl
   | some x=>rw [Option.map_some,if_neg e]
 ·rw [if_neg a]
  refine V3 k j y kvs ?_
  rw [tE] at a
  cases q:cL kvs k with
  | none=>rfl
  | some x=>rw [q] at a; exact (a rfl).elim
theorem aK0 (kvs:List (κ × PV)) (k:κ) (v:PV):(fN kvs k v).length<=kvs.length+1:=by
 unfold fN
 split
 ·rw [bi4]; omega
 ·rw [bj4,bk9,List.length_nil]; omega
end
theorem xP:∀ (xs:List PV),flats xs=true ↔ ∀ x ∈ xs,flat x=true
 | []=>by simp [flats]
 | x :: r=>by
  unfold flats
  rw [bm2,xP r]; simp
theorem aK1 {κ:Type} [DecidableEq κ] {ps:List (κ × PV)}{k:κ}{v:PV}{p:κ × PV} (h:p ∈ fN ps k v):p.2=v ∨ p ∈ ps:=by
 unfold fN at h
 split at h
 ·obtain ⟨q,hq,e⟩:=bj8.mp h
  split at e
  ·subst e; exact .inl rfl
  ·subst e; exact .inr hq
 ·rcases bi7.mp h with h | h
  ·exact .inr h
  ·rw [bi3.mp h]; exact .inl rfl
theorem aK2 {κ:Type} [DecidableEq κ] {ps:List (κ × PV)}{k:κ}{v:PV} (h:flats (ps.map (·.2))=true) (hv:flat v=true):flats ((fN ps k v).map (·.2))=true:=by
 rw [xP] at h ⊢
 intro x hx
 obtain ⟨p,hp,rfl⟩:=bj8.mp hx
 rcases aK1 hp with e | e
 ·rw [e]; exact hv
 ·exact h _ (bj8.mpr ⟨p,e,rfl⟩)
theorem DS.put {ps:List (aH × PV)}{S:List Int} (h:DS ps S) (x:Int) (v:PV) (hv:flat v=true):DS (fN ps (Sum.inl x:aH) v) (S ++ [x]):=by
 refine⟨fun i=>?_,?_,aK2 h.fl hv⟩
 ·rw [aJ9]
  by_cases e:i=x
  ·subst e; rw [if_pos rfl]; simp
  ·rw [if_neg (fun z=>e (Sum.inl.inj z)),h.has]
   simp [e]
 ·have:=aK0 ps (Sum.inl x:aH) v
  have:=h.len
  rw [bj4,bm8]; omega
noncomputable def nS:bK:=fun xs Q=>∃ x ns,xs = [x]/\cU x ns/\ns.length<=1000/\∀ ps,DS ps ns->Q (.dK ps)
noncomputable def V4:aK:=(aE (dR 1 (qC (.dK [])))
 (aE (dS (cR (a5 0)) (bX 2)
  (pO 1 (a5 2) (qC (.bl true))))
 (j4 1)))
theorem aK3:cI V4 ["hearths","inside","hearth"] nS:=by
 rintro xs Q ⟨x,ns,rfl,hx,hl,q⟩
 refine⟨rfl,rfl,_,rfl,_,hx.seq,qE hx,fun i ρ=>∃ y ps,ρ = [some (.sh (flat x) x),some (.own (.dK ps)),y]/\DS ps (ns.take i),⟨none,[],rfl,DS.nil⟩,?_,?_⟩
 ·rintro i y ρ hy ⟨y0,ps,rfl,d⟩
  obtain ⟨n,rfl,hn⟩:=gV hy
  have hlen:=d.len
  rw [bo1] at hlen
  refine⟨_,rfl,_,rfl,Sum.inl n,rfl,trivial,by omega,_,_,rfl,?_⟩
  rw [bm4,hn]
  exact d.put n _ rfl
 ·rintro ρ ⟨y,ps,rfl,d⟩
  rw [b8,bp3] at d
  exact⟨_,rfl,trivial,q ps d⟩
noncomputable def bT (n:Nat) (ls:List (Int × Int)):List PV:=(List.range n).map fun (k:Nat)=>PV.lst (intz (aN ls k))
noncomputable def iQ:bK:=fun xs Q=>∃ ws ls,xs = [b6 ws ls]/\Wb ws ls/\Q (.lst (bT ws.length ls))
theorem tF {n:Nat}{ls:List (Int × Int)}{h:Int} (h0:0<=h) (h1:h < (n:Int)):atI (bT n ls) h=some (.lst (intz (aN ls h))):=by
 refine lQ h0 ?_
 unfold bT
 rw [bj2,List.getElem?_range (by omega)]
 show some (PV.lst (intz (aN ls ((h.toNat:Nat):Int))))=_
 rw [show ((h.toNat:Nat):Int)=h by omega]
theorem V5 {ws:List Int}{h:Int} (h0:0<=h) (h1:h < (ws.length:Int)):atI (intz ws) h=some (.int (ws.getD h.toNat 0)):=by
 refine lQ h0 ?_
 have:h.toNat < ws.length:=by omega
 rw [bj2,bj0,bi2 this]; rfl
noncomputable def tups (rs:List (List Int)):List PV:=rs.map fun r=>PV.tup (intz r)
theorem tG (rs:List (List Int)):(tups rs).length=rs.length:=bi4 _
theorem eB {n:Nat}{ns:List Int} (h:bE n ns=true):iO ns=true/\∀ x ∈ ns,0<=x/\x < (n:Int):=by
 unfold bE at h
 rw [bm2,bq9] at h
 refine⟨h.1,fun x hx=>?_⟩
 have:=h.2 _ (bj8.mpr ⟨x,hx,rfl⟩)
 unfold inB at this
 simpa using this
theorem qF {n:Nat}{ns:List Int} (h:bE n ns=true):ns.length<=n:=by
 obtain ⟨h1,h2⟩:=eB h
 have:=aJ5 (ws:=List.replicate n (0:Int)) (gC h1) (by rw [bs8]; exact h2)
 rw [bs8] at this
 omega
end Core
namespace PP
open PySem L2
noncomputable def xQ (te:aG):aG:=fun ρ Q=>te ρ fun x _=>∃ n:Int,x = .int n/\0<=n/\n<=1000000/\Q (.lst (fM 0 n.toNat)) .fr
noncomputable def qG:List PV->(PV->Prop)->Prop:=fun xs Q=>∃ ys:List (List Int),xs = [.lst (ys.map fun r=>PV.tup (intz r))]/\ys.length < 64/\(∀ y ∈ ys,y ≠ [])/\∀ zs:List (List Int),zs.Perm ys->zs.Pairwise (fun u v=>HT.eJ v u=false)->Q (.lst (zs.map fun r=>PV.tup (intz r)))
end PP
namespace Core
open PySem L2 PP
theorem aK4 (g:Tg) (n:Int):Nw g (.int n):=by cases g <;> first | exact trivial | rfl
noncomputable def qH (x:PV) (ns:List Int):Prop:=x = .scr ns ∨ x = .lst (intz ns)
theorem qH.seq {x:PV}{ns:List Int} (h:qH x ns):jS x=some (intz ns):=by rcases h with rfl | rfl <;> rfl
theorem qH.len {x:PV}{ns:List Int} (h:qH x ns):wV x=some ns.length:=by
 rcases h with rfl | rfl
 ·rfl
 ·show some (intz ns).length=_
  rw [b8]
noncomputable def fC:bK:=fun xs Q=>∃ x ns k,xs = [x,.int k]/\qH x ns/\0<=k/\Q (.int (ns.getD k.toNat 0))
noncomputable def V6:aK:=(aE (cD (bD (nI (a5 1) (aB dH (a6 (a5 0) a9)))) (bN (bA (a5 0) (a5 1))) cH)
 (bN (qC (.int 0))))
theorem aK5:cI V6 ["script","k"] fC:=by
 rintro xs Q ⟨x,ns,k,rfl,hx,h0,q⟩
 refine⟨_,rfl,_,rfl,_,_,rfl,hx.len,_,_,rfl,rfl,_,rfl,?_⟩
 by_cases h:k < (ns.length:Int)
 ·rw [bi6 h]
  exact bJ ⟨_,rfl,_,rfl,_,_,_,hx.seq,rfl,V5 h0 h,aK4 _ _,q⟩
 ·rw [bj5 h]
  rw [bj0,bs9 (by omega)] at q
  exact bF ⟨trivial,q⟩
noncomputable def aV (ls:List (Int × Int)):List PV:=ls.map fun l=>PV.tup [.int l.1,.int l.2]
theorem iR (ls:List (Int × Int)):(aV ls).length=ls.length:=bi4 _
noncomputable def jB (l m:Int × Int):Prop:=l.1 < m.1 ∨ (l.1=m.1/\l.2 < m.2)
noncomputable abbrev si (n:Int):Option Slot:=some (.sh true (.int n))
noncomputable def tH:bK:=fun xs Q=>∃ i,xs = [.int i]/\Q (.bl true)
noncomputable def V7 (K:PySem.W.Frag):aK:=(bN (pH (lV K "int" (a5 0)) (wO (lV K "bool" (a5 0)))))
theorem cU.len {x:PV}{ns:List Int} (h:cU x ns):wV x=some ns.length:=by
 rcases h with rfl | rfl <;> (show some (intz ns).length=_; rw [b8])
theorem aK6 {K:PySem.W.Frag} (k1:PySem.W.kitOne K (.type "int") (.type "int")=some true) (k2:PySem.W.kitOne K (.type "int") (.type "bool")=some false):cI (V7 K) ["found"] tH:=by
 rintro xs Q ⟨i,rfl,q⟩
 exact⟨_,rfl,_,_,rfl,k1,_,rfl,bJ ⟨_,rfl,_,_,rfl,k2,_,rfl,trivial,q⟩⟩
theorem tI {ls:List (Int × Int)}{i:Nat}{x:PV} (h:(aV ls)[i]? = some x):∃ l,x = .tup [.int l.1,.int l.2]/\ls[i]? = some l:=by
 unfold aV at h
 rw [bj2] at h
 cases e:ls[i]? with
 | none=>rw [e] at h; cases h
 | some n=>rw [e] at h; exact⟨n,(bl2 h).symm,rfl⟩
end Core
namespace PP
open PySem L2 PyProof.Rows
theorem Reps.rep {K:PySem.W.Frag}{M:Addr->Prop}{H:Hp}{us:List V}{xs:List PV} (r:Reps K M H us xs):∀ k:Nat,Reps K M H (List.replicate k us).flatten (List.replicate k xs).flatten
 | 0=>.nil
 | k+1=>by rw [bn1,bn1,bs7,bs7]; exact r.append (Reps.rep r k)
section
variable {X : Cx} {a b e : Expr} {ta tb te : aG} {tr : cG} {pos p2 p3 pos2 : Pos}
theorem aK7 {tA:TA} (hg:Gl X "range") (hm:X.mg "range" = none) (ha:PA X [a] tA) (hs:starEach [a] X.env = [(false,eval a X.env)]:=by rfl) :
  PE X (.Call (.Name "range" p2) [a] [] pos) (fun σ H Q=>tA σ H fun vs H1=>∃ j:Int,vs = [.int j]/\∀ r,H1 r=none->Q (.ref r) (upd H1 r (.rng 0 j))):=by
 intro pins s σ H Q I h
 refine Call_ (jG I hg hm boot_range (bp6 (aQ (ha pos pins s σ H _ I h) fun us s1 ⟨vs,H1,I1,r1,q1⟩=>?_) hs rfl))
 obtain ⟨j,e,q⟩:=q1
 subst e
 cases r1 with
 | cons r rr=>
  cases rr
  obtain ⟨t,rfl⟩:=r
  refine call_range_1 ?_
  exact⟨.ref s1.heap.objs.size,_,I1.laid (o:=.rng 0 j) (fun b ob q=>bi1 _ q) (bi8 _) ⟨_,_,_,bk0 _ rfl⟩,rfl,q _ (I1.hok.fresh (bi8 _))⟩
theorem V8:∀ {xs:List V}{us:List Value},xs.length=us.length->(∀ (i:Nat) x u,xs[i]? = some x->us[i]? = some u->aZ x u)->aO xs us
 | [],[],_,_=>.nil
 | x :: xs,u :: us,hl,h=>.cons (h 0 x u rfl rfl) (V8 (by simpa using hl) fun i y w h1 h2=>h (i+1) y w (by rw [br6]; exact h1) (by rw [br6]; exact h2))
theorem aK8 {n:Nat}{acc:Array Value} (h:ItemsOf (fun i v=>∃ t,v = .int (0+(i:Int) * 1) t) acc n):aO (jN 0 n) acc.toList:=by
 obtain ⟨h1,h2⟩:=h
 refine V8 (by rw [vZ]; simp [h1]) fun i x u hx hu=>?_
 have hi:i < n:=by
  have:=(bi5.mp hx).1
  rwa [vZ] at this
 unfold jN at hx
 rw [bj2,List.getElem?_range hi] at hx
 cases hx
 obtain ⟨t,rfl⟩:=h2 i u (by rw [<- Array.getElem?_toList]; exact hu)
 exact⟨t,by congr 1; omega⟩
theorem aK9 (hc:X.calm=true):cX X (.type "list") (fun xs H Q=>∃ r j,xs = [.ref r]/\H r=some (.rng 0 j)/\0<=j/\j<=1000000/\∀ l,H l=none->Q (.ref l) (upd H l (.lst (jN 0 j.toNat)))):=by
 intro pins s σ H xs us Q I r h
 obtain ⟨p,j,rfl,hq,h0,h1,q⟩:=h
 obtain ⟨u,rfl,rx⟩:=hZ r
 cases rx
 obtain ⟨t,u,v,ho⟩:=(show bW X.prog X.w H s.heap p (.rng 0 j) from I.hok p _ hq)
 refine PySem.call_list_range (a:=0) (b:=j) (c:=1) (n:=j.toNat) (I.ok.hd hc) ho (small_one (by decide) (by decide) (by omega) (by omega)) (by rw [rangeSize_one]; split <;> omega) (by omega) fun h' tk acc' c' kp e it=>?_
 have vv:=aK8 it
 have eq:acc'.toList.toArray=acc':=by simp
 exact⟨.ref s.heap.objs.size,_,I.laid (t':=tk) (o:=.lst (jN 0 j.toNat)) kp (bi8 _) ⟨by rw [vZ]; exact lim (by omega),acc'.toList,c',vv,by rw [eq]; exact e⟩,rfl,q _ (I.hok.fresh (bi8 _))⟩
theorem aL0 {K:PySem.W.Frag}{M:Addr->Prop}{H:Hp} (lo:Int) (n:Nat):Reps K M H (jN lo n) (fM lo n):=by
 unfold jN fM
 generalize List.range n=l
 induction l with
 | nil=>exact .nil
 | cons a r ih=>exact .cons (.int _) ih
theorem V9 (B:Bt X.mg) (ha:QE X a ta) (hc:X.calm=true:=by rfl) (hg:Gl X "list":=by rfl) (hgr:Gl X "range":=by rfl) (hs:starEach [a] X.env = [(false,eval a X.env)]:=by rfl)
  (he:starEach [.Call (.Name "range" p3) [a] [] pos2] X.env=(false,eval (.Call (.Name "range" p3) [a] [] pos2) X.env) :: starEach [] X.env:=by rfl) (hpl:(backTo pos (starEach [] X.env)).any (·.1)=false:=by rfl) :
  QE X (.Call (.Name "list" p2) [.Call (.Name "range" p3) [a] [] pos2] [] pos) (xQ ta):=
 cF (F3 (aK9 hc) hg B.list PyProof.Rows.boot_list (cJ (aK7 hgr B.range (cJ ha dF hs) hs) dF he) (he:=he) (hpl:=hpl)) fun σ H Q' h=>by
  obtain ⟨W,ρ,Q,px,q,k⟩:=h
  refine⟨W,ρ,_,px,q,?_⟩
  rintro v H1 x g s r ⟨n,rfl,h0,h1,q⟩
  cases r
  refine⟨n,rfl,fun r hr=>⟨r,n,rfl,bI,h0,h1,fun l hl=>?_⟩⟩
  have S:aC H (upd (upd H1 r (.rng 0 n)) l (.lst (jN 0 n.toNat))):=(s.trans (bH hr _)).trans (bH hl _)
  exact k _ _ _ .fr S (.lst (((s.trans (bH hr _))).free hl) bI (aL0 0 n.toNat)) q
noncomputable def xR:V->Int
 | .int i=>i
 | _=>0
noncomputable def kA (H:Hp):V->List Int
 | .ref a=>match H a with
  | some (.tup us)=>us.map xR
  | _=>[]
 | _=>[]
theorem aL1 {H:Hp}{a:Addr}{ns:List Int} (h:H a=some (.tup (ns.map V.int))):kA H (.ref a)=ns:=by
 show (match H a with | some (.tup us)=>us.map xR | _=>[])=ns
 rw [h]
 show (ns.map V.int).map xR=ns
 rw [bm7]
 exact List.map_id _
theorem xS {K:PySem.W.Frag}{M:Addr->Prop}{H:Hp}:∀ {us:List V}{ys:List (List Int)},Reps K M H us (ys.map fun r=>PV.tup (intz r))->us.map (kA H)=ys/\∀ u ∈ us,∃ b,u = .ref b/\H b=some (.tup ((kA H u).map V.int))
 | _,[],.nil=>⟨rfl,fun u h=>nomatch h⟩
 | _,y :: ys,.cons r t=>by
  obtain ⟨a,us,rfl,h,r1⟩:=r.sqT
  obtain rfl:=r1.ofInts
  obtain ⟨h1,h2⟩:=xS t
  have hk:=aL1 h
  refine⟨by rw [bm0,h1,hk],fun u hu=>?_⟩
  rcases bj1.mp hu with rfl | hu
  ·exact⟨a,rfl,by rw [hk]; exact h⟩
  ·exact h2 u hu
theorem xT {K:PySem.W.Frag}{M:Addr->Prop}{H:Hp}:∀ {us:List V},(∀ u ∈ us,∃ b,u = .ref b/\H b=some (.tup ((kA H u).map V.int)))->Reps K M H us ((us.map (kA H)).map fun r=>PV.tup (intz r))
 | [],_=>.nil
 | u :: us,h=>by
  obtain ⟨b,rfl,hb⟩:=h u bi9
  exact .cons (.tup hb (Reps.intz _)) (xT fun v hv=>h v (bj7 _ hv))
theorem aL2:fZ X qG (N4 X.K):=by
 rintro H vs xs Q Q' r ⟨ys,rfl,hl,hne,q⟩ k
 obtain ⟨v,rfl,r1⟩:=r.one
 obtain ⟨a,us,rfl,_,h,r2⟩:=r1.sqL
 obtain ⟨h1,h2⟩:=xS r2
 have lr:=r2.length
 rw [bi4] at lr
 refine⟨a,us,kA H,rfl,aM.of h,by omega,fun y hy=>?_,fun l zs hl' pm so=>?_⟩
 ·obtain ⟨b,rfl,hb⟩:=h2 y hy
  refine⟨b,rfl,aJ.of hb,hne _ ?_⟩
  rw [<- h1]; exact bj8.mpr ⟨_,hy,rfl⟩
 ·have hz:∀ u ∈ zs,∃ b,u = .ref b/\H b=some (.tup ((kA H u).map V.int)):=fun u hu=>h2 u (pm.mem_iff.mp hu)
  refine k _ _ _ (bH hl' _) (.lst hl' bI ((xT hz).same (bH hl' _) fun _ z=>z)) (q _ ?_ ?_)
  ·rw [<- h1]; exact pm.map _
  ·rw [bo3]; exact so
theorem W0 (B:Bt X.mg) (ha:QA X [e] tr) (hg:Gl X "sorted":=by rfl) (he:starEach [e] X.env=(false,eval e X.env) :: starEach [] X.env:=by rfl) (hpl:(backTo pos (starEach [] X.env)).any (·.1)=false:=by rfl):QE X (.Call (.Name "sorted" p2) [e] [] pos) (aB qG tr):=
 j8 ax3 aL2 hg B.sorted PyProof.Rows.boot_sorted ha (he:=he) (hpl:=hpl)
end
noncomputable def W5 (K:PySem.W.Frag):Sp:=fun vs H Q _=>∃ (a:Addr) (ns:List Int),vs = [.ref a]/\(aJ K H a (ns.map V.int) ∨ aM K H a (ns.map V.int))/\ns.length<=1000/\∀ H',aC H H'->Q (.bl (Core.iO ns)) H'
noncomputable def tJ:Sp:=fun vs H Q _=>∃ v ws ls,vs = [v]/\N8 H v ws ls/\ws.length<=1000/\ls.length<=2000/\(∀ l ∈ ls,(0<=l.1/\l.1 < ws.length)/\0<=l.2/\l.2 < ws.length)/\
 ∀ (r:Addr) (bs:List Addr) (H':Hp),bs.length=ws.length->iJ H H' r bs (fun k=>aN ls k)->Q (.ref r) H'
section
variable {P : Program} {w : World} {K : PySem.W.Frag} {mg : Str → Option Value} {base : Heap} {f : Addr} {fd : FuncData} {k : Nat}
theorem aL3 (F:cY P w K mg base e9 k f fd ["things"] (W5 K)) (b:iG K fd ["things"] []) (kp:PySem.W.keepIn K (.ref f)=true) (m:mg "rises" = some (.ref f)):Df P w K mg base k "rises" ["things"] Core.xO:=by
 refine⟨f,fd,F.imp fun vs H Q E h=>?_,b,kp,m⟩
 obtain ⟨xs,Qp,r,⟨x,ns,rfl,hx,hl,q⟩,k⟩:=h
 obtain ⟨v,rfl,r1⟩:=r.one
 rcases hx with rfl | rfl
 ·obtain ⟨a,us,rfl,h,r2⟩:=r1.sqT
  obtain rfl:=r2.ofInts
  exact⟨a,ns,rfl,.inl (aJ.of h),hl,fun H' s=>k _ H' _ s (.bl _) q⟩
 ·obtain ⟨a,us,rfl,_,h,r2⟩:=r1.sqL
  obtain rfl:=r2.ofInts
  exact⟨a,ns,rfl,.inr (aM.of h),hl,fun H' s=>k _ H' _ s (.bl _) q⟩
theorem W6 {M:Addr->Prop}{H:Hp}:∀ {us:List V}{ls:List (Int × Int)},Reps K M H us (ls.map fun l=>PV.tup [.int l.1,.int l.2])->pD H us ls
 | _,[],.nil=>.nil
 | _,l :: ls,.cons r t=>by
  obtain ⟨a,us,rfl,h,r1⟩:=r.sqT
  obtain ⟨u1,u2,rfl,q1,q2⟩:=r1.two
  cases q1; cases q2
  exact .cons ⟨a,rfl,h⟩ (W6 t)
theorem W7 {M:Addr->Prop}{H:Hp}{v:V}{ws:List Int}{ls:List (Int × Int)} (r:aI K M H v (Core.b6 ws ls)):N8 H v ws ls:=by
 obtain ⟨a,us,rfl,h,r1⟩:=aI.sqT r
 obtain ⟨u1,u2,rfl,q1,q2⟩:=r1.two
 obtain ⟨p,up,rfl,hp,rp⟩:=q1.sqT
 obtain ⟨q,uq,rfl,hq,rq⟩:=q2.sqT
 obtain rfl:=rp.ofInts
 exact⟨a,p,q,uq,rfl,h,hp,hq,W6 rq⟩
theorem xV {M:Addr->Prop}{H:Hp}:∀ {bs:List Addr}{ls:List (Int × Int)} (off:Nat),(∀ b ∈ bs,M b)->(∀ (k:Nat) b,bs[k]? = some b->H b=some (.lst ((aN ls ((off+k:Nat):Int)).map V.int)))->Reps K M H (bs.map V.ref) ((List.range' off bs.length).map fun (k:Nat)=>PV.lst (intz (aN ls k)))
 | [],_,_,_,_=>.nil
 | b :: bs,ls,off,hm,h=>by
  refine .cons (.lst (hm b bi9) (h 0 b rfl) (Reps.intz _)) (xV (off+1) (fun c hc=>hm c (bj7 _ hc)) fun k c hk=>?_)
  have:=h (k+1) c (by rw [br6]; exact hk)
  rw [show off+1+k=off+(k+1) by omega]; exact this
theorem aL4 (F:cY P w K mg base e9 k f fd ["web"] tJ) (b:iG K fd ["web"] []) (kp:PySem.W.keepIn K (.ref f)=true) (m:mg "near_lists" = some (.ref f)):Df P w K mg base k "near_lists" ["web"] Core.iQ:=by
 refine⟨f,fd,F.imp fun vs H Q E h=>?_,b,kp,m⟩
 obtain ⟨xs,Qp,r,⟨ws,ls,rfl,wb,q⟩,k⟩:=h
 obtain ⟨v,rfl,r1⟩:=r.one
 have:=wb.few
 have:=wb.most
 refine⟨v,ws,ls,rfl,W7 r1,by omega,by omega,wb.links,fun t bs H' hb R=>k _ H' _ R.same (.lst R.new R.row ?_) q⟩
 have:=xV (K:=K) (M:=fun a=>H a=none) (H:=H') (bs:=bs) (ls:=ls) 0 (fun b hb=>(R.news b hb).1) fun k b hk=>by rw [Nat.zero_add]; exact R.rows k b hk
 rw [hb,<- List.range_eq_range'] at this
 exact this
end
end PP
namespace Core
open PySem L2 PP
theorem aL5 (n:Nat):fM 0 n=intz (rng n):=by
 unfold fM rng
 show _=List.map PV.int (List.map (fun (i:Nat)=>(i:Int)) (List.range n))
 rw [bm7]
 refine br1 fun i _=>?_
 show PV.int (0+(i:Int))=PV.int (i:Int)
 rw [bx0]
theorem aL6 (n:Nat):(rng n).Nodup:=by
 unfold rng
 rw [List.nodup_iff_pairwise_ne,bo3]
 exact (List.nodup_range (n:=n)).imp fun h e=>h (by omega)
noncomputable def two (l:Int × Int):List Int:=[l.1,l.2]
noncomputable def qI (r:List Int):Int × Int:=(r.getD 0 0,r.getD 1 0)
theorem nT (ls:List (Int × Int)):aV ls=(ls.map two).map fun r=>PV.tup (intz r):=by
 unfold aV
 rw [bm7]; rfl
theorem xW {zs:List (List Int)}{ls:List (Int × Int)} (h:zs.Perm (ls.map two)):∃ ls':List (Int × Int),zs=ls'.map two/\ls'.Perm ls:=by
 refine⟨zs.map qI,?_,?_⟩
 ·rw [bm7]
  have:∀ z ∈ zs,(two ∘ qI) z=z:=fun z hz=>by
   obtain ⟨l,_,rfl⟩:=bj8.mp (h.mem_iff.mp hz)
   rfl
  rw [br1 this,List.map_id']
 ·have:=h.map qI
  rw [bm7] at this
  have e:ls.map (qI ∘ two)=ls:=by
   have:∀ l ∈ ls,(qI ∘ two) l=id l:=fun l _=>rfl
   rw [br1 this,List.map_id]
  rw [e] at this
  exact this
theorem W8 {ls:List (Int × Int)} (so:(ls.map two).Pairwise fun u v=>HT.eJ v u=false) (nd:ls.Nodup):ls.Pairwise jB:=by
 rw [bo3] at so
 refine (List.pairwise_and_iff.mpr ⟨so,nd⟩).imp fun {a b} h=>?_
 obtain ⟨h1,h2⟩:=h
 unfold two at h1
 rw [HT.mP] at h1
 unfold jB
 by_cases e:b.1=a.1
 ·rw [if_pos e,HT.mP] at h1
  by_cases e2:b.2=a.2
  ·exact absurd (Prod.ext e.symm e2.symm) h2
  ·rw [if_neg e2] at h1
   have:=of_decide_eq_false h1
   omega
 ·rw [if_neg e] at h1
  have:=of_decide_eq_false h1
  omega
structure qJ (i:Int) (ms:List Int):Prop where
 up:ms.Pairwise (· < ·)
 inn:∀ x ∈ ms,0<=x/\x < i
 len:(ms.length:Int)<=i
theorem qJ.set {n:Nat}{ms:List Int} (h:qJ (n:Int) ms):bE n ms=true:=by
 unfold bE
 rw [t8 h.up,Bool.true_and,bq9]
 intro b hb
 obtain ⟨x,hx,rfl⟩:=bj8.mp hb
 have:=h.inn x hx
 unfold inB
 simp [this]
noncomputable def fD (n:Nat) (S:List Int):List PV:=(rng n).map fun i=>PV.bl (decide (i ∈ S))
theorem nU (n:Nat) (S:List Int):(fD n S).length=n:=by unfold fD; rw [bi4,dM]
theorem W9 {n:Nat}{S:List Int}{x:Int} (h0:0<=x) (h1:x < (n:Int)):atI (fD n S) x=some (.bl (decide (x ∈ S))):=by
 refine lQ h0 ?_
 unfold fD
 rw [bj2,nR (by omega)]
 show some (PV.bl (decide (((x.toNat:Nat):Int) ∈ S)))=_
 rw [show ((x.toNat:Nat):Int)=x by omega]
theorem aL7 {n:Nat}{S:List Int}{x:Int} (h0:0<=x) (h1:x < (n:Int)):(fD n S).set x.toNat (.bl true)=fD n (S ++ [x]):=by
 refine List.ext_getElem? fun i=>?_
 by_cases hi:i < n
 ·have e1:(fD n (S ++ [x]))[i]? = some (.bl (decide ((i:Int) ∈ S ++ [x]))):=by unfold fD; rw [bj2,nR hi]; rfl
  rw [e1]
  by_cases e:i=x.toNat
  ·subst e
   rw [bn3 (by rw [nU]; exact hi)]
   have:(((x.toNat:Nat):Int) ∈ S ++ [x]):=by rw [show ((x.toNat:Nat):Int)=x by omega]; simp
   rw [bi6 this]
  ·rw [bl1 (Ne.symm e)]
   unfold fD
   rw [bj2,nR hi]
   have:decide ((i:Int) ∈ S ++ [x])=decide ((i:Int) ∈ S):=by
    rw [bp8]; simp; omega
   rw [this]; rfl
 ·rw [bs9 (by rw [bm3,nU]; omega),bs9 (by rw [nU]; omega)]
theorem xX:∀ {a b:List Int},a.Perm b->a.Pairwise (· <= ·)->b.Pairwise (· <= ·)->a=b:=by
 intro a b h ha hb
 exact h.eq_of_pairwise (fun x y _ _ h1 h2=>Int.le_antisymm h1 h2) ha hb
noncomputable def X0:bK:=fun xs Q=>∃ ns:List Int,xs = [.scr ns]/\ns.length<=63/\Q (.bl true)
structure aL8 (K:PySem.W.Frag):Prop where
 ii:PySem.W.kitOne K (.type "int") (.type "int")=some true
 ib:PySem.W.kitOne K (.type "int") (.type "bool")=some false
 tt:PySem.W.kitOne K (.type "tuple") (.type "tuple")=some true
 ll:PySem.W.kitOne K (.type "list") (.type "list")=some true
 bb:PySem.W.kitOne K (.type "bool") (.type "bool")=some true
theorem xY (K:PySem.W.Frag):aL8 K:=by
 have same:∀ n:String,PySem.W.kitMeta n=true->True:=fun _ _=>trivial
 refine⟨?_,?_,?_,?_,?_⟩
 ·unfold PySem.W.kitOne; rw [if_pos (by decide)]
 ·have e:(if PySem.W.kitMeta "bool" = true then (fastBuiltinMro "int").map (·.contains (Value.type "bool")) else none)=some false:=by decide +kernel
  unfold PySem.W.kitOne
  rw [if_neg (by decide)]
  exact e
 ·unfold PySem.W.kitOne; rw [if_pos (by decide)]
 ·unfold PySem.W.kitOne; rw [if_pos (by decide)]
 ·unfold PySem.W.kitOne; rw [if_pos (by decide)]
end Core
namespace PP
open PySem L2 PyProof.Rows
theorem aL9 {P:Program}{w:World}{K:PySem.W.Frag}{mg:Str->Option Value}{base:Heap}{k:Nat}{x:Str}{ps N:List Str}{p:bK}{st:Stmt}{f:Addr}{fd:FuncData} (F:fI K x x st f fd) (S:FnScope N ps (aY st))
  (len:∀ xs Q,p xs Q->xs.length=ps.length)
  (body:∀ (cdv:Value) (A:Around) (outer:List Env) (s:Shared) (H:Hp) (E:XK),cC k (A.deeper (envOfC x (aY st) s.heap.objs.size f cdv))->
   ∃ t,fA (dP e9 P w K mg base N x (aY st) f cdv A outer s H E).nox (fH st) t/\∀ xs Q,p xs Q->t { nx:=fun _=>Q .non,rt:=Q } (gJ N xs)):cY P w K mg base e9 (k+1) f fd ps (pK K p):=by
 refine F.ok S (fun vs H Q E h=>?_) (fun cdv A outer s H vs Q E hr h=>?_)
 ·obtain ⟨xs,Qp,r,q,_⟩:=h
  rw [r.length]; exact len xs Qp q
 ·obtain ⟨xs,Qp,r,q,k⟩:=h
  obtain ⟨t,ht,hq⟩:=body cdv A outer s H E hr
  refine⟨_,ht,fun _=>False,gJ N xs,_,xI r,hq xs Qp q,?_,?_,?_,?_⟩
  ·exact fun W' σ' H' ρ' e px q=>k _ _ _ px.same .non q
  ·exact fun v H' x s r q=>k _ _ _ s r q
  ·exact fun W' σ' H' ρ' e px q=>q
  ·exact fun W' σ' H' ρ' e px q=>q
noncomputable def tK (K:PySem.W.Frag):Sp:=fun vs H Q _=>∃ (a:Addr) (ns:List Int),vs = [.ref a]/\jQ K H a ns/\ns.length<=63/\∀ H',Q (.bl true) H'
theorem aM0 {P:Program}{w:World}{K:PySem.W.Frag}{mg:Str->Option Value}{base:Heap}{k:Nat}{f:Addr}{fd:FuncData} (F:cY P w K mg base e9 k f fd ["script"] (pK K Core.X0)):cY P w K mg base e9 k f fd ["script"] (tK K):=
 F.imp fun vs H Q E h=>by
  obtain ⟨a,ns,rfl,hs,hl,q⟩:=h
  refine⟨[.scr ns],fun z=>z = .bl true,.cons (.scr hs) .nil,⟨ns,rfl,hl,rfl⟩,?_⟩
  rintro v H' x _ r rfl
  cases r
  exact q H'
theorem aM1 {K:PySem.W.Frag}{H:Hp}{a:Addr}{ns:List Int} (hO:rL H) (h:aM K H a (ns.map V.int)):jQ K H a ns:=by
 rcases h with (h | ⟨o,h⟩) | h
 ·rcases hO a with e | ⟨o,xs,e⟩ <;> (rw [h] at e; cases e)
 ·exact .inl ⟨o,h⟩
 ·exact .inr h
end PP
namespace PyProof.Rows
open PySem
section
variable {prog : Program} {w : World} {A : Around} {E : Value → Shared → Prop} {s : Shared}
theorem X1 {l:Addr}{vs:List Value}{Q:List Value->Shared->Prop} (hl:s.heap.IsTuple l vs.toArray)
  (h:Q vs { s with heap:=(s.heap.push (seqObj "list" #[] 0)).update s.heap.objs.size (Obj.mapSeq (· ++ vs.toArray)) }) (hsz:vs.length<=sizeLine) :
  wpAny (model prog w) A (collect (.ref l)) Q E s:=by
 obtain ⟨o,ho,hc,n,hd⟩:=id hl
 unfold collect
 refine bh8 (wpAny_runValue (codeAny_builtin entry_proto_collect' ?_))
 show wpAny _ _ (do again (.builtin "list.__iadd__" ⟨[<- newList [],.ref l],[]⟩)) _ _ s
 refine bh8 (wpAny_newList (bj3 ⟨Code.quiet_builtin _ (by decide +kernel),codeAny_builtin entry_list_iadd' ?_⟩))
 show wpAny _ _ (Builtin.List.listExtendWith (.ref s.heap.objs.size) (.ref l) (.ref s.heap.objs.size)) _ _ { s with heap:=s.heap.push (seqObj "list" #[] 0) }
 unfold Builtin.List.listExtendWith
 have ho':(s.heap.push (seqObj "list" #[] 0)).get? l=some o:=bi1 _ ho
 refine bh8 (wpAny_typeOf (T:="tuple") ⟨o,ho',hc⟩ ?_)
 have ht:(Value.type "tuple" == Value.type "tuple")=true:=by rfl
 rw [if_pos (by rw [ht]; simp)]
 refine bh8 (listItems_at ho' hd ?_)
 refine bh8 (listItems_at (xs:=#[]) (n:=0) (bk0 _ rfl) rfl ?_)
 rw [if_neg (by simp)]
 refine bh8 (listUpdate_at (xs:=#[]) (n:=0) (bk0 _ rfl) rfl ?_ (bm9 _) (by show (#[] ++ vs.toArray).size<=sizeLine+1; simp only [Array.size_append,bh9,List.length_nil]; omega))
 refine bj3 ?_
 show wpAny (model prog w) A (do
   let o <- load s.heap.objs.size
   match o.data with
   | .seq xs _=>pure xs.toList
   | _=>unsupported "internal:collect") Q E { s with heap:=(s.heap.push (seqObj "list" #[] 0)).update s.heap.objs.size (Obj.mapSeq (· ++ vs.toArray)) }
 refine bh8 (wpAny_load (get?_update_seq (bk0 _ rfl) _) ?_)
 show wpAny _ _ (pure ((#[]:Array Value) ++ vs.toArray).toList) Q E _
 rw [show ((#[]:Array Value) ++ vs.toArray).toList=vs by simp]
 exact bj3 h
end
end PyProof.Rows
namespace PP
open PySem L2 PyProof.Rows
section
variable {X : Cx} {a b e : Expr} {ta tb te : aG} {tr : cG} {pos p2 : Pos}
noncomputable def X2:PV->Tg->PV->Tg->PK->Prop:=fun x _ y _ Q=>∃ xs ys,x = .lst xs/\y = .lst ys/\flats xs=true/\flats ys=true/\xs.length+ys.length<=16000000/\Q (.lst (xs ++ ys)) .fr
noncomputable abbrev xZ (ta tb:aG):aG:=q2 X2 ta tb
theorem aM2:eM X X2 vJ:=by
 rintro W Hs H u v x y g g' Q Q' s n r1 r2 ⟨xs,ys,rfl,rfl,f1,f2,hl,q⟩ k
 obtain ⟨a,us,rfl,_,h1,q1⟩:=r1.sqL
 obtain ⟨b,ws,rfl,_,h2,q2⟩:=r2.sqL
 have l1:=q1.length
 have l2:=q2.length
 refine⟨a,b,us,ws,rfl,rfl,h1,h2,lim (by omega),fun p hp=>k _ _ _ .fr (bH hp _) (.lst (s.free hp) bI (((q1.flat f1).append (q2.flat f2)).same (bH hp _) fun _ z=>z)) q⟩
theorem X3 (ha:QE X a ta) (hb:QE X b tb):QE X (.BinOp a .Add b pos) (xZ ta tb):=j7 J2 aM2 ha hb
end
end PP
namespace Zp
open PySem PyProof.Rows
theorem aM3 (t b:Addr) (xs ys:Array Value) (n n2:Nat) (dd dd2:Option Addr) (sl sl2:Array (Option Value)) (hx:xs.isEmpty=true):Meets (Builtin.«tuple.__add__» ⟨[.ref t,.ref b],[]⟩)
  (fun _ R s=>s.heap.get? t=some { cls:=.type "tuple",dict:=dd,data:=.seq xs n,slots:=sl }/\s.heap.get? b=some { cls:=.type "tuple",dict:=dd2,data:=.seq ys n2,slots:=sl2 }/\R (.ok (.ret (.ref b))) s):=
 .of_wp fun prog w A R s h=>by
  obtain ⟨h1,h2,h⟩:=h
  have sub:isSubtype (Value.type "tuple") (Value.type "tuple")=pure true:=rfl
  wp_walk
  exact⟨_,rfl,h⟩
end Zp
namespace L2
open PySem PySem.Spec PyProof.Rows
section
variable {X : Cx}
noncomputable def X4 (K:PySem.W.Frag):R2:=fun x y H Q=>∃ a b xs ys,x = .ref a/\y = .ref b/\aJ K H a xs/\aJ K H b ys/\xs.length+ys.length<=sizeLine/\
 (xs = []->Q (.ref b) H)/\(xs ≠ []->ys = []->Q (.ref a) H)/\(xs ≠ []->ys ≠ []->∀ p,H p=none->Q (.ref p) (upd H p (.tup (xs ++ ys))))
theorem aM4:c9 X (binaryOp .Add) (X4 X.K):=by
 intro pins s σ H x y v u Q I rx ry h
 obtain ⟨a,b,xs,ys,ex,ey,ha,hb,hz,q0,q1,q2⟩:=h
 by_cases hx:xs = []
 ·subst ex ey
  cases rx
  cases ry
  obtain ⟨its,r1,p1,_⟩:=I.tuple ha
  obtain ⟨its2,r2,p2,_⟩:=I.tuple hb
  have hi:its = []:=r1.nil_iff.mpr hx
  obtain ⟨⟨cls,dd,data,sl⟩,ho,hc,n,hd⟩:=id p1
  obtain ⟨⟨cls2,dd2,data2,sl2⟩,ho2,hc2,n2,hd2⟩:=id p2
  simp only at hc hd hc2 hd2
  subst hc hd hc2 hd2
  exact concat_meets ⟨_,ho,rfl⟩ ⟨_,ho2,rfl⟩ noFill_tuple_add seq_tuple_add PySem.F.slot_tuple_add PySem.F.entry_tuple_add (PySem.F.args_tuple_add_2 _ _)
   (Zp.aM3 a b its.toArray its2.toArray n n2 dd dd2 sl sl2 (by simp [hi])) ⟨ho,ho2,⟨.ref b,H,I,rfl,q0 hx⟩⟩
 ·exact as3 pins s σ H x y v u Q I rx ry ⟨a,b,xs,ys,ex,ey,ha,hb,hx,hz,q1 hx,q2 hx⟩
end
end L2
namespace PP
open PySem L2 PyProof.Rows
section
variable {X : Cx} {e : Expr} {te : aG} {pos p2 : Pos} {scope : Scope} {N : List Str} {fr : List (Option Nat)} {x y : Str} {tp xp yp : Pos} {kt : Nat} {iter elt : Expr} {ti : g9}
noncomputable abbrev nV (x y:Str) (xp yp:Pos) (kt:Nat) (tp:Pos):Expr:=.Tuple [.Name x xp,.Name y yp] kt tp
theorem X5 {ifs:List Expr}{tcs:cK} (hc:X.calm=true) (he:∀ (s:Shared) (H:Hp) (C:Addr) (fp:List Addr),QE (bP X scope N s H C fp cT) elt te) (hi:∀ (s:Shared) (H:Hp) (C:Addr) (fp:List Addr),kO (bP X scope N s H C fp cT) ifs (LT (bP X scope N s H C fp cT) tcs))
  (hN:N.Nodup) (h0:N[0]? = some x) (h1:N[1]? = some y) (hl:∀ (s:Shared) (H:Hp) (C:Addr) (fp:List Addr),(bP X scope N s H C fp cT).env.scope.names.lookup x=some .local) (hl2:∀ (s:Shared) (H:Hp) (C:Addr) (fp:List Addr),(bP X scope N s H C fp cT).env.scope.names.lookup y=some .local) (s:Shared) (H:Hp) :
  mT X scope N (nV x y xp yp kt tp) ifs elt s H (lM X.K 2 (gO (cO 0) (gO (cO 1) lK))) (LT (X.frm H) tcs) (LE (X.frm H) te):=
 ⟨fun C fp=>mK (X:=bP X scope N s H C fp cT) hc (hJ (fG hN h0 (.inl (hl s H C fp)) (.inr (hl s H C fp))) (hJ (fG hN h1 (.inl (hl2 s H C fp)) (.inr (hl2 s H C fp))) mJ)),fun C fp=>hi s H C fp,fun C fp=>he s H C fp⟩
theorem yA (hi:QI X (nV x y xp yp kt tp) iter ti) (he:∀ (s:Shared) (H:Hp) (C:Addr) (fp:List Addr),QE (bP X scope N s H C fp cT) elt te)
  (hc:X.calm=true:=by rfl) (S:cP X scope N fr:=by exact cP.of rfl rfl) (hN:N.Nodup:=by decide +kernel) (h0:N[0]? = some x:=by rfl) (h1:N[1]? = some y:=by rfl) (hl:∀ (s:Shared) (H:Hp) (C:Addr) (fp:List Addr),(bP X scope N s H C fp cT).env.scope.names.lookup x=some .local:=by intro _ _ _ _; rfl) (hl2:∀ (s:Shared) (H:Hp) (C:Addr) (fp:List Addr),(bP X scope N s H C fp cT).env.scope.names.lookup y=some .local:=by intro _ _ _ _; rfl) (hf:fr[0]? = some none:=by rfl) (hf2:fr[1]? = some none:=by rfl)
  (hs:∀ x,foldedSetIterable iter X.env x=pure x:=by intro _; rfl):QE X (.ListComp elt [⟨nV x y xp yp kt tp,iter,[],0⟩] scope pos) (cZ ti fr (gU 0 1) dA te):=
 cF (vX (gh:=fun _=>lM X.K 2 (gO (cO 0) (gO (cO 1) lK))) (tch:=fun H=>LT (X.frm H) dA) (teh:=fun H=>LE (X.frm H) te) hc S hi (X5 hc he (fun _ _ _ _=>pY) hN h0 h1 hl hl2) hs) fun _ _ _=>nE (x5 _ 0 1) (fun i e=>by rcases e with e | e <;> (subst e; assumption))
theorem aM5 {i:Nat}{z:Str}{zp:Pos} (nd:X.N.Nodup) (hi:QI X (nV x y xp yp kt tp) iter ti) (he:∀ (s:Shared) (H:Hp) (C:Addr) (fp:List Addr),QE (bP X scope N s H C fp cT) elt te)
  (hz:X.N[i]? = some z:=by rfl) (hzl:X.env.scope.names.lookup z=some .local:=by rfl) (hsw:swapsWith (.ListComp elt [⟨nV x y xp yp kt tp,iter,[],0⟩] scope p2) (some (.Name z zp)) pos.line X.env=pure true:=by rfl)
  (hc:X.calm=true:=by rfl) (S:cP X scope N fr:=by exact cP.of rfl rfl) (hN:N.Nodup:=by decide +kernel) (h0:N[0]? = some x:=by rfl) (h1:N[1]? = some y:=by rfl) (hl:∀ (s:Shared) (H:Hp) (C:Addr) (fp:List Addr),(bP X scope N s H C fp cT).env.scope.names.lookup x=some .local:=by intro _ _ _ _; rfl) (hl2:∀ (s:Shared) (H:Hp) (C:Addr) (fp:List Addr),(bP X scope N s H C fp cT).env.scope.names.lookup y=some .local:=by intro _ _ _ _; rfl) (hf:fr[0]? = some none:=by rfl) (hf2:fr[1]? = some none:=by rfl)
  (hs:∀ x,foldedSetIterable iter X.env x=pure x:=by intro _; rfl):QS X (.Assign [.Name z zp] (.ListComp elt [⟨nV x y xp yp kt tp,iter,[],0⟩] scope p2) pos) (b4 i (cZ ti fr (gU 0 1) dA te)):=
 dW (vY (gh:=fun _=>lM X.K 2 (gO (cO 0) (gO (cO 1) lK))) (tch:=fun H=>LT (X.frm H) dA) (teh:=fun H=>LE (X.frm H) te) hc S hi (X5 hc he (fun _ _ _ _=>pY) hN h0 h1 hl hl2) nd hz hzl hsw hs) fun D σ H h=>nE (x5 _ 0 1) (fun i e=>by rcases e with e | e <;> (subst e; assumption)) (wR h)
end
section
variable {X : Cx} {a b e o f : Expr} {ta tb te td tk tx : aG} {pos p2 apos cpos : Pos} {σ : L2.St} {H : Hp} {Q' : VK}
noncomputable def X6:PV->Tg->PV->Tg->PK->Prop:=fun x _ y _ Q=>∃ xs n,x = .lst xs/\y = .int n/\flats xs=true/\-1000000<=n/\n<=1000000/\xs.length<=10/\Q (.lst (List.replicate n.toNat xs).flatten) .fr
noncomputable abbrev qK (ta tb:aG):aG:=q2 X6 ta tb
theorem aM6:eM X X6 J3:=by
 rintro W Hs H u v x y g g' Q Q' s n r1 r2 ⟨xs,m,rfl,rfl,f,h1,h2,hl,q⟩ k
 cases r2
 obtain ⟨a,us,rfl,mm,h,r⟩:=r1.sqL
 have lr:=r.length
 refine⟨a,m,us,rfl,rfl,h,by omega,by omega,lim ?_,fun p hp=>k _ _ _ .fr (bH hp _) (.lst (s.free hp) bI (((r.flat f).rep m.toNat).same (bH hp _) fun _ z=>z)) q⟩
 have h3:us.length<=10:=by omega
 have h4:m.toNat<=1000000:=by omega
 calc us.length * m.toNat<=10 * 1000000:=Nat.mul_le_mul h3 h4
  _<=16000000:=by decide
theorem tL (ha:QE X a ta) (hb:QE X b tb):QE X (.BinOp a .Mult b pos) (qK ta tb):=j7 au2 aM6 ha hb
end
section
variable {X : Cx} {a b : Expr} {ta tb : aG} {pos : Pos}
noncomputable def X7:PV->Tg->PV->Tg->PK->Prop:=fun x _ y _ Q=>∃ xs ys,x = .tup xs/\y = .tup ys/\flats xs=true/\flats ys=true/\xs.length+ys.length<=16000000/\Q (.tup (xs ++ ys)) .fr
noncomputable abbrev yB (ta tb:aG):aG:=q2 X7 ta tb
theorem aM7:eM X X7 (X4 X.K):=by
 rintro W Hs H u v x y g g' Q Q' s n r1 r2 ⟨xs,ys,rfl,rfl,f1,f2,hl,q⟩ k
 obtain ⟨a,us,rfl,h1,q1⟩:=r1.sqT
 obtain ⟨b,ws,rfl,h2,q2⟩:=r2.sqT
 have l1:=q1.length
 have l2:=q2.length
 refine⟨a,b,us,ws,rfl,rfl,aJ.of h1,aJ.of h2,lim (by omega),fun z=>?_,fun _ z=>?_,fun _ _ p hp=>k _ _ _ .fr (bH hp _) (.tup bI (((q1.flat f1).append (q2.flat f2)).same (bH hp _) fun _ z=>z)) q⟩
 ·obtain rfl:xs = []:=by cases xs with
   | nil=>rfl
   | cons _ _=>rw [z] at l1; cases l1
  exact k _ _ _ .fr (aC.refl _) (.tup h2 (q2.flat f2)) q
 ·obtain rfl:ys = []:=by cases ys with
   | nil=>rfl
   | cons _ _=>rw [z] at l2; cases l2
  rw [bp1] at q
  exact k _ _ _ .fr (aC.refl _) (.tup h1 (q1.flat f1)) q
theorem X8 (ha:QE X a ta) (hb:QE X b tb):QE X (.BinOp a .Add b pos) (yB ta tb):=j7 aM4 aM7 ha hb
end
end PP
namespace Core
open PySem L2 PP
section
variable (ws : List Int) (ls : List (Int × Int)) (os ns : List Int)
noncomputable def m6:Nat->List Int
 | 0=>[]
 | k+1=>m6 k ++ (os.find? (kin ws ls (ns ++ m6 k))).toList
noncomputable def yC (k:Nat):Option Int:=os.find? (kin ws ls (ns ++ m6 ws ls os ns k))
end
section
variable {ws : List Int} {ls : List (Int × Int)} {os ns : List Int}
theorem bh4 {k:Nat}{h:Int} (e:yC ws ls os ns k=some h):m6 ws ls os ns (k+1)=m6 ws ls os ns k ++ [h]:=by
 show m6 ws ls os ns k ++ (yC ws ls os ns k).toList=_
 rw [e]; rfl
theorem aM8 {S T:List Int}{h:Int} (hk:kin ws ls S h=true) (st:∀ x ∈ S,x ∈ T) (hn:h ∉ T):kin ws ls T h=true:=by
 unfold kin at hk ⊢
 rw [bm2] at hk ⊢
 refine⟨by rw [bj5 hn]; rfl,bi6 ?_⟩
 have h1:=bn0 hk.2
 have h2:((aN ls h).filter fun x=>decide (x ∈ S)).length<=((aN ls h).filter fun x=>decide (x ∈ T)).length:=by
  rw [<- List.countP_eq_length_filter,<- List.countP_eq_length_filter]
  exact List.countP_mono_left fun x _ hx=>bi6 (st x (bn0 hx))
 omega
noncomputable def iA (ws:List Int) (ls:List (Int × Int)) (T:List Int):Prop:=∀ h ∈ rng ws.length,kin ws ls T h=false
theorem X9 (n:Nat):(rng n).Nodup:=aL6 n
theorem bh5 {k:Nat}{h:Int} (e:yC ws ls os ns k=some h):h ∈ os/\h ∉ ns ++ m6 ws ls os ns k:=
 ⟨List.mem_of_find?_eq_some e,of_decide_eq_false (aJ4 (List.find?_some e))⟩
end
noncomputable def fP:Option Int->PV
 | none=>.non
 | some h=>.int h
theorem iB {i:Nat}{h:Int}{g:Bool}{ρ:bM}{Q:bM->Prop} (q:Q (ρ.set i (some (.sh true (.int h))))):bX i (.int h) g ρ Q:=by
 show Q (ρ.set i (some (.sh (g || true) (.int h))))
 rw [Bool.or_true]; exact q
noncomputable def aM9 (ns S:List Int):Int:=(ns.length:Int) - (((ns.filter fun x=>decide (x ∈ S)).length:Nat):Int)
noncomputable def nW:bK:=fun xs Q=>∃ x ns y ms,xs = [x,y]/\cU x ns/\cU y ms/\ns.length<=10000/\ms.length<=1000/\Q (.tup (intz (ns.filter fun z=>!decide (z ∈ ms))))
noncomputable def Y0:aK:=(aE (b4 2 (aB nS (a6 (a5 1) a9)))
 (bN (aB j6 (a6 (cZ (cR (a5 0)) [none,some 2] (bX 0) (bD (kU true (a5 0) (a5 1))) (a5 0)) a9))))
theorem aN0:cI Y0 ["hearths","some","gone"] nW:=by
 rintro xs Q ⟨x,ns,y,ms,rfl,hx,hy,hl,hm,q⟩
 refine⟨_,rfl,y,ms,rfl,hy,hm,fun ps d=>⟨trivial,?_⟩⟩
 refine⟨_,rfl,_,hx.seq,qE hx,by rw [b8]; omega,fun i acc=>acc=intz ((ns.take i).filter fun z=>!decide (z ∈ ms)),rfl,?_,?_⟩
 ·rintro i z acc hz rfl
  obtain ⟨n,rfl,hn⟩:=gV hz
  have tk:=qD (p:=fun z=>!decide (z ∈ ms)) hn
  refine⟨_,rfl,_,rfl,_,.inl ⟨ps,Sum.inl n,rfl,rfl,rfl⟩,_,rfl,?_⟩
  show if (!(cL ps (Sum.inl n:aH)).isSome)=true then _ else _
  rw [d.has n]
  by_cases h:n ∈ ms
  ·rw [bi6 h] at tk ⊢
   refine bF ?_
   show _=intz (List.filter _ (List.take (i+1) ns))
   rw [tk]; exact congrArg intz (bp1 _).symm
  ·rw [bj5 h] at tk ⊢
   refine bJ ⟨_,rfl,trivial,?_⟩
   show _=intz (List.filter _ (List.take (i+1) ns))
   rw [tk,eN]; rfl
 ·rintro acc rfl
  rw [b8,bp3]
  exact⟨⟨_,_,rfl,rfl,dG _,trivial,q⟩,fun ns z=>by cases z⟩
noncomputable def aN1 (ws:List Int) (ls:List (Int × Int)) (S:List Int) (h:Int):Bool:=decide (aM9 (aN ls h) S < ws.getD h.toNat 0)
noncomputable def stay (ws:List Int) (ls:List (Int × Int)) (S:List Int):List Int:=S.filter (aN1 ws ls S)
theorem tM {n:Nat}{S:List Int} (h:bE n S=true) (p:Int->Bool):bE n (S.filter p)=true:=by
 obtain ⟨h1,h2⟩:=eB h
 have u:qJ (n:Int) (S.filter p):=⟨(gC h1).filter p,fun x hx=>h2 x (bj6.mp hx).1,by
  have:=qF h
  have:=bn7 p S
  omega⟩
 exact u.set
section
variable {ws : List Int} {ls : List (Int × Int)} {S T : List Int}
theorem Y1 {n:Nat}{A B:List Int} (ha:bE n A=true) (hb:bE n B=true) (h:∀ x,x ∈ A ↔ x ∈ B):A=B:=by
 have ua:=gC (eB ha).1
 have ub:=gC (eB hb).1
 have p:A.Perm B:=(br9 (ua.imp fun z=>bu3 z) (ub.imp fun z=>bu3 z)).mpr h
 exact xX p (ua.imp fun z=>Int.le_of_lt z) (ub.imp fun z=>Int.le_of_lt z)
end
section
variable {ws : List Int} {ls : List (Int × Int)} {ns : List Int}
theorem aN2 (wb:Wb ws ls) {h x:Int} (hx:x ∈ aN ls h):x ∈ rng ws.length:=by
 unfold aN at hx
 obtain ⟨l,hl,hx⟩:=List.mem_flatMap.mp hx
 have:=wb.links l hl
 rcases bi7.mp hx with hx | hx
 ·split at hx
  ·rw [bi3.mp hx]; exact bY.mpr this.2
  ·cases hx
 ·split at hx
  ·rw [bi3.mp hx]; exact bY.mpr this.1
  ·cases hx
noncomputable def yD (n:Nat) (S:List Int):List Int:=(rng n).filter fun x=>!decide (x ∈ S)
end
end Core
namespace Raw
open PySem PySem.W PyProof.Rows
section
variable {prog : Program} {w : World} {A : Around} {E : Value → Shared → Prop} {s : Shared} {T : String} {r d : Addr} {n : Nat} {P : Nat → Value → Prop} {OK : Heap → Prop}
theorem aN3 {R:Result->Shared->Prop} (K:KdlSrc prog w T r d n P OK) (hh:A.handled=none) (hok:OK s.heap) (hn:n<=sizeLine)
  (hR:∀ h' tk acc c,(∀ b o,b ≠ s.heap.objs.size->(s.heap.push { cls:=.type "list",data:=.seq ([]:List Value).toArray }).get? b=some o->h'.get? b=some o)->h'.get? s.heap.objs.size=some { cls:=.type "list",dict:=none,data:=.seq acc c,slots:=#[] }->ItemsOf P acc n->R (.ok (.ret (.ref s.heap.objs.size))) { s with heap:=h',toks:=tk }) :
  codeAny (model prog w) A (.builtin "proto.collect" ⟨[.ref r],[]⟩) R s:=by
 have lt:=K.there _ hok
 refine codeAny_builtin PySem.F.entry_proto_collect ?_
 rw [Around.under_plainId PySem.F.plain_proto_collect _]
 show wpAny _ A.in1 (newList [] >>= fun l=>again (.builtin "list.__iadd__" ⟨[l,.ref r],[]⟩)) _ _ s
 refine bh8 (bq5 ?_)
 refine bj3 ⟨plainId_quiet PySem.F.plain_list_iadd _,codeAny_builtin PySem.F.entry_list_iadd ?_⟩
 rw [Around.under_plainId PySem.F.plain_list_iadd _]
 show wpAny _ A.in1 (Builtin.List.listExtendWith (.ref s.heap.objs.size) (.ref r) (.ref s.heap.objs.size)) _ _ _
 exact kdl_extend (s:={ s with heap:=s.heap.push { cls:=.type "list",data:=.seq ([]:List Value).toArray } }) (R:=R) K hh (K.keep _ _ hok fun b _ o e=>bi1 _ e) s.heap.objs.size (bs1 lt.1) (bs1 lt.2) _ 0 (bk0 _ rfl) hR hn
theorem aN4 {Q:List Value->Shared->Prop} (K:KdlSrc prog w T r d n P OK) (hh:A.handled=none) (hok:OK s.heap) (hn:n<=sizeLine)
  (hQ:∀ h' tk acc,(∀ b o,s.heap.get? b=some o->h'.get? b=some o)->s.heap.objs.size<=h'.objs.size->ItemsOf P acc n->Q acc.toList { s with heap:=h',toks:=tk }) :
  wpAny (model prog w) A (collect (.ref r)) Q E s:=by
 unfold collect
 refine bh8 (wpAny_runValue (aN3 (s:=s) K hh hok hn fun h' tk acc c kp at1 it=>?_))
 show wpAny _ A (load s.heap.objs.size >>= _) _ _ _
 refine bh8 (wpAny_load at1 ?_)
 exact bj3 (hQ h' tk acc (fun b o e=>kp b o (bm1 (bk1 e)) (bi1 _ e)) (bn5 (bk1 at1)) it)
theorem aN5 {Q:Value->Shared->Prop}{G:List Int->Prop} (K:KdlSrc prog w T r d n P OK) (hh:A.handled=none) (hok:OK s.heap) (hn:n < 64)
  (hI:∀ acc,ItemsOf P acc n->∃ ns,IntsAre acc.toList ns/\G ns)
  (h:∀ h' tk a (out:Array Value) (ns ns':List Int) e,(∀ b o,s.heap.get? b=some o->h'.get? b=some o)->s.heap.objs.size<=a->h'.get? a=some (seqObj "list" out e)->IntsAre out.toList ns'->G ns->ns'.Perm ns->ns'.Pairwise (· <= ·)->Q (.ref a) { s with heap:=h',toks:=tk }) :
  wpAny (model prog w) A (call (.builtin "sorted") [.ref r]) Q E s:=by
 have hsl:n<=sizeLine:=bm6 (bn5 hn) (by decide)
 refine Calls.call_function_entry kind_sorted plain_sorted entry_sorted (args_sorted1 _) ?_
 unfold Builtin.«sorted»
 refine bh8 (m:=checkCount "sorted" 1 1 _) (bj3 ?_)
 refine bh8 (aN4 (s:=s) K hh hok hsl fun h' tk acc kp hs it=>?_)
 obtain ⟨ns,hi,g⟩:=hI acc it
 have hz:acc.toList.length < 64:=by rw [Array.length_toList,it.1]; exact hn
 refine bh8 (wpAny_newList ?_ (bm6 (bn5 hz) (by decide)))
 have hoL:(h'.push (seqObj "list" acc.toList.toArray 0)).get? h'.objs.size=some (seqObj "list" acc.toList.toArray 0):=bk0 _ rfl
 show wpAny _ _ _ _ _ { s with heap:=h'.push (seqObj "list" acc.toList.toArray 0),toks:=tk }
 refine bh8 (bs0 (bq1 slot_list_sort ⟨_,hoL,rfl⟩ entry_list_sort (list_sort_tree hoL hi hz fun out ns' a1 a2 a3=>⟨_,rfl,?_⟩) (args_list_sort _)))
 obtain ⟨e,he⟩:=sortedHeap_at (vs:=acc.toList) (out:=out) hoL
 refine bj3 ⟨_,rfl,h _ tk h'.objs.size out ns ns' e (fun b o hb=>?_) hs he a1 g a2 a3⟩
 have lt:=bk1 (kp b o hb)
 rw [sortedHeap_old (bm1 lt) (by rw [size_push']; exact bx1 lt)]
 exact bi1 _ (kp b o hb)
end
end Raw
namespace L2
open PySem PySem.Spec PyProof.Rows
section
variable {X : Cx}
theorem aN6 (hc:X.calm=true):cX X (.builtin "sorted") (fun xs H Q=>∃ a kvs ns,xs = [.ref a]/\H a=some (.dK kvs)/\kvs.map (·.1)=ns.map Sum.inl/\ns.length < 64/\∀ l (ms:List Int),H l=none->ms.Perm ns->ms.Pairwise (· <= ·)->Q (.ref l) (upd H l (.lst (ms.map V.int)))):=by
 intro pins s σ H xs us Q I r h
 obtain ⟨a,kvs,ns,rfl,ha,hk,h64,q⟩:=h
 obtain ⟨u,rfl,ru⟩:=hZ r
 cases ru
 obtain ⟨es,ep,rd,far,vk,z⟩:=ax6 I ha
 have hl:=vk.length
 have hl2:=congrArg List.length hk
 rw [bi4,bi4] at hl hl2
 have hsz:es.toList.length=es.size:=Array.length_toList
 have e1:(kvs.map fun p=>kV p.1)=ns.map V.int:=by
  have:(kvs.map fun p=>kV p.1)=(kvs.map (·.1)).map kV:=by rw [bm7]; rfl
  rw [this,hk,bm7]; rfl
 rw [e1] at vk
 refine Raw.aN5 (G:=fun ms=>ms=ns) (Raw.ax5 far) (I.ok.hd hc) rd (by omega) (fun acc it=>⟨ns,by rw [ax7 it]; exact mQ vk,rfl⟩) fun h' tk l out ns1 ns' e kp hn he a1 g a2 a3=>?_
 subst g
 have hlen:ns'.length=ns1.length:=a2.length_eq
 refine⟨.ref l,upd H l (.lst (ns'.map V.int)),I.laid (t':=tk) kp hn ⟨?_,out.toList,e,rK a1,by simpa using he⟩,rfl,q _ ns' (I.hok.fresh hn) a2 a3⟩
 rw [bi4,hlen]
 exact bn5 (p7 (by omega))
end
end L2
namespace PP
open PySem L2 PyProof.Rows
section
variable {X : Cx} {a b e : Expr} {ta tb te : aG} {tr : cG} {pos p2 : Pos}
noncomputable def yE:List PV->(PV->Prop)->Prop:=fun xs Q=>∃ (ps:List (aH × PV)) (ns:List Int),xs = [.dK ps]/\ps.map (·.1)=ns.map Sum.inl/\ns.length < 64/\∀ ms:List Int,ms.Perm ns->ms.Pairwise (· <= ·)->Q (.lst (intz ms))
theorem aN7:fZ X yE (fun xs H Q=>∃ a kvs ns,xs = [.ref a]/\H a=some (.dK kvs)/\kvs.map (·.1)=ns.map Sum.inl/\ns.length < 64/\∀ l (ms:List Int),H l=none->ms.Perm ns->ms.Pairwise (· <= ·)->Q (.ref l) (upd H l (.lst (ms.map V.int)))):=by
 rintro H vs xs Q Q' r ⟨ps,ns,rfl,e,hl,q⟩ k
 obtain ⟨v,rfl,r1⟩:=r.one
 cases r1 with
 | @dK a kvs _ m h e2 r2=>
  exact⟨a,kvs,ns,rfl,h,e2.trans e,hl,fun l ms hl' p o=>k _ _ _ (bH hl' _) (.lst hl' bI (Reps.intz ms)) (q ms p o)⟩
theorem aN8 (B:Bt X.mg) (hc:X.calm=true) (ha:QA X [e] tr) (hg:Gl X "sorted":=by rfl) (he:starEach [e] X.env=(false,eval e X.env) :: starEach [] X.env:=by rfl) (hpl:(backTo pos (starEach [] X.env)).any (·.1)=false:=by rfl):QE X (.Call (.Name "sorted" p2) [e] [] pos) (aB yE tr):=
 j8 (aN6 hc) aN7 hg B.sorted PyProof.Rows.boot_sorted ha (he:=he) (hpl:=hpl)
end
end PP
namespace Core
open PySem L2 PP
theorem aN9 {ps:List (aH × PV)}{h:Int}{v:PV}{S:List Int} (e:ps.map (·.1)=S.map Sum.inl) (hn:h ∉ S):fN ps (Sum.inl h:aH) v=ps ++ [(Sum.inl h,v)]:=by
 unfold fN
 rw [if_neg]
 intro z
 rw [List.any_eq_true] at z
 obtain ⟨p,hp,hq⟩:=z
 have:p.1 ∈ ps.map (·.1):=bj8.mpr ⟨p,hp,rfl⟩
 rw [e,bn0 hq] at this
 obtain ⟨y,hy,e2⟩:=bj8.mp this
 exact hn (Sum.inl.inj e2 ▸ hy)
theorem Y2 {xs:List PV}{w:Int} (h:0<=w):fO xs none (some w)=xs.take w.toNat:=by
 unfold fO
 rw [HT.ar1,List.drop_zero,Nat.sub_zero]
 have:HT.b5 xs.length xs.length (some w)=min w.toNat xs.length:=by
  show (if w < 0 then (w+(xs.length:Int)).toNat else min w.toNat xs.length)=_
  rw [if_neg (by omega)]
 rw [this,<- List.take_take,bp3]
theorem cQ {ls:List (Int × Int)}{h x:Int}:x ∈ aN ls h ↔ ∃ l ∈ ls,(l.1=h/\l.2=x) ∨ (l.2=h/\l.1=x):=by
 unfold aN
 rw [List.mem_flatMap]
 constructor
 ·rintro ⟨l,hl,hx⟩
  refine⟨l,hl,?_⟩
  rcases bi7.mp hx with hx | hx
  ·split at hx
   ·rename_i e; exact .inl ⟨e,(bi3.mp hx).symm⟩
   ·cases hx
  ·split at hx
   ·rename_i e; exact .inr ⟨e,(bi3.mp hx).symm⟩
   ·cases hx
 ·rintro ⟨l,hl,⟨e1,e2⟩ | ⟨e1,e2⟩⟩
  ·exact⟨l,hl,bk7 _ (by rw [if_pos e1,e2]; exact bt5 _)⟩
  ·exact⟨l,hl,bk5 _ (by rw [if_pos e1,e2]; exact bt5 _)⟩
theorem Y3 {h:Int}:∀ {ls:List (Int × Int)},(∀ l ∈ ls,l.1 < l.2)->ls.Pairwise jB->(aN ls h).Nodup
 | [],_,_=>.nil
 | l :: r,hl,hp=>by
  have ih:=Y3 (h:=h) (ls:=r) (fun m hm=>hl m (bj7 _ hm)) (br8.mp hp).2
  have h0:=hl l bi9
  have e:aN (l :: r) h=((if l.1=h then [l.2] else []) ++ (if l.2=h then [l.1] else [])) ++ aN r h:=rfl
  rw [e]
  refine br4.mpr ⟨?_,ih,fun x hx y hy q=>?_⟩
  ·by_cases e1:l.1=h
   ·rw [if_pos e1,if_neg (by omega),bp1]; exact bl7 _ _
   ·rw [if_neg e1]
    split
    ·exact bl7 _ _
    ·exact .nil
  ·subst q
   obtain ⟨m,hm,c⟩:=cQ.mp hy
   have h1:=hl m (bj7 _ hm)
   have h2:=(br8.mp hp).1 m hm
   have c':(l.1=h/\l.2=x) ∨ (l.2=h/\l.1=x):=by
    rcases bi7.mp hx with hx | hx
    ·split at hx
     ·rename_i e; exact .inl ⟨e,(bi3.mp hx).symm⟩
     ·cases hx
    ·split at hx
     ·rename_i e; exact .inr ⟨e,(bi3.mp hx).symm⟩
     ·cases hx
   unfold jB at h2
   omega
end Core
namespace L2
open PySem PySem.Spec PyProof.Rows
theorem Y4:∀ (n:Nat) (ns:List Int),n<=ns.length->preSum (fun i=>ns.getD i 0) n=(ns.take n).sum
 | 0,_,_=>by simp [preSum]
 | n+1,ns,h=>by
  show preSum (fun i=>ns.getD i 0) n+ns.getD n 0=_
  have h1:ns[n]? = some (ns[n]'(by omega)):=bi2 (by omega)
  have h2:ns.take (n+1)=ns.take n ++ [ns[n]'(by omega)]:=by rw [bm4,h1]; rfl
  have h3:ns.getD n 0=ns[n]'(by omega):=by rw [bj0,h1]; rfl
  rw [Y4 n ns (by omega),h2,h3,List.sum_append,bo8,List.sum_nil]
  omega
section
variable {X : Cx}
theorem aO0 (hc:X.calm=true):cX X (.builtin "sum") (fun xs H Q=>∃ (a:Addr) (ns:List Int),xs = [.ref a]/\(aM X.K H a (ns.map V.int) ∨ aJ X.K H a (ns.map V.int))/\Q (.int ns.sum) H):=by
 intro pins s σ H xs us Q I r h
 obtain ⟨a,ns,rfl,hq,q⟩:=h
 obtain ⟨u,rfl,ru⟩:=hZ r
 cases ru
 have hh:X.A.in1.handled=none:=I.ok.hd hc
 have fin:∀ (its:List Value) (o:Obj) (wr:List Addr) (hw:∀ b ∈ wr,s.heap.objs.size<=b),aO (ns.map V.int) its->∀ s' t',Moved wr (fun a b=>b=a) { s with heap:=s.heap.push o } s'->
   ∃ x H',a8 X pins σ H' s'/\aZ x (.int (preSum (fun i=>ns.getD i 0) its.toArray.size) t')/\Q x H':=fun its o wr hw rv s' t' hm=>by
  have hl:=rv.length
  rw [bi4] at hl
  have e:=Moved.eq_with hm
  have e2:preSum (fun i=>ns.getD i 0) its.toArray.size=ns.sum:=by rw [bh9,<- hl,Y4 _ _ (bi8 _),bp3]
  rw [e2,e]
  refine⟨.int ns.sum,H,I.kept (t':=s'.toks) (h':=s'.heap) fun b o' eb=>hm.heap b o' (fun z=>?_) (bi1 _ eb),⟨t',rfl⟩,q⟩
  exact absurd (bk1 eb) (Nat.not_lt.mpr (hw b z))
 have val:∀ (its:List Value),aO (ns.map V.int) its->∀ (i:Nat) (v:Value),its.toArray[i]? = some v->∃ t,v = .int (ns.getD i 0) t:=fun its rv i v hv=>by
  have hi:its[i]? = some v:=by simpa using hv
  have hl:=rv.length
  rw [bi4] at hl
  have hil:i < ns.length:=by rw [hl]; exact (bi5.mp hi).1
  obtain ⟨u,e1,e2⟩:=rv.get (i:=i) (x:=.int ns[i]) (by simp [hil])
  rw [hi] at e1; cases e1
  obtain ⟨t,rfl⟩:=e2
  exact⟨t,by rw [bj0,bi2 hil]; rfl⟩
 rcases hq with hq | hq
 ·obtain ⟨its,rv,p,hz⟩:=I.list hq
  have hlt:a < s.heap.objs.size:=by obtain ⟨o,e,_⟩:=p.isList; exact bk1 e
  refine call_sum_walkAnyS (wpAny_pyIter_list p.isList ?_)
  refine⟨s.heap.objs.size,_,_,_,_,_,_,fun i=>ns.getD i 0,rfl,(Walks.list hh s.heap.objs.size a (bm1 hlt) its.toArray).toS,⟨⟨_,bk0 _ rfl,rfl,rfl⟩,p.isList.push _⟩,?_,val its rv,fun s' t' hm=>fin its _ _ ?_ rv s' t' hm⟩
  ·intro b hb
   have hs:(s.heap.push { cls:=.type "list_iterator",data:=.fields #[.ref a,.int 0 0] }).objs.size=s.heap.objs.size+1:=size_push' _ _
   show b < (s.heap.push _).objs.size
   rw [size_push']
   rcases bj1.mp hb with rfl | hb
   ·exact Nat.lt_succ_self _
   ·rw [bi3.mp hb]; exact bx1 hlt
  ·intro b hb
   rw [bi3.mp hb]; exact bi8 _
 ·obtain ⟨its,rv,p,hz⟩:=I.tuple hq
  have hlt:a < s.heap.objs.size:=by obtain ⟨o,e,_⟩:=p; exact bk1 e
  refine call_sum_walkAnyS (wpAny_pyIter_tuple p ?_)
  refine⟨s.heap.objs.size,_,_,_,_,_,_,fun i=>ns.getD i 0,rfl,(Walks.tuple hh s.heap.objs.size a (bm1 hlt) its.toArray).toS,⟨⟨_,bk0 _ rfl,rfl,rfl⟩,?_⟩,?_,val its rv,fun s' t' hm=>fin its _ _ ?_ rv s' t' hm⟩
  ·obtain ⟨o,e,h⟩:=p
   exact⟨o,bi1 _ e,h⟩
  ·intro b hb
   show b < (s.heap.push _).objs.size
   rw [size_push']
   rcases bj1.mp hb with rfl | hb
   ·exact Nat.lt_succ_self _
   ·rw [bi3.mp hb]; exact bx1 hlt
  ·intro b hb
   rw [bi3.mp hb]; exact bi8 _
theorem aO1 (hc:X.calm=true):cX X (.builtin "any") (fun xs H Q=>∃ (a:Addr) (bs:List Bool),xs = [.ref a]/\aM X.K H a (bs.map V.bl)/\Q (.bl (bs.any id)) H):=by
 intro pins s σ H xs us Q I r h
 obtain ⟨a,bs,rfl,hq,q⟩:=h
 obtain ⟨u,rfl,ru⟩:=hZ r
 cases ru
 obtain ⟨its,rv,p,hz⟩:=I.list hq
 have hl:=rv.length
 rw [bi4] at hl
 have hlt:a < s.heap.objs.size:=by obtain ⟨o,e,_⟩:=p.isList; exact bk1 e
 refine call_any_walk (wpAny_pyIter_list p.isList ?_)
 have hh:X.A.in1.handled=none:=I.ok.hd hc
 refine⟨s.heap.objs.size,_,_,_,_,_,fun i=>bs.getD i false,rfl,Walks.list hh s.heap.objs.size a (bm1 hlt) its.toArray,⟨⟨_,bk0 _ rfl,rfl,rfl⟩,p.isList.push _⟩,?_,fun h' tk kp=>?_⟩
 ·intro i v s' Q' E' hP hQ'
  have hi:its[i]? = some v:=by simpa using hP
  have hil:i < bs.length:=by rw [hl]; exact (bi5.mp hi).1
  obtain ⟨u,e1,e2⟩:=rv.get (i:=i) (x:=.bl bs[i]) (by simp [hil])
  rw [hi] at e1; cases e1
  cases e2
  have:bs.getD i false=bs[i]:=by rw [bj0,bi2 hil]; rfl
  have hQ2:Q' (bs.getD i false) s':=hQ'
  rw [this] at hQ2
  exact bt7 hQ2
 ·have any_eq:(List.range its.toArray.size).any (fun i=>bs.getD i false)=bs.any id:=by
   rw [bh9,<- hl]
   clear q rv hz hl hq hlt p hh kp
   induction bs with
   | nil=>rfl
   | cons b r ih=>
    rw [bk9,List.range_succ_eq_map,bv9,List.any_map,bv9,<- ih]
    rfl
  rw [any_eq]
  refine⟨.bl (bs.any id),H,I.kept (t':=tk) (h':=h') fun b o e=>kp b o (fun z=>?_) (bi1 _ e),rfl,q⟩
  rw [bi3.mp z] at e
  exact absurd (bk1 e) (bn2 _)
end
end L2
namespace PP
open PySem L2 PyProof.Rows
section
variable {X : Cx} {a b e : Expr} {ta tb te : aG} {tr : cG} {pos p2 : Pos}
noncomputable def l8:List PV->(PV->Prop)->Prop:=fun xs Q=>∃ x ns,xs = [x]/\jS x=some (intz ns)/\Q (.int ns.sum)
theorem aO2:fZ X l8 (fun xs H Q=>∃ (a:Addr) (ns:List Int),xs = [.ref a]/\(aM X.K H a (ns.map V.int) ∨ aJ X.K H a (ns.map V.int))/\Q (.int ns.sum) H):=by
 rintro H vs xs Q Q' r ⟨x,ns,rfl,e,q⟩ k
 obtain ⟨v,rfl,r1⟩:=r.one
 obtain ⟨a,us,rfl,hs,r2⟩:=r1.seq e
 obtain rfl:=r2.ofInts
 exact⟨a,ns,rfl,hs,k _ _ _ (aC.refl _) (.int _) q⟩
theorem qL (B:Bt X.mg) (hc:X.calm=true) (ha:QA X [e] tr) (hg:Gl X "sum":=by rfl) (he:starEach [e] X.env=(false,eval e X.env) :: starEach [] X.env:=by rfl) (hpl:(backTo pos (starEach [] X.env)).any (·.1)=false:=by rfl):QE X (.Call (.Name "sum" p2) [e] [] pos) (aB l8 tr):=
 j8 (aO0 hc) aO2 hg B.sum PyProof.Rows.boot_sum ha (he:=he) (hpl:=hpl)
noncomputable def yF:List PV->(PV->Prop)->Prop:=fun xs Q=>∃ bs:List Bool,xs = [.lst (bs.map PV.bl)]/\Q (.bl (bs.any id))
theorem aO3:fZ X yF (fun xs H Q=>∃ (a:Addr) (bs:List Bool),xs = [.ref a]/\aM X.K H a (bs.map V.bl)/\Q (.bl (bs.any id)) H):=by
 rintro H vs xs Q Q' r ⟨bs,rfl,q⟩ k
 obtain ⟨v,rfl,r1⟩:=r.one
 obtain ⟨a,us,rfl,_,h,r2⟩:=r1.sqL
 obtain rfl:=r2.ofBls
 exact⟨a,bs,rfl,aM.of h,k _ _ _ (aC.refl _) (.bl _) q⟩
theorem aO4 (B:Bt X.mg) (hc:X.calm=true) (ha:QA X [e] tr) (hg:Gl X "any":=by rfl) (he:starEach [e] X.env=(false,eval e X.env) :: starEach [] X.env:=by rfl) (hpl:(backTo pos (starEach [] X.env)).any (·.1)=false:=by rfl):QE X (.Call (.Name "any" p2) [e] [] pos) (aB yF tr):=
 j8 (aO1 hc) aO3 hg B.any PyProof.Rows.boot_any ha (he:=he) (hpl:=hpl)
end
end PP
namespace Core
open PySem L2 PP
theorem qM {l l':List Int} (p:l.Perm l'):l.sum=l'.sum:=by
 induction p with
 | nil=>rfl
 | cons x _ ih=>rw [bo8,bo8,ih]
 | swap x y l=>simp only [bo8]; omega
 | trans _ _ h1 h2=>exact h1.trans h2
theorem Y5 (n:Nat):(rng n).Pairwise (· < ·):=by
 unfold rng
 rw [bo3]
 exact (List.pairwise_lt_range (n:=n)).imp fun h=>by omega
theorem aO5 (n:Nat) (p:Int->Bool):bE n ((rng n).filter p)=true:=by
 refine qJ.set ⟨(Y5 n).sublist List.filter_sublist,fun x hx=>?_,?_⟩
 ·have:=bY.mp (bj6.mp hx).1
  exact this
 ·have:=bn7 p (rng n)
  rw [dM] at this
  omega
section
variable {ws : List Int} {ls : List (Int × Int)} {ns wts : List Int} {m : Nat}
noncomputable def loose (ls:List (Int × Int)) (wts ns:List Int):List ((Int × Int) × Int):=(ls.zip wts).filter fun z=>!(decide (z.1.1 ∈ ns) && decide (z.1.2 ∈ ns))
end
end Core
namespace PP
open PySem L2 PyProof.Rows
noncomputable abbrev eO:=(Str->Prop)->bK
noncomputable def EX (K:PySem.W.Frag) (H0:Hp) (Ep:Str->Prop):XK:=fun c d H'=>d=none/\aC H0 H'/\∃ n C,c = .ref C/\PySem.W.nsIn K mainGlobals n=some (some (.ref C))/\Ep n
noncomputable def Y6 (K:PySem.W.Frag) (p:eO):Sp:=fun vs H Q E=>∃ xs Qp Ep,Reps K (fun _=>True) H vs xs/\p Ep xs Qp/\(∀ v H' x,aC H H'->aI K (fun a=>H a=none) H' v x->Qp x->Q v H')/\
 ∀ n C H',aC H H'->PySem.W.nsIn K mainGlobals n=some (some (.ref C))->Ep n->E (.ref C) none H'
structure bV (P:Program) (w:World) (K:PySem.W.Frag) (mg:Str->Option Value) (base:Heap) (k:Nat) (x:Str) (ps:List Str) (p:eO):Prop where
 ex:∃ f fd,cY P w K mg base (eU P w) k f fd ps (Y6 K p)/\iG K fd ps []/\PySem.W.keepIn K (.ref f)=true/\mg x=some (.ref f)
section
variable {X : Cx} {σ : L2.St} {H : Hp} {D : dL} {tr : cG} {Q' : VK} {a b c e : Expr} {es : List Expr} {pos p2 cp np hp : Pos} {t : aK} {te : aG} {tc : cK}
noncomputable def kB (Ep:Str->Prop) (p:eO) (t:cG):aG:=aB (p Ep) t
theorem Y7 {p:eO}{Ep:Str->Prop} (h:LE X (kB Ep p tr) σ H Q'):v7 (Y6 X.K p) [] (EX X.K X.H₀ Ep) (LA X tr) σ H Q':=by
 obtain ⟨W,ρ,Q,px,q,k⟩:=h
 refine⟨W,ρ,_,px,q,fun vs H1 xs s1 r1 q1=>⟨_,_,Ep,by rw [bp1]; exact r1.any,q1,fun v H' x s2 r2 q2=>k v H' x .fr (s1.trans s2) (r2.same (aC.refl _) fun _ z=>s1.free z) q2,fun n C H' s2 z1 z2=>⟨rfl,(px.same.trans s1).trans s2,n,C,rfl,z1,z2⟩⟩⟩
theorem m7 {Ep:Str->Prop}{k j:Nat}{x:Str}{ps:List Str}{p:eO} (hX:nQ X (EX X.K X.H₀ Ep)) (d:bV X.prog X.w X.K X.mg X.base k x ps p) (hr:cC j X.A) (ha:QA X (e :: es) tr) (hkj:k<=j:=by decide) (hg:Gl X x:=by rfl) (hdb:(x == ("__debug__" : Str))=false:=by decide)
  (he:starEach (e :: es) X.env=(false,eval e X.env) :: starEach es X.env:=by rfl) (hpl:(backTo pos (starEach es X.env)).any (·.1)=false:=by rfl):QE X (.Call (.Name x p2) (e :: es) [] pos) (kB Ep p tr):=by
 obtain ⟨f,fd,F,b,kp,m⟩:=d.ex
 exact cF (v8 F (hr.mono hkj) hg m kp b .nil hX.pass ha hdb he hpl) fun _ _ _=>Y7
theorem yG {k j:Nat}{x:Str}{ps:List Str}{p:eO} (d:bV X.prog X.w X.K X.mg X.base k x ps p) (hr:cC j X.A) (ha:QA X (e :: es) tr) (hkj:k<=j:=by decide) (hg:Gl X x:=by rfl) (hdb:(x == ("__debug__" : Str))=false:=by decide)
  (he:starEach (e :: es) X.env=(false,eval e X.env) :: starEach es X.env:=by rfl) (hpl:(backTo pos (starEach es X.env)).any (·.1)=false:=by rfl):QE X (.Call (.Name x p2) (e :: es) [] pos) (aB (p fun _=>False) tr):=by
 obtain ⟨f,fd,F,b,kp,m⟩:=d.ex
 refine cF (v8 F (E:=EX X.K X.H₀ fun _=>False) (hr.mono hkj) hg m kp b .nil (fun _ _ _ _ _ _ _ h=>?_) ha hdb he hpl) fun _ _ _ h=>Y7 (Ep:=fun _=>False) h
 obtain ⟨_,_,_,_,_,_,_,_,_,_,_,_,z⟩:=h
 exact z.elim
noncomputable def nX (Ep:Str->Prop) (n:Str) (t:cG):aK:=fun _ ρ=>t ρ fun xs=>xs.length<=1000/\Ep n
theorem aO6 {Ep:Str->Prop}{n:Str}{C:Addr} (hn:PySem.W.nsIn X.K mainGlobals n=some (some (.ref C))) (h:LS X (nX Ep n tr) D σ H):U3 (EX X.K X.H₀ Ep) C (LA X tr) D σ H:=by
 obtain ⟨W,ρ,D',px,q,k⟩:=h
 exact⟨W,ρ,_,px,q,fun vs H1 xs s1 r z=>⟨by rw [r.length]; exact mY z.1,rfl,px.same.trans s1,n,C,rfl,hn,z.2⟩⟩
structure Xc (K:PySem.W.Frag) (mg:Str->Option Value) (base:Heap) (n:Str):Prop where
 ex:∃ C B newId initId bm,OwnCls n C bm newId mg base/\ExcBaseFacts B newId initId bm/\PySem.W.nsIn K mainGlobals n=some (some (.ref C))
theorem tN {Ep:Str->Prop}{n:Str} (hX:nQ X (EX X.K X.H₀ Ep)) (x:Xc X.K X.mg X.base n) (ha:QA X (e :: es) tr) (hc:X.calm=true:=by rfl) (hg:Gl X n:=by rfl) (hd:(n == ("__debug__" : Str))=false:=by decide)
  (he:starEach (e :: es) X.env=(false,eval e X.env) :: starEach es X.env:=by rfl) (hpl:(backTo cp (starEach es X.env)).any (·.1)=false:=by rfl):QS X (.Raise (some (.Call (.Name n np) (e :: es) [] cp)) none pos) (nX Ep n tr):=by
 obtain ⟨C,B,newId,initId,bm,O,FB,hn⟩:=x.ex
 exact dW (aH8 hX hc O FB ha hg hd he hpl) fun _ _ _=>aO6 hn
noncomputable abbrev kC:=g6->(Str->Prop)->bM->Prop
noncomputable def LB (X:Cx) (t:kC):TB:=fun D Ex σ H=>∃ (W:Addr->Prop) (ρ:bM) (D':g6) (Ep:Str->Prop),PX X.K X.H₀ W σ ρ H/\t D' Ep ρ/\pI X W H D' D/\∀ n C H',aC H H'->PySem.W.nsIn X.K mainGlobals n=some (some (.ref C))->Ep n->Ex (.ref C) none H'
noncomputable def QB (X:Cx) (sts:List Stmt) (t:kC):Prop:=PB X sts (LB X t)
theorem Y8 {sts:List Stmt}{t t':TB} (h:PB X sts t) (m:∀ D Ex σ H,t' D Ex σ H->t D Ex σ H):PB X sts t':=fun pins s σ H D Ex I q=>h pins s σ H D Ex I (m D Ex σ H q)
noncomputable def tO (p:eO) (t:cG):kC:=fun D Ep ρ=>t ρ fun xs=>p Ep (xs.map (·.1)) fun _=>D.nx ρ
noncomputable def yH (c:cK) (t u:kC):kC:=fun D Ep ρ=>c ρ fun b=>if b=true then t D Ep ρ else u D Ep ρ
theorem yI {k j:Nat}{x:Str}{ps:List Str}{p:eO} (d:bV X.prog X.w X.K X.mg X.base k x ps p) (hr:cC j X.A) (ha:∀ E,QA (X.wish E) (e :: es) tr) (hkj:k<=j:=by decide) (hg:Gl X x:=by rfl) (hdb:(x == ("__debug__" : Str))=false:=by decide)
  (he:starEach (e :: es) X.env=(false,eval e X.env) :: starEach es X.env:=by rfl) (hpl:(backTo cp (starEach es X.env)).any (·.1)=false:=by rfl) (hsw:swapsWith (.Call (.Name x p2) (e :: es) [] cp) none pos.line X.env=pure false:=by rfl):QB X [.Expr (.Call (.Name x p2) (e :: es) [] cp) pos] (tO p tr):=by
 obtain ⟨f,fd,F,b,kp,m⟩:=d.ex
 refine Y8 (aI3 (t:=LA X tr) F (hr.mono hkj) hg m kp b (fun E=>ha E) hdb he hpl hsw) fun D Ex σ H h=>?_
 obtain ⟨W,ρ,D',Ep,px,q,k,ke⟩:=h
 exact⟨W,ρ,_,px,q,fun vs H1 xs s1 r q1=>⟨_,_,Ep,r.any,q1,fun v H' x s2 r2 q2=>k.nx W σ H' ρ (Ev.same (s1.trans s2)) (px.mono (s1.trans s2)) q2,fun n C H' s2 z1 z2=>ke n C H' (s1.trans s2) z1 z2⟩⟩
theorem Y9 {sa sb:List Stmt}{tb ub:kC} (hc:∀ E,QT (X.wish E) c tc) (ha:QB X sa tb) (hb:QB X sb ub):QB X [.If c sa sb pos] (yH tc tb ub):=by
 refine Y8 (aI4 (tc:=LT X tc) (fun E=>hc E) ha hb) fun D Ex σ H h=>?_
 obtain ⟨W,ρ,D',Ep,px,q,k,ke⟩:=h
 refine⟨W,ρ,_,px,q,fun b H1 s1 q1=>?_⟩
 have ke':∀ n C H',aC H1 H'->PySem.W.nsIn X.K mainGlobals n=some (some (.ref C))->Ep n->Ex (.ref C) none H':=fun n C H' s2 z1 z2=>ke n C H' (s1.trans s2) z1 z2
 cases b with
 | true=>exact bJ ⟨W,ρ,D',Ep,px.mono s1,by simpa using q1,k.step (Ev.same s1),ke'⟩
 | false=>exact bF ⟨W,ρ,D',Ep,px.mono s1,by simpa using q1,k.step (Ev.same s1),ke'⟩
noncomputable def Z0 (D:g6) (i:Nat):g6:={ nx:=fun ρ=>D.nx (ρ.set i none),rt:=D.rt,bk:=fun ρ=>D.bk (ρ.set i none),ct:=fun ρ=>D.ct (ρ.set i none) }
noncomputable def nY:List Str:=["BadWeb","BadSet","BadOrder","BadPrices","BadBoard","BadDeed","NotWood","NoPaper","NoSuch","TooMany","NoText","OddRound"]
noncomputable def m8 (n m:Str):Option Bool:=if nY.contains n then some (n == m || m == "HearthError" || m == "ValueError") else none
noncomputable def yJ (m:Str) (i:Nat) (tb:kC) (ts:aK):aK:=fun D ρ=>tb D (fun n=>m8 n m=some true/\ts (Z0 D i) (ρ.set i (some (.sh true (.exc n))))) ρ
theorem aO7 {m:Str}{Ch:Addr}{i:Nat}{tb:kC}{ts:aK} (hs:∀ n C,m8 n m=some true->PySem.W.nsIn X.K mainGlobals n=some (some (.ref C))->PySem.W.subIn X.K (.ref C) (.ref Ch)=some true) (h:LS X (yJ m i tb ts) D σ H):U5 X.K Ch i (LB X tb) (LS X ts) D σ H:=by
 obtain ⟨W,ρ,D',px,q,k⟩:=h
 refine⟨W,ρ,D',_,px,q,k,fun n C H' s z1 z2 a C' oe hc na hcl=>?_⟩
 cases hc
 refine⟨hs n C z2.1 z1,W,_,Z0 D' i,(px.mono (s.trans (bH na _))).setSh (g:=true) (.exc bI z1 hcl),z2.2,?_⟩
 have k':=k.step (Ev.same (W:=W) (s.trans (bH na (.frz oe (.own a)))))
 exact⟨fun W' σ' H2 ρ' ev px' q'=>k'.nx W' _ H2 _ ev px'.setNone q',k'.rt,fun W' σ' H2 ρ' ev px' q'=>k'.bk W' _ H2 _ ev px'.setNone q',fun W' σ' H2 ρ' ev px' q'=>k'.ct W' _ H2 _ ev px'.setNone q'⟩
structure yK (K:PySem.W.Frag) (mg:Str->Option Value) (m:Str):Prop where
 ex:∃ Ch,mg m=some (.ref Ch)/\xM K Ch/\∀ n C,m8 n m=some true->PySem.W.nsIn K mainGlobals n=some (some (.ref C))->PySem.W.subIn K (.ref C) (.ref Ch)=some true
theorem aO8 (i:Nat) {m n:Str}{b₀:Stmt}{suite body:List Stmt}{tb:kC}{ts:aK} (ct:yK X.K X.mg m) (hN:X.N.Nodup) (hb:QB X body tb) (hs:∀ a,fA (X.suite a) (b₀ :: suite) ts) (hstk:X.stack=X.env :: X.outer/\X.env.frame=some X.env.locals:=by exact⟨rfl,rfl⟩) (hi:X.N[i]? = some n:=by rfl) (hl:X.env.scope.names.lookup n=some .local:=by rfl) (hg:Gl X m:=by rfl)
  (hd:(m == ("__debug__" : Str))=false:=by decide):QS X (.Try body [.ExceptHandler (some (.Name m np)) (some n) (b₀ :: suite) hp] [] [] pos) (yJ m i tb ts):=by
 obtain ⟨Ch,hm,c,sub⟩:=ct.ex
 exact dW (aI5 (ts:=LS X ts) hstk hb hg hm c hN hi hl (fun a=>sN (hs a) fun _ _ _ ⟨W,ρ,D',px,q,k⟩=>⟨W,ρ,D',px,q,⟨k.nx,k.rt,k.bk,k.ct⟩⟩) hd) fun _ _ _=>aO7 sub
noncomputable def i5:V->Value
 | .ref a=>.ref a
 | .ty n=>.type n
 | _=>.none
noncomputable def aO9 (K:PySem.W.Frag):List V->Hp->VK->Prop:=fun xs H Q=>∃ v v2 b,xs = [v,v2]/\i5 v2 ≠ .none/\((∃ a o C,v = .ref a/\H a=some (.frz o (.own a))/\o.cls = .ref C/\j9 K C/\PySem.W.kitOne K (.ref C) (i5 v2)=some b) ∨ (v = .non/\PySem.W.kitOne K (.type "NoneType") (i5 v2)=some b))/\Q (.bl b) H
theorem aP0:cX X (.builtin "isinstance") (aO9 X.K):=by
 intro pins s σ H xs us Q I r h
 obtain ⟨v,v2,b,rfl,hv,hk,q⟩:=h
 obtain ⟨u,u',rfl,ru,ru'⟩:=oP r
 obtain rfl:u'=i5 v2:=by
  cases v2 <;> first | exact ru' | exact absurd rfl hv
 rcases hk with ⟨a,o,C,rfl,hH,hc,F,e⟩ | ⟨rfl,e⟩
 ·obtain ⟨h1,_⟩:=I.hok a _ hH
  cases (show u=Value.ref a from ru)
  exact bp0 (aJ2 F) I.kIn ⟨o,h1,hc⟩ e (fun z=>nomatch z) fun tk=>⟨.bl b,H,I.tok tk,rfl,q⟩
 ·cases (show u=Value.none from ru)
  exact bp0 PySem.W.kitx_none I.kIn trivial e (fun z=>nomatch z) fun tk=>⟨.bl b,H,I.tok tk,rfl,q⟩
noncomputable def aP1 (m:Str):PV->Option Bool
 | .exc n=>m8 n m
 | .non=>some false
 | _=>none
noncomputable def nZ (m:Str) (te:aG):aG:=fun ρ Q=>te ρ fun x _=>∃ b,aP1 m x=some b/\Q (.bl b) .fr
structure yM (K:PySem.W.Frag) (m:Str) (v2:V):Prop where
 nn:i5 v2 ≠ .none
 ex:∀ n C b,PySem.W.nsIn K mainGlobals n=some (some (.ref C))->m8 n m=some b->j9 K C/\PySem.W.kitOne K (.ref C) (i5 v2)=some b
 no:PySem.W.kitOne K (.type "NoneType") (i5 v2)=some false
theorem Z1 {x:Str}{v2:V}{px:Pos} (B:Bt X.mg) (A:yM X.K x v2) (hx:PE X (.Name x px) (tC v2)) (ha:QE X a te) (hg:Gl X "isinstance":=by rfl)
  (he:starEach [a,.Name x px] X.env=(false,eval a X.env) :: starEach [.Name x px] X.env:=by rfl) (he2:starEach [.Name x px] X.env=(false,eval (.Name x px) X.env) :: starEach [] X.env:=by rfl) (hpl:(backTo pos (starEach [.Name x px] X.env)).any (·.1)=false:=by rfl):QE X (.Call (.Name "isinstance" p2) [a,.Name x px] [] pos) (nZ x te):=
 cF (oS aP0 hg B.isinst PyProof.Rows.boot_isinstance (cJ ha (cJ hx dF he2) he) (he:=he) (hpl:=hpl)) fun σ H Q' h=>by
  obtain ⟨W,ρ,Q,px,q,k⟩:=h
  refine⟨W,ρ,_,px,q,?_⟩
  rintro v H1 y g s r ⟨b,e,q⟩
  refine⟨v,v2,b,rfl,A.nn,?_,k _ _ _ .fr s (.bl _) q⟩
  cases r with
  | exc h z c=>
   obtain ⟨F,kt⟩:=A.ex _ _ _ z e
   exact .inl ⟨_,_,_,rfl,h,c,F,kt⟩
  | non=>cases e; exact .inr ⟨rfl,A.no⟩
  | _=>cases e
end
section
variable {X : Cx} {a : Expr} {pos p2 px : Pos} {te : aG}
structure qN (K:PySem.W.Frag) (mg:Str->Option Value) (m:Str):Prop where
 ex:∃ C,mg m=some (.ref C)/\yM K m (.ref C)
structure yN (K:PySem.W.Frag) (mg:Str->Option Value):Prop where
 mg:mg "ValueError" = none
 is:yM K "ValueError" (.ty "ValueError")
theorem Z2 {x:Str} (B:Bt X.mg) (A:qN X.K X.mg x) (ha:QE X a te) (hgx:Gl X x:=by rfl) (hdx:(x == ("__debug__" : Str))=false:=by decide) (hg:Gl X "isinstance":=by rfl)
  (he:starEach [a,.Name x px] X.env=(false,eval a X.env) :: starEach [.Name x px] X.env:=by rfl) (he2:starEach [.Name x px] X.env=(false,eval (.Name x px) X.env) :: starEach [] X.env:=by rfl) (hpl:(backTo pos (starEach [.Name x px] X.env)).any (·.1)=false:=by rfl):QE X (.Call (.Name "isinstance" p2) [a,.Name x px] [] pos) (nZ x te):=by
 obtain ⟨C,m,i⟩:=A.ex
 exact Z1 B i (am2 hgx m rfl hdx) ha hg he he2 hpl
theorem aP2 (B:Bt X.mg) (A:yN X.K X.mg) (ha:QE X a te) (hgx:Gl X "ValueError":=by rfl) (hg:Gl X "isinstance":=by rfl)
  (he:starEach [a,.Name "ValueError" px] X.env=(false,eval a X.env) :: starEach [.Name "ValueError" px] X.env:=by rfl) (he2:starEach [.Name "ValueError" px] X.env=(false,eval (.Name "ValueError" px) X.env) :: starEach [] X.env:=by rfl) (hpl:(backTo pos (starEach [.Name "ValueError" px] X.env)).any (·.1)=false:=by rfl):QE X (.Call (.Name "isinstance" p2) [a,.Name "ValueError" px] [] pos) (nZ "ValueError" te):=
 Z1 B A.is (A3 (v:=.ty "ValueError") hgx A.mg PyProof.Rows.Boot.«ValueError» rfl (by decide) (by decide)) ha hg he he2 hpl
end
structure kD (K:PySem.W.Frag) (C:Addr):Prop where
 cls:PySem.W.isClsIn K C=true
 ty:PySem.W.typeIn K (.ref C)=some (.type "type")
 ga:PySem.W.findIn K (.ref C) "__getattribute__" = some (some (.builtin "BaseException.__getattribute__"))
 gt:PySem.W.findIn K (.ref C) "__getattr__" = some none
 fc:PySem.W.findIn K (.ref C) "__class__" = some (some (.builtin "object.__class__"))
 fg:PySem.W.specialIn K (.builtin "object.__class__") "__get__" = some (some (.builtin "getset_descriptor.__get__"))
 ft:PySem.W.takesIn K (.builtin "object.__class__")=some true
 ob:PySem.W.mroIn K C (.type "object")=some true
 be:PySem.W.mroIn K C (.type "BaseException")=some true
theorem kD.exc {K:PySem.W.Frag}{C:Addr} (h:kD K C):j9 K C:=⟨h.cls,h.ga,h.gt,h.fc,h.fg,h.ft,h.ob,h.be⟩
theorem yO {K:PySem.W.Frag}{h₀:Heap}{mg:Str->Option Value}{x:Str}{C:Addr}{bmB:List Value}{newId:String} (X:K.In h₀) (m:mg x=some (.ref C)) (q:PySem.W.excIn K C bmB newId=true):OwnCls x C bmB newId mg h₀:=by
 refine⟨m,?_⟩
 unfold PySem.W.excIn at q
 split at q
 case h_2=>cases q
 rename_i dd cd sl ho
 split at q
 case h_2=>cases q
 rename_i C' bm k0 k1 k2 k3 n k5 hm hs
 simp only [bm2,beq_iff_eq,Bool.not_eq_true'] at q
 obtain ⟨⟨⟨⟨⟨rfl,rfl⟩,dl⟩,ht⟩,hok⟩,hni⟩:=q
 obtain ⟨nm,bs,mro,ns,qn,hd,sn,sub,ab,col,del⟩:=cd
 dsimp only at hm dl hok hni
 subst hm dl
 obtain rfl:sl = #[k0,k1,k2,k3,some (.builtin n),k5]:=by
  obtain ⟨l⟩:=sl
  exact congrArg Array.mk hs
 exact⟨bm,ns,nm,qn,bs,hd,sn,sub,ab,col,dd,k0,k1,k2,k3,k5,_,X _ _ ho,.of_isNs (PySem.W.isNs_of_in X hok),PySem.W.nsMap_none_of_in X hok hni,PySem.W.tail_of_in X ht⟩
theorem tP {n m:Str}{b:Bool} (h:m8 n m=some b):n ∈ nY/\b=(n == m || m == "HearthError" || m == "ValueError"):=by
 unfold m8 at h
 split at h
 ·rename_i z
  exact⟨by simpa using z,by cases h; rfl⟩
 ·cases h
theorem o0 {K:PySem.W.Frag}{C D:Addr}{b:Bool} (hd:kD K D) (ne:(C == D)=false) (s:PySem.W.subIn K (.ref C) (.ref D)=some b):PySem.W.kitOne K (.ref C) (.ref D)=some b:=by
 have ne':(Value.ref C == Value.ref D)=false:=by
  rw [beq_eq_false_iff_ne] at ne ⊢
  exact fun z=>ne (Value.ref.inj z)
 have c:=hd.cls
 unfold PySem.W.isClsIn at c
 unfold PySem.W.kitOne PySem.W.kitCls
 rw [if_neg (by rw [ne']; decide)]
 dsimp only
 rw [if_pos (by rw [c,hd.ty]; decide)]
 exact s
theorem Z3 {K:PySem.W.Frag}{C:Addr}:PySem.W.kitOne K (.ref C) (.ref C)=some true:=by
 unfold PySem.W.kitOne
 rw [if_pos (bs2 _)]
theorem tQ {K:PySem.W.Frag}{C:Addr} (s:PySem.W.subIn K (.ref C) (.type "ValueError")=some true):PySem.W.kitOne K (.ref C) (.type "ValueError")=some true:=by
 unfold PySem.W.kitOne PySem.W.kitCls
 rw [if_neg (fun z=>by cases beq_iff_eq.mp z)]
 dsimp only
 rw [if_pos (by decide +kernel)]
 exact s
theorem Z4 {K:PySem.W.Frag}{D:Addr} (hd:kD K D) (s:PySem.W.subIn K (.type "NoneType") (.ref D)=some false):PySem.W.kitOne K (.type "NoneType") (.ref D)=some false:=by
 have c:=hd.cls
 unfold PySem.W.isClsIn at c
 unfold PySem.W.kitOne PySem.W.kitCls
 rw [if_neg (fun z=>by cases beq_iff_eq.mp z)]
 dsimp only
 rw [if_pos (by rw [c,hd.ty]; decide)]
 exact s
theorem aP3 {K:PySem.W.Frag}:PySem.W.kitOne K (.type "NoneType") (.type "ValueError")=some false:=by
 have e:(if PySem.W.kitMeta "ValueError" = true then (fastBuiltinMro "NoneType").map (·.contains (Value.type "ValueError")) else none)=some false:=by decide +kernel
 unfold PySem.W.kitOne
 rw [if_neg (by decide)]
 exact e
theorem bV.of {P:Program}{w:World}{K:PySem.W.Frag}{mg:Str->Option Value}{base:Heap}{k:Nat}{x:Str}{ps N:List Str}{p:eO}{st:Stmt}{f:Addr}{fd:FuncData} (F:fI K x x st f fd) (m:mg x=some (.ref f)) (S:FnScope N ps (aY st))
  (hb:∀ (kV doc pm:Value) (an:Option Addr) (cdv ct:Value) (us:List Value),us.length=ps.length->bindArgs (PySem.W.fnOf x x (jL st) (fH st) (aY st) .none kV doc pm an cdv ct) ⟨us,[]⟩=pure (ps.zip us))
  (t:(Str->Prop)->aK) (len:∀ Ep xs Q,p Ep xs Q->xs.length=ps.length) (rd:∀ Ep xs Q,p Ep xs Q->t Ep { nx:=fun _=>Q .non,rt:=Q } (gJ N xs))
  (body:∀ (cdv:Value) (A:Around) (outer:List Env) (s:Shared) (H:Hp) (E:XK) (Ep:Str->Prop),cC k (A.deeper (envOfC x (aY st) s.heap.objs.size f cdv))->nQ (dP (eU P w) P w K mg base N x (aY st) f cdv A outer s H E) (EX K H Ep)->
   fA (dP (eU P w) P w K mg base N x (aY st) f cdv A outer s H E) (fH st) (t Ep)):bV P w K mg base (k+1) x ps p:=by
 refine⟨f,fd,F.okX S (fun vs H Q E h=>?_) (fun cdv A outer s H vs Q E hr h=>?_),F.binds hb,F.kp,m⟩
 ·obtain ⟨xs,Qp,Ep,r,q,_⟩:=h
  rw [r.length]; exact len Ep xs Qp q
 ·obtain ⟨xs,Qp,Ep,r,q,k,ke⟩:=h
  have ht:=body cdv A outer s H E Ep hr (aH7 fun c d H' z=>?_)
  ·refine⟨_,ht,fun _=>False,gJ N xs,_,xI r,rd Ep xs Qp q,?_,?_,?_,?_⟩
   ·exact fun W' σ' H' ρ' e px q=>k _ _ _ px.same .non q
   ·exact fun v H' x s r q=>k _ _ _ s r q
   ·exact fun W' σ' H' ρ' e px q=>q
   ·exact fun W' σ' H' ρ' e px q=>q
  ·obtain ⟨rfl,s1,n,C,rfl,z1,z2⟩:=z
   exact ke n C H' s1 z1 z2
end PP
namespace Core
open PySem L2 PP
noncomputable abbrev m9 (t:(Str->Prop)->aK) (N:List Str) (p:eO):Prop:=∀ Ep xs Q,p Ep xs Q->t Ep { nx:=fun _=>Q .non,rt:=Q } (gJ N xs)
noncomputable def tR:eO:=fun Ep xs Q=>∃ ws ls x ns,xs = [b6 ws ls,x]/\cU x ns/\ns.length<=1000/\(bE ws.length ns=true->Q (.tup (intz ns)))/\(bE ws.length ns=false->Ep "BadSet")
noncomputable def Z5 (Ep:Str->Prop):aK:=(aE (cD (j3 (bD (aB tD (a6 (a5 0) (a6 (a5 1) a9))))) (nX Ep "BadSet" (a6 (qC (.str "a set is of rising hearths of the web")) a9)) cH)
 (bN (aB j6 (a6 (a5 1) a9))))
theorem aP4:m9 Z5 ["web","hearths"] tR:=by
 rintro Ep xs Q ⟨ws,ls,x,ns,rfl,hx,hl,q1,q2⟩
 refine⟨_,rfl,_,rfl,ws,ls,x,ns,rfl,hx,hl,_,rfl,?_⟩
 cases h:bE ws.length ns with
 | true=>exact bF ⟨_,rfl,⟨_,_,rfl,hx.seqT,dG _,trivial,q1 h⟩,hx.noscr⟩
 | false=>exact bJ ⟨by decide,q2 h⟩
end Core
namespace PP
open PySem L2
theorem o4 {us:List Value} (h:us.length=1):∃ a,us = [a]:=List.length_eq_one_iff.mp h
theorem yQ {us:List Value} (h:us.length=2):∃ a b,us = [a,b]:=by
 cases us with
 | nil=>cases h
 | cons a r=>
  obtain ⟨b,rfl⟩:=o4 (us:=r) (by simpa using h)
  exact⟨a,b,rfl⟩
theorem Z6 {us:List Value} (h:us.length=3):∃ a b c,us = [a,b,c]:=by
 cases us with
 | nil=>cases h
 | cons a r=>
  obtain ⟨b,c,rfl⟩:=yQ (us:=r) (by simpa using h)
  exact⟨a,b,c,rfl⟩
end PP
namespace Core
open PySem L2 PP
noncomputable def NN (zs:List Int):Prop:=∀ z ∈ zs,(0:Int)<=z
theorem NN.set {zs:List Int}{z:Int} (h:NN zs) (hz:0<=z) (j:Nat):NN (zs.set j z):=fun y hy=>by
 rcases List.mem_or_eq_of_mem_set hy with hy | rfl
 ·exact h y hy
 ·exact hz
noncomputable def yR (i:Nat) (S:List Int):Prop:=S.Pairwise (· < ·)/\∀ x ∈ S,0<=x/\x < (i:Int)
theorem yR.set {i:Nat}{S:List Int} (h:yR i S):bE i S=true:=by
 unfold bE
 rw [t8 h.1,Bool.true_and,bq9]
 intro b hb
 obtain ⟨x,hx,rfl⟩:=bj8.mp hb
 have:=h.2 x hx
 unfold inB
 simp only [id,bm2,bq6]
 exact this
end Core
namespace PP
open PySem L2
section
variable {X : Cx} {a b e : Expr} {ta tb : aG} {tr : cG} {D : dL} {σ : St} {H : Hp} {pos p2 p3 p4 : Pos}
noncomputable def tS (i:Nat) (ta tb:aG):aK:=fun D ρ=>∃ xs,ρ[i]? = some (some (.own (.lst xs)))/\ta ρ fun x _=>∃ k:Nat,x = .int k/\k<=xs.length/\xs.length < 16000000/\tb ρ fun y g=>Nw g y/\D.nx (ρ.set i (some (.own (.lst (xs.take k ++ y :: xs.drop k)))))
theorem aP5 {i:Nat} (h:LS X (tS i ta tb) D σ H):oJ (oZ X.K "list" U6 (hG i) (i3 (LE X ta) (i3 (LE X tb) iY))) D σ H:=by
 obtain ⟨W,ρ,D',px,⟨xs,hi,q⟩,k⟩:=h
 obtain ⟨v,ev,a,rfl,wa,us,ea,r⟩:=px.sl i _ hi
 refine⟨_,ev,jO (aM.of ea),W,ρ,_,px,q,?_⟩
 rintro w H1 x g s rx ⟨j,rfl,hj,hl,q⟩
 cases rx
 refine⟨W,ρ,_,px.mono s,q,?_⟩
 rintro w H2 y g s2 ry ⟨n,q⟩
 have ea2:=s2 _ _ (s _ _ ea)
 have s3:=s.trans s2
 refine⟨a,us,w,j,rfl,rfl,ea2,by rw [r.length]; exact hj,gP (by rw [r.length]; omega),?_⟩
 refine k.nx W σ _ _ ((Ev.same s3).trans (Ev.upd wa)) ((px.mono s3).updL hi ev wa ?_) q
 have r2:=r.same s3 fun _ z=>z
 exact ((r2.take j).append (.cons (Nw.rep (px.mono s) n ry) (r2.drop j))).keep (.upd ea2 rfl fun b m=>⟨iL wa m,m⟩)
theorem aP6 (i:Nat) {x:Str}{apos cpos xpos:Pos} (ha:QE X a ta) (hb:QE X b tb) (hN:X.N[i]? = some x:=by rfl) (hv:gN X.env.scope x:=by first | exact Or.inl rfl | exact Or.inr (Or.inl rfl) | exact Or.inr (Or.inr rfl)) (hd:(x == ("__debug__" : Str))=false:=by decide) (hcd:(x == ("__classdict__" : Str))=false:=by decide)
  (hbase:attributeBase (.Name x xpos) "insert" X.env (eval (.Name x xpos) X.env)=eval (.Name x xpos) X.env:=by rfl)
  (hfew:((backTo cpos (starEach [a,b] X.env)).all (fun x=>!x.1) && (backToKw cpos (keywordEach [] X.env)).all (fun x=>x.1.isSome) && decide (([a,b]:List Expr).length+([]:List Keyword).length+(if ([]:List Keyword).isEmpty then 0 else 1) < 30))=true:=by rfl)
  (hline:(apos.endLine == cpos.line)=true:=by rfl) (hs:starEach [a,b] X.env=(false,eval a X.env) :: starEach [b] X.env:=by rfl) (hs2:starEach [b] X.env=(false,eval b X.env) :: starEach [] X.env:=by rfl) (hplain:(backTo cpos (starEach [b] X.env)).any (·.1)=false:=by rfl)
  (hsw:swapsWith (.Call (.Attribute (.Name x xpos) "insert" apos) [a,b] [] cpos) none pos.line X.env=pure false:=by rfl) :
  QS X (.Expr (.Call (.Attribute (.Name x xpos) "insert" apos) [a,b] [] cpos) pos) (tS i ta tb):=
 dW (kK (kN bo7 PySem.F.slot_list_insert PySem.F.type_list_insert aJ3 (iF hN hv hd hcd) (cJ ha (cJ hb dF hs2) hs) hbase hfew hline hs hplain) hsw) fun _ _ _=>aP5
end
end PP
namespace Core
open PySem L2 PP
structure WL (n:Int) (ws:List Int) (ls:List (Int × Int)):Prop where
 many:(ws.length:Int)=n
 inn:∀ l ∈ ls,0<=l.1/\l.1 < l.2/\l.2 < n
 most:ls.length<=1700
 ord:ls.Pairwise jB
 pos:∀ w ∈ ws,0<=w
theorem WL.perm {n:Int}{ws:List Int}{ls ls':List (Int × Int)} (h1:(ws.length:Int)=n) (h2:∀ l ∈ ls,0<=l.1/\l.1 < l.2/\l.2 < n) (h3:ls.length<=1700) (nd:ls.Nodup) (h4:∀ w ∈ ws,0<=w) (p:ls'.Perm ls) (so:(ls'.map two).Pairwise fun u v=>HT.eJ v u=false):WL n ws ls':=
 ⟨h1,fun l hl=>h2 l (p.mem_iff.mp hl),by rw [p.length_eq]; exact h3,W8 so (p.nodup_iff.mpr nd),h4⟩
theorem WL.wb {n:Int}{ws:List Int}{ls:List (Int × Int)} (h:WL n ws ls) (hn:n<=40):Wb ws ls:=
 ⟨by have:=h.many; omega,h.most,fun l hl=>by have:=h.inn l hl; have:=h.many; omega⟩
noncomputable def aP7 (f:List Int->List (Int × Int)->List Int->(PV->Prop)->Prop):eO:=fun Ep xs Q=>∃ ws ls x ns,xs = [b6 ws ls,x]/\Wb ws ls/\cU x ns/\ns.length<=1000/\(bE ws.length ns=true->f ws ls ns Q)/\(bE ws.length ns=false->Ep "BadSet")
noncomputable def tT:bK:=fun xs Q=>∃ ws ls y ms,xs = [b6 ws ls,y]/\cU y ms/\ms.length<=1000/\ws.length<=1000/\Q (.tup (intz (yD ws.length ms)))
noncomputable def Z7:aK:=(bN (aB nW (a6 (xQ (aB gW (a6 (a5 0) a9))) (a6 (a5 1) a9))))
theorem aP8:cI Z7 ["web","some"] tT:=by
 rintro xs Q ⟨ws,ls,y,ms,rfl,hy,hm,hw,q⟩
 refine⟨_,rfl,ws,ls,rfl,_,rfl,by omega,by omega,?_⟩
 rw [aL5]
 refine⟨_,rfl,_,rng ws.length,y,ms,rfl,.inr rfl,hy,by rw [dM]; omega,hm,trivial,q⟩
end Core
namespace PP
open PySem L2
section
variable {X : Cx} {a : Expr} {tk : aG} {σ : St} {H : Hp} {Q' : VK} {pos p2 : Pos}
noncomputable def yT (tk:aG):aG:=fun ρ Q=>tk ρ fun x _=>∃ n:Int,x = .int n/\Q (.dK [(Sum.inl n,.bl true)]) .fr
theorem aP9 (h:LE X (yT tk) σ H Q'):K7 [(LE X tk,tC (.bl true))] σ H Q':=by
 obtain ⟨W,ρ,Q,px,q,k⟩:=h
 intro p hp
 refine⟨W,ρ,_,px.mono (bH hp _),q,?_⟩
 rintro v H1 x g s r ⟨n,rfl,q1⟩
 cases r
 have hp1:H1 p=some (.dK []):=s p _ bI
 refine⟨hp1,[((Sum.inl n:aH),V.bl true)],rfl,by show 1<=15; decide,?_⟩
 have sm:aC H (upd H1 p (.dK (mS [] [((Sum.inl n:aH),V.bl true)]))):=fun b o e=>by
  have nb:b ≠ p:=fun z=>by rw [z,hp] at e; cases e
  rw [aR nb]
  exact s b o (by rw [aR nb]; exact e)
 exact k _ _ _ .fr sm (.dK hp bI rfl (.cons (.bl true) .nil)) q1
theorem aQ0 {j:Nat} (ha:QE X a tk):QE X (.Dict [some a] [.Constant (.bool true) j p2] pos) (yT tk):=
 cF (av4 (av3 ha A2 av2) rfl rfl (by simp) (by show 1<=15; decide)) fun _ _ _=>aP9
theorem aQ1 (hN:X.N.Nodup) (i j:Nat) {x y:Str}{apos cpos xpos:Pos} (hi:X.N[i]? = some x:=by rfl) (hj:X.N[j]? = some y:=by rfl) (hv:gN X.env.scope x:=by first | exact Or.inl rfl | exact Or.inr (Or.inl rfl) | exact Or.inr (Or.inr rfl)) (hd:(x == ("__debug__" : Str))=false:=by decide) (hcd:(x == ("__classdict__" : Str))=false:=by decide)
  (hbase:attributeBase (.Name x xpos) "pop" X.env (eval (.Name x xpos) X.env)=eval (.Name x xpos) X.env:=by rfl) (hline:(apos.endLine == cpos.line)=true:=by rfl)
  (hx:iE X.env.scope y:=by first | exact Or.inl rfl | exact Or.inr rfl) (hs:swapsWith (.Call (.Attribute (.Name x xpos) "pop" apos) [] [] cpos) (some (.Name y p2)) pos.line X.env=pure false:=by rfl) (hf:X.fn y=true ∨ X.env.scope.names.lookup y=some .local:=by first | exact .inl rfl | exact .inr rfl) :
  QS X (.Assign [.Name y p2] (.Call (.Attribute (.Name x xpos) "pop" apos) [] [] cpos) pos) (wT i j):=
 dW (qZ hN hj hx (at7 bo7 PySem.F.slot_list_pop PySem.F.type_list_pop au0 (iF hi hv hd hcd) hbase hline) hs hf) fun _ _ _=>aC3
end
end PP
namespace Core
open PySem L2 PP
noncomputable def gX (R:List Int):List (aH × PV):=R.map fun x=>((Sum.inl x:aH),PV.bl true)
theorem Z8 (R:List Int):(gX R).map (·.1)=R.map (Sum.inl:Int->aH):=by unfold gX; rw [bm7]; rfl
theorem aQ2 (R:List Int):(gX R).length=R.length:=by unfold gX; rw [bi4]
theorem aQ3 (R:List Int) (n:Int):(cL (gX R) (Sum.inl n:aH)).isSome=decide (n ∈ R):=by
 rw [<- tE,bp8,List.any_eq_true,bq6]
 unfold gX
 refine⟨fun ⟨p,hp,e⟩=>?_,fun h=>⟨_,bj8.mpr ⟨n,h,rfl⟩,bi6 rfl⟩⟩
 obtain ⟨x,hx,rfl⟩:=bj8.mp hp
 have e:(Sum.inl x:aH)=Sum.inl n:=bn0 e
 rw [<- Sum.inl.inj e]; exact hx
theorem aQ4 {R:List Int}{y:Int} (h:y ∉ R):fN (gX R) (Sum.inl y:aH) (.bl true)=gX (R ++ [y]):=by
 rw [aN9 (Z8 R) h]
 unfold gX
 rw [bk2]; rfl
structure yU (n:Nat) (ls:List (Int × Int)) (S P:List Int):Prop where
 set:bE n P=true
 ne:P ≠ []
 sub:∀ x ∈ P,x ∈ S
 shut:∀ x ∈ P,∀ y ∈ aN ls x,y ∈ S->y ∈ P
 got:∀ h ∈ S.head?,h ∈ P
 least:∀ U:List Int,(∀ x ∈ U,∀ y ∈ aN ls x,y ∈ S->y ∈ U)->(∀ h ∈ S.head?,h ∈ U)->∀ x ∈ P,x ∈ U
noncomputable def tU:bK:=fun xs Q=>∃ ws ls S,xs = [.lst (bT ws.length ls),.tup (intz S)]/\Wb ws ls/\bE ws.length S=true/\S ≠ []/\∀ P,yU ws.length ls S P->Q (.tup (intz P))
noncomputable def Z9:aK:=(aE (b4 2 (aB nS (a6 (a5 1) a9)))
 (aE (dR 3 (yT (bA (a5 1) (qC (.int 0)))))
 (aE (dR 4 (dQ (a6 (bA (a5 1) (qC (.int 0))) a9)))
 (aE (lT (jT (a5 4))
  (aE (wT 4 5)
  (dS (cR (bA (a5 0) (a5 5))) (bX 6)
   (cD (mX (bD (kU false (a5 6) (a5 2))) (bD (kU true (a5 6) (a5 3)))) (aE (pO 3 (a5 6) (qC (.bl true)))
    (gT 4 (a5 6))) cH))))
 (bN (aB j6 (a6 (aB yE (a6 (a5 3) a9)) a9)))))))
structure Way (ls:List (Int × Int)) (S R W:List Int) (E:Int->Prop):Prop where
 nd:R.Nodup
 ne:R ≠ []
 sub:∀ x ∈ R,x ∈ S
 wait:∀ x ∈ W,x ∈ R
 shut:∀ x ∈ R,x ∉ W->¬ E x->∀ y ∈ aN ls x,y ∈ S->y ∈ R
 got:∀ h ∈ S.head?,h ∈ R
 least:∀ U:List Int,(∀ x ∈ U,∀ y ∈ aN ls x,y ∈ S->y ∈ U)->(∀ h ∈ S.head?,h ∈ U)->∀ x ∈ R,x ∈ U
theorem aQ5:cI Z9 ["around","hearths","inside","reached","waiting","hearth","other"] tU:=by
 rintro xs Q ⟨ws,ls,S,rfl,wb,hS,hne,q⟩
 have few:=wb.few
 have most:=wb.most
 have sl:=qF hS
 have snd:S.Nodup:=(gC (eB hS).1).imp fun h=>bu3 h
 obtain ⟨s0,sr,rfl⟩:∃ s0 sr,S=s0 :: sr:=by
  cases S with
  | nil=>exact absurd rfl hne
  | cons a r=>exact⟨a,r,rfl⟩
 have i0:L2.atI (intz (s0 :: sr)) (0:Int)=some (.int s0):=jI (xs:=intz (s0 :: sr)) (j:=0) rfl
 generalize hSS:s0 :: sr=S at *
 have m0:s0 ∈ S:=by rw [<- hSS]; exact bi9
 have hd:∀ h,h ∈ S.head? ↔ h=s0:=fun h=>by rw [<- hSS]; exact⟨fun z=>by cases z; rfl,fun z=>by rw [z]; rfl⟩
 refine⟨_,rfl,_,S,rfl,.inl rfl,by omega,fun pm dm=>⟨trivial,?_⟩⟩
 refine⟨_,rfl,_,_,_,rfl,rfl,i0,s0,rfl,rfl,rfl,?_⟩
 refine⟨_,rfl,_,_,_,rfl,rfl,i0,by show 1<=1000; decide,rfl,rfl,rfl,?_⟩
 refine⟨fun n ρ=>∃ (R W:List Int) (y5 y6:Option Slot),ρ = [some (.sh (flat (.lst (bT ws.length ls))) (.lst (bT ws.length ls))),some (.sh (flat (.tup (intz S))) (.tup (intz S))),some (.sh true (.dK pm)),some (.own (.dK (gX R))),some (.own (.lst (intz W))),y5,y6]/\
   n=2 * (S.length - R.length)+W.length/\n<=2 * S.length/\Way ls S R W fun _=>False,⟨_,[s0],[s0],none,none,rfl,rfl,by rw [<- hSS]; simp; omega,bl7 _ _,(fun z=>nomatch z),(fun x hx=>by rw [bi3.mp hx]; exact m0),fun _ h=>h,fun x hx hw=>absurd hx hw,fun h hh=>bi3.mpr ((hd h).mp hh),fun U _ hU x hx=>by rw [bi3.mp hx]; exact hU s0 ((hd s0).mpr rfl)⟩,?_⟩
 rintro n ρ ⟨R,W,y5,y6,rfl,rfl,bd,wy⟩
 refine⟨_,rfl,_,rfl,?_⟩
 have rl:R.length<=S.length:=wy.nd.length_le_of_subset wy.sub
 rcases List.eq_nil_or_concat W with hW | ⟨W',h,hW⟩
 ·subst hW
  refine bF ⟨_,rfl,_,R,rfl,Z8 R,by omega,fun ms pm so=>⟨⟨_,_,rfl,rfl,dG _,trivial,q ms ⟨?_,?_,?_,?_,fun h hh=>pm.mem_iff.mpr (wy.got h hh),fun U hU hh x hx=>wy.least U hU hh x (pm.mem_iff.mp hx)⟩⟩,fun ns z=>by cases z⟩⟩
  ·have nd:ms.Nodup:=pm.nodup_iff.mpr wy.nd
   have up:ms.Pairwise (· < ·):=(List.Pairwise.and so nd).imp fun z=>Int.lt_iff_le_and_ne.mpr ⟨z.1,z.2⟩
   have u:qJ (ws.length:Int) ms:=⟨up,fun x hx=>(eB hS).2 x (wy.sub x (pm.mem_iff.mp hx)),by rw [pm.length_eq]; omega⟩
   exact u.set
  ·intro z; rw [z] at pm; exact wy.ne (List.nil_perm.mp pm)
  ·exact fun x hx=>wy.sub x (pm.mem_iff.mp hx)
  ·exact fun x hx y hy hyS=>pm.mem_iff.mpr (wy.shut x (pm.mem_iff.mp hx) (fun z=>nomatch z) (fun z=>z) y hy hyS)
 ·have hW:W=W' ++ [h]:=by rw [hW]; simp
  subst hW
  have hR:h ∈ R:=wy.wait h (by simp)
  have hb:=(eB hS).2 h (wy.sub h hR)
  have nz:(!(intz (W' ++ [h])).isEmpty)=true:=by rw [eN]; cases W' <;> rfl
  show if (!(intz (W' ++ [h])).isEmpty)=true then _ else _
  rw [nz]
  refine bJ ⟨intz W',.int h,by rw [eN]; rfl,?_⟩
  refine⟨_,rfl,_,rfl,_,_,_,rfl,rfl,tF hb.1 hb.2,_,rfl,(fun z=>by cases z),fun j ρ=>∃ (R2 W2:List Int) (y6:Option Slot),ρ = [some (.sh (flat (.lst (bT ws.length ls))) (.lst (bT ws.length ls))),some (.sh (flat (.tup (intz S))) (.tup (intz S))),some (.sh true (.dK pm)),some (.own (.dK (gX R2))),some (.own (.lst (intz W2))),si h,y6]/\
    2 * (S.length - R2.length)+W2.length < 2 * (S.length - R.length)+(W' ++ [h]).length/\Way ls S R2 W2 (fun x=>x=h)/\h ∈ R2/\∀ y ∈ (aN ls h).take j,y ∈ S->y ∈ R2,
    ⟨R,W',y6,rfl,by rw [bj4,bm8]; omega,⟨wy.nd,wy.ne,wy.sub,fun x hx=>wy.wait x (bk7 _ hx),fun x hx hw he=>wy.shut x hx (fun z=>(bi7.mp z).elim hw fun z=>he (bi3.mp z)) fun z=>z,wy.got,wy.least⟩,hR,fun y hy=>by rw [List.take_zero] at hy; cases hy⟩,?_,?_⟩
  ·rintro j y ρ hy ⟨R2,W2,y6,rfl,lt,wy2,hR2,seen⟩
   obtain ⟨o,rfl,ho⟩:=gV hy
   have rl2:R2.length<=S.length:=wy2.nd.length_le_of_subset wy2.sub
   have tk:∀ y,y ∈ (aN ls h).take (j+1)->y ∈ (aN ls h).take j ∨ y=o:=fun y z=>by
    rw [bm4,ho] at z
    rcases bi7.mp z with z | z
    ·exact .inl z
    ·exact .inr (by simpa using z)
   refine iB ?_
   refine⟨_,rfl,_,rfl,_,.inl ⟨pm,Sum.inl o,rfl,rfl,rfl⟩,_,rfl,?_⟩
   show if (cL pm (Sum.inl o:aH)).isSome=true then _ else _
   rw [dm.has o]
   by_cases h1:o ∈ S
   ·rw [bi6 h1]
    refine bJ ⟨_,rfl,_,rfl,_,.inl ⟨gX R2,Sum.inl o,rfl,rfl,rfl⟩,_,rfl,?_⟩
    show if (!(cL (gX R2) (Sum.inl o:aH)).isSome)=true then _ else _
    rw [aQ3]
    by_cases h2:o ∈ R2
    ·rw [bi6 h2]
     exact bF ⟨R2,W2,si o,rfl,lt,wy2,hR2,fun y z zS=>(tk y z).elim (fun z=>seen y z zS) fun e=>by rw [e]; exact h2⟩
    ·rw [bj5 h2]
     have nd3:(R2 ++ [o]).Nodup:=br4.mpr ⟨wy2.nd,bl7 _ _,fun a ha b hb e=>h2 (by rw [bi3.mp hb] at e; rw [<- e]; exact ha)⟩
     have sub3:∀ x ∈ R2 ++ [o],x ∈ S:=fun x hx=>(bi7.mp hx).elim (wy2.sub x) fun z=>by rw [bi3.mp z]; exact h1
     have l3:(R2 ++ [o]).length<=S.length:=nd3.length_le_of_subset sub3
     rw [bj4,bm8] at l3
     refine bJ ⟨_,rfl,_,rfl,Sum.inl o,rfl,trivial,by rw [aQ2]; omega,?_⟩
     rw [aQ4 h2]
     refine⟨_,rfl,_,rfl,trivial,by rw [b8]; omega,R2 ++ [o],W2 ++ [o],si o,?_,?_,⟨nd3,(fun z=>by simp at z),sub3,fun x hx=>?_,fun x hx hw he y hy yS=>?_,fun h hh=>bk7 _ (wy2.got h hh),fun U hU hh x hx=>(bi7.mp hx).elim (wy2.least U hU hh x) fun z=>by rw [bi3.mp z]; exact hU h (wy2.least U hU hh h hR2) o (bi0 ho) h1⟩,bk7 _ hR2,fun y z zS=>?_⟩
     ·rw [eN]; rfl
     ·simp only [bj4,bm8] at lt ⊢; omega
     ·rcases bi7.mp hx with z | z
      ·exact bk7 _ (wy2.wait x z)
      ·exact bk5 _ z
     ·rcases bi7.mp hx with z | z
      ·exact bk7 _ (wy2.shut x z (fun z=>hw (bk7 _ z)) he y hy yS)
      ·exact absurd (bk5 _ z) hw
     ·rcases tk y z with z | e
      ·exact bk7 _ (seen y z zS)
      ·rw [e]; exact bk5 _ (bi3.mpr rfl)
   ·rw [bj5 h1]
    exact bF (bF ⟨R2,W2,si o,rfl,lt,wy2,hR2,fun y z zS=>(tk y z).elim (fun z=>seen y z zS) fun e=>absurd (e ▸ zS) h1⟩)
  ·rintro ρ ⟨R2,W2,y6,rfl,lt,wy2,hR2,seen⟩
   rw [b8,bp3] at seen
   refine⟨_,lt,R2,W2,si h,y6,rfl,rfl,by omega,wy2.nd,wy2.ne,wy2.sub,wy2.wait,fun x hx hw _ y hy yS=>?_,wy2.got,wy2.least⟩
   by_cases e:x=h
   ·subst e; exact seen y hy yS
   ·exact wy2.shut x hx hw e y hy yS
noncomputable def aa0 (Ep:Str->Prop):aK:=(aE (b4 2 (aB iQ (a6 (a5 0) a9)))
 (aE (b4 3 (kB Ep tR (a6 (a5 0) (a6 (a5 1) a9))))
 (aE (dR 4 (dQ a9))
 (aE (lT (jT (a5 3))
  (aE (b4 5 (aB tU (a6 (a5 2) (a6 (a5 3) a9))))
  (aE (gT 4 (a5 5))
  (b4 3 (aB nW (a6 (a5 3) (a6 (a5 5) a9)))))))
 (j4 4)))))
theorem aQ6 (n:Nat):rng (n+1)=rng n ++ [(n:Int)]:=by
 unfold rng; rw [List.range_succ,bk2]; rfl
theorem tV (n:Nat) (a:Int):(List.replicate n [PV.int a]).flatten=intz (List.replicate n a):=by
 induction n with
 | zero=>rfl
 | succ n ih=>rw [bn1,bn1,bs7,ih]; rfl
section
variable {ws : List Int} {ls : List (Int × Int)}
noncomputable def cne (ws:List Int) (ls:List (Int × Int)) (S:List Int):Bool:=!decide (S = []) && decide (stay ws ls S=S)
noncomputable def bh6 (s:Nat):List (Int × Int):=(0,(s:Int) - 1) :: (rng (s - 1)).map fun k=>(k,k+1)
end
theorem o7 {b:Bool}{A B:Prop} (a:A) (c:B):if b=true then A else B:=by
 cases b with
 | true=>exact bJ a
 | false=>exact bF c
noncomputable def far (ns S:List Int):Bool:=decide (((S.filter fun x=>decide (x ∈ ns)).length:Int)=0)
noncomputable def eC (ls:List (Int × Int)) (S U:List Int):Prop:=∀ x ∈ U,∀ y ∈ aN ls x,y ∈ S->y ∈ U
noncomputable def comp (ls:List (Int × Int)) (S:List Int) (h:Int):List Int:=S.filter fun x=>@decide (∀ U:List Int,eC ls S U->h ∈ U->x ∈ U) (Classical.propDecidable _)
section
variable {ws : List Int} {ls : List (Int × Int)} {S : List Int} {n : Nat} {h x : Int}
theorem gL:x ∈ comp ls S h ↔ x ∈ S/\∀ U,eC ls S U->h ∈ U->x ∈ U:=by
 unfold comp
 rw [bj6]
 exact⟨fun z=>⟨z.1,@bn0 _ (Classical.propDecidable _) z.2⟩,fun z=>⟨z.1,@bi6 _ (Classical.propDecidable _) z.2⟩⟩
theorem qO:∀ x ∈ comp ls S h,x ∈ S:=fun x hx=>(gL.mp hx).1
theorem fQ (hh:h ∈ S):h ∈ comp ls S h:=gL.mpr ⟨hh,fun _ _ z=>z⟩
theorem iC:eC ls S (comp ls S h):=fun x hx y hy yS=>gL.mpr ⟨yS,fun U hU z=>hU x ((gL.mp hx).2 U hU z) y hy yS⟩
theorem gM (hS:bE n S=true):bE n (comp ls S h)=true:=tM hS _
theorem aQ7 {P:List Int} (hS:bE n S=true) (hP:bE n P=true) (hs:∀ x ∈ P,x ∈ S) (hh:h ∈ P) (sh:eC ls S P) (le:∀ U,eC ls S U->h ∈ U->∀ x ∈ P,x ∈ U):P=comp ls S h:=
 Y1 hP (gM hS) fun x=>⟨fun hx=>gL.mpr ⟨hs x hx,fun U hU z=>le U hU z x hx⟩,fun hx=>(gL.mp hx).2 P sh hh⟩
theorem kE (hS:bE n S=true) (hx:x ∈ comp ls S h) (hh:h ∈ S):comp ls S x=comp ls S h:=by
 have back:h ∈ comp ls S x:=by
  refine gL.mpr ⟨hh,fun U hU xU=>?_⟩
  refine bn9 fun hn=>?_
  have sv:eC ls S (S.filter fun z=>!decide (z ∈ U)):=fun a ha b hb bS=>by
   rw [bj6] at ha ⊢
   refine⟨bS,?_⟩
   by_cases bU:b ∈ U
   ·have:=hU b bU a (jP hb) ha.1
    rw [bi6 this] at ha; exact absurd ha.2 (by decide)
   ·rw [bj5 bU]; rfl
  have:=(gL.mp hx).2 _ sv (bj6.mpr ⟨hh,by rw [bj5 hn]; rfl⟩)
  rw [bj6,bi6 xU] at this
  exact absurd this.2 (by decide)
 exact Y1 (gM hS) (gM hS) fun y=>⟨fun hy=>(gL.mp hy).2 _ iC hx,fun hy=>(gL.mp hy).2 _ iC back⟩
theorem jC {L:List Int}{a:Int} (hL:bE n L=true) (ha:L.head? = some a):a ∈ L/\∀ x ∈ L,a=x ∨ a < x:=by
 cases L with
 | nil=>cases ha
 | cons b r=>
  cases ha
  refine⟨bi9,fun x hx=>?_⟩
  rcases bj1.mp hx with e | hx
  ·exact .inl e.symm
  ·exact .inr ((br8.mp (gC (eB hL).1)).1 x hx)
theorem yV {L:List Int}{a:Int} (hL:bE n L=true) (ha:a ∈ L) (hl:∀ x ∈ L,a<=x):L.head? = some a:=by
 cases L with
 | nil=>cases ha
 | cons b r=>
  rcases bj1.mp ha with e | e
  ·rw [e]; rfl
  ·have h1:=(br8.mp (gC (eB hL).1)).1 a e
   have h2:=hl b bi9
   omega
noncomputable def qP (ls:List (Int × Int)) (S:List Int) (h:Int):Bool:=decide ((comp ls S h).head? = some h)
noncomputable def aX (ls:List (Int × Int)) (S:List Int):List Int:=S.filter (qP ls S)
theorem aQ8 {A B:List Int} (ua:A.Pairwise (· < ·)) (ub:B.Pairwise (· < ·)) (h:∀ x,x ∈ A ↔ x ∈ B):A=B:=
 xX ((br9 (ua.imp fun z=>bu3 z) (ub.imp fun z=>bu3 z)).mpr h) (ua.imp fun z=>Int.le_of_lt z) (ub.imp fun z=>Int.le_of_lt z)
theorem aQ9 {L:List Int}{a:Int} (hS:bE n S=true) (hL:bE n L=true) (sub:∀ x ∈ L,x ∈ S) (ha:L.head? = some a) (pl:∀ x ∈ comp ls S a,x ∈ L)
  (lt:∀ h ∈ (aX ls S).filter (fun z=>!decide (z ∈ L)),∀ x ∈ L,h < x) :
  (aX ls S).filter (fun z=>!decide (z ∈ L.filter fun z=>!decide (z ∈ comp ls S a)))=(aX ls S).filter (fun z=>!decide (z ∈ L)) ++ [a]:=by
 obtain ⟨aL,al⟩:=jC hL ha
 have aS:=sub a aL
 have hu:(aX ls S).Pairwise (· < ·):=gC (eB (tM hS (qP ls S))).1
 have hd:(comp ls S a).head? = some a:=yV (gM hS) (fQ aS) fun x hx=>by rcases al x (pl x hx) with e | e <;> omega
 refine aQ8 (hu.sublist List.filter_sublist) (List.pairwise_append.mpr ⟨hu.sublist List.filter_sublist,bl7 _ _,fun x hx y hy=>by rw [bi3.mp hy]; exact lt x hx a aL⟩) fun x=>?_
 simp only [bi7,bi3,bj6,Bool.not_eq_true',bt6,not_and,Decidable.not_not]
 constructor
 ·rintro ⟨hx,hn⟩
  by_cases xL:x ∈ L
  ·refine .inr ?_
   have xc:=hn xL
   have h1:(comp ls S x).head? = some x:=bn0 (bj6.mp hx).2
   rw [kE hS xc aS,hd] at h1
   cases h1; rfl
  ·exact .inl ⟨hx,xL⟩
 ·rintro (⟨hx,xL⟩ | rfl)
  ·exact⟨hx,fun z=>absurd z xL⟩
  ·exact⟨bj6.mpr ⟨aS,bi6 hd⟩,fun _=>fQ aS⟩
theorem yU.comp {L P:List Int}{a:Int} (hS:bE n S=true) (sub:∀ x ∈ L,x ∈ S) (sh:eC ls S L) (ha:L.head? = some a) (pc:yU n ls L P):P=comp ls S a:=by
 have ea:∀ z,z ∈ L.head?->z=a:=fun z hz=>by rw [ha] at hz; cases hz; rfl
 exact aQ7 hS pc.set (fun x hx=>sub x (pc.sub x hx)) (pc.got a ha) (fun x hx y hy yS=>pc.shut x hx y hy (sh x (pc.sub x hx) y hy yS))
  fun U hU aU=>pc.least U (fun x hx y hy yL=>hU x hx y hy (sub y yL)) fun z hz=>by rw [ea z hz]; exact aU
end
noncomputable abbrev aR0:=aa0
noncomputable def iS (ls:List (Int × Int)) (S:List Int):List (List Int):=(aX ls S).map (comp ls S)
noncomputable def tW:eO:=aP7 fun ws ls S Q=>Q (.lst (tups (iS ls S)))
theorem aR1:m9 aa0 ["web","block","around","left","pieces","piece"] tW:=by
 rintro Ep xs Q ⟨ws,ls,x,S,rfl,wb,hx,hl,q,qe⟩
 have few:=wb.few
 refine⟨_,rfl,ws,ls,rfl,wb,trivial,?_⟩
 refine⟨_,rfl,_,rfl,ws,ls,x,S,rfl,hx,hl,fun hs=>⟨trivial,?_⟩,qe⟩
 have q:Q (.lst (tups (iS ls S))):=q hs
 have sl:=qF hs
 refine⟨by decide,rfl,rfl,rfl,?_⟩
 refine⟨fun n ρ=>∃ (L:List Int) (Ps:List (List Int)) (y5:Option Slot),ρ = [some (.sh (flat (b6 ws ls)) (b6 ws ls)),some (.sh (flat x) x),some (.sh true (.lst (bT ws.length ls))),some (.sh true (.tup (intz L))),some (.own (.lst (tups Ps))),y5]/\
   n=L.length/\bE ws.length L=true/\Ps.length+L.length<=S.length/\(∀ x ∈ L,x ∈ S)/\eC ls S L/\Ps=((aX ls S).filter fun z=>!decide (z ∈ L)).map (comp ls S)/\∀ h ∈ (aX ls S).filter (fun z=>!decide (z ∈ L)),∀ x ∈ L,h < x,⟨_,S,[],none,rfl,rfl,hs,by simp,fun _ h=>h,fun _ _ _ _ h=>h,?_,?_⟩,?_⟩
 ·rw [bv8.mpr fun z hz=>?_]; rfl
  rw [bi6 (bj6.mp hz).1]; decide
 ·intro h hh
  have:=bj6.mp hh
  rw [bi6 (bj6.mp this.1).1] at this
  exact absurd this.2 (by decide)
 rintro n ρ ⟨L,Ps,y5,rfl,rfl,lset,bd,sub,sh,eP,lt⟩
 refine⟨_,rfl,_,rfl,?_⟩
 cases hL:L with
 | nil=>
  refine bF ⟨_,rfl,trivial,?_⟩
  have e:(aX ls S).filter (fun z=>!decide (z ∈ L))=aX ls S:=List.filter_eq_self.mpr fun z _=>by rw [hL]; rfl
  rw [e] at eP
  rw [eP]; exact q
 | cons a r=>
  rw [<- hL]
  have ne:(!(intz L).isEmpty)=true:=by rw [hL]; rfl
  have nl:L ≠ []:=by rw [hL]; exact fun z=>nomatch z
  have hd:L.head? = some a:=by rw [hL]; rfl
  show if (!(intz L).isEmpty)=true then _ else _
  rw [ne]
  refine bJ ?_
  have ll:=qF lset
  refine⟨_,rfl,_,rfl,ws,ls,L,rfl,wb,lset,nl,fun P pc=>⟨trivial,?_⟩⟩
  have pn:P.Nodup:=(gC (eB pc.set).1).imp fun h=>bu3 h
  have pl:P.length<=L.length:=pn.length_le_of_subset pc.sub
  refine⟨_,rfl,_,rfl,trivial,by rw [tG]; omega,?_⟩
  refine⟨_,rfl,_,rfl,_,L,_,P,rfl,.inl rfl,.inl rfl,by omega,by omega,trivial,?_⟩
  have aP:=pc.got a hd
  obtain ⟨aL,al⟩:=jC lset hd
  have lt2:(L.filter fun z=>!decide (z ∈ P)).length < L.length:=by
   rcases Nat.lt_or_ge (L.filter fun z=>!decide (z ∈ P)).length L.length with z | z
   ·exact z
   ·have:=List.filter_eq_self.mp (List.filter_sublist.eq_of_length_le z) a aL
    rw [bi6 aP] at this; cases this
  have ec:=pc.comp hs sub sh hd
  have hn:=aQ9 hs lset sub hd (fun x hx=>pc.sub x (by rw [ec]; exact hx)) lt
  rw [<- ec] at hn
  refine⟨_,lt2,L.filter (fun z=>!decide (z ∈ P)),Ps ++ [P],some (.sh true (.tup (intz P))),?_,rfl,tM lset _,by rw [bj4,bm8]; omega,fun x hx=>sub x (bj6.mp hx).1,?_,?_,?_⟩
  ·unfold tups
   rw [bk2]; rfl
  ·intro x hx y hy yS
   rw [bj6] at hx ⊢
   refine⟨sh x hx.1 y hy yS,?_⟩
   by_cases yP:y ∈ P
   ·have:=pc.shut y yP x (jP hy) hx.1
    rw [bi6 this] at hx; exact absurd hx.2 (by decide)
   ·rw [bj5 yP]; rfl
  ·rw [hn,bk2,<- eP,ec]; rfl
  ·rw [hn]
   intro h hh x hx
   rw [bj6] at hx
   rcases bi7.mp hh with hh | hh
   ·exact lt h hh x hx.1
   ·rw [bi3.mp hh]
    rcases al x hx.1 with e | e
    ·rw [<- e,bi6 aP] at hx; exact absurd hx.2 (by decide)
    ·exact e
end Core
namespace PP
open PySem L2
section
variable {X : Cx} {a b : Expr} {ta tb : aG} {pos : Pos}
noncomputable def yW:PV->Tg->PV->Tg->PK->Prop:=fun x _ y _ Q=>∃ (i:Int) (o:Option Int),x = .int i/\y=Core.fP o/\Q (.bl (!decide (o=some i))) .fr
theorem aR2:eM X yW uX:=by
 rintro W Hs H u v x y g g' Q Q' s n r1 r2 ⟨i,o,rfl,rfl,q⟩ k
 cases r1
 cases o with
 | none=>
  cases r2
  exact⟨rfl,k _ _ _ .fr (aC.refl _) (.bl true) q⟩
 | some j=>
  cases r2
  have e:decide (V.int i=V.int j)=decide (some j=some i):=decide_eq_decide.mpr ⟨fun z=>by cases z; rfl,fun z=>by cases z; rfl⟩
  refine⟨rfl,?_⟩
  rw [e]
  exact k _ _ _ .fr (aC.refl _) (.bl _) q
theorem aR3 (ha:QE X a ta) (hb:QE X b tb):QT X (.Compare a [.NotEq] [b] pos) (bD (q2 yW ta tb)):=iN E2 aR2 ha hb (fW _)
end
end PP
namespace Core
open PySem L2 PP
noncomputable def aa1 (ws:List Int) (ls:List (Int × Int)):List Int->List Int->Bool
 | _,[]=>true
 | B,h :: R=>inB ws.length h && (kin ws ls B h && aa1 ws ls (B ++ [h]) R)
noncomputable def kF:bK:=fun xs Q=>∃ a k:Int,xs = [.int a,.int k]/\0<=k/\k<=1000/\∀ z,0<=z->Q (.int z)
noncomputable def aa2:aK:=(aE (b4 2 (cE (cB (cB (cB (cE (a5 0) (qC (.int 2147483647))) (pQ (pQ (qC (.int 69621)) (a5 1)) (a5 1))) (pQ (qC (.int 40692)) (a5 1))) (qC (.int 1))) (qC (.int 2147483647))))
 (aE (b4 2 (cE (pQ (a5 2) (qC (.int 48271))) (qC (.int 2147483647))))
 (bN (cE (pQ (a5 2) (a5 2)) (qC (.int 2147483647))))))
theorem aR4:cI aa2 ["number","k","turn"] kF:=by
 rintro xs Q ⟨a,k,rfl,k0,k1,q⟩
 have big:(0:Int) < 2147483647:=by decide
 refine⟨_,rfl,_,_,rfl,rfl,big,_,rfl,_,_,rfl,rfl,.inl ⟨by decide,by decide⟩,_,rfl,_,_,rfl,rfl,.inr ⟨by show -(2 ^ 64) < k; omega,by show k < 2 ^ 64; omega⟩,_,_,rfl,rfl,_,rfl,_,_,rfl,rfl,.inl ⟨by decide,by decide⟩,_,_,rfl,rfl,_,_,rfl,rfl,_,_,rfl,rfl,big,trivial,?_⟩
 refine⟨_,rfl,_,_,rfl,rfl,.inr ⟨by decide,by decide⟩,_,_,rfl,rfl,big,trivial,?_⟩
 dsimp only
 have t0:0<=(a % 2147483647+69621 * k * k+40692 * k+1) % 2147483647 * 48271 % 2147483647:=bo4 _ (by decide)
 have t1:(a % 2147483647+69621 * k * k+40692 * k+1) % 2147483647 * 48271 % 2147483647 < 2147483647:=bu6 _ (by decide)
 generalize (a % 2147483647+69621 * k * k+40692 * k+1) % 2147483647 * 48271 % 2147483647=t at t0 t1
 exact⟨_,rfl,_,rfl,_,_,rfl,rfl,.inl ⟨by show -(2 ^ 64) < t; omega,by show t < 2 ^ 64; omega⟩,_,_,rfl,rfl,big,trivial,q _ (bo4 _ (by decide))⟩
noncomputable def tX:bK:=fun xs Q=>∃ (ns:List Int) (most:Int),xs = [.scr ns,.int most]/\0<=most/\∀ z,0<=z->z<=most->Q (.int z)
noncomputable def aa3:aK:=(aE (b4 2 (aB fC (a6 (a5 0) (a6 (qC (.int 0)) a9))))
 (aE (cD (bD (jW (cE (a5 2) (qC (.int 3))) (qC (.int 0)))) (bN (aB nA (a6 (a5 1) (a6 (aB nB (a6 (qC (.int 0)) (a6 (jV (aB dH (a6 (a5 0) a9)) (qC (.int 4))) a9))) a9)))) cH)
 (aE (cD (bD (jW (cE (a5 2) (qC (.int 8))) (qC (.int 1)))) (bN (cE (cB (i9 (a5 2) (qC (.int 24))) (qC (.int 5))) (cB (a5 1) (qC (.int 1))))) cH)
 (bN (cE (cB (i9 (a5 2) (qC (.int 3))) (qC (.int 2))) (cB (aB nA (a6 (qC (.int 6)) (a6 (a5 1) a9))) (qC (.int 1))))))))
theorem aR5:cI aa3 ["script","most","number"] tX:=by
 rintro xs Q ⟨ns,most,rfl,hm,q⟩
 refine⟨_,rfl,_,ns,0,rfl,.inl rfl,by decide,trivial,?_⟩
 generalize ns.getD (0:Int).toNat 0=c
 refine⟨_,rfl,_,_,rfl,rfl,(by show (0:Int) < 3; decide),.inl ⟨_,_,rfl,rfl,_,rfl,o7 ?_ ?_⟩⟩
 ·refine⟨_,rfl,_,rfl,_,_,rfl,rfl,_,_,rfl,rfl,_,_,rfl,_,_,rfl,trivial,q _ ?_ ?_⟩ <;> split <;> split <;> omega
 refine⟨_,rfl,_,_,rfl,rfl,(by show (0:Int) < 8; decide),.inl ⟨_,_,rfl,rfl,_,rfl,o7 ?_ ?_⟩⟩
 ·have hp:0 < most+1:=by omega
  refine⟨_,rfl,_,_,rfl,rfl,⟨by decide,by decide⟩,_,_,rfl,rfl,_,rfl,_,_,rfl,rfl,_,_,rfl,rfl,hp,trivial,q _ (bo4 _ (by omega)) ?_⟩
  have:=bu6 (c / 24+5) hp
  omega
 ·have hp:0 < (if most < 6 then most else 6)+1:=by split <;> omega
  refine⟨_,rfl,_,_,rfl,rfl,⟨by decide,by decide⟩,_,_,rfl,rfl,_,rfl,_,_,rfl,_,_,rfl,rfl,_,_,rfl,rfl,hp,trivial,q _ (bo4 _ (by omega)) ?_⟩
  have:=bu6 (c / 3+2) hp
  have hm:(if most < 6 then most else 6)<=most:=by split <;> omega
  omega
theorem kG {ws:List Int}{j:Nat} (h:j < ws.length):L2.atI (intz ws) (j:Int)=some (.int (ws.getD j 0)):=by
 have gw:ws[j]? = some (ws.getD j 0):=by rw [bj0,bi2 h]; rfl
 exact jI (by rw [bj2,gw]; rfl)
theorem o8 {ws:List Int} (h:NN ws) (j:Nat):0<=ws.getD j 0:=by
 rw [bj0]
 cases hj:ws[j]? with
 | none=>exact Int.le_refl 0
 | some w=>exact h w (bi0 hj)
theorem aR6 (ns:List Int) (lo hi:Option Int):∃ zs:List Int,fO (intz ns) lo hi=intz zs/\zs.length<=ns.length:=by
 refine⟨(ns.drop (HT.b5 (intz ns).length 0 lo)).take (HT.b5 (intz ns).length (intz ns).length hi - HT.b5 (intz ns).length 0 lo),?_,?_⟩
 ·unfold fO intz; rw [List.map_take,List.map_drop]
 ·rw [bo1,bq0]; omega
end Core
namespace PP
open PySem L2
section
variable {P : Program} {w : World} {K : PySem.W.Frag} {mg : Str → Option Value} {base : Heap} {k : Nat} {f : Addr} {fd : FuncData}
theorem aR7 (F:cY P w K mg base e9 k f fd ["web"] tJ) (b:iG K fd ["web"] []) (kp:PySem.W.keepIn K (.ref f)=true) (m:mg "_law_beside" = some (.ref f)):Df P w K mg base k "_law_beside" ["web"] Core.iQ:=by
 refine⟨f,fd,F.imp fun vs H Q E h=>?_,b,kp,m⟩
 obtain ⟨xs,Qp,r,⟨ws,ls,rfl,wb,q⟩,k⟩:=h
 obtain ⟨v,rfl,r1⟩:=r.one
 have:=wb.few
 have:=wb.most
 refine⟨v,ws,ls,rfl,W7 r1,by omega,by omega,wb.links,fun t bs H' hb R=>k _ H' _ R.same (.lst R.new R.row ?_) q⟩
 have:=xV (K:=K) (M:=fun a=>H a=none) (H:=H') (bs:=bs) (ls:=ls) 0 (fun b hb=>(R.news b hb).1) fun k b hk=>by rw [Nat.zero_add]; exact R.rows k b hk
 rw [hb,<- List.range_eq_range'] at this
 exact this
end
end PP
namespace Core
open PySem L2 PP
noncomputable def l9 (ws:List Int) (ls:List (Int × Int)) (C:List Int):Bool:=@decide (∀ U:List Int,iA ws ls U->(∀ x ∈ C,x ∈ U)->∀ h ∈ rng ws.length,h ∈ U) (Classical.propDecidable _)
section
variable {ws : List Int} {ls : List (Int × Int)} {C D : List Int}
theorem qQ:l9 ws ls C=true ↔ ∀ U:List Int,iA ws ls U->(∀ x ∈ C,x ∈ U)->∀ h ∈ rng ws.length,h ∈ U:=
 ⟨fun z=>@bn0 _ (Classical.propDecidable _) z,fun z=>@bi6 _ (Classical.propDecidable _) z⟩
theorem aR8 (h:∀ x ∈ C,x ∈ D) (f:l9 ws ls C=true):l9 ws ls D=true:=
 qQ.mpr fun U sU hU=>qQ.mp f U sU fun x hx=>hU x (h x hx)
theorem aR9 {T:List Int} (sh:iA ws ls T) (sub:∀ x ∈ C,x ∈ T) (le:∀ U,iA ws ls U->(∀ x ∈ C,x ∈ U)->∀ x ∈ T,x ∈ U):l9 ws ls C=true ↔ ∀ h ∈ rng ws.length,h ∈ T:=
 ⟨fun f=>qQ.mp f T sh sub,fun a=>qQ.mpr fun U sU hU h hh=>le U sU hU h (a h hh)⟩
end
noncomputable abbrev tY:bK:=iQ
noncomputable def tZ:bK:=fun xs Q=>∃ ws ls x ns,xs = [b6 ws ls,x]/\Wb ws ls/\cU x ns/\(∀ x ∈ ns,x ∈ rng ws.length)/\∀ T,iA ws ls T->(∀ x ∈ ns,x ∈ T)->(∀ U,iA ws ls U->(∀ x ∈ ns,x ∈ U)->∀ x ∈ T,x ∈ U)->Q (.lst (fD ws.length T))
noncomputable def aa4:aK:=(aE (b4 2 (aB tY (a6 (a5 0) a9)))
 (aE (dR 3 (cZ (j5 (aB dH (a6 (bA (a5 0) (qC (.int 0))) a9))) [none,some 1] (bX 0) dA (q2 (nF false) (a5 0) (a5 1))))
 (aE (b4 4 (qC (.bl true)))
 (aE (lT (bD (a5 4))
  (aE (b4 4 (qC (.bl false)))
  (dS (j5 (aB dH (a6 (bA (a5 0) (qC (.int 0))) a9))) (bX 5)
   (aE (b4 6 (aB dH (a6 (cZ (cR (bA (a5 2) (a5 5))) [none,some 3] (bX 0) (jT (bA (a5 1) (a5 0))) (a5 0)) a9)))
   (cD (mX (j3 (jT (bA (a5 3) (a5 5)))) (bD (pS (a5 6) (bA (bA (a5 0) (qC (.int 0))) (a5 5))))) (aE (kS 3 (a5 5) (qC (.bl true)))
    (b4 4 (qC (.bl true)))) cH)))))
 (j4 3)))))
theorem aS0:cI aa4 ["web","seeds","beside","burning","left","hearth","count"] tZ:=by
 rintro xs Q ⟨ws,ls,x,ns,rfl,wb,hx,inn,q⟩
 have few:=wb.few
 refine⟨_,rfl,ws,ls,rfl,wb,trivial,?_⟩
 refine⟨_,rfl,_,_,_,rfl,rfl,rfl,_,_,rfl,rfl,_,rfl,by rw [b8]; omega,by rw [b8]; omega,by rw [gA,b8]; omega,fun i acc=>acc=((rng ws.length).take i).map fun i=>PV.bl (decide (i ∈ ns)),rfl,?_,?_⟩
 ·rintro i y acc hy rfl
  obtain ⟨rfl,hi⟩:=jA hy
  rw [b8] at hi
  have hi:i < ws.length:=by omega
  refine⟨_,rfl,_,rfl,_,ns,rfl,hx.seq,trivial,?_⟩
  have tk:=qA (f:=fun (i:Int)=>PV.bl (decide (i ∈ ns))) (nR hi)
  show _=List.map _ (List.take (i+1) _)
  rw [tk,bx0]; rfl
 rintro bu rfl
 rw [gA,b8,bl6 (by rw [dM]; omega)]
 have flb:∀ S,flats (fD ws.length S)=true:=fun S=>by
  rw [xP]
  intro x hx
  unfold fD at hx
  obtain ⟨i,_,rfl⟩:=bj8.mp hx
  rfl
 refine⟨rfl,flb ns,?_⟩
 refine⟨trivial,?_⟩
 refine⟨fun n ρ=>∃ (T:List Int) (g:Bool) (y5 y6:Option Slot),ρ = [some (.sh (flat (b6 ws ls)) (b6 ws ls)),some (.sh (flat x) x),some (.sh true (.lst (bT ws.length ls))),some (.own (.lst (fD ws.length T))),some (.sh true (.bl g)),y5,y6]/\
   (∀ x ∈ ns,x ∈ T)/\(∀ U,iA ws ls U->(∀ x ∈ ns,x ∈ U)->∀ x ∈ T,x ∈ U)/\(g=false->iA ws ls T)/\n=2 * ((rng ws.length).filter fun z=>!decide (z ∈ T)).length+(if g=true then 1 else 0),⟨_,ns,true,none,none,rfl,fun _ h=>h,fun _ _ h=>h,(fun z=>by cases z),rfl⟩,?_⟩
 rintro n ρ ⟨T,g,y5,y6,rfl,sub,le,sh,rfl⟩
 refine⟨_,rfl,_,rfl,?_⟩
 cases g with
 | false=>exact bF ⟨_,rfl,trivial,q T (sh rfl) sub le⟩
 | true=>
  refine bJ ⟨trivial,?_⟩
  refine⟨_,rfl,_,_,_,rfl,rfl,rfl,_,_,rfl,rfl,_,rfl,by rw [b8]; omega,by rw [b8]; omega,fun i ρ=>∃ (T2:List Int) (g2:Bool) (y5 y6:Option Slot),ρ = [some (.sh (flat (b6 ws ls)) (b6 ws ls)),some (.sh (flat x) x),some (.sh true (.lst (bT ws.length ls))),some (.own (.lst (fD ws.length T2))),some (.sh true (.bl g2)),y5,y6]/\
   (∀ x ∈ ns,x ∈ T2)/\(∀ U,iA ws ls U->(∀ x ∈ ns,x ∈ U)->∀ x ∈ T2,x ∈ U)/\(g2=false->T2=T/\∀ j:Nat,j < i->kin ws ls T j=false)/\(g2=true->((rng ws.length).filter fun z=>!decide (z ∈ T2)).length < ((rng ws.length).filter fun z=>!decide (z ∈ T)).length),⟨T,false,y5,y6,rfl,sub,le,(fun _=>⟨rfl,fun j hj=>absurd hj (Nat.not_lt_zero _)⟩),fun z=>by cases z⟩,?_,?_⟩
  ·rintro i y ρ hy ⟨T2,g2,y5,y6,rfl,sub2,le2,h0,h1⟩
   obtain ⟨rfl,hi⟩:=jA hy
   have hi:i < ws.length:=by rw [b8,bk4] at hi; exact hi
   refine iB ?_
   rw [bx0]
   have hr:(i:Int) ∈ rng ws.length:=bY.mpr ⟨by omega,by omega⟩
   refine⟨_,rfl,_,rfl,_,_,_,rfl,rfl,tF (by omega) (by omega),_,rfl,(fun z=>by cases z),?_,fun j acc=>acc=intz (((aN ls (i:Int)).take j).filter fun z=>decide (z ∈ T2)),rfl,?_,?_⟩
   ·rw [b8]; have:=pE ls (i:Int); have:=wb.most; omega
   ·rintro j z acc hz rfl
    obtain ⟨o,rfl,ho⟩:=gV hz
    have tk:=qD (p:=fun z=>decide (z ∈ T2)) ho
    have om:=bY.mp (aN2 wb (bi0 ho))
    refine⟨_,rfl,_,rfl,_,_,_,rfl,rfl,W9 om.1 om.2,_,rfl,?_⟩
    show if decide (o ∈ T2)=true then _ else _
    cases hm:decide (o ∈ T2) with
    | true=>
     rw [hm] at tk
     refine bJ ⟨_,rfl,trivial,?_⟩
     dsimp only
     rw [tk,eN]; rfl
    | false=>
     rw [hm] at tk
     refine bF ?_
     dsimp only
     rw [tk]; exact congrArg intz (bp1 _).symm
   rintro acc rfl
   rw [b8,bp3]
   have ix:L2.atI (intz ws) (i:Int)=some (.int (ws.getD (i:Int).toNat 0)):=V5 (by omega) (by omega)
   refine⟨_,_,rfl,rfl,trivial,?_⟩
   refine⟨_,rfl,_,rfl,_,_,_,rfl,rfl,W9 (by omega) (by omega),_,rfl,?_⟩
   show if (!decide ((i:Int) ∈ T2))=true then _ else _
   have stay:kin ws ls T2 (i:Int)=false->∃ (T3:List Int) (g3:Bool) (y5 y6':Option Slot),[some (Slot.sh (flat (b6 ws ls)) (b6 ws ls)),some (.sh (flat x) x),some (.sh true (.lst (bT ws.length ls))),some (.own (.lst (fD ws.length T2))),some (.sh true (.bl g2)),si (i:Int),some (.sh true (.int (((aN ls (i:Int)).filter fun z=>decide (z ∈ T2)).length:Nat)))] = [some (.sh (flat (b6 ws ls)) (b6 ws ls)),some (.sh (flat x) x),some (.sh true (.lst (bT ws.length ls))),some (.own (.lst (fD ws.length T3))),some (.sh true (.bl g3)),y5,y6']/\
     (∀ x ∈ ns,x ∈ T3)/\(∀ U,iA ws ls U->(∀ x ∈ ns,x ∈ U)->∀ x ∈ T3,x ∈ U)/\(g3=false->T3=T/\∀ j:Nat,j < i+1->kin ws ls T j=false)/\(g3=true->((rng ws.length).filter fun z=>!decide (z ∈ T3)).length < ((rng ws.length).filter fun z=>!decide (z ∈ T)).length):=fun hk=>by
    refine⟨T2,g2,_,_,rfl,sub2,le2,fun z=>?_,h1⟩
    obtain ⟨e,a⟩:=h0 z
    refine⟨e,fun j hj=>?_⟩
    by_cases je:j=i
    ·rw [je,<- e]; exact hk
    ·exact a j (by omega)
   by_cases hm:(i:Int) ∈ T2
   ·have hk:kin ws ls T2 (i:Int)=false:=by unfold kin; rw [bi6 hm]; rfl
    rw [bi6 hm]
    have:=stay hk
    refine bF (bF ?_)
    dsimp only
    rw [b8]
    exact this
   ·rw [bj5 hm]
    refine bJ ⟨_,rfl,_,rfl,_,_,_,rfl,rfl,rfl,_,rfl,_,_,_,rfl,rfl,ix,_,_,rfl,rfl,_,rfl,?_⟩
    have ek:kin ws ls T2 (i:Int)=decide ((((aN ls (i:Int)).filter fun z=>decide (z ∈ T2)).length:Int) >= ws.getD (i:Int).toNat 0):=by unfold kin; rw [bj5 hm]; rfl
    dsimp only
    rw [b8]
    rw [<- ek]
    cases hk:kin ws ls T2 (i:Int) with
    | false=>exact bF (stay hk)
    | true=>
     refine bJ ⟨_,rfl,_,rfl,_,i,rfl,?_,trivial,?_⟩
     ·unfold eL
      rw [nU,if_pos (by omega),if_pos (by omega),bk4]
     have bs:=aL7 (n:=ws.length) (S:=T2) (x:=(i:Int)) (by omega) (by omega)
     rw [bk4] at bs
     rw [bs]
     refine⟨trivial,T2 ++ [(i:Int)],true,_,_,rfl,fun x hx=>bk7 _ (sub2 x hx),fun U sU hU x hx=>?_,(fun z=>by cases z),fun _=>?_⟩
     ·rcases bi7.mp hx with hx | hx
      ·exact le2 U sU hU x hx
      ·rw [bi3.mp hx]
       refine bn9 fun hn=>?_
       have:=aM8 hk (le2 U sU hU) hn
       rw [sU (i:Int) hr] at this; cases this
     ·have lt:((rng ws.length).filter fun z=>!decide (z ∈ T2 ++ [(i:Int)])).length < ((rng ws.length).filter fun z=>!decide (z ∈ T2)).length:=by
       have n1:((rng ws.length).filter fun z=>!decide (z ∈ T2 ++ [(i:Int)])).Nodup:=(X9 _).filter _
       have n2:(i:Int) ∉ (rng ws.length).filter fun z=>!decide (z ∈ T2 ++ [(i:Int)]):=fun z=>by
        have:=(bj6.mp z).2
        rw [bi6 (bk5 _ (bt5 _))] at this; cases this
       have:=(bo2.mpr ⟨n2,n1⟩).length_le_of_subset (l₂:=(rng ws.length).filter fun z=>!decide (z ∈ T2)) fun z hz=>by
        rcases bj1.mp hz with e | hz
        ·rw [e]; exact bj6.mpr ⟨hr,by rw [bj5 hm]; rfl⟩
        ·have h2:=bj6.mp hz
         refine bj6.mpr ⟨h2.1,?_⟩
         rw [bj5 fun w=>?_]; rfl
         rw [bi6 (bk7 _ w)] at h2; exact absurd h2.2 (by decide)
       rw [bk9] at this
       omega
      cases g2 with
      | true=>have:=h1 rfl; omega
      | false=>have e:=(h0 rfl).1; rw [e] at lt ⊢; exact lt
  ·rintro ρ ⟨T2,g2,y5,y6,rfl,sub2,le2,h0,h1⟩
   rw [gA,b8,bk4] at h0
   cases g2 with
   | true=>exact⟨_,by have:=h1 rfl; rw [if_pos rfl]; omega,T2,true,y5,y6,rfl,sub2,le2,(fun z=>by cases z),rfl⟩
   | false=>
    obtain ⟨e,sh2⟩:=h0 rfl
    subst e
    refine⟨_,by rw [if_pos rfl,if_neg (by decide)]; omega,T2,false,y5,y6,rfl,sub2,le2,(fun _ h hh=>?_),rfl⟩
    have hm:=bY.mp hh
    have:=sh2 h.toNat (by omega)
    rwa [show ((h.toNat:Nat):Int)=h by omega] at this
noncomputable def u0:bK:=fun xs Q=>∃ ws ls x ns,xs = [b6 ws ls,x]/\Wb ws ls/\cU x ns/\(∀ x ∈ ns,x ∈ rng ws.length)/\Q (.bl (l9 ws ls ns))
noncomputable def aa5:aK:=(bN (jW (aB dH (a6 (cZ (cR (aB tZ (a6 (a5 0) (a6 (a5 1) a9)))) [none] (bX 0) (j3 (jT (a5 0))) (a5 0)) a9)) (qC (.int 0))))
theorem aS1:cI aa5 ["web","seeds"] u0:=by
 rintro xs Q ⟨ws,ls,x,ns,rfl,wb,hx,inn,q⟩
 have few:=wb.few
 refine⟨_,rfl,_,rfl,ws,ls,x,ns,rfl,wb,hx,inn,fun T sh sub le=>?_⟩
 refine⟨_,rfl,(fun z=>by cases z),by rw [nU]; omega,fun i acc=>acc.length=(((rng ws.length).take i).filter fun z=>!decide (z ∈ T)).length,rfl,?_,?_⟩
 ·rintro i y acc hy e
  unfold fD at hy
  rw [bj2] at hy
  cases hz:(rng ws.length)[i]? with
  | none=>rw [hz] at hy; cases hy
  | some z=>
   rw [hz] at hy
   cases hy
   have tk:=qD (p:=fun z=>!decide (z ∈ T)) hz
   refine⟨_,rfl,_,rfl,?_⟩
   show if (!decide (z ∈ T))=true then _ else _
   cases hm:decide (z ∈ T) with
   | true=>
    rw [hm] at tk
    refine bF ?_
    dsimp only
    rw [tk,e]; exact congrArg List.length (bp1 _).symm
   | false=>
    rw [hm] at tk
    refine bJ ⟨_,rfl,trivial,?_⟩
    dsimp only
    rw [tk,bj4,bj4,e]; rfl
 ·intro acc e
  rw [nU,bl6 (by rw [dM]; exact bi8 _)] at e
  refine⟨_,_,rfl,rfl,.inl ⟨_,_,rfl,rfl,trivial,?_⟩⟩
  have ef:l9 ws ls ns=decide ((acc.length:Int)=0):=by
   rw [bp8,bq6,aR9 sh sub le,e]
   constructor
   ·intro a
    rw [bv8.mpr fun z hz=>by rw [bi6 (a z hz)]; decide]; rfl
   ·intro z h hh
    have nl:(rng ws.length).filter (fun z=>!decide (z ∈ T)) = []:=List.eq_nil_of_length_eq_zero (by omega)
    have:=bv8.mp nl h hh
    simpa using this
  rw [ef] at q
  exact q
noncomputable def u3:bK:=fun xs Q=>∃ (ms:List Int) (n:Nat),xs = [.tup (intz ms),.int n]/\bE n ms=true/\Q (.bl true)
noncomputable def aa6 (K:PySem.W.Frag):aK:=(aE (cD (j3 (bD (lV K "tuple" (a5 0)))) (bN (qC (.bl false))) cH)
 (aE (b4 2 (sL (qC (.int 1))))
 (aE (dS (cR (a5 0)) (bX 3)
  (aE (cD (pG (j3 (bD (aB tH (a6 (a5 3) a9)))) (pG (bD (R7 (a5 3) (a5 2))) (bD (pS (a5 3) (a5 1))))) (bN (qC (.bl false))) cH)
  (b4 2 (a5 3))))
 (bN (qC (.bl true))))))
theorem aS2 {K:PySem.W.Frag} (kt:PySem.W.kitOne K (.type "tuple") (.type "tuple")=some true):cI (aa6 K) ["found","many","last","hearth"] u3:=by
 rintro xs Q ⟨ms,n,rfl,hs,q⟩
 have up:=gC (eB hs).1
 refine⟨_,rfl,_,_,rfl,kt,_,rfl,bF ?_⟩
 refine⟨_,rfl,trivial,?_⟩
 refine⟨_,rfl,_,rfl,qE (.inl rfl),fun i ρ=>∃ (l:Int) (y3:Option Slot),ρ = [some (.sh (flat (.tup (intz ms))) (.tup (intz ms))),si n,si l,y3]/\∀ h,ms[i]? = some h->l < h,⟨-1,none,rfl,fun h hh=>by have:=(eB hs).2 h (bi0 hh); omega⟩,?_,?_⟩
 ·rintro i y ρ hy ⟨l,y3,rfl,lo⟩
  obtain ⟨h,rfl,hh⟩:=gV hy
  have b:=(eB hs).2 h (bi0 hh)
  have l1:=lo h hh
  refine iB ?_
  refine⟨_,rfl,h,rfl,_,rfl,bF ⟨_,rfl,_,rfl,_,_,rfl,rfl,_,rfl,?_⟩⟩
  show if decide (h<=l)=true then _ else _
  rw [bj5 (by omega)]
  refine bF ⟨_,rfl,_,rfl,_,_,rfl,rfl,_,rfl,?_⟩
  show if decide (h >= (n:Int))=true then _ else _
  rw [bj5 (by omega)]
  refine bF ⟨_,rfl,trivial,h,_,rfl,fun h2 hh2=>?_⟩
  obtain ⟨i1,e1⟩:=bi5.mp hh
  obtain ⟨i2,e2⟩:=bi5.mp hh2
  have:=List.pairwise_iff_getElem.mp up i (i+1) i1 i2 (by omega)
  rw [e1,e2] at this; exact this
 ·rintro ρ ⟨l,y3,rfl,_⟩
  exact⟨trivial,q⟩
section
variable {ws : List Int} {ls : List (Int × Int)} {ns S : List Int}
noncomputable def eD (S:List Int) (h:Int):List Int:=S.filter fun z=>!decide (z ∈ [h])
theorem mB {h x:Int}:x ∈ eD S h ↔ x ∈ S/\x ≠ h:=by unfold eD; rw [bj6]; simp
theorem u4 {n:Nat}{h:Int} (hs:bE n S=true):bE n (eD S h)=true:=tM hs _
end
theorem aS3 (n:Nat):bE n (rng n)=true:=yR.set ⟨Y5 n,fun x hx=>bY.mp hx⟩
end Core
namespace PP
open PySem L2
section
variable {X : Cx} {σ : St} {H : Hp} {D : dL} {te tix tk tv : aG} {e eix ek ev : Expr} {pos p1 p2 p3 p4 : Pos}
noncomputable def yX (i:Nat) (te:aG):aK:=fun D ρ=>te ρ fun x g=>g = .fr/\D.nx (ρ.set i (some (.own (.lst [x]))))
theorem aS4 {i:Nat} (h:LS X (yX i te) D σ H):iW (rE (i3 (LE X te) iY)) (cO i) D σ H:=by
 obtain ⟨W,ρ,D',px,q,k⟩:=h
 refine⟨W,ρ,_,px,q,?_⟩
 rintro v H1 x g s r ⟨rfl,q⟩
 refine⟨mY (by show 1<=1000; decide),fun p hp=>?_⟩
 have s2:aC H (upd H1 p (.lst [v])):=s.trans (bH hp _)
 have hH:H p=none:=s.free hp
 refine k.nx _ _ _ _ (Ev.own s2 hH) (px.setOwn (a:=p) s2 hH (x:=.lst [x]) ⟨[v],bI,.cons ?_ .nil⟩) q
 have m:∀ {a:Addr}{o:HO},H a=none->H1 a=some o->Ms X.H₀ (lS W p) true a/\upd H1 p (.lst [v]) a=some o:=fun {a o} h1 h2=>by
  have ne:a ≠ p:=fun z=>by rw [z,hp] at h2; cases h2
  exact⟨sG ne (px.new h1),by rw [aR ne]; exact h2⟩
 exact r.keep ⟨fun _ _ h1 h2=>m h1 h2,fun _ _ h1 h2=>m h1 h2,fun _ _ h1 h2=>m h1 h2,fun a _ h2=>by rw [aR (fun z=>by rw [z,hp] at h2; cases h2)]; exact h2,fun a _ _ h2=>by rw [aR (fun z=>by rw [z,hp] at h2; cases h2)]; exact h2⟩
theorem aS5 {i:Nat}{x:Str} (hN:X.N.Nodup) (he:QE X e te) (hi:X.N[i]? = some x:=by rfl) (hx:iE X.env.scope x:=by first | exact Or.inl rfl | exact Or.inr rfl) (hse:starEach [e] X.env=(false,eval e X.env) :: starEach [] X.env:=by rfl) (hs:swapsWith (.List [e] p3) (some (.Name x p2)) pos.line X.env=pure false:=by rfl) (hf:X.fn x=true ∨ X.env.scope.names.lookup x=some .local:=by first | exact .inl rfl | exact .inr rfl) :
  QS X (.Assign [.Name x p2] (.List [e] p3) pos) (yX i te):=dW (qZ hN hi hx (oQ (cJ he dF hse)) hs hf) fun _ _ _=>aS4
noncomputable def u5 (i:Nat) (te tix tk tv:aG):aK:=fun D ρ=>∃ xs,ρ[i]? = some (some (.own (.lst xs)))/\te ρ fun x g=>∃ ys,g = .fr/\x = .lst ys/\flats ys=true/\xs.length < 16000000/\tv (ρ.set i (some (.own (.lst (xs ++ [.lst ys]))))) fun z _=>flat z=true/\
 tix (ρ.set i (some (.own (.lst (xs ++ [.lst ys]))))) fun w _=>w = .int (-1)/\tk (ρ.set i (some (.own (.lst (xs ++ [.lst ys]))))) fun y _=>∃ n j,y = .int n/\eL ys.length n=some j/\D.nx (ρ.set i (some (.own (.lst (xs ++ [.lst (ys.set j z)])))))
theorem aS6 {α:Type} (us:List α) (v:α):L2.atI (us ++ [v]) (-1)=some v:=by
 unfold L2.atI eL
 have h1:(1:Int)<=(us.length:Int)+1:=by omega
 have h2:(-1+((us.length:Int)+1)).toNat=us.length:=by omega
 simp [h1,h2]
theorem aS7 {i:Nat} (h:LS X (u5 i te tix tk tv) D σ H):uP (oJ (oZ X.K "list" vI (hG i) (i3 (LE X te) iY))) (iW (LE X tv) (oK (mM (vF X.K) (hG i) (LE X tix)) (LE X tk) oV)) D σ H:=by
 obtain ⟨W,ρ,D',px,⟨xs,hi,q⟩,k⟩:=h
 obtain ⟨v,ev,a,rfl,wa,us,ea,r⟩:=px.sl i _ hi
 refine⟨_,ev,jO (aM.of ea),W,ρ,_,px,q,?_⟩
 rintro w H1 x g s rx ⟨ys,rfl,rfl,fy,hl,q⟩
 have ea1:=s _ _ ea
 refine⟨a,us,w,rfl,rfl,ea1,gP (by rw [r.length]; omega),?_⟩
 obtain ⟨l,zs,rfl,ml,el,rl⟩:=rx.sqL
 have ml:H l=none:=ml
 have nl:=px.new ml
 have hla:l ≠ a:=fun z=>by rw [z,ea] at ml; cases ml
 have px2:PX X.K X.H₀ W σ (ρ.set i (some (.own (.lst (xs ++ [.lst ys]))))) (upd H1 a (.lst (us ++ [.ref l]))):=by
  refine (px.mono s).updL hi ev wa ?_
  exact ((r.same s fun _ z=>z).append (.cons (Nw.rep (g:=.fr) px trivial rx) .nil)).keep (.upd ea1 rfl fun b m=>⟨iL wa m,m⟩)
 refine⟨W,_,_,px2,q,?_⟩
 rintro u H3 z gz s3 rz ⟨fz,q3⟩
 have ea3:=s3 _ _ (bI (H:=H1) (a:=a) (o:=.lst (us ++ [.ref l])))
 refine⟨_,ev,W,_,_,px2.mono s3,q3,?_⟩
 rintro wi H4 yi gi s4 ri ⟨rfl,q4⟩
 cases ri
 have ea4:=s4 _ _ ea3
 refine .inl ⟨a,us ++ [.ref l],-1,.ref l,rfl,rfl,aM.of ea4,aS6 us _,?_⟩
 refine⟨W,_,_,(px2.mono s3).mono s4,q4,?_⟩
 rintro wk H5 yk gk s5 rk ⟨n,j,rfl,hj,q5⟩
 cases rk
 have S5:=(s3.trans s4).trans s5
 have el2:upd H1 a (.lst (us ++ [.ref l])) l=some (.lst zs):=by rw [aR hla]; exact el
 have el5:=S5 _ _ el2
 have ea5:=s5 _ _ ea4
 have lz:=rl.length
 refine⟨l,zs,n,j,rfl,rfl,el5,by rw [lz]; exact hj,?_⟩
 have ea6:upd H5 l (.lst (zs.set j u)) a=some (.lst (us ++ [.ref l])):=by rw [aR (Ne.symm hla)]; exact ea5
 have S6:aC H (upd (upd H5 l (.lst (zs.set j u))) a (.lst us)):=fun b o hb=>by
  by_cases e:b=a
  ·subst e; rw [ea] at hb; cases hb; exact bI
  ·rw [aR e,aR (fun z=>by rw [z,ml] at hb; cases hb)]
   exact S5 _ _ (by rw [aR e]; exact s _ _ hb)
 have back:upd (upd (upd H5 l (.lst (zs.set j u))) a (.lst us)) a (.lst (us ++ [.ref l]))=upd H5 l (.lst (zs.set j u)):=by
  rw [al3]
  funext b
  by_cases e:b=a
  ·subst e; rw [bI,ea6]
  ·rw [aR e]
 have nw:upd H5 l (.lst (zs.set j u)) l=some (.lst (zs.set j u)):=bI
 have px6:=(px.mono S6).updL (us:=us ++ [.ref l]) (ys:=xs ++ [.lst (ys.set j z)]) hi ev wa (by
  rw [back]
  refine Reps.append (r.keep ⟨fun b _ m e=>?_,fun b _ m e=>?_,fun b _ m e=>?_,fun b _ e=>?_,fun b _ _ e=>?_⟩) (.cons (.lst nl nw ?_) .nil)
  ·have:=S6 _ _ e; rw [aR (iL wa m)] at this; exact⟨m,this⟩
  ·have:=S6 _ _ e; rw [aR (iL wa m)] at this; exact⟨m,this⟩
  ·have:=S6 _ _ e; rw [aR (iL wa m)] at this; exact⟨m,this⟩
  ·have:=S6 _ _ e; rw [aR (fun z=>by rw [z,ea] at e; cases e)] at this; exact this
  ·have:=S6 _ _ e; rw [aR (fun z=>by rw [z,ea] at e; cases e)] at this; exact this
  ·have k5:gS (fun _=>False) (Ms X.H₀ W true) H1 (upd H5 l (.lst (zs.set j u))):=⟨fun _ _ m=>m.elim,fun _ _ m=>m.elim,fun _ _ m=>m.elim,
    fun b _ e=>by rw [aR (fun z=>by rw [z,el] at e; cases e)]; exact S5 _ _ (by rw [aR (fun z=>by rw [z,ea1] at e; cases e)]; exact e),
    fun b _ _ e=>by rw [aR (fun z=>by rw [z,el] at e; cases e)]; exact S5 _ _ (by rw [aR (fun z=>by rw [z,ea1] at e; cases e)]; exact e)⟩
   have k6:gS (fun _=>False) (Ms X.H₀ W true) H3 (upd H5 l (.lst (zs.set j u))):=⟨fun _ _ m=>m.elim,fun _ _ m=>m.elim,fun _ _ m=>m.elim,
    fun b _ e=>by rw [aR (fun z=>by rw [z,s3 _ _ el2] at e; cases e)]; exact (s4.trans s5) _ _ e,
    fun b _ _ e=>by rw [aR (fun z=>by rw [z,s3 _ _ el2] at e; cases e)]; exact (s4.trans s5) _ _ e⟩
   exact Reps.set ((rz.flat fz).keep k6) j ((rl.flat fy).keep k5))
 rw [back] at px6
 refine k.nx W σ _ _ (fun b o hb nb=>⟨?_,nb⟩) px6 q5
 have:=S6 _ _ hb
 rwa [aR (fun z=>nb (by rw [z]; exact wa))] at this
theorem aS8 (i:Nat) {x:Str}{apos cpos xpos spos tpos xp2:Pos} (he:QE X e te) (hix:QE X eix tix) (hk:QE X ek tk) (hv':QE X ev tv) (hN:X.N[i]? = some x:=by rfl) (hv:gN X.env.scope x:=by first | exact Or.inl rfl | exact Or.inr (Or.inl rfl) | exact Or.inr (Or.inr rfl)) (hd:(x == ("__debug__" : Str))=false:=by decide) (hcd:(x == ("__classdict__" : Str))=false:=by decide)
  (hbase:attributeBase (.Name x xpos) "append" X.env (eval (.Name x xpos) X.env)=eval (.Name x xpos) X.env:=by rfl)
  (hfew:((backTo cpos (starEach [e] X.env)).all (fun x=>!x.1) && (backToKw cpos (keywordEach [] X.env)).all (fun x=>x.1.isSome) && decide (([e]:List Expr).length+([]:List Keyword).length+(if ([]:List Keyword).isEmpty then 0 else 1) < 30))=true:=by rfl)
  (hline:(apos.endLine == cpos.line)=true:=by rfl) (hs:starEach [e] X.env=(false,eval e X.env) :: starEach [] X.env:=by rfl) (hplain:(backTo cpos (starEach [] X.env)).any (·.1)=false:=by rfl)
  (hsw:swapsWith (.Call (.Attribute (.Name x xpos) "append" apos) [e] [] cpos) none p1.line X.env=pure false:=by rfl) (hpix:vE eix:=by exact fun _ _=>rfl)
  (hp:∀ (tx:TE) (tg:TE),PE X (.Subscript (.Name x xp2) eix spos) tx->PE X ek tg->PG X (.Subscript (.Subscript (.Name x xp2) eix spos) ek tpos) (oK tx tg oV):=by intro _ _ h1 h2; exact B3 h1 h2 G4)
  (hs2:swapsWithSole [.Subscript (.Subscript (.Name x xp2) eix spos) ek tpos] ev pos.line X.env=pure false:=by rfl) (hw:swappedStores [.Subscript (.Subscript (.Name x xp2) eix spos) ek tpos] ev X.env=pure none:=by rfl) :
  fA X [.Expr (.Call (.Attribute (.Name x xpos) "append" apos) [e] [] cpos) p1,.Assign [.Subscript (.Subscript (.Name x xp2) eix spos) ek tpos] ev pos] (u5 i te tix tk tv):=
 sN (kI (kK (kN bo7 bt2 bt3 lN (iF hN hv hd hcd) (cJ he dF hs) hbase hfew hline hs hplain) hsw) (kJ (B4 hv' (hp _ _ (iZ G3 (iF hN hv hd hcd) hix hpix) hk) hs2 hw))) fun _ _ _=>aS7
end
section
variable {X : Cx} {a b e : Expr} {ta tb te : aG} {tr : cG} {pos : Pos} {σ : St} {H : Hp} {Q' : VK} {es : List Expr}
noncomputable def yY (t:cG):aG:=fun ρ Q=>t ρ fun xs=>xs.length<=1000/\kR xs/\Q (.lst (xs.map (·.1))) .nw
theorem aS9 (h:LE X (yY tr) σ H Q'):rE (LA X tr) σ H Q':=by
 obtain ⟨W,ρ,Q,px,q,k⟩:=h
 refine⟨W,ρ,_,px,q,?_⟩
 rintro vs H1 xs s1 r ⟨hl,n,q⟩
 refine⟨by rw [r.length]; exact mY hl,fun p hp=>k _ _ _ .nw (s1.trans (bH hp _)) (.lst (px.new (s1.free hp)) bI ?_) q⟩
 exact (kR.reps (vs:=vs) px n r).same (bH hp _) fun _ z=>z
theorem aT0 (ha:QA X es tr):QE X (.List es pos) (yY tr):=cF (oQ ha) fun _ _ _=>aS9
end
end PP
namespace L2
open PySem PySem.Spec PyProof.Rows
noncomputable def aa7 (K:PySem.W.Frag) (a:Addr) (n:Nat):It:=
 ⟨fun i H=>(∃ xs,aM K H a xs/\xs.length=n)/\i < n,fun i H x H'=>H'=H/\∀ xs,aM K H a xs->xs[n - 1 - i]? = some x,fun i H=>i=n⟩
theorem aT1 {P:Program}{w:World}{K:PySem.W.Frag}{tg:Expr} (a it:Addr) (n:Nat):jH P w K tg (aa7 K a n) [it] it (fun i h=>h.IsRevIter it a ((n:Int) - 1 - (i:Int))):=by
 refine⟨by simp,fun i h st b hb=>?_,fun i h h' st k=>st.at fun o e=>k it (by simp) o e,?_,?_,fun _ _ _ _ _ st q=>wpAny_pyIter_revIter st q⟩
 ·obtain rfl:b=it:=by simpa using hb
  obtain ⟨o,e,c,d⟩:=st
  exact⟨o,e,fun v z=>by rw [d] at z; cases z⟩
 ·intro X hP hw hK hc i pins s σ H E I hf st hg
  subst hP hw hK
  obtain ⟨⟨xs,hq,hl⟩,hi⟩:=hg
  obtain ⟨its,rv,p,hz⟩:=I.list hq
  have lv:=rv.length
  have hx:xs[n - 1 - i]? = some (xs[n - 1 - i]'(by omega)):=bi2 (by omega)
  obtain ⟨u,hu,ru⟩:=rv.get hx
  obtain ⟨f0,f1,f2,f3,f4,f5⟩:=hf it (by simp)
  have e0:(n:Int) - 1 - (i:Int)=((n - 1 - i:Nat):Int):=by omega
  rw [e0] at st
  refine wpAny_pyNext_rev_item st p.isList (x:=u) (by simpa using hu) fun h' st' sb=>?_
  have I1:a8 X pins σ H { s with heap:=h' }:=I.turned (t':=s.toks) (fun b o hb e=>(sb.2 b hb).trans e) f0 f1 f3 f4 f5
  have e1:((n - 1 - i:Nat):Int) - 1=(n:Int) - 1 - ((i+1:Nat):Int):=by omega
  rw [e1] at st'
  obtain ⟨o,e,c,d⟩:=id st'
  exact⟨u,rfl,r6 (s:={ s with heap:=h' }) e c d (by decide) ⟨_,H,I1,ru,⟨rfl,fun ys hy=>by rw [I.list_inj hy hq]; exact hx⟩,st',fun b hb=>(hf b hb).1⟩⟩
 ·intro X hP hw hK hc i pins s σ H E I hf st hg
  subst hP hw hK
  have hg:i=n:=hg
  subst hg
  obtain ⟨f0,f1,f2,f3,f4,f5⟩:=hf it (by simp)
  rw [show (i:Int) - 1 - (i:Int) = -1 by omega] at st
  exact wpAny_pyNext_rev_end (I.ok.hd hc) st fun h' eb=>⟨rfl,I.turned (t':=s.toks) (fun b o hb e=>eb b o hb e) f0 f1 f3 f4 f5⟩
section
variable {X : Cx}
noncomputable def aa8 (K:PySem.W.Frag) (ta:TA):TI:=fun σ H R=>ta σ H fun vs H1=>∃ a xs,vs = [.ref a]/\aM K H1 a xs/\R (aa7 K a xs.length) H1
theorem aT2 {tg:Expr}{a:Expr}{ta:TA}{p pos:Pos} (hg:Gl X "reversed") (hm:X.mg "reversed" = none) (ha:PA X [a] ta) (hs:starEach [a] X.env = [(false,eval a X.env)]:=by rfl) :
  PI X tg (.Call (.Name "reversed" p) [a] [] pos) (aa8 X.K ta):=by
 intro pins s σ H R I h
 refine Call_ (jG I hg hm PyProof.Rows.boot_reversed (bp6 (aQ (ha pos pins s σ H _ I h) fun us s1 ⟨vs,H1,I1,r1,q1⟩=>?_) (by rw [hs]; rfl) (by rfl)))
 obtain ⟨a',xs,e,h1,q⟩:=q1
 subst e
 cases r1 with
 | cons r rr=>
  cases rr
  cases r
  obtain ⟨us,rv,p1,_⟩:=I1.list h1
  have lv:=rv.length
  refine call_reversed_list p1.isList ?_
  have st:∀ t:Nat,(s1.heap.push (revObj a' ((us.toArray.size:Int) - 1))).IsRevIter s1.heap.objs.size a' ((xs.length:Int) - 1 - (0:Nat)):=fun _=>by
   rw [bh9,<- lv]
   exact⟨_,bk0 _ rfl,rfl,by rw [show (xs.length:Int) - 1 - (0:Nat)=(xs.length:Int) - 1 by omega]; rfl⟩
  refine wpAny_pyIter_revIter (st 0) ?_
  refine⟨s1.heap.objs.size,[s1.heap.objs.size],_,_,H1,rfl,I1.kept (t':=s1.toks) fun b o e=>bi1 _ e,aT1 a' _ xs.length,st 0,fun c hc=>?_,q⟩
  obtain rfl:c=s1.heap.objs.size:=by simpa using hc
  exact I1.fpOk (bi8 _) (I1.hok.fresh (bi8 _))
end
end L2
namespace PP
open PySem L2
section
variable {X : Cx} {σ : St} {H : Hp} {te : aG} {R : It → Hp → Prop} {a : Expr} {p2 pos : Pos}
noncomputable def yZ (te:aG):g9:=fun ρ Q=>te ρ fun x g=>∃ xs,x = .lst xs/\g ≠ .rd/\Q xs.reverse (x3 g xs)
theorem aT3 (h:LI X (yZ te) σ H R):aa8 X.K (i3 (LE X te) iY) σ H R:=by
 obtain ⟨W,ρ,Q,px,q,k⟩:=h
 refine⟨W,ρ,_,px,q,?_⟩
 rintro v H1 x g s r ⟨xs,rfl,hg,q⟩
 have px1:=px.mono s
 have tw:∀ a,W a->∃ o,H1 a=some o/\jR o=true:=fun a z=>(px1.wm a z).2
 obtain ⟨a,us,rfl,m,ea,r⟩:=r.sqL
 have wa : ¬ W a:=by
  cases g with
  | fr=>exact (px.new m).1
  | nw=>exact m.1
  | sh=>exact m
  | rd=>exact absurd rfl hg
 have lr:=r.length
 have ha:∀ W' H',Ev W H1 W' H'->aM X.K H' a us:=fun W' H' e=>aM.of (e _ _ ea wa).1
 have rr:=pL px (fun z=>absurd z hg) r
 refine⟨a,us,rfl,aM.of ea,k _ _ _ _ s ⟨fun W' H' i e hi=>⟨⟨us,ha W' H' e,rfl⟩,?_⟩,fun W' H' i v H2 e y hi=>?_,fun W' H' e=>?_⟩ q⟩
 ·rw [List.length_reverse] at hi; omega
 ·rw [List.length_reverse] at hi
  obtain ⟨rfl,y⟩:=y
  obtain ⟨x,hx,rx⟩:=rr.get (y us (ha W' _ e))
  refine⟨aC.refl _,x,?_,rx.keep (e.keep tw)⟩
  rw [List.getElem?_reverse hi,<- lr]
  exact hx
 ·show xs.reverse.length=us.length
  rw [List.length_reverse]; omega
theorem aT4 {tg:Expr} (hm:X.mg "reversed" = none) (ha:QE X a te) (hg:Gl X "reversed":=by rfl) (hs:starEach [a] X.env = [(false,eval a X.env)]:=by rfl):QI X tg (.Call (.Name "reversed" p2) [a] [] pos) (yZ te):=sO (aT2 hg hm (cJ ha dF hs) hs) fun _ _ _=>aT3
end
end PP
namespace Core
open PySem L2 PP
noncomputable def eQ (n:Nat) (ps:List Int):Prop:=ps.length=n/\∀ w ∈ ps,0<=w
noncomputable def o9:eO:=fun Ep xs Q=>∃ (x:PV) (ns:List Int) (m:Nat),xs = [x,.int m]/\cU x ns/\ns.length<=1000/\m<=1000000/\(eQ m ns->Q (.tup (intz ns)))/\(¬ eQ m ns->Ep "BadPrices")
noncomputable def aa9 (Ep:Str->Prop):aK:=(aE (cD (bD (R9 (aB dH (a6 (a5 0) a9)) (a5 1))) (nX Ep "BadPrices" (a6 (qC (.str "there is one price for each")) a9)) cH)
 (aE (cD (bD (aB yF (a6 (cZ (cR (a5 0)) [none] (bX 0) dA (nI (a5 0) (qC (.int 0)))) a9))) (nX Ep "BadPrices" (a6 (qC (.str "no price is below 0")) a9)) cH)
 (bN (aB j6 (a6 (a5 0) a9)))))
theorem aT5:m9 aa9 ["prices","many"] o9:=by
 rintro Ep xs Q ⟨x,ns,m,rfl,hx,hl,hm,q,qe⟩
 refine⟨_,rfl,_,_,rfl,hx.len,_,rfl,.inl ⟨_,_,rfl,rfl,_,rfl,?_⟩⟩
 show if (!decide ((ns.length:Int)=(m:Int)))=true then _ else _
 by_cases hlm:ns.length=m
 ·rw [bi6 (by omega)]
  refine bF ⟨_,rfl,_,hx.seq,qE hx,by rw [b8]; omega,fun i acc=>acc=((ns.take i).map fun n=>PV.bl (decide (n < 0))),rfl,?_,?_⟩
  ·rintro i y acc hy rfl
   obtain ⟨n,rfl,hn⟩:=gV hy
   refine⟨_,rfl,_,_,rfl,rfl,trivial,?_⟩
   dsimp only
   rw [bm4,hn,bk2]; rfl
  ·rintro acc rfl
   rw [b8,bp3]
   refine⟨ns.map fun n=>decide (n < 0),by rw [bm7]; rfl,_,rfl,?_⟩
   by_cases hp:∀ w ∈ ns,0<=w
   ·have:(ns.map fun n=>decide (n < 0)).any id=false:=by
     rw [List.any_map,List.any_eq_false]
     intro x hx
     have:=hp x hx
     simp; omega
    rw [this]
    exact bF ⟨_,rfl,⟨_,_,rfl,hx.seqT,dG _,trivial,q ⟨hlm,hp⟩⟩,hx.noscr⟩
   ·have:(ns.map fun n=>decide (n < 0)).any id=true:=by
     obtain ⟨w,hw⟩:=Classical.not_forall.mp hp
     obtain ⟨h1,h2⟩:=Classical.not_imp.mp hw
     rw [List.any_map,List.any_eq_true]
     exact⟨w,h1,by simp; omega⟩
    rw [this]
    exact bJ ⟨by show 1<=1000; decide,qe fun z=>hp z.2⟩
 ·rw [bj5 (by omega)]
  exact bJ ⟨by show 1<=1000; decide,qe fun z=>hlm z.1⟩
noncomputable def u6:bK:=fun xs Q=>∃ (ns:List Int) (m:Nat),xs = [.scr ns,.int m]/\ns.length<=63/\m<=40/\∀ ps,eQ m ps->Q (.lst (intz ps))
noncomputable def ab0:aK:=(aE (dR 2 (dQ a9))
 (aE (dS (j5 (a5 1)) (bX 3)
  (aE (b4 4 (aB kF (a6 (aB fC (a6 (a5 0) (a6 (qC (.int 2)) a9))) (a6 (cB (a5 3) (qC (.int 30))) a9))))
  (aE (cD (bD (nI (cB (qC (.int 4)) (a5 3)) (aB dH (a6 (a5 0) a9)))) (b4 4 (cB (i9 (bA (a5 0) (cB (qC (.int 4)) (a5 3))) (qC (.int 11))) (aB fC (a6 (a5 0) (a6 (qC (.int 2)) a9))))) cH)
  (gT 2 (bA (dQ (a6 (cE (a5 4) (qC (.int 3))) (a6 (cB (qC (.int 1)) (cE (a5 4) (qC (.int 9)))) (a6 (cE (a5 4) (pR (qC (.int 10)) (qC (.int 9)))) (a6 (cB (pR (qC (.int 10)) (qC (.int 20))) (cE (a5 4) (qC (.int 7)))) a9))))) (cE (i9 (a5 4) (qC (.int 10))) (qC (.int 4))))))))
 (j4 2)))
theorem aT6:cI ab0 ["script","many","prices","k","number"] u6:=by
 rintro xs Q ⟨ns,m,rfl,hl,hm,q⟩
 refine⟨by decide,rfl,rfl,rfl,?_⟩
 refine⟨_,rfl,(m:Int),rfl,by omega,by omega,fun i ρ=>∃ (ps:List Int) (y3 y4:Option Slot),ρ = [some (.sh (flat (.scr ns)) (.scr ns)),some (.sh (flat (.int (m:Int))) (.int (m:Int))),some (.own (.lst (intz ps))),y3,y4]/\eQ i ps,⟨[],none,none,rfl,rfl,by simp⟩,?_,?_⟩
 ·rintro i y ρ hy ⟨ps,y3,y4,rfl,gp⟩
  obtain ⟨rfl,hi⟩:=jA hy
  rw [bk4] at hi
  refine iB ?_
  rw [bx0]
  refine⟨_,rfl,_,ns,2,rfl,.inl rfl,by decide,_,rfl,_,_,rfl,rfl,_,_,rfl,by omega,by omega,fun z z0=>⟨trivial,?_⟩⟩
  have tail:∀ c:Int,(gT 2 (bA (dQ (a6 (cE (a5 4) (qC (.int 3))) (a6 (cB (qC (.int 1)) (cE (a5 4) (qC (.int 9)))) (a6 (cE (a5 4) (pR (qC (.int 10)) (qC (.int 9)))) (a6 (cB (pR (qC (.int 10)) (qC (.int 20))) (cE (a5 4) (qC (.int 7)))) a9))))) (cE (i9 (a5 4) (qC (.int 10))) (qC (.int 4)))))
    { nx:=fun ρ=>∃ (ps:List Int) (y3 y4:Option Slot),ρ = [some (.sh (flat (.scr ns)) (.scr ns)),some (.sh (flat (.int (m:Int))) (.int (m:Int))),some (.own (.lst (intz ps))),y3,y4]/\eQ (i+1) ps,rt:=Q,ct:=fun ρ=>∃ (ps:List Int) (y3 y4:Option Slot),ρ = [some (.sh (flat (.scr ns)) (.scr ns)),some (.sh (flat (.int (m:Int))) (.int (m:Int))),some (.own (.lst (intz ps))),y3,y4]/\eQ (i+1) ps,bk:=(j4 2) { nx:=fun _=>Q .non,rt:=Q } }
    [some (.sh (flat (.scr ns)) (.scr ns)),some (.sh (flat (.int (m:Int))) (.int (m:Int))),some (.own (.lst (intz ps))),si i,si c]:=fun c=>by
   have j0:0<=c / 10 % 4:=bo4 _ (by decide)
   have j1:c / 10 % 4 < 4:=bu6 _ (by decide)
   have odd:∃ p:Int,0<=p/\L2.atI [PV.int (c % 3),.int (1+c % 9),.int (c % 10 ^ (9:Int).toNat),.int (10 ^ (20:Int).toNat+c % 7)] (c / 10 % 4)=some (.int p):=by
    generalize c / 10 % 4=j at j0 j1
    have e1:0<=c % 3:=bo4 _ (by decide)
    have e2:0<=c % 9:=bo4 _ (by decide)
    have e3:0<=c % 10 ^ (9:Int).toNat:=bo4 _ (by decide)
    have e4:0<=c % 7:=bo4 _ (by decide)
    have e5:(0:Int)<=10 ^ (20:Int).toNat:=by decide
    rcases (show j=0 ∨ j=1 ∨ j=2 ∨ j=3 by omega) with rfl | rfl | rfl | rfl
    ·exact⟨_,e1,rfl⟩
    ·exact⟨_,by omega,rfl⟩
    ·exact⟨_,e3,rfl⟩
    ·exact⟨_,Int.add_nonneg e5 e4,rfl⟩
   obtain ⟨p,p0,at4⟩:=odd
   refine⟨_,rfl,_,rfl,_,_,rfl,rfl,(by show (0:Int) < 3; decide),_,rfl,_,_,rfl,rfl,(by show (0:Int) < 9; decide),_,_,rfl,rfl,_,rfl,_,_,rfl,rfl,⟨by decide,by decide,by decide⟩,_,_,rfl,rfl,(by show (0:Int) < 10 ^ (9:Int).toNat; decide),
    _,_,rfl,rfl,⟨by decide,by decide,by decide⟩,_,rfl,_,_,rfl,rfl,(by show (0:Int) < 7; decide),_,_,rfl,rfl,by show 4<=1000; decide,rfl,_,rfl,_,_,rfl,rfl,⟨by decide,by decide⟩,_,_,rfl,rfl,(by show (0:Int) < 4; decide),?_⟩
   refine⟨_,_,_,rfl,rfl,at4,trivial,by rw [b8,gp.1]; omega,ps ++ [p],si i,si c,?_,?_⟩
   ·rw [eN]; rfl
   ·refine⟨by rw [bj4,gp.1]; rfl,fun w hw=>?_⟩
    rcases bi7.mp hw with hw | hw
    ·exact gp.2 w hw
    ·rw [bi3] at hw; omega
  refine⟨_,rfl,_,_,rfl,rfl,_,rfl,_,_,rfl,rfl,_,_,rfl,rfl,_,rfl,?_⟩
  show if decide (4+(i:Int) < (ns.length:Int))=true then _ else _
  by_cases h4:4+(i:Int) < (ns.length:Int)
  ·rw [bi6 h4]
   have hl4:4+i < ns.length:=by omega
   have ix:L2.atI (intz ns) (4+(i:Int))=some (.int ns[4+i]):=by
    have:=jI (xs:=intz ns) (j:=4+i) (v:=.int ns[4+i]) (by show (List.map PV.int ns)[_]? = _; rw [bj2,bi2 hl4]; rfl)
    exact this
   exact bJ ⟨_,rfl,_,rfl,_,_,rfl,rfl,_,_,_,rfl,rfl,ix,_,_,rfl,rfl,⟨by decide,by decide⟩,_,rfl,_,ns,2,rfl,.inl rfl,by decide,_,_,rfl,rfl,trivial,tail _⟩
  ·rw [bj5 h4]
   exact bF (tail z)
 ·rintro ρ ⟨ps,y3,y4,rfl,gp⟩
  rw [gA,bk4] at gp
  exact⟨_,rfl,trivial,q ps gp⟩
noncomputable def mC (h:Int):List Int->List Int
 | []=>[h]
 | a :: r=>if h<=a then h :: a :: r else a :: mC h r
theorem zA (h:Int):∀ A:List Int,(mC h A).Perm (A ++ [h])
 | []=>bx5 _
 | a :: r=>by
  show (if h<=a then h :: a :: r else a :: mC h r).Perm _
  split
  ·exact List.perm_append_comm (l₁:=[h]) (l₂:=a :: r)
  ·exact (zA h r).cons a
theorem ab1 (h:Int):∀ {A:List Int},A.Pairwise (· <= ·)->(mC h A).Pairwise (· <= ·)
 | [],_=>bl7 _ _
 | a :: r,p=>by
  have p':=br8.mp p
  show (if h<=a then h :: a :: r else a :: mC h r).Pairwise _
  split
  ·rename_i z
   exact br8.mpr ⟨fun x hx=>by
    rcases bj1.mp hx with rfl | hx
    ·exact z
    ·exact Int.le_trans z (p'.1 x hx),p⟩
  ·rename_i z
   exact br8.mpr ⟨fun x hx=>by
    rcases bi7.mp ((zA h r).mem_iff.mp hx) with hx | hx
    ·exact p'.1 x hx
    ·rw [bi3] at hx; omega,ab1 h p'.2⟩
theorem aT7 {motive:List Int->Prop} (z:motive []) (sn:∀ L x,motive L->motive (L ++ [x])):∀ L,motive L:=fun L=>by
 have:∀ R:List Int,motive R.reverse:=by
  intro R
  induction R with
  | nil=>exact z
  | cons x r ih=>rw [List.reverse_cons]; exact sn _ _ ih
 have:=this L.reverse
 rwa [List.reverse_reverse] at this
noncomputable def cV (O:List Int):List Int:=O.foldl (fun A h=>mC h A) []
theorem aT8 (O:List Int) (h:Int):cV (O ++ [h])=mC h (cV O):=by unfold cV; rw [List.foldl_append]; rfl
theorem ab2:∀ O:List Int,(cV O).Perm O/\(cV O).Pairwise (· <= ·):=by
 refine aT7 ⟨bx5 _,.nil⟩ ?_
 rintro O h ⟨i1,i2⟩
 rw [aT8]
 exact⟨(zA h _).trans (i1.append_right [h]),ab1 h i2⟩
theorem ab3 {O ms:List Int} (p:ms.Perm O) (s:ms.Pairwise (· <= ·)):ms=cV O:=xX (p.trans (ab2 O).1.symm) s (ab2 O).2
noncomputable def rV (ws:List Int) (ls:List (Int × Int)) (ns R:List Int):Prop:=aa1 ws ls ns R=true/\iA ws ls (ns ++ R)
end Core
namespace L2
open PySem PySem.Spec PyProof.Rows PP
section
variable {prog : Program} {w : World} {A : Around} {R : Result → Shared → Prop} {I S : Addr} {n : Nat} {l : Addr} {its : Array Value} {s0 : Shared} {bt : Nat → Nat → Bool}
noncomputable abbrev at_ (s:Shared) (h:Heap) (k:Nat):Shared:={ s with heap:=h,toks:=k }
end
end L2
namespace Core
open PySem L2 PP
theorem aT9 (ps:List Int):fO (intz ps) (some 1) none=intz (ps.drop 1):=by
 unfold fO
 have e1:HT.b5 (intz ps).length 0 (some 1)=min 1 ps.length:=by
  rw [b8]
  show (if (1:Int) < 0 then ((1:Int)+(ps.length:Int)).toNat else min (1:Int).toNat ps.length)=_
  rw [if_neg (by decide)]; rfl
 rw [e1]
 show ((intz ps).drop (min 1 ps.length)).take ((intz ps).length - min 1 ps.length)=_
 rw [bl6 (by rw [bq0]; exact bi8 _)]
 show (List.map PV.int ps).drop _=List.map PV.int _
 cases ps with
 | nil=>rfl
 | cons x xs=>rw [show min 1 (x :: xs).length=1 by simp]; rfl
end Core
namespace PP
open PySem L2
section
variable {X : Cx} {a b e : Expr} {ta tb : aG} {tr : cG} {pos p2 : Pos} {σ : St} {H : Hp} {Q' : VK}
noncomputable def zB:PV->Tg->PV->Tg->PK->Prop:=fun x g y g' Q=>∃ xs ys,x = .lst xs/\y = .lst ys/\Nw g x/\Nw g' y/\xs.length+ys.length<=16000000/\Q (.lst (xs ++ ys)) .nw
theorem ab4 {K:PySem.W.Frag}{H0 Hs H:Hp}{W:Addr->Prop}{g:Tg}{x:PV}{v:V} (nw:∀ a,Hs a=none->¬ W a/\H0 a=none) (n:Nw g x) (r:aI K (Mg H0 W Hs g) H v x):aI K (Ms H0 W true) H v x:=by
 cases g with
 | fr=>exact r.same (aC.refl _) fun a z=>nw a z
 | nw=>exact r.same (aC.refl _) fun a z=>z
 | sh=>exact r.flat n
 | rd=>exact r.flat n
theorem aU0:eM X zB vJ:=by
 rintro W Hs H u v x y g g' Q Q' s n r1 r2 ⟨xs,ys,rfl,rfl,n1,n2,hl,q⟩ k
 obtain ⟨a,us,rfl,_,h1,q1⟩:=(ab4 n n1 r1).sqL
 obtain ⟨b,ws,rfl,_,h2,q2⟩:=(ab4 n n2 r2).sqL
 have l1:=q1.length
 have l2:=q2.length
 exact⟨a,b,us,ws,rfl,rfl,h1,h2,lim (by omega),fun p hp=>k _ _ _ .nw (bH hp _) (.lst (n p (s.free hp)) bI ((q1.append q2).same (bH hp _) fun _ z=>z)) q⟩
theorem aU1 (ha:QE X a ta) (hb:QE X b tb):QE X (.BinOp a .Add b pos) (q2 zB ta tb):=j7 J2 aU0 ha hb
end
end PP
namespace Core
open PySem L2 PP
noncomputable def FB (L:List (List Int)) (f:List Int->Int) (r:List Int):Prop:=∃ i,L[i]? = some r/\(∀ (j:Nat) (s:List Int),j < i->L[j]? = some s->f s < f r)/\∀ s ∈ L,f s<=f r
noncomputable def c7 (n:Nat) (ls:List (Int × Int)):Prop:=(∀ l ∈ ls,0<=l.1/\l.1 < l.2/\l.2 < (n:Int))/\ls.length<=1700/\ls.Pairwise jB
noncomputable def gD (S:List Int) (l:Int × Int):Bool:=decide (l.1 ∈ S) && decide (l.2 ∈ S)
structure Moved (ws os ws':List Int):Prop where
 len:ws'.length=ws.length
 at_:∀ h:Nat,h < ws.length->ws'[(os.getD h 0).toNat]? = ws[h]?
theorem aU2 {ls:List (Int × Int)} (h:ls.Pairwise jB):ls.Nodup:=h.imp fun {a b} z e=>by subst e; unfold jB at z; omega
end Core
namespace PP
open PySem L2
noncomputable def fz:PV->PV
 | .dK ps=>.fK ps
 | .dT ps=>.fT ps
 | x=>x
end PP
namespace Core
open PySem L2 PP
theorem aU3 (a b:List (Int × Int)):aV (a ++ b)=aV a ++ aV b:=bk2 ..
noncomputable def zC (r c:Int) (l:Int × Int):Bool:=decide (0<=l.1) && (decide (l.1 < r) && (decide (0<=l.2) && decide (l.2 < c)))
noncomputable def aU4 (l:Int × Int):List (Int × Int):=[(l.1 - 1,l.2),(l.1,l.2 - 1),(l.1,l.2+1),(l.1+1,l.2)]
noncomputable def zD (r c:Int) (l:Int × Int):List (Int × Int):=(aU4 l).filter (zC r c)
theorem eV:∀ {l m:List Int},l.Nodup->(∀ x ∈ l,x ∈ m)->l.length<=m.length
 | [],_,_,_=>bm9 _
 | a :: r,m,nd,h=>by
  have hm:=h a bi9
  have:=eV (l:=r) (m:=m.erase a) (bo2.mp nd).2 fun x hx=>(List.mem_erase_of_ne (show x ≠ a from fun e=>(bo2.mp nd).1 (by rw [<- e]; exact hx))).mpr (h x (bj7 _ hx))
  rw [List.length_erase_of_mem hm] at this
  have:=List.length_pos_of_mem hm
  rw [bk9]; omega
section
variable {ls : List (Int × Int)} {n : Nat} {B : List Int}
noncomputable def ins (ls:List (Int × Int)) (S:List Int) (h:Int):Nat:=((aN ls h).filter fun x=>decide (x ∈ S)).length
noncomputable def Two (ls:List (Int × Int)) (S:List Int):Prop:=∀ h ∈ S,2<=ins ls S h
theorem aU5 {S:List Int}{h:Int} (nd:(aN ls h).Nodup) (t:2<=ins ls S h):∃ a b,a ∈ aN ls h/\b ∈ aN ls h/\a ∈ S/\b ∈ S/\a ≠ b:=by
 unfold ins at t
 have n2:=nd.filter (fun x=>decide (x ∈ S))
 have mem:∀ x ∈ (aN ls h).filter fun x=>decide (x ∈ S),x ∈ aN ls h/\x ∈ S:=fun x hx=>⟨(bj6.mp hx).1,bn0 (bj6.mp hx).2⟩
 cases e:(aN ls h).filter fun x=>decide (x ∈ S) with
 | nil=>rw [e] at t; simp at t
 | cons x r=>
  cases r with
  | nil=>rw [e] at t; simp at t
  | cons y z=>
   rw [e] at n2 mem
   have h1:=mem x bi9
   have h2:=mem y (bj7 _ bi9)
   exact⟨x,y,h1.1,h2.1,h1.2,h2.2,fun z=>(bo2.mp n2).1 (by rw [z]; exact bi9)⟩
end
section
variable {ls : List (Int × Int)} {B : List Int}
structure dB (ls:List (Int × Int)):Prop where
 lt:∀ l ∈ ls,l.1 < l.2
 ord:ls.Pairwise jB
theorem dB.nnd (f:dB ls) (h:Int):(aN ls h).Nodup:=Y3 f.lt f.ord
theorem dB.irr (f:dB ls) (h:Int):h ∉ aN ls h:=fun z=>by
 rcases L2.cQ.mp z with z | z <;> exact absurd (f.lt _ z) (Int.lt_irrefl _)
end
noncomputable def u7 (d:Int):Int:=if d - 1 > 0 then d - 1 else 0
noncomputable def zE (ls:List (Int × Int)) (S:List Int):Prop:=∀ U,Two ls U->(∀ x ∈ U,x ∈ S)->U = []
theorem c7.fit {n:Nat}{ls:List (Int × Int)} (lk:c7 n ls):dB ls:=⟨fun l hl=>(lk.1 l hl).2.1,lk.2.2⟩
noncomputable def oA (L:List Int) (h:Int) (l:Int × Int):Bool:=decide (h ∈ [l.1,l.2]) && (decide (l.1 ∈ L) && decide (l.2 ∈ L))
theorem ab5 {L:List Int}{h:Int} (hh:h ∈ L):∀ {ls:List (Int × Int)},(∀ l ∈ ls,l.1 ≠ l.2)->(ls.filter (oA L h)).length=ins ls L h
 | [],_=>rfl
 | l :: r,ne=>by
  have ih:=ab5 hh (ls:=r) fun m hm=>ne m (bj7 _ hm)
  have e:aN (l :: r) h=((if l.1=h then [l.2] else []) ++ (if l.2=h then [l.1] else [])) ++ aN r h:=rfl
  have n0:=ne l bi9
  unfold ins at ih ⊢
  rw [e,List.filter_append,bj4,<- ih]
  by_cases a:l.1=h
  ·have b : ¬ l.2=h:=fun z=>n0 (a.trans z.symm)
   have a1:l.1 ∈ L:=by rw [a]; exact hh
   have a2:h ∈ [l.1,l.2]:=by rw [a]; exact bi9
   rw [if_pos a,if_neg b,bp1]
   by_cases c:l.2 ∈ L
   ·rw [br7 (by unfold oA; rw [bi6 a2,bi6 a1,bi6 c]; rfl),br7 (by simpa using c),bk9]
    show _=1+_
    omega
   ·rw [bq3 (by unfold oA; rw [bj5 c,bu0,bu0]; decide),bq3 (by simpa using c)]
    show _=0+_
    omega
  ·by_cases b:l.2=h
   ·have a1:l.2 ∈ L:=by rw [b]; exact hh
    have a2:h ∈ [l.1,l.2]:=by rw [b]; exact bj7 _ bi9
    rw [if_neg a,if_pos b,List.nil_append]
    by_cases c:l.1 ∈ L
    ·rw [br7 (by unfold oA; rw [bi6 a2,bi6 a1,bi6 c]; rfl),br7 (by simpa using c),bk9]
     show _=1+_
     omega
    ·rw [bq3 (by unfold oA; rw [bj5 c,Bool.false_and,bu0]; decide),bq3 (by simpa using c)]
     show _=0+_
     omega
   ·have a2:h ∉ [l.1,l.2]:=fun z=>by
     simp only [bj1,bl0,bq2] at z
     rcases z with z | z
     ·exact a z.symm
     ·exact b z.symm
    rw [if_neg a,if_neg b,bq3 (by unfold oA; rw [bj5 a2,Bool.false_and]; decide)]
    show _=0+_
    omega
noncomputable def keep2 (ls:List (Int × Int)) (L:List Int):List Int:=L.filter fun h=>decide (2<=ins ls L h)
end Core
namespace L2
open PySem PySem.Spec PyProof.Rows SO
noncomputable abbrev kk (l:Int × Int):List aH:=[Sum.inl l.1,Sum.inl l.2]
end L2
namespace Core
open PySem L2 PP
inductive qR (r c:Int) (S:List (Int × Int)):Int × Int->Prop
 | seed {x:Int × Int}:x ∈ S->qR r c S x
 | kin {x a b:Int × Int}:zC r c x=true->a ∈ zD r c x->b ∈ zD r c x->a ≠ b->qR r c S a->qR r c S b->qR r c S x
noncomputable def nbC (r c:Int) (P:List (Int × Int)) (x:Int × Int):Nat:=(P.filter fun p=>decide (x ∈ zD r c p)).length
structure Wk (r c:Int) (S K P:List (Int × Int)):Prop where
 nd:K.Nodup
 ndP:P.Nodup
 sub:∀ x ∈ P,x ∈ K
 brn:∀ x ∈ K,qR r c S x
 sd:∀ x ∈ S,x ∈ K
 bd:∀ x ∈ K,zC r c x=true
 low:∀ x,x ∉ K->nbC r c P x < 2
structure Bx where
 t:Int
 l:Int
 b:Int
 r:Int
deriving DecidableEq
noncomputable def Bx.k (x:Bx):List Int:=[x.t,x.l,x.b,x.r]
noncomputable def okX (x:Bx):Prop:=x.t<=x.b/\x.l<=x.r
noncomputable def inX (x:Bx) (p:Int × Int):Prop:=x.t<=p.1/\p.1<=x.b/\x.l<=p.2/\p.2<=x.r
noncomputable def ab6 (x a:Int × Int):Prop:=(a.1=x.1/\(a.2=x.2 - 1 ∨ a.2=x.2+1)) ∨ (a.2=x.2/\(a.1=x.1 - 1 ∨ a.1=x.1+1))
noncomputable def Clo (B:Bx) (U:Int × Int->Prop):Prop:=∀ x a b,inX B x->ab6 x a->ab6 x b->a ≠ b->U a->U b->U x
section
variable {B : Bx} {U : Int × Int → Prop}
variable {t l b r : Int}
section
variable (cl : Clo B U) {p1 p2 : Int} (u : U (p1, p2)) (ip : inX B (p1, p2))
include cl u ip
end
end
noncomputable abbrev bxP (x:Bx):PV:=.tup (intz x.k)
theorem u8 {i j:Nat}{a b:Int}{g:Bool}{ρ:bM}{Q:bM->Prop} (q:Q ((ρ.set i (si a)).set j (si b))):gU i j (.tup [.int a,.int b]) g ρ Q:=by
 refine⟨_,_,rfl,?_⟩
 rw [show flat (.int a)=true from rfl,show flat (.int b)=true from rfl,Bool.or_true]
 exact q
section
variable {ns : List Int} {a r c z t l : Int} {Q : PV → Prop} (q : ∀ x : Bx, Q (bxP x))
include q
end
theorem ab7 {α:Type} (p q:α->Bool):∀ l:List α,(l.filter p).length=(l.filter fun x=>p x && !q x).length+(l.filter fun x=>q x && p x).length
 | []=>rfl
 | a :: r=>by
  have ih:=ab7 p q r
  rw [bs3,bs3,bs3]
  cases p a <;> cases q a <;> simp <;> omega
section
variable {ls : List (Int × Int)} {n : Nat} {U : List Int} {v : Int}
theorem aU6 (hv:v ∈ U) (ne:∀ l ∈ ls,l.1 ≠ l.2):(ls.filter (gD U)).length=(ls.filter (gD (eD U v))).length+ins ls U v:=by
 rw [<- ab5 hv ne,ab7 (gD U) (fun l=>decide (v ∈ [l.1,l.2])) ls]
 congr 2
 refine List.filter_congr fun l _=>?_
 unfold gD
 rw [bp8]
 simp only [bm2,Bool.not_eq_true',bq6,bt6,mB,bj1,bl0,bq2,not_or]
 constructor
 ·rintro ⟨⟨a,b⟩,c,d⟩; exact⟨⟨a,fun z=>c z.symm⟩,b,fun z=>d z.symm⟩
 ·rintro ⟨⟨a,c⟩,b,d⟩; exact⟨⟨a,b⟩,fun z=>c z.symm,fun z=>d z.symm⟩
theorem ab8 {h:Int} (x:Int) (hx:x ∈ comp ls (eD U v) h):x ∈ comp ls U h:=by
 obtain ⟨h1,h2⟩:=gL.mp hx
 exact gL.mpr ⟨(mB.mp h1).1,fun W hW hh=>h2 W (fun a ha b hb bS=>hW a ha b hb (mB.mp bS).1) hh⟩
theorem eF {S:List Int}{h:Int}:h ∈ aX ls S ↔ h ∈ S/\(comp ls S h).head? = some h:=by
 unfold aX qP
 rw [bj6]
 exact⟨fun z=>⟨z.1,@bn0 _ _ z.2⟩,fun z=>⟨z.1,@bi6 _ _ z.2⟩⟩
theorem zF (hU:bE n U=true) {h:Int} (hh:h ∈ aX ls U) (ne:h ≠ v):h ∈ aX ls (eD U v):=by
 obtain ⟨h1,h2⟩:=eF.mp hh
 have hb:h ∈ eD U v:=mB.mpr ⟨h1,ne⟩
 refine eF.mpr ⟨hb,yV (gM (u4 hU)) (fQ hb) fun x hx=>?_⟩
 have:=(jC (gM hU) h2).2 x (ab8 x hx)
 omega
theorem u9 (hU:bE n U=true):(aX ls U).Nodup:=by
 have:U.Nodup:=(gC (eB hU).1).imp fun h=>bu3 h
 exact this.filter _
theorem aU7 (f:dB ls) (hU:bE n U=true) (hv:v ∈ U):(aX ls U).length<=(aX ls (eD U v)).length+(if ins ls U v=0 then 1 else 0):=by
 have nd:=u9 (ls:=ls) hU
 by_cases hh:v ∈ aX ls U
 ·by_cases i0:ins ls U v=0
  ·rw [if_pos i0]
   have:=eV nd (m:=v :: aX ls (eD U v)) fun x hx=>by
    by_cases e:x=v
    ·rw [e]; exact bi9
    ·exact bj7 _ (zF hU hx e)
   rw [bk9] at this
   exact this
  ·rw [if_neg i0]
   obtain ⟨w,hw⟩:∃ w,w ∈ (aN ls v).filter fun x=>decide (x ∈ U):=by
    cases e:(aN ls v).filter fun x=>decide (x ∈ U) with
    | nil=>exact absurd (show ins ls U v=0 by unfold ins; rw [e]; rfl) i0
    | cons a r=>exact⟨a,bi9⟩
   obtain ⟨w1,w2⟩:=bj6.mp hw
   have w2:w ∈ U:=bn0 w2
   have wv:w ≠ v:=fun e=>f.irr v (e ▸ w1)
   have wb:w ∈ eD U v:=mB.mpr ⟨w2,wv⟩
   have cs:=gM (ls:=ls) (h:=w) (u4 (h:=v) hU)
   obtain ⟨a,ha⟩:∃ a,(comp ls (eD U v) w).head? = some a:=by
    cases e:comp ls (eD U v) w with
    | nil=>have:=fQ (ls:=ls) wb; rw [e] at this; cases this
    | cons a r=>exact⟨a,rfl⟩
   have am:=(jC cs ha).1
   have ab:=qO a am
   have ahd:a ∈ aX ls (eD U v):=eF.mpr ⟨ab,by rw [kE (u4 hU) am wb]; exact ha⟩
   have wc:w ∈ comp ls U v:=iC v (fQ hv) w w1 w2
   have ac:a ∈ comp ls U v:=by rw [<- kE hU wc hv]; exact ab8 a am
   have an:a ∉ aX ls U:=fun z=>by
    have h1:=(eF.mp z).2
    rw [kE hU ac hv,(eF.mp hh).2] at h1
    exact (mB.mp ab).2 (bl2 h1).symm
   have nd2:(a :: (aX ls U).erase v).Nodup:=bo2.mpr ⟨fun z=>an (List.mem_of_mem_erase z),nd.erase v⟩
   have:=eV nd2 (m:=aX ls (eD U v)) fun x hx=>by
    rcases bj1.mp hx with rfl | hx
    ·exact ahd
    ·have h2:=(nd.mem_erase_iff).mp hx
     exact zF hU h2.2 h2.1
   rw [bk9,List.length_erase_of_mem hh] at this
   have:=List.length_pos_of_mem hh
   omega
 ·have:=eV nd (m:=aX ls (eD U v)) fun x hx=>zF hU hx fun e=>hh (e ▸ hx)
  omega
noncomputable def mu (ls:List (Int × Int)) (U:List Int):Int:=((ls.filter (gD U)).length:Int) - (U.length:Int)+((aX ls U).length:Int)
theorem ab9 (nd:U.Nodup) (hv:v ∈ U):(eD U v).length+1=U.length:=by
 have e:eD U v=U.erase v:=by
  unfold eD
  rw [nd.erase_eq_filter]
  refine List.filter_congr fun x _=>?_
  by_cases h:x=v <;> simp [h]
 rw [e,List.length_erase_of_mem hv]
 have:=List.length_pos_of_mem hv
 omega
theorem aU8 (f:dB ls) (hU:bE n U=true) (hv:v ∈ U):mu ls U<=mu ls (eD U v)+u7 (ins ls U v:Int):=by
 have a:=aU6 hv (fun l hl=>bu3 (f.lt l hl))
 have b:=aU7 f hU hv
 have c:=ab9 ((gC (eB hU).1).imp fun h=>bu3 h) hv
 unfold mu u7
 by_cases i0:ins ls U v=0
 ·rw [if_pos i0] at b
  rw [if_neg (by omega)]; omega
 ·rw [if_neg i0] at b
  by_cases i1:(ins ls U v:Int) - 1 > 0
  ·rw [if_pos i1]; omega
  ·rw [if_neg i1]; omega
theorem zG (f:dB ls):∀ (k:Nat) (T:List Int),T.length<=k->bE n T=true->zE ls T->mu ls T<=0
 | 0,T,hl,_,_=>by
  have:T = []:=List.length_eq_zero_iff.mp (by omega)
  subst this
  have:ls.filter (gD []) = []:=bv8.mpr fun l _=>by simp [gD]
  unfold mu
  rw [this]
  show (0:Int) - 0+((([]:List Int).filter _).length:Int)<=0
  simp
 | k+1,T,hl,hT,no=>by
  by_cases e:T = []
  ·exact zG f k T (by rw [e]; simp) hT no
  ·obtain ⟨v,hv,hi⟩:∃ v,v ∈ T/\ins ls T v < 2:=bn9 fun z=>e (no T (fun h hh=>bw0 fun q=>z ⟨h,hh,q⟩) fun _ h=>h)
   have nd:T.Nodup:=(gC (eB hT).1).imp fun h=>bu3 h
   have bl:=ab9 nd hv
   have ih:=zG f k (eD T v) (by omega) (u4 hT) fun U hU sub=>no U hU fun x hx=>(mB.mp (sub x hx)).1
   have st:=aU8 f hT hv
   have:u7 (ins ls T v:Int)=0:=by unfold u7; rw [if_neg (by omega)]
   omega
end
noncomputable def oB:bK:=fun xs Q=>∃ ws ls,xs = [b6 ws ls]/\Wb ws ls/\Q (.lst (tups (iS ls (rng ws.length))))
noncomputable def ac0:aK:=(bN (aB (tW fun _=>False) (a6 (a5 0) (a6 (aB tT (a6 (a5 0) (a6 (eZ a9) a9))) a9))))
theorem aU9:cI ac0 ["web"] oB:=by
 rintro xs Q ⟨ws,ls,rfl,wb,q⟩
 have few:=wb.few
 have e:yD ws.length []=rng ws.length:=List.filter_eq_self.mpr fun x _=>by simp
 have rs:=aS3 ws.length
 refine⟨_,rfl,_,rfl,by show 0<=1000; decide,rfl,ws,ls,_,[],rfl,.inl rfl,by decide,by omega,ws,ls,_,yD ws.length [],rfl,wb,.inl rfl,?_,fun _=>⟨trivial,?_⟩,fun z=>?_⟩
 ·rw [e,dM]; omega
 ·rw [e]; exact q
 ·rw [e,rs] at z; cases z
noncomputable abbrev Wys:=List (Int × List Int)
section
variable {ls : List (Int × Int)} {l : Int × Int} {n : Nat} {S U : List Int} {h x y : Int}
theorem zH:y ∈ aN (l :: ls) x ↔ y ∈ aN ls x ∨ l=(x,y) ∨ l=(y,x):=by
 rw [L2.cQ,L2.cQ,bj1,bj1]
 constructor
 ·rintro ((e | e) | (e | e))
  ·exact .inr (.inl e.symm)
  ·exact .inl (.inl e)
  ·exact .inr (.inr e.symm)
  ·exact .inl (.inr e)
 ·rintro ((e | e) | (e | e))
  ·exact .inl (.inr e)
  ·exact .inr (.inr e)
  ·exact .inl (.inl e.symm)
  ·exact .inr (.inl e.symm)
theorem qS (hS:bE n S=true) (hh:h ∈ S) (hU:eC ls S U) (hu:h ∈ U) (le:∀ x ∈ U,x ∈ S->h<=x):h ∈ aX ls S:=
 eF.mpr ⟨hh,yV (gM hS) (fQ hh) fun x hx=>le x ((gL.mp hx).2 U hU hu) (qO x hx)⟩
theorem zI (hS:bE n S=true) (hh:h ∈ aX ls S) (no:h ∉ aX (l :: ls) S):gD S l=true/\(l.1 ∈ comp ls S h ∨ l.2 ∈ comp ls S h):=by
 obtain ⟨h1,h2⟩:=eF.mp hh
 have le:=(jC (gM hS) h2).2
 refine bn9 fun hn=>no (qS hS h1 (U:=comp ls S h) (fun x hx y hy yS=>?_) (fQ h1) fun x hx _=>by have:=le x hx; omega)
 rcases zH.mp hy with e | e | e
 ·exact iC x hx y e yS
 ·refine absurd ⟨?_,.inl (by rw [e]; exact hx)⟩ hn
  unfold gD; rw [e,bm2]; exact⟨bi6 (qO x hx),bi6 yS⟩
 ·refine absurd ⟨?_,.inr (by rw [e]; exact hx)⟩ hn
  unfold gD; rw [e,bm2]; exact⟨bi6 yS,bi6 (qO x hx)⟩
theorem uA (hS:bE n S=true) {a b z:Int} (ha:a ∈ aX ls S) (hb:b ∈ aX ls S) (za:z ∈ comp ls S a) (zb:z ∈ comp ls S b):a=b:=by
 obtain ⟨a1,a2⟩:=eF.mp ha
 obtain ⟨b1,b2⟩:=eF.mp hb
 rw [<- kE hS za a1] at a2
 rw [<- kE hS zb b1,a2] at b2
 exact bl2 b2
theorem ac1 (hS:bE n S=true) {a b:Int} (ha:a ∈ aX ls S) (hb:b ∈ aX ls S) (la:l.1 ∈ comp ls S a) (lb:l.2 ∈ comp ls S b) (lt:a<=b):a ∈ aX (l :: ls) S:=by
 obtain ⟨a1,a2⟩:=eF.mp ha
 obtain ⟨b1,b2⟩:=eF.mp hb
 have lea:=(jC (gM hS) a2).2
 have leb:=(jC (gM hS) b2).2
 refine qS hS a1 (U:=comp ls S a ++ comp ls S b) (fun x hx y hy yS=>?_) (bi7.mpr (.inl (fQ a1))) fun x hx _=>?_
 ·rcases zH.mp hy with e | e | e
  ·rcases bi7.mp hx with z | z
   ·exact bi7.mpr (.inl (iC x z y e yS))
   ·exact bi7.mpr (.inr (iC x z y e yS))
  ·rw [e] at lb; exact bi7.mpr (.inr lb)
  ·rw [e] at la; exact bi7.mpr (.inl la)
 ·rcases bi7.mp hx with z | z
  ·have:=lea x z; omega
  ·have:=leb x z; omega
theorem ac2 (hS:bE n S=true) {a b:Int} (ha:a ∈ aX ls S) (hb:b ∈ aX ls S) (la:l.1 ∈ comp ls S a) (lb:l.2 ∈ comp ls S b) (lt:b<=a):b ∈ aX (l :: ls) S:=by
 obtain ⟨a1,a2⟩:=eF.mp ha
 obtain ⟨b1,b2⟩:=eF.mp hb
 have lea:=(jC (gM hS) a2).2
 have leb:=(jC (gM hS) b2).2
 refine qS hS b1 (U:=comp ls S a ++ comp ls S b) (fun x hx y hy yS=>?_) (bi7.mpr (.inr (fQ b1))) fun x hx _=>?_
 ·rcases zH.mp hy with e | e | e
  ·rcases bi7.mp hx with z | z
   ·exact bi7.mpr (.inl (iC x z y e yS))
   ·exact bi7.mpr (.inr (iC x z y e yS))
  ·rw [e] at lb; exact bi7.mpr (.inr lb)
  ·rw [e] at la; exact bi7.mpr (.inl la)
 ·rcases bi7.mp hx with z | z
  ·have:=lea x z; omega
  ·have:=leb x z; omega
theorem aV0 (hS:bE n S=true) {a b:Int} (ha:a ∈ aX ls S) (na:a ∉ aX (l :: ls) S) (hb:b ∈ aX ls S) (nb:b ∉ aX (l :: ls) S):a=b:=by
 rcases (zI hS ha na).2 with la | la <;> rcases (zI hS hb nb).2 with lb | lb
 ·exact uA hS ha hb la lb
 ·rcases Int.le_total a b with z | z
  ·exact absurd (ac1 hS ha hb la lb z) na
  ·exact absurd (ac2 hS ha hb la lb z) nb
 ·rcases Int.le_total a b with z | z
  ·exact absurd (ac2 hS hb ha lb la z) na
  ·exact absurd (ac1 hS hb ha lb la z) nb
 ·exact uA hS ha hb la lb
theorem aV1 (hS:bE n S=true):(aX ls S).length<=(aX (l :: ls) S).length+(if gD S l=true then 1 else 0):=by
 have nd:=u9 (ls:=ls) hS
 by_cases ex:∃ a,a ∈ aX ls S/\a ∉ aX (l :: ls) S
 ·obtain ⟨a,ha,na⟩:=ex
  rw [if_pos (zI hS ha na).1]
  have:=eV nd (m:=a :: aX (l :: ls) S) fun x hx=>by
   by_cases nx:x ∈ aX (l :: ls) S
   ·exact bj7 _ nx
   ·rw [aV0 hS hx nx ha na]; exact bi9
  rwa [bk9] at this
 ·have:=eV nd (m:=aX (l :: ls) S) fun x hx=>bn9 fun z=>ex ⟨x,hx,z⟩
  omega
theorem zJ (hS:bE n S=true):S.Nodup:=(gC (eB hS).1).imp fun h=>bu3 h
theorem zK (hS:bE n S=true):∀ ls:List (Int × Int),S.length<=(aX ls S).length+(ls.filter (gD S)).length
 | []=>by
  refine bm6 (eV (zJ hS) (m:=aX [] S) fun x hx=>qS hS hx (U:=[x]) (fun a _ b hb _=>?_) bi9 fun y hy _=>?_) (br0 _ _)
  ·rcases L2.cQ.mp hb with e | e <;> cases e
  ·rw [bi3.mp hy]; exact Int.le_refl _
 | l :: ls=>by
  have ih:=zK hS ls
  have:=aV1 (ls:=ls) (l:=l) hS
  rw [bs3]
  split <;> rename_i e
  ·rw [if_pos e] at this; rw [bk9]; omega
  ·rw [if_neg e] at this; omega
noncomputable def fE (ls:List (Int × Int)) (l:Int × Int):List (Int × Int):=ls.filter fun m=>!decide (m=l)
theorem lA {m:Int × Int}:m ∈ fE ls l ↔ m ∈ ls/\m ≠ l:=by
 unfold fE; rw [bj6,Bool.not_eq_true',bt6]
theorem ac3:∀ {ls:List (Int × Int)},l ∈ ls->ls.Nodup->(fE ls l).length+1<=ls.length
 | m :: r,hl,nd=>by
  unfold fE
  rw [bs3]
  rcases bj1.mp hl with e | e
  ·subst e
   rw [bi6 rfl]
   have:=bn7 (fun m=>!decide (m=l)) r
   simp only [bk9,Bool.not_true,bl5,bp9]
   omega
  ·have ih:=ac3 e (bo2.mp nd).2
   unfold fE at ih
   split
   ·rw [bk9,bk9]; omega
   ·rw [bk9]; omega
theorem aV2 (t:l.1 ∈ U ↔ l.2 ∈ U) (c:eC (fE ls l) S U):eC ls S U:=fun x hx y hy yS=>by
 by_cases e:l=(x,y)
 ·rw [e] at t; exact t.mp hx
 ·by_cases e2:l=(y,x)
  ·rw [e2] at t; exact t.mpr hx
  ·refine c x hx y ?_ yS
   rcases L2.cQ.mp hy with z | z
   ·exact L2.cQ.mpr (.inl (lA.mpr ⟨z,fun q=>e q.symm⟩))
   ·exact L2.cQ.mpr (.inr (lA.mpr ⟨z,fun q=>e2 q.symm⟩))
theorem zL (c:eC ls S U):eC (fE ls l) S U:=fun x hx y hy yS=>by
 refine c x hx y ?_ yS
 rcases L2.cQ.mp hy with z | z
 ·exact L2.cQ.mpr (.inl (lA.mp z).1)
 ·exact L2.cQ.mpr (.inr (lA.mp z).1)
theorem aV3 (t:∀ U,eC (fE ls l) S U->(l.1 ∈ U ↔ l.2 ∈ U)):aX (fE ls l) S=aX ls S:=by
 have e:∀ h,comp (fE ls l) S h=comp ls S h:=fun h=>by
  refine List.filter_congr fun x _=>?_
  rw [bp8]
  constructor
  ·intro z; exact @bi6 _ (Classical.propDecidable _) fun U hU hh=>(@bn0 _ (Classical.propDecidable _) z) U (zL hU) hh
  ·intro z; exact @bi6 _ (Classical.propDecidable _) fun U hU hh=>(@bn0 _ (Classical.propDecidable _) z) U (aV2 (t U hU) hU) hh
 unfold aX qP
 refine List.filter_congr fun x _=>?_
 rw [e]
noncomputable def bL (n:Nat) (ls:List (Int × Int)):Prop:=ls.length+(aX ls (rng n)).length=n
theorem jD (n:Nat):bE n (rng n)=true:=by
 have:=aO5 n fun _=>true
 rwa [List.filter_eq_self.mpr fun _ _=>rfl] at this
theorem ac4 (w:bL n ls) (nd:ls.Nodup) (hl:l ∈ ls) : ¬ ∀ U,eC (fE ls l) (rng n) U->(l.1 ∈ U ↔ l.2 ∈ U):=fun t=>by
 have h1:=zK (jD n) (fE ls l)
 rw [aV3 t,dM] at h1
 have h2:=bn7 (gD (rng n)) (fE ls l)
 have h3:=ac3 hl nd
 unfold bL at w
 omega
end
noncomputable abbrev bO:=List (Int × Option Int)
noncomputable def aW (ls:List (Int × Int)) (h:Int) (e:Option Int):List Int:=(aN ls h).filter fun x=>!decide (some x=e)
theorem gY {ls:List (Int × Int)}{h x:Int}{e:Option Int}:x ∈ aW ls h e ↔ x ∈ aN ls h/\some x ≠ e:=by
 unfold aW; rw [bj6,Bool.not_eq_true',bt6]
structure gE (n:Nat) (ls:List (Int × Int)) (P:bO) (t:Nat):Prop where
 nd:(P.map (·.1)).Nodup
 inn:∀ p ∈ P,p.1 ∈ rng n
 par:∀ (i:Nat) (h e:Int),P[i]? = some (h,some e)->∃ (j:Nat) (q:Option Int),j < i/\j < t/\P[j]? = some (e,q)/\e ∈ aN ls h
 done:∀ (i:Nat) (h:Int) (e:Option Int),i < t->P[i]? = some (h,e)->∀ x ∈ aN ls h,e=some x ∨ (x,some h) ∈ P
 root:∀ h,(h,none) ∈ P ↔ h ∈ aX ls (rng n)
structure Rt0 (n:Nat) (ls:List (Int × Int)) (P:bO):Prop where
 nd:(P.map (·.1)).Nodup
 mem:∀ h,h ∈ P.map (·.1) ↔ h ∈ rng n
 par:∀ (i:Nat) (h e:Int),P[i]? = some (h,some e)->∃ (j:Nat) (q:Option Int),j < i/\P[j]? = some (e,q)/\e ∈ aN ls h
 done:∀ h e,(h,e) ∈ P->∀ x ∈ aN ls h,e=some x ∨ (x,some h) ∈ P
structure Rt (n:Nat) (ls:List (Int × Int)) (P:bO):Prop extends Rt0 n ls P where
 root:∀ h,(h,none) ∈ P ↔ h ∈ aX ls (rng n)
theorem fR {P:bO} (nd:(P.map (·.1)).Nodup) {i j:Nat}{h:Int}{e e':Option Int} (hi:P[i]? = some (h,e)) (hj:P[j]? = some (h,e')):i=j/\e=e':=by
 have h1:(P.map (·.1))[i]? = some h:=by rw [bj2,hi]; rfl
 have h2:(P.map (·.1))[j]? = some h:=by rw [bj2,hj]; rfl
 have hl:i < (P.map (·.1)).length:=(bi5.mp h1).1
 have e0:i=j:=(List.getElem?_inj hl nd).mp (h1.trans h2.symm)
 subst e0
 rw [hi] at hj
 exact⟨rfl,by cases hj; rfl⟩
theorem eG {P:bO}{p:Int × Option Int} (h:p ∈ P):∃ i:Nat,P[i]? = some p:=br3.mp h
theorem mD {P:bO} (nd:(P.map (·.1)).Nodup) {h:Int}{e e':Option Int} (hi:(h,e) ∈ P) (hj:(h,e') ∈ P):e=e':=by
 obtain ⟨i,hi⟩:=eG hi
 obtain ⟨j,hj⟩:=eG hj
 exact (fR nd hi hj).2
section
variable {n : Nat} {ls : List (Int × Int)} {P : bO} {t : Nat}
theorem gE.root_of (B:gE n ls P t) {l:Int × Int} (lm:∀ (i:Nat) (h e:Int),P[i]? = some (h,some e)->l ≠ (h,e)/\l ≠ (e,h)):∀ (i:Nat) (x:Int) (q:Option Int),P[i]? = some (x,q)->∃ r,r ∈ aX ls (rng n)/\∀ U,eC (fE ls l) (rng n) U->(x ∈ U ↔ r ∈ U):=by
 intro i
 induction i using Nat.strongRecOn with
 | ind i ih=>
  intro x q hi
  cases q with
  | none=>exact⟨x,(B.root x).mp (bi0 hi),fun _ _=>Iff.rfl⟩
  | some e=>
   obtain ⟨j,q,ji,_,hj,ee⟩:=B.par i x e hi
   obtain ⟨r,hr,hu⟩:=ih j ji e q hj
   obtain ⟨l1,l2⟩:=lm i x e hi
   have en:e ∈ aN (fE ls l) x:=by
    rcases L2.cQ.mp ee with z | z
    ·exact L2.cQ.mpr (.inl (lA.mpr ⟨z,fun q=>l1 q.symm⟩))
    ·exact L2.cQ.mpr (.inr (lA.mpr ⟨z,fun q=>l2 q.symm⟩))
   refine⟨r,hr,fun U hU=>(Iff.intro (fun z=>hU x z e en (B.inn _ (bi0 hj))) fun z=>hU e z x (jP en) (B.inn _ (bi0 hi))).trans (hu U hU)⟩
theorem gE.fresh (B:gE n ls P t) (w:bL n ls) (f:dB ls) {h:Int}{e:Option Int} (ht:P[t]? = some (h,e)) {c:Int} (hc:c ∈ aW ls h e):c ∉ P.map (·.1):=by
 intro hin
 obtain ⟨cn,ce⟩:=gY.mp hc
 obtain ⟨⟨c',q⟩,hm,rfl⟩:=bj8.mp hin
 obtain ⟨i,hi⟩:=eG hm
 have hc':h ∈ aN ls c':=jP cn
 have no1:∀ (i:Nat) (g:Int),P[i]? = some (g,some c')->g ≠ h:=fun i g hg z=>by
  subst z
  exact ce (fR B.nd hg ht).2
 have no2:∀ (i:Nat) (g:Int),P[i]? = some (g,some h)->g ≠ c':=fun i g hg z=>by
  obtain ⟨j,q,_,jt,hj,_⟩:=B.par i g h hg
  have:=(fR B.nd hj ht).1
  omega
 obtain ⟨l,hl,hlc⟩:∃ l,l ∈ ls/\(l=(h,c') ∨ l=(c',h)):=by
  rcases L2.cQ.mp cn with z | z
  ·exact⟨_,z,.inl rfl⟩
  ·exact⟨_,z,.inr rfl⟩
 have lm:∀ (i:Nat) (g e:Int),P[i]? = some (g,some e)->l ≠ (g,e)/\l ≠ (e,g):=fun i g e hg=>by
  constructor <;> intro z <;> rcases hlc with y | y <;> rw [z] at y <;> cases y
  ·exact no1 i _ hg rfl
  ·exact no2 i _ hg rfl
  ·exact no2 i _ hg rfl
  ·exact no1 i _ hg rfl
 obtain ⟨r1,hr1,u1⟩:=B.root_of lm i c' q hi
 obtain ⟨r2,hr2,u2⟩:=B.root_of lm t h e ht
 have hS:=jD n
 have hh:h ∈ rng n:=B.inn _ (bi0 ht)
 have cc:c' ∈ comp ls (rng n) h:=iC h (fQ hh) c' cn (B.inn _ hm)
 have k1:=(u1 _ (zL iC)).mp cc
 have k2:=(u2 _ (zL (iC (ls:=ls) (S:=rng n) (h:=h)))).mp (fQ hh)
 have e1:r1=r2:=by
  have c1:=kE hS k1 hh
  have c2:=kE hS k2 hh
  refine uA hS hr1 hr2 (z:=r1) (fQ (eF.mp hr1).1) ?_
  rw [c2]; exact k1
 refine ac4 w (aU2 f.ord) hl fun U hU=>?_
 have:=(u1 U hU).trans ((by rw [e1]:r1 ∈ U ↔ r2 ∈ U).trans (u2 U hU).symm)
 rcases hlc with y | y <;> rw [y]
 ·exact this.symm
 ·exact this
theorem gE.step (B:gE n ls P t) (w:bL n ls) (f:dB ls) (ir:∀ h x,x ∈ aN ls h->x ∈ rng n) {h:Int}{e:Option Int} (ht:P[t]? = some (h,e)):gE n ls (P ++ (aW ls h e).map fun c=>(c,some h)) (t+1):=by
 have tl:t < P.length:=(bi5.mp ht).1
 have km:∀ p ∈ (aW ls h e).map (fun c=>(c,some h)),∃ c ∈ aW ls h e,p=(c,some h):=fun p hp=>let ⟨c,h1,h2⟩:=bj8.mp hp; ⟨c,h1,h2.symm⟩
 refine⟨?_,fun p hp=>?_,fun i g e' hi=>?_,fun i g e' it hi x hx=>?_,fun g=>?_⟩
 ·rw [bk2,bm7,br4]
  have e0:(aW ls h e).map ((fun p:Int × Option Int=>p.1) ∘ fun c=>(c,some h))=aW ls h e:=List.map_id'' (fun _=>rfl) _
  rw [e0]
  exact⟨B.nd,(f.nnd h).filter _,fun a ha b hb z=>B.fresh w f ht hb (by rw [<- z]; exact ha)⟩
 ·rcases bi7.mp hp with z | z
  ·exact B.inn p z
  ·obtain ⟨c,hc,rfl⟩:=km p z
   exact ir h c (gY.mp hc).1
 ·by_cases il:i < P.length
  ·rw [bl8 il] at hi
   obtain ⟨j,q,ji,jt,hj,en⟩:=B.par i g e' hi
   exact⟨j,q,ji,by omega,by rw [bl8 (by omega)]; exact hj,en⟩
  ·rw [bt8 (by omega)] at hi
   obtain ⟨c,hc,z⟩:=km _ (bi0 hi)
   cases z
   exact⟨t,e,by omega,by omega,by rw [bl8 tl]; exact ht,jP (gY.mp hc).1⟩
 ·rw [bl8 (by omega)] at hi
  by_cases e1:i=t
  ·subst e1
   rw [ht] at hi
   cases hi
   by_cases z:some x=e
   ·exact .inl z.symm
   ·exact .inr (bi7.mpr (.inr (bj8.mpr ⟨x,gY.mpr ⟨hx,z⟩,rfl⟩)))
  ·exact (B.done i g e' (by omega) hi x hx).imp id fun z=>bi7.mpr (.inl z)
 ·rw [<- B.root g]
  refine⟨fun z=>?_,fun z=>bi7.mpr (.inl z)⟩
  rcases bi7.mp z with z | z
  ·exact z
  ·obtain ⟨c,_,z⟩:=km _ z
   cases z
theorem gE.start:gE n ls ((aX ls (rng n)).map fun h=>(h,none)) 0:=by
 have hS:=jD n
 refine⟨?_,fun p hp=>?_,fun i g e hi=>?_,fun i g e it=>absurd it (by omega),fun g=>?_⟩
 ·rw [bm7,show (aX ls (rng n)).map ((fun p:Int × Option Int=>p.1) ∘ fun h=>(h,none))=aX ls (rng n) from List.map_id'' (fun _=>rfl) _]
  exact u9 hS
 ·obtain ⟨h,hh,rfl⟩:=bj8.mp hp
  exact (eF.mp hh).1
 ·obtain ⟨h,_,z⟩:=bj8.mp (bi0 hi)
  cases z
 ·refine⟨fun z=>?_,fun z=>bj8.mpr ⟨g,z,rfl⟩⟩
  obtain ⟨h,hh,z⟩:=bj8.mp z
  cases z
  exact hh
theorem gE.len (B:gE n ls P t):P.length<=n:=by
 have:=eV B.nd (m:=rng n) fun x hx=>by
  obtain ⟨p,hp,rfl⟩:=bj8.mp hx
  exact B.inn p hp
 rwa [bi4,dM] at this
theorem gE.all (B:gE n ls P P.length):Rt n ls P:=by
 have hS:=jD n
 have par:∀ (i:Nat) (h e:Int),P[i]? = some (h,some e)->∃ (j:Nat) (q:Option Int),j < i/\P[j]? = some (e,q)/\e ∈ aN ls h:=fun i h e hi=>let ⟨j,q,a,_,b,c⟩:=B.par i h e hi; ⟨j,q,a,b,c⟩
 have done:∀ (h:Int) (e:Option Int),(h,e) ∈ P->∀ x ∈ aN ls h,e=some x ∨ (x,some h) ∈ P:=fun h e hm=>by
  obtain ⟨i,hi⟩:=eG hm
  exact B.done i h e (bi5.mp hi).1 hi
 refine⟨⟨B.nd,fun h=>⟨fun z=>?_,fun z=>?_⟩,par,done⟩,B.root⟩
 ·obtain ⟨p,hp,rfl⟩:=bj8.mp z
  exact B.inn p hp
 ·have sh:eC ls (rng n) (P.map (·.1)):=fun x hx y hy _=>by
   obtain ⟨⟨x',e⟩,hp,rfl⟩:=bj8.mp hx
   rcases done x' e hp y hy with z | z
   ·subst z
    obtain ⟨i,hi⟩:=eG hp
    obtain ⟨j,q,_,hj,_⟩:=par i x' y hi
    exact bj8.mpr ⟨_,bi0 hj,rfl⟩
   ·exact bj8.mpr ⟨_,z,rfl⟩
  obtain ⟨r,hr⟩:∃ r,(comp ls (rng n) h).head? = some r:=by
   cases e:comp ls (rng n) h with
   | nil=>have:=fQ (ls:=ls) z; rw [e] at this; cases this
   | cons a r=>exact⟨a,rfl⟩
  have rm:=(jC (gM hS) hr).1
  have rs:=kE hS rm z
  have hd:r ∈ aX ls (rng n):=eF.mpr ⟨qO _ rm,by rw [rs]; exact hr⟩
  have hc:h ∈ comp ls (rng n) r:=by rw [rs]; exact fQ z
  exact (gL.mp hc).2 _ sh (bj8.mpr ⟨_,(B.root r).mpr hd,rfl⟩)
end
theorem c7.inr {n:Nat}{ls:List (Int × Int)} (lk:c7 n ls) (x y:Int) (hy:y ∈ aN ls x):y ∈ rng n:=by
 rcases L2.cQ.mp hy with z | z
 ·have:=lk.1 _ z; exact bY.mpr ⟨by dsimp only at this; omega,by dsimp only at this; omega⟩
 ·have:=lk.1 _ z; exact bY.mpr ⟨by dsimp only at this; omega,by dsimp only at this; omega⟩
theorem c7.nlen {n:Nat}{ls:List (Int × Int)} (lk:c7 n ls) (x:Int):(aN ls x).length<=n:=by
 have:=eV (lk.fit.nnd x) (m:=rng n) fun y hy=>lk.inr x y hy
 rwa [dM] at this
noncomputable def uB:bK:=fun xs Q=>∃ ws ls,xs = [b6 ws ls]/\Wb ws ls/\(bL ws.length ls->Q (.bl true))/\(¬ bL ws.length ls->Q (.bl false))
noncomputable def ac5:aK:=(bN (jW (aB dH (a6 (bA (a5 0) (qC (.int 1))) a9)) (jV (aB gW (a6 (a5 0) a9)) (aB dH (a6 (aB oB (a6 (a5 0) a9)) a9)))))
theorem aV4:cI ac5 ["web"] uB:=by
 rintro xs Q ⟨ws,ls,rfl,wb,q1,q2⟩
 refine⟨_,rfl,_,_,_,rfl,rfl,rfl,_,_,rfl,rfl,_,rfl,ws,ls,rfl,_,rfl,ws,ls,rfl,wb,_,_,rfl,rfl,_,_,rfl,rfl,.inl ⟨_,_,rfl,rfl,trivial,?_⟩⟩
 have a:(aV ls).length=ls.length:=bi4 _
 have b:(tups (iS ls (rng ws.length))).length=(aX ls (rng ws.length)).length:=by rw [tG]; unfold iS; rw [bi4]
 show Q (.bl (decide (((aV ls).length:Int)=(ws.length:Int) - ((tups (iS ls (rng ws.length))).length:Int))))
 rw [a,b]
 by_cases w:bL ws.length ls
 ·have:=q1 w
  unfold bL at w
  rw [bi6 (by omega)]; exact this
 ·have:=q2 w
  unfold bL at w
  rw [bj5 (by omega)]; exact this
noncomputable def lB:bK:=fun xs Q=>∃ (n:Nat) (ls:List (Int × Int)) (h:Int) (e:Option Int),xs = [.lst (bT n ls),.int h,fP e]/\0<=h/\h < (n:Int)/\(aN ls h).length<=1000/\Q (.lst (intz (aW ls h e)))
noncomputable def ac6:aK:=(bN (cZ (cR (bA (a5 0) (a5 1))) [none,some 2] (bX 0) (bD (q2 yW (a5 0) (a5 1))) (a5 0)))
theorem aV5:cI ac6 ["around","hearth","elder"] lB:=by
 rintro xs Q ⟨n,ls,h,e,rfl,h0,h1,hl,q⟩
 refine⟨_,rfl,_,rfl,_,_,_,rfl,rfl,tF h0 h1,intz (aN ls h),rfl,(fun z=>by cases z),by rw [b8]; omega,fun i acc=>acc=intz (((aN ls h).take i).filter fun x=>!decide (some x=e)),rfl,?_,?_⟩
 ·rintro i y acc hy rfl
  obtain ⟨x,rfl,hx⟩:=gV hy
  have tk:=qD (p:=fun x=>!decide (some x=e)) hx
  refine⟨_,rfl,_,rfl,x,e,rfl,rfl,_,rfl,?_⟩
  by_cases z:some x=e
  ·rw [bi6 z.symm]
   refine bF ?_
   dsimp only
   rw [tk,bi6 z]; exact (bp1 _).symm ▸ rfl
  ·rw [bj5 fun y=>z y.symm]
   refine bJ ⟨_,rfl,trivial,?_⟩
   dsimp only
   rw [tk,bj5 z,eN]; rfl
 ·rintro acc rfl
  rw [b8,bl6 (bi8 _)]
  exact⟨trivial,q⟩
noncomputable def uC (p:Int × Option Int):PV:=.tup [.int p.1,fP p.2]
noncomputable def dN (P:bO):List PV:=P.map uC
theorem lC (P:bO):(dN P).length=P.length:=bi4 _
theorem ac7 {P:bO}{i:Nat}{p:Int × Option Int} (h:P[i]? = some p):L2.atI (dN P) (i:Int)=some (uC p):=jI (by unfold dN; rw [bj2,h]; rfl)
noncomputable def ac8:aK:=(lT (bD (nI (a5 3) (aB dH (a6 (a5 2) a9))))
  (aE (b4 4 (bA (bA (a5 2) (a5 3)) (qC (.int 0))))
  (aE (wS 2 (cZ (cR (aB lB (a6 (a5 1) (a6 (a5 4) (a6 (bA (bA (a5 2) (a5 3)) (qC (.int 1))) a9))))) [none,some 4] (bX 0) dA (eZ (a6 (a5 0) (a6 (a5 1) a9)))))
  (b4 3 (cB (a5 3) (qC (.int 1)))))))
section
variable {ws : List Int} {ls : List (Int × Int)} {E : g6} {s0 : Option Slot} {n : Nat}
theorem ac9 (P:bO):flats (dN P)=true:=by
 induction P with
 | nil=>rfl
 | cons p P ih=>
  show (flat (uC p) && flats (dN P))=true
  rw [ih,Bool.and_true]
  obtain ⟨h,e⟩:=p
  cases e <;> rfl
theorem aV6 (n40:n<=40) (lk:c7 n ls) (w:bL n ls) (k:∀ P y3 y4,Rt n ls P->E.nx [s0,some (.sh true (.lst (bT n ls))),some (.own (.lst (dN P))),y3,y4]) {y4:Option Slot} :
  ac8 E [s0,some (.sh true (.lst (bT n ls))),some (.own (.lst (dN ((aX ls (rng n)).map fun h=>(h,none))))),si 0,y4]:=by
 refine⟨fun m ρ=>∃ (P:bO) (t:Nat) (y4:Option Slot),ρ = [s0,some (.sh true (.lst (bT n ls))),some (.own (.lst (dN P))),si t,y4]/\gE n ls P t/\t<=P.length/\m=n - t,⟨_,_,0,y4,rfl,gE.start,bm9 _,rfl⟩,?_⟩
 rintro m ρ ⟨P,t,y4,rfl,B,tl,rfl⟩
 have pl:=B.len
 refine⟨_,rfl,_,rfl,_,_,rfl,rfl,_,_,rfl,rfl,_,rfl,?_⟩
 rw [lC]
 by_cases lt:t < P.length
 ·rw [bi6 (by omega)]
  obtain ⟨⟨h,e⟩,ht⟩:∃ p,P[t]? = some p:=⟨_,bi2 lt⟩
  have hr:=bY.mp (B.inn _ (bi0 ht))
  dsimp only at hr
  have nl:=lk.nlen h
  refine bJ ⟨_,rfl,_,rfl,_,_,_,rfl,rfl,ac7 ht,_,_,_,rfl,rfl,rfl,rfl,?_⟩
  refine⟨dN P,rfl,_,rfl,_,rfl,_,rfl,_,rfl,_,_,_,rfl,rfl,ac7 ht,_,_,_,rfl,rfl,rfl,n,ls,h,e,rfl,hr.1,hr.2,by omega,intz (aW ls h e),rfl,(fun z=>by cases z),?_,fun i acc=>acc=dN (((aW ls h e).take i).map fun c=>(c,some h)),rfl,?_,?_⟩
  ·rw [b8]; have:=bn7 (fun x=>!decide (some x=e)) (aN ls h); unfold aW; omega
  ·rintro i y acc hy rfl
   obtain ⟨c,rfl,hc⟩:=gV hy
   refine⟨_,rfl,_,rfl,by show 2<=1000; decide,rfl,trivial,?_⟩
   dsimp only
   rw [bm4,hc,bk2]
   unfold dN
   rw [bk2]
   rfl
  ·rintro acc rfl
   rw [b8,bl6 (bi8 _)]
   have kl:(aW ls h e).length<=n:=by have:=bn7 (fun x=>!decide (some x=e)) (aN ls h); unfold aW; omega
   refine⟨_,.inr rfl,.inr (ac9 _),by rw [lC,lC,bi4]; omega,_,rfl,_,_,rfl,rfl,trivial,n - (t+1),by omega,P ++ (aW ls h e).map (fun c=>(c,some h)),t+1,si h,?_,B.step w lk.fit (fun h x=>lk.inr h x) ht,by rw [bj4]; omega,rfl⟩
   unfold dN
   rw [<- bk2]
   rfl
 ·rw [bj5 (by omega)]
  have:t=P.length:=by omega
  subst this
  exact bF (k P _ _ B.all)
end
structure TL (k:Nat) (lks:List (Int × Int)):Prop where
 inn:∀ l ∈ lks,0<=l.1/\l.1 < l.2/\l.2 < (k:Int)
 nd:(lks.map (·.2)).Nodup
 few:lks.length<=k
theorem TL.same {k:Nat}{lks:List (Int × Int)} (h:TL k lks):TL (k+1) lks:=⟨fun l hl=>by have:=h.inn l hl; omega,h.nd,by have:=h.few; omega⟩
theorem TL.app {k:Nat}{lks:List (Int × Int)} (h:TL k lks) {e:Int} (e0:0<=e) (e1:e < (k:Int)):TL (k+1) (lks ++ [(e,(k:Int))]):=by
 refine⟨fun l hl=>?_,?_,by rw [bj4,bm8]; have:=h.few; omega⟩
 ·rcases bi7.mp hl with z | z
  ·have:=h.inn l z; omega
  ·rw [bi3.mp z]; dsimp only; omega
 ·rw [bk2,br4]
  refine⟨h.nd,bl7 _ _,fun a ha b hb e=>?_⟩
  obtain ⟨l,hl,rfl⟩:=bj8.mp ha
  rw [List.map_singleton,bi3] at hb
  have:=h.inn l hl
  omega
theorem TL.snd {k:Nat}{lks:List (Int × Int)} (h:TL k lks) {a b c:Int} (ha:(a,c) ∈ lks) (hb:(b,c) ∈ lks):a=b:=by
 obtain ⟨i,hi⟩:=br3.mp ha
 obtain ⟨j,hj⟩:=br3.mp hb
 have h1:(lks.map (·.2))[i]? = some c:=by rw [bj2,hi]; rfl
 have h2:(lks.map (·.2))[j]? = some c:=by rw [bj2,hj]; rfl
 have:=(List.getElem?_inj (bi5.mp h1).1 h.nd).mp (h1.trans h2.symm)
 subst this
 rw [hi] at hj
 exact (Prod.mk.inj (bl2 hj)).1
theorem TL.ndl {k:Nat}{lks:List (Int × Int)} (h:TL k lks):lks.Nodup:=(bo3.mp h.nd).imp fun z e=>z (by rw [e])
structure Pl (m:Nat) (p:Int->Int):Prop where
 inn:∀ i,0<=i->i < (m:Int)->0<=p i/\p i < (m:Int)
 inj:∀ i j,0<=i->i < (m:Int)->0<=j->j < (m:Int)->p i=p j->i=j
 onto:∀ x,x ∈ rng m->∃ i,0<=i/\i < (m:Int)/\p i=x
noncomputable def fS (p:Int->Int) (l:Int × Int):Int × Int:=(min (p l.1) (p l.2),max (p l.1) (p l.2))
theorem aV7 {m:Nat}{p:Int->Int}{lks:List (Int × Int)} (P:Pl m p) (T:TL m lks):∀ l ∈ lks.map (fS p),0<=l.1/\l.1 < l.2/\l.2 < (m:Int):=by
 intro l0 hl0
 obtain ⟨l,hl,rfl⟩:=bj8.mp hl0
 have h:=T.inn l hl
 have a:=P.inn l.1 (by omega) (by omega)
 have b:=P.inn l.2 (by omega) (by omega)
 have c:p l.1 ≠ p l.2:=fun e=>by have:=P.inj _ _ (by omega) (by omega) (by omega) (by omega) e; omega
 unfold fS
 dsimp only
 omega
theorem zM {p:Int->Int}{l:Int × Int}{x y:Int} (e:fS p l=(x,y) ∨ fS p l=(y,x)):(p l.1=x/\p l.2=y) ∨ (p l.1=y/\p l.2=x):=by
 unfold fS at e
 rcases e with e | e <;> (have e1:=(Prod.mk.inj e).1; have e2:=(Prod.mk.inj e).2; omega)
theorem aV8 {m:Nat}{p:Int->Int}{lks:List (Int × Int)} (P:Pl m p) (T:TL m lks):(lks.map (fS p)).Nodup:=by
 refine bo3.mpr (T.ndl.imp_of_mem fun {a b} ha hb hab e=>hab ?_)
 have h1:=T.inn a ha
 have h2:=T.inn b hb
 rcases zM (x:=(fS p b).1) (y:=(fS p b).2) (.inl e) with ⟨c,d⟩ | ⟨c,d⟩ <;> rcases zM (p:=p) (l:=b) (x:=(fS p b).1) (y:=(fS p b).2) (.inl rfl) with ⟨c',d'⟩ | ⟨c',d'⟩
 ·exact Prod.ext (P.inj _ _ (by omega) (by omega) (by omega) (by omega) (c.trans c'.symm)) (P.inj _ _ (by omega) (by omega) (by omega) (by omega) (d.trans d'.symm))
 ·have e1:=P.inj a.1 b.2 (by omega) (by omega) (by omega) (by omega) (c.trans d'.symm)
  have e2:=P.inj a.2 b.1 (by omega) (by omega) (by omega) (by omega) (d.trans c'.symm)
  omega
 ·have e1:=P.inj a.1 b.2 (by omega) (by omega) (by omega) (by omega) (c.trans d'.symm)
  have e2:=P.inj a.2 b.1 (by omega) (by omega) (by omega) (by omega) (d.trans c'.symm)
  omega
 ·exact Prod.ext (P.inj _ _ (by omega) (by omega) (by omega) (by omega) (c.trans c'.symm)) (P.inj _ _ (by omega) (by omega) (by omega) (by omega) (d.trans d'.symm))
theorem ad0 {f:Int->Int->Prop}:∀ {U:List Int},U ≠ []->(∀ x ∈ U,∃ i,f x i)->∃ x ∈ U,∃ i,f x i/\∀ y ∈ U,∃ j,f y j/\j<=i
 | [x],_,h=>by
  obtain ⟨i,hi⟩:=h x bi9
  exact⟨x,bi9,i,hi,fun y hy=>by rw [bi3.mp hy]; exact⟨i,hi,Int.le_refl _⟩⟩
 | x :: z :: r,_,h=>by
  obtain ⟨i,hi⟩:=h x bi9
  obtain ⟨y,hy,j,hj,m⟩:=ad0 (U:=z :: r) (by simp) fun y hy=>h y (bj7 _ hy)
  by_cases le:i<=j
  ·refine⟨y,bj7 _ hy,j,hj,fun w hw=>?_⟩
   rcases bj1.mp hw with e | e
   ·rw [e]; exact⟨i,hi,le⟩
   ·exact m w e
  ·refine⟨x,bi9,i,hi,fun w hw=>?_⟩
   rcases bj1.mp hw with e | e
   ·rw [e]; exact⟨i,hi,Int.le_refl _⟩
   ·obtain ⟨k,hk,kl⟩:=m w e; exact⟨k,hk,by omega⟩
theorem aV9 {m:Nat}{p:Int->Int}{lks ls:List (Int × Int)} (P:Pl m p) (T:TL m lks) (pm:ls.Perm (lks.map (fS p))) (f:dB ls):zE ls (rng m):=by
 intro U two sub
 refine bn9 fun ne=>?_
 obtain ⟨x,hx,i,⟨i0,i1,hi⟩,mx⟩:=ad0 (f:=fun x i=>0<=i/\i < (m:Int)/\p i=x) ne fun x hx=>P.onto x (sub x hx)
 obtain ⟨a,b,na,nb,ua,ub,ab⟩:=aU5 (f.nnd x) (two x hx)
 have up:∀ y,y ∈ aN ls x->y ∈ U->∃ j,(j,i) ∈ lks/\p j=y:=fun y hy hu=>by
  obtain ⟨j,⟨j0,j1,hj⟩,ji⟩:=mx y hu
  obtain ⟨l,hl,e⟩:∃ l ∈ lks,fS p l=(x,y) ∨ fS p l=(y,x):=by
   rcases L2.cQ.mp hy with z | z
   ·obtain ⟨l,hl,e⟩:=bj8.mp (pm.mem_iff.mp z); exact⟨l,hl,.inl e⟩
   ·obtain ⟨l,hl,e⟩:=bj8.mp (pm.mem_iff.mp z); exact⟨l,hl,.inr e⟩
  have h:=T.inn l hl
  rcases zM e with ⟨c,d⟩ | ⟨c,d⟩
  ·have e1:=P.inj l.1 i (by omega) (by omega) i0 i1 (c.trans hi.symm)
   have e2:=P.inj l.2 j (by omega) (by omega) j0 j1 (d.trans hj.symm)
   omega
  ·have e1:=P.inj l.2 i (by omega) (by omega) i0 i1 (d.trans hi.symm)
   exact⟨l.1,by rw [<- e1]; exact hl,c⟩
 obtain ⟨j,hj,ej⟩:=up a na ua
 obtain ⟨k,hk,ek⟩:=up b nb ub
 exact ab (by rw [<- ej,<- ek,T.snd hj hk])
theorem aW0 {n:Nat}{ls:List (Int × Int)} (lk:c7 n ls) (no:zE ls (rng n)):bL n ls:=by
 have h1:=zG lk.fit n (rng n) (by rw [dM]; exact bi8 _) (jD n) no
 have h2:=zK (jD n) ls
 have e:ls.filter (gD (rng n))=ls:=List.filter_eq_self.mpr fun l hl=>by
  have:=lk.1 l hl
  unfold gD
  rw [bi6 (bY.mpr ⟨by omega,by omega⟩),bi6 (bY.mpr ⟨by omega,by omega⟩)]; rfl
 unfold mu at h1
 rw [e,dM] at h1
 rw [e,dM] at h2
 unfold bL
 omega
noncomputable def uD:bK:=fun xs Q=>∃ (ns:List Int) (m:Nat) (dg:Bool),xs = [.scr ns,.int m,.bl dg]/\ns.length<=63/\m<=40/\∀ ps:List Int,ps.Perm (rng m)->Q (.lst (intz ps))
noncomputable def ad1:aK:=(aE (b4 6 (aB kF (a6 (aB fC (a6 (a5 0) (a6 (qC (.int 3)) a9))) (a6 (cB (a5 5) (qC (.int 5))) a9))))
   (aE (cD (jT (a5 2)) (aE (b4 6 (a5 4))
    (b4 4 (i9 (a5 4) (cB (a5 5) (qC (.int 1)))))) cH)
   (tS 3 (cE (a5 6) (cB (a5 5) (qC (.int 1)))) (a5 5))))
noncomputable def ad2:aK:=(aE (dR 3 (xQ (a5 1)))
 (aE (b4 4 (aB fC (a6 (a5 0) (a6 (qC (.int 3)) a9))))
 (aE (cD (bD (jW (cE (i9 (aB fC (a6 (a5 0) (a6 (qC (.int 1)) a9))) (qC (.int 3))) (qC (.int 2))) (qC (.int 1)))) (aE (dR 3 (dQ a9))
  (dS (j5 (a5 1)) (bX 5)
   ad1)) cH)
 (j4 3))))
theorem aW1 {ns:List Int}{s1 y6:Option Slot}{dg:Bool}{ps:List Int}{nb:Int}{k:Nat}{E:g6} (k40:k < 40) (hp:ps.Perm (rng k))
  (nx:∀ (ps:List Int) (nb:Int) (y6:Option Slot),ps.Perm (rng (k+1))->E.nx [some (.sh true (.scr ns)),s1,some (.sh true (.bl dg)),some (.own (.lst (intz ps))),si nb,si k,y6]) :
  ad1 E [some (.sh true (.scr ns)),s1,some (.sh true (.bl dg)),some (.own (.lst (intz ps))),si nb,si k,y6]:=by
 have pl:=hp.length_eq
 rw [dM] at pl
 have fin:∀ (sp nb:Int),(tS 3 (cE (a5 6) (cB (a5 5) (qC (.int 1)))) (a5 5)) E [some (.sh true (.scr ns)),s1,some (.sh true (.bl dg)),some (.own (.lst (intz ps))),si nb,si k,si sp]:=fun sp nb=>by
  have h0:=bo4 sp (show (k:Int)+1 ≠ 0 by omega)
  have h1:=bu6 sp (show (0:Int) < (k:Int)+1 by omega)
  refine⟨intz ps,rfl,_,rfl,_,rfl,_,_,rfl,rfl,_,_,rfl,rfl,by show (0:Int) < (k:Int)+1; omega,(sp % ((k:Int)+1)).toNat,by show PV.int (sp % ((k:Int)+1))=_; rw [Int.toNat_of_nonneg h0],by rw [b8]; omega,by rw [b8]; omega,_,rfl,trivial,?_⟩
  have e:(intz ps).take (sp % ((k:Int)+1)).toNat ++ PV.int k :: (intz ps).drop (sp % ((k:Int)+1)).toNat=intz (ps.take (sp % ((k:Int)+1)).toNat ++ (k:Int) :: ps.drop (sp % ((k:Int)+1)).toNat):=by
   unfold intz; rw [bk2,List.map_take,bm0,List.map_drop]
  have:=nx (ps.take (sp % ((k:Int)+1)).toNat ++ (k:Int) :: ps.drop (sp % ((k:Int)+1)).toNat) nb (si sp) (by
   rw [aQ6]
   refine (List.perm_middle).trans ?_
   rw [List.take_append_drop]
   exact (List.Perm.cons _ hp).trans (List.perm_append_singleton _ _).symm)
  rw [<- e] at this
  exact this
 refine⟨_,rfl,_,ns,3,rfl,.inl rfl,by decide,_,rfl,_,_,rfl,rfl,_,_,rfl,by omega,by omega,fun z _=>⟨trivial,?_⟩⟩
 refine⟨_,rfl,_,rfl,?_⟩
 cases dg with
 | false=>exact bF (fin z nb)
 | true=>exact bJ ⟨_,rfl,trivial,_,rfl,_,rfl,_,_,rfl,rfl,_,_,rfl,rfl,⟨by show (0:Int) < (k:Int)+1; omega,by omega⟩,trivial,fin nb _⟩
theorem ad3 (n:Nat):fM 0 n=intz (rng n):=by
 refine List.ext_getElem? fun i=>?_
 by_cases h:i < n
 ·rw [x4 h]
  unfold intz
  rw [bj2,nR h,bx0]; rfl
 ·rw [bs9 (by rw [gA]; omega),bs9 (by rw [b8,dM]; omega)]
theorem aW2:cI ad2 ["script","many","digits","places","number","k","spot"] uD:=by
 rintro xs Q ⟨ns,m,dg,rfl,hl,m40,q⟩
 refine⟨_,rfl,m,rfl,by omega,by omega,rfl,?_,?_⟩
 ·show flats (fM 0 (m:Int).toNat)=true
  rw [ad3]; exact dG _
 rw [ad3,bk4]
 refine⟨_,rfl,_,ns,3,rfl,.inl rfl,by decide,trivial,?_⟩
 dsimp only
 generalize ns.getD (3:Int).toNat 0=nb
 refine⟨_,rfl,_,ns,1,rfl,.inl rfl,by decide,_,_,rfl,rfl,⟨by decide,by decide⟩,_,_,rfl,rfl,(by show (0:Int) < 2; decide),.inl ⟨_,_,rfl,rfl,_,rfl,?_⟩⟩
 generalize (if false=true then _ else _:Bool)=b
 cases b with
 | false=>exact bF ⟨_,rfl,trivial,q _ (bx5 _)⟩
 | true=>
  refine bJ ⟨by decide,rfl,rfl,rfl,?_⟩
  refine⟨_,rfl,m,rfl,by omega,by omega,fun k ρ=>∃ (ps:List Int) (nb:Int) (y5 y6:Option Slot),ρ = [some (.sh true (.scr ns)),si m,some (.sh true (.bl dg)),some (.own (.lst (intz ps))),si nb,y5,y6]/\ps.Perm (rng k),⟨[],nb,none,none,rfl,bx5 _⟩,?_,?_⟩
  ·rintro k y ρ hy ⟨ps,nb,y5,y6,rfl,hp⟩
   obtain ⟨rfl,hk⟩:=jA hy
   have hk:k < m:=by omega
   refine iB ?_
   rw [bx0]
   exact aW1 (by omega) hp fun ps nb y6 h=>⟨ps,nb,si k,y6,rfl,h⟩
  ·rintro ρ ⟨ps,nb,y5,y6,rfl,hp⟩
   rw [gA,bk4] at hp
   exact⟨_,rfl,trivial,q ps hp⟩
noncomputable def ad4 (mx:Int):bK:=fun xs Q=>∃ (ns:List Int) (most:Int),xs = [.scr ns,.int most]/\ns.length<=63/\0<=most/\most<=mx/\∀ (n:Nat) ws ls,(n:Int)<=most->WL n ws ls->c7 n ls->bL n ls->Q (b6 ws ls)
noncomputable def ad5 (R:List PV->(PV->Prop)->Prop):Prop:=∀ (ls:List (Int × Int)) (Q:PV->Prop),ls.length < 64->(∀ ls':List (Int × Int),ls'.Perm ls->(ls'.map two).Pairwise (fun u v=>HT.eJ v u=false)->Q (.lst (aV ls')))->R [.lst (aV ls)] Q
theorem aW3:ad5 qG:=fun ls Q few q=>by
 refine⟨ls.map two,by rw [nT],by rw [bi4]; exact few,fun y hy=>by obtain ⟨l,_,rfl⟩:=bj8.mp hy; exact List.cons_ne_nil _ _,fun Z pz so=>?_⟩
 obtain ⟨ls',rfl,pl⟩:=xW pz
 have:=q ls' pl so
 rw [nT] at this
 exact this
noncomputable def ad6:aK:=(aE (gT 4 (eZ (a6 (a5 9) (a6 (a5 7) a9))))
   (aE (kS 5 (a5 9) (cB (bA (a5 5) (a5 9)) (qC (.int 1))))
   (kS 5 (a5 7) (cB (bA (a5 5) (a5 7)) (qC (.int 1))))))
noncomputable def ad7:aK:=(cD (bD (R8 (cE (a5 8) (qC (.int 8))) (qC (.int 0)))) (aE (b4 9 (cE (i9 (a5 8) (qC (.int 8))) (a5 7)))
   (aE (cD (bD (jW (cE (aB fC (a6 (a5 0) (a6 (qC (.int 1)) a9))) (qC (.int 3))) (qC (.int 1)))) (b4 9 (aB nB (a6 (qC (.int 0)) (a6 (jV (jV (a5 7) (qC (.int 1))) (cE (i9 (a5 8) (qC (.int 8))) (qC (.int 3)))) a9)))) cH)
   ad6)) cH)
noncomputable def ad8:aK:=(aE (b4 8 (aB kF (a6 (bA (a5 6) (a5 7)) (a6 (a5 7) a9))))
  (aE (cD (jT (a5 3)) (b4 8 (i9 (bA (a5 6) (a5 7)) (qC (.int 64)))) cH)
  ad7))
noncomputable def ad9 (R:List PV->(PV->Prop)->Prop):aK:=(aE (mZ 4 (b4 12 (cZ (cR (a5 4)) [none,none,some 10] (gU 0 1) dA (eZ (a6 (aB nA (a6 (bA (a5 2) (a5 0)) (a6 (bA (a5 2) (a5 1)) a9))) (a6 (aB nB (a6 (bA (a5 2) (a5 0)) (a6 (bA (a5 2) (a5 1)) a9))) a9))))))
 (bN (eZ (a6 (aB j6 (a6 (a5 11) a9)) (a6 (aB j6 (a6 (aB R (a6 (a5 12) a9)) a9)) a9)))))
noncomputable def ae0:aK:=(aE (b4 10 (aB uD (a6 (a5 0) (a6 (a5 2) (a6 (a5 3) a9)))))
 (aE (dR 11 (qK (dQ (a6 (qC (.int 0)) a9)) (a5 2)))
 (aE (dS (j5 (a5 2)) (bX 7)
  (kS 11 (bA (a5 10) (a5 7)) (cE (bA (a5 6) (a5 7)) (cB (bA (a5 5) (a5 7)) (qC (.int 2))))))
 (ad9 qG))))
noncomputable def ae1:aK:=(aE (b4 2 (aB tX (a6 (a5 0) (a6 (a5 1) a9))))
 (aE (b4 3 (jW (cE (i9 (aB fC (a6 (a5 0) (a6 (qC (.int 1)) a9))) (qC (.int 8))) (qC (.int 2))) (qC (.int 1))))
 (aE (dR 4 (dQ a9))
 (aE (dR 5 (qK (dQ (a6 (qC (.int 0)) a9)) (a5 2)))
 (aE (dR 6 (nH (a5 0) (lW (qC (.int 4))) (lW (cB (qC (.int 4)) (a5 2)))))
 (aE (dS (sJ (aB dH (a6 (a5 6) a9)) (a5 2)) (bX 7)
  (gT 6 (aB kF (a6 (aB fC (a6 (a5 0) (a6 (qC (.int 1)) a9))) (a6 (a5 7) a9)))))
 (aE (dS (sJ (qC (.int 1)) (a5 2)) (bX 7)
  ad8)
 ae0)))))))
section
variable {ns : List Int} {m k : Nat} {dg : Bool} {cs cts : List Int} {lks : List (Int × Int)} {s1 y8 y9 y10 y11 y12 : Option Slot} {E : g6}
theorem ae2 {e nb:Int} (hc:m<=cs.length) (hk:k < m) (m40:m<=40) (T:TL k lks) (cl:cts.length=m) (nn:NN cts) (e0:0<=e) (e1:e < (k:Int)) {s0 s3 s6:Option Slot}
  (nx:∀ (lks':List (Int × Int)) (cts':List Int),TL (k+1) lks'->cts'.length=m->NN cts'->E.nx [s0,s1,si m,s3,some (.own (.lst (aV lks'))),some (.own (.lst (intz cts'))),s6,si k,si nb,si e,y10,y11,y12]) :
  ad6 E [s0,s1,si m,s3,some (.own (.lst (aV lks))),some (.own (.lst (intz cts))),s6,si k,si nb,si e,y10,y11,y12]:=by
 have pl:(aV lks).length=lks.length:=bi4 _
 have fw:=T.few
 obtain ⟨j,rfl⟩:∃ j:Nat,e=j:=⟨e.toNat,by omega⟩
 refine⟨_,rfl,_,rfl,_,rfl,by show 2<=1000; decide,rfl,trivial,by rw [pl]; omega,?_⟩
 have a1:=kG (ws:=cts) (j:=j) (by omega)
 refine⟨_,rfl,_,rfl,_,_,_,rfl,rfl,a1,_,_,rfl,rfl,_,rfl,_,rfl,j,j,rfl,?_,trivial,?_⟩
 ·rw [b8]; unfold eL; rw [if_pos (by omega),if_pos (by omega)]; rfl
 have q1:(intz cts).set j (.int (cts.getD j 0+1))=intz (cts.set j (cts.getD j 0+1)):=(List.map_set ..).symm
 have n1:NN (cts.set j (cts.getD j 0+1)):=nn.set (by have:=o8 nn j; omega) _
 dsimp only
 rw [q1]
 have l1:(cts.set j (cts.getD j 0+1)).length=m:=by rw [bm3]; exact cl
 generalize cts.set j (cts.getD j 0+1)=ct2 at n1 l1
 have a2:=kG (ws:=ct2) (j:=k) (by omega)
 refine⟨_,rfl,_,rfl,_,_,_,rfl,rfl,a2,_,_,rfl,rfl,_,rfl,_,rfl,k,k,rfl,?_,trivial,?_⟩
 ·rw [b8]; unfold eL; rw [if_pos (by omega),if_pos (by omega)]; rfl
 have q2:(intz ct2).set k (.int (ct2.getD k 0+1))=intz (ct2.set k (ct2.getD k 0+1)):=(List.map_set ..).symm
 have n2:NN (ct2.set k (ct2.getD k 0+1)):=n1.set (by have:=o8 n1 k; omega) _
 dsimp only
 rw [q2]
 have:=nx (lks ++ [((j:Int),(k:Int))]) (ct2.set k (ct2.getD k 0+1)) (T.app e0 e1) (by rw [bm3]; exact l1) n2
 unfold aV at this ⊢
 rw [bk2] at this
 exact this
theorem ae3 {nb:Int} (hc:m<=cs.length) (k1:1<=k) (hk:k < m) (m40:m<=40) (T:TL k lks) (cl:cts.length=m) (nn:NN cts) {s3 s6:Option Slot}
  (nx:∀ (y9:Option Slot) (lks':List (Int × Int)) (cts':List Int),TL (k+1) lks'->cts'.length=m->NN cts'->E.nx [some (.sh true (.scr ns)),s1,si m,s3,some (.own (.lst (aV lks'))),some (.own (.lst (intz cts'))),s6,si k,si nb,y9,y10,y11,y12]) :
  ad7 E [some (.sh true (.scr ns)),s1,si m,s3,some (.own (.lst (aV lks))),some (.own (.lst (intz cts))),s6,si k,si nb,y9,y10,y11,y12]:=by
 refine⟨_,rfl,_,_,rfl,rfl,(by show (0:Int) < 8; decide),_,_,rfl,rfl,_,rfl,o7 ?_ (nx y9 lks cts T.same cl nn)⟩
 have e0:=bo4 (nb / 8) (show (k:Int) ≠ 0 by omega)
 have e1:=bu6 (nb / 8) (show (0:Int) < (k:Int) by omega)
 refine⟨_,rfl,_,_,rfl,rfl,⟨by decide,by decide⟩,_,rfl,_,_,rfl,rfl,(by show (0:Int) < (k:Int); omega),trivial,?_⟩
 refine⟨_,rfl,_,ns,1,rfl,.inl rfl,by decide,_,_,rfl,rfl,(by show (0:Int) < 3; decide),.inl ⟨_,_,rfl,rfl,_,rfl,o7 ?_ (ae2 hc hk m40 T cl nn e0 e1 fun l c a b d=>nx _ l c a b d)⟩⟩
 refine⟨_,rfl,_,_,rfl,rfl,_,rfl,_,_,rfl,rfl,⟨by decide,by decide⟩,_,_,rfl,rfl,(by show (0:Int) < 3; decide),_,_,rfl,rfl,_,_,rfl,trivial,?_⟩
 have h0:=bo4 (nb / 8) (show (3:Int) ≠ 0 by decide)
 dsimp only
 generalize hz:(if (k:Int) - 1 - nb / 8 % 3 > 0 then (k:Int) - 1 - nb / 8 % 3 else 0)=z
 have z0:0<=z:=by rw [<- hz]; split <;> omega
 have z1:z < (k:Int):=by rw [<- hz]; split <;> omega
 exact ae2 hc hk m40 T cl nn z0 z1 fun l c a b d=>nx _ l c a b d
theorem aW4 (hc:m<=cs.length) (k1:1<=k) (hk:k < m) (m40:m<=40) (T:TL k lks) (cl:cts.length=m) (nn:NN cts)
  (nx:∀ (y8 y9:Option Slot) (lks':List (Int × Int)) (cts':List Int),TL (k+1) lks'->cts'.length=m->NN cts'->E.nx [some (.sh true (.scr ns)),s1,si m,some (.sh true (.bl dg)),some (.own (.lst (aV lks'))),some (.own (.lst (intz cts'))),some (.own (.lst (intz cs))),si k,y8,y9,y10,y11,y12]) :
  ad8 E [some (.sh true (.scr ns)),s1,si m,some (.sh true (.bl dg)),some (.own (.lst (aV lks))),some (.own (.lst (intz cts))),some (.own (.lst (intz cs))),si k,y8,y9,y10,y11,y12]:=by
 have a0:=kG (ws:=cs) (j:=k) (by omega)
 refine⟨_,rfl,_,rfl,_,_,_,rfl,rfl,a0,_,rfl,_,_,rfl,by omega,by omega,fun z _=>⟨trivial,?_⟩⟩
 refine⟨_,rfl,_,rfl,?_⟩
 cases dg with
 | false=>exact bF (ae3 hc k1 hk m40 T cl nn fun y9 l c a b d=>nx _ y9 l c a b d)
 | true=>exact bJ ⟨_,rfl,_,rfl,_,_,_,rfl,rfl,a0,_,_,rfl,rfl,⟨by decide,by decide⟩,trivial,ae3 hc k1 hk m40 T cl nn fun y9 l c a b d=>nx _ y9 l c a b d⟩
theorem ae4 {m:Nat}{ps:List Int} (hp:ps.Perm (rng m)):Pl m fun i=>ps.getD i.toNat 0:=by
 have pl:=hp.length_eq
 rw [dM] at pl
 have nd:ps.Nodup:=hp.nodup_iff.mpr (zJ (jD m))
 have gt:∀ i:Int,0<=i->i < (m:Int)->ps[i.toNat]? = some (ps.getD i.toNat 0):=fun i h0 h1=>by
  rw [bj0,bi2 (by omega)]; rfl
 refine⟨fun i h0 h1=>bY.mp (hp.mem_iff.mp (bi0 (gt i h0 h1))),fun i j h0 h1 g0 g1 e=>?_,fun x hx=>?_⟩
 ·have:=(List.getElem?_inj (bi5.mp (gt i h0 h1)).1 nd).mp ((gt i h0 h1).trans (by rw [gt j g0 g1]; exact congrArg some e))
  omega
 ·obtain ⟨i,hi⟩:=br3.mp (hp.mem_iff.mpr hx)
  have il:=(bi5.mp hi).1
  refine⟨i,by omega,by omega,?_⟩
  show ps.getD (i:Int).toNat 0=x
  rw [bk4,bj0,hi]; rfl
theorem aW5 {R:List PV->(PV->Prop)->Prop} (hR:ad5 R) {ps ws:List Int}{s0 s3 s5 s6 y7:Option Slot}{Q:PV->Prop} (m40:m<=40) (T:TL m lks) (hp:ps.Perm (rng m)) (wl:ws.length=m) (wn:NN ws) (q:∀ ls,WL m ws ls->c7 m ls->bL m ls->Q (b6 ws ls)) :
  ad9 R { nx:=fun _=>Q .non,rt:=Q } [s0,s1,si m,s3,some (.own (.lst (aV lks))),s5,s6,y7,y8,y9,some (.sh true (.lst (intz ps))),some (.own (.lst (intz ws))),y12]:=by
 have P:=ae4 hp
 have pl:=hp.length_eq
 rw [dM] at pl
 have fw:=T.few
 have pgl:(aV lks).length=lks.length:=bi4 _
 refine⟨_,rfl,_,rfl,aV lks,rfl,(fun z=>by cases z),by rw [pgl]; omega,fun i acc=>acc=aV ((lks.take i).map (fS fun i=>ps.getD i.toNat 0)),rfl,?_,?_⟩
 ·rintro i y acc hy rfl
  unfold aV at hy
  rw [bj2] at hy
  cases hz:lks[i]? with
  | none=>rw [hz] at hy; cases hy
  | some l=>
   rw [hz] at hy
   cases hy
   have h:=T.inn l (bi0 hz)
   obtain ⟨a,ea⟩:∃ a:Nat,l.1=a:=⟨l.1.toNat,by omega⟩
   obtain ⟨b,eb⟩:∃ b:Nat,l.2=b:=⟨l.2.toNat,by omega⟩
   have a1:L2.atI (intz ps) l.1=some (.int (ps.getD l.1.toNat 0)):=by rw [ea,bk4]; exact kG (by omega)
   have a2:L2.atI (intz ps) l.2=some (.int (ps.getD l.2.toNat 0)):=by rw [eb,bk4]; exact kG (by omega)
   refine⟨_,_,rfl,?_⟩
   refine⟨_,rfl,_,rfl,_,_,_,rfl,rfl,a1,_,rfl,_,rfl,_,_,_,rfl,rfl,a2,_,_,rfl,_,rfl,_,rfl,_,_,_,rfl,rfl,a1,_,rfl,_,rfl,_,_,_,rfl,rfl,a2,_,_,rfl,by show 2<=1000; decide,rfl,trivial,?_⟩
   dsimp only
   rw [bm4,hz,bk2]
   unfold aV
   rw [bk2]
   have e1:(if ps.getD l.2.toNat 0 < ps.getD l.1.toNat 0 then ps.getD l.2.toNat 0 else ps.getD l.1.toNat 0)=min (ps.getD l.1.toNat 0) (ps.getD l.2.toNat 0):=by split <;> omega
   have e2:(if ps.getD l.2.toNat 0 > ps.getD l.1.toNat 0 then ps.getD l.2.toNat 0 else ps.getD l.1.toNat 0)=max (ps.getD l.1.toNat 0) (ps.getD l.2.toNat 0):=by split <;> omega
   show _ ++ [PV.tup [.int (if ps.getD l.2.toNat 0 < ps.getD l.1.toNat 0 then ps.getD l.2.toNat 0 else ps.getD l.1.toNat 0),.int (if ps.getD l.2.toNat 0 > ps.getD l.1.toNat 0 then ps.getD l.2.toNat 0 else ps.getD l.1.toNat 0)]]=_
   rw [e1,e2]; rfl
 ·rintro acc rfl
  rw [pgl,bl6 (bi8 _)]
  have inn:=aV7 P T
  have nd:=aV8 P T
  have ml:(lks.map (fS fun i=>ps.getD i.toNat 0)).length=lks.length:=bi4 _
  have fp:∀ ls:List (Int × Int),flats (aV ls)=true:=iP
  refine⟨trivial,?_⟩
  refine⟨_,rfl,⟨_,_,rfl,rfl,dG _,?_⟩,(fun ns e=>by cases e)⟩
  refine⟨_,rfl,?_⟩
  refine hR (lks.map (fS fun i=>ps.getD i.toNat 0)) _ (by rw [ml]; omega) (fun ls' pm so=>?_)
  have W:=WL.perm (n:=m) (ws:=ws) (by omega) inn (by rw [ml]; omega) nd wn pm so
  have lk:c7 m ls':=⟨fun l hl=>W.inn l hl,W.most,W.ord⟩
  refine⟨⟨_,_,rfl,rfl,fp _,by show 2<=1000; decide,?_,trivial,?_⟩,(fun ns e=>by cases e)⟩
  ·show (flats (intz ws) && (flats (aV ls') && true))=true
   rw [dG,fp]; rfl
  ·exact q ls' W lk (aW0 lk (aV9 P T pm lk.fit))
theorem aW6 {s7:Option Slot}{Q:PV->Prop} (hn:ns.length<=63) (hc:m<=cs.length) (m40:m<=40) (T:TL m lks) (cl:cts.length=m) (nn:NN cts) (q:∀ ws ls,WL m ws ls->c7 m ls->bL m ls->Q (b6 ws ls)) :
  ae0 { nx:=fun _=>Q .non,rt:=Q } [some (.sh true (.scr ns)),s1,si m,some (.sh true (.bl dg)),some (.own (.lst (aV lks))),some (.own (.lst (intz cts))),some (.own (.lst (intz cs))),s7,y8,y9,none,none,none]:=by
 refine⟨_,rfl,_,rfl,_,rfl,ns,m,dg,rfl,hn,m40,fun ps hp=>⟨trivial,?_⟩⟩
 have pl:=hp.length_eq
 rw [dM] at pl
 refine⟨by show 1<=1000; decide,rfl,_,rfl,_,_,rfl,rfl,rfl,by omega,by omega,by show 1<=10; decide,rfl,?_,?_⟩
 ·show flats (List.replicate (m:Int).toNat [PV.int 0]).flatten=true
  rw [tV]; exact dG _
 show (aE _ _) _ [_,_,_,_,_,_,_,_,_,_,_,some (Slot.own (.lst (List.replicate (m:Int).toNat [PV.int 0]).flatten)),_]
 rw [tV,bk4]
 refine⟨_,rfl,m,rfl,by omega,by omega,fun i ρ=>∃ (ws:List Int) (y7:Option Slot),ρ = [some (.sh true (.scr ns)),s1,si m,some (.sh true (.bl dg)),some (.own (.lst (aV lks))),some (.own (.lst (intz cts))),some (.own (.lst (intz cs))),y7,y8,y9,some (.sh true (.lst (intz ps))),some (.own (.lst (intz ws))),none]/\ws.length=m/\NN ws,⟨_,s7,rfl,bs8,fun z hz=>by rw [List.eq_of_mem_replicate hz]; exact Int.le_refl 0⟩,?_,?_⟩
 ·rintro i y ρ hy ⟨ws,y7,rfl,wl,wn⟩
  obtain ⟨rfl,hi⟩:=jA hy
  have hi:i < m:=by omega
  refine iB ?_
  rw [bx0]
  have a1:=kG (ws:=cs) (j:=i) (by omega)
  have a2:=kG (ws:=cts) (j:=i) (by omega)
  have a3:=kG (ws:=ps) (j:=i) (by omega)
  have p1:=o8 nn i
  have pr:=(ae4 hp).inn i (by omega) (by omega)
  rw [bk4] at pr
  obtain ⟨z,ez⟩:∃ z:Nat,ps.getD i 0=z:=⟨(ps.getD i 0).toNat,by omega⟩
  refine⟨_,rfl,_,rfl,_,_,_,rfl,rfl,a1,_,rfl,_,rfl,_,_,_,rfl,rfl,a2,_,_,rfl,rfl,_,_,rfl,rfl,by show 0 < cts.getD i 0+2; omega,_,rfl,_,rfl,_,rfl,_,_,_,rfl,rfl,a3,_,z,rfl,?_,trivial,ws.set z (cs.getD i 0 % (cts.getD i 0+2)),si i,?_,by rw [bm3]; exact wl,wn.set (bo4 _ (by omega)) _⟩
  ·rw [b8,ez]; unfold eL; rw [if_pos (by omega),if_pos (by omega)]; rfl
  ·show _ = [_,_,_,_,_,_,_,_,_,_,_,some (Slot.own (.lst (intz (ws.set z (cs.getD i 0 % (cts.getD i 0+2)))))),_]
   have:(intz ws).set z (.int (cs.getD i 0 % (cts.getD i 0+2)))=intz (ws.set z (cs.getD i 0 % (cts.getD i 0+2))):=(List.map_set ..).symm
   rw [<- this]; rfl
 ·rintro ρ ⟨ws,y7,rfl,wl,wn⟩
  exact aW5 aW3 m40 T hp wl wn fun ls a b c=>q ws ls a b c
end
theorem aW7 {mx:Int} (mx40:mx<=40):cI ae1 ["script","most","many","digits","links","counts","cells","k","number","elder","places","wants","pairs"] (ad4 mx):=by
 rintro xs Q ⟨ns,most,rfl,hl,h0,h1,q⟩
 refine⟨_,rfl,_,rfl,ns,most,rfl,h0,fun z z0 z1=>⟨trivial,?_⟩⟩
 obtain ⟨m,rfl⟩:∃ m:Nat,z=m:=⟨z.toNat,by omega⟩
 refine⟨_,rfl,_,ns,1,rfl,.inl rfl,by decide,_,_,rfl,rfl,⟨by decide,by decide⟩,_,_,rfl,rfl,(by show (0:Int) < 2; decide),.inl ⟨_,_,rfl,rfl,trivial,?_⟩⟩
 generalize (if false=true then !decide (ns.getD (1:Int).toNat 0 / 8 % 2=1) else decide (ns.getD (1:Int).toNat 0 / 8 % 2=1))=dg
 refine⟨by decide,rfl,rfl,rfl,?_⟩
 refine⟨by show 1<=1000; decide,rfl,_,rfl,_,_,rfl,rfl,rfl,by omega,by omega,by show 1<=10; decide,rfl,?_,?_⟩
 ·show flats (List.replicate (m:Int).toNat [PV.int 0]).flatten=true
  rw [tV]; exact dG _
 show (aE _ _) _ [_,_,_,_,_,some (Slot.own (.lst (List.replicate (m:Int).toNat [PV.int 0]).flatten)),_,_,_,_,_,_,_]
 rw [tV,bk4]
 obtain ⟨zs,ez,zl⟩:=aR6 ns (some 4) (some (4+(m:Int)))
 refine⟨_,rfl,_,rfl,_,rfl,_,_,rfl,rfl,_,rfl,_,rfl,dG _,rfl,?_,?_⟩
 ·show flats (fO (intz ns) (some 4) (some (4+(m:Int))))=true
  rw [ez]; exact dG _
 show (aE _ _) _ [_,_,_,_,_,_,some (Slot.own (.lst (fO (intz ns) (some 4) (some (4+(m:Int)))))),_,_,_,_,_,_]
 rw [ez]
 refine⟨_,rfl,_,_,rfl,rfl,_,rfl,(zs.length:Int),(m:Int),by rw [b8],rfl,⟨by omega,by omega,by omega,by omega⟩,fun i ρ=>∃ (cs:List Int) (y7:Option Slot),ρ = [some (.sh true (.scr ns)),si most,si m,some (.sh true (.bl dg)),some (.own (.lst (aV []))),some (.own (.lst (intz (List.replicate m 0)))),some (.own (.lst (intz cs))),y7,none,none,none,none,none]/\cs.length=zs.length+i,⟨zs,none,rfl,rfl⟩,?_,?_⟩
 ·rintro i y ρ hy ⟨cs,y7,rfl,cl⟩
  obtain ⟨rfl,hi⟩:=jA hy
  refine iB ?_
  refine⟨_,rfl,_,rfl,_,ns,1,rfl,.inl rfl,by decide,_,rfl,_,_,rfl,by omega,by omega,fun z _=>⟨trivial,by rw [b8]; omega,cs ++ [z],_,by rw [eN]; rfl,by rw [bj4,cl]; rfl⟩⟩
 rintro ρ ⟨cs,y7,rfl,cl⟩
 rw [gA] at cl
 have hc:m<=cs.length:=by omega
 refine⟨_,rfl,(1:Int),(m:Int),rfl,rfl,⟨by omega,by omega,by omega,by omega⟩,fun i ρ=>∃ (lks:List (Int × Int)) (cts:List Int) (y7 y8 y9:Option Slot),ρ = [some (.sh true (.scr ns)),si most,si m,some (.sh true (.bl dg)),some (.own (.lst (aV lks))),some (.own (.lst (intz cts))),some (.own (.lst (intz cs))),y7,y8,y9,none,none,none]/\TL (i+1) lks/\cts.length=m/\NN cts,⟨[],_,y7,none,none,rfl,⟨(fun l hl=>by cases hl),bu1,bm9 _⟩,bs8,fun z hz=>by rw [List.eq_of_mem_replicate hz]; exact Int.le_refl 0⟩,?_,?_⟩
 ·rintro i y ρ hy ⟨lks,cts,y7,y8,y9,rfl,T,cl,nn⟩
  obtain ⟨rfl,hi⟩:=jA hy
  refine iB ?_
  rw [show (1:Int)+(i:Int)=((i+1:Nat):Int) by omega]
  exact aW4 hc (by omega) (by omega) (by omega) T cl nn fun y8 y9 l c a b d=>⟨l,c,si ((i+1:Nat):Int),y8,y9,rfl,a,b,d⟩
 ·rintro ρ ⟨lks,cts,y7,y8,y9,rfl,T,cl,nn⟩
  rw [gA] at T
  have T':TL m lks:=by
   by_cases m0:m=0
   ·subst m0
    have e:lks = []:=by
     cases lks with
     | nil=>rfl
     | cons l r=>have:=T.inn l bi9; omega
    subst e
    exact⟨(fun l hl=>by cases hl),bu1,bm9 _⟩
   ·rwa [show ((m:Int) - 1).toNat+1=m by omega] at T
  exact aW6 hl hc (by omega) T' cl nn fun ws ls a b c=>q m ws ls z1 a b c
noncomputable abbrev zN:=List (Int × List Int)
noncomputable def ksB (W:zN):List Int:=W.map (·.1)
section
variable {ws : List Int} {n : Nat} {ls : List (Int × Int)} {P : bO} {W T : zN} {D B : List Int} {h x y c : Int} {e : Option Int}
theorem Rt0.kid (R:Rt0 n ls P) (f:dB ls) (hp:(h,e) ∈ P):c ∈ aW ls h e ↔ (c,some h) ∈ P:=by
 constructor
 ·intro z
  obtain ⟨z1,z2⟩:=gY.mp z
  exact (R.done h e hp c z1).resolve_left fun q=>z2 q.symm
 ·intro z
  obtain ⟨i,hi⟩:=eG z
  obtain ⟨j,q,ji,hj,hn⟩:=R.par i c h hi
  refine gY.mpr ⟨jP hn,fun ec=>?_⟩
  rw [<- ec] at hp
  obtain ⟨i2,hi2⟩:=eG hp
  obtain ⟨j2,q2,ji2,hj2,_⟩:=R.par i2 h c hi2
  have e1:=(fR R.nd hj2 hi).1
  have e2:=(fR R.nd hj hi2).1
  omega
structure pB (P:bO) (W:zN) (D:List Int) (x:Int) (B:List Int):Prop where
 self:x ∈ B
 nd:B.Nodup
 up:∀ y ∈ B,y=x ∨ (y ∈ ksB W/\∃ e,(y,some e) ∈ P/\e ∈ B)
 dn:∀ y ∈ B,∀ c,(c,some y) ∈ P->c ∈ ksB W->c ∈ B
 inn:∀ y ∈ B,y ∈ D
theorem ae5 {U L:List Int} (sh:iA ws ls U) (hy:y ∈ rng ws.length) (nd:L.Nodup) (sub:∀ z ∈ L,z ∈ aN ls y/\z ∈ U) (en:ws.getD y.toNat 0<=(L.length:Int)):y ∈ U:=by
 refine bn9 fun no=>?_
 have k:=sh y hy
 unfold kin at k
 rw [bj5 no,Bool.not_false,Bool.true_and,bt6] at k
 have:=eV nd (m:=(aN ls y).filter fun x=>decide (x ∈ U)) fun z hz=>bj6.mpr ⟨(sub z hz).1,bi6 (sub z hz).2⟩
 omega
theorem aW8 (nd:B.Nodup) (so:B.Pairwise (· <= ·)) (inn:∀ x ∈ B,x ∈ rng n):bE n B=true:=by
 have up:B.Pairwise (· < ·):=(List.Pairwise.and so nd).imp fun z=>Int.lt_iff_le_and_ne.mpr ⟨z.1,z.2⟩
 unfold bE
 rw [bm2,bq9]
 refine⟨t8 up,fun b hb=>?_⟩
 obtain ⟨x,hx,rfl⟩:=bj8.mp hb
 have:=bY.mp (inn x hx)
 show inB n x=true
 unfold inB
 simp only [bm2,bq6]
 omega
end
noncomputable abbrev uE:bK:=ad4 40
noncomputable abbrev ae6:aK:=ae1
theorem aW9:cI ae6 ["script","most","many","digits","links","counts","cells","k","number","elder","places","wants","pairs"] uE:=aW7 (by decide)
noncomputable abbrev cW:=List (Int × Int)
noncomputable def dC (bl:cW):List Int:=bl.map fun p=>p.2 - p.1
noncomputable def oC (w p:Int) (bl:cW):Int:=(bl.map (·.1)).sum+(if w<=(bl.length:Int) then min p ((cV (dC bl)).take w.toNat).sum else p)
noncomputable def mE (w p:Int) (bl:cW):Int × Int:=(oC (max 0 (w - 1)) p bl,oC w p bl)
noncomputable def oD:bK:=fun xs Q=>∃ w:Int,xs = [.int w]/\Q (.int (max 0 (w - 1)))
noncomputable def ae7:aK:=(bN (aB nB (a6 (qC (.int 0)) (a6 (jV (a5 0) (qC (.int 1))) a9))))
theorem aX0:cI ae7 ["want"] oD:=by
 rintro xs Q ⟨w,rfl,q⟩
 refine⟨_,rfl,_,_,rfl,rfl,_,_,rfl,trivial,?_⟩
 have e:(if w - 1 > 0 then w - 1 else 0)=max 0 (w - 1):=by split <;> omega
 show Q (.int (if w - 1 > 0 then w - 1 else 0))
 rw [e]; exact q
noncomputable def qT:bK:=fun xs Q=>∃ (w p:Int) (bl:cW),xs = [.int w,.int p,.lst (aV bl)]/\0<=w/\bl.length < 64/\Q (.int (oC w p bl))
noncomputable def ae8:aK:=(aE (b4 3 (aB sH (a6 (cZ (cR (a5 2)) [none,none] (gU 0 1) dA (jV (a5 1) (a5 0))) a9)))
 (aE (b4 4 (a5 1))
 (aE (cD (bD (pS (aB dH (a6 (a5 3) a9)) (a5 0))) (b4 4 (aB nA (a6 (a5 1) (a6 (aB l8 (a6 (nH (a5 3) pP (lW (a5 0))) a9)) a9)))) cH)
 (bN (cB (aB l8 (a6 (cZ (cR (a5 2)) [none,none] (gU 0 1) dA (a5 0)) a9)) (a5 4))))))
section
variable {w p d : Int} {bl : cW} {Q : PV → Prop} {s0 s1 s3 : Option Slot}
theorem ae9 {g:Bool} (hl:bl.length < 64) (q:Q (.int ((bl.map (·.1)).sum+d))) :
  (bN (cB (aB l8 (a6 (cZ (cR (a5 2)) [none,none] (gU 0 1) dA (a5 0)) a9)) (a5 4))) { nx:=fun _=>Q .non,rt:=Q } [s0,s1,some (.sh g (.lst (aV bl))),s3,si d]:=by
 refine⟨_,rfl,aV bl,rfl,(fun z=>by cases g <;> cases z),by rw [iR]; omega,fun i acc=>acc=intz ((bl.take i).map (·.1)),rfl,?_,?_⟩
 ·rintro i y acc hy rfl
  obtain ⟨r,rfl,hr⟩:=tI hy
  refine u8 ?_
  refine⟨_,rfl,trivial,?_⟩
  dsimp only
  rw [bm4,hr,bk2,eN]; rfl
 ·rintro acc rfl
  rw [iR,bl6 (bi8 _)]
  exact⟨_,_,rfl,rfl,_,rfl,_,_,rfl,rfl,trivial,q⟩
end
theorem aX1:cI ae8 ["want","price","below","gaps","dearer"] qT:=by
 rintro xs Q ⟨w,p,bl,rfl,w0,hl,q⟩
 refine⟨_,rfl,aV bl,rfl,(fun z=>by cases z),by rw [iR]; omega,fun i acc=>acc=intz (dC (bl.take i)),rfl,?_,?_⟩
 ·rintro i y acc hy rfl
  obtain ⟨r,rfl,hr⟩:=tI hy
  refine u8 ?_
  refine⟨_,rfl,_,rfl,_,_,rfl,rfl,trivial,?_⟩
  dsimp only
  unfold dC
  rw [bm4,hr,bk2,eN]; rfl
 rintro acc rfl
 rw [iR,bl6 (bi8 _)]
 have gl:(dC bl).length=bl.length:=bi4 _
 refine⟨dC bl,rfl,by omega,fun ms pm so=>⟨trivial,?_⟩⟩
 cases ab3 pm so
 have sl:=pm.length_eq
 refine⟨_,rfl,trivial,?_⟩
 refine⟨_,rfl,_,_,rfl,rfl,_,rfl,_,_,rfl,rfl,_,rfl,?_⟩
 rw [b8]
 unfold oC at q
 by_cases c:w<=(bl.length:Int)
 ·rw [if_pos c] at q
  rw [bi6 (by omega)]
  refine bJ ⟨_,rfl,_,rfl,_,rfl,_,rfl,intz (cV (dC bl)),rfl,dG _,_,(cV (dC bl)).take w.toNat,rfl,?_,_,_,rfl,trivial,?_⟩
  ·show some (fO (intz (cV (dC bl))) none (some w))=_
   rw [Y2 w0]; unfold intz; rw [List.map_take]
  ·have e:(if ((cV (dC bl)).take w.toNat).sum < p then ((cV (dC bl)).take w.toNat).sum else p)=min p ((cV (dC bl)).take w.toNat).sum:=by split <;> omega
   dsimp only
   rw [e]
   exact ae9 hl q
 ·rw [if_neg c] at q
  rw [bj5 (by omega)]
  exact bF (ae9 hl q)
noncomputable def uF:bK:=fun xs Q=>∃ (w p:Int) (bl:cW),xs = [.int w,.int p,.lst (aV bl)]/\0<=w/\bl.length < 64/\Q (.tup [.int (mE w p bl).1,.int (mE w p bl).2])
noncomputable def af0:aK:=(bN (eZ (a6 (aB qT (a6 (aB oD (a6 (a5 0) a9)) (a6 (a5 1) (a6 (a5 2) a9)))) (a6 (aB qT (a6 (a5 0) (a6 (a5 1) (a6 (a5 2) a9)))) a9))))
theorem aX2:cI af0 ["want","price","below"] uF:=by
 rintro xs Q ⟨w,p,bl,rfl,w0,hl,q⟩
 exact⟨_,rfl,w,rfl,_,rfl,_,rfl,_,p,bl,rfl,by omega,hl,_,rfl,_,rfl,_,rfl,w,p,bl,rfl,w0,hl,by show 2<=1000; decide,rfl,trivial,q⟩
noncomputable def bG (L:cW) (h:Int):Int × Int:=L.getD h.toNat (0,0)
noncomputable def mF (ws ps:List Int) (ls:List (Int × Int)) (L:cW) (h:Int) (e:Option Int):Prop:=bG L h=mE (ws.getD h.toNat 0) (ps.getD h.toNat 0) ((aW ls h e).map (bG L))
noncomputable def oE (ws ps:List Int) (ls:List (Int × Int)) (P:bO) (L:cW):Prop:=L.length=ws.length/\∀ h e,(h,e) ∈ P->mF ws ps ls L h e
noncomputable def af1:aK:=(aE (b4 8 (cZ (cR (aB lB (a6 (a5 4) (a6 (a5 6) (a6 (a5 7) a9))))) [none,some 5] (bX 0) dA (bA (a5 1) (a5 0))))
  (kS 5 (a5 6) (aB uF (a6 (bA (bA (a5 0) (qC (.int 0))) (a5 6)) (a6 (bA (a5 3) (a5 6)) (a6 (a5 8) a9))))))
theorem zO {L:cW}{h:Int} (h0:0<=h) (h1:h < (L.length:Int)):L2.atI (aV L) h=some (.tup [.int (bG L h).1,.int (bG L h).2]):=by
 obtain ⟨j,rfl⟩:∃ j:Nat,h=j:=⟨h.toNat,by omega⟩
 refine jI ?_
 unfold aV bG
 rw [bk4,bj2,bj0,bi2 (by omega)]; rfl
theorem qU {ns:List Int}{h:Int} (h0:0<=h) (h1:h < (ns.length:Int)):L2.atI (intz ns) h=some (.int (ns.getD h.toNat 0)):=by
 obtain ⟨j,rfl⟩:∃ j:Nat,h=j:=⟨h.toNat,by omega⟩
 rw [bk4]; exact kG (by omega)
theorem af2 {L:cW}{h x:Int}{v:Int × Int} (h0:0<=h) (x0:0<=x) (ne:x ≠ h):bG (L.set h.toNat v) x=bG L x:=by
 unfold bG
 rw [bj0,bj0,bl1 (by omega)]
theorem aX3 {L:cW}{h:Int}{v:Int × Int} (h0:0<=h) (h1:h < (L.length:Int)):bG (L.set h.toNat v) h=v:=by
 unfold bG
 rw [bj0,bn3 (by omega)]; rfl
section
variable {ws ps : List Int} {ls : List (Int × Int)} {P : bO} {L : cW} {h : Int} {e : Option Int} {E : g6} {s1 s2 y8 : Option Slot}
theorem aX4 (lk:c7 ws.length ls) (n40:ws.length<=40) (nn:NN ws) (pl:ps.length=ws.length) (ll:L.length=ws.length) (hr:h ∈ rng ws.length)
  (nx:∀ y8,E.nx [some (.sh true (b6 ws ls)),s1,s2,some (.sh true (.tup (intz ps))),some (.sh true (.lst (bT ws.length ls))),some (.own (.lst (aV (L.set h.toNat (mE (ws.getD h.toNat 0) (ps.getD h.toNat 0) ((aW ls h e).map (bG L))))))),si h,some (.sh true (fP e)),y8]) :
  af1 E [some (.sh true (b6 ws ls)),s1,s2,some (.sh true (.tup (intz ps))),some (.sh true (.lst (bT ws.length ls))),some (.own (.lst (aV L))),si h,some (.sh true (fP e)),y8]:=by
 have hm:=bY.mp hr
 have nl:=lk.nlen h
 have kl:(aW ls h e).length<=ws.length:=by have:=bn7 (fun x=>!decide (some x=e)) (aN ls h); unfold aW; omega
 refine⟨_,rfl,_,rfl,_,rfl,ws.length,ls,h,e,rfl,hm.1,hm.2,by omega,intz (aW ls h e),rfl,(fun z=>by cases z),by rw [b8]; omega,fun i acc=>acc=aV (((aW ls h e).take i).map (bG L)),rfl,?_,?_⟩
 ·rintro i y acc hy rfl
  obtain ⟨c,rfl,hc⟩:=gV hy
  have cr:=bY.mp (lk.inr h c (gY.mp (bi0 hc)).1)
  refine⟨_,rfl,_,rfl,_,_,_,rfl,rfl,zO cr.1 (by omega),rfl,?_⟩
  dsimp only
  unfold aV
  rw [bm4,hc,bk2,bk2]; rfl
 ·rintro acc rfl
  rw [b8,bl6 (bi8 _)]
  have wp:0<=ws.getD h.toNat 0:=o8 nn _
  refine⟨trivial,?_⟩
  refine⟨_,rfl,_,_,_,rfl,rfl,rfl,_,rfl,_,_,_,rfl,rfl,qU hm.1 hm.2,_,rfl,_,rfl,_,_,_,rfl,rfl,qU hm.1 (by omega),_,rfl,_,_,(aW ls h e).map (bG L),rfl,wp,by rw [bi4]; omega,aV L,rfl,_,rfl,h,h.toNat,rfl,?_,trivial,?_⟩
  ·rw [iR]; unfold eL; rw [if_pos (by omega),if_pos (by omega)]
  ·have:=nx (some (.sh true (.lst (aV ((aW ls h e).map (bG L))))))
   have q:aV (L.set h.toNat (mE (ws.getD h.toNat 0) (ps.getD h.toNat 0) ((aW ls h e).map (bG L))))=(aV L).set h.toNat (.tup [.int (mE (ws.getD h.toNat 0) (ps.getD h.toNat 0) ((aW ls h e).map (bG L))).1,.int (mE (ws.getD h.toNat 0) (ps.getD h.toNat 0) ((aW ls h e).map (bG L))).2]):=by unfold aV; rw [List.map_set]
   rw [q] at this
   exact this
end
structure iT (P:bO) (i:Nat) (D:List Int):Prop where
 mem:∀ y,y ∈ D ↔ ∃ (j:Nat) (q:Option Int),P[j]? = some (y,q)/\P.length<=j+i
theorem iT.nil {P:bO}:iT P 0 []:=⟨fun y=>⟨(fun z=>by cases z),fun ⟨j,q,hj,hl⟩=>by have:=(bi5.mp hj).1; omega⟩⟩
theorem iT.next {P:bO}{i:Nat}{D:List Int}{h:Int}{e:Option Int} (S:iT P i D) (il:i < P.length) (hk:P[P.length - 1 - i]? = some (h,e)):iT P (i+1) (h :: D):=⟨fun y=>by
 constructor
 ·intro z
  rcases bj1.mp z with z | z
  ·rw [z]; exact⟨_,e,hk,by omega⟩
  ·obtain ⟨j,q,hj,hl⟩:=(S.mem y).mp z
   exact⟨j,q,hj,by omega⟩
 ·rintro ⟨j,q,hj,hl⟩
  by_cases ej:j=P.length - 1 - i
  ·subst ej
   rw [hk] at hj
   cases hj
   exact bi9
  ·exact bj7 _ ((S.mem y).mpr ⟨j,q,hj,by omega⟩)⟩
theorem iT.notin {n:Nat}{ls:List (Int × Int)}{P:bO}{i:Nat}{D:List Int}{h:Int}{e:Option Int} (S:iT P i D) (R:Rt n ls P) (il:i < P.length) (hk:P[P.length - 1 - i]? = some (h,e)):h ∉ D:=fun z=>by
 obtain ⟨j,q,hj,hl⟩:=(S.mem h).mp z
 have:=(fR R.nd hj hk).1
 omega
theorem iT.elder {n:Nat}{ls:List (Int × Int)}{P:bO}{i:Nat}{D:List Int}{h:Int}{e:Option Int} (S:iT P i D) (R:Rt n ls P) (il:i < P.length) (hk:P[P.length - 1 - i]? = some (h,e)):∀ y ∈ D,(h,some y) ∉ P:=fun y hy z=>by
 obtain ⟨j,q,hj,hl⟩:=(S.mem y).mp hy
 cases mD R.nd z (bi0 hk)
 obtain ⟨j',q',jk,hj',_⟩:=R.par _ h y hk
 have:=(fR R.nd hj hj').1
 omega
theorem af3 {n:Nat}{ls:List (Int × Int)}{P:bO} (R:Rt n ls P):P.length<=n:=by
 have:=eV R.nd (m:=rng n) fun x hx=>(R.mem x).mp hx
 rwa [bi4,dM] at this
theorem aX5 {P:bO}{i:Nat}{y:PV} (hy:(dN P).reverse[i]? = some y):i < P.length/\∃ h e,P[P.length - 1 - i]? = some (h,e)/\y=uC (h,e):=by
 have il:i < P.length:=by have:=(bi5.mp hy).1; rwa [List.length_reverse,lC] at this
 rw [List.getElem?_reverse (by rw [lC]; exact il),lC] at hy
 unfold dN at hy
 rw [bj2] at hy
 obtain ⟨⟨h,e⟩,hk⟩:∃ p,P[P.length - 1 - i]? = some p:=⟨_,bi2 (by omega)⟩
 rw [hk] at hy
 cases hy
 exact⟨il,h,e,hk,rfl⟩
theorem af4 (n:Nat) (a b:Int):(List.replicate n [PV.tup [.int a,.int b]]).flatten=aV (List.replicate n (a,b)):=by
 induction n with
 | zero=>rfl
 | succ n ih=>rw [bn1,bs7,ih,bn1]; rfl
section
variable {n : Nat} {ls : List (Int × Int)} {P P' : bO}
theorem Rt0.pair (R:Rt0 n ls P) {h:Int} (hh:h ∈ rng n):∃ e,(h,e) ∈ P:=by
 obtain ⟨⟨h',e⟩,hp,rfl⟩:=bj8.mp ((R.mem h).mpr hh)
 exact⟨e,hp⟩
theorem Rt0.inr (R:Rt0 n ls P) {h:Int}{e:Option Int} (hp:(h,e) ∈ P):h ∈ rng n:=(R.mem h).mp (bj8.mpr ⟨_,hp,rfl⟩)
theorem af5 (R:Rt n ls P) (R':Rt n ls P'):∀ (i:Nat) (h:Int) (e':Option Int),P'[i]? = some (h,e')->(h,e') ∈ P:=by
 intro i
 induction i using Nat.strongRecOn with
 | ind i ih=>
  intro h e' hi
  cases e' with
  | none=>exact (R.root h).mpr ((R'.root h).mp (bi0 hi))
  | some g=>
   obtain ⟨j,q,ji,hj,gn⟩:=R'.par i h g hi
   obtain ⟨e,he⟩:=R.pair (R'.inr (bi0 hi))
   rcases R.done h e he g gn with z | z
   ·rw [<- z]; exact he
   ·have:=mD R.nd (ih j ji g q hj) z
    subst this
    obtain ⟨k,q2,kj,hk,_⟩:=R'.par j g h hj
    have:=(fR R'.nd hk hi).1
    omega
theorem qV (R:Rt n ls P) (R':Rt n ls P') {h:Int}{e:Option Int}:(h,e) ∈ P ↔ (h,e) ∈ P':=by
 constructor
 ·intro z; obtain ⟨i,hi⟩:=eG z; exact af5 R' R i h e hi
 ·intro z; obtain ⟨i,hi⟩:=eG z; exact af5 R R' i h e hi
theorem Rt0.leaf (R:Rt0 n ls P) (f:dB ls) {C:Int->Option Int->Prop} (step:∀ h e,(h,e) ∈ P->(∀ c ∈ aW ls h e,C c (some h))->C h e):∀ h e,(h,e) ∈ P->C h e:=by
 have key:∀ (k i:Nat) (h:Int) (e:Option Int),i+k=P.length->P[i]? = some (h,e)->C h e:=by
  intro k
  induction k using Nat.strongRecOn with
  | ind k ih=>
   intro i h e ik hi
   refine step h e (bi0 hi) fun c hc=>?_
   obtain ⟨j,hj⟩:=eG ((R.kid f (bi0 hi)).mp hc)
   obtain ⟨i',q,ij,hi',_⟩:=R.par j c h hj
   have:=(fR R.nd hi' hi).1
   have jl:=(bi5.mp hj).1
   exact ih (P.length - j) (by omega) j c (some h) (by omega) hj
 intro h e hp
 obtain ⟨i,hi⟩:=eG hp
 have il:=(bi5.mp hi).1
 exact key (P.length - i) i h e (by omega) hi
theorem aX6 {ws ps:List Int}{L L':cW} (R:Rt ws.length ls P) (R':Rt ws.length ls P') (f:dB ls) (k:oE ws ps ls P L) (k':oE ws ps ls P' L'):L=L':=by
 have same:∀ h e,(h,e) ∈ P->bG L h=bG L' h:=R.leaf f (C:=fun h _=>bG L h=bG L' h) fun h e hp ih=>by
  have a:=k.2 h e hp
  have b:=k'.2 h e ((qV R R').mp hp)
  unfold mF at a b
  rw [a,b,br1 fun c hc=>ih c hc]
 refine List.ext_getElem? fun i=>?_
 by_cases hi:i < ws.length
 ·obtain ⟨e,he⟩:=R.pair (h:=(i:Int)) (bY.mpr ⟨by omega,by omega⟩)
  have:=same _ e he
  unfold bG at this
  rw [bk4,bj0,bj0,bi2 (by rw [k.1]; exact hi),bi2 (by rw [k'.1]; exact hi)] at this
  rw [bi2 (by rw [k.1]; exact hi),bi2 (by rw [k'.1]; exact hi)]
  exact congrArg some this
 ·rw [bs9 (by rw [k.1]; omega),bs9 (by rw [k'.1]; omega)]
noncomputable def lD:Int × Option Int->Option (Int × Int)
 | (_,none)=>none
 | (h,some g)=>some (min h g,max h g)
theorem zP:∀ P:bO,P.length=(P.filterMap lD).length+(P.filter fun p=>p.2.isNone).length
 | []=>rfl
 | (h,none) :: P=>by
  have ih:=zP P
  rw [List.filterMap_cons_none (f:=lD) (a:=(h,none)) rfl,br7 rfl,bk9,bk9]; omega
 | (h,some g) :: P=>by
  have ih:=zP P
  rw [List.filterMap_cons_some (f:=lD) (a:=(h,some g)) (b:=(min h g,max h g)) rfl,bq3 (by simp),bk9,bk9]; omega
theorem af6 {P:bO}{l:Int × Int}:l ∈ P.filterMap lD ↔ ∃ h g,(h,some g) ∈ P/\l=(min h g,max h g):=by
 rw [bw1]
 constructor
 ·rintro ⟨⟨h,e⟩,hp,z⟩
  cases e with
  | none=>cases z
  | some g=>exact⟨h,g,hp,(bl2 z).symm⟩
 ·rintro ⟨h,g,hp,rfl⟩
  exact⟨_,hp,rfl⟩
theorem Rt.of_tree (w:bL n ls) (f:dB ls) (nd:(P.map (·.1)).Nodup) (mem:∀ h,h ∈ P.map (·.1) ↔ h ∈ rng n) (par:∀ (i:Nat) (h e:Int),P[i]? = some (h,some e)->∃ (j:Nat) (q:Option Int),j < i/\P[j]? = some (e,q)/\e ∈ aN ls h)
  (root:∀ h,(h,none) ∈ P->h ∈ aX ls (rng n)):Rt n ls P:=by
 have hS:=jD n
 have inr:∀ {h e},(h,e) ∈ P->h ∈ rng n:=fun {h e} hp=>(mem h).mp (bj8.mpr ⟨_,hp,rfl⟩)
 have conn:∀ (i:Nat) (h:Int) (e:Option Int),P[i]? = some (h,e)->∃ r,(r,none) ∈ P/\h ∈ comp ls (rng n) r:=by
  intro i
  induction i using Nat.strongRecOn with
  | ind i ih=>
   intro h e hi
   cases e with
   | none=>exact⟨h,bi0 hi,fQ (inr (bi0 hi))⟩
   | some g=>
    obtain ⟨j,q,ji,hj,gn⟩:=par i h g hi
    obtain ⟨r,hr,hc⟩:=ih j ji g q hj
    exact⟨r,hr,iC g hc h (jP gn) (inr (bi0 hi))⟩
 have rt:∀ h,(h,none) ∈ P ↔ h ∈ aX ls (rng n):=fun h=>⟨root h,fun hh=>by
  obtain ⟨⟨h',e⟩,hp,rfl⟩:=bj8.mp ((mem h).mpr (eF.mp hh).1)
  obtain ⟨i,hi⟩:=eG hp
  obtain ⟨r,hr,hc⟩:=conn i _ _ hi
  have:=uA hS hh (root r hr) (z:=h') (fQ (eF.mp hh).1) hc
  dsimp only at this ⊢
  rw [this]; exact hr⟩
 have order:∀ h g,(h,some g) ∈ P->(g,some h) ∈ P->False:=fun h g a b=>by
  obtain ⟨i,hi⟩:=eG a
  obtain ⟨j,hj⟩:=eG b
  obtain ⟨i',q,l1,hi',_⟩:=par i h g hi
  obtain ⟨j',q',l2,hj',_⟩:=par j g h hj
  have e1:=(fR nd hi' hj).1
  have e2:=(fR nd hj' hi).1
  omega
 have tsub:∀ l ∈ P.filterMap lD,l ∈ ls:=fun l hl=>by
  obtain ⟨h,g,hp,rfl⟩:=af6.mp hl
  obtain ⟨i,hi⟩:=eG hp
  obtain ⟨_,_,_,_,gn⟩:=par i h g hi
  rcases L2.cQ.mp gn with z | z
  ·have:=f.lt _ z
   dsimp only at this
   rw [show min h g=h by omega,show max h g=g by omega]; exact z
  ·have:=f.lt _ z
   dsimp only at this
   rw [show min h g=g by omega,show max h g=h by omega]; exact z
 have pnd:P.Nodup:=(bo3.mp nd).imp fun z e=>z (by rw [e])
 have tnd:(P.filterMap lD).Nodup:=by
  refine List.Pairwise.filterMap lD (R:=fun p q:Int × Option Int=>p ∈ P/\q ∈ P/\p.1 ≠ q.1) (fun p q hpq l hl l' hl' e=>?_) ?_
  ·obtain ⟨hp,hq,ne⟩:=hpq
   obtain ⟨h,a⟩:=p
   obtain ⟨g,b⟩:=q
   cases a with
   | none=>cases hl
   | some a=>
    cases b with
    | none=>cases hl'
    | some b=>
     cases hl
     cases hl'
     have e1:=(Prod.mk.inj e).1
     have e2:=(Prod.mk.inj e).2
     dsimp only at ne
     have x1:a=g:=by omega
     have x2:b=h:=by omega
     subst x1 x2
     exact order _ _ hp hq
  ·exact (bo3.mp nd).imp_of_mem fun {a b} ha hb z=>⟨ha,hb,z⟩
 have hl:(P.filter fun p=>p.2.isNone).length=(aX ls (rng n)).length:=by
  have a:((P.filter fun p=>p.2.isNone).map (·.1)).Nodup:=(List.Pairwise.sublist (List.filter_sublist.map _) nd)
  have m:∀ h,h ∈ (P.filter fun p=>p.2.isNone).map (·.1) ↔ h ∈ aX ls (rng n):=fun h=>by
   rw [<- rt h,bj8]
   constructor
   ·rintro ⟨⟨h',e⟩,hp,rfl⟩
    obtain ⟨h1,h2⟩:=bj6.mp hp
    cases e with
    | none=>exact h1
    | some _=>cases h2
   ·intro z; exact⟨_,bj6.mpr ⟨z,rfl⟩,rfl⟩
  have l1:=eV a fun x hx=>(m x).mp hx
  have l2:=eV (u9 (ls:=ls) hS) fun x hx=>(m x).mpr hx
  rw [bi4] at l1 l2
  omega
 have pl:P.length=n:=by
  have l1:=eV nd (m:=rng n) fun x hx=>(mem x).mp hx
  have l2:=eV (zJ hS) fun x hx=>(mem x).mpr hx
  rw [bi4,dM] at l1 l2
  omega
 have all:∀ l ∈ ls,l ∈ P.filterMap lD:=fun l hl'=>bn9 fun no=>by
  have l1:=(bo2.mpr ⟨no,tnd⟩).length_le_of_subset (l₂:=ls) fun x hx=>(bj1.mp hx).elim (fun z=>z ▸ hl') (tsub x)
  have:=zP P
  unfold bL at w
  rw [bk9] at l1
  omega
 refine⟨⟨nd,mem,par,fun h e hp x hx=>?_⟩,rt⟩
 have key:∀ l,l ∈ ls->(l=(h,x) ∨ l=(x,h))->e=some x ∨ (x,some h) ∈ P:=fun l hl' hlx=>by
  obtain ⟨a,b,hab,e1⟩:=af6.mp (all l hl')
  have lt:=f.lt l hl'
  have c:(a=h/\b=x) ∨ (a=x/\b=h):=by
   rcases hlx with z | z <;> rw [z] at e1 lt <;> (have e2:=(Prod.mk.inj e1).1; have e3:=(Prod.mk.inj e1).2; dsimp only at lt; omega)
  rcases c with ⟨rfl,rfl⟩ | ⟨rfl,rfl⟩
  ·exact .inl (mD nd hp hab)
  ·exact .inr hab
 rcases L2.cQ.mp hx with z | z
 ·exact key _ z (.inl rfl)
 ·exact key _ z (.inr rfl)
end
noncomputable def dZ (els:List (Option Int)):List PV:=els.map fP
noncomputable def dE (els:List (Option Int)) (h:Int):Option Int:=els.getD h.toNat none
structure EI (n:Nat) (ls:List (Int × Int)) (O:List Int) (els:List (Option Int)):Prop where
 nd:O.Nodup
 inn:∀ x ∈ O,x ∈ rng n
 len:els.length=n
 par:∀ (i:Nat) (h g:Int),O[i]? = some h->dE els h=some g->∃ j:Nat,j < i/\O[j]? = some g/\g ∈ aN ls h
 root:∀ h ∈ O,dE els h=none->h ∈ aX ls (rng n)
 out:∀ h ∈ rng n,h ∉ O->dE els h=none
section
variable {n : Nat} {ls : List (Int × Int)} {O : List Int} {els : List (Option Int)} {x g : Int}
theorem aX7 (h0:0<=x) {y:Int} (y0:0<=y) (ne:y ≠ x) {v:Option Int}:dE (els.set x.toNat v) y=dE els y:=by
 unfold dE
 rw [bj0,bj0,bl1 (by omega)]
theorem aX8 (h0:0<=x) (h1:x < (els.length:Int)) {v:Option Int}:dE (els.set x.toNat v) x=v:=by
 unfold dE
 rw [bj0,bn3 (by omega)]; rfl
theorem EI.put (e:EI n ls O els) (hx:x ∉ O) (xr:x ∈ rng n) (hg:g ∈ O) (gn:g ∈ aN ls x):EI n ls (O ++ [x]) (els.set x.toNat (some g)):=by
 have xm:=bY.mp xr
 have ps:∀ y ∈ rng n,y ≠ x->dE (els.set x.toNat (some g)) y=dE els y:=fun y hy ne=>aX7 xm.1 (bY.mp hy).1 ne
 have self:dE (els.set x.toNat (some g)) x=some g:=aX8 xm.1 (by rw [e.len]; exact xm.2)
 refine⟨br4.mpr ⟨e.nd,bl7 _ _,fun a ha b hb z=>hx (by rw [<- bi3.mp hb,<- z]; exact ha)⟩,fun y hy=>?_,by rw [bm3]; exact e.len,fun i h g' hi hel=>?_,fun h hh hel=>?_,fun h hr hh=>?_⟩
 ·rcases bi7.mp hy with z | z
  ·exact e.inn y z
  ·rw [bi3.mp z]; exact xr
 ·by_cases il:i < O.length
  ·rw [bl8 il] at hi
   have hm:=bi0 hi
   rw [ps h (e.inn h hm) fun z=>hx (z ▸ hm)] at hel
   obtain ⟨j,ji,hj,gn⟩:=e.par i h g' hi hel
   exact⟨j,ji,by rw [bl8 (by omega)]; exact hj,gn⟩
  ·rw [bt8 (by omega)] at hi
   have:h=x:=bi3.mp (bi0 hi)
   subst this
   rw [self] at hel
   cases hel
   obtain ⟨j,hj⟩:=br3.mp hg
   have jl:=(bi5.mp hj).1
   exact⟨j,by omega,by rw [bl8 jl]; exact hj,gn⟩
 ·rcases bi7.mp hh with z | z
  ·rw [ps h (e.inn h z) fun q=>hx (q ▸ z)] at hel
   exact e.root h z hel
  ·rw [bi3.mp z,self] at hel; cases hel
 ·rw [ps h hr fun z=>hh (by rw [z]; exact bk5 _ (bt5 _))]
  exact e.out h hr fun z=>hh (bk7 _ z)
theorem EI.rt (e:EI n ls O els) (hx:x ∉ O) (xh:x ∈ aX ls (rng n)):EI n ls (O ++ [x]) els:=by
 have xr:=(eF.mp xh).1
 refine⟨br4.mpr ⟨e.nd,bl7 _ _,fun a ha b hb z=>hx (by rw [<- bi3.mp hb,<- z]; exact ha)⟩,fun y hy=>?_,e.len,fun i h g' hi hel=>?_,fun h hh hel=>?_,fun h hr hh=>e.out h hr fun z=>hh (bk7 _ z)⟩
 ·rcases bi7.mp hy with z | z
  ·exact e.inn y z
  ·rw [bi3.mp z]; exact xr
 ·by_cases il:i < O.length
  ·rw [bl8 il] at hi
   obtain ⟨j,ji,hj,gn⟩:=e.par i h g' hi hel
   exact⟨j,ji,by rw [bl8 (by omega)]; exact hj,gn⟩
  ·rw [bt8 (by omega)] at hi
   have:h=x:=bi3.mp (bi0 hi)
   subst this
   rw [e.out h xr hx] at hel; cases hel
 ·rcases bi7.mp hh with z | z
  ·exact e.root h z hel
  ·rw [bi3.mp z]; exact xh
theorem EI.le (e:EI n ls O els):O.length<=n:=by
 have:=eV e.nd (m:=rng n) e.inn
 rwa [dM] at this
theorem EI.head (e:EI n ls O els) (sh:eC ls (rng n) O) (hx:x ∉ O) (xr:x ∈ rng n) (low:∀ y ∈ rng n,y < x->y ∈ O):x ∈ aX ls (rng n):=by
 refine qS (jD n) xr (U:=(rng n).filter fun y=>!decide (y ∈ O)) (fun a ha b hb br=>?_) (bj6.mpr ⟨xr,by rw [bj5 hx]; rfl⟩) fun y hy yr=>?_
 ·obtain ⟨a1,a2⟩:=bj6.mp ha
  refine bj6.mpr ⟨br,?_⟩
  have:b ∉ O:=fun z=>by
   have:=sh b z a (jP hb) a1
   rw [bi6 this] at a2; cases a2
  rw [bj5 this]; rfl
 ·have y2:=(bj6.mp hy).2
  refine bn9 fun no=>?_
  rw [bi6 (low y yr (by omega))] at y2; cases y2
noncomputable def jE (O:List Int) (els:List (Option Int)):bO:=O.map fun h=>(h,dE els h)
theorem EI.all (e:EI n ls O els) (w:bL n ls) (f:dB ls) (all:∀ y ∈ rng n,y ∈ O):Rt n ls (jE O els):=by
 have m1:(jE O els).map (·.1)=O:=by unfold jE; rw [bm7]; exact List.map_id'' (fun _=>rfl) _
 have at_:∀ (i:Nat) (h:Int) (q:Option Int),(jE O els)[i]? = some (h,q) ↔ O[i]? = some h/\q=dE els h:=fun i h q=>by
  unfold jE
  rw [bj2]
  cases z:O[i]? with
  | none=>simp
  | some y=>
   constructor
   ·intro q'; cases q'; exact⟨rfl,rfl⟩
   ·rintro ⟨q1,q2⟩; cases q1; rw [q2]; rfl
 refine Rt.of_tree w f (by rw [m1]; exact e.nd) (fun h=>by rw [m1]; exact⟨e.inn h,all h⟩) (fun i h g hi=>?_) fun h hh=>?_
 ·obtain ⟨h1,h2⟩:=(at_ i h _).mp hi
  obtain ⟨j,ji,hj,gn⟩:=e.par i h g h1 h2.symm
  exact⟨j,dE els g,ji,(at_ j g _).mpr ⟨hj,rfl⟩,gn⟩
 ·obtain ⟨i,hi⟩:=eG hh
  obtain ⟨h1,h2⟩:=(at_ i h _).mp hi
  exact e.root h (bi0 h1) h2.symm
end
structure mG (n:Nat) (ls:List (Int × Int)) (els:List (Option Int)) (O:List Int):Prop where
 len:els.length=n
 rt:Rt n ls (jE O els)
noncomputable def uG:bK:=fun xs Q=>∃ ws ls,xs = [b6 ws ls]/\Wb ws ls/\c7 ws.length ls/\bL ws.length ls/\∀ els O,mG ws.length ls els O->Q (.tup [.lst (dZ els),.lst (intz O)])
noncomputable def af7:aK:=(dS (cR (bA (a5 1) (bA (a5 3) (a5 5)))) (bX 6)
     (cD (bD (q2 (nF true) (a5 6) (a5 3))) (aE (kS 2 (a5 6) (bA (a5 3) (a5 5)))
      (gT 3 (a5 6))) cH))
noncomputable def zQ:aK:=(lT (bD (nI (a5 5) (aB dH (a6 (a5 3) a9))))
    (aE af7
    (b4 5 (cB (a5 5) (qC (.int 1))))))
noncomputable def af8:aK:=(aE (b4 1 (aB tY (a6 (a5 0) a9)))
 (aE (dR 2 (qK (dQ (a6 (qC .non) a9)) (aB dH (a6 (bA (a5 0) (qC (.int 0))) a9))))
 (aE (dR 3 (dQ a9))
 (aE (dS (j5 (aB dH (a6 (bA (a5 0) (qC (.int 0))) a9))) (bX 4)
  (cD (bD (q2 (nF true) (a5 4) (a5 3))) (aE (gT 3 (a5 4))
   (aE (b4 5 (jV (aB dH (a6 (a5 3) a9)) (qC (.int 1))))
   zQ)) cH))
 (mZ 2 (mZ 3 (bN (wP (a6 (a5 2) (a6 (a5 3) a9))))))))))
section
variable {n : Nat} {ls : List (Int × Int)} {O : List Int} {els : List (Option Int)} {E : g6} {s0 s4 y6 : Option Slot} {t : Nat} {cur : Int}
theorem aX9 (n40:n<=40) (lk:c7 n ls) (e:EI n ls O els) (hc:O[t]? = some cur) (sh:∀ (i:Nat) (h:Int),i < t->O[i]? = some h->∀ y ∈ aN ls h,y ∈ O)
  (nx:∀ O' els' y6,EI n ls O' els'->(∀ (i:Nat) (h:Int),O[i]? = some h->O'[i]? = some h)->(∀ y ∈ aN ls cur,y ∈ O')->E.nx [s0,some (.sh true (.lst (bT n ls))),some (.own (.lst (dZ els'))),some (.own (.lst (intz O'))),s4,si t,y6]) :
  af7 E [s0,some (.sh true (.lst (bT n ls))),some (.own (.lst (dZ els))),some (.own (.lst (intz O))),s4,si t,y6]:=by
 have cm:=bi0 hc
 have cr:=bY.mp (e.inn cur cm)
 have atc:∀ O':List Int,O'[t]? = some cur->L2.atI (intz O') (t:Int)=some (.int cur):=fun O' h=>jI (by unfold intz; rw [bj2,h]; rfl)
 refine⟨_,rfl,_,rfl,_,rfl,_,_,_,rfl,rfl,atc O hc,_,_,_,rfl,rfl,tF cr.1 cr.2,intz (aN ls cur),rfl,(fun z=>by cases z),fun j ρ=>∃ (O':List Int) (els':List (Option Int)) (y6:Option Slot),ρ = [s0,some (.sh true (.lst (bT n ls))),some (.own (.lst (dZ els'))),some (.own (.lst (intz O'))),s4,si t,y6]/\EI n ls O' els'/\(∀ (i:Nat) (h:Int),O[i]? = some h->O'[i]? = some h)/\∀ y ∈ (aN ls cur).take j,y ∈ O',⟨O,els,y6,rfl,e,fun _ _ z=>z,fun y hy=>by rw [List.take_zero] at hy; cases hy⟩,?_,?_⟩
 ·rintro j y ρ hy ⟨O',els',y6,rfl,e',kp,dn⟩
  obtain ⟨x,rfl,hx⟩:=gV hy
  have xn:=bi0 hx
  have xr:=lk.inr cur x xn
  have xm:=bY.mp xr
  have tk:(aN ls cur).take (j+1)=(aN ls cur).take j ++ [x]:=by rw [bm4,hx]; rfl
  have ol:=e'.le
  refine iB ?_
  refine⟨_,rfl,_,rfl,x,O',rfl,rfl,_,rfl,?_⟩
  show if (!decide (x ∈ O'))=true then _ else _
  by_cases z:x ∈ O'
  ·rw [bi6 z]
   refine bF ⟨O',els',_,rfl,e',kp,fun y hy=>?_⟩
   rw [tk] at hy
   rcases bi7.mp hy with q | q
   ·exact dn y q
   ·rw [bi3.mp q]; exact z
  ·rw [bj5 z]
   have lo:(dZ els').length=n:=by unfold dZ; rw [bi4]; exact e'.len
   refine bJ ⟨_,rfl,_,rfl,_,_,_,rfl,rfl,atc O' (kp t cur hc),dZ els',rfl,_,rfl,x,x.toNat,rfl,?_,rfl,?_⟩
   ·rw [lo]; unfold eL; rw [if_pos (by omega),if_pos (by omega)]
   refine⟨_,rfl,_,rfl,trivial,by rw [b8]; omega,O' ++ [x],els'.set x.toNat (some cur),si x,?_,e'.put z xr (bi0 (kp t cur hc)) (jP xn),fun i h hi=>by rw [bl8 (bi5.mp (kp i h hi)).1]; exact kp i h hi,fun y hy=>?_⟩
   ·have q1:dZ (els'.set x.toNat (some cur))=(dZ els').set x.toNat (.int cur):=by unfold dZ; rw [List.map_set]; rfl
    show _ = [_,_,some (Slot.own (.lst (dZ (els'.set x.toNat (some cur))))),some (Slot.own (.lst (intz (O' ++ [x])))),_,_,_]
    rw [q1,eN]; rfl
   ·rw [tk] at hy
    rcases bi7.mp hy with q | q
    ·exact bk7 _ (dn y q)
    ·rw [bi3.mp q]; exact bk5 _ (bt5 _)
 ·rintro ρ ⟨O',els',y6,rfl,e',kp,dn⟩
  rw [b8,bl6 (bi8 _)] at dn
  exact nx O' els' y6 e' kp dn
theorem aY0 (n40:n<=40) (lk:c7 n ls) (e:EI n ls O els) (tl:t<=O.length) (sh:∀ (i:Nat) (h:Int),i < t->O[i]? = some h->∀ y ∈ aN ls h,y ∈ O)
  (nx:∀ O' els' y5 y6,EI n ls O' els'->eC ls (rng n) O'->(∀ x ∈ O,x ∈ O')->E.nx [s0,some (.sh true (.lst (bT n ls))),some (.own (.lst (dZ els'))),some (.own (.lst (intz O'))),s4,y5,y6]) :
  zQ E [s0,some (.sh true (.lst (bT n ls))),some (.own (.lst (dZ els))),some (.own (.lst (intz O))),s4,si t,y6]:=by
 refine⟨fun m ρ=>∃ (O':List Int) (els':List (Option Int)) (t:Nat) (y6:Option Slot),ρ = [s0,some (.sh true (.lst (bT n ls))),some (.own (.lst (dZ els'))),some (.own (.lst (intz O'))),s4,si t,y6]/\EI n ls O' els'/\t<=O'.length/\(∀ (i:Nat) (h:Int),i < t->O'[i]? = some h->∀ y ∈ aN ls h,y ∈ O')/\(∀ x ∈ O,x ∈ O')/\m=n - t,⟨_,O,els,t,y6,rfl,e,tl,sh,fun _ z=>z,rfl⟩,?_⟩
 rintro m ρ ⟨O',els',t,y6,rfl,e',tl,sh,sub,rfl⟩
 have ol:=e'.le
 refine⟨_,rfl,_,rfl,_,_,rfl,rfl,_,_,rfl,rfl,_,rfl,?_⟩
 rw [b8]
 by_cases lt:t < O'.length
 ·rw [bi6 (by omega)]
  obtain ⟨cur,hc⟩:∃ c,O'[t]? = some c:=⟨_,bi2 lt⟩
  refine bJ (aX9 n40 lk e' hc sh fun O2 els2 y6 e2 kp dn=>?_)
  refine⟨_,rfl,_,_,rfl,rfl,trivial,n - (t+1),by omega,O2,els2,t+1,y6,rfl,e2,?_,fun i h it hi y hy=>?_,fun x hx=>?_,rfl⟩
  ·have:=(bi5.mp (kp t cur hc)).1; omega
  ·have i2:=(bi5.mp (kp t cur hc)).1
   by_cases e1:i=t
   ·subst e1
    rw [kp i cur hc] at hi
    cases hi
    exact dn y hy
   ·obtain ⟨h',hh'⟩:∃ c,O'[i]? = some c:=⟨_,bi2 (by omega)⟩
    rw [kp i h' hh'] at hi
    cases hi
    obtain ⟨k,hk⟩:=br3.mp (sh i h (by omega) hh' y hy)
    exact bi0 (kp k y hk)
  ·obtain ⟨k,hk⟩:=br3.mp (sub x hx)
   exact bi0 (kp k x hk)
 ·rw [bj5 (by omega)]
  refine bF (nx O' els' _ _ e' (fun x hx y hy _=>?_) sub)
  obtain ⟨i,hi⟩:=br3.mp hx
  have il:=(bi5.mp hi).1
  exact sh i x (by omega) hi y hy
end
theorem aY1 {a b:PV × Tg} (ha:Nw a.2 a.1) (hb:Nw b.2 b.1):kR [a,b]:=by
 intro p hp
 simp only [bj1,bl0,bq2] at hp
 rcases hp with rfl | rfl
 ·exact ha
 ·exact hb
theorem af9 (n:Nat):(List.replicate n [PV.non]).flatten=dZ (List.replicate n none):=by
 induction n with
 | zero=>rfl
 | succ n ih=>rw [bn1,bs7,ih,bn1]; rfl
theorem aY2 (els:List (Option Int)):flats (dZ els)=true:=by
 induction els with
 | nil=>rfl
 | cons e r ih=>
  show (flat (fP e) && flats (dZ r))=true
  rw [ih]; cases e <;> rfl
theorem aY3:cI af8 ["web","beside","elders","order","root","at","other"] uG:=by
 rintro xs Q ⟨ws,ls,rfl,wb,lk,w,q⟩
 have few:=wb.few
 refine⟨_,rfl,ws,ls,rfl,wb,trivial,?_⟩
 refine⟨by show 1<=1000; decide,rfl,_,rfl,_,_,_,rfl,rfl,rfl,_,_,rfl,rfl,_,_,rfl,by rw [b8],rfl,by omega,by omega,by show 1<=10; decide,rfl,?_,?_⟩
 ·show flats (List.replicate (ws.length:Int).toNat [PV.non]).flatten=true
  rw [af9]; exact aY2 _
 show (aE _ _) _ [_,_,some (Slot.own (.lst (List.replicate (ws.length:Int).toNat [PV.non]).flatten)),_,_,_,_]
 rw [af9,bk4]
 refine⟨by decide,rfl,rfl,rfl,?_⟩
 refine⟨_,rfl,_,_,_,rfl,rfl,rfl,_,_,rfl,rfl,ws.length,by rw [b8],by omega,by omega,fun r ρ=>∃ (O:List Int) (els:List (Option Int)) (y4 y5 y6:Option Slot),ρ = [some (.sh (flat (b6 ws ls)) (b6 ws ls)),some (.sh true (.lst (bT ws.length ls))),some (.own (.lst (dZ els))),some (.own (.lst (intz O))),y4,y5,y6]/\EI ws.length ls O els/\eC ls (rng ws.length) O/\∀ y ∈ rng ws.length,y < (r:Int)->y ∈ O,⟨[],_,none,none,none,rfl,⟨bu1,(fun _ z=>by cases z),bs8,(fun i h g hi=>by cases hi),(fun _ z=>by cases z),fun h hr _=>?_⟩,(fun _ z=>by cases z),fun y hy lt=>?_⟩,?_,?_⟩
 ·unfold dE
  rw [bj0,List.getElem?_replicate]
  split <;> rfl
 ·have:=(bY.mp hy).1; omega
 ·rintro r y ρ hy ⟨O,els,y4,y5,y6,rfl,e,sh,low⟩
  obtain ⟨rfl,hr⟩:=jA hy
  have hr:r < ws.length:=by omega
  have rr:(r:Int) ∈ rng ws.length:=bY.mpr ⟨by omega,by omega⟩
  have ol:=e.le
  refine iB ?_
  rw [bx0]
  refine⟨_,rfl,_,rfl,(r:Int),O,rfl,rfl,_,rfl,?_⟩
  show if (!decide ((r:Int) ∈ O))=true then _ else _
  by_cases z:(r:Int) ∈ O
  ·rw [bi6 z]
   refine bF ⟨O,els,_,_,_,rfl,e,sh,fun y hy lt=>?_⟩
   by_cases q:y=r
   ·rw [q]; exact z
   ·exact low y hy (by omega)
  ·rw [bj5 z]
   have e2:=e.rt z (e.head sh z rr low)
   refine bJ ⟨_,rfl,_,rfl,trivial,by rw [b8]; omega,?_⟩
   refine⟨_,rfl,_,_,rfl,rfl,_,_,rfl,rfl,trivial,?_⟩
   have q1:intz O ++ [PV.int (r:Int)]=intz (O ++ [(r:Int)]):=by rw [eN]; rfl
   show zQ _ [_,_,_,some (Slot.own (.lst (intz O ++ [PV.int (r:Int)]))),_,si (((intz O ++ [PV.int (r:Int)]).length:Int) - 1),_]
   rw [q1,b8,bj4,show ((O.length + [(r:Int)].length:Nat):Int) - 1=(O.length:Int) by show ((O.length+1:Nat):Int) - 1=_; omega]
   refine aY0 few lk e2 (by rw [bj4]; omega) (fun i h it hi y hy=>?_) fun O' els' y5 y6 e' sh' sub=>⟨O',els',_,y5,y6,rfl,e',sh',fun y hy lt=>?_⟩
   ·rw [bl8 it] at hi
    exact bk7 _ (sh h (bi0 hi) y hy (lk.inr h y hy))
   ·by_cases q:y=r
    ·rw [q]; exact sub _ (bk5 _ (bt5 _))
    ·exact sub y (bk7 _ (low y hy (by omega)))
 ·rintro ρ ⟨O,els,y4,y5,y6,rfl,e,sh,low⟩
  rw [gA,bk4] at low
  exact⟨_,rfl,_,rfl,_,rfl,_,rfl,by show 2<=1000; decide,aY1 trivial trivial,trivial,q els O ⟨e.len,e.all w lk.fit fun y hy=>low y hy (bY.mp hy).2⟩⟩
theorem aY4 {els:List (Option Int)}{h:Int} (h0:0<=h) (h1:h < (els.length:Int)):L2.atI (dZ els) h=some (fP (dE els h)):=by
 obtain ⟨j,rfl⟩:∃ j:Nat,h=j:=⟨h.toNat,by omega⟩
 refine jI ?_
 unfold dZ dE
 rw [bk4,bj2,bj0,bi2 (by omega)]; rfl
section
variable {ws ps : List Int} {ls : List (Int × Int)} {P : bO} {L : cW} {S O : List Int} {n : Nat}
noncomputable def kH (P:bO):List Int:=(P.filter fun p=>p.2.isNone).map (·.1)
theorem ag0 {α:Type} (f:Int->Int) (g:α->List Int):∀ l:List α,((l.flatMap g).map f).sum=(l.map fun p=>((g p).map f).sum).sum
 | []=>rfl
 | x :: r=>by rw [List.flatMap_cons,bk2,List.sum_append,ag0 f g r,bm0,bo8]
theorem ag1 {α:Type} (f g:α->Int):∀ l:List α,(l.map fun x=>f x+g x).sum=(l.map f).sum+(l.map g).sum
 | []=>rfl
 | x :: r=>by rw [bm0,bm0,bm0,bo8,bo8,bo8,ag1 f g r]; omega
theorem aY5 (R:Rt0 n ls P) (f:dB ls):(P.flatMap fun p=>aW ls p.1 p.2).Perm ((P.filter fun p=>p.2.isSome).map (·.1)):=by
 refine (br9 ?_ (List.Pairwise.sublist (List.filter_sublist.map _) R.nd)).mpr fun c=>?_
 ·refine List.pairwise_flatMap.mpr ⟨fun p _=>(f.nnd p.1).filter _,?_⟩
  refine (bo3.mp R.nd).imp_of_mem fun {p q} hp hq ne x hx y hy e=>ne ?_
  subst e
  have a:=(R.kid f (h:=p.1) (e:=p.2) hp).mp hx
  have b:=(R.kid f (h:=q.1) (e:=q.2) hq).mp hy
  exact bl2 (mD R.nd a b)
 ·rw [List.mem_flatMap,bj8]
  constructor
  ·rintro ⟨p,hp,hc⟩
   exact⟨(c,some p.1),bj6.mpr ⟨(R.kid f (h:=p.1) (e:=p.2) hp).mp hc,rfl⟩,rfl⟩
  ·rintro ⟨⟨c',e⟩,hq,rfl⟩
   obtain ⟨h1,h2⟩:=bj6.mp hq
   cases e with
   | none=>cases h2
   | some g=>
    obtain ⟨i,hi⟩:=eG h1
    obtain ⟨j,q,_,hj,_⟩:=R.par i c' g hi
    exact⟨(g,q),bi0 hj,(R.kid f (bi0 hj)).mpr h1⟩
theorem zR (F:Int × Option Int->Int):∀ P:bO,(P.map F).sum=((P.filter fun p=>p.2.isSome).map F).sum+((P.filter fun p=>p.2.isNone).map F).sum
 | []=>rfl
 | (h,none) :: P=>by
  rw [bq3 (by simp),br7 rfl,bm0,bm0,bo8,bo8,zR F P]; omega
 | (h,some g) :: P=>by
  rw [br7 rfl,bq3 (by simp),bm0,bm0,bo8,bo8,zR F P]; omega
end
noncomputable def IsL (y:PV) (L:cW):Prop:=y = .tup (aV L) ∨ y = .lst (aV L)
theorem aY6 {P:bO}{i:Nat}{y:PV} (hy:(dN P)[i]? = some y):∃ h e,P[i]? = some (h,e)/\y = .tup [.int h,fP e]:=by
 unfold dN at hy
 rw [bj2] at hy
 cases z:P[i]? with
 | none=>rw [z] at hy; cases hy
 | some p=>rw [z] at hy; obtain ⟨h,e⟩:=p; exact⟨h,e,rfl,(bl2 hy).symm⟩
theorem mG.pair {n:Nat}{ls:List (Int × Int)}{els:List (Option Int)}{O:List Int} (B:mG n ls els O) {h:Int} (hr:h ∈ rng n):(h,dE els h) ∈ jE O els:=by
 obtain ⟨e,he⟩:=B.rt.pair hr
 have he2:=he
 unfold jE at he
 obtain ⟨h',hm,e1⟩:=bj8.mp he
 cases e1
 exact he2
theorem mG.iff {n:Nat}{ls:List (Int × Int)}{els:List (Option Int)}{O:List Int} (B:mG n ls els O) {h:Int}{e:Option Int}:(h,e) ∈ jE O els ↔ h ∈ rng n/\e=dE els h:=by
 refine⟨fun z=>⟨B.rt.inr z,?_⟩,fun z=>by rw [z.2]; exact B.pair z.1⟩
 unfold jE at z
 obtain ⟨h',hm,e1⟩:=bj8.mp z
 cases e1; rfl
theorem aY7 {n:Nat}{ls:List (Int × Int)}{P:bO}{els:List (Option Int)}{O:List Int} (R:Rt n ls P) (B:mG n ls els O):(kH P).Perm ((rng n).filter fun h=>(dE els h).isNone):=by
 have nd:(kH P).Nodup:=by
  unfold kH
  exact (List.filter_sublist.map _).nodup R.nd
 refine (br9 nd ((X9 n).filter _)).mpr fun h=>?_
 unfold kH
 rw [bj8,bj6]
 constructor
 ·rintro ⟨⟨h',e⟩,hm,rfl⟩
  obtain ⟨m1,m2⟩:=bj6.mp hm
  obtain ⟨hr,rfl⟩:=B.iff.mp ((qV R B.rt).mp m1)
  exact⟨hr,m2⟩
 ·rintro ⟨hr,hn⟩
  exact⟨(h,dE els h),bj6.mpr ⟨(qV R B.rt).mpr (B.pair hr),hn⟩,rfl⟩
noncomputable abbrev fU (L:cW) (c:Int):Int:=(bG L c).2 - (bG L c).1
noncomputable def dD (ws:List Int) (A:List Int) (h:Int) (e:Option Int):Int:=if e.isSome=true/\h ∉ A then max 0 (ws.getD h.toNat 0 - 1) else ws.getD h.toNat 0
noncomputable def fV (L:cW) (A:List Int) (h:Int) (e:Option Int):Int:=if e.isSome=true/\h ∉ A then (bG L h).1 else (bG L h).2
structure ChM (ws ps:List Int) (ls:List (Int × Int)) (L:cW) (A:List Int) (h:Int) (e:Option Int) (M:List Int):Prop where
 nd:M.Nodup
 sub:∀ c ∈ M,c ∈ aW ls h e
 len:(M.length:Int)=dD ws A h e
 sum:(M.map (fU L)).sum=((cV (dC ((aW ls h e).map (bG L)))).take M.length).sum
 le:(M.map (fU L)).sum<=ps.getD h.toNat 0
 mem:∀ c ∈ aW ls h e,c ∈ A ↔ c ∈ M
noncomputable def lE (ws ps:List Int) (ls:List (Int × Int)) (L:cW) (A S:List Int) (h:Int) (e:Option Int):Prop:=
 (h ∈ S/\(∀ c ∈ aW ls h e,c ∉ A)/\¬ (dD ws A h e<=((aW ls h e).length:Int)/\((cV (dC ((aW ls h e).map (bG L)))).take (dD ws A h e).toNat).sum<=ps.getD h.toNat 0)) ∨ (h ∉ S/\∃ M,ChM ws ps ls L A h e M)
section
variable {ws ps : List Int} {ls : List (Int × Int)} {P : bO} {L : cW} {A S : List Int} {h : Int} {e : Option Int}
theorem ag2 (nn:NN ws):0<=dD ws A h e:=by
 have:=o8 nn h.toNat
 unfold dD; split <;> omega
theorem aY8 (k:mF ws ps ls L h e):fV L A h e=oC (dD ws A h e) (ps.getD h.toNat 0) ((aW ls h e).map (bG L)):=by
 unfold mF at k
 unfold fV dD
 rw [k]
 by_cases z:e.isSome=true/\h ∉ A
 ·rw [if_pos z,if_pos z]; rfl
 ·rw [if_neg z,if_neg z]; rfl
theorem ag3 (g:Int):∀ l:List Int,(l.map fun c=>fV L A c (some g)).sum=(l.map fun c=>(bG L c).1).sum+((l.filter fun c=>decide (c ∈ A)).map (fU L)).sum
 | []=>rfl
 | x :: r=>by
  rw [bm0,bo8,ag3 g r,bm0,bo8,bs3]
  by_cases z:x ∈ A
  ·rw [if_pos (bi6 z),bm0,bo8,show fV L A x (some g)=(bG L x).2 from if_neg fun q=>q.2 z]
   show _=_+((bG L x).2 - (bG L x).1+_)
   omega
  ·rw [if_neg (by simpa using z),show fV L A x (some g)=(bG L x).1 from if_pos ⟨rfl,z⟩]; omega
theorem aY9 (f:dB ls) (nn:NN ws) (k:mF ws ps ls L h e) (c:lE ws ps ls L A S h e):fV L A h e=((aW ls h e).map fun c=>fV L A c (some h)).sum+(if h ∈ S then ps.getD h.toNat 0 else 0):=by
 have k0:0<=dD ws A h e:=ag2 nn
 rw [aY8 k,ag3]
 unfold oC
 rw [bm7,bi4]
 show (((aW ls h e).map fun c=>(bG L c).1).sum)+_=_
 rcases c with ⟨hS,no,big⟩ | ⟨hS,M,m⟩
 ·rw [bv8.mpr fun c hc=>by simpa using no c hc,if_pos hS]
  show _=_+0+_
  by_cases z:dD ws A h e<=((aW ls h e).length:Int)
  ·rw [if_pos z]
   have : ¬ ((cV (dC ((aW ls h e).map (bG L)))).take (dD ws A h e).toNat).sum<=ps.getD h.toNat 0:=fun q=>big ⟨z,q⟩
   omega
  ·rw [if_neg z]; omega
 ·have pm:((aW ls h e).filter fun c=>decide (c ∈ A)).Perm M:=(br9 (((f.nnd h).filter _).filter _) m.nd).mpr fun c=>by
   rw [bj6,bq6]
   exact⟨fun z=>(m.mem c z.1).mp z.2,fun z=>⟨m.sub c z,(m.mem c (m.sub c z)).mpr z⟩⟩
  have ml:M.length<=(aW ls h e).length:=eV m.nd m.sub
  rw [qM (pm.map (fU L)),if_neg hS,if_pos (by have:=m.len; omega),<- m.len,bk4,<- m.sum]
  have:=m.le
  omega
theorem aZ0 (R:Rt0 ws.length ls P) (f:dB ls) (nn:NN ws) (k:oE ws ps ls P L) (nd:S.Nodup) (sub:∀ s ∈ S,s ∈ rng ws.length) (ch:∀ h e,(h,e) ∈ P->lE ws ps ls L A S h e):(S.map fun s=>ps.getD s.toNat 0).sum=((kH P).map fun r=>(bG L r).2).sum:=by
 have l1:(P.map fun p=>fV L A p.1 p.2)=P.map fun p=>((aW ls p.1 p.2).map fun c=>fV L A c (some p.1)).sum+(if p.1 ∈ S then ps.getD p.1.toNat 0 else 0):=br1 fun p hp=>aY9 f nn (k.2 p.1 p.2 hp) (ch p.1 p.2 hp)
 have l1:=congrArg List.sum l1
 rw [ag1] at l1
 have l2:(P.map fun p=>((aW ls p.1 p.2).map fun c=>fV L A c (some p.1)).sum).sum=((P.filter fun p=>p.2.isSome).map fun p=>fV L A p.1 p.2).sum:=by
  have a:(P.map fun p=>((aW ls p.1 p.2).map fun c=>fV L A c (some p.1)).sum)=P.map fun p=>((aW ls p.1 p.2).map fun c=>fV L A c (some 0)).sum:=rfl
  rw [a,<- ag0 (fun c=>fV L A c (some 0)) (fun p:Int × Option Int=>aW ls p.1 p.2) P,qM ((aY5 R f).map _),bm7]
  congr 1
  refine br1 fun p hp=>?_
  obtain ⟨h,e⟩:=p
  obtain ⟨_,z⟩:=bj6.mp hp
  cases e with
  | none=>cases z
  | some g=>rfl
 have l3:(P.map fun p=>if p.1 ∈ S then ps.getD p.1.toNat 0 else 0).sum=(S.map fun s=>ps.getD s.toNat 0).sum:=by
  have a:∀ l:List Int,(l.map fun h=>if h ∈ S then ps.getD h.toNat 0 else 0).sum=((l.filter fun h=>decide (h ∈ S)).map fun s=>ps.getD s.toNat 0).sum:=fun l=>by
   induction l with
   | nil=>rfl
   | cons x r ih=>
    rw [bm0,bo8,ih,bs3]
    by_cases z:x ∈ S
    ·rw [if_pos z,if_pos (bi6 z),bm0,bo8]
    ·rw [if_neg z,if_neg (by simpa using z)]; omega
  have b:=a (P.map (·.1))
  rw [bm7] at b
  rw [show (P.map fun p=>if p.1 ∈ S then ps.getD p.1.toNat 0 else 0)=P.map ((fun h=>if h ∈ S then ps.getD h.toNat 0 else 0) ∘ fun p:Int × Option Int=>p.1) from rfl,b]
  refine qM (List.Perm.map _ ((br9 (R.nd.filter _) nd).mpr fun x=>?_))
  rw [bj6,bq6]
  exact⟨fun z=>z.2,fun z=>⟨(R.mem x).mpr (sub x z),z⟩⟩
 have l4:=zR (fun p=>fV L A p.1 p.2) P
 have l5:((P.filter fun p=>p.2.isNone).map fun p=>fV L A p.1 p.2).sum=((kH P).map fun r=>(bG L r).2).sum:=by
  unfold kH
  rw [bm7]
  congr 1
  refine br1 fun p hp=>?_
  obtain ⟨h,e⟩:=p
  obtain ⟨_,z⟩:=bj6.mp hp
  cases e with
  | none=>exact if_neg fun q=>by cases q.1
  | some g=>cases z
 rw [l2,l3] at l1
 omega
theorem aZ1 (R:Rt0 ws.length ls P) (f:dB ls) (nn:NN ws) (ch:∀ h e,(h,e) ∈ P->lE ws ps ls L A S h e):l9 ws ls S=true:=by
 refine qQ.mpr fun U sh sub=>?_
 have one:∀ h e,(h,e) ∈ P->(e=none ∨ h ∈ A ∨ h ∈ S)->h ∈ U:=R.leaf f (C:=fun h e=>(e=none ∨ h ∈ A ∨ h ∈ S)->h ∈ U) fun h e hp ih c=>by
  rcases ch h e hp with ⟨hS,_⟩ | ⟨hS,M,m⟩
  ·exact sub h hS
  ·refine ae5 sh (R.inr hp) m.nd (fun z hz=>⟨(gY.mp (m.sub z hz)).1,ih z (m.sub z hz) (.inr (.inl ((m.mem z (m.sub z hz)).mpr hz)))⟩) ?_
   rw [m.len]
   unfold dD
   rw [if_neg fun q=>?_]
   ·exact Int.le_refl _
   ·rcases c with c | c | c
    ·rw [c] at q; cases q.1
    ·exact q.2 c
    ·exact hS c
 have two:∀ (i:Nat) (h:Int) (e:Option Int),P[i]? = some (h,e)->h ∈ U:=by
  intro i
  induction i using Nat.strongRecOn with
  | ind i ih=>
   intro h e hi
   have hp:=bi0 hi
   by_cases c:e=none ∨ h ∈ A ∨ h ∈ S
   ·exact one h e hp c
   cases e with
   | none=>exact absurd (.inl rfl) c
   | some g=>
    obtain ⟨j,q,ji,hj,gn⟩:=R.par i h g hi
    rcases ch h _ hp with ⟨hS,_⟩ | ⟨hS,M,m⟩
    ·exact sub h hS
    ·refine ae5 sh (R.inr hp) (L:=g :: M) (bo2.mpr ⟨fun z=>(gY.mp (m.sub g z)).2 rfl,m.nd⟩) (fun z hz=>?_) ?_
     ·rcases bj1.mp hz with y | y
      ·rw [y]; exact⟨gn,ih j ji g q hj⟩
      ·exact⟨(gY.mp (m.sub z y)).1,one z (some h) ((R.kid f hp).mp (m.sub z y)) (.inr (.inl ((m.mem z (m.sub z y)).mpr y)))⟩
     ·rw [bk9]
      have:=m.len
      unfold dD at this
      split at this <;> omega
 intro h hh
 obtain ⟨⟨h',e⟩,hp,rfl⟩:=bj8.mp ((R.mem h).mpr hh)
 obtain ⟨i,hi⟩:=eG hp
 exact two i h' e hi
end
structure iD (ws ps:List Int) (ls:List (Int × Int)) (P:bO) (L:cW) (i:Nat) (A S:List Int):Prop where
 ina:∀ a ∈ A,∃ (j:Nat) (g:Int) (q:Option Int),j < i/\P[j]? = some (g,q)/\a ∈ aW ls g q
 ins:∀ s ∈ S,∃ (j:Nat) (q:Option Int),j < i/\P[j]? = some (s,q)
 nd:S.Nodup
 ok:∀ (j:Nat) (h:Int) (e:Option Int),j < i->P[j]? = some (h,e)->lE ws ps ls L A S h e
section
variable {ws ps : List Int} {ls : List (Int × Int)} {P : bO} {L : cW} {A A' S S' M : List Int} {h : Int} {e : Option Int} {i : Nat}
theorem iD.start:iD ws ps ls P L 0 [] []:=⟨(fun _ z=>by cases z),(fun _ z=>by cases z),List.nodup_nil,fun j h e z=>by omega⟩
theorem ag4 (R:Rt0 ws.length ls P) (f:dB ls) {j:Nat}{g c:Int}{q:Option Int} (hi:P[i]? = some (h,e)) (hj:P[j]? = some (g,q)) (h1:c ∈ aW ls h e) (h2:c ∈ aW ls g q):i=j:=by
 have a:=(R.kid f (bi0 hi)).mp h1
 have b:=(R.kid f (bi0 hj)).mp h2
 cases mD R.nd a b
 exact (fR R.nd hi hj).1
theorem aZ2 (R:Rt0 ws.length ls P) (f:dB ls) {j:Nat}{c:Int}{q:Option Int} (hi:P[i]? = some (h,e)) (hj:P[j]? = some (c,q)) (h1:c ∈ aW ls h e):i < j:=by
 have a:=(R.kid f (bi0 hi)).mp h1
 cases mD R.nd a (bi0 hj)
 obtain ⟨j',q',jj,hj',_⟩:=R.par j c h hj
 have:=(fR R.nd hi hj').1
 omega
theorem ag5 (z:h ∈ A ↔ h ∈ A'):dD ws A h e=dD ws A' h e:=by unfold dD; simp only [z]
theorem lE.congr (z:h ∈ A ↔ h ∈ A') (zs:h ∈ S ↔ h ∈ S') (k:∀ c ∈ aW ls h e,c ∈ A ↔ c ∈ A') (c:lE ws ps ls L A S h e):lE ws ps ls L A' S' h e:=by
 have ek:=ag5 (ws:=ws) (e:=e) z
 rcases c with ⟨a,b,c⟩ | ⟨a,M,m⟩
 ·exact .inl ⟨zs.mp a,fun x hx y=>b x hx ((k x hx).mpr y),by rw [<- ek]; exact c⟩
 ·exact .inr ⟨fun y=>a (zs.mpr y),M,m.nd,m.sub,by rw [<- ek]; exact m.len,m.sum,m.le,fun x hx=>(k x hx).symm.trans (m.mem x hx)⟩
theorem iD.fresh (I:iD ws ps ls P L i A S) (R:Rt0 ws.length ls P) (f:dB ls) (hi:P[i]? = some (h,e)):∀ c ∈ aW ls h e,c ∉ A:=fun c hc ca=>by
 obtain ⟨j,g,q,ji,hj,hk⟩:=I.ina c ca
 have:=ag4 R f hi hj hc hk
 omega
theorem iD.mark (I:iD ws ps ls P L i A S) (R:Rt0 ws.length ls P) (f:dB ls) (hi:P[i]? = some (h,e)) (nd:M.Nodup) (sub:∀ c ∈ M,c ∈ aW ls h e) (len:(M.length:Int)=dD ws A h e) (sum:(M.map (fU L)).sum=((cV (dC ((aW ls h e).map (bG L)))).take M.length).sum) (le:(M.map (fU L)).sum<=ps.getD h.toNat 0):iD ws ps ls P L (i+1) (A ++ M) S:=by
 have hM:h ∉ M:=fun z=>f.irr h (gY.mp (sub h z)).1
 refine⟨fun a ha=>?_,fun s hs=>?_,I.nd,fun j g q ji hj=>?_⟩
 ·rcases bi7.mp ha with z | z
  ·obtain ⟨j,g,q,ji,hj,hk⟩:=I.ina a z
   exact⟨j,g,q,by omega,hj,hk⟩
  ·exact⟨i,h,e,by omega,hi,sub a z⟩
 ·obtain ⟨j,q,ji,hj⟩:=I.ins s hs
  exact⟨j,q,by omega,hj⟩
 ·by_cases ej:j=i
  ·subst ej
   rw [hi] at hj
   cases hj
   refine .inr ⟨fun z=>?_,M,nd,sub,?_,sum,le,fun c hc=>?_⟩
   ·obtain ⟨j',q',jj,hj'⟩:=I.ins h z
    have:=(fR R.nd hi hj').1
    omega
   ·rw [len]; exact ag5 ⟨fun z=>bk7 _ z,fun z=>(bi7.mp z).resolve_right hM⟩
   ·exact⟨fun z=>(bi7.mp z).resolve_left (I.fresh R f hi c hc),fun z=>bk5 _ z⟩
  ·refine (I.ok j g q (by omega) hj).congr ?_ Iff.rfl fun c hc=>?_
   ·refine⟨fun z=>bk7 _ z,fun z=>(bi7.mp z).resolve_right fun y=>?_⟩
    have:=aZ2 R f hi hj (sub g y)
    omega
   ·refine⟨fun z=>bk7 _ z,fun z=>(bi7.mp z).resolve_right fun y=>?_⟩
    have:=ag4 R f hi hj (sub c y) hc
    omega
theorem iD.seed (I:iD ws ps ls P L i A S) (R:Rt0 ws.length ls P) (f:dB ls) (hi:P[i]? = some (h,e)) (big : ¬ (dD ws A h e<=((aW ls h e).length:Int)/\((cV (dC ((aW ls h e).map (bG L)))).take (dD ws A h e).toNat).sum<=ps.getD h.toNat 0)):iD ws ps ls P L (i+1) A (S ++ [h]):=by
 have hS:h ∉ S:=fun z=>by
  obtain ⟨j',q',jj,hj'⟩:=I.ins h z
  have:=(fR R.nd hi hj').1
  omega
 refine⟨fun a ha=>?_,fun s hs=>?_,?_,fun j g q ji hj=>?_⟩
 ·obtain ⟨j,g,q,ji,hj,hk⟩:=I.ina a ha
  exact⟨j,g,q,by omega,hj,hk⟩
 ·rcases bi7.mp hs with z | z
  ·obtain ⟨j,q,ji,hj⟩:=I.ins s z
   exact⟨j,q,by omega,hj⟩
  ·rw [bi3.mp z]; exact⟨i,e,by omega,hi⟩
 ·exact br4.mpr ⟨I.nd,bo2.mpr ⟨(fun z=>by cases z),List.nodup_nil⟩,fun a ha b hb=>by rw [bi3.mp hb]; exact fun z=>hS (z ▸ ha)⟩
 ·by_cases ej:j=i
  ·subst ej
   rw [hi] at hj
   cases hj
   exact .inl ⟨bk5 _ (bi3.mpr rfl),I.fresh R f hi,big⟩
  ·refine (I.ok j g q (by omega) hj).congr Iff.rfl ?_ fun c hc=>Iff.rfl
   refine⟨fun z=>bk7 _ z,fun z=>(bi7.mp z).resolve_right fun y=>?_⟩
   rw [bi3.mp y] at hj
   exact ej (fR R.nd hj hi).1
theorem aZ3 {K:List Int}{G:List (Int × Int)} (pm:G.Perm (K.map fun c=>(fU L c,c))) (so:(G.map two).Pairwise (fun u v=>HT.eJ v u=false)) (nd:K.Nodup) (k:Nat) :
  ((G.take k).map (·.2)).Nodup/\(∀ c ∈ (G.take k).map (·.2),c ∈ K)/\(((G.take k).map (·.2)).map (fU L)).sum=((cV (dC (K.map (bG L)))).take k).sum/\((G.take k).map (·.1)).sum=((cV (dC (K.map (bG L)))).take k).sum:=by
 have nd2:(G.map (·.2)).Nodup:=by
  refine (pm.map _).nodup_iff.mpr ?_
  rw [bm7]
  exact (List.map_id'' (fun _=>rfl) K).symm ▸ nd
 have e1:∀ p ∈ G,p.1=fU L p.2/\p.2 ∈ K:=fun p hp=>by
  obtain ⟨c,hc,rfl⟩:=bj8.mp (pm.mem_iff.mp hp)
  exact⟨rfl,hc⟩
 have sr:cV (dC (K.map (bG L)))=G.map (·.1):=by
  refine (ab3 (ms:=G.map (·.1)) ?_ ?_).symm
  ·refine (pm.map _).trans ?_
   rw [bm7]
   unfold dC
   rw [bm7]
   exact bx5 _
  ·rw [bo3]
   refine (bo3.mp so).imp fun {a b} z=>?_
   unfold two at z
   rw [HT.mP] at z
   by_cases e:b.1=a.1
   ·omega
   ·rw [if_neg e,bt6] at z; omega
 have e2:((G.take k).map (·.2)).map (fU L)=(G.take k).map (·.1):=by
  rw [bm7]
  exact br1 fun p hp=>(e1 p (List.mem_of_mem_take hp)).1.symm
 have e3:((G.take k).map (·.1)).sum=((cV (dC (K.map (bG L)))).take k).sum:=by rw [sr,List.map_take]
 refine⟨?_,fun c hc=>?_,by rw [e2,e3],e3⟩
 ·rw [List.map_take]; exact (List.take_sublist _ _).nodup nd2
 ·obtain ⟨p,hp,rfl⟩:=bj8.mp hc
  exact (e1 p (List.mem_of_mem_take hp)).2
end
noncomputable def lF:eO:=fun Ep xs Q=>∃ ws ls,xs = [b6 ws ls]/\Wb ws ls/\c7 ws.length ls/\(bL ws.length ls->∀ P,Rt ws.length ls P->Q (.lst (dN P)))/\(¬ bL ws.length ls->Ep "NotWood")
noncomputable def ag6 (Ep:Str->Prop):aK:=(aE (cD (j3 (bD (aB uB (a6 (a5 0) a9)))) (nX Ep "NotWood" (a6 (qC (.str "the web has a round")) a9)) cH)
 (aE (b4 1 (aB iQ (a6 (a5 0) a9)))
 (aE (dR 2 (cZ (cR (aB oB (a6 (a5 0) a9))) [none] (bX 0) dA (eZ (a6 (bA (a5 0) (qC (.int 0))) (a6 (qC .non) a9)))))
 (aE (b4 3 (qC (.int 0)))
 (aE ac8
 (j4 2))))))
theorem aZ4:m9 ag6 ["web","around","pairs","turn","hearth"] lF:=by
 rintro Ep xs Q ⟨ws,ls,rfl,wb,lk,q,qe⟩
 have few:=wb.few
 have hS:=jD ws.length
 refine⟨_,rfl,ws,ls,rfl,wb,fun w=>?_,fun z=>⟨_,rfl,bJ ⟨by decide,qe z⟩⟩⟩
 have q:=q w
 refine⟨_,rfl,bF ?_⟩
 refine⟨_,rfl,ws,ls,rfl,wb,trivial,?_⟩
 refine⟨_,rfl,ws,ls,rfl,wb,tups (iS ls (rng ws.length)),rfl,(fun z=>by cases z),?_,fun i acc=>acc=dN (((aX ls (rng ws.length)).take i).map fun h=>(h,none)),rfl,?_,?_⟩
 ·rw [tG]; unfold iS; rw [bi4]
  have:=bn7 (qP ls (rng ws.length)) (rng ws.length)
  rw [dM] at this
  unfold aX; omega
 ·rintro i y acc hy rfl
  unfold tups iS at hy
  rw [bm7,bj2] at hy
  cases hz:(aX ls (rng ws.length))[i]? with
  | none=>rw [hz] at hy; cases hy
  | some h=>
   rw [hz] at hy
   cases hy
   obtain ⟨h1,h2⟩:=eF.mp (bi0 hz)
   have h3:L2.atI (intz (comp ls (rng ws.length) h)) 0=some (.int h):=by
    cases e:comp ls (rng ws.length) h with
    | nil=>rw [e] at h2; cases h2
    | cons a r=>rw [e] at h2; cases h2; exact jI (j:=0) rfl
   refine⟨_,rfl,_,_,_,rfl,rfl,h3,by show 2<=1000; decide,rfl,trivial,?_⟩
   dsimp only
   rw [bm4,hz,bk2]
   unfold dN
   rw [bk2]
   rfl
 ·rintro acc rfl
  rw [show (tups (iS ls (rng ws.length))).length=(aX ls (rng ws.length)).length by rw [tG]; unfold iS; rw [bi4],bl6 (bi8 _)]
  refine⟨rfl,ac9 _,trivial,?_⟩
  refine aV6 few lk w fun P y3 y4 R=>?_
  exact⟨_,rfl,trivial,q P R⟩
noncomputable def lG:eO:=fun Ep xs Q=>∃ ws ls x ps,xs = [b6 ws ls,x]/\Wb ws ls/\c7 ws.length ls/\NN ws/\cU x ps/\ps.length<=1000/\(bL ws.length ls->eQ ws.length ps->∀ P L,Rt ws.length ls P->oE ws ps ls P L->Q (.tup (aV L)))/\(bL ws.length ls->¬ eQ ws.length ps->Ep "BadPrices")/\(¬ bL ws.length ls->Ep "NotWood")
noncomputable def ag7 (Ep:Str->Prop):aK:=(aE (b4 2 (kB Ep lF (a6 (a5 0) a9)))
 (aE (b4 3 (kB Ep o9 (a6 (a5 1) (a6 (aB gW (a6 (a5 0) a9)) a9))))
 (aE (b4 4 (aB iQ (a6 (a5 0) a9)))
 (aE (dR 5 (qK (dQ (a6 (eZ (a6 (qC (.int 0)) (a6 (qC (.int 0)) a9))) a9)) (aB gW (a6 (a5 0) a9))))
 (aE (dS (yZ (a5 2)) (gU 6 7)
  af1)
 (bN (aB j6 (a6 (a5 5) a9))))))))
theorem aZ5:m9 ag7 ["web","prices","pairs","known","around","ledger","hearth","elder","below"] lG:=by
 rintro Ep xs Q ⟨ws,ls,x,ps,rfl,wb,lk,nn,hx,plen,q,qb,qn⟩
 have few:=wb.few
 refine⟨_,rfl,ws,ls,rfl,wb,lk,fun w P R=>⟨trivial,?_⟩,qn⟩
 have q:=q w
 have pl:=af3 R
 refine⟨_,rfl,_,rfl,ws,ls,rfl,x,ps,ws.length,rfl,hx,plen,by omega,fun gd=>⟨trivial,?_⟩,qb w⟩
 have q:=q gd
 obtain ⟨gl,gn⟩:=gd
 refine⟨_,rfl,ws,ls,rfl,wb,trivial,?_⟩
 refine⟨by show 2<=1000; decide,rfl,by show 1<=1000; decide,rfl,_,rfl,ws,ls,rfl,_,_,rfl,rfl,rfl,by omega,by omega,by show 1<=10; decide,rfl,?_,?_⟩
 ·show flats (List.replicate (ws.length:Int).toNat [PV.tup [.int 0,.int 0]]).flatten=true
  rw [af4]; exact iP _
 show (aE _ _) _ [some (Slot.sh (flat (b6 ws ls)) (b6 ws ls)),some (Slot.sh (flat x) x),_,_,_,some (Slot.own (.lst (List.replicate (ws.length:Int).toNat [PV.tup [.int 0,.int 0]]).flatten)),_,_,_]
 rw [af4,bk4,xN]
 refine⟨_,rfl,dN P,rfl,(fun z=>by cases z),fun i ρ=>∃ (L:cW) (D:List Int) (y6 y7 y8:Option Slot),ρ = [some (.sh true (b6 ws ls)),some (Slot.sh (flat x) x),some (.sh true (.lst (dN P))),some (.sh true (.tup (intz ps))),some (.sh true (.lst (bT ws.length ls))),some (.own (.lst (aV L))),y6,y7,y8]/\L.length=ws.length/\iT P i D/\∀ h e,(h,e) ∈ P->h ∈ D->mF ws ps ls L h e,⟨_,[],none,none,none,rfl,bs8,iT.nil,fun _ _ _ z=>by cases z⟩,?_,?_⟩
 ·rintro i y ρ hy ⟨L,D,y6,y7,y8,rfl,ll,S,ok⟩
  obtain ⟨il,h,e,hk,rfl⟩:=aX5 hy
  have hp:=bi0 hk
  have hr:=(R.mem h).mp (bj8.mpr ⟨_,hp,rfl⟩)
  have hm:=bY.mp hr
  refine⟨_,_,rfl,?_⟩
  refine aX4 lk few nn gl ll hr fun y8=>⟨_,h :: D,_,_,y8,rfl,by rw [bm3]; exact ll,S.next il hk,fun g e' hg gd=>?_⟩
  have hD:=S.notin R il hk
  have kid:∀ c ∈ aW ls g e',c ≠ h/\0<=c:=fun c hc=>by
   have cp:=(R.kid lk.fit hg).mp hc
   have cr:=bY.mp ((R.mem c).mp (bj8.mpr ⟨_,cp,rfl⟩))
   refine⟨fun z=>?_,cr.1⟩
   subst z
   rcases bj1.mp gd with z | z
   ·subst z
    exact lk.fit.irr g (gY.mp hc).1
   ·exact S.elder R il hk g z cp
  unfold mF
  rw [br1 (g:=bG L) fun c hc=>af2 hm.1 (kid c hc).2 (kid c hc).1]
  rcases bj1.mp gd with z | z
  ·subst z
   cases mD R.nd hg hp
   rw [aX3 hm.1 (by omega)]
  ·have gr:=bY.mp ((R.mem g).mp (bj8.mpr ⟨_,hg,rfl⟩))
   rw [af2 hm.1 gr.1 fun z'=>hD (by rw [<- z']; exact z)]
   exact ok g e' hg z
 ·rintro ρ ⟨L,D,y6,y7,y8,rfl,ll,S,ok⟩
  refine⟨_,rfl,⟨_,_,rfl,rfl,iP _,trivial,q P L R ⟨ll,fun h e he=>ok h e he ?_⟩⟩,fun ns z=>by cases z⟩
  rw [List.length_reverse,lC] at S
  obtain ⟨j,hj⟩:=eG he
  exact (S.mem h).mpr ⟨j,e,hj,by omega⟩
noncomputable def oF:eO:=fun Ep xs Q=>∃ ws ls x ps,xs = [b6 ws ls,x]/\Wb ws ls/\c7 ws.length ls/\NN ws/\cU x ps/\ps.length<=1000/\(bL ws.length ls->eQ ws.length ps->∀ T,bE ws.length T=true->l9 ws ls T=true->(∀ P L,Rt ws.length ls P->oE ws ps ls P L->(T.map fun s=>ps.getD s.toNat 0).sum=((kH P).map fun r=>(bG L r).2).sum)->Q (.tup (intz T)))/\(bL ws.length ls->¬ eQ ws.length ps->Ep "BadPrices")/\(¬ bL ws.length ls->Ep "NotWood")
noncomputable def ag8:aK:=(cD (mX (bD (pS (aB dH (a6 (a5 9) a9)) (a5 8))) (bD (R7 (aB l8 (a6 (cZ (cR (nH (a5 9) pP (lW (a5 8)))) [none,none] (gU 0 1) dA (a5 0)) a9)) (bA (a5 1) (a5 6))))) (dS (cR (nH (a5 9) pP (lW (a5 8)))) (gU 10 11)
    (pO 4 (a5 11) (qC (.bl true)))) (gT 5 (a5 6)))
noncomputable def zT:aK:=(aE (b4 9 (aB qG (a6 (cZ (cR (aB lB (a6 (a5 3) (a6 (a5 6) (a6 (a5 7) a9))))) [none,some 2] (bX 0) dA (eZ (a6 (jV (bA (bA (a5 1) (a5 0)) (qC (.int 1))) (bA (bA (a5 1) (a5 0)) (qC (.int 0)))) (a6 (a5 0) a9)))) a9)))
  ag8)
noncomputable def ag9:aK:=(aE (b4 8 (bA (bA (a5 0) (qC (.int 0))) (a5 6)))
  (aE (cD (mX (bD (aF2 (a5 7) (qC .non))) (bD (kU true (a5 6) (a5 4)))) (b4 8 (aB oD (a6 (a5 8) a9))) cH)
  zT))
noncomputable def zU (Ep:Str->Prop):aK:=(aE (b4 2 (kB Ep lG (a6 (a5 0) (a6 (a5 1) a9))))
 (aE (b4 3 (aB iQ (a6 (a5 0) a9)))
 (aE (dR 4 (qC (.dK [])))
 (aE (dR 5 (dQ a9))
 (aE (dS (cR (kB Ep lF (a6 (a5 0) a9))) (gU 6 7)
  ag9)
 (bN (aB j6 (a6 (aB sH (a6 (a5 5) a9)) a9))))))))
theorem ah0 {G:List (Int × Int)}{k:Int} (k0:0<=k):fO (aV G) none (some k)=aV (G.take k.toNat):=by
 rw [Y2 k0]; unfold aV; rw [List.map_take]
section
variable {ws ps : List Int} {ls : List (Int × Int)} {P : bO} {L : cW} {A S : List Int} {ds : List (aH × PV)} {h : Int} {e : Option Int} {E : g6} {x : PV} {s0 s2 s3 s7 y8 y9 y10 y11 : Option Slot} {g : Bool}
theorem aZ6 {G:List (Int × Int)}{k:Int} (hx:cU x ps) (k0:0<=k) (gl:G.length<=40) (al:A.length<=10000) (sl:S.length<=10000) (h0:0<=h) (h1:h < (ps.length:Int)) (D:DS ds A)
  (mark:k<=(G.length:Int)->((G.take k.toNat).map (·.1)).sum<=ps.getD h.toNat 0->∀ ds' y10 y11,DS ds' (A ++ (G.take k.toNat).map (·.2))->E.nx [s0,some (.sh g x),s2,s3,some (.own (.dK ds')),some (.own (.lst (intz S))),si h,s7,si k,some (.sh true (.lst (aV G))),y10,y11])
  (seed : ¬ (k<=(G.length:Int)/\((G.take k.toNat).map (·.1)).sum<=ps.getD h.toNat 0)->E.nx [s0,some (.sh g x),s2,s3,some (.own (.dK ds)),some (.own (.lst (intz (S ++ [h])))),si h,s7,si k,some (.sh true (.lst (aV G))),y10,y11]) :
  ag8 E [s0,some (.sh g x),s2,s3,some (.own (.dK ds)),some (.own (.lst (intz S))),si h,s7,si k,some (.sh true (.lst (aV G))),y10,y11]:=by
 have app : ¬ (k<=(G.length:Int)/\((G.take k.toNat).map (·.1)).sum<=ps.getD h.toNat 0)->(gT 5 (a5 6)) E [s0,some (.sh g x),s2,s3,some (.own (.dK ds)),some (.own (.lst (intz S))),si h,s7,si k,some (.sh true (.lst (aV G))),y10,y11]:=fun no=>by
  refine⟨_,rfl,_,rfl,trivial,by rw [b8]; omega,?_⟩
  have:=seed no
  rw [eN] at this
  exact this
 refine⟨_,rfl,_,_,rfl,rfl,_,rfl,_,_,rfl,rfl,_,rfl,?_⟩
 rw [iR]
 by_cases c:k<=(G.length:Int)
 ·rw [bi6 (by omega)]
  refine bJ ⟨_,rfl,_,rfl,_,rfl,aV G,rfl,iP G,aV (G.take k.toNat),by show some (fO (aV G) none (some k))=_; rw [ah0 k0],(fun z=>by cases z),by rw [iR,bo1]; omega,fun i acc=>acc=intz (((G.take k.toNat).take i).map (·.1)),rfl,?_,?_⟩
  ·rintro i y acc hy rfl
   obtain ⟨p,rfl,hp⟩:=tI hy
   refine u8 ?_
   refine⟨_,rfl,trivial,?_⟩
   dsimp only
   rw [bm4 (l:=G.take k.toNat),hp,bk2,eN]; rfl
  rintro acc rfl
  rw [iR,bl6 (bi8 _)]
  refine⟨_,_,rfl,rfl,_,rfl,_,rfl,_,_,_,hx.seq,rfl,qU h0 h1,_,_,rfl,rfl,_,rfl,?_⟩
  by_cases c2:((G.take k.toNat).map (·.1)).sum<=ps.getD h.toNat 0
  ·rw [bi6 c2]
   refine bJ ⟨_,rfl,_,rfl,_,rfl,aV G,rfl,iP G,aV (G.take k.toNat),by show some (fO (aV G) none (some k))=_; rw [ah0 k0],(fun z=>by cases z),fun i ρ=>∃ (ds':List (aH × PV)) (y10 y11:Option Slot),ρ = [s0,some (.sh g x),s2,s3,some (.own (.dK ds')),some (.own (.lst (intz S))),si h,s7,si k,some (.sh true (.lst (aV G))),y10,y11]/\DS ds' (A ++ ((G.take k.toNat).take i).map (·.2)),⟨ds,y10,y11,rfl,by rw [List.take_zero]; exact (bp1 A).symm ▸ D⟩,?_,?_⟩
   ·rintro i y ρ hy ⟨ds',z10,z11,rfl,D'⟩
    obtain ⟨p,rfl,hp⟩:=tI hy
    refine u8 ?_
    have dl:=D'.len
    have tl:=List.length_take_le i (G.take k.toNat)
    have tl2:=List.length_take_le k.toNat G
    rw [bj4,bi4] at dl
    have tl3:((G.take k.toNat).take i).length<=G.length:=by rw [bo1,bo1]; omega
    refine⟨ds',rfl,_,rfl,Sum.inl p.2,rfl,trivial,by omega,fN ds' (Sum.inl p.2) (.bl true),si p.1,si p.2,rfl,?_⟩
    have:=D'.put p.2 (.bl true) rfl
    rw [List.append_assoc] at this
    rw [bm4 (l:=G.take k.toNat),hp,bk2]
    exact this
   ·rintro ρ ⟨ds',z10,z11,rfl,D'⟩
    rw [iR,bl6 (bi8 _)] at D'
    exact mark c c2 ds' z10 z11 D'
  ·rw [bj5 c2]
   exact bF (app fun z=>c2 z.2)
 ·rw [bj5 (by omega)]
  exact bF (bF (app fun z=>c z.1))
theorem aZ7 {k:Int} (lk:c7 ws.length ls) (n40:ws.length<=40) (hx:cU x ps) (pl:ps.length=ws.length) (ll:L.length=ws.length) (hr:h ∈ rng ws.length) (al:A.length<=10000) (sl:S.length<=10000) (D:DS ds A) (k0:0<=k)
  (mark:∀ M:List Int,M.Nodup->(∀ c ∈ M,c ∈ aW ls h e)->(M.length:Int)=k->(M.map (fU L)).sum=((cV (dC ((aW ls h e).map (bG L)))).take M.length).sum->(M.map (fU L)).sum<=ps.getD h.toNat 0->∀ ds' y9 y10 y11,DS ds' (A ++ M)->E.nx [s0,some (.sh g x),some (.sh true (.tup (aV L))),some (.sh true (.lst (bT ws.length ls))),some (.own (.dK ds')),some (.own (.lst (intz S))),si h,some (.sh true (fP e)),si k,y9,y10,y11])
  (seed : ¬ (k<=((aW ls h e).length:Int)/\((cV (dC ((aW ls h e).map (bG L)))).take k.toNat).sum<=ps.getD h.toNat 0)->∀ y9 y10 y11,E.nx [s0,some (.sh g x),some (.sh true (.tup (aV L))),some (.sh true (.lst (bT ws.length ls))),some (.own (.dK ds)),some (.own (.lst (intz (S ++ [h])))),si h,some (.sh true (fP e)),si k,y9,y10,y11]) :
  zT E [s0,some (.sh g x),some (.sh true (.tup (aV L))),some (.sh true (.lst (bT ws.length ls))),some (.own (.dK ds)),some (.own (.lst (intz S))),si h,some (.sh true (fP e)),si k,y9,y10,y11]:=by
 have hm:=bY.mp hr
 have nl:=lk.nlen h
 have kl:(aW ls h e).length<=ws.length:=by have:=bn7 (fun x=>!decide (some x=e)) (aN ls h); unfold aW; omega
 refine⟨_,rfl,_,rfl,_,rfl,ws.length,ls,h,e,rfl,hm.1,hm.2,by omega,intz (aW ls h e),rfl,(fun z=>by cases z),by rw [b8]; omega,fun i acc=>acc=aV (((aW ls h e).take i).map fun c=>(fU L c,c)),rfl,?_,?_⟩
 ·rintro i y acc hy rfl
  obtain ⟨c,rfl,hc⟩:=gV hy
  have cr:=bY.mp (lk.inr h c (gY.mp (bi0 hc)).1)
  have la:=zO (L:=L) cr.1 (by omega)
  refine⟨_,rfl,_,rfl,_,_,_,rfl,rfl,la,_,_,_,rfl,rfl,rfl,_,rfl,_,rfl,_,_,_,rfl,rfl,la,_,_,_,rfl,rfl,rfl,_,_,rfl,rfl,_,rfl,by show 2<=1000; decide,rfl,trivial,?_⟩
  dsimp only
  unfold aV
  rw [bm4,hc,bk2,bk2]; rfl
 ·rintro acc rfl
  rw [b8,bl6 (bi8 _)]
  refine⟨((aW ls h e).map fun c=>(fU L c,c)).map two,by rw [nT]; rfl,by rw [bi4,bi4]; omega,fun y hy=>by obtain ⟨l,_,rfl⟩:=bj8.mp hy; exact List.cons_ne_nil _ _,fun Z pz so=>?_⟩
  obtain ⟨G,rfl,pm⟩:=xW pz
  rw [<- nT]
  have gl:G.length=(aW ls h e).length:=by rw [pm.length_eq,bi4]
  have gt:=aZ3 pm so ((lk.fit.nnd h).filter _)
  refine⟨trivial,?_⟩
  refine aZ6 hx k0 (by omega) al sl hm.1 (by omega) D (fun c1 c2 ds' z10 z11 D'=>?_) fun no=>?_
  ·obtain ⟨g1,g2,g3,g4⟩:=gt k.toNat
   have ml:((G.take k.toNat).map (·.2)).length=k.toNat:=by rw [bi4,bo1]; omega
   exact mark _ g1 g2 (by rw [ml]; omega) (by rw [ml]; exact g3) (by rw [g3,<- g4]; exact c2) ds' _ z10 z11 D'
  ·exact seed (by rw [<- gl,<- (gt k.toNat).2.2.2]; exact no) _ _ _
theorem aZ8 (lk:c7 ws.length ls) (n40:ws.length<=40) (nn:NN ws) (hx:cU x ps) (pl:ps.length=ws.length) (ll:L.length=ws.length) (hr:h ∈ rng ws.length) (al:A.length<=10000) (sl:S.length<=10000) (D:DS ds A)
  (mark:∀ M:List Int,M.Nodup->(∀ c ∈ M,c ∈ aW ls h e)->(M.length:Int)=dD ws A h e->(M.map (fU L)).sum=((cV (dC ((aW ls h e).map (bG L)))).take M.length).sum->(M.map (fU L)).sum<=ps.getD h.toNat 0->∀ ds' y8 y9 y10 y11,DS ds' (A ++ M)->E.nx [some (.sh true (b6 ws ls)),some (.sh g x),some (.sh true (.tup (aV L))),some (.sh true (.lst (bT ws.length ls))),some (.own (.dK ds')),some (.own (.lst (intz S))),si h,some (.sh true (fP e)),y8,y9,y10,y11])
  (seed : ¬ (dD ws A h e<=((aW ls h e).length:Int)/\((cV (dC ((aW ls h e).map (bG L)))).take (dD ws A h e).toNat).sum<=ps.getD h.toNat 0)->∀ y8 y9 y10 y11,E.nx [some (.sh true (b6 ws ls)),some (.sh g x),some (.sh true (.tup (aV L))),some (.sh true (.lst (bT ws.length ls))),some (.own (.dK ds)),some (.own (.lst (intz (S ++ [h])))),si h,some (.sh true (fP e)),y8,y9,y10,y11]) :
  ag9 E [some (.sh true (b6 ws ls)),some (.sh g x),some (.sh true (.tup (aV L))),some (.sh true (.lst (bT ws.length ls))),some (.own (.dK ds)),some (.own (.lst (intz S))),si h,some (.sh true (fP e)),y8,y9,y10,y11]:=by
 have hm:=bY.mp hr
 have w0:0<=ws.getD h.toNat 0:=o8 nn _
 refine⟨_,rfl,_,_,_,rfl,rfl,rfl,_,rfl,_,_,_,rfl,rfl,qU hm.1 hm.2,trivial,?_⟩
 have fin:∀ k,k=dD ws A h e->zT E [some (.sh true (b6 ws ls)),some (.sh g x),some (.sh true (.tup (aV L))),some (.sh true (.lst (bT ws.length ls))),some (.own (.dK ds)),some (.own (.lst (intz S))),si h,some (.sh true (fP e)),si k,y9,y10,y11]:=fun k hk=>by
  subst hk
  exact aZ7 lk n40 hx pl ll hr al sl D (ag2 nn) (fun M a b c d f ds'=>mark M a b c d f ds' _) fun no=>seed no _
 refine⟨_,rfl,rfl,_,rfl,?_⟩
 cases e with
 | none=>
  refine bF (bF (fin _ ?_))
  unfold dD
  rw [if_neg fun z=>by cases z.1]
 | some q=>
  refine bJ ⟨_,rfl,_,rfl,cL ds (Sum.inl h),.inl ⟨ds,Sum.inl h,rfl,rfl,rfl⟩,_,rfl,?_⟩
  show if (!(cL ds (Sum.inl h:aH)).isSome)=true then _ else _
  rw [D.has h]
  by_cases z:h ∈ A
  ·rw [bi6 z]
   refine bF (fin _ ?_)
   unfold dD
   rw [if_neg fun y=>y.2 z]
  ·rw [bj5 z]
   refine bJ ⟨_,rfl,_,rfl,trivial,fin _ ?_⟩
   unfold dD
   rw [if_pos ⟨rfl,z⟩]
end
theorem aZ9:m9 zU ["web","prices","ledger","around","alone","seeds","hearth","elder","want","gaps","gap","child"] oF:=by
 rintro Ep xs Q ⟨ws,ls,x,ps,rfl,wb,lk,nn,hx,plen,q,qb,qn⟩
 have few:=wb.few
 show zU Ep _ [some (.sh (flat (b6 ws ls)) (b6 ws ls)),some (.sh (flat x) x),none,none,none,none,none,none,none,none,none,none]
 rw [xN]
 refine⟨_,rfl,_,rfl,ws,ls,x,ps,rfl,wb,lk,nn,hx,plen,fun w gd P L R k=>⟨trivial,?_⟩,qb,qn⟩
 have q:=q w gd
 refine⟨_,rfl,ws,ls,rfl,wb,trivial,?_⟩
 refine⟨rfl,rfl,by decide,rfl,rfl,rfl,?_⟩
 refine⟨_,rfl,ws,ls,rfl,wb,lk,fun _ P' R'=>?_,fun no=>absurd w no⟩
 have k':oE ws ps ls P' L:=⟨k.1,fun h e he=>k.2 h e ((qV R R').mpr he)⟩
 have pl:=af3 R'
 refine⟨dN P',rfl,(fun z=>by cases z),fun i ρ=>∃ (ds:List (aH × PV)) (A S:List Int) (y6 y7 y8 y9 y10 y11:Option Slot),ρ = [some (.sh true (b6 ws ls)),some (.sh (flat x) x),some (.sh true (.tup (aV L))),some (.sh true (.lst (bT ws.length ls))),some (.own (.dK ds)),some (.own (.lst (intz S))),y6,y7,y8,y9,y10,y11]/\DS ds A/\iD ws ps ls P' L i A S/\A.length<=40 * i/\S.length<=i,⟨[],[],[],none,none,none,none,none,none,rfl,DS.nil,iD.start,bm9 _,bi8 _⟩,?_,?_⟩
 ·rintro i y ρ hy ⟨ds,A,S,y6,y7,y8,y9,y10,y11,rfl,D,I,al,sl⟩
  obtain ⟨h,e,hi,rfl⟩:=aY6 hy
  have il:=(bi5.mp hi).1
  refine⟨_,_,rfl,?_⟩
  refine aZ8 lk few nn hx gd.1 k.1 (R'.inr (bi0 hi)) (by omega) (by omega) D (fun M m1 m2 m3 m4 m5 ds' z8 z9 z10 z11 D'=>?_) fun no z8 z9 z10 z11=>?_
  ·have ml:=eV m1 m2
   have nl:=lk.nlen h
   have kl:=bn7 (fun x=>!decide (some x=e)) (aN ls h)
   exact⟨ds',A ++ M,S,_,_,z8,z9,z10,z11,rfl,D',I.mark R'.toRt0 lk.fit hi m1 m2 m3 m4 m5,by rw [bj4]; unfold aW at ml; omega,by omega⟩
  ·exact⟨ds,A,S ++ [h],_,_,z8,z9,z10,z11,rfl,D,I.seed R'.toRt0 lk.fit hi no,by omega,by rw [bj4,bm8]; omega⟩
 ·rintro ρ ⟨ds,A,S,y6,y7,y8,y9,y10,y11,rfl,D,I,al,sl⟩
  rw [lC] at I al sl
  have ch:∀ h e,(h,e) ∈ P'->lE ws ps ls L A S h e:=fun h e he=>by
   obtain ⟨j,hj⟩:=eG he
   exact I.ok j h e (bi5.mp hj).1 hj
  have sub:∀ s ∈ S,s ∈ rng ws.length:=fun s hs=>by
   obtain ⟨j,qq,_,hj⟩:=I.ins s hs
   exact R'.inr (bi0 hj)
  refine⟨_,rfl,S,rfl,by omega,fun ms pm so=>⟨⟨_,_,rfl,rfl,dG _,trivial,?_⟩,fun ns z=>by cases z⟩⟩
  refine q ms (aW8 (pm.nodup_iff.mpr I.nd) so fun x hx=>sub x (pm.mem_iff.mp hx)) (aR8 (fun x hx=>pm.mem_iff.mpr hx) (aZ1 R'.toRt0 lk.fit nn ch)) fun P2 L2 R2 k2=>?_
  cases aX6 R R2 lk.fit k k2
  rw [qM (pm.map _),aZ0 R2.toRt0 lk.fit nn k2 I.nd sub fun h e he=>ch h e ((qV R' R2).mpr he)]
end Core
namespace L2
open PySem PySem.Spec PyProof.Rows
theorem ba0 {prog:Program}{w:World}{A:Around}{E:Value->Shared->Prop}{s:Shared}{l:Addr}{vs:List Value}{Q:Value->Shared->Prop} (hl:s.heap.IsTuple l vs.toArray) (few:vs.length < 2)
  (q:Q (.ref (s.heap.objs.size+1)) { s with heap:=sortedAll s.heap vs vs.toArray }):wpAny (model prog w) A (call (.builtin "sorted") [.ref l]) Q E s:=by
 have big:vs.length<=sizeLine:=bm6 (bn5 few) (by decide)
 apply Calls.call_function_entry kind_sorted plain_sorted entry_sorted (args_sorted1 _)
 simp only [Builtin.«sorted»]
 apply bh8 (m:=checkCount "sorted" 1 1 _)
 apply bj3
 apply bh8
 refine X1 hl ?_ big
 apply bh8
 refine wpAny_newList ?_ big
 have one:((s.heap.push (seqObj "list" #[] 0)).update s.heap.objs.size (Obj.mapSeq (· ++ vs.toArray))).objs.size=s.heap.objs.size+1:=(Heap.size_update _ _ _).trans (size_push' _ _)
 have at1:(((s.heap.push (seqObj "list" #[] 0)).update s.heap.objs.size (Obj.mapSeq (· ++ vs.toArray))).push (seqObj "list" vs.toArray 0)).get? (s.heap.objs.size+1)=some (seqObj "list" vs.toArray 0):=one ▸ bk0 _ rfl
 change wpAny _ _ _ _ _ { s with heap:=((s.heap.push (seqObj "list" #[] 0)).update s.heap.objs.size (Obj.mapSeq (· ++ vs.toArray))).push (seqObj "list" vs.toArray 0) }
 rw [one]
 apply bh8
 apply bs0
 refine bq1 slot_list_sort ⟨_,at1,rfl⟩ entry_list_sort ?_ (args_list_sort _)
 refine N1 at1 few ⟨_,rfl,?_⟩
 exact bj3 ⟨_,rfl,q⟩
open PySem.W in
theorem ba1 {prog:Program}{w:World}{A:Around}{E:Value->Shared->Prop}{s:Shared}{h₀:Heap}{L:Addr}{m:Str->Option Value}{news:List (Addr × Obj)}{vs:List Value}{l:Addr}{Q:Value->Shared->Prop} (F:Fr h₀ L s.heap m) (N:News h₀ L s.heap news) (hl:s.heap.IsTuple l vs.toArray) (two:2<=vs.length) (few:vs.length < 64)
  (q:∀ D e1 h',Fr h₀ L h' m->News h₀ L h' ((D,seqObj "list" #[] e1) :: news)->(∀ p ∈ news,p.1 < D)->
   wpAny (model prog w) A.in1.in1 (keyKind' vs.toArray) (fun κ s'=>(kas_sort vs.length).kasWp (kas_ask prog w A.in1.in1 κ vs) (fun p s2=>KasFin h₀ L m D e1 (p.toList.map fun i=>vs.getD i Value.none) (fun s3=>Q (.ref D) s3) s2) s') (fun _ _=>False) { s with heap:=h' }) :
  wpAny (model prog w) A (call (.builtin "sorted") [.ref l]) Q E s:=by
 have big:vs.length<=sizeLine:=bm6 (bn5 few) (by decide)
 apply Calls.call_function_entry kind_sorted plain_sorted entry_sorted (args_sorted1 _)
 simp only [Builtin.«sorted»]
 apply bh8 (m:=checkCount "sorted" 1 1 _)
 apply bj3
 apply bh8
 refine X1 hl ?_ big
 apply bh8
 refine wpAny_newList ?_ big
 have one:((s.heap.push (seqObj "list" #[] 0)).update s.heap.objs.size (Obj.mapSeq (· ++ vs.toArray))).objs.size=s.heap.objs.size+1:=(Heap.size_update _ _ _).trans (size_push' _ _)
 have at1:(((s.heap.push (seqObj "list" #[] 0)).update s.heap.objs.size (Obj.mapSeq (· ++ vs.toArray))).push (seqObj "list" vs.toArray 0)).get? (s.heap.objs.size+1)=some (seqObj "list" vs.toArray 0):=one ▸ bk0 _ rfl
 have old:∀ b o,s.heap.get? b=some o->(((s.heap.push (seqObj "list" #[] 0)).update s.heap.objs.size (Obj.mapSeq (· ++ vs.toArray))).push (seqObj "list" vs.toArray 0)).get? b=some o:=fun b o z=>by
  have lt:=bk1 z
  rw [Heap.get?_push_ne _ _ _ (one ▸ bm1 (bx1 lt)),Heap.get?_update_ne _ _ _ _ (bm1 lt),Heap.get?_push_ne _ _ _ (bm1 lt)]
  exact z
 have lL:L < s.heap.objs.size:=F.ns.lt
 have ab:=F.above
 change wpAny _ _ _ _ _ { s with heap:=((s.heap.push (seqObj "list" #[] 0)).update s.heap.objs.size (Obj.mapSeq (· ++ vs.toArray))).push (seqObj "list" vs.toArray 0) }
 rw [one]
 apply bh8
 apply bs0
 refine bq1 slot_list_sort ⟨_,at1,rfl⟩ entry_list_sort ?_ (args_list_sort _)
 have lt:∀ p ∈ news,p.1 < s.heap.objs.size+1:=fun p hp=>bx1 (bk1 (N p hp).1)
 refine kat_list_sort (F.kept old) (N.grown old) at1 (bs1 (bx1 lL)) (Heap.get?_none_of_le (bm6 ab (Nat.le_succ_of_le (bn5 lL)))) (fun p hp=>bm1 (lt p hp)) two few fun e1 h' F' N'=>?_
 refine bq7 (q _ e1 h' F' N' lt) (fun κ s' hk=>?_) fun _ _ x=>x
 rw [kat_ask_eq rfl] at hk ⊢
 exact kas_wp_mono hk fun p s2 z=>z.mono fun s3 y=>⟨_,rfl,bj3 ⟨_,rfl,y⟩⟩
noncomputable def ah1 (K:PySem.W.Frag):List V->Hp->VK->Prop:=fun xs H Q=>∃ (a:Addr) (ys:List V) (key:V->List Int),xs = [.ref a]/\aJ K H a ys/\ys.length < 64/\(∀ y ∈ ys,∃ b,y = .ref b/\aJ K H b ((key y).map V.int)/\key y ≠ [])/\
 ∀ l (zs:List V),H l=none->zs.Perm ys->zs.Pairwise (fun u v=>HT.eJ (key v) (key u)=false)->Q (.ref l) (upd H l (.lst zs))
theorem ba2 {X:Cx}:cX X (.builtin "sorted") (ah1 X.K):=by
 intro pins s σ H xs us Q I r h
 obtain ⟨a,ys,key,rfl,hs,h64,hk,q⟩:=h
 obtain ⟨u,rfl,ru⟩:=hZ r
 cases ru
 obtain ⟨its,rv,p,hz⟩:=I.tuple hs
 have hl:=rv.length
 by_cases h2:its.length < 2
 ·
  refine ba0 p h2 ?_
  obtain ⟨e,he⟩:=sortedAll_at s.heap its its.toArray
  have hn:s.heap.objs.size<=s.heap.objs.size+1:=Nat.le_succ _
  refine⟨.ref (s.heap.objs.size+1),upd H (s.heap.objs.size+1) (.lst ys),I.laid (t':=s.toks) (fun _ _=>sortedAll_old) hn ⟨hz,its,e,rv,he⟩,rfl,q _ ys (I.hok.fresh hn) (bx5 _) ?_⟩
  match ys,hl with
  | [],_=>exact bu1
  | [_],_=>exact bl7 _ _
  | _ :: _ :: _,hl=>simp at hl; omega
 ·obtain ⟨m,F⟩:=I.fr
  have hL:∀ {b:Addr}{k:List Int},aJ X.K H b (k.map V.int)->b ≠ X.env.locals:=fun {b k} z e=>by
   obtain ⟨its',_,⟨ob,e1,c1,_⟩,_⟩:=I.tuple z
   obtain ⟨m',⟨o',es',ep',e2,d2,_⟩,_⟩:=I.loc
   rcases z with (z | ⟨_,z⟩) | ⟨o3,its3,n3,z3,zc,zd,_⟩
   ·rw [e,I.free] at z; cases z
   ·rw [e,I.free] at z; cases z
   ·have:=I.kIn b o3 z3
    rw [e,e2] at this
    cases this
    rw [d2] at zd; cases zd
  refine ba1 F (A1 (g:=X.base) (h:=s.heap) (L:=X.env.locals)) p (by omega) (by omega) fun D e1 h' F' N' hD=>?_
  have keep:=I.newsAll (fun p hp=>bj7 _ hp) F' N'
  have look:∀ i,i < ys.length->∃ (b:Addr) (ob:Obj) (us:List Value) (n:Nat),its.getD i Value.none = .ref b/\h'.get? b=some ob/\ob.cls = .type "tuple"/\ob.data = .seq us.toArray n/\IntsAre us (key (ys.getD i .non))/\key (ys.getD i .non) ≠ []:=fun i hi=>by
   have hy:ys.getD i .non ∈ ys:=by
    rw [bj0,bi2 hi]; exact List.getElem_mem hi
   obtain ⟨b,eb,sq,ne⟩:=hk _ hy
   have rr:=rZ i hi rv
   rw [eb] at rr
   have rr:its.getD i Value.none = .ref b:=rr
   obtain ⟨us,ru,⟨ob,e1,c1,n1,d1⟩,_⟩:=I.tuple sq
   exact⟨b,ob,us,n1,rr,keep b ob (hL sq) e1,c1,d1,mQ ru,ne⟩
  have firsts:∀ {xs:List V}{vs:List Value},aO xs vs->(∀ y ∈ xs,∃ b,y = .ref b/\aJ X.K H b ((key y).map V.int)/\key y ≠ [])->∃ fs:List Value,PySem.W.KatTups h' vs fs/\fs.length=vs.length/\∀ v ∈ fs,∃ i t,v=Value.int i t:=by
   intro xs vs r
   induction r with
   | nil=>intro _; exact⟨[],PySem.W.KatTups.nil,rfl,fun _ z=>nomatch z⟩
   | @cons x v xs vs rx rt ih=>
    intro hh
    obtain ⟨fs,t1,t2,t3⟩:=ih fun y hy=>hh y (bj7 _ hy)
    obtain ⟨b,eb,sq,ne⟩:=hh x bi9
    subst eb
    cases rx
    obtain ⟨us,ru,⟨ob,e1,c1,n1,d1⟩,_⟩:=I.tuple sq
    have ia:=mQ ru
    generalize key (V.ref b)=kk at ia ne
    cases ia with
    | nil=>exact absurd rfl ne
    | @cons n t vs0 ns0 ht=>
     exact⟨Value.int n t :: fs,PySem.W.KatTups.cons (keep b ob (hL sq) e1) c1 d1 (by simp) t1,by simp [t2],fun v hv=>(bj1.mp hv).elim (fun z=>⟨n,t,z⟩) (t3 v)⟩
  obtain ⟨fs,t1,t2,t3⟩:=firsts rv hk
  refine PySem.W.kat_kind (T:=.type "int") t1 (by omega) (fun v hv=>?_) (by decide) ?_
  ·obtain ⟨i,t,rfl⟩:=t3 v hv
   exact PySem.W.Looks.now
  let c:Nat->Nat->Bool:=fun i j=>HT.eJ (key (ys.getD i .non)) (key (ys.getD j .non))
  have O:Srt.rV c:=⟨fun h=>wC h,fun h1 h2=>wD h1 h2⟩
  have ok:=Srt.M8 (n:=its.length) O (by omega)
  refine Srt.cA.run (I:=fun s'=>s'={ s with heap:=h' }) (fun i j C s' hi hj hI hC=>?_) (fun pa s' hR hI=>?_) _ _ rfl ok
  ·subst hI
   obtain ⟨b1,o1,u1,n1,g1,g2,_,g4,g5,_⟩:=look i (by omega)
   obtain ⟨b2,o2,u2,n2,k1,k2,_,k4,k5,_⟩:=look j (by omega)
   show wpAny _ _ (keyLt' (tuples' (Value.type "int" != Value.type "tuple")) (its.getD i Value.none) (its.getD j Value.none)) _ _ _
   rw [g1,k1]
   have eT:(Value.type "int" != Value.type "tuple")=true:=by decide
   rw [eT]
   refine PySem.W.kat_lt g2 g4 k2 k4 ?_
   have:=wE (prog:=X.prog) (w:=X.w) (A:=X.A.in1.in1) (s:={ s with heap:=h' }) (Q:=C) 0 g5 k5 (hC _ rfl)
   simpa using this
  ·subst hI
   obtain ⟨hp,hasc⟩:=hR
   refine PySem.W.KasFin.intro F' N' (PySem.W.UpdF.head fun p hp=>bm1 (hD p hp)) fun h2 cc F2 N2=>?_
   have keep2:=I.newsAll (fun p hp=>bj7 _ hp) F2 N2
   have hDn:s.heap.get? D=none:=by
    cases z:s.heap.get? D with
    | none=>rfl
    | some o=>
     obtain ⟨_,n1,n2⟩:=N2 (D,_) bi9
     exact absurd (hD _ (uL n1 n2 z)) (bn2 _)
   have hpl:∀ i ∈ pa.toList,i < ys.length:=fun i hi=>by
    have:=bv2.mp (hp.mem_iff.mp hi); omega
   have hp':pa.toList.Perm (List.range ys.length):=by rw [hl]; exact hp
   have pm:=M9 (d:=V.non) ys hp'
   obtain ⟨hDo,hDL,hDb⟩:=N2 (D,_) bi9
   obtain ⟨hHD,I2⟩:=I.laidF (t':=s.toks) (a:=D) (o:=.lst (pa.toList.map fun i=>ys.getD i .non)) hDn keep2 (fun m' hm'=>by
     have e:m'=m:=funext fun nm=>Heap.Ns.agree hm' F.ns nm
     rw [e]; exact F2.ns) ⟨by rw [pm.length_eq]; exact hz,_,cc,wB rv hpl,hDo⟩
   exact⟨.ref D,_,I2,rfl,q D _ hHD pm (N5 hp hasc fun i j hle=>hle)⟩
end L2
namespace PP
open PySem L2
section
variable {X : Cx} {e : Expr} {tr : cG} {pos p2 : Pos}
noncomputable def zV:List PV->(PV->Prop)->Prop:=fun xs Q=>∃ ys:List (List Int),xs = [.tup (ys.map fun r=>PV.tup (intz r))]/\ys.length < 64/\(∀ y ∈ ys,y ≠ [])/\∀ zs:List (List Int),zs.Perm ys->zs.Pairwise (fun u v=>HT.eJ v u=false)->Q (.lst (zs.map fun r=>PV.tup (intz r)))
theorem ba3:fZ X zV (ah1 X.K):=by
 rintro H vs xs Q Q' r ⟨ys,rfl,hl,hne,q⟩ k
 obtain ⟨v,rfl,r1⟩:=r.one
 cases r1 with
 | tup h r2=>
  obtain ⟨h1,h2⟩:=xS r2
  have lr:=r2.length
  rw [bi4] at lr
  refine⟨_,_,kA H,rfl,aJ.of h,by omega,fun y hy=>?_,fun l zs hl' pm so=>?_⟩
  ·obtain ⟨b,rfl,hb⟩:=h2 y hy
   refine⟨b,rfl,aJ.of hb,hne _ ?_⟩
   rw [<- h1]; exact bj8.mpr ⟨_,hy,rfl⟩
  ·have hz:∀ u ∈ zs,∃ b,u = .ref b/\H b=some (.tup ((kA H u).map V.int)):=fun u hu=>h2 u (pm.mem_iff.mp hu)
   refine k _ _ _ (bH hl' _) (.lst hl' bI ((xT hz).same (bH hl' _) fun _ z=>z)) (q _ ?_ ?_)
   ·rw [<- h1]; exact pm.map _
   ·rw [bo3]; exact so
theorem ba4 (B:Bt X.mg) (ha:QA X [e] tr) (hg:Gl X "sorted":=by rfl) (he:starEach [e] X.env=(false,eval e X.env) :: starEach [] X.env:=by rfl) (hpl:(backTo pos (starEach [] X.env)).any (·.1)=false:=by rfl):QE X (.Call (.Name "sorted" p2) [e] [] pos) (aB zV tr):=
 j8 ba2 ba3 hg B.sorted PyProof.Rows.boot_sorted ha (he:=he) (hpl:=hpl)
end
end PP
namespace Core
open PySem L2 PP
noncomputable def uH:eO:=fun Ep xs _=>∃ ws ls x ps y,xs = [b6 ws ls,x,y]/\Wb ws ls/\c7 ws.length ls/\cU x ps/\ps.length<=1000/\((bL ws.length ls/\¬ eQ ws.length ps/\Ep "BadPrices") ∨ (¬ bL ws.length ls/\Ep "NotWood"))
noncomputable def ah2 (Ep:Str->Prop):aK:=(aE (b4 3 (kB Ep lF (a6 (a5 0) a9)))
 (aE (b4 4 (kB Ep o9 (a6 (a5 1) (a6 (aB gW (a6 (a5 0) a9)) a9))))
 (aE pT
 (aE pT
 (aE pT
 pT)))))
theorem ba5:m9 ah2 ["web","prices","ledger","pairs","known","around","hearth","elder","below"] uH:=by
 rintro Ep xs Q ⟨ws,ls,x,ps,y,rfl,wb,lk,hx,pl,c⟩
 have few:=wb.few
 refine⟨_,rfl,ws,ls,rfl,wb,lk,fun w P R=>⟨trivial,?_⟩,fun no=>?_⟩
 ·rcases c with ⟨_,g,e⟩ | ⟨no,_⟩
  ·exact⟨_,rfl,_,rfl,ws,ls,rfl,x,ps,ws.length,rfl,hx,pl,by omega,fun gd=>absurd gd g,fun _=>e⟩
  ·exact absurd w no
 ·rcases c with ⟨w,_⟩ | ⟨_,e⟩
  ·exact absurd w no
  ·exact e
noncomputable def qW:bK:=fun xs Q=>∃ (w:Int) (ws:List Int) (ls:List (Int × Int)) (ps:List Int),xs = [.int w,b6 ws ls,.lst (intz ps)]/\Wb ws ls/\c7 ws.length ls/\NN ws/\ps.length<=1000/\((bL ws.length ls/\¬ eQ ws.length ps/\Q (.lst [.bl false,.bl true,.bl true])) ∨ (¬ bL ws.length ls/\Q (.lst [.bl true,.bl false,.bl true])))
noncomputable def ah3:aK:=(aE (b4 3 (qC .non))
 (aE (yJ "HearthError" 4 (yH (bD (jW (a5 0) (qC (.int 0)))) (tO lG (a6 (a5 1) (a6 (a5 2) a9))) (yH (bD (jW (a5 0) (qC (.int 1)))) (tO oF (a6 (a5 1) (a6 (a5 2) a9))) (tO uH (a6 (a5 1) (a6 (a5 2) (a6 (dQ a9) a9)))))) (b4 3 (dQ (a6 (nZ "NotWood" (a5 4)) (a6 (nZ "BadPrices" (a5 4)) (a6 (nZ "ValueError" (a5 4)) a9))))))
 (j4 3)))
theorem ba6:cI ah3 ["which","web","prices","kinds","e"] qW:=by
 rintro xs Q ⟨w,ws,ls,ps,rfl,wb,lk,nn,pl,c⟩
 refine⟨trivial,_,rfl,.inl ⟨_,_,rfl,rfl,_,rfl,o7 ?_ ⟨_,rfl,.inl ⟨_,_,rfl,rfl,_,rfl,o7 ?_ ?_⟩⟩⟩⟩
 ·refine⟨_,rfl,_,rfl,ws,ls,_,ps,rfl,wb,lk,nn,.inr rfl,pl,fun wd gd=>?_,fun wd ng=>?_,fun no=>?_⟩
  all_goals rcases c with ⟨c1,c2,q⟩ | ⟨c1,q⟩
  ·exact absurd gd c2
  ·exact absurd wd c1
  ·exact⟨by decide,_,rfl,false,(by decide),_,rfl,true,(by decide),_,rfl,true,(by decide),by show 3<=1000; decide,rfl,trivial,_,rfl,trivial,q⟩
  ·exact absurd wd c1
  ·exact absurd c1 no
  ·exact⟨by decide,_,rfl,true,(by decide),_,rfl,false,(by decide),_,rfl,true,(by decide),by show 3<=1000; decide,rfl,trivial,_,rfl,trivial,q⟩
 ·refine⟨_,rfl,_,rfl,ws,ls,_,ps,rfl,wb,lk,nn,.inr rfl,pl,fun wd gd=>?_,fun wd ng=>?_,fun no=>?_⟩
  all_goals rcases c with ⟨c1,c2,q⟩ | ⟨c1,q⟩
  ·exact absurd gd c2
  ·exact absurd wd c1
  ·exact⟨by decide,_,rfl,false,(by decide),_,rfl,true,(by decide),_,rfl,true,(by decide),by show 3<=1000; decide,rfl,trivial,_,rfl,trivial,q⟩
  ·exact absurd wd c1
  ·exact absurd c1 no
  ·exact⟨by decide,_,rfl,true,(by decide),_,rfl,false,(by decide),_,rfl,true,(by decide),by show 3<=1000; decide,rfl,trivial,_,rfl,trivial,q⟩
 ·refine⟨_,rfl,_,rfl,by decide,rfl,ws,ls,_,ps,_,rfl,wb,lk,.inr rfl,pl,?_⟩
  rcases c with ⟨c1,c2,q⟩ | ⟨c1,q⟩
  ·exact .inl ⟨c1,c2,by decide,_,rfl,false,(by decide),_,rfl,true,(by decide),_,rfl,true,(by decide),by show 3<=1000; decide,rfl,trivial,_,rfl,trivial,q⟩
  ·exact .inr ⟨c1,by decide,_,rfl,true,(by decide),_,rfl,false,(by decide),_,rfl,true,(by decide),by show 3<=1000; decide,rfl,trivial,_,rfl,trivial,q⟩
noncomputable def gZ (n:Nat):List (Int × Int):=[((n:Int),(n:Int)+1),((n:Int),(n:Int)+2),((n:Int)+1,(n:Int)+2)]
theorem ba7 {n:Nat}{ls rs:List (Int × Int)} (pm:rs.Perm (ls ++ gZ n)) (nd:rs.Nodup) : ¬ bL (n+3) rs:=fun w=>by
 have m:∀ l ∈ gZ n,l ∈ rs:=fun l hl=>pm.mem_iff.mpr (bk5 _ hl)
 have a:((n:Int),(n:Int)+1) ∈ rs:=m _ (by simp [gZ])
 have b:((n:Int),(n:Int)+2) ∈ fE rs ((n:Int),(n:Int)+1):=lA.mpr ⟨m _ (by simp [gZ]),by simp⟩
 have c:((n:Int)+1,(n:Int)+2) ∈ fE rs ((n:Int),(n:Int)+1):=lA.mpr ⟨m _ (by simp [gZ]),by simp⟩
 have r0:(n:Int) ∈ rng (n+3):=bY.mpr ⟨by omega,by omega⟩
 have r1:(n:Int)+1 ∈ rng (n+3):=bY.mpr ⟨by omega,by omega⟩
 have r2:(n:Int)+2 ∈ rng (n+3):=bY.mpr ⟨by omega,by omega⟩
 refine ac4 w nd a fun U cl=>⟨fun z=>?_,fun z=>?_⟩
 ·have y:=cl _ z _ (L2.cQ.mpr (.inl b)) r2
  exact cl _ y _ (L2.cQ.mpr (.inr c)) r1
 ·have y:=cl _ z _ (L2.cQ.mpr (.inl c)) r2
  exact cl _ y _ (L2.cQ.mpr (.inr b)) r0
theorem ba8 {n:Nat}{ls:List (Int × Int)} (lk:c7 n ls):(ls ++ gZ n).Nodup:=by
 refine br4.mpr ⟨lk.2.2.imp fun {a b} h e=>by subst e; unfold jB at h; omega,?_,fun a ha b hb e=>?_⟩
 ·unfold gZ
  simp only [bo2,bj1,Prod.mk.injEq,bl0,bq2,List.nodup_nil,and_true,not_false_eq_true]
  omega
 ·subst e
  have:=lk.1 a ha
  simp only [gZ,bj1,bl0,bq2] at hb
  rcases hb with rfl | rfl | rfl <;> dsimp only at this <;> omega
noncomputable def e7 (W:List (List Int)):List PV:=W.map fun w=>PV.lst (intz w)
theorem ah4 {W:List (List Int)}{i:Nat}{y:PV} (h:(e7 W)[i]? = some y):∃ w,W[i]? = some w/\y = .lst (intz w):=by
 unfold e7 at h
 rw [bj2] at h
 cases e:W[i]? with
 | none=>rw [e] at h; cases h
 | some b=>rw [e] at h; exact⟨b,rfl,(bl2 h).symm⟩
noncomputable def uI:bK:=fun xs Q=>∃ (ws:List Int) (ls:List (Int × Int)) (ps:List Int) (c:Int),xs = [b6 ws ls,.lst (intz ps),.int c]/\ws.length<=37/\Wb ws ls/\c7 ws.length ls/\NN ws/\bL ws.length ls/\eQ ws.length ps/\Q (.bl true)
noncomputable def ah5:aK:=(dS (cR (a5 4)) (bX 9)
   (cD (bD (q2 (sM 2 true) (aB qW (a6 (a5 8) (a6 (a5 0) (a6 (a5 9) a9)))) (dQ (a6 (qC (.bl false)) (a6 (qC (.bl true)) (a6 (qC (.bl true)) a9)))))) (bN (qC (.bl false))) cH))
noncomputable def ah6:aK:=(dS (cR (q2 zB (a5 4) (yY (a6 (xZ (a5 1) (dQ (a6 (qC (.int 1)) (a6 (qC (.int 2)) (a6 (qC (.int 3)) a9))))) a9)))) (bX 9)
   (cD (bD (q2 (sM 2 true) (aB qW (a6 (a5 8) (a6 (a5 7) (a6 (a5 9) a9)))) (dQ (a6 (qC (.bl true)) (a6 (qC (.bl false)) (a6 (qC (.bl true)) a9)))))) (bN (qC (.bl false))) cH))
noncomputable def zW:aK:=(aE (mZ 4 (dS (j5 (qC (.int 3))) (bX 8)
  (aE ah5
  ah6)))
 (bN (qC (.bl true))))
noncomputable def ah7:aK:=(aE (b4 6 (eZ (a6 (eZ (a6 (a5 3) (a6 (cB (a5 3) (qC (.int 1))) a9))) (a6 (eZ (a6 (a5 3) (a6 (cB (a5 3) (qC (.int 2))) a9))) (a6 (eZ (a6 (cB (a5 3) (qC (.int 1))) (a6 (cB (a5 3) (qC (.int 2))) a9))) a9)))))
 (aE (b4 7 (eZ (a6 (yB (bA (a5 0) (qC (.int 0))) (eZ (a6 (qC (.int 0)) (a6 (qC (.int 1)) (a6 (qC (.int 2)) a9))))) (a6 (aB j6 (a6 (aB zV (a6 (yB (bA (a5 0) (qC (.int 1))) (a5 6)) a9)) a9)) a9))))
 zW))
noncomputable def zX:aK:=(aE (cD (bD (R8 (a5 3) (qC (.int 0)))) (aE (b4 5 (cE (a5 2) (a5 3)))
  (aE (gT 4 (nH (a5 1) (lW (qC (.int 1))) pP))
  (u5 4 (aB wW (a6 (a5 1) a9)) (sL (qC (.int 1))) (a5 5) (jV (sL (qC (.int 1))) (cE (i9 (a5 2) (qC (.int 8))) (pR (qC (.int 10)) (qC (.int 30)))))))) cH)
 ah7)
noncomputable def zY:aK:=(aE (b4 3 (aB dH (a6 (bA (a5 0) (qC (.int 0))) a9)))
 (aE (yX 4 (xZ (a5 1) (dQ (a6 (qC (.int 0)) a9))))
 zX))
section
variable {ws rw' ps : List Int} {ls rs : List (Int × Int)} {W : List (List Int)} {E : g6} {s2 s3 s5 s6 y9 : Option Slot} {k : Int}
theorem ba9 {s1 s7:Option Slot} (wb:Wb ws ls) (lk:c7 ws.length ls) (nn:NN ws) (wd:bL ws.length ls) (hW:∀ w ∈ W,w.length<=1000/\¬ eQ ws.length w)
  (nx:∀ y9,E.nx [some (.sh true (b6 ws ls)),s1,s2,s3,some (.sh true (.lst (e7 W))),s5,s6,s7,si k,y9]) :
  ah5 E [some (.sh true (b6 ws ls)),s1,s2,s3,some (.sh true (.lst (e7 W))),s5,s6,s7,si k,y9]:=by
 refine⟨_,rfl,e7 W,rfl,(fun z=>by cases z),fun i ρ=>∃ y9:Option Slot,ρ = [some (.sh true (b6 ws ls)),s1,s2,s3,some (.sh true (.lst (e7 W))),s5,s6,s7,si k,y9],⟨_,rfl⟩,?_,?_⟩
 ·rintro i y ρ hy ⟨y9,rfl⟩
  obtain ⟨w,hw,rfl⟩:=ah4 hy
  obtain ⟨w1,w2⟩:=hW w (bi0 hw)
  refine⟨_,rfl,_,rfl,_,rfl,k,ws,ls,w,rfl,wb,lk,nn,w1,.inl ⟨wd,w2,?_⟩⟩
  exact⟨by show 3<=1000; decide,rfl,.inr ⟨_,_,rfl,rfl⟩,by decide,_,rfl,bF ⟨_,rfl⟩⟩
 ·rintro ρ ⟨y9,rfl⟩
  exact nx y9
theorem bb0 {s0:Option Slot} (wb:Wb rw' rs) (lk:c7 rw'.length rs) (nn:NN rw') (wd : ¬ bL rw'.length rs) (pl:ps.length<=900) (wl:W.length<=100) (hW:∀ w ∈ W,w.length<=1000)
  (nx:∀ y9,E.nx [s0,some (.sh false (.lst (intz ps))),s2,s3,some (.sh true (.lst (e7 W))),s5,s6,some (.sh true (b6 rw' rs)),si k,y9]) :
  ah6 E [s0,some (.sh false (.lst (intz ps))),s2,s3,some (.sh true (.lst (e7 W))),s5,s6,some (.sh true (b6 rw' rs)),si k,y9]:=by
 have e1:intz ps ++ [PV.int 1,.int 2,.int 3]=intz (ps ++ [1,2,3]):=by rw [eN]; rfl
 have e2:e7 W ++ [PV.lst (intz ps ++ [PV.int 1,.int 2,.int 3])]=e7 (W ++ [ps ++ [1,2,3]]):=by rw [e1]; unfold e7; rw [bk2]; rfl
 have ll:(e7 W).length=W.length:=bi4 _
 refine⟨_,rfl,_,rfl,by show 3<=1000; decide,rfl,_,_,rfl,rfl,dG _,rfl,by rw [b8]; show ps.length+3<=_; omega,by show 1<=1000; decide,?_,?_⟩
 ·intro p hp
  cases bi3.mp hp
  exact trivial
 refine⟨e7 W,[PV.lst (intz ps ++ [PV.int 1,.int 2,.int 3])],rfl,rfl,trivial,trivial,by rw [ll]; show W.length+1<=_; omega,?_⟩
 rw [e2]
 refine⟨e7 (W ++ [ps ++ [1,2,3]]),rfl,(fun z=>by cases z),fun i ρ=>∃ y9:Option Slot,ρ = [s0,some (.sh false (.lst (intz ps))),s2,s3,some (.sh true (.lst (e7 W))),s5,s6,some (.sh true (b6 rw' rs)),si k,y9],⟨_,rfl⟩,?_,?_⟩
 ·rintro i y ρ hy ⟨y9,rfl⟩
  obtain ⟨w,hw,rfl⟩:=ah4 hy
  have w1:w.length<=1000:=by
   rcases bi7.mp (bi0 hw) with z | z
   ·exact hW w z
   ·rw [bi3.mp z,bj4]; show ps.length+3<=_; omega
  refine⟨_,rfl,_,rfl,_,rfl,k,rw',rs,w,rfl,wb,lk,nn,w1,.inr ⟨wd,?_⟩⟩
  exact⟨by show 3<=1000; decide,rfl,.inr ⟨_,_,rfl,rfl⟩,by decide,_,rfl,bF ⟨_,rfl⟩⟩
 ·rintro ρ ⟨y9,rfl⟩
  exact nx y9
theorem bb1 {Q:PV->Prop} (wb:Wb ws ls) (lk:c7 ws.length ls) (nn:NN ws) (wd:bL ws.length ls) (hW:∀ w ∈ W,w.length<=1000/\¬ eQ ws.length w) (wb':Wb rw' rs) (lk':c7 rw'.length rs) (nn':NN rw') (wd' : ¬ bL rw'.length rs) (pl:ps.length<=900) (wl:W.length<=100) (q:Q (.bl true)) :
  zW { nx:=fun _=>Q .non,rt:=Q } [some (.sh true (b6 ws ls)),some (.sh false (.lst (intz ps))),s2,s3,some (.own (.lst (e7 W))),s5,s6,some (.sh true (b6 rw' rs)),none,none]:=by
 refine⟨_,rfl,3,rfl,by decide,by decide,fun i ρ=>∃ y8 y9:Option Slot,ρ = [some (.sh true (b6 ws ls)),some (.sh false (.lst (intz ps))),s2,s3,some (.sh true (.lst (e7 W))),s5,s6,some (.sh true (b6 rw' rs)),y8,y9],⟨none,none,rfl⟩,?_,?_⟩
 ·rintro i y ρ hy ⟨y8,y9,rfl⟩
  obtain ⟨rfl,hi⟩:=jA hy
  refine iB ?_
  exact ba9 wb lk nn wd hW fun y9=>bb0 wb' lk' nn' wd' pl wl (fun w hw=>(hW w hw).1) fun y9=>⟨_,y9,rfl⟩
 ·rintro ρ ⟨y8,y9,rfl⟩
  exact⟨trivial,q⟩
theorem ah8 {Q:PV->Prop}{n:Nat} (en:ws.length=n) (n37:n<=37) (wb:Wb ws ls) (lk:c7 ws.length ls) (nn:NN ws) (wd:bL ws.length ls) (hW:∀ w ∈ W,w.length<=1000/\¬ eQ ws.length w) (pl:ps.length<=900) (wl:W.length<=100) (q:Q (.bl true)) :
  ah7 { nx:=fun _=>Q .non,rt:=Q } [some (.sh true (b6 ws ls)),some (.sh false (.lst (intz ps))),s2,si n,some (.own (.lst (e7 W))),s5,none,none,none,none]:=by
 have t2:2<=1000:=by decide
 have t3:3<=1000:=by decide
 have lsl:ls.length<=n:=by unfold bL at wd; omega
 refine⟨_,rfl,_,rfl,_,_,rfl,rfl,t2,rfl,?_⟩
 refine⟨_,rfl,_,rfl,_,_,rfl,rfl,t2,rfl,?_⟩
 refine⟨_,rfl,_,_,rfl,rfl,_,rfl,_,_,rfl,rfl,t2,rfl,t3,rfl,trivial,?_⟩
 show (aE _ _) _ [_,_,_,_,_,_,some (Slot.sh true (.tup (aV (gZ n)))),_,_,_]
 have e1:intz ws ++ [PV.int 0,.int 1,.int 2]=intz (ws ++ [0,1,2]):=by rw [eN]; rfl
 have lm:(gZ n).length=3:=rfl
 refine⟨_,rfl,_,_,_,rfl,rfl,rfl,t3,rfl,intz ws,[PV.int 0,.int 1,.int 2],rfl,rfl,dG _,rfl,by rw [b8]; show ws.length+3<=_; omega,?_⟩
 refine⟨_,rfl,_,_,_,rfl,rfl,rfl,_,rfl,aV ls,aV (gZ n),rfl,rfl,iP _,iP _,by rw [iR,iR,lm]; omega,?_⟩
 refine⟨(ls ++ gZ n).map two,by rw [<- nT,aU3]; rfl,by rw [bi4,bj4,lm]; omega,fun y hy=>by obtain ⟨l,_,rfl⟩:=bj8.mp hy; exact List.cons_ne_nil _ _,fun Z pz so=>?_⟩
 obtain ⟨rs,rfl,pm⟩:=xW pz
 rw [<- nT,e1]
 refine⟨⟨_,_,rfl,rfl,iP _,?_⟩,fun ns z=>by cases z⟩
 have nd:=pm.nodup_iff.mpr (ba8 (en ▸ lk))
 have nl:(ws ++ [0,1,2]).length=n+3:=by rw [bj4,en]; rfl
 refine⟨by show 2<=1000; decide,?_,trivial,?_⟩
 ·show (flats (intz (ws ++ [0,1,2])) && (flats (aV rs) && true))=true
  rw [dG,show flats (aV rs)=true from iP rs]; rfl
 show zW _ [_,_,_,_,_,_,_,some (Slot.sh true (b6 (ws ++ [0,1,2]) rs)),_,_]
 have inn:∀ l ∈ rs,0<=l.1/\l.1 < l.2/\l.2 < ((ws ++ [0,1,2]).length:Int):=fun l hl=>by
  rw [nl]
  rcases bi7.mp (pm.mem_iff.mp hl) with z | z
  ·have:=lk.1 l z; omega
  ·simp only [gZ,bj1,bl0,bq2] at z
   rcases z with rfl | rfl | rfl <;> dsimp only <;> omega
 have lk':c7 (ws ++ [0,1,2]).length rs:=⟨inn,by rw [pm.length_eq,bj4,lm]; omega,W8 so nd⟩
 have wb':Wb (ws ++ [0,1,2]) rs:=⟨by omega,lk'.2.1,fun l hl=>by have:=inn l hl; omega⟩
 have nn':NN (ws ++ [0,1,2]):=fun w hw=>by
  rcases bi7.mp hw with z | z
  ·exact nn w z
  ·simp only [bj1,bl0,bq2] at z; omega
 exact bb1 wb lk nn wd hW wb' lk' nn' (by rw [nl]; exact ba7 pm nd) pl wl q
theorem bb2 {Q:PV->Prop}{n:Nat}{c:Int} (en:ws.length=n) (n37:n<=37) (wb:Wb ws ls) (lk:c7 ws.length ls) (nn:NN ws) (wd:bL ws.length ls) (gp:eQ ws.length ps) (q:Q (.bl true)) :
  zX { nx:=fun _=>Q .non,rt:=Q } [some (.sh true (b6 ws ls)),some (.sh false (.lst (intz ps))),si c,si n,some (.own (.lst (e7 [ps ++ [0]]))),none,none,none,none,none]:=by
 have pl:=gp.1
 have b1:(ps ++ [0]).length<=1000/\¬ eQ ws.length (ps ++ [0]):=by
  refine⟨by rw [bj4]; show ps.length+1<=_; omega,fun z=>?_⟩
  have:=z.1
  rw [bj4] at this
  have:ps.length+1=ws.length:=this
  omega
 refine⟨_,rfl,_,_,rfl,rfl,_,rfl,?_⟩
 show if decide ((n:Int) > 0)=true then _ else _
 by_cases w0:(n:Int) > 0
 ·rw [bi6 w0]
  refine bJ ?_
  have k0:0<=c % (n:Int):=bo4 _ (by omega)
  have k1:c % (n:Int) < n:=bu6 _ w0
  refine⟨_,rfl,_,rfl,_,_,rfl,rfl,w0,trivial,?_⟩
  dsimp only
  generalize c % (n:Int)=k at k0 k1
  refine⟨_,rfl,_,rfl,_,rfl,intz ps,rfl,dG _,trivial,(by show 1 < 16000000; decide),?_⟩
  show (u5 _ _ _ _ _) _ [_,_,_,_,some (Slot.own (.lst (e7 [ps ++ [0]] ++ [.lst (fO (intz ps) (some 1) none)]))),_,_,_,_,_]
  rw [aT9]
  obtain ⟨k,rfl⟩:=Int.eq_ofNat_of_zero_le k0
  have kl:k < ps.length:=by omega
  have ixk:eL (intz ps).length (k:Int)=some k:=by
   unfold eL
   rw [b8,if_pos (by omega),if_pos (by omega),bk4]
  refine⟨_,rfl,_,rfl,⟨_,_,rfl,rfl,dG _,_,rfl,rfl,dG _,(by show 2 < 16000000; decide),?_⟩⟩
  refine⟨_,rfl,_,rfl,_,_,rfl,rfl,⟨by decide,by decide⟩,_,_,rfl,rfl,⟨by decide,by decide,by decide⟩,_,_,rfl,rfl,(by show (0:Int) < 10 ^ (30:Int).toNat; decide),_,_,rfl,rfl,rfl,?_⟩
  dsimp only
  have f0:0<=c / 8 % 10 ^ (30:Int).toNat:=bo4 _ (by decide)
  generalize c / 8 % 10 ^ (30:Int).toNat=f at f0
  refine⟨_,rfl,rfl,_,rfl,_,k,rfl,ixk,?_⟩
  have e3:(intz ps).set k (.int (-1 - f))=intz (ps.set k (-1 - f)):=by
   show (List.map PV.int ps).set k _=List.map PV.int _
   rw [List.map_set]
  have:=ah8 (s2:=si c) (s5:=si (k:Nat)) (ps:=ps) (W:=[ps ++ [0],ps.drop 1,ps.set k (-1 - f)]) (Q:=Q) en n37 wb lk nn wd (fun w hw=>?_) (by omega) (by show 3<=100; decide) q
  ·rw [show e7 [ps ++ [0],ps.drop 1,ps.set k (-1 - f)] = [.lst (intz (ps ++ [0])),.lst (intz (ps.drop 1)),.lst (intz (ps.set k (-1 - f)))] from rfl,<- e3] at this
   exact this
  ·rcases bj1.mp hw with rfl | hw
   ·exact b1
   rcases bj1.mp hw with rfl | hw
   ·refine⟨by rw [bq0]; omega,fun z=>?_⟩
    have:=z.1
    rw [bq0] at this
    omega
   rcases bj1.mp hw with rfl | hw
   ·refine⟨by rw [bm3]; omega,fun z=>?_⟩
    have:=z.2 (-1 - f) (List.mem_set kl _)
    omega
   ·cases hw
 ·rw [bj5 w0]
  exact bF (ah8 en n37 wb lk nn wd (fun w hw=>by rw [bi3.mp hw]; exact b1) (by omega) (by show 1<=100; decide) q)
end
theorem bb3:cI zY ["web","prices","cell","many","wrong","place","more","ring","which","some"] uI:=by
 rintro xs Q ⟨ws,ls,ps,c,rfl,n37,wb,lk,nn,wd,gp,q⟩
 have pl:=gp.1
 show zY _ [some (.sh (flat (b6 ws ls)) (b6 ws ls)),some (.sh false (.lst (intz ps))),si c,none,none,none,none,none,none,none]
 rw [xN]
 refine⟨_,rfl,_,_,_,rfl,rfl,rfl,_,_,rfl,rfl,trivial,?_⟩
 rw [b8]
 refine⟨_,rfl,by show 1<=1000; decide,rfl,_,_,rfl,rfl,dG _,rfl,by rw [b8]; show ps.length+1<=_; omega,rfl,?_⟩
 have e1:intz ps ++ [PV.int 0]=intz (ps ++ [0]):=by rw [eN]; rfl
 show zX _ [_,_,_,_,some (Slot.own (.lst [.lst (intz ps ++ [PV.int 0])])),_,_,_,_,_]
 rw [e1]
 exact bb2 rfl n37 wb lk nn wd gp q
noncomputable def zZ:bK:=X0
noncomputable def ah9:aK:=(aE (b4 7 (aB l8 (a6 (cZ (j5 (a5 2)) [none,some 5,some 6] (bX 0) (bD (aF1 (bA (a5 1) (a5 0)) (qC .non))) (bA (bA (a5 2) (a5 0)) (qC (.int 1)))) a9)))
 (aE (cD (bD (R9 (aB l8 (a6 (cZ (cR (a5 4)) [none,some 3] (bX 0) dA (bA (a5 1) (a5 0))) a9)) (a5 7))) (bN (qC (.bl false))) cH)
 (bN (aB uI (a6 (a5 1) (a6 (a5 3) (a6 (aB fC (a6 (a5 0) (a6 (qC (.int 3)) a9))) a9)))))))
noncomputable def ai0:aK:=(aE (b4 1 (aB uE (a6 (a5 0) (a6 (qC (.int 37)) a9))))
 (aE (b4 2 (aB dH (a6 (bA (a5 1) (qC (.int 0))) a9)))
 (aE (b4 3 (aB u6 (a6 (a5 0) (a6 (a5 2) a9))))
 (aE (b4 4 (aB (oF fun _=>False) (a6 (a5 1) (a6 (a5 3) a9))))
 (aE (cD (pG (j3 (bD (aB u3 (a6 (a5 4) (a6 (a5 2) a9))))) (j3 (bD (aB u0 (a6 (a5 1) (a6 (a5 4) a9)))))) (bN (qC (.bl false))) cH)
 (aE (b4 5 (bA (aB uG (a6 (a5 1) a9)) (qC (.int 0))))
 (aE (b4 6 (aB (lG fun _=>False) (a6 (a5 1) (a6 (a5 3) a9))))
 ah9)))))))
theorem bb4 {ns ws ps T:List Int}{ls:List (Int × Int)}{els:List (Option Int)}{O:List Int}{P:bO}{L:cW}{Q:PV->Prop} (hl:ns.length<=63) (n37:ws.length<=37) (wb:Wb ws ls) (lk:c7 ws.length ls) (wd:bL ws.length ls) (nn:NN ws) (gp:eQ ws.length ps) (hT:bE ws.length T=true) (B:mG ws.length ls els O) (R:Rt ws.length ls P) (ll:L.length=ws.length) (sm:(T.map fun s=>ps.getD s.toNat 0).sum=((kH P).map fun r=>(bG L r).2).sum) (q:Q (.bl true)) :
  ah9 { nx:=fun _=>Q .non,rt:=Q } [some (.sh true (.scr ns)),some (.sh true (b6 ws ls)),si ws.length,some (.sh true (.lst (intz ps))),some (.sh true (.tup (intz T))),some (.sh true (.lst (dZ els))),some (.sh true (.tup (aV L))),none]:=by
 have few:=wb.few
 have sl:=qF hT
 have pl:=gp.1
 refine⟨_,rfl,ws.length,rfl,by omega,by omega,by rw [gA]; omega,fun j acc=>acc=intz ((((rng ws.length).take j).filter fun c=>(dE els c).isNone).map fun r=>(bG L r).2),rfl,?_,?_⟩
 ·rintro j y' acc hy' rfl
  obtain ⟨rfl,hj⟩:=jA hy'
  have hj:j < ws.length:=by omega
  have tk:=qD (p:=fun c=>(dE els c).isNone) (nR hj)
  refine iB ?_
  rw [bx0]
  refine⟨_,rfl,_,rfl,_,_,_,rfl,rfl,aY4 (by omega) (by rw [B.len]; omega),rfl,_,rfl,?_⟩
  cases hm:dE els (j:Int) with
  | none=>
   rw [hm] at tk
   refine bJ ⟨_,rfl,_,rfl,_,_,_,rfl,rfl,zO (by omega) (by omega),_,_,_,rfl,rfl,rfl,rfl,?_⟩
   dsimp only
   rw [tk,bk2,eN]; rfl
  | some x=>
   rw [hm] at tk
   refine bF ?_
   dsimp only
   rw [tk]; exact (bp1 _).symm ▸ rfl
 rintro acc rfl
 rw [gA,bk4,bl6 (by rw [dM]; exact bi8 _)]
 refine⟨_,_,rfl,rfl,trivial,?_⟩
 rw [<- qM ((aY7 R B).map fun r=>(bG L r).2),<- sm]
 refine⟨_,rfl,intz T,rfl,(fun z=>by cases z),by rw [b8]; omega,fun i acc=>acc=intz ((T.take i).map fun s=>ps.getD s.toNat 0),rfl,?_,?_⟩
 ·rintro i y acc hy rfl
  obtain ⟨x,rfl,hx⟩:=gV hy
  have xr:=(eB hT).2 x (bi0 hx)
  refine⟨_,rfl,_,rfl,_,_,_,rfl,rfl,qU xr.1 (by omega),rfl,?_⟩
  dsimp only
  rw [bm4,hx,bk2,eN]; rfl
 rintro acc rfl
 rw [b8,bl6 (bi8 _)]
 refine⟨_,_,rfl,rfl,_,rfl,.inl ⟨_,_,rfl,rfl,_,rfl,?_⟩⟩
 show if (!decide (_=_))=true then _ else _
 rw [bi6 rfl]
 refine bF ?_
 exact⟨_,rfl,_,rfl,_,rfl,_,ns,3,rfl,.inl rfl,by decide,ws,ls,ps,_,rfl,n37,wb,lk,nn,wd,gp,trivial,q⟩
theorem bb5:cI ai0 ["script","web","many","prices","seeds","elders","ledger","due"] zZ:=by
 rintro xs Q ⟨ns,rfl,hl,q⟩
 refine⟨_,rfl,ns,37,rfl,hl,by decide,by decide,fun n ws ls n1 w lk wd=>⟨trivial,?_⟩⟩
 have wl:=w.many
 have wb:Wb ws ls:=w.wb (by omega)
 have en:ws.length=n:=by omega
 subst en
 have few:=wb.few
 refine⟨_,rfl,_,_,_,rfl,rfl,rfl,_,_,rfl,rfl,trivial,?_⟩
 rw [b8]
 refine⟨_,rfl,_,rfl,ns,ws.length,rfl,hl,few,fun ps gp=>⟨trivial,?_⟩⟩
 have pl:=gp.1
 refine⟨_,rfl,_,rfl,ws,ls,_,ps,rfl,wb,lk,w.pos,.inr rfl,by omega,fun _ _ T hT fT sm=>⟨trivial,?_⟩,fun _ z=>absurd gp z,fun z=>absurd wd z⟩
 refine⟨_,rfl,_,rfl,T,ws.length,rfl,hT,_,rfl,bF ?_⟩
 refine⟨_,rfl,_,rfl,ws,ls,_,T,rfl,wb,.inl rfl,fun x hx=>bY.mpr ((eB hT).2 x hx),_,rfl,?_⟩
 rw [fT]
 refine bF ?_
 refine⟨_,rfl,ws,ls,rfl,wb,lk,wd,fun els O B=>⟨_,_,_,rfl,rfl,rfl,trivial,?_⟩⟩
 refine⟨_,rfl,_,rfl,ws,ls,_,ps,rfl,wb,lk,w.pos,.inr rfl,by omega,fun _ _ P L R k=>⟨trivial,?_⟩,fun _ z=>absurd gp z,fun z=>absurd wd z⟩
 exact bb4 hl (by omega) wb lk wd w.pos gp hT B R k.1 (sm P L R k) q
end Core
namespace K_k55
open PySem PySem.W L2 PP Core
theorem _root_.L2.FnScope.au {N P:List Str}{s:Scope} (a:s.kind=.function:=by rfl) (b:s.isCoroutine=false:=by rfl) (c:s.isGenerator=false:=by rfl) (d:N.Nodup:=by decide +kernel) (e:N.take P.length=P:=by rfl) (f:∀ x∈P,s.names.lookup x=some .local∨s.names.lookup x=some .cell:=by decide +kernel) (g:∀ y∈s.names,y.2≠.free:=by decide +kernel):FnScope N P s:=⟨a,b,c,d,e,f,g⟩
noncomputable def b9 (i:Nat):Stmt:=PySem.Challenge.pw_kindleweb_k55_cheapest_seeds_of_woods.main.body.getD i (.Pass ⟨0,0,0,0⟩)
structure FK (K:Frag) (n:Str) (i:Nat) (f:Addr) (d:FuncData):Prop where
 a:nsIn K mainGlobals n=some (some (.ref f))
 F:fI K n n (b9 i) f d
structure FM (K:Frag) (mg:Str->Option Value) (n:Str) (i:Nat) (f:Addr) (d:FuncData):Prop where
 F:fI K n n (b9 i) f d
 m:mg n=some (.ref f)
theorem FK.M {K:Frag}{mg:Str->Option Value}{n:Str}{i:Nat}{f:Addr}{d:FuncData}{h:Heap} (z:FK K n i f d) (X:K.In h) (G:h.Ns mainGlobals mg):FM K mg n i f d:=⟨z.F,mg_of X G z.a⟩
noncomputable abbrev Hb (x:Str) (ps:List Str) (i:Nat):Prop:=∀ (kV doc pm:Value) (an:Option Addr) (cdv ct:Value) (us:List Value),us.length=ps.length->bindArgs (fnOf x x (jL (b9 i)) (fH (b9 i)) (aY (b9 i)) .none kV doc pm an cdv ct) ⟨us,[]⟩=pure (ps.zip us)
theorem bb6 {A:Around}{k:Nat} (hr:cC k A):A.units+3 < cLine:=by have:=hr.units; omega
section
variable {P : Program} {w : World} {K : Frag} {mg : Str → Option Value} {base : Heap} {f : Addr} {fd : FuncData} {k i : Nat} {x : Str} {ps N : List Str}
theorem Df.au {p:bK} (F:FM K mg x i f fd) (S:FnScope N ps (aY (b9 i))) (body:∀ (cdv:Value) (A:Around) (outer:List Env) (s:Shared) (H:Hp) (E:XK),cC k (A.deeper (PyProof.Rows.envOfC x (aY (b9 i)) s.heap.objs.size f cdv))->∃ t,fA (dP e9 P w K mg base N x (aY (b9 i)) f cdv A outer s H E).nox (fH (b9 i)) t/\∀ xs Q,p xs Q->t { nx:=fun _=>Q .non,rt:=Q } (gJ N xs)) (hb:Hb x ps i:=by intro _ _ _ _ _ _ us hl; first | (obtain ⟨_,rfl⟩:=o4 hl; rfl) | (obtain ⟨_,_,rfl⟩:=yQ hl; rfl) | (obtain ⟨_,_,_,rfl⟩:=Z6 hl; rfl) | (obtain ⟨_,_,_,_,rfl⟩:=us4 hl; rfl) | (obtain ⟨_,_,_,_,_,rfl⟩:=us5 hl; rfl)) (len:∀ xs Q,p xs Q->xs.length=ps.length:=by intro xs Q h; repeat (first | (obtain ⟨rfl,_⟩:=h; rfl) | (obtain ⟨_,h⟩:=h))):Df P w K mg base (k+1) x ps p:=
 Df.of F.F F.m S hb len body
theorem bV.au {p:eO} (F:FM K mg x i f fd) (S:FnScope N ps (aY (b9 i))) (t:(Str->Prop)->aK) (rd:∀ Ep xs Q,p Ep xs Q->t Ep { nx:=fun _=>Q .non,rt:=Q } (gJ N xs)) (body:∀ (cdv:Value) (A:Around) (outer:List Env) (s:Shared) (H:Hp) (E:XK) (Ep:Str->Prop),cC k (A.deeper (PyProof.Rows.envOfC x (aY (b9 i)) s.heap.objs.size f cdv))->nQ (dP (eU P w) P w K mg base N x (aY (b9 i)) f cdv A outer s H E) (EX K H Ep)->fA (dP (eU P w) P w K mg base N x (aY (b9 i)) f cdv A outer s H E) (fH (b9 i)) (t Ep)) (hb:Hb x ps i:=by intro _ _ _ _ _ _ us hl; first | (obtain ⟨_,rfl⟩:=o4 hl; rfl) | (obtain ⟨_,_,rfl⟩:=yQ hl; rfl) | (obtain ⟨_,_,_,rfl⟩:=Z6 hl; rfl) | (obtain ⟨_,_,_,_,rfl⟩:=us4 hl; rfl) | (obtain ⟨_,_,_,_,_,rfl⟩:=us5 hl; rfl)) (len:∀ Ep xs Q,p Ep xs Q->xs.length=ps.length:=by intro Ep xs Q h; repeat (first | (obtain ⟨rfl,_⟩:=h; rfl) | (obtain ⟨_,h⟩:=h))):bV P w K mg base (k+1) x ps p:=
 bV.of F.F F.m S hb t len rd body
end
section
variable {P : Program} {w : World} {K : Frag} {mg : Str → Option Value} {base : Heap} {f : Addr} {fd : FuncData}
theorem nd2:(["ahead","behind"]:List Str).Nodup:=by decide +kernel
noncomputable abbrev ai1:Stmt:=b9 9
theorem scR:FnScope ["things"] ["things"] (aY ai1):=.au
theorem A0 {ns:List Int}{i:Nat}{x y:V} (h1:(ns.map V.int)[i]? = some x) (h2:((ns.map V.int).drop 1)[i]? = some y):∃ p q:Int,x = .int p/\y = .int q/\(ns.zip (ns.drop 1))[i]? = some (p,q):=by
 rw [bj2] at h1
 rw [<- List.map_drop,bj2] at h2
 cases e1:ns[i]? with
 | none=>rw [e1] at h1; cases h1
 | some p=>
  cases e2:(ns.drop 1)[i]? with
  | none=>rw [e2] at h2; cases h2
  | some q=>
   rw [e1] at h1; rw [e2] at h2
   exact⟨p,q,(bl2 h1).symm,(bl2 h2).symm,List.getElem?_zip_eq_some.mpr ⟨e1,e2⟩⟩
theorem bb7 (B:Bt mg) (F:fI K "rises" "rises" ai1 f fd):cY P w K mg base e9 1 f fd ["things"] (W5 K):=by
 refine F.ok scR (fun vs H Q E h=>?_) (fun cdv A outer s H vs Q E hr h=>?_)
 ·obtain ⟨a,ns,rfl,_⟩:=h
  rfl
 obtain ⟨a,ns,rfl,hS,hn,q⟩:=h
 have lz:((ns.map V.int).drop 1).length<=sizeLine:=bn5 (gP (by rw [bq0,bi4]; omega))
 have lz2:((ns.map V.int).drop 1).length<=(ns.map V.int).length:=by rw [bq0]; omega
 have lz3:(ns.zip (ns.drop 1)).length=((ns.map V.int).drop 1).length:=by rw [List.length_zip,bq0,bq0,bi4]; omega
 rcases hS with hS | hS
 ·refine⟨_,kJ (mI (oS (wJ rfl) rfl B.all PyProof.Rows.boot_all (cJ (L6 (N:=["ahead","behind"]) (fr:=[none,none]) rfl (cP.of rfl rfl) (ay9 rfl B.zip (cJ (pv 0) (cJ (vC O4 (pv 0) (vB lI) vA) dF)))
   ⟨fun _ _ _ _=>show PG _ _ (lM K 2 (gO (cO 0) (gO (cO 1) lK))) from mK rfl (hJ (fG (i:=0) nd2 rfl (Or.inl rfl) (.inr rfl)) (hJ (fG (i:=1) nd2 rfl (Or.inl rfl) (.inr rfl)) mJ)),fun _ _ _ _=>p9,fun _ _ _ _=>uY rD (pv 0) (pv 1) (fW _)⟩) dF))),?_⟩
  refine⟨_,rfl,_,rfl,1,rfl,a,_,rfl,hS,fun p hp=>?_,fun e=>?_⟩
  ·have s1:=bH hp (.tup (eW (ns.map V.int) (some 1) none))
   have hb:aJ K (upd H p (.tup (eW (ns.map V.int) (some 1) none))) p ((ns.map V.int).drop 1):=aJ.of (by rw [bI,wM])
   refine⟨a,p,_,_,rfl,s1.tup hS,hb,wL (O3 (s1.tup hS) hb lz2) (fun i acc _=>acc=((ns.zip (ns.drop 1)).take i).map fun (p:Int × Int)=>V.bl (decide (p.1 < p.2))) lz (fun _ _=>rfl) (fun _ _ _ _ _ h=>h) (fun i x acc D H' hi hR c hP=>?_) (fun D acc H' hD sm hDa hlen hP=>?_)⟩
   ·obtain ⟨T,x1,y1,rfl,hT,h1,h2⟩:=hR
    obtain ⟨m,k,rfl,rfl,hz⟩:=A0 h1 h2
    refine⟨T,_,rfl,aJ.of hT,rfl,_,_,rfl,_,_,rfl,rfl,((Wk.refl _).set (i:=0) rfl).set (i:=1) rfl,pF ⟨_,rfl,_,rfl,_,_,rfl,rfl,c.yes (aC.refl _) ?_⟩⟩
    rw [qA hz,hP]
   ·refine⟨D,(ns.zip (ns.drop 1)).map fun (p:Int × Int)=>decide (p.1 < p.2),rfl,aM.of ?_,q _ (s1.trans sm)⟩
    rw [hDa,hP,<- lz3,bp3,bm7]; rfl
  ·have hb:aJ K H a ((ns.map V.int).drop 1):=by
    have:(ns.map V.int).drop 1=ns.map V.int:=by rw [<- wM]; exact e
    rw [this]; exact hS
   refine⟨a,a,_,_,rfl,hS,hb,wL (O3 hS hb lz2) (fun i acc _=>acc=((ns.zip (ns.drop 1)).take i).map fun (p:Int × Int)=>V.bl (decide (p.1 < p.2))) lz (fun _ _=>rfl) (fun _ _ _ _ _ h=>h) (fun i x acc D H' hi hR c hP=>?_) (fun D acc H' hD sm hDa hlen hP=>?_)⟩
   ·obtain ⟨T,x1,y1,rfl,hT,h1,h2⟩:=hR
    obtain ⟨m,k,rfl,rfl,hz⟩:=A0 h1 h2
    refine⟨T,_,rfl,aJ.of hT,rfl,_,_,rfl,_,_,rfl,rfl,((Wk.refl _).set (i:=0) rfl).set (i:=1) rfl,pF ⟨_,rfl,_,rfl,_,_,rfl,rfl,c.yes (aC.refl _) ?_⟩⟩
    rw [qA hz,hP]
   ·refine⟨D,(ns.zip (ns.drop 1)).map fun (p:Int × Int)=>decide (p.1 < p.2),rfl,aM.of ?_,q _ sm⟩
    rw [hDa,hP,<- lz3,bp3,bm7]; rfl
 ·refine⟨_,kJ (mI (oS (wJ rfl) rfl B.all PyProof.Rows.boot_all (cJ (L6 (N:=["ahead","behind"]) (fr:=[none,none]) rfl (cP.of rfl rfl) (az5 rfl B.zip (cJ (pv 0) (cJ (vC G5 (pv 0) (vB lI) vA) dF)))
   ⟨fun _ _ _ _=>show PG _ _ (lM K 2 (gO (cO 0) (gO (cO 1) lK))) from mK rfl (hJ (fG (i:=0) nd2 rfl (Or.inl rfl) (.inr rfl)) (hJ (fG (i:=1) nd2 rfl (Or.inl rfl) (.inr rfl)) mJ)),fun _ _ _ _=>p9,fun _ _ _ _=>uY rD (pv 0) (pv 1) (fW _)⟩) dF))),?_⟩
  refine⟨_,rfl,_,rfl,1,rfl,a,_,rfl,hS,fun p hp=>?_⟩
  have s1:=bH hp (.lst (eW (ns.map V.int) (some 1) none))
  have hb:aM K (upd H p (.lst (eW (ns.map V.int) (some 1) none))) p ((ns.map V.int).drop 1):=aM.of (by rw [bI,wM])
  refine⟨a,p,_,_,rfl,s1.seq hS,hb,wL (az6 (s1.seq hS) hb lz2) (fun i acc _=>acc=((ns.zip (ns.drop 1)).take i).map fun (p:Int × Int)=>V.bl (decide (p.1 < p.2))) lz (fun _ _=>rfl) (fun _ _ _ _ _ h=>h) (fun i x acc D H' hi hR c hP=>?_) (fun D acc H' hD sm hDa hlen hP=>?_)⟩
  ·obtain ⟨T,x1,y1,rfl,hT,h1,h2⟩:=hR
   obtain ⟨m,k,rfl,rfl,hz⟩:=A0 h1 h2
   refine⟨T,_,rfl,aJ.of hT,rfl,_,_,rfl,_,_,rfl,rfl,((Wk.refl _).set (i:=0) rfl).set (i:=1) rfl,pF ⟨_,rfl,_,rfl,_,_,rfl,rfl,c.yes (aC.refl _) ?_⟩⟩
   rw [qA hz,hP]
  ·refine⟨D,(ns.zip (ns.drop 1)).map fun (p:Int × Int)=>decide (p.1 < p.2),rfl,aM.of ?_,q _ (s1.trans sm)⟩
   rw [hDa,hP,<- lz3,bp3,bm7]; rfl
noncomputable abbrev ai2:Stmt:=b9 11
theorem uJ:FnScope ["web","around","one","other"] ["web"] (aY ai2):=.au
theorem bb8 (F:fI K "near_lists" "near_lists" ai2 f fd):cY P w K mg base e9 1 f fd ["web"] tJ:=by
 refine F.ok uJ (fun vs H Q E h=>?_) (fun cdv A outer s H vs Q E hr h=>?_)
 ·obtain ⟨v,ws,ls,rfl,_⟩:=h
  rfl
 obtain ⟨v,ws,ls,rfl,W,hn,hm,hin,q⟩:=h
 refine⟨_,kI (L7 (i:=1) (N:=["want"]) (fr:=[none]) rfl (cP.of rfl rfl) (r9 (iZ oU (pv 0) lI (fun _ _=>rfl)))
   ⟨fun _ _ _ _=>fG (i:=0) (bl7 _ _) rfl (Or.inl rfl) (.inr rfl),fun _ _ _ _=>p9,fun _ _ _ _=>oQ dF⟩ uJ.nd rfl rfl rfl)
  (kI (uS bw8 rfl (r9 (iZ oU (pv 0) lI (fun _ _=>rfl))) (mK (n:=2) rfl (hJ (fG (i:=2) uJ.nd rfl (Or.inl rfl) (.inr rfl)) (hJ (fG (i:=3) uJ.nd rfl (Or.inl rfl) (.inr rfl)) mJ)) )
   (kI (kK (kN bo7 bt2 bt3 lN (iZ oT (pv 1) (pv 2) (fun _ _=>rfl)) (cJ (pv 3) dF)))
   (kJ (kK (kN bo7 bt2 bt3 lN (iZ oT (pv 1) (pv 3) (fun _ _=>rfl)) (cJ (pv 2) dF))))))
  (kJ (mI (pv 1)))),?_⟩
 obtain ⟨a,p,q',ys,rfl,ha,hp,hq,hL⟩:=W.at_
 have lw:(ws.map V.int).length=ws.length:=bi4 _
 refine⟨_,rfl,a,_,_,_,rfl,rfl,aJ.of ha,rfl,p,rfl,⟨_,aJ.of hp⟩,M1 (L9 (aJ.of hp)) (fun i acc H'=>∃ bs:List Addr,acc=bs.map V.ref/\bs.length=i/\bs.Nodup/\∀ b ∈ bs,H b=none/\H' b=some (.lst [])) (by rw [lw]; exact bn5 (p7 hn))
  (fun D hD=>⟨[],rfl,rfl,List.nodup_nil,fun _ z=>nomatch z⟩) (fun i x acc D H' hx c hPv=>?_) (fun D acc H' hD sm hDa hlen hPv=>?_)⟩
 ·obtain ⟨bs,rfl,hbl,nd,hb⟩:=hPv
  refine⟨N7 (n:=none),pF ⟨bm9 _,fun r hr'=>?_⟩⟩
  have hrD:r ≠ D:=fun z=>by rw [z,c.acc] at hr'; cases hr'
  have hrH:H r=none:=c.same.free hr'
  refine c.yes (bH hr' _) ⟨bs ++ [r],by simp,by simp [hbl],?_,fun b hm=>?_⟩
  ·refine br4.mpr ⟨nd,bl7 _ _,fun b hb1 b' hb2 e=>?_⟩
   rw [bi3.mp hb2] at e
   rw [e] at hb1
   rw [(hb r hb1).2] at hr'; cases hr'
  ·rcases bi7.mp hm with hm | hm
   ·have hbD:b ≠ D:=fun z=>by
     rw [z] at hm
     have:=(hb D hm).2
     rw [c.acc] at this
     have:bs.map V.ref = []:=by injection this with e1; injection e1
     have:bs = []:=List.map_eq_nil_iff.mp this
     rw [this] at hm; simp at hm
    refine⟨(hb b hm).1,?_⟩
    rw [aR hbD,aR (e8 (hb b hm).2 hr')]
    exact (hb b hm).2
   ·rw [bi3.mp hm]
    exact⟨hrH,by rw [aR hrD,bI]⟩
 ·obtain ⟨bs,rfl,hbl,nd,hb⟩:=hPv
  rw [lw] at hbl
  have R0:iJ H H' D bs (fun k=>aN (ls.take 0) k):=by
   refine⟨hD,fun b hm=>⟨(hb b hm).1,fun z=>?_⟩,nd,hDa,fun k b hk=>(hb b (bi0 hk)).2,sm⟩
   rw [z] at hm
   have:=(hb D hm).2
   rw [hDa] at this
   have:bs.map V.ref = []:=by injection this with e1; injection e1
   have:bs = []:=List.map_eq_nil_iff.mp this
   rw [this] at hm; simp at hm
  have lL:=hL.length
  refine⟨_,rfl,a,_,_,_,rfl,rfl,aJ.of (sm _ _ ha),rfl,q',rfl,⟨_,aJ.of (sm _ _ hq)⟩,C2 (K:=K) (a:=q') (xs:=ys) (fun i σ H2=>∃ x y:Option V,σ = [some (.ref a),some (.ref D),x,y]/\iJ H H2 D bs (fun k=>aN (ls.take i) k))
   ⟨none,none,rfl,R0⟩ (fun i σ H2 _ ⟨_,_,_,R⟩=>aJ.of (R.same _ _ hq)) ?_ ?_⟩
  ·rintro i y σ H2 hi ⟨x1,x2,rfl,R⟩
   obtain ⟨l,b,hl,rfl,hbt⟩:=hL.get hi
   have hlm:l ∈ ls:=bi0 hl
   obtain ⟨⟨h1,h2⟩,h3,h4⟩:=hin l hlm
   have k1:l.1.toNat < bs.length:=by omega
   have k2:l.2.toNat < bs.length:=by omega
   have e1:bs[l.1.toNat]? = some (bs[l.1.toNat]):=bi2 k1
   have e2:bs[l.2.toNat]? = some (bs[l.2.toNat]):=bi2 k2
   refine⟨b,_,rfl,aJ.of (R.same _ _ hbt),rfl,_,_,rfl,_,_,rfl,rfl,?_⟩
   refine⟨_,rfl,_,rfl,D,_,_,.ref bs[l.1.toNat],rfl,rfl,aM.of R.row,lQ h1 (by rw [bj2,e1]; rfl),jO (aM.of (R.rows _ _ e1)),_,rfl,_,_,_,rfl,rfl,R.rows _ _ e1,?_,?_⟩
   ·rw [bi4]
    have:=pE (ls.take i) (l.1.toNat:Nat)
    rw [bo1] at this
    exact gP (by omega)
   ·have R1:=R.app e1 l.2
    refine⟨_,rfl,_,rfl,D,_,_,.ref bs[l.2.toNat],rfl,rfl,aM.of R1.row,lQ h3 (by rw [bj2,e2]; rfl),jO (aM.of (R1.rows _ _ e2)),_,rfl,_,_,_,rfl,rfl,R1.rows _ _ e2,?_,?_⟩
    ·rw [bi4]
     have:=pE (ls.take i) (l.2.toNat:Nat)
     rw [bo1] at this
     split
     ·rw [bj4,bm8]; exact gP (by omega)
     ·exact gP (by omega)
    ·have R2:=R1.app e2 l.1
     refine⟨_,_,rfl,R2.congr fun k hk=>?_⟩
     rw [N9 hl]
     have c1:(k=l.1.toNat) ↔ l.1=(k:Int):=by omega
     have c2:(k=l.2.toNat) ↔ l.2=(k:Int):=by omega
     by_cases d1:k=l.1.toNat
     ·by_cases d2:k=l.2.toNat
      ·rw [if_pos d2,if_pos d1,if_pos (c1.mp d1),if_pos (c2.mp d2)]; simp
      ·rw [if_neg d2,if_pos d1,if_pos (c1.mp d1),if_neg (fun z=>d2 (c2.mpr z))]; simp
     ·by_cases d2:k=l.2.toNat
      ·rw [if_pos d2,if_neg d1,if_neg (fun z=>d1 (c1.mpr z)),if_pos (c2.mp d2)]; simp
      ·rw [if_neg d2,if_neg d1,if_neg (fun z=>d1 (c1.mpr z)),if_neg (fun z=>d2 (c2.mpr z))]; simp
  ·
   rintro σ H2 ⟨x1,x2,rfl,R⟩
   refine⟨_,rfl,q D bs H2 hbl ?_⟩
   rw [lL,bp3] at R
   exact R
noncomputable abbrev ai3:Stmt:=b9 41
theorem uK:FnScope ["web","beside","one","other"] ["web"] (aY ai3):=.au
theorem bb9 (F:fI K "_law_beside" "_law_beside" ai3 f fd):cY P w K mg base e9 1 f fd ["web"] tJ:=by
 refine F.ok uK (fun vs H Q E h=>?_) (fun cdv A outer s H vs Q E hr h=>?_)
 ·obtain ⟨v,ws,ls,rfl,_⟩:=h
  rfl
 obtain ⟨v,ws,ls,rfl,W,hn,hm,hin,q⟩:=h
 refine⟨_,kI (L7 (i:=1) (N:=["hearth"]) (fr:=[none]) rfl (cP.of rfl rfl) (r9 (iZ oU (pv 0) lI (fun _ _=>rfl)))
   ⟨fun _ _ _ _=>fG (i:=0) (bl7 _ _) rfl (Or.inl rfl) (.inr rfl),fun _ _ _ _=>p9,fun _ _ _ _=>oQ dF⟩ uK.nd rfl rfl rfl)
  (kI (uS bw8 rfl (r9 (iZ oU (pv 0) lI (fun _ _=>rfl))) (mK (n:=2) rfl (hJ (fG (i:=2) uK.nd rfl (Or.inl rfl) (.inr rfl)) (hJ (fG (i:=3) uK.nd rfl (Or.inl rfl) (.inr rfl)) mJ)) )
   (kI (kK (kN bo7 bt2 bt3 lN (iZ oT (pv 1) (pv 2) (fun _ _=>rfl)) (cJ (pv 3) dF)))
   (kJ (kK (kN bo7 bt2 bt3 lN (iZ oT (pv 1) (pv 3) (fun _ _=>rfl)) (cJ (pv 2) dF))))))
  (kJ (mI (pv 1)))),?_⟩
 obtain ⟨a,p,q',ys,rfl,ha,hp,hq,hL⟩:=W.at_
 have lw:(ws.map V.int).length=ws.length:=bi4 _
 refine⟨_,rfl,a,_,_,_,rfl,rfl,aJ.of ha,rfl,p,rfl,⟨_,aJ.of hp⟩,M1 (L9 (aJ.of hp)) (fun i acc H'=>∃ bs:List Addr,acc=bs.map V.ref/\bs.length=i/\bs.Nodup/\∀ b ∈ bs,H b=none/\H' b=some (.lst [])) (by rw [lw]; exact bn5 (p7 hn))
  (fun D hD=>⟨[],rfl,rfl,List.nodup_nil,fun _ z=>nomatch z⟩) (fun i x acc D H' hx c hPv=>?_) (fun D acc H' hD sm hDa hlen hPv=>?_)⟩
 ·obtain ⟨bs,rfl,hbl,nd,hb⟩:=hPv
  refine⟨N7 (n:=none),pF ⟨bm9 _,fun r hr'=>?_⟩⟩
  have hrD:r ≠ D:=fun z=>by rw [z,c.acc] at hr'; cases hr'
  have hrH:H r=none:=c.same.free hr'
  refine c.yes (bH hr' _) ⟨bs ++ [r],by simp,by simp [hbl],?_,fun b hm=>?_⟩
  ·refine br4.mpr ⟨nd,bl7 _ _,fun b hb1 b' hb2 e=>?_⟩
   rw [bi3.mp hb2] at e
   rw [e] at hb1
   rw [(hb r hb1).2] at hr'; cases hr'
  ·rcases bi7.mp hm with hm | hm
   ·have hbD:b ≠ D:=fun z=>by
     rw [z] at hm
     have:=(hb D hm).2
     rw [c.acc] at this
     have:bs.map V.ref = []:=by injection this with e1; injection e1
     have:bs = []:=List.map_eq_nil_iff.mp this
     rw [this] at hm; simp at hm
    refine⟨(hb b hm).1,?_⟩
    rw [aR hbD,aR (e8 (hb b hm).2 hr')]
    exact (hb b hm).2
   ·rw [bi3.mp hm]
    exact⟨hrH,by rw [aR hrD,bI]⟩
 ·obtain ⟨bs,rfl,hbl,nd,hb⟩:=hPv
  rw [lw] at hbl
  have R0:iJ H H' D bs (fun k=>aN (ls.take 0) k):=by
   refine⟨hD,fun b hm=>⟨(hb b hm).1,fun z=>?_⟩,nd,hDa,fun k b hk=>(hb b (bi0 hk)).2,sm⟩
   rw [z] at hm
   have:=(hb D hm).2
   rw [hDa] at this
   have:bs.map V.ref = []:=by injection this with e1; injection e1
   have:bs = []:=List.map_eq_nil_iff.mp this
   rw [this] at hm; simp at hm
  have lL:=hL.length
  refine⟨_,rfl,a,_,_,_,rfl,rfl,aJ.of (sm _ _ ha),rfl,q',rfl,⟨_,aJ.of (sm _ _ hq)⟩,C2 (K:=K) (a:=q') (xs:=ys) (fun i σ H2=>∃ x y:Option V,σ = [some (.ref a),some (.ref D),x,y]/\iJ H H2 D bs (fun k=>aN (ls.take i) k))
   ⟨none,none,rfl,R0⟩ (fun i σ H2 _ ⟨_,_,_,R⟩=>aJ.of (R.same _ _ hq)) ?_ ?_⟩
  ·rintro i y σ H2 hi ⟨x1,x2,rfl,R⟩
   obtain ⟨l,b,hl,rfl,hbt⟩:=hL.get hi
   have hlm:l ∈ ls:=bi0 hl
   obtain ⟨⟨h1,h2⟩,h3,h4⟩:=hin l hlm
   have k1:l.1.toNat < bs.length:=by omega
   have k2:l.2.toNat < bs.length:=by omega
   have e1:bs[l.1.toNat]? = some (bs[l.1.toNat]):=bi2 k1
   have e2:bs[l.2.toNat]? = some (bs[l.2.toNat]):=bi2 k2
   refine⟨b,_,rfl,aJ.of (R.same _ _ hbt),rfl,_,_,rfl,_,_,rfl,rfl,?_⟩
   refine⟨_,rfl,_,rfl,D,_,_,.ref bs[l.1.toNat],rfl,rfl,aM.of R.row,lQ h1 (by rw [bj2,e1]; rfl),jO (aM.of (R.rows _ _ e1)),_,rfl,_,_,_,rfl,rfl,R.rows _ _ e1,?_,?_⟩
   ·rw [bi4]
    have:=pE (ls.take i) (l.1.toNat:Nat)
    rw [bo1] at this
    exact gP (by omega)
   ·have R1:=R.app e1 l.2
    refine⟨_,rfl,_,rfl,D,_,_,.ref bs[l.2.toNat],rfl,rfl,aM.of R1.row,lQ h3 (by rw [bj2,e2]; rfl),jO (aM.of (R1.rows _ _ e2)),_,rfl,_,_,_,rfl,rfl,R1.rows _ _ e2,?_,?_⟩
    ·rw [bi4]
     have:=pE (ls.take i) (l.2.toNat:Nat)
     rw [bo1] at this
     split
     ·rw [bj4,bm8]; exact gP (by omega)
     ·exact gP (by omega)
    ·have R2:=R1.app e2 l.1
     refine⟨_,_,rfl,R2.congr fun k hk=>?_⟩
     rw [N9 hl]
     have c1:(k=l.1.toNat) ↔ l.1=(k:Int):=by omega
     have c2:(k=l.2.toNat) ↔ l.2=(k:Int):=by omega
     by_cases d1:k=l.1.toNat
     ·by_cases d2:k=l.2.toNat
      ·rw [if_pos d2,if_pos d1,if_pos (c1.mp d1),if_pos (c2.mp d2)]; simp
      ·rw [if_neg d2,if_pos d1,if_pos (c1.mp d1),if_neg (fun z=>d2 (c2.mpr z))]; simp
     ·by_cases d2:k=l.2.toNat
      ·rw [if_pos d2,if_neg d1,if_neg (fun z=>d1 (c1.mpr z)),if_pos (c2.mp d2)]; simp
      ·rw [if_neg d2,if_neg d1,if_neg (fun z=>d1 (c1.mpr z)),if_neg (fun z=>d2 (c2.mpr z))]; simp
  ·
   rintro σ H2 ⟨x1,x2,rfl,R⟩
   refine⟨_,rfl,q D bs H2 hbl ?_⟩
   rw [lL,bp3] at R
   exact R
theorem bc0:FnScope ["prices","many"] ["prices","many"] (aY (b9 7)):=.au
theorem bc1 (B:Bt mg) (F:FM K mg "made_prices" 7 f fd) (x_BadPrices:Xc K mg base "BadPrices"):bV P w K mg base 1 "made_prices" ["prices","many"] o9:=
 bV.au F bc0 aa9 aT5 (fun cdv A outer s H E Ep hr hX=>by
  exact (aF (cN (S8 (dY B (a7 (qv 0) aA)) (qv 1)) (aT (tN hX x_BadPrices (a7 sP aA))) cS)
   (aF (cN (kW (aO4 B rfl (a7 (nO (N:=["price"]) (fr:=[none]) (dJ (qv 0)) (fun _ _ _ _=>(S3 (qv 0) aD))) aA))) (aT (tN hX x_BadPrices (a7 sP aA))) cS)
   (aT (bR (k7 B (a7 (qv 0) aA)))))))
theorem bc2:FnScope ["web"] ["web"] (aY (b9 10)):=.au
theorem bc3 (B:Bt mg) (F:FM K mg "hearths_in" 10 f fd)  : Df P w K mg base 1 "hearths_in" ["web"] gW:=
 Df.au F bc2 (fun cdv A outer s H E hr=>by
  exact⟨(U9),(aT (bR (dY B (a7 (bC (qv 0) aD) aA)))),aJ6⟩)
theorem ai4:FnScope ["hearths","inside","hearth"] ["hearths"] (aY (b9 15)):=.au
theorem bc4 (B:Bt mg) (F:FM K mg "marked" 15 f fd)  : Df P w K mg base 1 "marked" ["hearths"] nS:=
 Df.au F ai4 (fun cdv A outer s H E hr=>by
  have nd:=ai4.nd
  have hu:=rM hr
  exact⟨(V4),(aF (fB (i:=1) nd T0)
   (aF (gK 2 nd (dJ (qv 0))
    (aT (xE hu (i:=1) (qv 2) dX)))
   (aT (lY 1)))),aK3⟩)
theorem bc5:FnScope ["around","hearth","elder"] ["around","hearth","elder"] (aY (b9 25)):=.au
theorem bc6 (B:Bt mg) (F:FM K mg "children_of" 25 f fd)  : Df P w K mg base 1 "children_of" ["around","hearth","elder"] lB:=
 Df.au F bc5 (fun cdv A outer s H E hr=>by
  exact⟨(ac6),(aT (bR (pZ (N:=["other","elder"]) (fr:=[none,some 2]) (dJ (bC (qv 0) (qv 1))) (fun _ _ _ _=>(aR3 (qv 0) (qv 1))) (fun _ _ _ _=>(qv 0))))),aV5⟩)
theorem bc7:FnScope ["want"] ["want"] (aY (b9 29)):=.au
theorem bc8 (B:Bt mg) (F:FM K mg "one_less" 29 f fd)  : Df P w K mg base 1 "one_less" ["want"] oD:=
 Df.au F bc7 (fun cdv A outer s H E hr=>by
  exact⟨(ae7),(aT (bR (sZ B rfl (a7 aD (a7 (jX (qv 0) aD) aA))))),aX0⟩)
theorem ai5:FnScope ["want","price","below","gaps","dearer"] ["want","price","below"] (aY (b9 30)):=.au
theorem bc9 (B:Bt mg) (F:FM K mg "most_for" 30 f fd)  : Df P w K mg base 1 "most_for" ["want","price","below"] qT:=
 Df.au F ai5 (fun cdv A outer s H E hr=>by
  have nd:=ai5.nd
  exact⟨(ae8),(aF (b7 (i:=3) nd (T6 B (a7 (yA (N:=["a","b"]) (fr:=[none,none]) (dJ (qv 2)) (fun _ _ _ _=>(jX (qv 1) (qv 0)))) aA)))
   (aF (b7 (i:=4) nd (qv 1))
   (aF (cN (sS (dY B (a7 (qv 3) aA)) (qv 0)) (aT (b7 (i:=4) nd (sY B rfl (a7 (qv 1) (a7 (qL B rfl (a7 (pX (qv 3) t4 (nN (qv 0))) aA)) aA))))) cS)
   (aT (bR (cM (qL B rfl (a7 (yA (N:=["a","b"]) (fr:=[none,none]) (dJ (qv 2)) (fun _ _ _ _=>(qv 0))) aA)) (qv 4))))))),aX1⟩)
theorem bd0:FnScope ["script","k"] ["script","k"] (aY (b9 35)):=.au
theorem bd1 (B:Bt mg) (F:FM K mg "_law_cell_at" 35 f fd)  : Df P w K mg base 1 "_law_cell_at" ["script","k"] fC:=
 Df.au F bd0 (fun cdv A outer s H E hr=>by
  exact⟨(V6),(aF (cN (sR (qv 1) (dY B (a7 (qv 0) aA))) (aT (bR (bC (qv 0) (qv 1)))) cS)
   (aT (bR aD))),aK5⟩)
theorem ai6:FnScope ["number","k","turn"] ["number","k"] (aY (b9 36)):=.au
theorem bd2 (B:Bt mg) (F:FM K mg "_law_mixed" 36 f fd)  : Df P w K mg base 1 "_law_mixed" ["number","k"] kF:=
 Df.au F ai6 (fun cdv A outer s H E hr=>by
  have nd:=ai6.nd
  exact⟨(aa2),(aF (b7 (i:=2) nd (dI (cM (cM (cM (dI (qv 0) aD) (pV (pV aD (qv 1)) (qv 1))) (pV aD (qv 1))) aD) aD))
   (aF (b7 (i:=2) nd (dI (pV (qv 2) aD) aD))
   (aT (bR (dI (pV (qv 2) (qv 2)) aD))))),aR4⟩)
theorem bd3:FnScope ["found"] ["found"] (aY (b9 37)):=.au
theorem bd4 (B:Bt mg) (F:FM K mg "_law_whole" 37 f fd)  : Df P w K mg base 1 "_law_whole" ["found"] tH:=
 Df.au F bd3 (fun cdv A outer s H E hr=>by
  exact⟨(V7 K),(aT (bR (xD (aG6 B (qv 0)) (xC (aF7 (aG7 B (qv 0))))))),aK6 (xY K).ii (xY K).ib⟩)
theorem bd5:FnScope ["web","number"] ["web","number"] (aY (b9 12)):=.au
theorem bd6 (B:Bt mg) (F:FM K mg "is_hearth" 12 f fd) (d_hearths_in:Df P w K mg base 1 "hearths_in" ["web"] gW):Df P w K mg base 2 "is_hearth" ["web","number"] t9:=
 Df.au F bd5 (fun cdv A outer s H E hr=>by
  exact⟨(V0),(aT (bR (xD (aF3 (qv 1) aD) (xC (S3 (qv 1) (bB d_hearths_in hr (a7 (qv 0) aA))))))),aJ7⟩)
theorem ai7:FnScope ["hearths","some","gone"] ["hearths","some"] (aY (b9 16)):=.au
theorem bd7 (B:Bt mg) (F:FM K mg "without" 16 f fd) (d_marked:Df P w K mg base 1 "marked" ["hearths"] nS):Df P w K mg base 2 "without" ["hearths","some"] nW:=
 Df.au F ai7 (fun cdv A outer s H E hr=>by
  have nd:=ai7.nd
  have hu:=rM hr
  exact⟨(Y0),(aF (b7 (i:=2) nd (bB d_marked hr (a7 (qv 1) aA)))
   (aT (bR (k7 B (a7 (pZ (N:=["hearth","gone"]) (fr:=[none,some 2]) (dJ (qv 0)) (fun _ _ _ _=>(xA hu (qv 0) (qv 1))) (fun _ _ _ _=>(qv 0))) aA))))),aN0⟩)
theorem ai8:FnScope ["around","hearths","inside","reached","waiting","hearth","other"] ["around","hearths"] (aY (b9 20)):=.au
theorem bd8 (B:Bt mg) (F:FM K mg "first_piece" 20 f fd) (d_marked:Df P w K mg base 1 "marked" ["hearths"] nS):Df P w K mg base 2 "first_piece" ["around","hearths"] tU:=
 Df.au F ai8 (fun cdv A outer s H E hr=>by
  have nd:=ai8.nd
  have hu:=rM hr
  exact⟨(Z9),(aF (b7 (i:=2) nd (bB d_marked hr (a7 (qv 1) aA)))
   (aF (fB (i:=3) nd (aQ0 (bC (qv 1) aD)))
   (aF (fB (i:=4) nd (eS (a7 (bC (qv 1) aD) aA)))
   (aF (pW bw8 (lX (qv 4))
    (aF (aQ1 nd 4 5)
    (aT (gK 6 nd (dJ (bC (qv 0) (qv 5)))
     (aT (cN (nL (sV (aF6 hu (qv 6) (qv 2)) (sT (xA hu (qv 6) (qv 3))))) (aF (xE hu (i:=3) (qv 6) dX)
      (aT (jY 4 (qv 6)))) cS))))))
   (aT (bR (k7 B (a7 (aN8 B rfl (a7 (qv 3) aA)) aA)))))))),aQ5⟩)
theorem bd9:FnScope ["want","price","below"] ["want","price","below"] (aY (b9 28)):=.au
theorem be0 (B:Bt mg) (F:FM K mg "most_pair" 28 f fd) (d_most_for:Df P w K mg base 1 "most_for" ["want","price","below"] qT) (d_one_less:Df P w K mg base 1 "one_less" ["want"] oD):Df P w K mg base 2 "most_pair" ["want","price","below"] uF:=
 Df.au F bd9 (fun cdv A outer s H E hr=>by
  exact⟨(af0),(aT (bR (gB (a7 (bB d_most_for hr (a7 (bB d_one_less hr (a7 (qv 0) aA)) (a7 (qv 1) (a7 (qv 2) aA)))) (a7 (bB d_most_for hr (a7 (qv 0) (a7 (qv 1) (a7 (qv 2) aA)))) aA))))),aX2⟩)
theorem ai9:FnScope ["script","most","number"] ["script","most"] (aY (b9 38)):=.au
theorem be1 (B:Bt mg) (F:FM K mg "_law_hearths" 38 f fd) (d__law_cell_at:Df P w K mg base 1 "_law_cell_at" ["script","k"] fC):Df P w K mg base 2 "_law_hearths" ["script","most"] tX:=
 Df.au F ai9 (fun cdv A outer s H E hr=>by
  have nd:=ai9.nd
  exact⟨(aa3),(aF (b7 (i:=2) nd (bB d__law_cell_at hr (a7 (qv 0) (a7 aD aA))))
   (aF (cN (nK (dI (qv 2) aD) aD) (aT (bR (sY B rfl (a7 (qv 1) (a7 (sZ B rfl (a7 aD (a7 (jX (dY B (a7 (qv 0) aA)) aD) aA))) aA))))) cS)
   (aF (cN (nK (dI (qv 2) aD) aD) (aT (bR (dI (cM (iM (qv 2) aD) aD) (cM (qv 1) aD)))) cS)
   (aT (bR (dI (cM (iM (qv 2) aD) aD) (cM (sY B rfl (a7 aD (a7 (qv 1) aA))) aD))))))),aR5⟩)
theorem aj0:FnScope ["script","many","digits","places","number","k","spot"] ["script","many","digits"] (aY (b9 39)):=.au
theorem be2 (B:Bt mg) (F:FM K mg "_law_places" 39 f fd) (d__law_cell_at:Df P w K mg base 1 "_law_cell_at" ["script","k"] fC) (d__law_mixed:Df P w K mg base 1 "_law_mixed" ["number","k"] kF):Df P w K mg base 2 "_law_places" ["script","many","digits"] uD:=
 Df.au F aj0 (fun cdv A outer s H E hr=>by
  have nd:=aj0.nd
  exact⟨(ad2),(aF (fB (i:=3) nd (V9 B (qv 1)))
   (aF (b7 (i:=4) nd (bB d__law_cell_at hr (a7 (qv 0) (a7 aD aA))))
   (aF (cN (nK (dI (iM (bB d__law_cell_at hr (a7 (qv 0) (a7 aD aA))) aD) aD) aD) (aF (fB (i:=3) nd (eS aA))
    (aT (gK 5 nd (kY rfl B.range (qv 1))
     (aF (b7 (i:=6) nd (bB d__law_mixed hr (a7 (bB d__law_cell_at hr (a7 (qv 0) (a7 aD aA))) (a7 (cM (qv 5) aD) aA))))
     (aF (cN (lX (qv 2)) (aF (b7 (i:=6) nd (qv 4))
      (aT (b7 (i:=4) nd (iM (qv 4) (cM (qv 5) aD))))) cS)
     (aT (aP6 3 (dI (qv 6) (cM (qv 5) aD)) (qv 5)))))))) cS)
   (aT (lY 3))))),aW2⟩)
theorem aj1:FnScope ["web","seeds","beside","burning","left","hearth","count"] ["web","seeds"] (aY (b9 42)):=.au
theorem be3 (B:Bt mg) (F:FM K mg "_law_burning" 42 f fd) (d__law_beside:Df P w K mg base 1 "_law_beside" ["web"] tY):Df P w K mg base 2 "_law_burning" ["web","seeds"] tZ:=
 Df.au F aj1 (fun cdv A outer s H E hr=>by
  have nd:=aj1.nd
  exact⟨(aa4),(aF (b7 (i:=2) nd (bB d__law_beside hr (a7 (qv 0) aA)))
   (aF (fB (i:=3) nd (nO (N:=["hearth","seeds"]) (fr:=[none,some 1]) (kY rfl B.range (dY B (a7 (bC (qv 0) aD) aA))) (fun _ _ _ _=>(aG3 (qv 0) (qv 1)))))
   (aF (b7 (i:=4) nd dX)
   (aF (pW bw8 (kW (qv 4))
    (aF (b7 (i:=4) nd dX)
    (aT (gK 5 nd (kY rfl B.range (dY B (a7 (bC (qv 0) aD) aA)))
     (aF (b7 (i:=6) nd (dY B (a7 (pZ (N:=["other","burning"]) (fr:=[none,some 3]) (dJ (bC (qv 2) (qv 5))) (fun _ _ _ _=>(lX (bC (qv 1) (qv 0)))) (fun _ _ _ _=>(qv 0))) aA)))
     (aT (cN (nL (sV (kX (lX (bC (qv 3) (qv 5)))) (sT (sS (qv 6) (bC (bC (qv 0) aD) (qv 5)))))) (aF (nP (i:=3) (qv 5) dX)
      (aT (b7 (i:=4) nd dX))) cS)))))))
   (aT (lY 3)))))),aS0⟩)
theorem aj2:FnScope ["found","many","last","hearth"] ["found","many"] (aY (b9 44)):=.au
theorem be4 (B:Bt mg) (F:FM K mg "_law_is_set" 44 f fd) (d__law_whole:Df P w K mg base 1 "_law_whole" ["found"] tH):Df P w K mg base 2 "_law_is_set" ["found","many"] u3:=
 Df.au F aj2 (fun cdv A outer s H E hr=>by
  have nd:=aj2.nd
  exact⟨(aa6 K),(aF (cN (kX (kW (aG8 B (qv 0)))) (aT (bR dX)) cS)
   (aF (b7 (i:=2) nd (xF aD))
   (aF (gK 3 nd (dJ (qv 0))
    (aF (cN (nL (xB (kX (kW (bB d__law_whole hr (a7 (qv 3) aA)))) (xB (S4 (qv 3) (qv 2)) (S9 (sS (qv 3) (qv 1)))))) (aT (bR dX)) cS)
    (aT (b7 (i:=2) nd (qv 3)))))
   (aT (bR dX))))),aS2 (xY K).tt⟩)
theorem aj3:FnScope ["web","beside","elders","order","root","at","other"] ["web"] (aY (b9 45)):=.au
theorem be5 (B:Bt mg) (F:FM K mg "_law_elders" 45 f fd) (d__law_beside:Df P w K mg base 1 "_law_beside" ["web"] tY):Df P w K mg base 2 "_law_elders" ["web"] uG:=
 Df.au F aj3 (fun cdv A outer s H E hr=>by
  have nd:=aj3.nd
  exact⟨(af8),(aF (b7 (i:=1) nd (bB d__law_beside hr (a7 (qv 0) aA)))
   (aF (fB (i:=2) nd (tL (eS (a7 pU aA)) (dY B (a7 (bC (qv 0) aD) aA))))
   (aF (fB (i:=3) nd (eS aA))
   (aF (gK 4 nd (kY rfl B.range (dY B (a7 (bC (qv 0) aD) aA)))
    (aT (cN (U0 (qv 4) (qv 3)) (aF (jY 3 (qv 4))
     (aF (b7 (i:=5) nd (jX (dY B (a7 (qv 3) aA)) aD))
     (aT (pW bw8 (sR (qv 5) (dY B (a7 (qv 3) aA)))
      (aF (gK 6 nd (dJ (bC (qv 1) (bC (qv 3) (qv 5))))
       (aT (cN (U0 (qv 6) (qv 3)) (aF (nP (i:=2) (qv 6) (bC (qv 3) (qv 5)))
        (aT (jY 3 (qv 6)))) cS)))
      (aT (b7 (i:=5) nd (cM (qv 5) aD)))))))) cS)))
   (aT (sX 2 (sX 3 (bR (aF8 (a7 (qv 2) (a7 (qv 3) aA))))))))))),aY3⟩)
theorem aj4:FnScope ["script","many","prices","k","number"] ["script","many"] (aY (b9 46)):=.au
theorem be6 (B:Bt mg) (F:FM K mg "_law_prices" 46 f fd) (d__law_mixed:Df P w K mg base 1 "_law_mixed" ["number","k"] kF) (d__law_cell_at:Df P w K mg base 1 "_law_cell_at" ["script","k"] fC):Df P w K mg base 2 "_law_prices" ["script","many"] u6:=
 Df.au F aj4 (fun cdv A outer s H E hr=>by
  have nd:=aj4.nd
  exact⟨(ab0),(aF (fB (i:=2) nd (eS aA))
   (aF (gK 3 nd (kY rfl B.range (qv 1))
    (aF (b7 (i:=4) nd (bB d__law_mixed hr (a7 (bB d__law_cell_at hr (a7 (qv 0) (a7 aD aA))) (a7 (cM (qv 3) aD) aA))))
    (aF (cN (sR (cM aD (qv 3)) (dY B (a7 (qv 0) aA))) (aT (b7 (i:=4) nd (cM (iM (bC (qv 0) (cM aD (qv 3))) aD) (bB d__law_cell_at hr (a7 (qv 0) (a7 aD aA)))))) cS)
    (aT (jY 2 (bC (eS (a7 (dI (qv 4) aD) (a7 (cM aD (dI (qv 4) aD)) (a7 (dI (qv 4) (x8 aD aD)) (a7 (cM (x8 aD aD) (dI (qv 4) aD)) aA))))) (dI (iM (qv 4) aD) aD)))))))
   (aT (lY 2)))),aT6⟩)
theorem be7:FnScope ["web","numbers"] ["web","numbers"] (aY (b9 13)):=.au
theorem be8 (B:Bt mg) (F:FM K mg "is_set" 13 f fd) (d_rises:Df P w K mg base 1 "rises" ["things"] xO) (d_is_hearth:Df P w K mg base 2 "is_hearth" ["web","number"] t9):Df P w K mg base 3 "is_set" ["web","numbers"] tD:=
 Df.au F be7 (fun cdv A outer s H E hr=>by
  exact⟨(V1),(aT (bR (xD (bB d_rises hr (a7 (qv 1) aA)) (xC (aG2 B rfl (a7 (nO (N:=["number","web"]) (fr:=[none,some 0]) (dJ (qv 1)) (fun _ _ _ _=>(bB d_is_hearth hr (a7 (qv 1) (a7 (qv 0) aA))))) aA)))))),aJ8⟩)
theorem be9:FnScope ["web","some"] ["web","some"] (aY (b9 17)):=.au
theorem bf0 (B:Bt mg) (F:FM K mg "all_but" 17 f fd) (d_without:Df P w K mg base 2 "without" ["hearths","some"] nW) (d_hearths_in:Df P w K mg base 1 "hearths_in" ["web"] gW):Df P w K mg base 3 "all_but" ["web","some"] tT:=
 Df.au F be9 (fun cdv A outer s H E hr=>by
  exact⟨(Z7),(aT (bR (bB d_without hr (a7 (V9 B (bB d_hearths_in hr (a7 (qv 0) aA))) (a7 (qv 1) aA))))),aP8⟩)
theorem aj5:FnScope ["script","most","many","digits","links","counts","cells","k","number","elder","places","wants","pairs"] ["script","most"] (aY (b9 40)):=.au
theorem bf1 (B:Bt mg) (F:FM K mg "_law_wood" 40 f fd) (d__law_hearths:Df P w K mg base 2 "_law_hearths" ["script","most"] tX) (d__law_cell_at:Df P w K mg base 1 "_law_cell_at" ["script","k"] fC) (d__law_mixed:Df P w K mg base 1 "_law_mixed" ["number","k"] kF) (d__law_places:Df P w K mg base 2 "_law_places" ["script","many","digits"] uD):Df P w K mg base 3 "_law_wood" ["script","most"] uE:=
 Df.au F aj5 (fun cdv A outer s H E hr=>by
  have nd:=aj5.nd
  exact⟨(ae6),(aF (b7 (i:=2) nd (bB d__law_hearths hr (a7 (qv 0) (a7 (qv 1) aA))))
   (aF (b7 (i:=3) nd (x9 (dI (iM (bB d__law_cell_at hr (a7 (qv 0) (a7 aD aA))) aD) aD) aD))
   (aF (fB (i:=4) nd (eS aA))
   (aF (fB (i:=5) nd (tL (eS (a7 aD aA)) (qv 2)))
   (aF (fB (i:=6) nd (pX (qv 0) (nN aD) (nN (cM aD (qv 2)))))
   (aF (gK 7 nd (T4 rfl B.range (dY B (a7 (qv 6) aA)) (qv 2))
    (aT (jY 6 (bB d__law_mixed hr (a7 (bB d__law_cell_at hr (a7 (qv 0) (a7 aD aA))) (a7 (qv 7) aA))))))
   (aF (gK 7 nd (T4 rfl B.range aD (qv 2))
    (aF (b7 (i:=8) nd (bB d__law_mixed hr (a7 (bC (qv 6) (qv 7)) (a7 (qv 7) aA))))
    (aF (cN (lX (qv 3)) (aT (b7 (i:=8) nd (iM (bC (qv 6) (qv 7)) aD))) cS)
    (aT (cN (S7 (dI (qv 8) aD) aD) (aF (b7 (i:=9) nd (dI (iM (qv 8) aD) (qv 7)))
     (aF (cN (nK (dI (bB d__law_cell_at hr (a7 (qv 0) (a7 aD aA))) aD) aD) (aT (b7 (i:=9) nd (sZ B rfl (a7 aD (a7 (jX (jX (qv 7) aD) (dI (iM (qv 8) aD) aD)) aA))))) cS)
     (aF (jY 4 (gB (a7 (qv 9) (a7 (qv 7) aA))))
     (aF (nP (i:=5) (qv 9) (cM (bC (qv 5) (qv 9)) aD))
     (aT (nP (i:=5) (qv 7) (cM (bC (qv 5) (qv 7)) aD))))))) cS)))))
   (aF (b7 (i:=10) nd (bB d__law_places hr (a7 (qv 0) (a7 (qv 2) (a7 (qv 3) aA)))))
   (aF (fB (i:=11) nd (tL (eS (a7 aD aA)) (qv 2)))
   (aF (gK 7 nd (kY rfl B.range (qv 2))
    (aT (nP (i:=11) (bC (qv 10) (qv 7)) (dI (bC (qv 6) (qv 7)) (cM (bC (qv 5) (qv 7)) aD)))))
   (aF (sX 4 (aM5 (i:=12) nd (N:=["one","other","places"]) (fr:=[none,none,some 10]) (dJ (qv 4)) (fun _ _ _ _=>(gB (a7 (sY B rfl (a7 (bC (qv 2) (qv 0)) (a7 (bC (qv 2) (qv 1)) aA))) (a7 (sZ B rfl (a7 (bC (qv 2) (qv 0)) (a7 (bC (qv 2) (qv 1)) aA))) aA))))))
   (aT (bR (gB (a7 (k7 B (a7 (qv 11) aA)) (a7 (k7 B (a7 (W0 B (a7 (qv 12) aA)) aA)) aA)))))))))))))))),aW9⟩)
theorem bf2:FnScope ["web","seeds"] ["web","seeds"] (aY (b9 43)):=.au
theorem bf3 (B:Bt mg) (F:FM K mg "_law_lights" 43 f fd) (d__law_burning:Df P w K mg base 2 "_law_burning" ["web","seeds"] tZ):Df P w K mg base 3 "_law_lights" ["web","seeds"] u0:=
 Df.au F bf2 (fun cdv A outer s H E hr=>by
  exact⟨(aa5),(aT (bR (x9 (dY B (a7 (pZ (N:=["fire"]) (fr:=[none]) (dJ (bB d__law_burning hr (a7 (qv 0) (a7 (qv 1) aA)))) (fun _ _ _ _=>(kX (lX (qv 0)))) (fun _ _ _ _=>(qv 0))) aA)) aD))),aS1⟩)
theorem bf4:FnScope ["web","hearths"] ["web","hearths"] (aY (b9 14)):=.au
theorem bf5 (B:Bt mg) (F:FM K mg "made_set" 14 f fd) (d_is_set:Df P w K mg base 3 "is_set" ["web","numbers"] tD) (x_BadSet:Xc K mg base "BadSet"):bV P w K mg base 4 "made_set" ["web","hearths"] tR:=
 bV.au F bf4 Z5 aP4 (fun cdv A outer s H E Ep hr hX=>by
  exact (aF (cN (kX (kW (bB d_is_set hr (a7 (qv 0) (a7 (qv 1) aA))))) (aT (tN hX x_BadSet (a7 sP aA))) cS)
   (aT (bR (k7 B (a7 (qv 1) aA))))))
theorem aj6:FnScope ["web","block","around","left","pieces","piece"] ["web","block"] (aY (b9 19)):=.au
theorem bf6 (B:Bt mg) (F:FM K mg "cold_pieces" 19 f fd) (d_near_lists:Df P w K mg base 1 "near_lists" ["web"] iQ) (d_made_set:bV P w K mg base 4 "made_set" ["web","hearths"] tR) (d_first_piece:Df P w K mg base 2 "first_piece" ["around","hearths"] tU) (d_without:Df P w K mg base 2 "without" ["hearths","some"] nW):bV P w K mg base 5 "cold_pieces" ["web","block"] tW:=
 bV.au F aj6 aR0 aR1 (fun cdv A outer s H E Ep hr hX=>by
  have nd:=aj6.nd
  exact (aF (b7 (i:=2) nd (bB d_near_lists hr (a7 (qv 0) aA)))
   (aF (b7 (i:=3) nd (m7 hX d_made_set hr (a7 (qv 0) (a7 (qv 1) aA))))
   (aF (fB (i:=4) nd (eS aA))
   (aF (pW hX.own (lX (qv 3))
    (aF (b7 (i:=5) nd (bB d_first_piece hr (a7 (qv 2) (a7 (qv 3) aA))))
    (aF (jY 4 (qv 5))
    (aT (b7 (i:=3) nd (bB d_without hr (a7 (qv 3) (a7 (qv 5) aA))))))))
   (aT (lY 4)))))))
theorem bf7:FnScope ["web"] ["web"] (aY (b9 23)):=.au
theorem bf8 (B:Bt mg) (F:FM K mg "all_pieces" 23 f fd) (d_cold_pieces:bV P w K mg base 5 "cold_pieces" ["web","block"] tW) (d_all_but:Df P w K mg base 3 "all_but" ["web","some"] tT):Df P w K mg base 6 "all_pieces" ["web"] oB:=
 Df.au F bf7 (fun cdv A outer s H E hr=>by
  exact⟨(ac0),(aT (bR (yG d_cold_pieces hr (a7 (qv 0) (a7 (bB d_all_but hr (a7 (qv 0) (a7 (gB aA) aA))) aA))))),aU9⟩)
theorem bf9:FnScope ["web"] ["web"] (aY (b9 22)):=.au
theorem bg0 (B:Bt mg) (F:FM K mg "is_wood" 22 f fd) (d_hearths_in:Df P w K mg base 1 "hearths_in" ["web"] gW) (d_all_pieces:Df P w K mg base 6 "all_pieces" ["web"] oB):Df P w K mg base 7 "is_wood" ["web"] uB:=
 Df.au F bf9 (fun cdv A outer s H E hr=>by
  exact⟨(ac5),(aT (bR (x9 (dY B (a7 (bC (qv 0) aD) aA)) (jX (bB d_hearths_in hr (a7 (qv 0) aA)) (dY B (a7 (bB d_all_pieces hr (a7 (qv 0) aA)) aA)))))),aV4⟩)
theorem aj7:FnScope ["web","around","pairs","turn","hearth"] ["web"] (aY (b9 24)):=.au
theorem bg1 (B:Bt mg) (F:FM K mg "from_roots" 24 f fd) (d_is_wood:Df P w K mg base 7 "is_wood" ["web"] uB) (d_near_lists:Df P w K mg base 1 "near_lists" ["web"] iQ) (d_all_pieces:Df P w K mg base 6 "all_pieces" ["web"] oB) (d_children_of:Df P w K mg base 1 "children_of" ["around","hearth","elder"] lB) (x_NotWood:Xc K mg base "NotWood"):bV P w K mg base 8 "from_roots" ["web"] lF:=
 bV.au F aj7 ag6 aZ4 (fun cdv A outer s H E Ep hr hX=>by
  have nd:=aj7.nd
  exact (aF (cN (kX (kW (bB d_is_wood hr (a7 (qv 0) aA)))) (aT (tN hX x_NotWood (a7 sP aA))) cS)
   (aF (b7 (i:=1) nd (bB d_near_lists hr (a7 (qv 0) aA)))
   (aF (aH2 (i:=2) nd (N:=["piece"]) (fr:=[none]) (dJ (bB d_all_pieces hr (a7 (qv 0) aA))) (fun _ _ _ _=>(gB (a7 (bC (qv 0) aD) (a7 pU aA)))))
   (aF (b7 (i:=3) nd aD)
   (aF (pW hX.own (sR (qv 3) (dY B (a7 (qv 2) aA)))
    (aF (b7 (i:=4) nd (bC (bC (qv 2) (qv 3)) aD))
    (aF (aH4 2 (nO (N:=["child","hearth"]) (fr:=[none,some 4]) (dJ (bB d_children_of hr (a7 (qv 1) (a7 (qv 4) (a7 (bC (bC (qv 2) (qv 3)) aD) aA))))) (fun _ _ _ _=>(gB (a7 (qv 0) (a7 (qv 1) aA))))))
    (aT (b7 (i:=3) nd (cM (qv 3) aD))))))
   (aT (lY 2))))))))
theorem aj8:FnScope ["web","prices","pairs","known","around","ledger","hearth","elder","below"] ["web","prices"] (aY (b9 27)):=.au
theorem bg2 (B:Bt mg) (F:FM K mg "best_ledger" 27 f fd) (d_from_roots:bV P w K mg base 8 "from_roots" ["web"] lF) (d_made_prices:bV P w K mg base 1 "made_prices" ["prices","many"] o9) (d_hearths_in:Df P w K mg base 1 "hearths_in" ["web"] gW) (d_near_lists:Df P w K mg base 1 "near_lists" ["web"] iQ) (d_children_of:Df P w K mg base 1 "children_of" ["around","hearth","elder"] lB) (d_most_pair:Df P w K mg base 2 "most_pair" ["want","price","below"] uF) (rv:mg "reversed" = none):bV P w K mg base 9 "best_ledger" ["web","prices"] lG:=
 bV.au F aj8 ag7 aZ5 (fun cdv A outer s H E Ep hr hX=>by
  have nd:=aj8.nd
  exact (aF (b7 (i:=2) nd (m7 hX d_from_roots hr (a7 (qv 0) aA)))
   (aF (b7 (i:=3) nd (m7 hX d_made_prices hr (a7 (qv 1) (a7 (bB d_hearths_in hr (a7 (qv 0) aA)) aA))))
   (aF (b7 (i:=4) nd (bB d_near_lists hr (a7 (qv 0) aA)))
   (aF (fB (i:=5) nd (tL (eS (a7 (gB (a7 aD (a7 aD aA))) aA)) (bB d_hearths_in hr (a7 (qv 0) aA))))
   (aF (xJ 6 7 (hp:=hX.own) nd (aT4 rv (qv 2))
    (aF (aH1 (i:=8) nd (N:=["child","ledger"]) (fr:=[none,some 5]) (dJ (bB d_children_of hr (a7 (qv 4) (a7 (qv 6) (a7 (qv 7) aA))))) (fun _ _ _ _=>(bC (qv 1) (qv 0))))
    (aT (nP (i:=5) (qv 6) (bB d_most_pair hr (a7 (bC (bC (qv 0) aD) (qv 6)) (a7 (bC (qv 3) (qv 6)) (a7 (qv 8) aA))))))))
   (aT (bR (k7 B (a7 (qv 5) aA))))))))))
theorem aj9:FnScope ["web","prices","ledger","pairs","known","around","hearth","elder","below"] ["web","prices","ledger"] (aY (b9 31)):=.au
theorem bg3 (B:Bt mg) (F:FM K mg "judged_ledger" 31 f fd) (d_from_roots:bV P w K mg base 8 "from_roots" ["web"] lF) (d_made_prices:bV P w K mg base 1 "made_prices" ["prices","many"] o9) (d_hearths_in:Df P w K mg base 1 "hearths_in" ["web"] gW):bV P w K mg base 9 "judged_ledger" ["web","prices","ledger"] uH:=
 bV.au F aj9 ah2 ba5 (fun cdv A outer s H E Ep hr hX=>by
  have nd:=aj9.nd
  exact (aF (b7 (i:=3) nd (m7 hX d_from_roots hr (a7 (qv 0) aA)))
   (aF (b7 (i:=4) nd (m7 hX d_made_prices hr (a7 (qv 1) (a7 (bB d_hearths_in hr (a7 (qv 0) aA)) aA))))
   (aF sW
   (aF sW
   (aF sW
   (aT sW)))))))
theorem ak0:FnScope ["web","prices","ledger","around","alone","seeds","hearth","elder","want","gaps","gap","child"] ["web","prices"] (aY (b9 33)):=.au
theorem bg4 (B:Bt mg) (F:FM K mg "wood_cheapest" 33 f fd) (d_best_ledger:bV P w K mg base 9 "best_ledger" ["web","prices"] lG) (d_near_lists:Df P w K mg base 1 "near_lists" ["web"] iQ) (d_from_roots:bV P w K mg base 8 "from_roots" ["web"] lF) (d_one_less:Df P w K mg base 1 "one_less" ["want"] oD) (d_children_of:Df P w K mg base 1 "children_of" ["around","hearth","elder"] lB):bV P w K mg base 10 "wood_cheapest" ["web","prices"] oF:=
 bV.au F ak0 zU aZ9 (fun cdv A outer s H E Ep hr hX=>by
  have nd:=ak0.nd
  have hu:=rM hr
  exact (aF (b7 (i:=2) nd (m7 hX d_best_ledger hr (a7 (qv 0) (a7 (qv 1) aA))))
   (aF (b7 (i:=3) nd (bB d_near_lists hr (a7 (qv 0) aA)))
   (aF (fB (i:=4) nd T0)
   (aF (fB (i:=5) nd (eS aA))
   (aF (xJ 6 7 (hp:=hX.own) nd (dJ (m7 hX d_from_roots hr (a7 (qv 0) aA)))
    (aF (b7 (i:=8) nd (bC (bC (qv 0) aD) (qv 6)))
    (aF (cN (nL (sV (aF5 (qv 7) pU) (sT (xA hu (qv 6) (qv 4))))) (aT (b7 (i:=8) nd (bB d_one_less hr (a7 (qv 8) aA)))) cS)
    (aF (b7 (i:=9) nd (W0 B (a7 (nO (N:=["child","ledger"]) (fr:=[none,some 2]) (dJ (bB d_children_of hr (a7 (qv 3) (a7 (qv 6) (a7 (qv 7) aA))))) (fun _ _ _ _=>(gB (a7 (jX (bC (bC (qv 1) (qv 0)) aD) (bC (bC (qv 1) (qv 0)) aD)) (a7 (qv 0) aA))))) aA)))
    (aT (cN (nL (sV (sS (dY B (a7 (qv 9) aA)) (qv 8)) (sT (S4 (qL B rfl (a7 (yA (N:=["gap","child"]) (fr:=[none,none]) (dJ (pX (qv 9) t4 (nN (qv 8)))) (fun _ _ _ _=>(qv 0))) aA)) (bC (qv 1) (qv 6)))))) (aT (xJ 10 11 (hp:=hX.own) nd (dJ (pX (qv 9) t4 (nN (qv 8))))
      (aT (xE hu (i:=4) (qv 11) dX)))) (aT (jY 5 (qv 6)))))))))
   (aT (bR (k7 B (a7 (T6 B (a7 (qv 5) aA)) aA))))))))))
theorem ak1:FnScope ["which","web","prices","kinds","e"] ["which","web","prices"] (aY (b9 47)):=.au
theorem bg5 (B:Bt mg) (F:FM K mg "_law_refused" 47 f fd) (d_best_ledger:bV P w K mg base 9 "best_ledger" ["web","prices"] lG) (d_wood_cheapest:bV P w K mg base 10 "wood_cheapest" ["web","prices"] oF) (d_judged_ledger:bV P w K mg base 9 "judged_ledger" ["web","prices","ledger"] uH) (cat_HearthError:yK K mg "HearthError") (is_BadPrices:qN K mg "BadPrices") (is_NotWood:qN K mg "NotWood") (is_ValueError:yN K mg):Df P w K mg base 11 "_law_refused" ["which","web","prices"] qW:=
 Df.au F ak1 (fun cdv A outer s H E hr=>by
  have nd:=ak1.nd
  exact⟨(ah3),(aF (b7 (i:=3) nd pU)
   (aF (aO8 4 cat_HearthError nd (Y9 (fun _=>(nK (qv 0) aD)) (yI d_best_ledger hr (fun _=>(a7 (qv 1) (a7 (qv 2) aA)))) (Y9 (fun _=>(nK (qv 0) aD)) (yI d_wood_cheapest hr (fun _=>(a7 (qv 1) (a7 (qv 2) aA)))) (yI d_judged_ledger hr (fun _=>(a7 (qv 1) (a7 (qv 2) (a7 (eS aA) aA))))))) (fun _=>(aT (b7 (i:=3) nd (eS (a7 (Z2 B is_NotWood (qv 4)) (a7 (Z2 B is_BadPrices (qv 4)) (a7 (aP2 B is_ValueError (qv 4)) aA))))))))
   (aT (lY 3)))),ba6⟩)
theorem ak2:FnScope ["web","prices","cell","many","wrong","place","more","ring","which","some"] ["web","prices","cell"] (aY (b9 48)):=.au
theorem bg6 (B:Bt mg) (F:FM K mg "_law_refusals" 48 f fd) (d__law_refused:Df P w K mg base 11 "_law_refused" ["which","web","prices"] qW):Df P w K mg base 12 "_law_refusals" ["web","prices","cell"] uI:=
 Df.au F ak2 (fun cdv A outer s H E hr=>by
  have nd:=ak2.nd
  have hu3:=bb6 hr
  exact⟨(zY),(aF (b7 (i:=3) nd (dY B (a7 (bC (qv 0) aD) aA)))
   (aF (aS5 (i:=4) nd (X3 (qv 1) (eS (a7 aD aA))))
   (aF (cN (S7 (qv 3) aD) (aF (b7 (i:=5) nd (dI (qv 2) (qv 3)))
    (aF (jY 4 (pX (qv 1) (nN aD) t4))
    (aS8 4 (aG1 B (a7 (qv 1) aA)) (xF aD) (qv 5) (jX (xF aD) (dI (iM (qv 2) aD) (x8 aD aD)))))) cS)
   (aF (b7 (i:=6) nd (gB (a7 (gB (a7 (qv 3) (a7 (cM (qv 3) aD) aA))) (a7 (gB (a7 (qv 3) (a7 (cM (qv 3) aD) aA))) (a7 (gB (a7 (cM (qv 3) aD) (a7 (cM (qv 3) aD) aA))) aA)))))
   (aF (b7 (i:=7) nd (gB (a7 (X8 (bC (qv 0) aD) (gB (a7 aD (a7 aD (a7 aD aA))))) (a7 (k7 B (a7 (ba4 B (a7 (X8 (bC (qv 0) aD) (qv 6)) aA)) aA)) aA))))
   (aF (sX 4 (gK 8 nd (kY rfl B.range aD)
    (aF (gK 9 nd (dJ (qv 4))
     (aT (cN (U2 hu3 (bB d__law_refused hr (a7 (qv 8) (a7 (qv 0) (a7 (qv 9) aA)))) (eS (a7 dX (a7 dX (a7 dX aA))))) (aT (bR dX)) cS)))
    (aT (gK 9 nd (dJ (aU1 (qv 4) (aT0 (a7 (X3 (qv 1) (eS (a7 aD (a7 aD (a7 aD aA))))) aA))))
     (aT (cN (U2 hu3 (bB d__law_refused hr (a7 (qv 8) (a7 (qv 7) (a7 (qv 9) aA)))) (eS (a7 dX (a7 dX (a7 dX aA))))) (aT (bR dX)) cS)))))))
   (aT (bR dX)))))))),bb3⟩)
theorem ak3:FnScope ["script","web","many","prices","seeds","elders","ledger","due"] ["script"] (aY (b9 49)):=.au
theorem bg7 (B:Bt mg) (F:fI K "law" "law" (b9 49) f fd) (d__law_wood:Df P w K mg base 3 "_law_wood" ["script","most"] uE) (d__law_prices:Df P w K mg base 2 "_law_prices" ["script","many"] u6) (d_wood_cheapest:bV P w K mg base 10 "wood_cheapest" ["web","prices"] oF) (d__law_is_set:Df P w K mg base 2 "_law_is_set" ["found","many"] u3) (d__law_lights:Df P w K mg base 3 "_law_lights" ["web","seeds"] u0) (d__law_elders:Df P w K mg base 2 "_law_elders" ["web"] uG) (d_best_ledger:bV P w K mg base 9 "best_ledger" ["web","prices"] lG) (d__law_refusals:Df P w K mg base 12 "_law_refusals" ["web","prices","cell"] uI) (d__law_cell_at:Df P w K mg base 1 "_law_cell_at" ["script","k"] fC):cY P w K mg base e9 13 f fd ["script"] (pK K zZ):=
 aL9 F ak3 (fun xs Q h=>by unfold zZ at h; repeat (first | (obtain ⟨rfl,_⟩:=h; rfl) | (obtain ⟨_,h⟩:=h))) (fun cdv A outer s H E hr=>by
  have nd:=ak3.nd
  exact⟨(ai0),(aF (b7 (i:=1) nd (bB d__law_wood hr (a7 (qv 0) (a7 aD aA))))
   (aF (b7 (i:=2) nd (dY B (a7 (bC (qv 1) aD) aA)))
   (aF (b7 (i:=3) nd (bB d__law_prices hr (a7 (qv 0) (a7 (qv 2) aA))))
   (aF (b7 (i:=4) nd (yG d_wood_cheapest hr (a7 (qv 1) (a7 (qv 3) aA))))
   (aF (cN (nL (xB (kX (kW (bB d__law_is_set hr (a7 (qv 4) (a7 (qv 2) aA))))) (S9 (kX (kW (bB d__law_lights hr (a7 (qv 1) (a7 (qv 4) aA)))))))) (aT (bR dX)) cS)
   (aF (b7 (i:=5) nd (bC (bB d__law_elders hr (a7 (qv 1) aA)) aD))
   (aF (b7 (i:=6) nd (yG d_best_ledger hr (a7 (qv 1) (a7 (qv 3) aA))))
   (aF (b7 (i:=7) nd (qL B rfl (a7 (pZ (N:=["hearth","elders","ledger"]) (fr:=[none,some 5,some 6]) (kY rfl B.range (qv 2)) (fun _ _ _ _=>(aF4 (bC (qv 1) (qv 0)) pU)) (fun _ _ _ _=>(bC (bC (qv 2) (qv 0)) aD))) aA)))
   (aF (cN (S8 (qL B rfl (a7 (nO (N:=["hearth","prices"]) (fr:=[none,some 3]) (dJ (qv 4)) (fun _ _ _ _=>(bC (qv 1) (qv 0)))) aA)) (qv 7)) (aT (bR dX)) cS)
   (aT (bR (bB d__law_refusals hr (a7 (qv 1) (a7 (qv 3) (a7 (bB d__law_cell_at hr (a7 (qv 0) (a7 aD aA))) aA))))))))))))))),bb5⟩)
end
set_option autoImplicit true in
theorem bg8 {l:OpenLaw}{w:World}{K:Frag}{h:Heap}{mg:Str->Option Value} (X:K.In h) (G:h.Ns mainGlobals mg) (hfa:mg "law" = some (.ref fa))
  (h0:FK K "made_prices" 7 f0 d0)
  (h1:FK K "rises" 9 f1 d1)
  (h2:FK K "hearths_in" 10 f2 d2)
  (h3:FK K "near_lists" 11 f3 d3)
  (h4:FK K "marked" 15 f4 d4)
  (h5:FK K "children_of" 25 f5 d5)
  (h6:FK K "one_less" 29 f6 d6)
  (h7:FK K "most_for" 30 f7 d7)
  (h8:FK K "_law_cell_at" 35 f8 d8)
  (h9:FK K "_law_mixed" 36 f9 d9)
  (h10:FK K "_law_whole" 37 f10 d10)
  (h11:FK K "_law_beside" 41 f11 d11)
  (h12:FK K "is_hearth" 12 f12 d12)
  (h13:FK K "without" 16 f13 d13)
  (h14:FK K "first_piece" 20 f14 d14)
  (h15:FK K "most_pair" 28 f15 d15)
  (h16:FK K "_law_hearths" 38 f16 d16)
  (h17:FK K "_law_places" 39 f17 d17)
  (h18:FK K "_law_burning" 42 f18 d18)
  (h19:FK K "_law_is_set" 44 f19 d19)
  (h20:FK K "_law_elders" 45 f20 d20)
  (h21:FK K "_law_prices" 46 f21 d21)
  (h22:FK K "is_set" 13 f22 d22)
  (h23:FK K "all_but" 17 f23 d23)
  (h24:FK K "_law_wood" 40 f24 d24)
  (h25:FK K "_law_lights" 43 f25 d25)
  (h26:FK K "made_set" 14 f26 d26)
  (h27:FK K "cold_pieces" 19 f27 d27)
  (h28:FK K "all_pieces" 23 f28 d28)
  (h29:FK K "is_wood" 22 f29 d29)
  (h30:FK K "from_roots" 24 f30 d30)
  (h31:FK K "best_ledger" 27 f31 d31)
  (h32:FK K "judged_ledger" 31 f32 d32)
  (h33:FK K "wood_cheapest" 33 f33 d33)
  (h34:FK K "_law_refused" 47 f34 d34)
  (h35:FK K "_law_refusals" 48 f35 d35)
  (a36:nsIn K mainGlobals "law" = some (some (.ref f36))) (l36:K.lookup f36=some ⟨oc36,od36,.func (fnOf "law" "law" (jL (b9 49)) (fH (b9 49)) (aY (b9 49)) .none kV36 dc36 pm36 an36 cd36 ct36),sl36⟩) (c36:codeIn K cd36 "law" = true) (k36:keepIn K (.ref f36)=true)
  (z_len:nsIn K mainGlobals "len" = some none)
  (z_range:nsIn K mainGlobals "range" = some none)
  (z_tuple:nsIn K mainGlobals "tuple" = some none)
  (z_list:nsIn K mainGlobals "list" = some none)
  (z_sorted:nsIn K mainGlobals "sorted" = some none)
  (z_all:nsIn K mainGlobals "all" = some none)
  (z_any:nsIn K mainGlobals "any" = some none)
  (z_zip:nsIn K mainGlobals "zip" = some none)
  (z_min:nsIn K mainGlobals "min" = some none)
  (z_max:nsIn K mainGlobals "max" = some none)
  (z_sum:nsIn K mainGlobals "sum" = some none)
  (z_isinstance:nsIn K mainGlobals "isinstance" = some none)
  (z_int:nsIn K mainGlobals "int" = some none)
  (z_bool:nsIn K mainGlobals "bool" = some none)
  (z_enumerate:nsIn K mainGlobals "enumerate" = some none)
  (z_reversed:nsIn K mainGlobals "reversed" = some none)
  {C_HearthError C_BadSet C_BadPrices C_NotWood C_NoPaper:Addr}
  (aX_HE:nsIn K mainGlobals "HearthError" = some (some (.ref C_HearthError)))
  (aX_BS:nsIn K mainGlobals "BadSet" = some (some (.ref C_BadSet)))
  (aX_BP:nsIn K mainGlobals "BadPrices" = some (some (.ref C_BadPrices)))
  (aX_NW:nsIn K mainGlobals "NotWood" = some (some (.ref C_NotWood)))
  (aX_NP:nsIn K mainGlobals "NoPaper" = some (some (.ref C_NoPaper)))
  (zX_BW:nsIn K mainGlobals "BadWeb" = some none)
  (zX_BO:nsIn K mainGlobals "BadOrder" = some none)
  (zX_BB:nsIn K mainGlobals "BadBoard" = some none)
  (zX_BD:nsIn K mainGlobals "BadDeed" = some none)
  (zX_NS:nsIn K mainGlobals "NoSuch" = some none)
  (zX_TM:nsIn K mainGlobals "TooMany" = some none)
  (zX_NT:nsIn K mainGlobals "NoText" = some none)
  (zX_OR:nsIn K mainGlobals "OddRound" = some none)
  (y_fg:specialIn K (.builtin "object.__class__") "__get__" = some (some (.builtin "getset_descriptor.__get__")))
  (y_ft:takesIn K (.builtin "object.__class__")=some true)
  (z_VE:nsIn K mainGlobals "ValueError" = some none)
  (y1_HE:isClsIn K C_HearthError=true)
  (y2_HE:typeIn K (.ref C_HearthError)=some (.type "type"))
  (y3_HE:findIn K (.ref C_HearthError) "__getattribute__" = some (some (.builtin "BaseException.__getattribute__")))
  (y4_HE:findIn K (.ref C_HearthError) "__getattr__" = some none)
  (y5_HE:findIn K (.ref C_HearthError) "__class__" = some (some (.builtin "object.__class__")))
  (y6_HE:mroIn K C_HearthError (.type "object")=some true)
  (y7_HE:mroIn K C_HearthError (.type "BaseException")=some true)
  (y1_BS:isClsIn K C_BadSet=true)
  (y2_BS:typeIn K (.ref C_BadSet)=some (.type "type"))
  (y3_BS:findIn K (.ref C_BadSet) "__getattribute__" = some (some (.builtin "BaseException.__getattribute__")))
  (y4_BS:findIn K (.ref C_BadSet) "__getattr__" = some none)
  (y5_BS:findIn K (.ref C_BadSet) "__class__" = some (some (.builtin "object.__class__")))
  (y6_BS:mroIn K C_BadSet (.type "object")=some true)
  (y7_BS:mroIn K C_BadSet (.type "BaseException")=some true)
  (y1_BP:isClsIn K C_BadPrices=true)
  (y2_BP:typeIn K (.ref C_BadPrices)=some (.type "type"))
  (y3_BP:findIn K (.ref C_BadPrices) "__getattribute__" = some (some (.builtin "BaseException.__getattribute__")))
  (y4_BP:findIn K (.ref C_BadPrices) "__getattr__" = some none)
  (y5_BP:findIn K (.ref C_BadPrices) "__class__" = some (some (.builtin "object.__class__")))
  (y6_BP:mroIn K C_BadPrices (.type "object")=some true)
  (y7_BP:mroIn K C_BadPrices (.type "BaseException")=some true)
  (y1_NW:isClsIn K C_NotWood=true)
  (y2_NW:typeIn K (.ref C_NotWood)=some (.type "type"))
  (y3_NW:findIn K (.ref C_NotWood) "__getattribute__" = some (some (.builtin "BaseException.__getattribute__")))
  (y4_NW:findIn K (.ref C_NotWood) "__getattr__" = some none)
  (y5_NW:findIn K (.ref C_NotWood) "__class__" = some (some (.builtin "object.__class__")))
  (y6_NW:mroIn K C_NotWood (.type "object")=some true)
  (y7_NW:mroIn K C_NotWood (.type "BaseException")=some true)
  (y1_NP:isClsIn K C_NoPaper=true)
  (y2_NP:typeIn K (.ref C_NoPaper)=some (.type "type"))
  (y3_NP:findIn K (.ref C_NoPaper) "__getattribute__" = some (some (.builtin "BaseException.__getattribute__")))
  (y4_NP:findIn K (.ref C_NoPaper) "__getattr__" = some none)
  (y5_NP:findIn K (.ref C_NoPaper) "__class__" = some (some (.builtin "object.__class__")))
  (y6_NP:mroIn K C_NoPaper (.type "object")=some true)
  (y7_NP:mroIn K C_NoPaper (.type "BaseException")=some true)
  (sB_HE:subIn K (.ref C_HearthError) (.type "BaseException")=some true)
  (s_BS_HE:subIn K (.ref C_BadSet) (.ref C_HearthError)=some true)
  (s_BP_HE:subIn K (.ref C_BadPrices) (.ref C_HearthError)=some true)
  (s_NW_HE:subIn K (.ref C_NotWood) (.ref C_HearthError)=some true)
  (s_NP_HE:subIn K (.ref C_NoPaper) (.ref C_HearthError)=some true)
  (sN_BP:subIn K (.type "NoneType") (.ref C_BadPrices)=some false)
  (s_BS_BP:subIn K (.ref C_BadSet) (.ref C_BadPrices)=some false)
  (n_BS_BP:(C_BadSet == C_BadPrices)=false)
  (s_NW_BP:subIn K (.ref C_NotWood) (.ref C_BadPrices)=some false)
  (n_NW_BP:(C_NotWood == C_BadPrices)=false)
  (s_NP_BP:subIn K (.ref C_NoPaper) (.ref C_BadPrices)=some false)
  (n_NP_BP:(C_NoPaper == C_BadPrices)=false)
  (sN_NW:subIn K (.type "NoneType") (.ref C_NotWood)=some false)
  (s_BS_NW:subIn K (.ref C_BadSet) (.ref C_NotWood)=some false)
  (n_BS_NW:(C_BadSet == C_NotWood)=false)
  (s_BP_NW:subIn K (.ref C_BadPrices) (.ref C_NotWood)=some false)
  (n_BP_NW:(C_BadPrices == C_NotWood)=false)
  (s_NP_NW:subIn K (.ref C_NoPaper) (.ref C_NotWood)=some false)
  (n_NP_NW:(C_NoPaper == C_NotWood)=false)
  (sV_BS:subIn K (.ref C_BadSet) (.type "ValueError")=some true)
  (sV_BP:subIn K (.ref C_BadPrices) (.type "ValueError")=some true)
  (sV_NW:subIn K (.ref C_NotWood) (.type "ValueError")=some true)
  (sV_NP:subIn K (.ref C_NoPaper) (.type "ValueError")=some true)
  (q_BP:excIn K C_BadPrices [.type "ValueError",.type "Exception",.type "BaseException",.type "object"] "ValueError.__new__" = true)
  (q_BS:excIn K C_BadSet [.type "ValueError",.type "Exception",.type "BaseException",.type "object"] "ValueError.__new__" = true)
  (q_NW:excIn K C_NotWood [.type "ValueError",.type "Exception",.type "BaseException",.type "object"] "ValueError.__new__" = true)
  : ∃ fd:FuncData,(∀ (s:Shared) (v:Value),BindsTo s fd ⟨[v],[]⟩ [("script",v)])/\∀ base:Heap,K.In base->base.Ns mainGlobals mg->cY l.prog w K mg base e9 13 fa fd ["script"] (tK K):=by
 have e:=hfa.symm.trans (mg_of X G a36)
 cases e
 have F36:=aw0 (st:=b9 49) l36 c36 k36
 have m36:=mg_of X G a36
 have B:Bt mg:=⟨mg_none_of X G z_len,mg_none_of X G z_range,mg_none_of X G z_tuple,mg_none_of X G z_list,mg_none_of X G z_sorted,mg_none_of X G z_all,mg_none_of X G z_any,mg_none_of X G z_zip,mg_none_of X G z_min,mg_none_of X G z_max,mg_none_of X G z_sum,mg_none_of X G z_isinstance,mg_none_of X G z_int,mg_none_of X G z_bool,mg_none_of X G z_enumerate⟩
 have rv:=mg_none_of X G z_reversed
 refine⟨fnOf "law" "law" (jL (b9 49)) (fH (b9 49)) (aY (b9 49)) .none kV36 dc36 pm36 an36 cd36 ct36,fun s v=>.of_eq rfl,fun base KB _=>?_⟩
 have XK_HearthError:kD K C_HearthError:=⟨y1_HE,y2_HE,y3_HE,y4_HE,y5_HE,y_fg,y_ft,y6_HE,y7_HE⟩
 have XK_BadSet:kD K C_BadSet:=⟨y1_BS,y2_BS,y3_BS,y4_BS,y5_BS,y_fg,y_ft,y6_BS,y7_BS⟩
 have XK_BadPrices:kD K C_BadPrices:=⟨y1_BP,y2_BP,y3_BP,y4_BP,y5_BP,y_fg,y_ft,y6_BP,y7_BP⟩
 have XK_NotWood:kD K C_NotWood:=⟨y1_NW,y2_NW,y3_NW,y4_NW,y5_NW,y_fg,y_ft,y6_NW,y7_NW⟩
 have XK_NoPaper:kD K C_NoPaper:=⟨y1_NP,y2_NP,y3_NP,y4_NP,y5_NP,y_fg,y_ft,y6_NP,y7_NP⟩
 have cat_HearthError:yK K mg "HearthError":=⟨C_HearthError,mg_of X G aX_HE,⟨y1_HE,y2_HE,sB_HE⟩,fun n C h2 h1=>by
  obtain ⟨hm,hb⟩:=tP h2
  simp only [nY,bj1,bl0,bq2] at hm
  rcases hm with rfl | rfl | rfl | rfl | rfl | rfl | rfl | rfl | rfl | rfl | rfl | rfl
  ·rw [zX_BW] at h1; cases h1
  ·rw [aX_BS] at h1; cases h1; exact s_BS_HE
  ·rw [zX_BO] at h1; cases h1
  ·rw [aX_BP] at h1; cases h1; exact s_BP_HE
  ·rw [zX_BB] at h1; cases h1
  ·rw [zX_BD] at h1; cases h1
  ·rw [aX_NW] at h1; cases h1; exact s_NW_HE
  ·rw [aX_NP] at h1; cases h1; exact s_NP_HE
  ·rw [zX_NS] at h1; cases h1
  ·rw [zX_TM] at h1; cases h1
  ·rw [zX_NT] at h1; cases h1
  ·rw [zX_OR] at h1; cases h1⟩
 have is_BadPrices:qN K mg "BadPrices":=⟨C_BadPrices,mg_of X G aX_BP,fun z=>(by cases z),(fun n C b h1 h2=>by
  obtain ⟨hm,hb⟩:=tP h2
  simp only [nY,bj1,bl0,bq2] at hm
  rcases hm with rfl | rfl | rfl | rfl | rfl | rfl | rfl | rfl | rfl | rfl | rfl | rfl
  ·rw [zX_BW] at h1; cases h1
  ·rw [aX_BS] at h1; cases h1; rw [hb,show (("BadSet" : Str) == "BadPrices" || ("BadPrices" : Str) == "HearthError" || ("BadPrices" : Str) == "ValueError")=false by decide]; exact⟨XK_BadSet.exc,o0 XK_BadPrices n_BS_BP s_BS_BP⟩
  ·rw [zX_BO] at h1; cases h1
  ·rw [aX_BP] at h1; cases h1; rw [hb,show (("BadPrices" : Str) == "BadPrices" || ("BadPrices" : Str) == "HearthError" || ("BadPrices" : Str) == "ValueError")=true by decide]; exact⟨XK_BadPrices.exc,Z3⟩
  ·rw [zX_BB] at h1; cases h1
  ·rw [zX_BD] at h1; cases h1
  ·rw [aX_NW] at h1; cases h1; rw [hb,show (("NotWood" : Str) == "BadPrices" || ("BadPrices" : Str) == "HearthError" || ("BadPrices" : Str) == "ValueError")=false by decide]; exact⟨XK_NotWood.exc,o0 XK_BadPrices n_NW_BP s_NW_BP⟩
  ·rw [aX_NP] at h1; cases h1; rw [hb,show (("NoPaper" : Str) == "BadPrices" || ("BadPrices" : Str) == "HearthError" || ("BadPrices" : Str) == "ValueError")=false by decide]; exact⟨XK_NoPaper.exc,o0 XK_BadPrices n_NP_BP s_NP_BP⟩
  ·rw [zX_NS] at h1; cases h1
  ·rw [zX_TM] at h1; cases h1
  ·rw [zX_NT] at h1; cases h1
  ·rw [zX_OR] at h1; cases h1),Z4 XK_BadPrices sN_BP⟩
 have is_NotWood:qN K mg "NotWood":=⟨C_NotWood,mg_of X G aX_NW,fun z=>(by cases z),(fun n C b h1 h2=>by
  obtain ⟨hm,hb⟩:=tP h2
  simp only [nY,bj1,bl0,bq2] at hm
  rcases hm with rfl | rfl | rfl | rfl | rfl | rfl | rfl | rfl | rfl | rfl | rfl | rfl
  ·rw [zX_BW] at h1; cases h1
  ·rw [aX_BS] at h1; cases h1; rw [hb,show (("BadSet" : Str) == "NotWood" || ("NotWood" : Str) == "HearthError" || ("NotWood" : Str) == "ValueError")=false by decide]; exact⟨XK_BadSet.exc,o0 XK_NotWood n_BS_NW s_BS_NW⟩
  ·rw [zX_BO] at h1; cases h1
  ·rw [aX_BP] at h1; cases h1; rw [hb,show (("BadPrices" : Str) == "NotWood" || ("NotWood" : Str) == "HearthError" || ("NotWood" : Str) == "ValueError")=false by decide]; exact⟨XK_BadPrices.exc,o0 XK_NotWood n_BP_NW s_BP_NW⟩
  ·rw [zX_BB] at h1; cases h1
  ·rw [zX_BD] at h1; cases h1
  ·rw [aX_NW] at h1; cases h1; rw [hb,show (("NotWood" : Str) == "NotWood" || ("NotWood" : Str) == "HearthError" || ("NotWood" : Str) == "ValueError")=true by decide]; exact⟨XK_NotWood.exc,Z3⟩
  ·rw [aX_NP] at h1; cases h1; rw [hb,show (("NoPaper" : Str) == "NotWood" || ("NotWood" : Str) == "HearthError" || ("NotWood" : Str) == "ValueError")=false by decide]; exact⟨XK_NoPaper.exc,o0 XK_NotWood n_NP_NW s_NP_NW⟩
  ·rw [zX_NS] at h1; cases h1
  ·rw [zX_TM] at h1; cases h1
  ·rw [zX_NT] at h1; cases h1
  ·rw [zX_OR] at h1; cases h1),Z4 XK_NotWood sN_NW⟩
 have is_ValueError:yN K mg:=⟨mg_none_of X G z_VE,fun z=>(by cases z),(fun n C b h1 h2=>by
  obtain ⟨hm,hb⟩:=tP h2
  simp only [nY,bj1,bl0,bq2] at hm
  rcases hm with rfl | rfl | rfl | rfl | rfl | rfl | rfl | rfl | rfl | rfl | rfl | rfl
  ·rw [zX_BW] at h1; cases h1
  ·rw [aX_BS] at h1; cases h1; rw [hb,show (("BadSet" : Str) == "ValueError" || ("ValueError" : Str) == "HearthError" || ("ValueError" : Str) == "ValueError")=true by decide]; exact⟨XK_BadSet.exc,tQ sV_BS⟩
  ·rw [zX_BO] at h1; cases h1
  ·rw [aX_BP] at h1; cases h1; rw [hb,show (("BadPrices" : Str) == "ValueError" || ("ValueError" : Str) == "HearthError" || ("ValueError" : Str) == "ValueError")=true by decide]; exact⟨XK_BadPrices.exc,tQ sV_BP⟩
  ·rw [zX_BB] at h1; cases h1
  ·rw [zX_BD] at h1; cases h1
  ·rw [aX_NW] at h1; cases h1; rw [hb,show (("NotWood" : Str) == "ValueError" || ("ValueError" : Str) == "HearthError" || ("ValueError" : Str) == "ValueError")=true by decide]; exact⟨XK_NotWood.exc,tQ sV_NW⟩
  ·rw [aX_NP] at h1; cases h1; rw [hb,show (("NoPaper" : Str) == "ValueError" || ("ValueError" : Str) == "HearthError" || ("ValueError" : Str) == "ValueError")=true by decide]; exact⟨XK_NoPaper.exc,tQ sV_NP⟩
  ·rw [zX_NS] at h1; cases h1
  ·rw [zX_TM] at h1; cases h1
  ·rw [zX_NT] at h1; cases h1
  ·rw [zX_OR] at h1; cases h1),aP3⟩
 have x_BadPrices:Xc K mg base "BadPrices":=⟨C_BadPrices,_,_,_,_,yO KB (mg_of X G aX_BP) q_BP,PySem.F.excBase_ValueError,aX_BP⟩
 have x_BadSet:Xc K mg base "BadSet":=⟨C_BadSet,_,_,_,_,yO KB (mg_of X G aX_BS) q_BS,PySem.F.excBase_ValueError,aX_BS⟩
 have x_NotWood:Xc K mg base "NotWood":=⟨C_NotWood,_,_,_,_,yO KB (mg_of X G aX_NW) q_NW,PySem.F.excBase_ValueError,aX_NW⟩
 have D0:=bc1 (P:=l.prog) (w:=w) (base:=base) B (h0.M X G)  x_BadPrices
 have D1:=aL3 (bb7 (P:=l.prog) (w:=w) (base:=base) B h1.F) (h1.F.binds (ps:=["things"]) fun _ _ _ _ _ _ us hl=>by obtain ⟨_,rfl⟩:=o4 hl; rfl) h1.F.kp (mg_of X G h1.a)
 have D2:=bc3 (P:=l.prog) (w:=w) (base:=base) B (h2.M X G)
 have D3:=aL4 (bb8 (P:=l.prog) (w:=w) (mg:=mg) (base:=base) h3.F) (h3.F.binds (ps:=["web"]) fun _ _ _ _ _ _ us hl=>by obtain ⟨_,rfl⟩:=o4 hl; rfl) h3.F.kp (mg_of X G h3.a)
 have D4:=bc4 (P:=l.prog) (w:=w) (base:=base) B (h4.M X G)
 have D5:=bc6 (P:=l.prog) (w:=w) (base:=base) B (h5.M X G)
 have D6:=bc8 (P:=l.prog) (w:=w) (base:=base) B (h6.M X G)
 have D7:=bc9 (P:=l.prog) (w:=w) (base:=base) B (h7.M X G)
 have D8:=bd1 (P:=l.prog) (w:=w) (base:=base) B (h8.M X G)
 have D9:=bd2 (P:=l.prog) (w:=w) (base:=base) B (h9.M X G)
 have D10:=bd4 (P:=l.prog) (w:=w) (base:=base) B (h10.M X G)
 have D11:=aR7 (bb9 (P:=l.prog) (w:=w) (mg:=mg) (base:=base) h11.F) (h11.F.binds (ps:=["web"]) fun _ _ _ _ _ _ us hl=>by obtain ⟨_,rfl⟩:=o4 hl; rfl) h11.F.kp (mg_of X G h11.a)
 have D12:=bd6 (P:=l.prog) (w:=w) (base:=base) B (h12.M X G) D2
 have D13:=bd7 (P:=l.prog) (w:=w) (base:=base) B (h13.M X G) D4
 have D14:=bd8 (P:=l.prog) (w:=w) (base:=base) B (h14.M X G) D4
 have D15:=be0 (P:=l.prog) (w:=w) (base:=base) B (h15.M X G) D7 D6
 have D16:=be1 (P:=l.prog) (w:=w) (base:=base) B (h16.M X G) D8
 have D17:=be2 (P:=l.prog) (w:=w) (base:=base) B (h17.M X G) D8 D9
 have D18:=be3 (P:=l.prog) (w:=w) (base:=base) B (h18.M X G) D11
 have D19:=be4 (P:=l.prog) (w:=w) (base:=base) B (h19.M X G) D10
 have D20:=be5 (P:=l.prog) (w:=w) (base:=base) B (h20.M X G) D11
 have D21:=be6 (P:=l.prog) (w:=w) (base:=base) B (h21.M X G) D9 D8
 have D22:=be8 (P:=l.prog) (w:=w) (base:=base) B (h22.M X G) D1 D12
 have D23:=bf0 (P:=l.prog) (w:=w) (base:=base) B (h23.M X G) D13 D2
 have D24:=bf1 (P:=l.prog) (w:=w) (base:=base) B (h24.M X G) D16 D8 D9 D17
 have D25:=bf3 (P:=l.prog) (w:=w) (base:=base) B (h25.M X G) D18
 have D26:=bf5 (P:=l.prog) (w:=w) (base:=base) B (h26.M X G) D22 x_BadSet
 have D27:=bf6 (P:=l.prog) (w:=w) (base:=base) B (h27.M X G) D3 D26 D14 D13
 have D28:=bf8 (P:=l.prog) (w:=w) (base:=base) B (h28.M X G) D27 D23
 have D29:=bg0 (P:=l.prog) (w:=w) (base:=base) B (h29.M X G) D2 D28
 have D30:=bg1 (P:=l.prog) (w:=w) (base:=base) B (h30.M X G) D29 D3 D28 D5 x_NotWood
 have D31:=bg2 (P:=l.prog) (w:=w) (base:=base) B (h31.M X G) D30 D0 D2 D3 D5 D15 rv
 have D32:=bg3 (P:=l.prog) (w:=w) (base:=base) B (h32.M X G) D30 D0 D2
 have D33:=bg4 (P:=l.prog) (w:=w) (base:=base) B (h33.M X G) D31 D3 D30 D6 D5
 have D34:=bg5 (P:=l.prog) (w:=w) (base:=base) B (h34.M X G) D31 D33 D32 cat_HearthError is_BadPrices is_NotWood is_ValueError
 have D35:=bg6 (P:=l.prog) (w:=w) (base:=base) B (h35.M X G) D34
 exact aM0 (bg7 B F36 D24 D21 D33 D19 D25 D20 D31 D35 D8)
theorem bg9 {l:OpenLaw}{q:Program}{loose:List Str}{XP:(Str->Option Value)->Heap->Prop}{YP:World->Heap->Prop}{d:DefRec}{K:Params->Frag} (hn:l.most=some 63) (hdf:d.params.defaults = [])
  (hY:∀ (w:World) (h:Heap),YP w h->(K w.params).In h)
  (F:∀ (w:World) (mg:Str->Option Value) (fa:Addr) (h:Heap),(K w.params).In h->h.Ns mainGlobals mg->mg d.name=some (.ref fa)->
   ∃ fd:FuncData,(∀ (s:Shared) (u:Value),BindsTo s fd ⟨[u],[]⟩ [("script",u)])/\∀ base:Heap,(K w.params).In base->base.Ns mainGlobals mg->cY l.prog w (K w.params) mg base e9 13 fa fd ["script"] (tK (K w.params))) :
  WalkO q loose XP YP l.row.toRowW d [] (fun f vs=>PySem.call f vs):=
 L2.av8 (n:=63) (k:=13) (x:="script") (CX:=fun _=>e9) (sp:=fun w=>tK (K w.params)) hn (by decide) hdf ⟨rfl,by decide,by decide⟩ hY F (fun _ _ a ns hl hO hS=>⟨a,ns,rfl,aM1 hO hS,hl,fun _=>rfl⟩) fun _ _ _ _ _ z=>z
end K_k55
open PySem PySem.W PyProof.Rows
theorem PySem.W.Fast.te13052408679150730464 : True := trivial
theorem PySem.W.Fast.te16555476440528808052 : True := trivial
theorem PySem.W.Fast.te5369427470323729400 : True := trivial
set_option maxRecDepth 100000 in
set_option maxHeartbeats 0 in
theorem PySem.Challenge.cw_kindleweb_k55_cheapest_seeds_of_woods_holds : PySem.Challenge.rw_kindleweb_k55_cheapest_seeds_of_woods.Holds := by
 w_on; o_law; k_head; (case hw => w_witness2)
 k_fill
 refine K_k55.bg9 (l := PySem.Challenge.rw_kindleweb_k55_cheapest_seeds_of_woods) rfl rfl (fun w h Y => PySem.W.kIn_of Y) ?F
 case F =>
  intro w mg fa h KX G hmg
  refine' K_k55.bg8 KX G hmg ?h0 ?h1 ?h2 ?h3 ?h4 ?h5 ?h6 ?h7 ?h8 ?h9 ?h10 ?h11 ?h12 ?h13 ?h14 ?h15 ?h16 ?h17 ?h18 ?h19 ?h20 ?h21 ?h22 ?h23 ?h24 ?h25 ?h26 ?h27 ?h28 ?h29 ?h30 ?h31 ?h32 ?h33 ?h34 ?h35 ?a36 ?l36 ?c36 ?k36 ?z_len ?z_range ?z_tuple ?z_list ?z_sorted ?z_all ?z_any ?z_zip ?z_min ?z_max ?z_sum ?z_isinstance ?z_int ?z_bool ?z_enumerate ?z_reversed ?aX_HE ?aX_BS ?aX_BP ?aX_NW ?aX_NP ?zX_BW ?zX_BO ?zX_BB ?zX_BD ?zX_NS ?zX_TM ?zX_NT ?zX_OR ?y_fg ?y_ft ?z_VE ?y1_HE ?y2_HE ?y3_HE ?y4_HE ?y5_HE ?y6_HE ?y7_HE ?y1_BS ?y2_BS ?y3_BS ?y4_BS ?y5_BS ?y6_BS ?y7_BS ?y1_BP ?y2_BP ?y3_BP ?y4_BP ?y5_BP ?y6_BP ?y7_BP ?y1_NW ?y2_NW ?y3_NW ?y4_NW ?y5_NW ?y6_NW ?y7_NW ?y1_NP ?y2_NP ?y3_NP ?y4_NP ?y5_NP ?y6_NP ?y7_NP ?sB_HE ?s_BS_HE ?s_BP_HE ?s_NW_HE ?s_NP_HE ?sN_BP ?s_BS_BP ?n_BS_BP ?s_NW_BP ?n_NW_BP ?s_NP_BP ?n_NP_BP ?sN_NW ?s_BS_NW ?n_BS_NW ?s_BP_NW ?n_BP_NW ?s_NP_NW ?n_NP_NW ?sV_BS ?sV_BP ?sV_NW ?sV_NP ?q_BP ?q_BS ?q_NW
  (case h0 | h1 | h2 | h3 | h4 | h5 | h6 | h7 | h8 | h9 | h10 | h11 | h12 | h13 | h14 | h15 | h16 | h17 | h18 | h19 | h20 | h21 | h22 | h23 | h24 | h25 | h26 | h27 | h28 | h29 | h30 | h31 | h32 | h33 | h34 | h35 => exact ⟨by k_is, ⟨⟨_, _, _, _, _, _, _, _, _, rfl, by k_is, by k_is⟩, by k_is⟩⟩)
  (case a36|l36|c36|k36|z_len|z_range|z_tuple|z_list|z_sorted|z_all|z_any|z_zip|z_min|z_max|z_sum|z_isinstance|z_int|z_bool|z_enumerate|z_reversed|aX_HE|aX_BS|aX_BP|aX_NW|aX_NP|zX_BW|zX_BO|zX_BB|zX_BD|zX_NS|zX_TM|zX_NT|zX_OR|y_fg|y_ft|z_VE|y1_HE|y2_HE|y3_HE|y4_HE|y5_HE|y6_HE|y7_HE|y1_BS|y2_BS|y3_BS|y4_BS|y5_BS|y6_BS|y7_BS|y1_BP|y2_BP|y3_BP|y4_BP|y5_BP|y6_BP|y7_BP|y1_NW|y2_NW|y3_NW|y4_NW|y5_NW|y6_NW|y7_NW|y1_NP|y2_NP|y3_NP|y4_NP|y5_NP|y6_NP|y7_NP|sB_HE|s_BS_HE|s_BP_HE|s_NW_HE|s_NP_HE|sN_BP|s_BS_BP => k_is)
  (case n_BS_BP => decide)
  (case s_NW_BP => k_is)
  (case n_NW_BP => decide)
  (case s_NP_BP => k_is)
  (case n_NP_BP => decide)
  (case sN_NW|s_BS_NW => k_is)
  (case n_BS_NW => decide)
  (case s_BP_NW => k_is)
  (case n_BP_NW => decide)
  (case s_NP_NW => k_is)
  (case n_NP_NW => decide)
  (case sV_BS|sV_BP|sV_NW|sV_NP => k_is)
  (case q_BP|q_BS|q_NW => k_exc)


