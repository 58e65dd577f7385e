import PyProof.Rows.All
import Wide.All
import OpenK.AllK
import Wide.FinOn
import Lean
import PyProof.EqAt
import PyProof.EqKinds
import PyProof.TupleCall
import PyProof.NeKinds
import PyProof.Draws
import PyProof.ZipIter
import PyProof.DictUpdate
import PyProof.AutoSeq1
import PyProof.ListRange
import PyProof.ListMulRoad
import PyProof.FactsAll.tuple_2
import PyProof.Rows.SortShell
import PyProof.EnumFor
import PyProof.EnumMake
import PyProof.EnumStmt
import PyProof.Rows.SortWalk
import KE.KDictList
import PyProof.SumAny
import PyProof.ConsumeWalk
import PyProof.WalksMore
import PyProof.Rows.TupAssign
import PyProof.ExcArgsOwn
import PySem.Challenge.RW_kindleweb_k51_whole_no_fewer_seeds_in_wo
set_option Elab.async false
set_option linter.all false
set_option maxRecDepth 100000
set_option maxHeartbeats 4000000
section
open PySem PySem.Spec PyProof.Rows
noncomputable def bg0:=@wpAny_bind
noncomputable def bg1:=@Heap.get?_push_of_some
noncomputable def bg2:=@decide_eq_true
noncomputable def bg3:=@List.getElem?_eq_getElem
noncomputable def bg4:=@decide_eq_false
noncomputable def bg5:=@List.length_map
noncomputable def bg6:=@List.mem_cons_of_mem
noncomputable def bg7:=@List.mem_cons_self
noncomputable def bg8:=@List.mem_cons
noncomputable def bg9:=@Nat.le_refl
noncomputable def bh0:=@List.size_toArray
noncomputable def bh1:=@List.mem_singleton
noncomputable def bh2:=@List.getElem?_eq_some_iff
noncomputable def bh3:=@wpAny_pure
noncomputable def bh4:=@List.mem_append
noncomputable def bh5:=@List.getElem?_map
noncomputable def bh6:=@List.length_append
noncomputable def bh7:=@wpS_bind
noncomputable def bh8:=@List.mem_filter
noncomputable def bh9:=@List.mem_of_getElem?
noncomputable def bi0:=@Heap.lt_size
noncomputable def bi1:=@List.getD_eq_getElem?_getD
noncomputable def bi2:=@Nat.lt_of_lt_of_le
noncomputable def bi3:=@List.map_append
noncomputable def bi4:=@List.mem_map
noncomputable def bi5:=@Bool.false_ne_true
noncomputable def bi6:=@List.not_mem_nil
noncomputable def bi7:=@wpS_pure
noncomputable def bi8:=@Heap.get?_push_size
noncomputable def bi9:=@List.length_cons
noncomputable def bj0:=@Option.some.inj
noncomputable def bj2:=@List.append_assoc
noncomputable def bj3:=@List.take_of_length_le
noncomputable def bj4:=@List.pairwise_singleton
noncomputable def bj6:=@List.mem_append_right
noncomputable def bj7:=@Bool.false_eq_true
noncomputable def bj8:=@Int.toNat_natCast
noncomputable def bj9:=@Bool.and_eq_true
noncomputable def bk0:=@List.take_append_drop
noncomputable def bk2:=@decide_eq_true_eq
noncomputable def bk3:=@List.mem_append_left
noncomputable def bk4:=@List.append_nil
noncomputable def bk5:=@List.length_singleton
noncomputable def bk6:=@Nat.ne_of_lt
noncomputable def bk8:=@List.getElem?_set_ne
noncomputable def bk9:=@decide_eq_false_iff_not
noncomputable def bl0:=@Nat.zero_le
noncomputable def bl1:=@Nat.le_trans
noncomputable def bl2:=@List.pairwise_append
noncomputable def bl3:=@List.map_cons
noncomputable def bl4:=@List.pairwise_iff_getElem
noncomputable def bl5:=@Classical.byContradiction
noncomputable def bl6:=@of_decide_eq_true
noncomputable def bl7:=@Array.length_toList
noncomputable def bl8:=@Bool.eq_iff_iff
noncomputable def bl9:=@Nat.lt_or_ge
noncomputable def bm1:=@or_false
noncomputable def bm2:=@Array.getElem_mem
noncomputable def bm4:=@List.length_filter_le
noncomputable def bm6:=@List.nodup_cons
noncomputable def bm7:=@List.length_set
noncomputable def bm8:=@List.getElem?_append_left
noncomputable def bm9:=@PySem.mem_of_lookup
noncomputable def bn0:=@PyProof.Rows.callWith_type1
noncomputable def bn2:=@List.length_take
noncomputable def bn3:=@Nat.le_add_right
noncomputable def bn4:=@List.take_length
noncomputable def bn5:=@wpAny_newObj_type
noncomputable def bn6:=@List.take_add_one
noncomputable def bn7:=@Nat.le_of_lt
noncomputable def bn8:=@wpAny_field
noncomputable def bn9:=@wpAny_callSpecial?_slot
noncomputable def bo0:=@Array.toList_append
noncomputable def bo2:=@wpAny_call_entry
noncomputable def bo3:=@List.lookup_cons
noncomputable def bo4:=@List.nodup_append
noncomputable def bo5:=@Nat.lt_irrefl
noncomputable def bo6:=@wpAny_setField_rec
noncomputable def bo7:=@Array.getElem?_toList
noncomputable def bo8:=@List.map_map
noncomputable def bp0:=@List.length_drop
noncomputable def bp1:=@PySem.F.plainAttrs_list
noncomputable def bp2:=@List.Pairwise.nil
noncomputable def bp3:=@List.pairwise_map
noncomputable def bp5:=@List.getElem?_set_self
noncomputable def bp6:=@Nat.ne_of_gt
noncomputable def bp7:=@wpS_forRange
noncomputable def bp8:=@if_false
noncomputable def bp9:=@beq_self_eq_true
noncomputable def bq0:=@List.all_eq_true
noncomputable def bq1:=@List.replicate_succ
noncomputable def bq2:=@Int.le_refl
noncomputable def bq3:=@List.filter_eq_self
noncomputable def bq4:=@List.mem_iff_getElem?
noncomputable def bq5:=@Int.ne_of_lt
noncomputable def bq6:=@List.getElem?_cons_succ
noncomputable def bq7:=@wpAny_mono
noncomputable def bq8:=@List.pairwise_cons
noncomputable def br0:=@wpAny_holding
noncomputable def br1:=@List.getElem_mem
noncomputable def br2:=@List.filter_eq_nil_iff
noncomputable def br3:=@List.drop_eq_getElem_cons
noncomputable def br5:=@List.getElem_of_mem
noncomputable def br6:=@List.flatten_cons
noncomputable def br7:=@List.filter_congr
noncomputable def bs0:=@List.find?_cons
noncomputable def bs3:=@List.getElem?_append_right
noncomputable def bs6:=@Heap.size_push
noncomputable def bs8:=@PyProof.Rows.slot_tuple_getitem
noncomputable def bs9:=@Nat.le_of_not_lt
noncomputable def bt0:=@wpAny_rule
noncomputable def bt1:=@List.filter_cons
noncomputable def bt4:=@PySem.F.slot_list_append
noncomputable def bt5:=@PySem.F.type_list_append
noncomputable def bt8:=@List.length_range
noncomputable def bt9:=@List.filter_cons_of_neg
noncomputable def bu0:=@Int.emod_nonneg
noncomputable def bu1:=@Heap.SameBut.update
noncomputable def bu2:=@Int.le_of_lt
noncomputable def bu5:=@List.all_cons
noncomputable def bu6:=@Bool.and_true
noncomputable def bu9:=@wpAny_pyIter_tuple
noncomputable def bv2:=@Bool.and_false
noncomputable def bv3:=@wpAny_seqItems
noncomputable def bv4:=@Nat.eq_or_lt_of_le
noncomputable def bv5:=@List.Perm.refl
noncomputable def bv6:=@List.length_replicate
noncomputable def bv7:=@List.getElem?_eq_none
noncomputable def bv8:=@wpAny_passesOwn
noncomputable def bv9:=@PassesOwn.never
noncomputable def bw0:=@wpAny_truthy_bool
noncomputable def bw4:=@wpS_mono
noncomputable def bw5:=@Bool.not_eq_true'
noncomputable def bw8:=@List.drop_take
end
namespace L2
open PySem PySem.Spec PyProof.Rows
noncomputable abbrev aB:=Sum Int Str
noncomputable def mE:aB->Value->Bool
 | .inl k,v=>Value.isInt k v
 | .inr x,v=>Value.isStrOf x v
noncomputable def ak7 (w:World):aB->Int
 | .inl k=>hashInt k
 | .inr x=>hashStr w x
theorem j5:∀ {k:aB}{v:Value},mE k v=true->(∃ i t,k=Sum.inl i/\v=Value.int i t) ∨ (∃ x t,k=Sum.inr x/\v=Value.str x t)
 | .inl i,v,h=>by
  obtain ⟨t,e⟩:=Value.isInt_shape (k:=i) (v:=v) h
  exact .inl ⟨i,t,rfl,e⟩
 | .inr x,v,h=>by
  obtain ⟨t,e⟩:=Value.isStrOf_shape (x:=x) (v:=v) h
  exact .inr ⟨x,t,rfl,e⟩
theorem ak8 (i:Int) (t:Tok):mE (.inl i) (.int i t)=true:=by simp [mE,Value.isInt]
theorem ak9 (x:Str) (t:Tok):mE (.inr x) (.str x t)=true:=by simp [mE,Value.isStrOf]
theorem al0 (a b:Int):decide ((Sum.inl a:aB)=Sum.inl b)=(a == b):=by
 by_cases e:a=b
 ·subst e; simp
 ·have h : ¬ (Sum.inl a:aB)=Sum.inl b:=fun q=>e (Sum.inl.inj q)
  rw [bg4 h]
  exact (beq_eq_false_iff_ne.mpr e).symm
theorem al1 (a b:Str):decide ((Sum.inr a:aB)=Sum.inr b)=decide (a=b):=by
 by_cases e:a=b
 ·subst e; simp
 ·have h : ¬ (Sum.inr a:aB)=Sum.inr b:=fun q=>e (Sum.inr.inj q)
  rw [bg4 h,bg4 e]
theorem al2 (a:Int) (b:Str):decide ((Sum.inl a:aB)=Sum.inr b)=false:=bg4 (fun q=>nomatch q)
theorem al3 (a:Str) (b:Int):decide ((Sum.inr a:aB)=Sum.inl b)=false:=bg4 (fun q=>nomatch q)
noncomputable def e8 (prog:Program) (w:World):PySem.KeyKind prog w aB where
 is:=mE
 hash:=ak7 w
 inj:=fun v a b ha hb=>by
  rcases j5 ha with ⟨i,t,rfl,rfl⟩ | ⟨x,t,rfl,rfl⟩
  ·rcases j5 hb with ⟨j,u,rfl,e⟩ | ⟨y,u,rfl,e⟩
   ·injection e with e1 _; rw [e1]
   ·exact nomatch e
  ·rcases j5 hb with ⟨j,u,rfl,e⟩ | ⟨y,u,rfl,e⟩
   ·exact nomatch e
   ·injection e with e1 _; rw [e1]
 byValue:=fun k v h=>by
  rcases j5 h with ⟨i,t,rfl,rfl⟩ | ⟨x,t,rfl,rfl⟩ <;> rfl
 pyHash:=fun hv h=>by
  rcases j5 hv with ⟨i,t,rfl,rfl⟩ | ⟨x,t,rfl,rfl⟩
  ·exact wpAny_pyHash_int h
  ·exact wpAny_pyHash_str h
 eqBool:=fun hu hv h=>by
  rcases j5 hu with ⟨i,t,rfl,rfl⟩ | ⟨x,t,rfl,rfl⟩
  ·rcases j5 hv with ⟨j,u,rfl,rfl⟩ | ⟨y,u,rfl,rfl⟩
   ·rw [al0] at h; exact wpAny_eqBool_int h
   ·rw [al2] at h; exact SeqAt.EqAt.int_str i t y u _ _ _ _ h
  ·rcases j5 hv with ⟨j,u,rfl,rfl⟩ | ⟨y,u,rfl,rfl⟩
   ·rw [al3] at h; exact SeqAt.EqAt.str_int x t j u _ _ _ _ h
   ·rw [al1] at h; exact wpAny_eqBool_str h
 «strs»:=fun k x t v h=>by
  rcases j5 h with ⟨i,u,rfl,e⟩ | ⟨y,u,rfl,e⟩
  ·exact nomatch e
  ·injection e with e1 _
   subst e1
   cases v <;> rfl
theorem al4 (prog:Program) (w:World) (i:Int) (t:Tok):(e8 prog w).is (.inl i) (.int i t)=true:=ak8 i t
theorem al5 (prog:Program) (w:World) (x:Str) (t:Tok):(e8 prog w).is (.inr x) (.str x t)=true:=ak9 x t
inductive V where
 | non | bl (b:Bool) | int (i:Int) | str (x:Str) | byt (b:Array UInt8) | flt (b:UInt64) | ref (a:Addr) | ty (n:String)
 deriving DecidableEq
noncomputable def aV:V->Value->Prop
 | .non,u=>u=Value.none
 | .bl b,u=>u=Value.bool b
 | .int i,u=>∃ t,u=Value.int i t
 | .str x,u=>∃ t,u=Value.str x t
 | .byt b,u=>∃ t,u=Value.bytes b t
 | .flt b,u=>∃ t,u=Value.float b t
 | .ref a,u=>u=Value.ref a
 | .ty n,u=>u=Value.type n
noncomputable abbrev aM:List V->List Value->Prop:=Paired aV
theorem aM.length {xs:List V}{us:List Value} (r:aM xs us):xs.length=us.length:=Paired.length r
theorem aM.get:∀ {xs:List V}{us:List Value}{i:Nat}{x:V},aM xs us->xs[i]? = some x->∃ u,us[i]? = some u/\aV x u
 | _,_,_,_,.nil,e=>by simp at e
 | _,_,0,_,.cons r _,e=>by simp at e; subst e; exact⟨_,rfl,r⟩
 | _,_,i+1,x,.cons _ t,e=>by
  obtain ⟨u,h1,h2⟩:=aM.get (i:=i) (x:=x) t (by simpa using e)
  exact⟨u,by simpa using h1,h2⟩
theorem aM.set {x:V}{u:Value} (r:aV x u):∀ {xs:List V}{us:List Value} (i:Nat),aM xs us->aM (xs.set i x) (us.set i u)
 | _,_,_,.nil=>.nil
 | _,_,0,.cons _ t=>.cons r t
 | _,_,i+1,.cons q t=>.cons q (aM.set r i t)
theorem aM.append:∀ {xs ys:List V}{us ws:List Value},aM xs us->aM ys ws->aM (xs ++ ys) (us ++ ws)
 | _,_,_,_,.nil,s=>s
 | _,_,_,_,.cons r t,s=>.cons r (aM.append t s)
theorem aM.take:∀ {xs:List V}{us:List Value} (n:Nat),aM xs us->aM (xs.take n) (us.take n)
 | _,_,0,_=>.nil
 | _,_,_+1,.nil=>.nil
 | _,_,n+1,.cons r t=>.cons r (aM.take n t)
theorem aM.drop:∀ {xs:List V}{us:List Value} (n:Nat),aM xs us->aM (xs.drop n) (us.drop n)
 | _,_,0,r=>r
 | _,_,_+1,.nil=>.nil
 | _,_,n+1,.cons _ t=>aM.drop n t
noncomputable def kI:Option V->Option Value->Prop
 | some v,some u=>aV v u
 | none,none=>True
 | _,_=>False
noncomputable def KV {κ:Type}:List (κ × V)->List (κ × Value)->Prop:=Paired fun (p:κ × V) (q:κ × Value)=>p.1=q.1/\aV p.2 q.2
noncomputable def kV:aB->V
 | .inl i=>.int i
 | .inr x=>.str x
inductive HO where
 | lst (xs:List V)
 | tup (xs:List V)
 | dK (kvs:List (aB × V)) | dT (kvs:List (List aB × V))
 | set (S:Int->Bool) (n:Nat)
 | ins (C dx:Addr) (fs:List (Str × V))
 | own (x:Addr)
 | xd (fs:List (Str × V))
 | met (f x:Addr)
 | rng (lo hi:Int)
 | frz (o:Obj) (u:HO)
 | tbl (ps:Array Value)
 | ext (φ:Heap->Prop)
noncomputable abbrev Hp:=Addr->Option HO
noncomputable def upd (H:Hp) (a:Addr) (o:HO):Hp:=fun b=>if b=a then some o else H b
theorem bL {H:Hp}{a:Addr}{o:HO}:upd H a o a=some o:=by unfold upd; rw [if_pos rfl]
theorem aY {H:Hp}{a b:Addr}{o:HO} (h:b ≠ a):upd H a o b=H b:=by unfold upd; rw [if_neg h]
theorem al6 {H:Hp}{a b:Addr}{o u:HO} (h:H a=some o) (h':H b=some u) (d:o ≠ u):a ≠ b:=by
 intro e; subst e; rw [h] at h'; exact d (bj0 h')
theorem cI {H:Hp}{a b:Addr}{o:HO} (h:H a=some o) (h':H b=none):a ≠ b:=by
 intro e; subst e; rw [h] at h'; cases h'
noncomputable def j6 (h:Heap) (a:Addr):Prop:=∀ o,h.get? a=some o->o.dict=none
theorem j6.new (h:Heap) (o:Obj) (d:o.dict=none) (s:o.isFreed=false:=by rfl):j6 (h.push o) h.objs.size:=fun u e=>by
 rw [bi8 h (o:=o) s] at e
 cases e; exact d
theorem j6.stay {h h':Heap}{a:Addr}{o:Obj} (n:j6 h a) (e:h.get? a=some o) (e':h'.get? a=some o):j6 h' a:=fun u hu=>by
 rw [e'] at hu; cases hu; exact n _ e
section
variable (P : Program) (w : World)
noncomputable def cE (H:Hp) (h:Heap) (a:Addr):HO->Prop
 | .lst xs=>xs.length<=sizeLine/\∃ (its:List Value) (n:Nat),aM xs its/\h.get? a=some { cls:=.type "list",data:=.seq its.toArray n }
 | .tup xs=>xs.length<=sizeLine/\∃ its:List Value,aM xs its/\IsTup h a its.toArray/\j6 h a
 | .dK kvs=>kvs.length<=sizeLine/\(a == sysModules)=false/\∃ vs,KV kvs vs/\h.DictOf (e8 P w) a vs
 | .dT kvs=>kvs.length<=sizeLine/\(a == sysModules)=false/\∃ xs:List (List aB × Addr × Value),
   Paired (fun (p:List aB × V) (q:List aB × Addr × Value)=>p.1=q.1/\H q.2.1=some (.tup (p.1.map kV))/\aV p.2 q.2.2) kvs xs/\
   ∃ o es ep,h.get? a=some o/\o.ExactDict/\o.data = .dict es ep/\es.toList=xs.map (entryOfKey (tupleKind (e8 P w)))/\(xs.map (·.1)).Nodup
 | .set S n=>h.SetOf (intKind P w) a S n
 | .ins C dx fs=>H dx=some (.own a)/\fs.length<=1000/\dx ≠ a/\h.get? a=some (PySem.W.instObj C dx)/\
   ∃ mA,h.Ns1 dx mA/\(∀ f,kI (fs.lookup f) (mA f))/\PySem.Within mA (fs.map (·.1))
 | .own _=>∃ o,h.get? a=some o
 | .xd fs=>∃ mA,h.Ns1 a mA/\∀ f,kI (fs.lookup f) (mA f)
 | .rng lo hi=>∃ t u v,h.get? a=some { cls:=.type "range",data:=.fields #[.int lo t,.int hi u,.int 1 v] }
 | .frz o u=>h.get? a=some o/\cE H h a u
 | .tbl ps=>h.get? a=some { cls:=.none,data:=.fields ps }
 | .met f x=>h.get? a=some (PySem.W.methodObj (.ref f) (.ref x))
 | .ext φ=>φ h/\(∃ o,h.get? a=some o)/\∀ h1 h2:Heap,φ h1->(∀ o,h1.get? a=some o->h2.get? a=some o)->φ h2
noncomputable def bY (H:Hp) (h:Heap):Prop:=∀ a o,H a=some o->cE P w H h a o
end
section
variable {P : Program} {w : World} {H H' : Hp} {h h' : Heap} {a : Addr} {o : HO}
theorem cE.lt (x:cE P w H h a o):a < h.objs.size:=by
 cases o with
 | lst xs=>obtain ⟨_,_,_,_,e⟩:=x; exact bi0 e
 | tup xs=>obtain ⟨_,_,_,p,_⟩:=x; exact p.lt
 | dK kvs=>obtain ⟨_,_,_,_,o,_,_,e,_⟩:=x; exact bi0 e
 | dT kvs=>obtain ⟨_,_,_,_,o,_,_,e,_⟩:=x; exact bi0 e
 | set S n=>obtain ⟨o,_,_,_,e,_⟩:=x; exact bi0 e
 | ins C dx fs=>obtain ⟨_,_,_,e,_⟩:=x; exact bi0 e
 | own y=>obtain ⟨_,e⟩:=x; exact bi0 e
 | xd fs=>obtain ⟨_,⟨_,_,_,e,_⟩,_⟩:=x; exact bi0 e
 | rng lo hi=>obtain ⟨_,_,_,e⟩:=x; exact bi0 e
 | frz ob u=>obtain ⟨e,_⟩:=x; exact bi0 e
 | tbl ps=>exact bi0 (show h.get? a=some _ from x)
 | met f y=>exact bi0 (show h.get? a=some _ from x)
 | ext φ=>obtain ⟨_,⟨_,e⟩,_⟩:=x; exact bi0 e
theorem Paired.mapP {α β:Type}{F G:α->β->Prop}:∀ {l₁:List α}{l₂:List β},Paired F l₁ l₂->(∀ a b,F a b->G a b)->Paired G l₁ l₂
 | _,_,.nil,_=>.nil
 | _,_,.cons r t,f=>.cons (f _ _ r) (Paired.mapP t f)
theorem cE.stay (x:cE P w H h a o) (k:∀ b u,(b=a ∨ H b=some (.own a))->h.get? b=some u->h'.get? b=some u)
  (ho:∀ b,H b=some (.own a)->H' b=some (.own a)) (ht:∀ b xs,H b=some (.tup xs)->H' b=some (.tup xs)):cE P w H' h' a o:=by
 induction o with
 | lst xs=>obtain ⟨z,its,n,r,e⟩:=x; exact⟨z,its,n,r,k _ _ (.inl rfl) e⟩
 | tup xs=>obtain ⟨z,its,r,⟨ob,e,c⟩,nd⟩:=x; exact⟨z,its,r,⟨ob,k _ _ (.inl rfl) e,c⟩,nd.stay e (k _ _ (.inl rfl) e)⟩
 | dK kvs=>obtain ⟨z,y,vs,r,ob,es,ep,e,c⟩:=x; exact⟨z,y,vs,r,ob,es,ep,k _ _ (.inl rfl) e,c⟩
 | dT kvs=>
  obtain ⟨z,y,xs,r,ob,es,ep,e,c⟩:=x
  exact⟨z,y,xs,Paired.mapP r fun p q z=>⟨z.1,ht _ _ z.2.1,z.2.2⟩,ob,es,ep,k _ _ (.inl rfl) e,c⟩
 | set S n=>obtain ⟨ob,es,ep,t,e,c⟩:=x; exact⟨ob,es,ep,t,k _ _ (.inl rfl) e,c⟩
 | ins C dx fs=>
  obtain ⟨d,z,ne,e,mA,⟨od,es,ep,e2,c⟩,r⟩:=x
  exact⟨ho _ d,z,ne,k _ _ (.inl rfl) e,mA,⟨od,es,ep,k _ _ (.inr d) e2,c⟩,r⟩
 | own y=>obtain ⟨ob,e⟩:=x; exact⟨ob,k _ _ (.inl rfl) e⟩
 | xd fs=>obtain ⟨mA,⟨od,es,ep,e,c⟩,r⟩:=x; exact⟨mA,⟨od,es,ep,k _ _ (.inl rfl) e,c⟩,r⟩
 | rng lo hi=>obtain ⟨t,u,v,e⟩:=x; exact⟨t,u,v,k _ _ (.inl rfl) e⟩
 | frz ob u ih=>obtain ⟨e,q⟩:=x; exact⟨k _ _ (.inl rfl) e,ih q⟩
 | tbl ps=>
  have e:h.get? a=some { cls:=.none,data:=.fields ps }:=x
  show h'.get? a=some { cls:=.none,data:=.fields ps }
  exact k a _ (.inl rfl) e
 | met f y=>
  have e:h.get? a=some (PySem.W.methodObj (.ref f) (.ref y)):=x
  show h'.get? a=some (PySem.W.methodObj (.ref f) (.ref y))
  exact k a _ (.inl rfl) e
 | ext φ=>obtain ⟨p,⟨o,e⟩,st⟩:=x; exact⟨st _ _ p fun o q=>k _ _ (.inl rfl) q,⟨o,k _ _ (.inl rfl) e⟩,st⟩
theorem bY.lt (x:bY P w H h) (e:H a=some o):a < h.objs.size:=(x a o e).lt
theorem bY.fresh (x:bY P w H h) (e:h.objs.size<=a):H a=none:=by
 cases q:H a with
 | none=>rfl
 | some u=>exact absurd (bi2 (x.lt q) e) (bo5 _)
theorem bY.kept (x:bY P w H h) (k:∀ b u,h.get? b=some u->h'.get? b=some u):bY P w H h':=fun a o e=>
 (x a o e).stay (fun b u _ q=>k b u q) (fun _ q=>q) fun _ _ q=>q
theorem bY.laid (x:bY P w H h) (k:∀ b u,h.get? b=some u->h'.get? b=some u) (hp:h.objs.size<=a) (new:cE P w (upd H a o) h' a o):bY P w (upd H a o) h':=fun b u e=>by
 have hn:=x.fresh hp
 by_cases hb:b=a
 ·subst hb; rw [bL] at e; cases e; exact new
 ·rw [aY hb] at e
  exact (x b u e).stay (fun c v _ q=>k c v q) (fun c q=>by rw [aY (cI q hn)]; exact q) fun c xs q=>by rw [aY (cI q hn)]; exact q
end
noncomputable def Rd (H:Hp) (a:Addr) (u:HO):Prop:=H a=some u ∨ ∃ o,H a=some (.frz o u)
theorem Rd.ok {P:Program}{w:World}{H:Hp}{h:Heap}{a:Addr}{u:HO} (r:Rd H a u) (x:bY P w H h):cE P w H h a u:=by
 rcases r with r | ⟨o,r⟩
 ·exact x a u r
 ·obtain ⟨_,q⟩:=x a _ r
  exact q
noncomputable def nY:Option HO->Prop
 | some (.lst _)=>True
 | some (.dK _)=>True
 | some (.dT _)=>True
 | some (.set _ _)=>True
 | some (.ins _ _ _)=>True
 | some (.ext _)=>True
 | _=>False
section
variable {P : Program} {w : World} {H : Hp} {h h' : Heap} {x e : Addr} {o' : HO}
theorem bY.write (ok:bY P w H h) (mu:nY (H x)) (he:e=x ∨ H e=some (.own x)) (k:∀ b u,b ≠ e->h.get? b=some u->h'.get? b=some u) (heo:∃ u,h'.get? e=some u)
  (new:cE P w (upd H x o') h' x o'):bY P w (upd H x o') h':=fun b u q=>by
 have nown:∀ c y,H c=some (.own y)->c ≠ x:=fun c y r z=>by subst z; rw [r] at mu; exact mu
 have ntup:∀ c xs,H c=some (.tup xs)->c ≠ x:=fun c xs r z=>by subst z; rw [r] at mu; exact mu
 by_cases hb:b=x
 ·subst hb; rw [bL] at q; cases q; exact new
 ·rw [aY hb] at q
  by_cases hbe:b=e
  ·have q':H b=some (.own x):=by
    rcases he with z | z
    ·exact absurd (hbe.trans z) hb
    ·rw [hbe]; exact z
   rw [q] at q'; cases q'
   obtain ⟨v,hv⟩:=heo
   exact⟨v,by rw [hbe]; exact hv⟩
  ·refine (ok b u q).stay (fun c v hc r=>k c v ?_ r) (fun c r=>by rw [aY (nown c b r)]; exact r) fun c xs r=>by rw [aY (ntup c xs r)]; exact r
   rcases hc with rfl | hc
   ·exact hbe
   ·rintro rfl
    rcases he with z | z
    ·exact nown c b hc z
    ·rw [hc] at z; cases z; exact hb rfl
end
structure Un (fs ex:List Addr) (H H':Hp) (h h':Heap):Prop where
 keep:∀ b o,h.get? b=some o->H b=none->b ∉ fs->b ∉ ex->h'.get? b=some o
 slot:∀ b o,h.get? b=some o->H b=none->b ∈ fs->b ∉ ex->∃ sl,h'.get? b=some { o with slots:=sl }
 free:∀ b o,h.get? b=some o->H b=none->b ∉ ex->H' b=none
 there:∀ b o,h.get? b=some o->b ∉ ex->∃ o',h'.get? b=some o'
 tups:∀ b xs,H b=some (.tup xs)->H' b=some (.tup xs)
 frzs:∀ b o u,H b=some (.frz o u)->H' b=some (.frz o u)
 tbls:∀ b ps,H b=some (.tbl ps)->∃ more,H' b=some (.tbl (ps ++ more))
section
variable {fs fs' ex ex' : List Addr} {H H1 H2 : Hp} {h h1 h2 h' : Heap} {a x e : Addr} {o : HO}
theorem Un.any (u:Un fs ex H H1 h h1) {b:Addr}{ob:Obj} (q:h.get? b=some ob) (n:H b=none) (hx:b ∉ ex):∃ sl,h1.get? b=some { ob with slots:=sl }:=by
 by_cases hb:b ∈ fs
 ·exact u.slot b ob q n hb hx
 ·exact⟨ob.slots,u.keep b ob q n hb hx⟩
theorem Un.kept (k:∀ b u,h.get? b=some u->h'.get? b=some u):Un fs ex H H h h':=
 ⟨fun b ob q _ _ _=>k b ob q,fun b ob q _ _ _=>⟨ob.slots,k b ob q⟩,fun _ _ _ n _=>n,fun b ob q _=>⟨ob,k b ob q⟩,fun _ _ q=>q,fun _ _ _ q=>q,fun _ ps q=>⟨#[],by rw [q]; simp⟩⟩
theorem Un.refl:Un fs ex H H h h:=Un.kept fun _ _ q=>q
theorem Un.laid (k:∀ b u,h.get? b=some u->h'.get? b=some u) (hp:h.objs.size<=a) (hn:H a=none):Un fs ex H (upd H a o) h h' where
 keep:=fun b u q _ _ _=>k b u q
 slot:=fun b u q _ _ _=>⟨u.slots,k b u q⟩
 free:=fun b u q n _=>by rw [aY (bk6 (bi2 (bi0 q) hp))]; exact n
 there:=fun b u q _=>⟨u,k b u q⟩
 tups:=fun b xs q=>by rw [aY (cI q hn)]; exact q
 frzs:=fun b u xs q=>by rw [aY (cI q hn)]; exact q
 tbls:=fun b ps q=>⟨#[],by rw [aY (cI q hn),q]; simp⟩
theorem Un.write (mu:nY (H x)) (he:e=x ∨ H e=some (.own x)) (k:∀ b u,b ≠ e->h.get? b=some u->h'.get? b=some u) (heo:∃ u,h'.get? e=some u):Un fs ex H (upd H x o) h h':=by
 have hx:∀ b,H b=none->b ≠ x:=fun b n z=>by subst z; rw [n] at mu; exact mu
 have hb:∀ b,H b=none->b ≠ e:=fun b n z=>by
  subst z
  rcases he with r | r
  ·exact hx b n r
  ·rw [n] at r; cases r
 have hm:∀ b u,H b=some u->¬ nY (some u)->b ≠ x:=fun b u q nm z=>by subst z; rw [q] at mu; exact nm mu
 refine⟨fun b u q n _ _=>k b u (hb b n) q,fun b u q n _ _=>⟨u.slots,k b u (hb b n) q⟩,fun b u q n _=>by rw [aY (hx b n)]; exact n,fun b u q _=>?_,
  fun b xs q=>by rw [aY (hm b _ q fun z=>z)]; exact q,fun b u xs q=>by rw [aY (hm b _ q fun z=>z)]; exact q,fun b ps q=>⟨#[],by rw [aY (hm b _ q fun z=>z),q]; simp⟩⟩
 by_cases hbe:b=e
 ·subst hbe; exact heo
 ·exact⟨u,k b u hbe q⟩
end
noncomputable def qD (h:Heap) (H:Hp):List Addr:=(List.range h.objs.size).filter fun a=>(H a).isSome
noncomputable def jK (h:Heap) (H:Hp):Heap:=PySem.W.hideAll h (qD h H)
theorem al7 (h:Heap) (H:Hp):(jK h H).objs.size=h.objs.size:=PySem.W.hideAll_size _ _
theorem al8 {h:Heap}{H:Hp}{b:Addr}{o:Obj} (e:h.get? b=some o) (n:H b=none):(jK h H).get? b=some o:=
 PySem.W.hideAll_get _ e fun hm=>by
  have q:(H b).isSome=true:=(bh8.mp hm).2
  rw [n] at q; simp at q
theorem al9 {h:Heap}{H:Hp}{b:Addr}{o:Obj} (e:(jK h H).get? b=some o):h.get? b=some o/\H b=none:=by
 have e':h.get? b=some o:=PySem.W.of_hideAll (qD h H) e
 refine⟨e',?_⟩
 cases q:H b with
 | none=>rfl
 | some x=>
  have hm:b ∈ qD h H:=bh8.mpr ⟨List.mem_range.mpr (bi0 e'),by simp [q]⟩
  have z:(jK h H).get? b=none:=PySem.W.hideAll_none (qD h H) hm
  rw [z] at e; cases e
noncomputable def am0 (g h:Heap) (L:Addr):List (Addr × Obj):=(List.range h.objs.size).filterMap fun a=>if a=L ∨ (g.get? a).isSome=true then none else (h.get? a).map fun o=>(a,o)
noncomputable def dE (g h:Heap) (L d:Addr):List (Addr × Obj):=(am0 g h L).filter fun p=>decide (p.1 ≠ d)
structure Mod (K:PySem.W.Frag) (mg:Str->Option Value) (base:Heap):Prop where
 kin:K.In base
 glob:base.Ns mainGlobals mg
 blt:∃ mb,base.Ns builtinsNs mb/\∀ x:Str,x ≠ "__name__"->mb x=bootBuiltins x
 nolimit:base.NoLimit
structure Cx where
 prog:Program
 w:World
 K:PySem.W.Frag
 mg:Str->Option Value
 base:Heap
 A:Around
 N:List Str
 s₀:Shared
 H₀:Hp
 env:Env
 outer:List Env
 stack:List Env
 ex:List Addr
 fn:Str->Bool
 calm:Bool
 pn:List (Addr × Obj)
 xe:Value->Shared->Prop
noncomputable def c8 (l:List Env):List Addr:=l.filterMap (·.frame)
noncomputable abbrev Cx.fs (X:Cx):List Addr:=c8 X.outer
noncomputable def gI (sc:Scope) (x:Str):Prop:=sc.names.lookup x=some .local ∨ sc.names.lookup x=some .cell ∨ sc.names.lookup x=some .free
noncomputable def j7 (sc:Scope) (x:Str):Prop:=sc.names.lookup x=some .local ∨ sc.names.lookup x=some .cell
noncomputable def am1 (env:Env) (h:Heap) (m:Str->Option Value) (x:Str) (u:Value):Prop:=
 (env.kindOf x=some .local/\m x=some u) ∨ ((env.kindOf x=some .cell ∨ env.kindOf x=some .free)/\∃ c,env.cells.lookup x=some c/\h.IsCell c (some u))
structure Cx.Ok (X:Cx):Prop where
 mod:Mod X.K X.mg X.base
 kind:X.env.scope.kind = .function
 glob:X.env.globals=mainGlobals
 blt:X.env.builtins=builtinsNs
 above:X.s₀.heap.objs.size<=X.env.locals
 inj:∀ x y c,X.env.cells.lookup x=some c->X.env.cells.lookup y=some c->x=y
 has:∀ x,(X.env.kindOf x=some .cell ∨ X.env.kindOf x=some .free)->∃ c,X.env.cells.lookup x=some c
 cab:∀ x c,X.fn x=true->X.env.cells.lookup x=some c->X.s₀.heap.objs.size<=c
 hd:X.calm=true->X.A.handled=none
 frames:X.A.frames=some X.stack
 stk:X.stack=X.outer ∨ (X.stack=X.env :: X.outer/\X.env.frame=some X.env.locals)
 exf:∀ b ∈ X.ex,b ≠ X.env.locals/\∀ x c,X.env.cells.lookup x=some c->c ≠ b
 bs:∀ b o,X.base.get? b=some o->X.s₀.heap.get? b=some o/\X.H₀ b=none
 bsz:X.base.objs.size<=X.s₀.heap.objs.size
 noex:∀ b o,X.base.get? b=some o->b ∉ X.ex
 exfs:∀ b ∈ X.ex,b ∉ X.fs
 funs:X.s₀.heap.FunFrames X.base X.outer
 frf:∀ b ∈ X.fs,X.H₀ b=none
structure a6 (X:Cx) (pins:List (Addr × Obj)) (σ:List (Option V)) (H:Hp) (s:Shared):Prop where
 ok:X.Ok
 os:s.os=X.s₀.os
 bare:AllBare s.gens
 base:Un X.fs X.ex X.H₀ H X.s₀.heap s.heap
 loc:∃ m,s.heap.Ns X.env.locals m/\∀ (i:Nat) (x:Str) (v:V),X.N[i]? = some x->σ[i]? = some (some v)->gI X.env.scope x->∃ u,aV v u/\am1 X.env s.heap m x u
 cell:∀ x c,X.env.cells.lookup x=some c->∃ v,s.heap.IsCell c v
 free:H X.env.locals=none
 freeC:∀ x c,X.env.cells.lookup x=some c->H c=none
 pin:∀ p ∈ X.pn ++ pins,s.heap.get? p.1=some p.2/\H p.1=none/\p.1 ≠ X.env.locals/\p.1 ∉ X.fs/\∀ v,p.2.data ≠ .cell v
 hok:bY X.prog X.w H s.heap
 len:σ.length=X.N.length
section
variable {X : Cx} {pins : List (Addr × Obj)} {σ : List (Option V)} {H H' : Hp} {s : Shared} {h' : Heap}
theorem Cx.Ok.nofr (ok:X.Ok) {b:Addr}{o:Obj} (e:X.base.get? b=some o):b ∉ X.fs:=fun hb=>by
 have:=(ok.funs.mem hb).1
 rw [e] at this; cases this
theorem a6.bs (I:a6 X pins σ H s):∀ b o,X.base.get? b=some o->s.heap.get? b=some o/\H b=none:=fun b o e=>
 ⟨I.base.keep b o (I.ok.bs b o e).1 (I.ok.bs b o e).2 (I.ok.nofr e) (I.ok.noex b o e),I.base.free b o (I.ok.bs b o e).1 (I.ok.bs b o e).2 (I.ok.noex b o e)⟩
theorem a6.bk (I:a6 X pins σ H s):∀ b o,X.base.get? b=some o->s.heap.get? b=some o:=fun b o e=>(I.bs b o e).1
theorem a6.mod (I:a6 X pins σ H s):Mod X.K X.mg X.base:=I.ok.mod
theorem a6.kIn (I:a6 X pins σ H s):X.K.In s.heap:=I.ok.mod.kin.keeps I.bk
theorem a6.fr (I:a6 X pins σ H s):∃ m,Fr X.base X.env.locals s.heap m:=
 let ⟨m,hn,_⟩:=I.loc
 ⟨m,hn,I.bk,bl1 I.ok.bsz I.ok.above⟩
theorem a6.lt (I:a6 X pins σ H s):X.env.locals < s.heap.objs.size:=let ⟨_,hn,_⟩:=I.loc; hn.lt
theorem a6.sz (I:a6 X pins σ H s):X.s₀.heap.objs.size<=s.heap.objs.size:=bl1 I.ok.above (bn7 I.lt)
theorem a6.nofs (I:a6 X pins σ H s) {a:Addr} (h:s.heap.objs.size<=a):a ∉ X.fs:=fun hb=>by
 obtain ⟨_,o,ho,_⟩:=I.ok.funs.mem hb
 exact absurd (bi2 (bi0 ho) (bl1 I.sz h)) (bo5 _)
theorem a6.cne (I:a6 X pins σ H s):∀ x c,X.env.cells.lookup x=some c->c ≠ X.env.locals:=fun x c e z=>by
 obtain ⟨v,o,ho,hd⟩:=I.cell x c e
 obtain ⟨m,⟨o',es,ep,ho',hd',_⟩,_⟩:=I.loc
 rw [z,ho'] at ho; cases ho; rw [hd'] at hd; cases hd
theorem a6.funs (I:a6 X pins σ H s):s.heap.FunFrames X.base X.outer:=by
 have all:∀ (l:List Env),(∀ b ∈ c8 l,b ∈ X.fs)->X.s₀.heap.FunFrames X.base l->s.heap.FunFrames X.base l:=by
  intro l
  induction l with
  | nil=>intro _ _; trivial
  | cons env r ih=>
   intro hs hl
   obtain ⟨hk,⟨L,o,hf,hn,ho,hd⟩,hr⟩:=hl
   have hL:L ∈ X.fs:=hs L (by unfold c8; rw [List.filterMap_cons,hf]; exact bg7)
   obtain ⟨sl,e⟩:=I.base.slot L o ho (I.ok.frf L hL) hL fun z=>I.ok.exfs L z hL
   exact⟨hk,⟨L,_,hf,hn,e,hd⟩,ih (fun b hb=>hs b (by unfold c8; rw [List.filterMap_cons,hf]; exact bg6 _ hb)) hr⟩
 exact all X.outer (fun _ hb=>hb) I.ok.funs
theorem a6.stack (I:a6 X pins σ H s):s.heap.FunFrames X.base X.stack:=by
 rcases I.ok.stk with e | ⟨e,hf⟩
 ·rw [e]; exact I.funs
 ·rw [e]
  obtain ⟨m,hn,_⟩:=I.loc
  refine .cons (by rw [I.ok.kind]; decide) hf hn ?_ I.funs
  exact Heap.get?_none_of_le (bl1 I.ok.bsz I.ok.above)
theorem a6.stkSub (I:a6 X pins σ H s):∀ b ∈ c8 X.stack,b ∈ X.env.locals :: X.fs:=fun b hb=>by
 rcases I.ok.stk with e | ⟨e,hf⟩
 ·rw [e] at hb; exact bg6 _ hb
 ·rw [e] at hb
  unfold c8 at hb
  rw [List.filterMap_cons,hf] at hb
  exact hb
theorem a6.stkFree (I:a6 X pins σ H s):∀ b ∈ c8 X.stack,H b=none:=fun b hb=>by
 rcases bg8.mp (I.stkSub b hb) with e | hb
 ·rw [e]; exact I.free
 ·obtain ⟨_,o,ho,_⟩:=I.ok.funs.mem hb
  exact I.base.free b o ho (I.ok.frf b hb) fun z=>I.ok.exfs b z hb
theorem a6.step {g':Array GenState}{t':Nat}{d':Drawn}{ch:List Addr} (I:a6 X pins σ H s)
  (hch:∀ b ∈ ch,(b ∈ X.ex ∨ X.s₀.heap.objs.size<=b)/\b ≠ X.env.locals/\(∀ x c,X.env.cells.lookup x=some c->c ≠ b)/\∀ p ∈ X.pn ++ pins,p.1 ≠ b)
  (keep:∀ b o,b ≠ X.env.locals->b ∉ X.fs->b ∉ ch->s.heap.get? b=some o->H b=none->h'.get? b=some o)
  (slot:∀ b o,b ≠ X.env.locals->b ∈ X.fs->b ∉ ch->s.heap.get? b=some o->H b=none->∃ sl,h'.get? b=some { o with slots:=sl }) (free:∀ b o,b ∉ ch->s.heap.get? b=some o->H b=none->H' b=none)
  (there:∀ b o,b ∉ ch->s.heap.get? b=some o->∃ o',h'.get? b=some o')
  (tups:∀ b xs,H b=some (.tup xs)->H' b=some (.tup xs)) (frzs:∀ b o u,H b=some (.frz o u)->H' b=some (.frz o u)) (tbls:∀ b ps,H b=some (.tbl ps)->∃ more,H' b=some (.tbl (ps ++ more)))
  (ns:∀ m,s.heap.Ns X.env.locals m->h'.Ns X.env.locals m) (hok:bY X.prog X.w H' h') (hg:AllBare g') :
  a6 X pins σ H' { s with heap:=h',gens:=g',drawn:=d',toks:=t' }:=by
 have neL:∀ b o,X.s₀.heap.get? b=some o->b ≠ X.env.locals:=fun b o e=>bk6 (bi2 (bi0 e) I.ok.above)
 have neC:∀ b o,X.s₀.heap.get? b=some o->b ∉ X.ex->b ∉ ch:=fun b o e hx hb=>by
  rcases (hch b hb).1 with z | z
  ·exact hx z
  ·exact absurd (bi2 (bi0 e) z) (bo5 _)
 have cellK:∀ x c,X.env.cells.lookup x=some c->∀ v,s.heap.IsCell c v->h'.IsCell c v:=fun x c e v ⟨o,ho,hd⟩=>by
  have nch:c ∉ ch:=fun z=>(hch c z).2.2.1 x c e rfl
  by_cases hc:c ∈ X.fs
  ·obtain ⟨sl,q⟩:=slot c o (I.cne x c e) hc nch ho (I.freeC x c e)
   exact⟨_,q,hd⟩
  ·exact⟨o,keep c o (I.cne x c e) hc nch ho (I.freeC x c e),hd⟩
 refine⟨I.ok,I.os,hg,⟨fun b o e n hb hx=>?_,fun b o e n hb hx=>?_,fun b o e n hx=>?_,fun b o e hx=>?_,fun b xs e=>tups b xs (I.base.tups b xs e),fun b o xs e=>frzs b o xs (I.base.frzs b o xs e),fun b ps e=>?_⟩,?_,fun x c e=>?_,?_,fun x c e=>?_,fun p hp=>?_,hok,I.len⟩
 ·exact keep b o (neL b o e) hb (neC b o e hx) (I.base.keep b o e n hb hx) (I.base.free b o e n hx)
 ·obtain ⟨sl,e1⟩:=I.base.slot b o e n hb hx
  obtain ⟨sl',e2⟩:=slot b _ (neL b o e) hb (neC b o e hx) e1 (I.base.free b o e n hx)
  exact⟨sl',e2⟩
 ·obtain ⟨o',e1⟩:=I.base.there b o e hx
  exact free b o' (neC b o e hx) e1 (I.base.free b o e n hx)
 ·obtain ⟨o',e1⟩:=I.base.there b o e hx
  exact there b o' (neC b o e hx) e1
 ·obtain ⟨m1,e1⟩:=I.base.tbls b ps e
  obtain ⟨m2,e2⟩:=tbls b _ e1
  exact⟨m1 ++ m2,by rw [e2,Array.append_assoc]⟩
 ·obtain ⟨m,hn,hl⟩:=I.loc
  refine⟨m,ns m hn,fun i x v e1 e2 e3=>?_⟩
  obtain ⟨u,r,l⟩:=hl i x v e1 e2 e3
  refine⟨u,r,?_⟩
  rcases l with l | ⟨k,c,e,z⟩
  ·exact .inl l
  ·exact .inr ⟨k,c,e,cellK x c e _ z⟩
 ·obtain ⟨v,z⟩:=I.cell x c e
  exact⟨v,cellK x c e v z⟩
 ·obtain ⟨m,⟨o,_,_,ho,_⟩,_⟩:=I.loc
  exact free _ o (fun z=>(hch _ z).2.1 rfl) ho I.free
 ·obtain ⟨v,o,ho,hd⟩:=I.cell x c e
  exact free c o (fun z=>(hch c z).2.2.1 x c e rfl) ho (I.freeC x c e)
 ·obtain ⟨e,n,ne,nf,d⟩:=I.pin p hp
  have nch:p.1 ∉ ch:=fun z=>(hch p.1 z).2.2.2 p hp rfl
  exact⟨keep p.1 p.2 ne nf nch e n,free p.1 p.2 nch e n,ne,nf,d⟩
theorem a6.un {t':Nat} (I:a6 X pins σ H s) (u:Un X.fs [] H H' s.heap h') (hok:bY X.prog X.w H' h'):a6 X pins σ H' { s with heap:=h',toks:=t' }:=by
 obtain ⟨m,⟨o,es,ep,ho,r⟩,_⟩:=id I.loc
 obtain ⟨sl,hL⟩:=u.any ho I.free (by simp)
 exact I.step (g':=s.gens) (d':=s.drawn) (ch:=[]) (fun _ z=>nomatch z) (fun b o _ hb _ e n=>u.keep b o e n hb (by simp)) (fun b o _ hb _ e n=>u.slot b o e n hb (by simp)) (fun b o _ e n=>u.free b o e n (by simp)) (fun b o _ e=>u.there b o e (by simp)) u.tups u.frzs u.tbls (fun m' hm=>by
  obtain ⟨o',es',ep',ho',r'⟩:=hm
  rw [ho] at ho'; cases ho'
  exact⟨_,es',ep',hL,r'⟩) hok I.bare
theorem a6.call {g':Array GenState}{t':Nat}{d':Drawn}{ch:List Addr} (I:a6 X pins σ H s) (u:Un (c8 X.stack) ch H H' s.heap h') (hok:bY X.prog X.w H' h') (hg:AllBare g')
  (hch:∀ b ∈ ch,(b ∈ X.ex ∨ X.s₀.heap.objs.size<=b)/\b ≠ X.env.locals/\(∀ x c,X.env.cells.lookup x=some c->c ≠ b)/\∀ p ∈ X.pn ++ pins,p.1 ≠ b) :
  a6 X pins σ H' { s with heap:=h',gens:=g',drawn:=d',toks:=t' }:=by
 obtain ⟨m,⟨o,es,ep,ho,r⟩,_⟩:=id I.loc
 obtain ⟨sl,hL⟩:=u.any ho I.free fun z=>(hch _ z).2.1 rfl
 exact I.step (ch:=ch) hch (fun b o hL hb hc e n=>u.keep b o e n (fun z=>(bg8.mp (I.stkSub b z)).elim hL hb) hc) (fun b o _ _ hc e n=>u.any e n hc) (fun b o hc e n=>u.free b o e n hc) (fun b o hc e=>u.there b o e hc) u.tups u.frzs u.tbls (fun m' hm=>by
  obtain ⟨o',es',ep',ho',r'⟩:=hm
  rw [ho] at ho'; cases ho'
  exact⟨_,es',ep',hL,r'⟩) hok hg
theorem a6.turned {t':Nat}{it:Addr} (I:a6 X pins σ H s) (k:∀ b o,b ≠ it->s.heap.get? b=some o->h'.get? b=some o) (hn:H it=none) (hL:it ≠ X.env.locals)
  (h1:it ∈ X.ex ∨ X.s₀.heap.objs.size<=it) (h2:∀ x c,X.env.cells.lookup x=some c->c ≠ it) (h3:∀ p ∈ X.pn ++ pins,p.1 ≠ it):a6 X pins σ H { s with heap:=h',toks:=t' }:=by
 have nit:∀ b u,H b=some u->b ≠ it:=fun b u e z=>by rw [z,hn] at e; cases e
 refine I.step (g':=s.gens) (d':=s.drawn) (ch:=[it]) (fun b hb=>?_) (fun b o _ _ hc e _=>k b o (fun z=>hc (by simp [z])) e) (fun b o _ _ hc e _=>⟨o.slots,k b o (fun z=>hc (by simp [z])) e⟩) (fun _ _ _ _ n=>n)
  (fun b o hc e=>⟨o,k b o (fun z=>hc (by simp [z])) e⟩) (fun _ _ e=>e) (fun _ _ _ e=>e) (fun b ps e=>⟨#[],by rw [e]; simp⟩) (fun m hm=>?_) (fun b u e=>?_) I.bare
 ·have e:b=it:=by simpa using hb
  subst e
  exact⟨h1,hL,h2,h3⟩
 ·obtain ⟨o,es,ep,ho,r⟩:=hm
  exact⟨o,es,ep,k _ o (Ne.symm hL) ho,r⟩
 ·refine (I.hok b u e).stay (fun c v hc q=>k c v ?_ q) (fun _ q=>q) fun _ _ q=>q
  rcases hc with z | z
  ·rw [z]; exact nit b u e
  ·exact nit c _ z
theorem a6.tok (I:a6 X pins σ H s) (t:Nat):a6 X pins σ H { s with toks:=t }:=I.un (h':=s.heap) (t':=t) Un.refl I.hok
theorem a6.kept {t':Nat} (I:a6 X pins σ H s) (k:∀ b u,s.heap.get? b=some u->h'.get? b=some u):a6 X pins σ H { s with heap:=h',toks:=t' }:=I.un (Un.kept k) (I.hok.kept k)
theorem a6.laid {a:Addr}{o:HO}{t':Nat} (I:a6 X pins σ H s) (k:∀ b u,s.heap.get? b=some u->h'.get? b=some u) (hp:s.heap.objs.size<=a) (new:cE X.prog X.w (upd H a o) h' a o) :
  a6 X pins σ (upd H a o) { s with heap:=h',toks:=t' }:=I.un (Un.laid k hp (I.hok.fresh hp)) (I.hok.laid k hp new)
theorem a6.write {x e:Addr}{o:HO}{t':Nat} (I:a6 X pins σ H s) (mu:nY (H x)) (he:e=x ∨ H e=some (.own x)) (k:∀ b u,b ≠ e->s.heap.get? b=some u->h'.get? b=some u) (heo:∃ u,h'.get? e=some u)
  (new:cE X.prog X.w (upd H x o) h' x o):a6 X pins σ (upd H x o) { s with heap:=h',toks:=t' }:=I.un (Un.write mu he k heo) (I.hok.write mu he k heo new)
theorem a6.weak {σ':List (Option V)} (I:a6 X pins σ H s) (hl:σ'.length=σ.length) (w:∀ (i:Nat) v,σ'[i]? = some (some v)->σ[i]? = some (some v)):a6 X pins σ' H s:=
 ⟨I.ok,I.os,I.bare,I.base,let ⟨m,hn,hl'⟩:=I.loc; ⟨m,hn,fun i x v e1 e2 e3=>hl' i x v e1 (w i v e2) e3⟩,I.cell,I.free,I.freeC,I.pin,I.hok,hl.trans I.len⟩
theorem a6.pins_of {pins':List (Addr × Obj)} (I:a6 X pins σ H s) (h:∀ p ∈ pins',s.heap.get? p.1=some p.2/\H p.1=none/\p.1 ≠ X.env.locals/\p.1 ∉ X.fs/\∀ v,p.2.data ≠ .cell v):a6 X pins' σ H s:=
 ⟨I.ok,I.os,I.bare,I.base,I.loc,I.cell,I.free,I.freeC,fun p hp=>(bh4.mp hp).elim (fun z=>I.pin p (bk3 _ z)) (h p),I.hok,I.len⟩
theorem zO {N:List Str} (hN:N.Nodup) {i j:Nat}{x:Str} (a:N[i]? = some x) (b:N[j]? = some x):i=j:=by
 obtain ⟨h1,e1⟩:=bh2.mp a
 obtain ⟨h2,e2⟩:=bh2.mp b
 exact (List.getElem_inj hN).mp (e1.trans e2.symm)
theorem u9 {M:Model}{A:Around}{E:Value->Shared->Prop}{i:Nat}{x:Str}{v:V}{u:Value}{Q:Unit->Shared->Prop} (I:a6 X pins σ H s) (hN:X.N.Nodup) (hi:X.N[i]? = some x) (hx:j7 X.env.scope x) (r:aV v u)
  (h:∀ s',a6 X pins (σ.set i (some v)) H s'->(∃ a,Heap.SameBut a s.heap s'.heap/\(a=X.env.locals ∨ X.env.cells.lookup x=some a))->Q () s') (hf:X.fn x=true ∨ X.env.scope.names.lookup x=some .local:=by first | exact .inl rfl | exact .inr rfl | assumption):wpAny M A (storeName X.env x u) Q E s:=by
 obtain ⟨m,hn,hl⟩:=id I.loc
 have hcls:(X.env.scope.kind == .class || (X.env.scope.kind == .module && X.env.locals != X.env.globals))=false:=by rw [I.ok.kind]; rfl
 have hiσ:i < σ.length:=by rw [I.len]; exact (bh2.mp hi).1
 have cne:=I.cne
 have tracked:∀ {a:Addr}{h':Heap},(∃ o,s.heap.get? a=some o/\H a=none)->Heap.SameBut a s.heap h'->bY X.prog X.w H h':=fun {a h'} ha hs b ob e=>by
  obtain ⟨_,_,hfree⟩:=ha
  refine (I.hok b ob e).stay (fun c w' hc q=>(hs.2 c ?_).trans q) (fun _ q=>q) fun _ _ q=>q
  rintro rfl
  rcases hc with rfl | hc
  ·rw [hfree] at e; cases e
  ·rw [hfree] at hc; cases hc
 rcases hx with hk | hk
 ·refine wpAny_storeName_local hk hn (fun h' hn' hs=>?_) hcls
  obtain ⟨oL,_,_,hoL,_⟩:=id hn
  refine h _ ⟨I.ok,I.os,I.bare,⟨fun b o e n hb hx=>?_,fun b o e n hb hx=>?_,I.base.free,fun b o e hx=>?_,I.base.tups,I.base.frzs,I.base.tbls⟩,⟨_,hn',fun j y v' e1 e2 e3=>?_⟩,fun y c e=>?_,I.free,I.freeC,fun p hp=>?_,tracked ⟨oL,hoL,I.free⟩ hs,by simpa using I.len⟩ ⟨_,hs,.inl rfl⟩
  ·exact (hs.2 b (bk6 (bi2 (bi0 e) I.ok.above))).trans (I.base.keep b o e n hb hx)
  ·obtain ⟨sl,e1⟩:=I.base.slot b o e n hb hx
   exact⟨sl,(hs.2 b (bk6 (bi2 (bi0 e) I.ok.above))).trans e1⟩
  ·obtain ⟨o',e1⟩:=I.base.there b o e hx
   exact⟨o',(hs.2 b (bk6 (bi2 (bi0 e) I.ok.above))).trans e1⟩
  ·by_cases hj:j=i
   ·subst hj
    rw [hi] at e1; cases e1
    rw [bp5 hiσ] at e2
    cases e2
    exact⟨u,r,.inl ⟨hk,by simp⟩⟩
   ·rw [bk8 (Ne.symm hj)] at e2
    obtain ⟨u',r',q⟩:=hl j y v' e1 e2 e3
    refine⟨u',r',?_⟩
    rcases q with ⟨k,e⟩ | ⟨k,c,e,z⟩
    ·refine .inl ⟨k,?_⟩
     have:y ≠ x:=fun e=>hj (zO hN e1 (e ▸ hi))
     simp [this,e]
    ·exact .inr ⟨k,c,e,z.sameBut hs (cne y c e)⟩
  ·obtain ⟨w',z⟩:=I.cell y c e
   exact⟨w',z.sameBut hs (cne y c e)⟩
  ·obtain ⟨e,n,ne,nf,d⟩:=I.pin p hp
   exact⟨(hs.2 p.1 ne).trans e,n,ne,nf,d⟩
 ·have hfn:X.fn x=true:=by
   rcases hf with z | z
   ·exact z
   ·rw [z] at hk; cases hk
  obtain ⟨c,hc⟩:=I.ok.has x (.inl hk)
  obtain ⟨w',z⟩:=I.cell x c hc
  refine wpAny_storeName_cell I.ok.kind hk hc z (fun h' hc' hs=>?_)
  obtain ⟨oc,hoc,hocd⟩:=id z
  refine h { s with heap:=h' } ⟨I.ok,I.os,I.bare,⟨fun b o e n hb hx=>?_,fun b o e n hb hx=>?_,I.base.free,fun b o e hx=>?_,I.base.tups,I.base.frzs,I.base.tbls⟩,⟨m,hn.sameBut hs (Ne.symm (cne x c hc)),fun j y v' e1 e2 e3=>?_⟩,fun y c' e=>?_,I.free,I.freeC,fun p hp=>?_,tracked ⟨oc,hoc,I.freeC x c hc⟩ hs,by simpa using I.len⟩ ⟨c,hs,.inr hc⟩
  ·exact (hs.2 b (bk6 (bi2 (bi0 e) (I.ok.cab x c hfn hc)))).trans (I.base.keep b o e n hb hx)
  ·obtain ⟨sl,e1⟩:=I.base.slot b o e n hb hx
   exact⟨sl,(hs.2 b (bk6 (bi2 (bi0 e) (I.ok.cab x c hfn hc)))).trans e1⟩
  ·obtain ⟨o',e1⟩:=I.base.there b o e hx
   exact⟨o',(hs.2 b (bk6 (bi2 (bi0 e) (I.ok.cab x c hfn hc)))).trans e1⟩
  ·by_cases hj:j=i
   ·subst hj
    rw [hi] at e1; cases e1
    rw [bp5 hiσ] at e2
    cases e2
    exact⟨u,r,.inr ⟨.inl hk,c,hc,hc'⟩⟩
   ·rw [bk8 (Ne.symm hj)] at e2
    obtain ⟨u',r',q⟩:=hl j y v' e1 e2 e3
    refine⟨u',r',?_⟩
    rcases q with q | ⟨k,c',e,z'⟩
    ·exact .inl q
    ·refine .inr ⟨k,c',e,z'.sameBut hs ?_⟩
     rintro rfl
     exact hj (zO hN e1 (I.ok.inj _ _ _ e hc ▸ hi))
  ·by_cases hcc:c'=c
   ·subst hcc; exact⟨_,hc'⟩
   ·obtain ⟨w2,z2⟩:=I.cell y c' e
    exact⟨w2,z2.sameBut hs hcc⟩
  ·obtain ⟨e,n,ne,nf,d⟩:=I.pin p hp
   refine⟨(hs.2 p.1 ?_).trans e,n,ne,nf,d⟩
   intro q
   rw [q,hoc] at e
   have q':oc=p.2:=bj0 e
   exact d w' (by rw [<- q']; exact hocd)
theorem zP {M:Model}{A:Around}{E:Value->Shared->Prop}{i:Nat}{x:Str}{v:V}{u:Value}{Q:Unit->Shared->Prop} (I:a6 X pins σ H s) (hN:X.N.Nodup) (hi:X.N[i]? = some x) (hx:j7 X.env.scope x) (r:aV v u)
  (h:∀ s',a6 X pins (σ.set i (some v)) H s'->Q () s') (hf:X.fn x=true ∨ X.env.scope.names.lookup x=some .local:=by first | exact .inl rfl | exact .inr rfl | assumption):wpAny M A (storeName X.env x u) Q E s:=
 u9 I hN hi hx r (fun s' I' _=>h s' I') hf
theorem a6.call' {s':Shared}{ch:List Addr} (I:a6 X pins σ H s) (ho:s'.os=s.os) (u:Un (c8 X.stack) ch H H' s.heap s'.heap) (hok:bY X.prog X.w H' s'.heap) (hg:AllBare s'.gens)
  (hch:∀ b ∈ ch,(b ∈ X.ex ∨ X.s₀.heap.objs.size<=b)/\b ≠ X.env.locals/\(∀ x c,X.env.cells.lookup x=some c->c ≠ b)/\∀ p ∈ X.pn ++ pins,p.1 ≠ b):a6 X pins σ H' s':=by
 obtain ⟨h',g',d',t',o'⟩:=s'
 have e:o'=s.os:=ho
 subst e
 exact I.call (g':=g') (t':=t') (d':=d') u hok hg hch
end
noncomputable abbrev XK:=Value->Option Addr->Hp->Prop
noncomputable abbrev St:=List (Option V)
noncomputable abbrev VK:=V->Hp->Prop
noncomputable abbrev TE:=St->Hp->VK->Prop
noncomputable abbrev TT:=St->Hp->(Bool->Hp->Prop)->Prop
noncomputable abbrev TA:=St->Hp->(List V->Hp->Prop)->Prop
structure cY where
 nx:St->Hp->Prop
 rt:VK
 bk:St->Hp->Prop:=fun _ _=>False
 ct:St->Hp->Prop:=fun _ _=>False
noncomputable abbrev TS:=cY->St->Hp->Prop
noncomputable def EP (X:Cx) (pins:List (Addr × Obj)) (σ:St) (Q:VK) (u:Value) (s':Shared):Prop:=∃ v H',a6 X pins σ H' s'/\aV v u/\Q v H'
noncomputable def TP (X:Cx) (pins:List (Addr × Obj)) (σ:St) (Q:Bool->Hp->Prop) (b:Bool) (s':Shared):Prop:=∃ H',a6 X pins σ H' s'/\Q b H'
noncomputable def AP (X:Cx) (pins:List (Addr × Obj)) (σ:St) (Q:List V->Hp->Prop) (us:List Value) (s':Shared):Prop:=∃ vs H',a6 X pins σ H' s'/\aM vs us/\Q vs H'
noncomputable def SP (X:Cx) (pins:List (Addr × Obj)) (D:cY) (f:Flow) (s':Shared):Prop:=
 match f with
 | .next=>∃ σ' H',a6 X pins σ' H' s'/\D.nx σ' H'
 | .brk=>∃ σ' H',a6 X pins σ' H' s'/\D.bk σ' H'
 | .cont=>∃ σ' H',a6 X pins σ' H' s'/\D.ct σ' H'
 | .ret u=>∃ v σ' H',a6 X pins σ' H' s'/\aV v u/\D.rt v H'
noncomputable def PE (X:Cx) (e:Expr) (t:TE):Prop:=
 ∀ (pins:List (Addr × Obj)) (s:Shared) (σ:St) (H:Hp) (Q:VK),a6 X pins σ H s->t σ H Q->wpAny (model X.prog X.w) X.A (eval e X.env) (EP X pins σ Q) X.xe s
noncomputable def PT (X:Cx) (e:Expr) (t:TT):Prop:=
 ∀ (pins:List (Addr × Obj)) (s:Shared) (σ:St) (H:Hp) (Q:Bool->Hp->Prop),a6 X pins σ H s->t σ H Q->wpAny (model X.prog X.w) X.A (isTrue e X.env (eval e X.env)) (TP X pins σ Q) X.xe s
noncomputable def PW (X:Cx) (e:Expr) (t:TT):Prop:=
 ∀ (whole:Sem Value) (pins:List (Addr × Obj)) (s:Shared) (σ:St) (H:Hp) (Q:Bool->Hp->Prop),a6 X pins σ H s->t σ H Q->wpAny (model X.prog X.w) X.A (isTrue e X.env whole) (TP X pins σ Q) X.xe s
theorem PW.pt {X:Cx}{e:Expr}{t:TT} (h:PW X e t):PT X e t:=h _
noncomputable def PA (X:Cx) (es:List Expr) (t:TA):Prop:=
 ∀ (pos:Pos) (pins:List (Addr × Obj)) (s:Shared) (σ:St) (H:Hp) (Q:List V->Hp->Prop),a6 X pins σ H s->t σ H Q->wpAny (model X.prog X.w) X.A (spliced (backTo pos (starEach es X.env))) (AP X pins σ Q) X.xe s
noncomputable def PS (X:Cx) (st:Stmt) (t:TS):Prop:=
 ∀ (pins:List (Addr × Obj)) (s:Shared) (σ:St) (H:Hp) (D:cY),a6 X pins σ H s->t D σ H->wpAny (model X.prog X.w) X.A (exec st X.env) (SP X pins D) X.xe s
noncomputable def eU (X:Cx) (st:List Stmt) (t:TS):Prop:=
 ∀ (pins:List (Addr × Obj)) (s:Shared) (σ:St) (H:Hp) (D:cY),a6 X pins σ H s->t D σ H->wpAny (model X.prog X.w) X.A (execs st X.env) (SP X pins D) X.xe s
theorem aN {α:Type}{t:Sem α}{Q Q':α->Shared->Prop}{M:Model}{A:Around}{E:Value->Shared->Prop}{s:Shared} (h:wpAny M A t Q E s) (hQ:∀ a s,Q a s->Q' a s):wpAny M A t Q' E s:=bq7 h hQ fun _ _ x=>x
section
variable {X : Cx}
theorem bin {a b:Expr}{ta tb:TE} (ha:PE X a ta) (hb:PE X b tb) {pins:List (Addr × Obj)}{s:Shared}{σ:St}{H:Hp}{R:V->V->Hp->Prop} (I:a6 X pins σ H s) (h:ta σ H fun x H1=>tb σ H1 fun y H2=>R x y H2)
  {α:Type}{Q:α->Shared->Prop}{f:Value->Value->Sem α}
  (hf:∀ v u s2 x y H2,a6 X pins σ H2 s2->aV x v->aV y u->R x y H2->wpAny (model X.prog X.w) X.A (f v u) Q X.xe s2) :
  wpAny (model X.prog X.w) X.A (eval a X.env) (fun v s₁=>wpAny (model X.prog X.w) X.A (eval b X.env) (fun u s₂=>wpAny (model X.prog X.w) X.A (f v u) Q X.xe s₂) X.xe s₁) X.xe s:=by
 refine aN (ha pins s σ H _ I h) fun v s1 ⟨x,H1,I1,r1,q1⟩=>?_
 refine aN (hb pins s1 σ H1 _ I1 q1) fun u s2 ⟨y,H2,I2,r2,q2⟩=>?_
 exact hf v u s2 x y H2 I2 r1 r2 q2
noncomputable def iG (i:Nat):TE:=fun σ H Q=>∃ v,σ[i]? = some (some v)/\Q v H
noncomputable def tC (v:V):TE:=fun _ H Q=>Q v H
theorem j8 {i:Nat}{x:Str}{pos:Pos} (hN:X.N[i]? = some x) (hv:gI X.env.scope x) (hd:(x == ("__debug__" : Str))=false:=by decide) (hcd:(x == ("__classdict__" : Str))=false:=by decide):PE X (.Name x pos) (iG i):=by
 intro pins s σ H Q I h
 obtain ⟨v,e,h⟩:=h
 obtain ⟨m,hn,hl⟩:=I.loc
 obtain ⟨u,r,l⟩:=hl i x v hN e hv
 have fin:EP X pins σ Q u s:=⟨v,H,I,r,h⟩
 rcases l with ⟨hk,hm⟩ | ⟨hk,c,hc,hcell⟩
 ·exact wpAny_Name (wpAny_loadName_local I.ok.kind hk hn hm fin) hd
 ·rcases hk with hk | hk
  ·exact wpAny_Name (wpAny_loadName_cell I.ok.kind hk hc hcell fin) hd
  ·exact wpAny_Name (wpAny_loadName_free I.ok.kind hk hc hcell fin hcd) hd
theorem lD {i j pos}:PE X (.Constant (.int i) j pos) (tC (.int i)):=fun _ _ _ H _ I h=>wpAny_Constant_int ⟨.int i,H,I.tok _,⟨_,rfl⟩,h⟩
theorem zQ {b j pos}:PE X (.Constant (.bool b) j pos) (tC (.bl b)):=fun _ _ _ H _ I h=>Constant_bool ⟨.bl b,H,I,rfl,h⟩
theorem am2 {j pos}:PE X (.Constant .none j pos) (tC .non):=fun _ _ _ H _ I h=>Constant_none ⟨.non,H,I,rfl,h⟩
theorem am3 {x j pos}:PE X (.Constant (.str x) j pos) (tC (.str x)):=fun _ _ _ H _ I h=>Calls.Constant_str ⟨.str x,H,I.tok _,⟨_,rfl⟩,h⟩
noncomputable def Gl (X:Cx) (x:Str):Prop:=X.env.kindOf x=some .globalImplicit
theorem zR {E:Value->Shared->Prop}{pins:List (Addr × Obj)}{s:Shared}{σ:St}{H:Hp}{x:Str}{u:Value}{pos:Pos}{Q:Value->Shared->Prop} (I:a6 X pins σ H s) (hg:Gl X x) (hm:X.mg x=some u) (h:Q u s)
  (hd:(x == ("__debug__" : Str))=false:=by decide):wpAny (model X.prog X.w) X.A (eval (.Name x pos) X.env) Q E s:=
 Calls.Name_function_global I.ok.kind hg (Calls.loadGlobal_global (by rw [I.ok.glob]; exact I.mod.glob.keeps I.bk) hm h) hd
theorem jL {E:Value->Shared->Prop}{pins:List (Addr × Obj)}{s:Shared}{σ:St}{H:Hp}{x:Str}{u:Value}{pos:Pos}{Q:Value->Shared->Prop} (I:a6 X pins σ H s) (hg:Gl X x) (hm:X.mg x=none) (hv:bootBuiltins x=some u) (h:Q u s)
  (hn:x ≠ "__name__":=by decide) (hd:(x == ("__debug__" : Str))=false:=by decide):wpAny (model X.prog X.w) X.A (eval (.Name x pos) X.env) Q E s:=by
 obtain ⟨mb,h1,h2⟩:=I.mod.blt
 exact Calls.Name_function_global I.ok.kind hg (Calls.loadGlobal_builtin (by rw [I.ok.glob]; exact I.mod.glob.keeps I.bk) hm (by rw [I.ok.blt]; exact h1.keeps I.bk) ((h2 x hn).trans hv) h) hd
variable {a b : Expr} {ta tb : TE} {pos : Pos}
noncomputable def PC (X:Cx) (op:CmpOp) (a b:Expr) (t:TE):Prop:=
 ∀ (pins:List (Addr × Obj)) (s:Shared) (σ:St) (H:Hp) (Q:VK),a6 X pins σ H s->t σ H Q->
  wpAny (model X.prog X.w) X.A (eval a X.env) (fun v s₁=>wpAny (model X.prog X.w) X.A (eval b X.env) (fun u s₂=>wpAny (model X.prog X.w) X.A (compareOp op v u) (EP X pins σ Q) X.xe s₂) X.xe s₁) X.xe s
noncomputable def tB (t:TE):TT:=fun σ H Q=>t σ H fun x H1=>∃ c,x = .bl c/\Q c H1
theorem am4 {op:CmpOp}{t:TE} (h:PC X op a b t) (h1:behindInMarks op b=false:=by first | exact nobehind _ (by decide) (by decide) | rfl):PE X (.Compare a [op] [b] pos) t:=fun pins s σ H Q I hw=>wpAny_Compare1 (h pins s σ H Q I hw) h1
theorem zT {op:CmpOp}{t:TE} (h:PC X op a b t) (h1:behindInMarks op b=false:=by first | exact nobehind _ (by decide) (by decide) | rfl):PT X (.Compare a [op] [b] pos) (tB t):=by
 intro pins s σ H Q I hw
 refine wpAny_isTrue_Compare1 (aN (h pins s σ H _ I hw) fun v s1 h1=>aN h1 fun u s2 h2=>aN h2 fun c s3 ⟨x,H1,I1,r1,q1⟩=>?_) h1
 obtain ⟨d,rfl,q⟩:=q1
 cases r1
 exact bw0 ⟨H1,I1,q⟩
theorem am5 {e:Expr}{t:TE} (h:PE X e t) (he:∀ whole,isTrue e X.env whole=(do let v <- whole; standAt e.pos; holding [v] (truthy v)):=by intro _; rfl):PT X e (tB t):=by
 intro pins s σ H Q I hw
 refine isTrue_plain (aN (h pins s σ H _ I hw) fun v s1 ⟨x,H1,I1,r1,q1⟩=>?_) (he _)
 obtain ⟨d,rfl,q⟩:=q1
 cases r1
 exact bw0 ⟨H1,I1,q⟩
variable {tA tB' : TT} {dE : List Expr}
noncomputable def zU (t u:TT):TT:=fun σ H Q=>t σ H fun c H1=>if c=true then u σ H1 Q else Q false H1
noncomputable def zV (t u:TT):TT:=fun σ H Q=>t σ H fun c H1=>if c=true then Q true H1 else u σ H1 Q
noncomputable def zW (t:TT):TT:=fun σ H Q=>t σ H fun c H1=>Q (!c) H1
theorem am6 (ha:PT X a tA):PW X (.BoolOp .And [a] pos) tA:=by
 intro wh pins s σ H Q I h
 refine isTrue_and (aN (ha pins s σ H Q I h) fun c s1 e=>?_)
 cases c with
 | true=>exact isTrue_and_nil e
 | false=>exact e
theorem am7 (ha:PT X a tA):PW X (.BoolOp .Or [a] pos) tA:=by
 intro wh pins s σ H Q I h
 refine isTrue_or (aN (ha pins s σ H Q I h) fun c s1 e=>?_)
 cases c with
 | false=>exact isTrue_or_nil e
 | true=>exact e
theorem am8 (ha:PT X a tA) (hb:PW X (.BoolOp .And (b :: dE) pos) tB'):PW X (.BoolOp .And (a :: b :: dE) pos) (zU tA tB'):=by
 intro wh pins s σ H Q I h
 refine isTrue_and (aN (ha pins s σ H _ I h) fun c s1 ⟨H1,I1,q1⟩=>?_)
 cases c with
 | true=>exact hb wh pins s1 σ H1 Q I1 q1
 | false=>exact⟨H1,I1,q1⟩
theorem am9 (ha:PT X a tA) (hb:PW X (.BoolOp .Or (b :: dE) pos) tB'):PW X (.BoolOp .Or (a :: b :: dE) pos) (zV tA tB'):=by
 intro wh pins s σ H Q I h
 refine isTrue_or (aN (ha pins s σ H _ I h) fun c s1 ⟨H1,I1,q1⟩=>?_)
 cases c with
 | true=>exact⟨H1,I1,q1⟩
 | false=>exact hb wh pins s1 σ H1 Q I1 q1
theorem an0 (ha:PT X a tA):PT X (.UnaryOp .Not a pos) (zW tA):=by
 intro pins s σ H Q I h
 exact isTrue_not (ha pins s σ H (fun c H1=>Q (!c) H1) I h)
noncomputable def zX (ta tb:TE):TE:=fun σ H Q=>ta σ H fun x H1=>∃ c,x = .bl c/\if c=true then tb σ H1 Q else Q (.bl false) H1
theorem an1 {op}{t:TE} (h:PE X a t):PE X (.BoolOp op [a] pos) t:=fun pins s σ H Q I hw=>BoolOp_one (h pins s σ H Q I hw)
theorem an2 (ha:PE X a ta) (hb:PE X (.BoolOp .And (b :: dE) pos) tb):PE X (.BoolOp .And (a :: b :: dE) pos) (zX ta tb):=by
 intro pins s σ H Q I h
 refine BoolOp_and (aN (ha pins s σ H _ I h) fun v s1 ⟨x,H1,I1,r1,q1⟩=>?_)
 obtain ⟨c,rfl,q1⟩:=q1
 cases r1
 refine bw0 ?_
 cases c with
 | true=>exact hb pins s1 σ H1 Q I1 q1
 | false=>exact⟨.bl false,H1,I1,rfl,q1⟩
end
noncomputable def aK (K:PySem.W.Frag) (H:Hp) (a:Addr) (xs:List V):Prop:=
 Rd H a (.lst xs) ∨
  ∃ (o:Obj) (its:Array Value) (n:Nat),K.lookup a=some o/\o.cls = .type "list"/\o.dict=none/\o.data = .seq its n/\its.size<=sizeLine/\aM xs its.toList
noncomputable def aQ (K:PySem.W.Frag) (H:Hp) (a:Addr) (xs:List V):Prop:=
 Rd H a (.tup xs) ∨
  ∃ (o:Obj) (its:Array Value) (n:Nat),K.lookup a=some o/\o.cls = .type "tuple"/\o.data = .seq its n/\its.size<=sizeLine/\aM xs its.toList
noncomputable def an3:Value->Option V
 | .none=>some .non
 | .bool b=>some (.bl b)
 | .int i _=>some (.int i)
 | .str x _=>some (.str x)
 | .bytes b _=>some (.byt b)
 | .float b _=>some (.flt b)
 | .ref a=>some (.ref a)
 | .type n=>some (.ty n)
 | _=>none
theorem aV.abs {x:V}{u:Value} (r:aV x u):an3 u=some x:=by
 cases x with
 | non=>cases r; rfl
 | bl _=>cases r; rfl
 | int _=>obtain ⟨t,rfl⟩:=r; rfl
 | str _=>obtain ⟨t,rfl⟩:=r; rfl
 | byt _=>obtain ⟨t,rfl⟩:=r; rfl
 | flt _=>obtain ⟨t,rfl⟩:=r; rfl
 | ref _=>cases r; rfl
 | ty _=>cases r; rfl
theorem aV.inj {x y:V}{u:Value} (r:aV x u) (q:aV y u):x=y:=bj0 (r.abs.symm.trans q.abs)
theorem aM.inj:∀ {xs ys:List V}{us:List Value},aM xs us->aM ys us->xs=ys
 | _,_,_,.nil,.nil=>rfl
 | _,_,_,.cons r t,.cons r' t'=>by rw [r.inj r',aM.inj t t']
section
variable {X : Cx} {pins : List (Addr × Obj)} {σ : St} {H : Hp} {s : Shared} {a : Addr} {xs ys : List V}
theorem aK.of {K:PySem.W.Frag} (h:H a=some (.lst xs)):aK K H a xs:=.inl (.inl h)
theorem aQ.of {K:PySem.W.Frag} (h:H a=some (.tup xs)):aQ K H a xs:=.inl (.inl h)
theorem a6.list (I:a6 X pins σ H s) (h:aK X.K H a xs):∃ its:List Value,aM xs its/\PlainL s.heap a its.toArray/\xs.length<=sizeLine:=by
 rcases h with h | ⟨o,its,n,hk,hc,hd,hs,hz,r⟩
 ·obtain ⟨z,its,n,r,e⟩:=h.ok I.hok
  exact⟨its,r,⟨_,n,e,rfl,rfl,rfl⟩,z⟩
 ·refine⟨its.toList,r,⟨o,n,I.kIn a o hk,hc,hd,by simpa using hs⟩,?_⟩
  have e:=r.length
  simp only [bl7] at e
  omega
theorem a6.tuple (I:a6 X pins σ H s) (h:aQ X.K H a xs):∃ its:List Value,aM xs its/\IsTup s.heap a its.toArray/\xs.length<=sizeLine:=by
 rcases h with h | ⟨o,its,n,hk,hc,hs,hz,r⟩
 ·obtain ⟨z,its,r,p,_⟩:=h.ok I.hok
  exact⟨its,r,p,z⟩
 ·refine⟨its.toList,r,⟨o,I.kIn a o hk,hc,n,by simpa using hs⟩,?_⟩
  have e:=r.length
  simp only [bl7] at e
  omega
theorem a6.list_inj (I:a6 X pins σ H s) (h:aK X.K H a xs) (h':aK X.K H a ys):xs=ys:=by
 obtain ⟨its,r,⟨o,n,e,_,_,d⟩,_⟩:=I.list h
 obtain ⟨its',r',⟨o',n',e',_,_,d'⟩,_⟩:=I.list h'
 rw [e] at e'; cases e'
 rw [d] at d'
 injection d' with d1 _
 have:its=its':=by simpa using congrArg Array.toList d1
 subst this
 exact r.inj r'
theorem a6.tuple_inj (I:a6 X pins σ H s) (h:aQ X.K H a xs) (h':aQ X.K H a ys):xs=ys:=by
 obtain ⟨its,r,⟨o,e,_,n,d⟩,_⟩:=I.tuple h
 obtain ⟨its',r',⟨o',e',_,n',d'⟩,_⟩:=I.tuple h'
 rw [e] at e'; cases e'
 rw [d] at d'
 injection d' with d1 _
 have:its=its':=by simpa using congrArg Array.toList d1
 subst this
 exact r.inj r'
end
noncomputable abbrev Cx.wish (X:Cx) (E:Value->Shared->Prop):Cx:={ X with xe:=E }
noncomputable abbrev Cx.nox (X:Cx):Cx:=X.wish fun _ _=>False
theorem Cx.Ok.wish {X:Cx} (ok:X.Ok) (E:Value->Shared->Prop):(X.wish E).Ok:=
 ⟨ok.mod,ok.kind,ok.glob,ok.blt,ok.above,ok.inj,ok.has,ok.cab,ok.hd,ok.frames,ok.stk,ok.exf,ok.bs,ok.bsz,ok.noex,ok.exfs,ok.funs,ok.frf⟩
theorem Cx.Ok.unwish {X:Cx}{E:Value->Shared->Prop} (ok:(X.wish E).Ok):X.Ok:=
 ⟨ok.mod,ok.kind,ok.glob,ok.blt,ok.above,ok.inj,ok.has,ok.cab,ok.hd,ok.frames,ok.stk,ok.exf,ok.bs,ok.bsz,ok.noex,ok.exfs,ok.funs,ok.frf⟩
section
variable {X : Cx} {pins : List (Addr × Obj)} {σ : St} {H : Hp} {s : Shared} {E : Value → Shared → Prop}
theorem a6.wish (I:a6 X pins σ H s) (E:Value->Shared->Prop):a6 (X.wish E) pins σ H s:=⟨I.ok.wish E,I.os,I.bare,I.base,I.loc,I.cell,I.free,I.freeC,I.pin,I.hok,I.len⟩
theorem a6.unwish (I:a6 (X.wish E) pins σ H s):a6 X pins σ H s:=⟨I.ok.unwish,I.os,I.bare,I.base,I.loc,I.cell,I.free,I.freeC,I.pin,I.hok,I.len⟩
theorem SP.unwish {D:cY}{f:Flow}{s':Shared} (h:SP (X.wish E) pins D f s'):SP X pins D f s':=by
 cases f with
 | next=>obtain ⟨σ',H',I,q⟩:=h; exact⟨σ',H',I.unwish,q⟩
 | brk=>obtain ⟨σ',H',I,q⟩:=h; exact⟨σ',H',I.unwish,q⟩
 | cont=>obtain ⟨σ',H',I,q⟩:=h; exact⟨σ',H',I.unwish,q⟩
 | ret u=>obtain ⟨v,σ',H',I,r,q⟩:=h; exact⟨v,σ',H',I.unwish,r,q⟩
theorem eU.nox {st:List Stmt}{t:TS} (h:eU X.nox st t):eU X st t:=fun pins s σ H D I hw=>
 bq7 (h pins s σ H D (I.wish _) hw) (fun _ _ q=>q.unwish) fun _ _ z=>False.elim z
end
section
variable {X : Cx} {st : Stmt} {dE : List Stmt} {t u : TS} {e : Expr} {te : TE} {pos : Pos}
noncomputable def zY:TS:=fun D σ H=>D.nx σ H
noncomputable def zZ (t u:TS):TS:=fun D σ H=>t { D with nx:=u D } σ H
theorem an4:eU X [] zY:=fun _ _ σ H _ I h=>wpAny_execs_nil ⟨σ,H,I,h⟩
theorem lE (h1:PS X st t) (h2:eU X dE u):eU X (st :: dE) (zZ t u):=by
 intro pins s σ H D I h
 refine wpAny_execs_cons (aN (h1 pins s σ H { D with nx:=u D } I h) fun f s1 q=>?_)
 cases f with
 | next=>
  obtain ⟨σ',H',I',q⟩:=q
  exact h2 pins s1 σ' H' D I' q
 | ret v=>exact q
 | brk=>exact q
 | cont=>exact q
theorem lF (h1:PS X st t):eU X [st] t:=by
 intro pins s σ H D I h
 refine wpAny_execs_cons (aN (h1 pins s σ H D I h) fun f s1 q=>?_)
 cases f with
 | next=>exact wpAny_execs_nil q
 | ret v=>exact q
 | brk=>exact q
 | cont=>exact q
theorem a6.quiet {pins:List (Addr × Obj)}{σ:St}{H:Hp}{s:Shared} (I:a6 X pins σ H s):interactive X.env=false:=by simp [interactive,I.ok.kind]
noncomputable def nZ (te:TE):TS:=fun D σ H=>te σ H fun _ H1=>D.nx σ H1
theorem kJ (he:PE X e te) (hs:swapsWith e none pos.line X.env=pure false:=by rfl):PS X (.Expr e pos) (nZ te):=by
 intro pins s σ H D I h
 exact wpAny_Expr_any (aN (he pins s σ H _ I h) fun v s1 ⟨x,H1,I1,r1,q1⟩=>⟨σ,H1,I1,q1⟩) I.quiet hs
noncomputable def uA (te:TE):TS:=fun D σ H=>te σ H D.rt
theorem mF (he:PE X e te):PS X (.Return (some e) pos) (uA te):=by
 intro pins s σ H D I h
 exact wpAny_Return_some (aN (he pins s σ H _ I h) fun v s1 ⟨x,H1,I1,r1,q1⟩=>⟨x,σ,H1,I1,r1,q1⟩)
noncomputable def A0 (c:TT) (t u:TS):TS:=fun D σ H=>c σ H fun b H1=>if b=true then t D σ H1 else u D σ H1
theorem an5 {c:Expr}{a b:List Stmt}{tc:TT} (hc:PT X c tc) (ha:eU X a t) (hb:eU X b u):PS X (.If c a b pos) (A0 tc t u):=by
 intro pins s σ H D I h
 refine wpAny_If (aN (hc pins s σ H _ I h) fun d s1 ⟨H1,I1,q1⟩=>?_)
 cases d with
 | true=>exact ha pins s1 σ H1 D I1 q1
 | false=>exact hb pins s1 σ H1 D I1 q1
noncomputable def an6:TS:=fun _ _ _=>False
theorem an7:PS X st an6:=fun _ _ _ _ _ _ h=>h.elim
end
noncomputable abbrev TG:=V->St->Hp->(St->Hp->Prop)->Prop
noncomputable abbrev lG:=List V->St->Hp->(St->Hp->Prop)->Prop
noncomputable def PG (X:Cx) (target:Expr) (t:TG):Prop:=
 ∀ (pins:List (Addr × Obj)) (s:Shared) (σ:St) (H:Hp) (v:V) (u:Value) (Q:St->Hp->Prop),a6 X pins σ H s->aV v u->t v σ H Q->
  wpAny (model X.prog X.w) X.A (assign target X.env u) (fun _ s'=>∃ σ' H',a6 X pins σ' H' s'/\Q σ' H') X.xe s
noncomputable def qE (X:Cx) (ts:List Expr) (t:lG):Prop:=
 ∀ (pins:List (Addr × Obj)) (s:Shared) (σ:St) (H:Hp) (vs:List V) (us:List Value) (Q:St->Hp->Prop),a6 X pins σ H s->aM vs us->t vs σ H Q->
  wpAny (model X.prog X.w) X.A (assignInOrder ((assignEach ts X.env).map (·.2)) us) (fun _ s'=>∃ σ' H',a6 X pins σ' H' s'/\Q σ' H') X.xe s
noncomputable abbrev uB:=V->V->V->Hp->(Hp->Prop)->Prop
noncomputable def A1 (X:Cx) (t:uB):Prop:=
 ∀ (pins:List (Addr × Obj)) (s:Shared) (σ:St) (H:Hp) (o i v:V) (ov iv u:Value) (Q:Hp->Prop),a6 X pins σ H s->aV o ov->aV i iv->aV v u->t o i v H Q->
  wpAny (model X.prog X.w) X.A (setItem ov iv u) (fun _ s'=>∃ H',a6 X pins σ H' s'/\Q H') X.xe s
section
variable {X : Cx} {pos : Pos}
noncomputable def cN (i:Nat):TG:=fun v σ H Q=>Q (σ.set i (some v)) H
theorem fF {i:Nat}{x:Str} (hN:X.N.Nodup) (hi:X.N[i]? = some x) (hx:j7 X.env.scope x) (hf:X.fn x=true ∨ X.env.scope.names.lookup x=some .local:=by first | exact .inl rfl | exact .inr rfl | assumption):PG X (.Name x pos) (cN i):=by
 intro pins s σ H v u Q I r h
 exact wpAny_assign_Name (zP I hN hi hx r (fun s' I'=>⟨_,H,I',h⟩) hf)
noncomputable def lH:lG:=fun vs σ H Q=>vs = []/\Q σ H
noncomputable def gJ (t:TG) (u:lG):lG:=fun vs σ H Q=>∃ v r,vs=v :: r/\t v σ H fun σ' H'=>u r σ' H' Q
theorem mG:qE X [] lH:=by
 intro pins s σ H vs us Q I r h
 obtain ⟨e,h⟩:=h
 subst e
 cases r
 exact assignInOrder_nil ⟨σ,H,I,h⟩
theorem hJ {e:Expr}{es:List Expr}{t:TG}{u:lG} (h1:PG X e t) (h2:qE X es u)
  (hs:(assignEach (e :: es) X.env).map (·.2)=assign e X.env :: (assignEach es X.env).map (·.2):=by rfl):qE X (e :: es) (gJ t u):=by
 intro pins s σ H vs us Q I r h
 obtain ⟨v,vr,e1,h⟩:=h
 subst e1
 cases r with
 | cons r rr=>
  rw [hs]
  refine assignInOrder_cons (aN (h1 pins s σ H _ _ _ I r h) fun _ s1 ⟨σ1,H1,I1,q1⟩=>?_)
  exact h2 pins s1 σ1 H1 _ _ Q I1 rr q1
noncomputable def lI (K:PySem.W.Frag) (n:Nat) (t:lG):TG:=fun v σ H Q=>∃ a xs,v = .ref a/\aQ K H a xs/\xs.length=n/\t xs σ H Q
theorem mH {es:List Expr}{k:Nat}{t:lG}{n:Nat} (hc:X.calm=true) (h:qE X es t)
  (hn:(assignEach es X.env).length=n:=by rfl) (hst:(assignEach es X.env).findIdx? (·.1)=none:=by rfl):PG X (.Tuple es k pos) (lI X.K n t):=by
 intro pins s σ H v u Q I r hw
 obtain ⟨a,xs,e1,hq,hl,hw⟩:=hw
 subst e1
 cases r
 obtain ⟨its,rv,ht,hz⟩:=I.tuple hq
 refine assign_Tuple_tuple (I.ok.hd hc) ht (by simp [hn,<- hl,rv.length]) hst fun h' hx=>?_
 have I1:a6 X pins σ H { s with heap:=h' }:=I.kept (t':=s.toks) fun b o e=>hx b o (bk6 (bi0 e)) e
 exact h pins _ σ H xs _ Q I1 (by simpa using rv) hw
noncomputable def uC (to ti:TE) (t:uB):TG:=fun v σ H Q=>to σ H fun o H1=>ti σ H1 fun i H2=>t o i v H2 fun H3=>Q σ H3
theorem an8 {o i:Expr}{to ti:TE}{t:uB} (ho:PE X o to) (hi:PE X i ti) (hs:A1 X t)
  (ha:∀ v,assign (.Subscript o i pos) X.env v=(do
   let ov <- holding [v] (eval o X.env)
   let iv <- holding [v,ov] (eval i X.env)
   standAt pos
   holding [v,ov,iv] (setItem ov iv v)
   release [v,ov,iv] []):=by intro _; rfl):PG X (.Subscript o i pos) (uC to ti t):=by
 intro pins s σ H v u Q I r h
 rw [ha]
 refine bg0 (br0 (aN (ho pins s σ H _ I h) fun ov s1 ⟨x,H1,I1,r1,q1⟩=>?_))
 refine bg0 (br0 (aN (hi pins s1 σ H1 _ I1 q1) fun iv s2 ⟨y,H2,I2,r2,q2⟩=>?_))
 refine bg0 (wpAny_standAt (bg0 (br0 (aN (hs pins s2 σ H2 x y v ov iv u _ I2 r1 r2 r q2) fun _ s3 ⟨H3,I3,q3⟩=>?_))))
 exact wpAny_release ⟨σ,H3,I3,q3⟩
noncomputable def kK (te:TE) (g:TG):TS:=fun D σ H=>te σ H fun x H1=>g x σ H1 D.nx
theorem an9 {tg e:Expr}{te:TE}{g:TG} (he:PE X e te) (hg:PG X tg g) (hs:swapsWithSole [tg] e pos.line X.env=pure false:=by rfl) (hw:swappedStores [tg] e X.env=pure none:=by rfl)
  (h1:(assignEach [tg] X.env).map (·.2) = [assign tg X.env]:=by rfl):PS X (.Assign [tg] e pos) (kK te g):=by
 intro pins s σ H D I h
 refine wpAny_Assign_stores (aN (he pins s σ H _ I h) fun v s1 ⟨x,H1,I1,r1,q1⟩=>?_) hs hw
 rw [h1]
 exact aN (hg pins s1 σ H1 x v _ I1 r1 q1) fun _ s2 q=>q
theorem uD {i:Nat}{x:Str}{e:Expr}{te:TE}{pos':Pos} (hN:X.N.Nodup) (hi:X.N[i]? = some x) (hx:j7 X.env.scope x) (he:PE X e te) (hs:swapsWith e (some (.Name x pos')) pos.line X.env=pure false:=by rfl) (hf:X.fn x=true ∨ X.env.scope.names.lookup x=some .local:=by first | exact .inl rfl | exact .inr rfl | assumption) :
  PS X (.Assign [.Name x pos'] e pos) (kK te (cN i)):=by
 intro pins s σ H D I h
 refine wpAny_Assign_Name (aN (he pins s σ H _ I h) fun v s1 ⟨y,H1,I1,r1,q1⟩=>?_) hs
 exact zP I1 hN hi hx r1 (fun s2 I2=>⟨_,H1,I2,q1⟩) hf
end
section
variable {X : Cx} {pos : Pos}
noncomputable def A3 (c:TT) (tb:TS):TS:=fun D σ H=>∃ W:Nat->St->Hp->Prop,(∃ m,W m σ H)/\∀ m σ H,W m σ H->
 c σ H fun b H1=>if b=true then ∃ N:St->Hp->Prop,(∀ σ' H',N σ' H'->∃ m',m' < m/\W m' σ' H')/\tb { D with nx:=N,ct:=N,bk:=D.nx } σ H1 else D.nx σ H1
theorem ao0 {c:Expr}{body:List Stmt}{tc:TT}{tb:TS} (hp:PassesOwn (model X.prog X.w) X.A X.env X.xe) (hc:PT X c tc) (hb:eU X body tb):PS X (.While c body [] pos) (A3 tc tb):=by
 intro pins s σ H D I h
 obtain ⟨W,⟨m0,w0⟩,turn⟩:=h
 refine wpAny_While (codeAny_whileLoop (fun n s'=>∃ σ' H',a6 X pins σ' H' s'/\W n σ' H') ?_ m0 ⟨σ,H,I,w0⟩)
 rintro n s1 ⟨σ1,H1,I1,w1⟩
 refine bv8 hp (aN (hc pins s1 σ1 H1 _ I1 (turn n σ1 H1 w1)) fun b s2 ⟨H2,I2,q2⟩=>?_)
 cases b with
 | true=>
  obtain ⟨N,hN,q2⟩:=q2
  rw [if_pos rfl]
  refine bv8 hp (aN (hb pins s2 σ1 H2 _ I2 q2) fun f s3 q3=>?_)
  cases f with
  | next=>
   obtain ⟨σ3,H3,I3,n3⟩:=q3
   obtain ⟨m',hm,w3⟩:=hN σ3 H3 n3
   exact⟨m',hm,σ3,H3,I3,w3⟩
  | cont=>
   obtain ⟨σ3,H3,I3,n3⟩:=q3
   obtain ⟨m',hm,w3⟩:=hN σ3 H3 n3
   exact⟨m',hm,σ3,H3,I3,w3⟩
  | brk=>exact q3
  | ret v=>exact q3
 | false=>
  rw [if_neg bi5]
  exact wpAny_execs_nil ⟨σ1,H2,I2,q2⟩
end
structure It where
 go:Nat->Hp->Prop
 yld:Nat->Hp->V->Hp->Prop
 stop:Nat->Hp->Prop
noncomputable def hV (X:Cx) (pins:List (Addr × Obj)) (H:Hp) (b:Addr):Prop:=
 H b=none/\b ≠ X.env.locals/\b ∉ X.fs/\(b ∈ X.ex ∨ X.s₀.heap.objs.size<=b)/\(∀ x c,X.env.cells.lookup x=some c->c ≠ b)/\∀ p ∈ X.pn ++ pins,p.1 ≠ b
theorem a6.fpOk {X:Cx}{pins:List (Addr × Obj)}{σ:St}{H H':Hp}{s:Shared}{b:Addr} (I:a6 X pins σ H s) (hb:s.heap.objs.size<=b) (hn:H' b=none):hV X pins H' b:=by
 refine⟨hn,bp6 (bi2 I.lt hb),I.nofs hb,.inr (bl1 I.sz hb),fun x c e z=>?_,fun p hp z=>?_⟩
 ·obtain ⟨v,q⟩:=I.cell x c e
  exact absurd (bi2 q.lt (by rw [z]; exact hb)) (bo5 _)
 ·exact absurd (bi2 (bi0 (I.pin p hp).1) (by rw [z]; exact hb)) (bo5 _)
structure iH (P:Program) (w:World) (K:PySem.W.Frag) (tg:Expr) (J:It) (fp:List Addr) (it:Addr) (tn:Nat->Heap->Prop):Prop where
 mem:it ∈ fp
 obj:∀ i h,tn i h->∀ b ∈ fp,∃ o,h.get? b=some o/\∀ v,o.data ≠ .cell v
 keep:∀ i h h',tn i h->(∀ b ∈ fp,∀ o,h.get? b=some o->h'.get? b=some o)->tn i h'
 item:∀ (X:Cx),X.prog=P->X.w=w->X.K=K->X.calm=true->∀ (i:Nat) (pins:List (Addr × Obj)) (s:Shared) (σ:St) (H:Hp) (E:Value->Shared->Prop),a6 X pins σ H s->(∀ b ∈ fp,hV X pins H b)->tn i s.heap->J.go i H->
  wpAny (model P w) X.A (pyNext (.ref it)) (fun r s1=>∃ u,r=some u/\
   wpAny (model P w) X.A (letOwnedTupleGo tg (.ref it) u) (fun _ s2=>∃ x H',a6 X pins σ H' s2/\aV x u/\J.yld i H x H'/\tn (i+1) s2.heap/\∀ b ∈ fp,H' b=none) E s1) E s
 done:∀ (X:Cx),X.prog=P->X.w=w->X.K=K->X.calm=true->∀ (i:Nat) (pins:List (Addr × Obj)) (s:Shared) (σ:St) (H:Hp) (E:Value->Shared->Prop),a6 X pins σ H s->(∀ b ∈ fp,hV X pins H b)->tn i s.heap->J.stop i H->
  wpAny (model P w) X.A (pyNext (.ref it)) (fun r s1=>r=none/\a6 X pins σ H s1) E s
 self:∀ (A:Around) (i:Nat) (s:Shared) (Q:Value->Shared->Prop) (E:Value->Shared->Prop),tn i s.heap->Q (.ref it) s->wpAny (model P w) A (pyIter (.ref it)) Q E s
noncomputable abbrev TI:=St->Hp->(It->Hp->Prop)->Prop
noncomputable def A4 (X:Cx) (pins:List (Addr × Obj)) (σ:St) (tg:Expr) (R:It->Hp->Prop) (itv:Value) (s2:Shared):Prop:=
 ∃ (it:Addr) (fp:List Addr) (tn:Nat->Heap->Prop) (J:It) (H':Hp),itv = .ref it/\a6 X pins σ H' s2/\iH X.prog X.w X.K tg J fp it tn/\tn 0 s2.heap/\(∀ b ∈ fp,hV X pins H' b)/\R J H'
noncomputable def PI (X:Cx) (tg iter:Expr) (wi:TI):Prop:=
 ∀ (pins:List (Addr × Obj)) (s:Shared) (σ:St) (H:Hp) (R:It->Hp->Prop),a6 X pins σ H s->wi σ H R->
  wpAny (model X.prog X.w) X.A (eval iter X.env) (fun v s1=>wpAny (model X.prog X.w) X.A (pyIter v) (A4 X pins σ tg R) X.xe s1) X.xe s
theorem qF {M:Model}{A:Around}{E:Value->Shared->Prop}{s:Shared}{tg:Expr}{it:Addr}{u:Value}{o:Obj}{n:String}{vs:Array Value}{Q:Unit->Shared->Prop} (ho:s.heap.get? it=some o) (hc:o.cls = .type n) (hd:o.data = .fields vs)
    (hn : ["enumerate","zip","dict_itemiterator","dict_reverseitemiterator","odict_iterator","itertools.zip_longest","itertools.pairwise"].contains n=false) (hQ:Q () s):wpAny M A (letOwnedTupleGo tg (.ref it) u) Q E s:=by
  unfold letOwnedTupleGo
  cases tg <;> first
    | exact bh3 hQ
    | (cases u <;> first
        | exact bh3 hQ
        | (refine bg0 (wpAny_load ho ?_)
           rw [hc,hd]
           show wpAny M A (if (["enumerate","zip","dict_itemiterator","dict_reverseitemiterator","odict_iterator","itertools.zip_longest","itertools.pairwise"].contains n && vs[0]? == some (rawInt _))=true then _ else _) Q E s
           rw [if_neg (by intro h; rw [hn,Bool.false_and] at h; cases h)]
           exact bh3 hQ))
noncomputable def mI (K:PySem.W.Frag) (a:Addr):It:=
 ⟨fun i H=>∃ xs x,aK K H a xs/\xs[i]? = some x,fun i H x H'=>H'=H/\∀ xs,aK K H a xs->xs[i]? = some x,fun i H=>∃ xs,aK K H a xs/\xs.length<=i⟩
noncomputable def kL (K:PySem.W.Frag) (a:Addr):It:=
 ⟨fun i H=>∃ xs x,aQ K H a xs/\xs[i]? = some x,fun i H x H'=>H'=H/\∀ xs,aQ K H a xs->xs[i]? = some x,fun i H=>∃ xs,aQ K H a xs/\xs.length<=i⟩
noncomputable def o0 (lo:Int) (n:Nat):It:=⟨fun i _=>i < n,fun i H x H'=>H'=H/\x = .int (lo+i),fun i _=>n<=i⟩
theorem ao1 {P:Program}{w:World}{K:PySem.W.Frag}{tg:Expr} (a it:Addr):iH P w K tg (mI K a) [it] it (fun i h=>h.IsListIter it a i) where
 mem:=by simp
 obj:=fun i h st b hb=>by
  have e:b=it:=by simpa using hb
  subst e
  obtain ⟨o,e,c,d⟩:=st
  exact⟨o,e,fun v z=>by rw [d] at z; cases z⟩
 keep:=fun i h h' st k=>st.at fun o e=>k it (by simp) o e
 item:=by
  intro X hP hw hK hc i pins s σ H E I hf st hg
  subst hP hw hK
  obtain ⟨xs,x,hq,hx⟩:=hg
  obtain ⟨its,rv,p,hz⟩:=I.list hq
  obtain ⟨u,hu,ru⟩:=rv.get hx
  obtain ⟨f0,f1,f2,f3,f4,f5⟩:=hf it (by simp)
  refine wpAny_pyNext_list_item st p.isList (x:=u) (by simpa using hu) fun h' st' sb=>?_
  have I1:a6 X pins σ H { s with heap:=h' }:=I.turned (t':=s.toks) (fun b o hb e=>(sb.2 b hb).trans e) f0 f1 f3 f4 f5
  obtain ⟨o,e,c,d⟩:=id st'
  exact⟨u,rfl,qF (s:={ s with heap:=h' }) e c d (by decide) ⟨x,H,I1,ru,⟨rfl,fun ys hy=>by rw [I.list_inj hy hq]; exact hx⟩,st',fun b hb=>(hf b hb).1⟩⟩
 done:=by
  intro X hP hw hK hc i pins s σ H E I hf st hg
  subst hP hw hK
  obtain ⟨xs,hq,hx⟩:=hg
  obtain ⟨its,rv,p,hz⟩:=I.list hq
  obtain ⟨f0,f1,f2,f3,f4,f5⟩:=hf it (by simp)
  have hl:=rv.length
  exact wpAny_pyNext_list_end (I.ok.hd hc) st p.isList (by simp; omega) fun h' eb=>⟨rfl,I.turned (t':=s.toks) (fun b o hb e=>eb b o hb e) f0 f1 f3 f4 f5⟩
 self:=fun _ _ _ _ _ st h=>wpAny_pyIter_listiter st h
theorem A5 {P:Program}{w:World}{K:PySem.W.Frag}{tg:Expr} (a it:Addr):iH P w K tg (kL K a) [it] it (fun i h=>h.IsTupleIter it a i) where
 mem:=by simp
 obj:=fun i h st b hb=>by
  have e:b=it:=by simpa using hb
  subst e
  obtain ⟨o,e,c,d⟩:=st
  exact⟨o,e,fun v z=>by rw [d] at z; cases z⟩
 keep:=fun i h h' st k=>st.at fun o e=>k it (by simp) o e
 item:=by
  intro X hP hw hK hc i pins s σ H E I hf st hg
  subst hP hw hK
  obtain ⟨xs,x,hq,hx⟩:=hg
  obtain ⟨its,rv,p,hz⟩:=I.tuple hq
  obtain ⟨u,hu,ru⟩:=rv.get hx
  obtain ⟨f0,f1,f2,f3,f4,f5⟩:=hf it (by simp)
  refine wpAny_pyNext_tuple_item st (show s.heap.IsTuple a its.toArray from p) (x:=u) (by simpa using hu) fun h' st' sb=>?_
  have I1:a6 X pins σ H { s with heap:=h' }:=I.turned (t':=s.toks) (fun b o hb e=>(sb.2 b hb).trans e) f0 f1 f3 f4 f5
  obtain ⟨o,e,c,d⟩:=id st'
  exact⟨u,rfl,qF (s:={ s with heap:=h' }) e c d (by decide) ⟨x,H,I1,ru,⟨rfl,fun ys hy=>by rw [I.tuple_inj hy hq]; exact hx⟩,st',fun b hb=>(hf b hb).1⟩⟩
 done:=by
  intro X hP hw hK hc i pins s σ H E I hf st hg
  subst hP hw hK
  obtain ⟨xs,hq,hx⟩:=hg
  obtain ⟨its,rv,p,hz⟩:=I.tuple hq
  obtain ⟨f0,f1,f2,f3,f4,f5⟩:=hf it (by simp)
  have hl:=rv.length
  exact wpAny_pyNext_tuple_end (I.ok.hd hc) st (show s.heap.IsTuple a its.toArray from p) (by simp; omega) fun h' eb=>⟨rfl,I.turned (t':=s.toks) (fun b o hb e=>eb b o hb e) f0 f1 f3 f4 f5⟩
 self:=fun _ _ _ _ _ st h=>wpAny_pyIter_tupleiter st h
theorem ao2 {P:Program}{w:World}{K:PySem.W.Frag}{tg:Expr} (it:Addr) (lo:Int) (n:Nat):iH P w K tg (o0 lo n) [it] it (fun i h=>IsRangeIter h it (lo+(i:Nat) * 1) ((n:Int) - (i:Nat)) 1) where
 mem:=by simp
 obj:=fun i h st b hb=>by
  have e:b=it:=by simpa using hb
  subst e
  exact⟨_,st,fun v z=>by
   have z':Data.fields _=Data.cell v:=z
   cases z'⟩
 keep:=fun i h h' st k=>k it (by simp) _ st
 item:=by
  intro X hP hw hK hc i pins s σ H E I hf st hg
  subst hP hw hK
  obtain ⟨f0,f1,f2,f3,f4,f5⟩:=hf it (by simp)
  have W:=Walks.range (prog:=X.prog) (w:=X.w) (I.ok.hd hc) it lo 1 n
  refine W.item i s _ _ hg st fun v h' tk hv st' kk=>?_
  obtain ⟨t,rfl⟩:=hv
  have I1:a6 X pins σ H { s with heap:=h',toks:=tk }:=I.turned (fun b o hb e=>kk b o (by simpa using hb) e) f0 f1 f3 f4 f5
  refine⟨_,rfl,qF (s:={ s with heap:=h',toks:=tk }) (n:="range_iterator") st' rfl rfl (by decide) ⟨.int (lo+i),H,I1,⟨t,?_⟩,⟨rfl,rfl⟩,st',fun b hb=>(hf b hb).1⟩⟩
  rw [Int.mul_one]
 done:=by
  intro X hP hw hK hc i pins s σ H E I hf st hg
  subst hP hw hK
  obtain ⟨f0,f1,f2,f3,f4,f5⟩:=hf it (by simp)
  exact wpAny_pyNext_range_end (I.ok.hd hc) st (by have:n<=i:=hg; omega) fun h' eb=>⟨rfl,I.turned (t':=s.toks) (fun b o hb e=>eb b o hb e) f0 f1 f3 f4 f5⟩
 self:=fun _ _ _ _ _ st h=>wpAny_pyIter_rangeiter st h
section
variable {X : Cx} {tg : Expr}
noncomputable def ao3 (K:PySem.W.Frag) (tl:TE):TI:=fun σ H R=>tl σ H fun x H1=>∃ a,x = .ref a/\(∃ xs,aQ K H1 a xs)/\R (kL K a) H1
theorem qG {l:Expr}{tl:TE} (hl:PE X l tl):PI X tg l (ao3 X.K tl):=by
 intro pins s σ H R I h
 refine aN (hl pins s σ H _ I h) fun v s1 ⟨x,H1,I1,r1,q1⟩=>?_
 obtain ⟨a,e,⟨xs,hq⟩,q⟩:=q1
 subst e
 cases r1
 obtain ⟨its,rv,p,hz⟩:=I1.tuple hq
 refine bu9 (show s1.heap.IsTuple a its.toArray from p) ?_
 refine⟨s1.heap.objs.size,[s1.heap.objs.size],_,_,H1,rfl,I1.kept (t':=s1.toks) fun b o e=>bg1 _ e,A5 a _,⟨_,bi8 _ rfl,rfl,rfl⟩,fun b hb=>?_,q⟩
 have e:b=s1.heap.objs.size:=by simpa using hb
 subst e
 exact I1.fpOk (bg9 _) (I1.hok.fresh (bg9 _))
theorem A6 {pins:List (Addr × Obj)}{σ:St}{H:Hp}{s:Shared}{R:It->Hp->Prop}{E:Value->Shared->Prop}{lo hi:Int}{t u v:Tok}{tk:Nat} (I:a6 X pins σ H s) (h1 : -(2 ^ 62)<=lo) (h2:lo < 2 ^ 62) (h3 : -(2 ^ 62)<=hi) (h4:hi < 2 ^ 62)
  (q:R (o0 lo (hi - lo).toNat) H):wpAny (model X.prog X.w) X.A (pyIter (.ref s.heap.objs.size)) (A4 X pins σ tg R) E { s with heap:=s.heap.push { cls:=.type "range",data:=.fields #[.int lo t,.int hi u,.int 1 v] },toks:=tk }:=by
 refine wpAny_pyIter_range (IsRange.new ..) (small_one h1 h2 h3 h4) ?_
 have I1:a6 X pins σ H { s with heap:=s.heap.push { cls:=.type "range",data:=.fields #[.int lo t,.int hi u,.int 1 v] },toks:=tk }:=I.kept fun b o e=>bg1 _ e
 refine⟨(s.heap.push { cls:=.type "range",data:=.fields #[.int lo t,.int hi u,.int 1 v] }).objs.size,[(s.heap.push { cls:=.type "range",data:=.fields #[.int lo t,.int hi u,.int 1 v] }).objs.size],_,_,H,rfl,
  I1.kept (t':=tk) fun b o e=>bg1 _ e,ao2 _ lo (hi - lo).toNat,?_,fun b hb=>?_,q⟩
 ·have e1:lo+((0:Nat):Int) * 1=lo:=by simp
  have e2:(((hi - lo).toNat:Nat):Int) - ((0:Nat):Int)=Builtin.Range.rangeSize lo hi 1:=by rw [rangeSize_one]; split <;> omega
  show IsRangeIter _ _ (lo+((0:Nat):Int) * 1) ((((hi - lo).toNat:Nat):Int) - ((0:Nat):Int)) 1
  rw [e1,e2]
  exact bi8 _ rfl
 ·have e:b=(s.heap.push { cls:=.type "range",data:=.fields #[.int lo t,.int hi u,.int 1 v] }).objs.size:=by simpa using hb
  subst e
  exact I1.fpOk (bg9 _) (I1.hok.fresh (bg9 _))
noncomputable def A7 (ta:TA):TI:=fun σ H R=>ta σ H fun vs H1=>∃ j:Int,vs = [.int j]/\-(2 ^ 62)<=j/\j < 2 ^ 62/\R (o0 0 j.toNat) H1
noncomputable def A8 (ta:TA):TI:=fun σ H R=>ta σ H fun vs H1=>∃ i j:Int,vs = [.int i,.int j]/\(-(2 ^ 62)<=i/\i < 2 ^ 62/\-(2 ^ 62)<=j/\j < 2 ^ 62)/\R (o0 i (j - i).toNat) H1
theorem ao4 {a:Expr}{ta:TA}{p pos:Pos} (hg:Gl X "range") (hm:X.mg "range" = none) (ha:PA X [a] ta) (hs:starEach [a] X.env = [(false,eval a X.env)]:=by rfl):PI X tg (.Call (.Name "range" p) [a] [] pos) (A7 ta):=by
 intro pins s σ H R I h
 refine Call_ (jL I hg hm boot_range (bn0 (aN (ha pos pins s σ H _ I h) fun us s1 ⟨vs,H1,I1,r1,q1⟩=>?_) hs rfl))
 obtain ⟨j,e,q1,q2,q⟩:=q1
 subst e
 cases r1 with
 | cons r rr=>
  cases rr
  obtain ⟨t,rfl⟩:=r
  exact call_range_1 (A6 I1 (by omega) (by omega) q1 q2 (by simpa using q))
theorem ao5 {a b:Expr}{ta:TA}{p pos:Pos} (hg:Gl X "range") (hm:X.mg "range" = none) (ha:PA X [a,b] ta) (hs:starEach [a,b] X.env = [(false,eval a X.env),(false,eval b X.env)]:=by rfl) (hs2:starEach [b] X.env = [(false,eval b X.env)]:=by rfl) :
  PI X tg (.Call (.Name "range" p) [a,b] [] pos) (A8 ta):=by
 intro pins s σ H R I h
 refine Call_ (jL I hg hm boot_range (bn0 (aN (ha pos pins s σ H _ I h) fun us s1 ⟨vs,H1,I1,r1,q1⟩=>?_) (by rw [hs,hs2]) (by rw [hs2]; rfl)))
 obtain ⟨i,j,e,⟨q1,q2,q3,q4⟩,q⟩:=q1
 subst e
 cases r1 with
 | cons r rr=>
  cases rr with
  | cons r' rr=>
   cases rr
   obtain ⟨t,rfl⟩:=r
   obtain ⟨t',rfl⟩:=r'
   exact call_range_2 (A6 I1 q1 q2 q3 q4 q)
noncomputable def A9 (wi:TI) (g:TG) (tb:TS):TS:=fun D σ H=>wi σ H fun J H1=>∃ W:Nat->Nat->St->Hp->Prop,(∃ m,W 0 m σ H1)/\∀ i m σ H,W i m σ H->
 (J.stop i H/\D.nx σ H) ∨ (J.go i H/\∃ N:St->Hp->Prop,(∀ σ' H',N σ' H'->∃ m',m' < m/\W (i+1) m' σ' H')/\∀ x H',J.yld i H x H'->g x σ H' fun σ2 H2=>tb { D with nx:=N,ct:=N,bk:=D.nx } σ2 H2)
noncomputable def o3 (fp:List Addr) (h:Heap):List (Addr × Obj):=fp.filterMap fun b=>(h.get? b).map fun o=>(b,o)
theorem qH {fp:List Addr}{h:Heap}{b:Addr}{o:Obj} (hb:b ∈ fp) (e:h.get? b=some o):(b,o) ∈ o3 fp h:=List.mem_filterMap.mpr ⟨b,hb,by rw [e]; rfl⟩
theorem ao6 {fp:List Addr}{h:Heap}{p:Addr × Obj} (hp:p ∈ o3 fp h):p.1 ∈ fp/\h.get? p.1=some p.2:=by
 obtain ⟨b,hb,e⟩:=List.mem_filterMap.mp hp
 cases q:h.get? b with
 | none=>rw [q] at e; cases e
 | some o=>
  rw [q] at e
  have e':(b,o)=p:=bj0 e
  subst e'
  exact⟨hb,q⟩
theorem a6.pinned {pins:List (Addr × Obj)}{σ:St}{H:Hp}{s:Shared}{fp:List Addr} (I:a6 X pins σ H s) (hf:∀ b ∈ fp,hV X pins H b) (ho:∀ b ∈ fp,∃ o,s.heap.get? b=some o/\∀ v,o.data ≠ .cell v):a6 X (pins ++ o3 fp s.heap) σ H s:=
 I.pins_of fun p hp=>(bh4.mp hp).elim (fun z=>I.pin p (bj6 _ z)) fun z=>by
  obtain ⟨hb,e⟩:=ao6 z
  obtain ⟨f0,f1,f2,_⟩:=hf p.1 hb
  obtain ⟨o,e',d⟩:=ho p.1 hb
  rw [e] at e'; cases e'
  exact⟨e,f0,f1,f2,d⟩
theorem a6.unpinned {pins pl:List (Addr × Obj)}{σ:St}{H:Hp}{s:Shared} (I:a6 X (pins ++ pl) σ H s):a6 X pins σ H s:=I.pins_of fun p hp=>I.pin p (bj6 _ (bk3 _ hp))
theorem uE {iter:Expr}{body:List Stmt}{wi:TI}{g:TG}{tb:TS}{pos:Pos} (hp:PassesOwn (model X.prog X.w) X.A X.env X.xe) (hc:X.calm=true) (hi:PI X tg iter wi) (hg:PG X tg g) (hb:eU X body tb)
  (hs:∀ x,foldedSetIterable iter X.env x=pure x:=by intro _; rfl):PS X (.For tg iter body [] pos) (A9 wi g tb):=by
 intro pins s σ H D I h
 refine wpAny_For (aN (hi pins s σ H _ I h) fun v s1 h1=>aN h1 fun itv s2 h2=>?_) hs
 obtain ⟨it,fp,tn,J,H2,e,I2,T,st2,f2,W,⟨m0,w0⟩,turn⟩:=h2
 subst e
 have stat:∀ {H':Hp},(∀ b ∈ fp,H' b=none)->∀ b ∈ fp,hV X pins H' b:=fun hn b hb=>⟨hn b hb,(f2 b hb).2⟩
 refine codeAny_forLoop_any (fun n s'=>∃ i σ' H',a6 X pins σ' H' s'/\tn i s'.heap/\(∀ b ∈ fp,H' b=none)/\W i n σ' H') ?_ m0 ⟨0,σ,H2,I2,st2,fun b hb=>(f2 b hb).1,w0⟩
 rintro n s3 ⟨i,σ3,H3,I3,st3,fr3,w3⟩
 rcases turn i n σ3 H3 w3 with ⟨stop,qn⟩ | ⟨go,N,hN,step⟩
 ·refine bv8 hp (aN (T.done X rfl rfl rfl hc i pins s3 σ3 H3 X.xe I3 (stat fr3) st3 stop) fun r s4 ⟨hr,I4⟩=>?_)
  subst hr
  exact wpAny_execs_nil ⟨σ3,H3,I4,qn⟩
 ·refine bv8 hp (aN (T.item X rfl rfl rfl hc i pins s3 σ3 H3 X.xe I3 (stat fr3) st3 go) fun r s4 ⟨u,hr,h4⟩=>?_)
  subst hr
  refine bv8 hp (aN h4 fun _ s5 ⟨x,H5,I5,r5,y5,st5,fr5⟩=>?_)
  have I5':=I5.pinned (stat fr5) (T.obj _ _ st5)
  refine bv8 hp (aN (hg _ s5 σ3 H5 x u _ I5' r5 (step x H5 y5)) fun _ s6 ⟨σ6,H6,I6,q6⟩=>?_)
  refine bv8 hp (aN (hb _ s6 σ6 H6 _ I6 q6) fun f s7 q7=>?_)
  have again:∀ {σ7:St}{H7:Hp},a6 X (pins ++ o3 fp s5.heap) σ7 H7 s7->N σ7 H7->∃ m,m < n/\∃ i σ' H',a6 X pins σ' H' s7/\tn i s7.heap/\(∀ b ∈ fp,H' b=none)/\W i m σ' H':=fun {σ7 H7} I7 n7=>by
   obtain ⟨m',hm,w7⟩:=hN σ7 H7 n7
   refine⟨m',hm,i+1,σ7,H7,I7.unpinned,T.keep _ _ _ st5 fun b hb o e=>(I7.pin (b,o) (bj6 _ (bj6 _ (qH hb e)))).1,fun b hb=>?_,w7⟩
   obtain ⟨o,e,d⟩:=T.obj _ _ st5 b hb
   exact (I7.pin (b,o) (bj6 _ (bj6 _ (qH hb e)))).2.1
  cases f with
  | next=>obtain ⟨σ7,H7,I7,n7⟩:=q7; exact again I7 n7
  | cont=>obtain ⟨σ7,H7,I7,n7⟩:=q7; exact again I7 n7
  | brk=>obtain ⟨σ7,H7,I7,q7⟩:=q7; exact⟨σ7,H7,I7.unpinned,q7⟩
  | ret v=>obtain ⟨x7,σ7,H7,I7,r7,q7⟩:=q7; exact⟨x7,σ7,H7,I7.unpinned,r7,q7⟩
end
theorem bf7 {K:PySem.W.Frag}{a:Addr}{xs:List V}{g:TG}{tb:TS}{D:cY}{σ:St}{H:Hp} (Pv:Nat->St->Hp->Prop) (h0:Pv 0 σ H) (hl:∀ i σ H,i<=xs.length->Pv i σ H->aK K H a xs)
  (hs:∀ i x σ H,xs[i]? = some x->Pv i σ H->g x σ H fun σ2 H2=>tb { D with nx:=Pv (i+1),ct:=Pv (i+1),bk:=D.nx } σ2 H2) (hd:∀ σ H,Pv xs.length σ H->D.nx σ H) :
  ∃ W:Nat->Nat->St->Hp->Prop,(∃ m,W 0 m σ H)/\∀ i m σ H,W i m σ H->
   ((mI K a).stop i H/\D.nx σ H) ∨ ((mI K a).go i H/\∃ N:St->Hp->Prop,(∀ σ' H',N σ' H'->∃ m',m' < m/\W (i+1) m' σ' H')/\∀ x H',(mI K a).yld i H x H'->g x σ H' fun σ2 H2=>tb { D with nx:=N,ct:=N,bk:=D.nx } σ2 H2):=by
 refine⟨fun i m σ H=>m=xs.length - i/\i<=xs.length/\Pv i σ H,⟨xs.length,by simp,bl0 _,h0⟩,?_⟩
 rintro i m σ H ⟨rfl,hi,p⟩
 have q:=hl i σ H hi p
 by_cases hlt:i < xs.length
 ·refine .inr ⟨⟨xs,xs[i],q,by simp [hlt]⟩,Pv (i+1),fun σ' H' p'=>⟨xs.length - (i+1),by omega,rfl,hlt,p'⟩,fun x H' y=>?_⟩
  obtain ⟨e,y⟩:=y
  subst e
  exact hs i x σ _ (y xs q) p
 ·have e:i=xs.length:=by omega
  subst e
  exact .inl ⟨⟨xs,q,bg9 _⟩,hd σ H p⟩
theorem B0 {K:PySem.W.Frag}{a:Addr}{xs:List V}{g:TG}{tb:TS}{D:cY}{σ:St}{H:Hp} (Pv:Nat->St->Hp->Prop) (h0:Pv 0 σ H) (hl:∀ i σ H,i<=xs.length->Pv i σ H->aQ K H a xs)
  (hs:∀ i x σ H,xs[i]? = some x->Pv i σ H->g x σ H fun σ2 H2=>tb { D with nx:=Pv (i+1),ct:=Pv (i+1),bk:=D.nx } σ2 H2) (hd:∀ σ H,Pv xs.length σ H->D.nx σ H) :
  ∃ W:Nat->Nat->St->Hp->Prop,(∃ m,W 0 m σ H)/\∀ i m σ H,W i m σ H->
   ((kL K a).stop i H/\D.nx σ H) ∨ ((kL K a).go i H/\∃ N:St->Hp->Prop,(∀ σ' H',N σ' H'->∃ m',m' < m/\W (i+1) m' σ' H')/\∀ x H',(kL K a).yld i H x H'->g x σ H' fun σ2 H2=>tb { D with nx:=N,ct:=N,bk:=D.nx } σ2 H2):=by
 refine⟨fun i m σ H=>m=xs.length - i/\i<=xs.length/\Pv i σ H,⟨xs.length,by simp,bl0 _,h0⟩,?_⟩
 rintro i m σ H ⟨rfl,hi,p⟩
 have q:=hl i σ H hi p
 by_cases hlt:i < xs.length
 ·refine .inr ⟨⟨xs,xs[i],q,by simp [hlt]⟩,Pv (i+1),fun σ' H' p'=>⟨xs.length - (i+1),by omega,rfl,hlt,p'⟩,fun x H' y=>?_⟩
  obtain ⟨e,y⟩:=y
  subst e
  exact hs i x σ _ (y xs q) p
 ·have e:i=xs.length:=by omega
  subst e
  exact .inl ⟨⟨xs,q,bg9 _⟩,hd σ H p⟩
noncomputable abbrev R2:=V->V->Hp->VK->Prop
noncomputable def cJ (X:Cx) (f:Value->Value->Sem Value) (r:R2):Prop:=
 ∀ (pins:List (Addr × Obj)) (s:Shared) (σ:St) (H:Hp) (x y:V) (v u:Value) (Q:VK),a6 X pins σ H s->aV x v->aV y u->r x y H Q->
  wpAny (model X.prog X.w) X.A (f v u) (EP X pins σ Q) X.xe s
noncomputable def dQ (X:Cx) (f:Value) (r:List V->Hp->VK->Prop):Prop:=
 ∀ (pins:List (Addr × Obj)) (s:Shared) (σ:St) (H:Hp) (xs:List V) (us:List Value) (Q:VK),a6 X pins σ H s->aM xs us->r xs H Q->
  wpAny (model X.prog X.w) X.A (call f us) (EP X pins σ Q) X.xe s
noncomputable def ao7 (X:Cx) (r:V->Hp->(Bool->Hp->Prop)->Prop):Prop:=
 ∀ (pins:List (Addr × Obj)) (s:Shared) (σ:St) (H:Hp) (x:V) (v:Value) (Q:Bool->Hp->Prop),a6 X pins σ H s->aV x v->r x H Q->
  wpAny (model X.prog X.w) X.A (truthy v) (TP X pins σ Q) X.xe s
noncomputable def o4 (r:R2) (ta tb:TE):TE:=fun σ H Q=>ta σ H fun x H1=>tb σ H1 fun y H2=>r x y H2 Q
noncomputable def rI (C:Int->Int->Prop) (g:Int->Int->V):R2:=fun x y H Q=>∃ i j,x = .int i/\y = .int j/\C i j/\Q (g i j) H
noncomputable def j9 (g:Int->Int->V):R2:=fun x y H Q=>∃ i j,x = .int i/\y = .int j/\Q (g i j) H
section
variable {X : Cx} {a b c : Expr} {ta tb tc : TE} {pos : Pos}
theorem uF (ha:PE X a ta) (hb:PE X b tb) {pins:List (Addr × Obj)}{s:Shared}{σ:St}{H:Hp}{R:V->V->Hp->Prop} (I:a6 X pins σ H s)
  (h:ta σ H fun x H1=>tb σ H1 fun y H2=>R x y H2) {Q:Value->Shared->Prop}{f:Value->Value->Sem Value}
  (hf:∀ v u s2 x y H2,a6 X pins σ H2 s2->aV x v->aV y u->R x y H2->wpAny (model X.prog X.w) X.A (f v u) Q X.xe s2) :
  wpAny (model X.prog X.w) X.A (eval a X.env) (fun v s₁=>wpAny (model X.prog X.w) X.A (eval b X.env) (fun u s₂=>wpAny (model X.prog X.w) X.A (f v u) Q X.xe s₂) X.xe s₁) X.xe s:=by
 refine aN (ha pins s σ H _ I h) fun v s1 ⟨x,H1,I1,r1,q1⟩=>?_
 refine aN (hb pins s1 σ H1 _ I1 q1) fun u s2 ⟨y,H2,I2,r2,q2⟩=>?_
 exact hf v u s2 x y H2 I2 r1 r2 q2
theorem ao8 {op:Operator}{r:R2} (ho:cJ X (binaryOp op) r) (ha:PE X a ta) (hb:PE X b tb):PE X (.BinOp a op b pos) (o4 r ta tb):=by
 intro pins s σ H Q I h
 exact wpAny_BinOp (uF ha hb I h fun v u s2 x y H2 I2 rx ry q=>ho pins s2 σ H2 x y v u Q I2 rx ry q)
theorem qI {f:Value->Value->Sem Value}{C:Int->Int->Prop}{g:Int->Int->Int}
  (rule:∀ (i j:Int) (t u:Tok) (s:Shared) (Q:Value->Shared->Prop) (E:Value->Shared->Prop),C i j->Q (.int (g i j) s.toks) { s with toks:=s.toks+1 }->wpAny (model X.prog X.w) X.A (f (.int i t) (.int j u)) Q E s) :
  cJ X f (rI C fun i j=>.int (g i j)):=by
 intro pins s σ H x y v u Q I rx ry h
 obtain ⟨i,j,rfl,rfl,hc,q⟩:=h
 obtain ⟨t,rfl⟩:=rx
 obtain ⟨t',rfl⟩:=ry
 exact rule i j t t' s _ _ hc ⟨.int (g i j),H,I.tok _,⟨_,rfl⟩,q⟩
theorem uG {f:Value->Value->Sem Value}{g:Int->Int->Int}
  (rule:∀ (i j:Int) (t u:Tok) (s:Shared) (Q:Value->Shared->Prop) (E:Value->Shared->Prop),Q (.int (g i j) s.toks) { s with toks:=s.toks+1 }->wpAny (model X.prog X.w) X.A (f (.int i t) (.int j u)) Q E s) :
  cJ X f (j9 fun i j=>.int (g i j)):=by
 intro pins s σ H x y v u Q I rx ry h
 obtain ⟨i,j,rfl,rfl,q⟩:=h
 obtain ⟨t,rfl⟩:=rx
 obtain ⟨t',rfl⟩:=ry
 exact rule i j t t' s _ _ ⟨.int (g i j),H,I.tok _,⟨_,rfl⟩,q⟩
theorem uH {f:Value->Value->Sem Value}{g:Int->Int->Bool}
  (rule:∀ (i j:Int) (t u:Tok) (s:Shared) (Q:Value->Shared->Prop) (E:Value->Shared->Prop),Q (.bool (g i j)) s->wpAny (model X.prog X.w) X.A (f (.int i t) (.int j u)) Q E s) :
  cJ X f (j9 fun i j=>.bl (g i j)):=by
 intro pins s σ H x y v u Q I rx ry h
 obtain ⟨i,j,rfl,rfl,q⟩:=h
 obtain ⟨t,rfl⟩:=rx
 obtain ⟨t',rfl⟩:=ry
 exact rule i j t t' s _ _ ⟨.bl (g i j),H,I,rfl,q⟩
noncomputable def uI (i j:Int):Prop:=0 < j/\j < 1073741824
noncomputable def o5 (i j:Int):Prop:=(-(2 ^ 64) < i/\i < 2 ^ 64) ∨ (-(2 ^ 64) < j/\j < 2 ^ 64)
theorem o5.ok {i j:Int} (h:o5 i j):IntMulOk i j:=by
 rcases h with ⟨h1,h2⟩ | ⟨h1,h2⟩
 ·exact .of_left (intBits_le_64 h1 h2)
 ·exact .of_right (intBits_le_64 h1 h2)
theorem ao9 (k:Nat):(0:Int)<=2 ^ k:=by
 rw [two_pow_cast]
 exact Int.natCast_nonneg _
theorem ap0:cJ X (binaryOp .Add) (j9 fun i j=>.int (i+j)):=uG fun _ _ _ _ _ _ _ q=>add_int q
theorem ap1:cJ X (binaryOp .Sub) (j9 fun i j=>.int (i - j)):=uG fun _ _ _ _ _ _ _ q=>sub_int q
theorem ap2:cJ X (binaryOp .Mult) (rI o5 fun i j=>.int (i * j)):=qI fun _ _ _ _ _ _ _ hc q=>mul_int q hc.ok
theorem ap3:cJ X (binaryOp .FloorDiv) (rI uI fun i j=>.int (i / j)):=qI fun i j _ _ _ _ _ hc q=>by
 have h1:(0:Int) < j:=hc.1
 have h2:j < 1073741824:=hc.2
 exact floordiv_int (by omega) (by rw [Int.fdiv_eq_ediv_of_nonneg i (by omega)]; exact q) (.inl (PyProof.noPylong_small (by omega)))
theorem ap4:cJ X (binaryOp .Mod) (rI (fun _ j=>0 < j) fun i j=>.int (i % j)):=qI fun i j _ _ _ _ _ hc q=>by
 have h1:(0:Int) < j:=hc
 exact mod_int' (by omega) (by rw [Int.fmod_eq_emod_of_nonneg i (by omega)]; exact q)
theorem ap5:cJ X (binaryOp .RShift) (rI (fun _ j=>0<=j) fun i j=>.int (i / 2 ^ j.toNat)):=qI fun i j _ _ _ _ _ hc q=>
 rshift_int hc (by rw [Int.fdiv_eq_ediv_of_nonneg i (ao9 _)]; exact q)
theorem ap6:cJ X (binaryOp .BitAnd) (j9 fun i j=>.int (Builtin.bitAnd i j)):=uG fun _ _ _ _ _ _ _ q=>and_int q
end
noncomputable def B1:V->V->Bool
 | .non,.non=>true | .non,.int _=>true | .int _,.non=>true | .non,.bl _=>true | .bl _,.non=>true | .non,.str _=>true | .str _,.non=>true
 | .int _,.int _=>true | .bl _,.bl _=>true | .str _,.str _=>true | .byt _,.byt _=>true
 | .int _,.str _=>true | .str _,.int _=>true | .bl _,.str _=>true | .str _,.bl _=>true
 | _,_=>false
noncomputable def B2:R2:=fun x y H Q=>B1 x y=true/\Q (.bl (decide (x=y))) H
noncomputable def uJ:R2:=fun x y H Q=>B1 x y=true/\Q (.bl (!decide (x=y))) H
theorem B3 {i j:Int}:decide (V.int i=V.int j)=(i == j):=by
 rw [bl8]
 simp
theorem B4 {i j:Bool}:decide (V.bl i=V.bl j)=(i == j):=by
 rw [bl8]
 simp
theorem B5 {i j:Str}:decide (V.str i=V.str j)=(i == j):=by
 rw [bl8]
 simp
theorem B6 {i j:Array UInt8}:decide (V.byt i=V.byt j)=(i.toList == j.toList):=by
 rw [bl8]
 cases i
 cases j
 simp
section
variable {X : Cx} {a b c : Expr} {ta tb tc : TE} {pos : Pos}
theorem bZ {pins:List (Addr × Obj)}{σ:St}{H:Hp}{s:Shared}{Q:VK}{k k':Bool} (I:a6 X pins σ H s) (q:Q (.bl k) H) (e:k=k'):EP X pins σ Q (.bool k') s:=by
 subst e
 exact⟨.bl k,H,I,rfl,q⟩
theorem B7:cJ X (compareOp .Eq) B2:=by
 intro pins s σ H x y v u Q I rx ry h
 obtain ⟨hs,q⟩:=h
 cases x with
 | non=>
  cases rx
  cases y with
  | non=>cases ry; exact PySem.EqNone.eq_none_none (bZ I q (by simp))
  | bl j=>cases ry; exact PySem.EqNone.eq_none_bool (bZ I q (by simp))
  | int j=>obtain ⟨t',rfl⟩:=ry; exact PySem.EqNone.eq_none_int (bZ I q (by simp))
  | str j=>obtain ⟨t',rfl⟩:=ry; exact PySem.EqNone.eq_none_str (bZ I q (by simp))
  | _=>exact absurd (show false=true from hs) bi5
 | bl i=>
  cases rx
  cases y with
  | non=>cases ry; exact PySem.EqNone.eq_bool_none (bZ I q (by simp))
  | bl j=>cases ry; exact eq_bool (bZ I q B4)
  | str j=>obtain ⟨t',rfl⟩:=ry; exact PySem.EqMixed.eq_bool_str (bZ I q (by simp))
  | _=>exact absurd (show false=true from hs) bi5
 | int i=>
  obtain ⟨t,rfl⟩:=rx
  cases y with
  | non=>cases ry; exact PySem.EqNone.eq_int_none (bZ I q (by simp))
  | int j=>obtain ⟨t',rfl⟩:=ry; exact eq_int (bZ I q B3)
  | str j=>obtain ⟨t',rfl⟩:=ry; exact PySem.EqMixed.eq_int_str (bZ I q (by simp))
  | _=>exact absurd (show false=true from hs) bi5
 | str i=>
  obtain ⟨t,rfl⟩:=rx
  cases y with
  | non=>cases ry; exact PySem.EqNone.eq_str_none (bZ I q (by simp))
  | bl j=>cases ry; exact PySem.EqMixed.eq_str_bool (bZ I q (by simp))
  | int j=>obtain ⟨t',rfl⟩:=ry; exact PySem.EqMixed.eq_str_int (bZ I q (by simp))
  | str j=>obtain ⟨t',rfl⟩:=ry; exact eq_str (bZ I q B5)
  | _=>exact absurd (show false=true from hs) bi5
 | byt i=>
  obtain ⟨t,rfl⟩:=rx
  cases y with
  | byt j=>obtain ⟨t',rfl⟩:=ry; exact PySem.W.eq_bytes (bZ I q B6)
  | _=>exact absurd (show false=true from hs) bi5
 | _=>cases y <;> exact absurd (show false=true from hs) bi5
theorem B8:cJ X (compareOp .NotEq) uJ:=by
 intro pins s σ H x y v u Q I rx ry h
 obtain ⟨hs,q⟩:=h
 cases x with
 | non=>
  cases rx
  cases y with
  | non=>cases ry; exact PySem.EqNone.ne_none_none (bZ I q (by simp))
  | bl j=>cases ry; exact PySem.EqNone.ne_none_bool (bZ I q (by simp))
  | int j=>obtain ⟨t',rfl⟩:=ry; exact PySem.EqNone.ne_none_int (bZ I q (by simp))
  | str j=>obtain ⟨t',rfl⟩:=ry; exact PySem.EqNone.ne_none_str (bZ I q (by simp))
  | _=>exact absurd (show false=true from hs) bi5
 | bl i=>
  cases rx
  cases y with
  | non=>cases ry; exact PySem.EqNone.ne_bool_none (bZ I q (by simp))
  | bl j=>cases ry; exact ne_bool (bZ I q (congrArg not B4))
  | str j=>obtain ⟨t',rfl⟩:=ry; exact PySem.EqMixed.ne_bool_str (bZ I q (by simp))
  | _=>exact absurd (show false=true from hs) bi5
 | int i=>
  obtain ⟨t,rfl⟩:=rx
  cases y with
  | non=>cases ry; exact PySem.EqNone.ne_int_none (bZ I q (by simp))
  | int j=>obtain ⟨t',rfl⟩:=ry; exact ne_int (bZ I q (congrArg not B3))
  | str j=>obtain ⟨t',rfl⟩:=ry; exact PySem.EqMixed.ne_int_str (bZ I q (by simp))
  | _=>exact absurd (show false=true from hs) bi5
 | str i=>
  obtain ⟨t,rfl⟩:=rx
  cases y with
  | non=>cases ry; exact PySem.EqNone.ne_str_none (bZ I q (by simp))
  | bl j=>cases ry; exact PySem.EqMixed.ne_str_bool (bZ I q (by simp))
  | int j=>obtain ⟨t',rfl⟩:=ry; exact PySem.EqMixed.ne_str_int (bZ I q (by simp))
  | str j=>obtain ⟨t',rfl⟩:=ry; exact ne_str (bZ I q (congrArg not B5))
  | _=>exact absurd (show false=true from hs) bi5
 | byt i=>
  obtain ⟨t,rfl⟩:=rx
  cases y with
  | byt j=>obtain ⟨t',rfl⟩:=ry; exact PySem.W.ne_bytes (bZ I q (congrArg not B6))
  | _=>exact absurd (show false=true from hs) bi5
 | _=>cases y <;> exact absurd (show false=true from hs) bi5
theorem qJ:cJ X (compareOp .Lt) (j9 fun i j=>.bl (decide (i < j))):=uH fun _ _ _ _ _ _ _ q=>lt_int q
theorem ap7:cJ X (compareOp .Gt) (j9 fun i j=>.bl (decide (j < i))):=uH fun _ _ _ _ _ _ _ q=>gt_int q
theorem B9:cJ X (compareOp .GtE) (j9 fun i j=>.bl (decide (j<=i))):=uH fun _ _ _ _ _ _ _ q=>ge_int q
theorem ap8:cJ X (compareOp .IsNot) (fun x y H Q=>y = .non/\Q (.bl (!decide (x = .non))) H):=by
 intro pins s σ H x y v u Q I rx ry h
 obtain ⟨rfl,q⟩:=h
 cases ry
 refine isnot_none_gen (bZ I q ?_)
 cases x <;> first
  | (cases rx; rfl)
  | (obtain ⟨t,rfl⟩:=rx; rfl)
theorem gK (b:Expr) {op:CmpOp} (h:op ≠ .In:=by decide) (h2:op ≠ .NotIn:=by decide):behindInMarks op b=false:=by
 have e1:(op == CmpOp.In)=false:=by cases op <;> first | rfl | exact absurd rfl h
 have e2:(op == CmpOp.NotIn)=false:=by cases op <;> first | rfl | exact absurd rfl h2
 cases b <;> simp [behindInMarks,e1,e2]
theorem uK {op:CmpOp}{r:R2} (ho:cJ X (compareOp op) r) (ha:PE X a ta) (hb:PE X b tb) (hm:behindInMarks op b=false):PE X (.Compare a [op] [b] pos) (o4 r ta tb):=by
 intro pins s σ H Q I h
 exact wpAny_Compare1 (uF ha hb I h fun v u s2 x y H2 I2 rx ry q=>ho pins s2 σ H2 x y v u Q I2 rx ry q) hm
noncomputable def ap9 (t:TE):TT:=fun σ H Q=>t σ H fun x H'=>∃ k,x = .bl k/\Q k H'
theorem aq0 {op:CmpOp}{r:R2} (ho:cJ X (compareOp op) r) (ha:PE X a ta) (hb:PE X b tb) (hm:behindInMarks op b=false):PT X (.Compare a [op] [b] pos) (ap9 (o4 r ta tb)):=by
 intro pins s σ H Q I h
 refine wpAny_isTrue_Compare1 (aN (ha pins s σ H _ I h) fun v s1 ⟨x,H1,I1,r1,q1⟩=>aN (hb pins s1 σ H1 _ I1 q1) fun u s2 ⟨y,H2,I2,r2,q2⟩=>
  aN (ho pins s2 σ H2 x y v u _ I2 r1 r2 q2) fun c s3 ⟨z,H3,I3,r3,k,e,q3⟩=>?_) hm
 subst e
 cases r3
 exact bw0 ⟨H3,I3,q3⟩
noncomputable def uL (K:PySem.W.Frag) (x:V) (H:Hp) (k:Bool):Prop:=
 match x with
 | .non=>k=false
 | .bl b=>k=b
 | .int i=>k=(i != 0)
 | .str y=>y.length<=sizeLine/\k=((y.length:Int) != 0)
 | .byt y=>y.size<=sizeLine/\k=((y.size:Int) != 0)
 | .ref p=>(∃ xs,aK K H p xs/\k = !xs.isEmpty) ∨ (∃ xs,aQ K H p xs/\k = !xs.isEmpty) ∨ ∃ kvs,H p=some (.dK kvs)/\k = !kvs.isEmpty
 | _=>False
theorem aq1 {κ:Type}{kvs:List (κ × V)}{vs:List (κ × Value)} (r:KV kvs vs):(!vs.isEmpty) = !kvs.isEmpty:=by
 cases r <;> rfl
theorem C0 {xs:List V}{its:List Value} (r:aM xs its):(!its.toArray.isEmpty) = !xs.isEmpty:=by
 cases r <;> simp
theorem mJ:(sizeLine:Nat) < 2 ^ 63:=by rw [sizeLine_eq]; decide
theorem aq2:ao7 X (fun x H Q=>∃ k,uL X.K x H k/\Q k H):=by
 intro pins s σ H x v Q I rx h
 obtain ⟨k,e,q⟩:=h
 have hl:=mJ
 have hs:sizeLine=16777216:=sizeLine_eq
 cases x with
 | non=>
  cases rx
  have e':k=false:=e
  subst e'
  exact truthy_none ⟨H,I,q⟩
 | bl b=>
  cases rx
  have e':k=b:=e
  subst e'
  exact bw0 ⟨H,I,q⟩
 | int i=>
  obtain ⟨t,rfl⟩:=rx
  have e':k=(i != 0):=e
  subst e'
  exact PySem.P.truthy_int ⟨H,I,q⟩
 | str y=>
  obtain ⟨t,rfl⟩:=rx
  obtain ⟨hy,e'⟩:y.length<=sizeLine/\k=((y.length:Int) != 0):=e
  subst e'
  exact PySem.P.truthy_str (by omega) ⟨H,I.tok _,q⟩
 | byt y=>
  obtain ⟨t,rfl⟩:=rx
  obtain ⟨hy,e'⟩:y.size<=sizeLine/\k=((y.size:Int) != 0):=e
  subst e'
  exact PySem.W.truthy_bytes (by omega) ⟨H,I.tok _,q⟩
 | ref p=>
  cases rx
  have e':(∃ xs,aK X.K H p xs/\k = !xs.isEmpty) ∨ (∃ xs,aQ X.K H p xs/\k = !xs.isEmpty) ∨ ∃ kvs,H p=some (.dK kvs)/\k = !kvs.isEmpty:=e
  rcases e' with ⟨xs,hx,e'⟩ | ⟨xs,hx,e'⟩ | ⟨kvs,hx,e'⟩
  ·subst e'
   obtain ⟨its,r,pl,hz⟩:=I.list hx
   have hlen:=r.length
   exact wpAny_truthy_list pl.isList (by simp only [bh0]; omega) ⟨H,I.tok _,by rw [C0 r]; exact q⟩
  ·subst e'
   obtain ⟨its,r,pl,hz⟩:=I.tuple hx
   have hlen:=r.length
   exact truthy_tuple pl (by simp only [bh0]; omega) ⟨H,I.tok _,by rw [C0 r]; exact q⟩
  ·subst e'
   obtain ⟨hz,hS,vs,r,m⟩:kvs.length<=sizeLine/\(p == sysModules)=false/\∃ vs,KV kvs vs/\s.heap.DictOf (e8 X.prog X.w) p vs:=I.hok p _ hx
   have hlen:kvs.length=vs.length:=Paired.length r
   exact wpAny_truthy_dict hS m (by omega) ⟨H,I.tok _,by rw [aq1 r]; exact q⟩
 | _=>exact (show False from e).elim
theorem aq3 (ha:PE X a ta) (he:∀ whole,isTrue a X.env whole=(do let v <- whole; standAt a.pos; holding [v] (truthy v))) :
  PT X a (fun σ H Q=>ta σ H fun x H'=>∃ k,uL X.K x H' k/\Q k H'):=by
 intro pins s σ H Q I h
 exact isTrue_plain (aN (ha pins s σ H _ I h) fun v s1 ⟨x,H1,I1,r1,q1⟩=>aq2 pins s1 σ H1 x v Q I1 r1 q1) (he _)
theorem jA {x:V}{us:List Value} (r:aM [x] us):∃ u,us = [u]/\aV x u:=by
 cases r with
 | cons r1 r2=>cases r2; exact⟨_,rfl,r1⟩
theorem C1 {x y:V}{us:List Value} (r:aM [x,y] us):∃ u w',us = [u,w']/\aV x u/\aV y w':=by
 cases r with
 | cons r1 r2=>
  cases r2 with
  | cons r3 r4=>cases r4; exact⟨_,_,rfl,r1,r3⟩
theorem aq4 (hc:X.calm=true):dQ X (.builtin "max") (fun xs H Q=>∃ i j,xs = [.int i,.int j]/\Q (.int (if j > i then j else i)) H):=by
 intro pins s σ H xs us Q I r h
 obtain ⟨i,j,rfl,q⟩:=h
 obtain ⟨u,w',rfl,⟨t,rfl⟩,⟨t',rfl⟩⟩:=C1 r
 refine max_two_ints (I.ok.hd hc) fun h' tk k=>⟨_,H,I.kept k,?_,q⟩
 by_cases hj:j > i
 ·rw [if_pos hj,if_pos hj]; exact⟨_,rfl⟩
 ·rw [if_neg hj,if_neg hj]; exact⟨_,rfl⟩
theorem aq5 (hc:X.calm=true):dQ X (.builtin "min") (fun xs H Q=>∃ i j,xs = [.int i,.int j]/\Q (.int (if j < i then j else i)) H):=by
 intro pins s σ H xs us Q I r h
 obtain ⟨i,j,rfl,q⟩:=h
 obtain ⟨u,w',rfl,⟨t,rfl⟩,⟨t',rfl⟩⟩:=C1 r
 refine min_two_ints (I.ok.hd hc) fun h' tk k=>⟨_,H,I.kept k,?_,q⟩
 by_cases hj:j < i
 ·rw [if_pos hj,if_pos hj]; exact⟨_,rfl⟩
 ·rw [if_neg hj,if_neg hj]; exact⟨_,rfl⟩
end
structure cA (k:Nat) (A:Around):Prop where
 hd:A.handled=none
 dp:A.depth+3 * k+5 < recursionLimit
 un:A.units+16 * k+200 < cLine
theorem cA.mono {j k:Nat}{A:Around} (r:cA k A) (h:j<=k):cA j A:=⟨r.hd,by have:=r.dp; omega,by have:=r.un; omega⟩
theorem cA.deeper {k:Nat}{A:Around} (r:cA (k+1) A) (env:Env):cA k (A.deeper env):=
 ⟨r.hd,by have:=r.dp; show A.depth+1+3 * k+5 < _; omega,by have:=r.un; show A.units+3+16 * k+200 < _; omega⟩
theorem cA.depth {k:Nat}{A:Around} (r:cA k A):A.depth < recursionLimit:=by have:=r.dp; omega
theorem cA.units {k:Nat}{A:Around} (r:cA k A):A.units+64 < cLine:=by have:=r.un; omega
noncomputable def jM:TA:=fun _ H Q=>Q [] H
noncomputable def iI (ta:TE) (tr:TA):TA:=fun σ H Q=>ta σ H fun x H1=>tr σ H1 fun xs H2=>Q (x :: xs) H2
section
variable {X : Cx} {e : Expr} {es : List Expr} {te : TE} {t : TA} {pos : Pos}
theorem dF:PA X [] jM:=fun _ _ _ _ H Q I h=>Calls.spliced_nil ⟨[],H,I,.nil,h⟩
theorem cO (ha:PE X e te) (hr:PA X es t) (hs:starEach (e :: es) X.env=(false,eval e X.env) :: starEach es X.env:=by rfl):PA X (e :: es) (iI te t):=by
 intro pos pins s σ H Q I h
 rw [hs]
 show wpAny _ _ (spliced ((false,eval e X.env) :: backTo pos (starEach es X.env))) _ _ s
 refine Calls.spliced_cons (aN (ha pins s σ H _ I h) fun u s1 ⟨x,H1,I1,r1,q1⟩=>?_)
 exact aN (hr pos pins s1 σ H1 _ I1 q1) fun us s2 ⟨xs,H2,I2,r2,q2⟩=>⟨x :: xs,H2,I2,.cons r1 r2,q2⟩
noncomputable def C2 (t:TA):TE:=fun σ H Q=>t σ H fun xs H1=>xs.length<=sizeLine/\∀ p,H1 p=none->Q (.ref p) (upd H1 p (.tup xs))
noncomputable def C3 (t:TA):TE:=fun σ H Q=>t σ H fun xs H1=>xs.length<=sizeLine/\∀ p,H1 p=none->Q (.ref p) (upd H1 p (.lst xs))
theorem aq6 {x1} (h:PA X es t):PE X (.Tuple es x1 pos) (C2 t):=by
 intro pins s σ H Q I hq
 refine wpAny_Tuple_spliced (aN (h pos pins s σ H _ I hq) fun us s1 ⟨xs,H1,I1,r,z,q⟩=>⟨by rw [<- r.length]; exact z,?_⟩)
 have hf:H1 s1.heap.objs.size=none:=I1.hok.fresh (bg9 _)
 refine⟨.ref s1.heap.objs.size,upd H1 s1.heap.objs.size (.tup xs),I1.laid (t':=s1.toks) (fun b u e=>bg1 _ e) (bg9 _) ?_,rfl,q _ hf⟩
 exact⟨z,us,r,⟨_,bi8 _ rfl,rfl,_,rfl⟩,j6.new _ _ rfl⟩
theorem uM (h:PA X es t):PE X (.List es pos) (C3 t):=by
 intro pins s σ H Q I hq
 refine wpAny_List_spliced (aN (h pos pins s σ H _ I hq) fun us s1 ⟨xs,H1,I1,r,z,q⟩=>⟨by rw [<- r.length]; exact z,?_⟩)
 have hf:H1 s1.heap.objs.size=none:=I1.hok.fresh (bg9 _)
 refine⟨.ref s1.heap.objs.size,upd H1 s1.heap.objs.size (.lst xs),I1.laid (t':=s1.toks) (fun b u e=>bg1 _ e) (bg9 _) ?_,rfl,q _ hf⟩
 exact⟨z,us,0,r,bi8 _ rfl⟩
end
noncomputable abbrev Sp:=List V->Hp->VK->XK->Prop
noncomputable abbrev hZ:=List Env->Hp->Shared->XK->Value->Shared->Prop
structure qK (P:Program) (w:World) (K:PySem.W.Frag) (mg:Str->Option Value) (base:Heap) (A:Around) (outer:List Env) (s:Shared) (H:Hp):Prop where
 frames:A.frames=some outer
 mod:Mod K mg base
 bs:∀ b o,base.get? b=some o->s.heap.get? b=some o/\H b=none
 bsz:base.objs.size<=s.heap.objs.size
 funs:s.heap.FunFrames base outer
 frf:∀ b ∈ c8 outer,H b=none
 hok:bY P w H s.heap
 bare:AllBare s.gens
noncomputable def CE (outer:List Env) (P:Program) (w:World) (H:Hp) (s:Shared) (Q:VK) (u:Value) (s':Shared):Prop:=
 ∃ v H',s'.os=s.os/\AllBare s'.gens/\Un (c8 outer) [] H H' s.heap s'.heap/\bY P w H' s'.heap/\aV v u/\Q v H'
noncomputable def CR (CX:hZ) (outer:List Env) (P:Program) (w:World) (H:Hp) (s:Shared) (Q:VK) (E:XK) (r:Result) (s':Shared):Prop:=
 match r with
 | .ok (.ret u)=>CE outer P w H s Q u s'
 | .ok _=>False
 | .error e=>CX outer H s E e s'
structure cP (P:Program) (w:World) (K:PySem.W.Frag) (mg:Str->Option Value) (base:Heap) (CX:hZ) (k:Nat) (f:Addr) (fd:FuncData) (ps:List Str) (sp:Sp):Prop where
 len:∀ vs H Q E,sp vs H Q E->vs.length=ps.length
 run:∀ (A:Around) (outer:List Env) (s:Shared) (H:Hp) (args:Args) (us:List Value) (vs:List V) (Q:VK) (E:XK),cA k A->qK P w K mg base A outer s H->BindsTo s fd args (ps.zip us)->aM vs us->sp vs H Q E->
  codeAny (model P w) A (.call (.ref f) args) (CR CX outer P w H s Q E) s
theorem cP.imp {P:Program}{w:World}{K:PySem.W.Frag}{mg:Str->Option Value}{base:Heap}{CX:hZ}{k:Nat}{f:Addr}{fd:FuncData}{ps:List Str}{sp sp':Sp} (F:cP P w K mg base CX k f fd ps sp)
  (h:∀ vs H Q E,sp' vs H Q E->sp vs H Q E):cP P w K mg base CX k f fd ps sp':=
 ⟨fun vs H Q E q=>F.len vs H Q E (h _ _ _ _ q),fun A outer s H args us vs Q E hr he hb hv hs=>F.run A outer s H args us vs Q E hr he hb hv (h _ _ _ _ hs)⟩
section
variable {X : Cx} {pins : List (Addr × Obj)} {σ : St} {H : Hp} {s s' : Shared}
theorem a6.env0 (I:a6 X pins σ H s):qK X.prog X.w X.K X.mg X.base X.A X.stack s H:=
 ⟨I.ok.frames,I.ok.mod,I.bs,bl1 I.ok.bsz I.sz,I.stack,I.stkFree,I.hok,I.bare⟩
theorem a6.after {Q:VK}{u:Value} (I:a6 X pins σ H s) (h:CE X.stack X.prog X.w H s Q u s'):EP X pins σ Q u s':=by
 obtain ⟨v,H',os,bare,un,hok,r,q⟩:=h
 obtain ⟨hh,g,d,t,os'⟩:=s'
 obtain rfl:os'=s.os:=os
 exact⟨v,H',I.call (h':=hh) (g':=g) (d':=d) (t':=t) (ch:=[]) un hok bare (fun b z=>absurd z (by simp)),r,q⟩
end
noncomputable def uN (sp:Sp) (dvs:List V) (E:XK) (t:TA):TE:=fun σ H Q=>t σ H fun vs H1=>sp (vs ++ dvs) H1 Q E
noncomputable def jB (K:PySem.W.Frag) (fd:FuncData) (ps:List Str) (ds:List Value):Prop:=
 ∀ (s:Shared) (us:List Value),K.In s.heap->(us ++ ds).length=ps.length->BindsTo s fd ⟨us,[]⟩ (ps.zip (us ++ ds))
theorem jB.all {K:PySem.W.Frag}{fd:FuncData}{ps:List Str} (h:∀ us:List Value,us.length=ps.length->bindArgs fd ⟨us,[]⟩=pure (ps.zip us)):jB K fd ps []:=fun s us _ hl=>by
 rw [bk4] at hl ⊢
 exact .of_eq (h us hl)
noncomputable def o6 (CX:hZ) (X:Cx) (E:XK):Prop:=∀ (pins:List (Addr × Obj)) (σ:St) (H:Hp) (s:Shared) (e:Value) (s':Shared),a6 X pins σ H s->CX X.stack H s E e s'->X.xe e s'
section
variable {X : Cx} {CX : hZ} {k : Nat} {f C : Addr} {fd : FuncData} {ps : List Str} {sp : Sp} {dvs : List V} {ds : List Value} {E : XK} {x m : Str} {p pos apos : Pos} {e o : Expr} {es : List Expr} {ta : TE} {t : TA}
theorem aq7 {pins:List (Addr × Obj)}{σ:St}{H:Hp}{s:Shared}{Q:VK}{us:List Value}{vs:List V} (F:cP X.prog X.w X.K X.mg X.base CX k f fd ps sp) (hr:cA k X.A) (hb:jB X.K fd ps ds) (hd:aM dvs ds) (hx:o6 CX X E)
  (I:a6 X pins σ H s) (r:aM vs us) (h:sp (vs ++ dvs) H Q E):wpAny (model X.prog X.w) X.A (call (.ref f) us) (EP X pins σ Q) X.xe s:=by
 have r2:aM (vs ++ dvs) (us ++ ds):=r.append hd
 have hl:(us ++ ds).length=ps.length:=by rw [<- r2.length]; exact F.len _ _ _ _ h
 refine wpAny_call (codeAny_mono (F.run X.A X.stack s H ⟨us,[]⟩ (us ++ ds) (vs ++ dvs) Q E hr I.env0 (hb s us I.kIn hl) r2 h) fun r s' hq=>?_)
 cases r with
 | error e=>exact hx pins σ H s e s' I hq
 | ok fl=>
  cases fl with
  | ret u=>exact I.after hq
  | next=>exact False.elim hq
  | brk=>exact False.elim hq
  | cont=>exact False.elim hq
theorem uO (F:cP X.prog X.w X.K X.mg X.base CX k f fd ps sp) (hr:cA k X.A) (hg:Gl X x) (hm:X.mg x=some (.ref f)) (hk:PySem.W.keepIn X.K (.ref f)=true) (hb:jB X.K fd ps ds) (hd:aM dvs ds) (hx:o6 CX X E)
  (ha:PA X (e :: es) t) (hdb:(x == ("__debug__" : Str))=false:=by decide) (he:starEach (e :: es) X.env=(false,eval e X.env) :: starEach es X.env:=by rfl) (hpl:(backTo pos (starEach es X.env)).any (·.1)=false:=by rfl) :
  PE X (.Call (.Name x p) (e :: es) [] pos) (uN sp dvs E t):=by
 intro pins s σ H Q I h
 refine wpAny_Call_Name_kw (zR I hg hm ?_ hdb)
 refine PySem.W.callWith_K (h₀:=X.base) I.ok.mod.kin hk (aN (ha pos pins s σ H _ I h) fun us s1 ⟨vs,H1,I1,r,q⟩=>⟨I1.kIn,?_⟩) he hpl
 exact aq7 F hr hb hd hx I1 r q
end
noncomputable def PK (X:Cx) (kws:List Keyword) (t:TA):Prop:=
 ∀ (pos:Pos) (pins:List (Addr × Obj)) (s:Shared) (σ:St) (H:Hp) (Q:List V->Hp->Prop),a6 X pins σ H s->t σ H Q->wpAny (model X.prog X.w) X.A (evalAll ((backToKw pos (keywordEach kws X.env)).map (·.2))) (AP X pins σ Q) X.xe s
structure FnScope (N P:List Str) (sc:Scope):Prop where
 kind:sc.kind = .function
 co:sc.isCoroutine=false
 gen:sc.isGenerator=false
 nd:N.Nodup
 pre:N.take P.length=P
 par:∀ x ∈ P,sc.names.lookup x=some .local ∨ sc.names.lookup x=some .cell
 nofree:∀ y ∈ sc.names,y.2 ≠ .free
theorem C4 {kindOf:Str->Option NameKind}{x:Str}:∀ {binds:List (Str × Value)}{m:Str->Option Value},(∀ v,(x,v) ∉ binds)->bindL kindOf binds m x=m x
 | [],_,_=>rfl
 | (n,v) :: r,m,h=>by
  unfold bindL
  rw [C4 fun w hw=>h w (bg6 _ hw)]
  split
  ·have:x ≠ n:=by rintro rfl; exact h v bg7
   simp [this]
  ·rfl
theorem C5 {kindOf:Str->Option NameKind}{x:Str}:∀ {binds:List (Str × Value)}{m:Str->Option Value},(∀ v,(x,v) ∉ binds)->bindC kindOf binds m x=m x
 | [],_,_=>rfl
 | (n,v) :: r,m,h=>by
  unfold bindC
  rw [C5 fun w hw=>h w (bg6 _ hw)]
  split
  ·rfl
  ·have:x ≠ n:=by rintro rfl; exact h v bg7
   simp [this]
theorem C6 {kindOf:Str->Option NameKind}{x:Str}{v:Value}:∀ {P:List Str}{vs:List Value}{i:Nat}{m:Str->Option Value},P.Nodup->P[i]? = some x->vs[i]? = some v->kindOf x=some .local->
  bindL kindOf (P.zip vs) m x=some v
 | [],_,_,_,_,h,_,_=>by simp at h
 | _ :: _,[],_,_,_,_,h,_=>by simp at h
 | p :: P,w :: vs,0,m,nd,h1,h2,hk=>by
  simp at h1 h2; subst h1; subst h2
  show bindL kindOf ((p,w) :: P.zip vs) m p=_
  unfold bindL
  rw [C4 fun v hv=>(bm6.mp nd).1 (List.of_mem_zip hv).1,if_pos hk]
  simp
 | p :: P,w :: vs,i+1,m,nd,h1,h2,hk=>by
  show bindL kindOf ((p,w) :: P.zip vs) m x=_
  unfold bindL
  exact C6 (i:=i) (bm6.mp nd).2 (by simpa using h1) (by simpa using h2) hk
theorem C7 {kindOf:Str->Option NameKind}{x:Str}{v:Value}:∀ {P:List Str}{vs:List Value}{i:Nat}{m:Str->Option Value},P.Nodup->P[i]? = some x->vs[i]? = some v->kindOf x ≠ some .local->
  bindC kindOf (P.zip vs) m x=some v
 | [],_,_,_,_,h,_,_=>by simp at h
 | _ :: _,[],_,_,_,_,h,_=>by simp at h
 | p :: P,w :: vs,0,m,nd,h1,h2,hk=>by
  simp at h1 h2; subst h1; subst h2
  show bindC kindOf ((p,w) :: P.zip vs) m p=_
  unfold bindC
  rw [C5 fun v hv=>(bm6.mp nd).1 (List.of_mem_zip hv).1,if_neg hk]
  simp
 | p :: P,w :: vs,i+1,m,nd,h1,h2,hk=>by
  show bindC kindOf ((p,w) :: P.zip vs) m x=_
  unfold bindC
  exact C7 (i:=i) (bm6.mp nd).2 (by simpa using h1) (by simpa using h2) hk
noncomputable def start (N:List Str) (vs:List V):St:=vs.map some ++ List.replicate (N.length - vs.length) none
noncomputable def dN (CX:hZ) (P:Program) (w:World) (K:PySem.W.Frag) (mg:Str->Option Value) (base:Heap) (N:List Str) (qual:Str) (scope:Scope) (f:Addr) (cd:Value) (A:Around) (outer:List Env) (s:Shared) (H:Hp) (E:XK):Cx where
 prog:=P
 w:=w
 K:=K
 mg:=mg
 base:=base
 A:=A.deeper (envOfC qual scope s.heap.objs.size f cd)
 N:=N
 s₀:=s
 H₀:=H
 env:=envOfC qual scope s.heap.objs.size f cd
 outer:=outer
 stack:=envOfC qual scope s.heap.objs.size f cd :: outer
 ex:=[]
 calm:=true
 fn:=fun _=>true
 pn:=[]
 xe:=fun e s'=>wpAny (model P w) (A.deeper (envOfC qual scope s.heap.objs.size f cd)) (leaving (envOfC qual scope s.heap.objs.size f cd) e) (fun _ s''=>CX outer H s E e s'') (fun e' s''=>CX outer H s E e' s'') s'
theorem C8 {sc:Scope}{n:Nat}{x:Str} (h:sc.names.lookup x=some .cell):∃ c,(cellsFrom n sc.names []).lookup x=some c:=by
 have q:=PySem.W.cellsFrom_some sc.names n [] (.inl h)
 exact Option.isSome_iff_exists.mp q
theorem aq8 {CX:hZ}{P:Program}{w:World}{K:PySem.W.Frag}{mg:Str->Option Value}{base:Heap}{N ps:List Str}{qual:Str}{scope:Scope}{f:Addr}{cd:Value}{A:Around}{outer:List Env}{s s1:Shared}{H:Hp}{E:XK}{us:List Value}{vs:List V}
  (S:FnScope N ps scope) (hd:A.handled=none) (e0:qK P w K mg base A outer s H) (hl:vs.length=ps.length) (r:aM vs us)
  (x:InCallC s s.heap.objs.size (bindL (envOfC qual scope s.heap.objs.size f cd).kindOf (ps.zip us) fun _=>none) (cellsFrom (s.heap.objs.size+1) scope.names []) (bindC (envOfC qual scope s.heap.objs.size f cd).kindOf (ps.zip us) fun _=>none) s1) :
  a6 (dN CX P w K mg base N qual scope f cd A outer s H E) [] (start N vs) H s1:=by
 have hpl:ps.length<=N.length:=by have:=congrArg List.length S.pre; rw [bn2] at this; omega
 obtain ⟨h1,tk,rfl,hk⟩:=x.done
 have noA:∀ b:Addr,b ∉ (dN CX P w K mg base N qual scope f cd A outer s H E).ex:=fun b z=>absurd (show b ∈ ([]:List Addr) from z) (by simp)
 refine⟨⟨e0.mod,S.kind,rfl,rfl,bg9 _,fun y z c h1 h2=>?_,fun y hy=>?_,fun y c _ h=>?_,fun _=>hd,Around.frames_deeper e0.frames,.inr ⟨rfl,rfl⟩,fun b z=>absurd z (noA b),e0.bs,e0.bsz,fun b _ _=>noA b,fun b z=>absurd z (noA b),e0.funs,e0.frf⟩,
  rfl,e0.bare,Un.kept hk,⟨_,x.toInCall.ns,fun i y v h1 h2 h3=>?_⟩,fun y c h=>⟨_,x.cell y c h⟩,e0.hok.fresh (bg9 _),fun y c h=>?_,fun p hp=>absurd (show p ∈ ([]:List (Addr × Obj)) from hp) (by simp),e0.hok.kept hk,?_⟩
 ·exact name_of_addr x.apart (bm9 h1) (bm9 h2)
 ·have hy:scope.names.lookup y=some .cell ∨ scope.names.lookup y=some .free:=hy
  rcases hy with hy | hy
  ·exact C8 hy
  ·exact absurd rfl (S.nofree _ (bm9 hy))
 ·exact bn7 (x.above y c (bm9 h))
 ·have hi:i < vs.length:=by
   unfold start at h2
   by_cases hi:i < vs.length
   ·exact hi
   ·rw [bs3 (by simpa using hi)] at h2
    rw [List.getElem?_replicate] at h2
    split at h2 <;> cases h2
  have ha:vs[i]? = some v:=by
   unfold start at h2
   rw [bm8 (by simpa using hi),bh5] at h2
   cases e:vs[i]? with
   | none=>rw [e] at h2; cases h2
   | some a=>rw [e] at h2; cases h2; rfl
  obtain ⟨u,hu,rv⟩:=r.get ha
  have hp:ps[i]? = some y:=by
   rw [<- S.pre,List.getElem?_take_of_lt (by omega)]; exact h1
  have ndP:ps.Nodup:=by rw [<- S.pre]; exact S.nd.sublist (List.take_sublist _ _)
  refine⟨u,rv,?_⟩
  rcases S.par y (bh9 hp) with k | k
  ·exact .inl ⟨k,C6 ndP hp hu k⟩
  ·obtain ⟨c,e⟩:=C8 (n:=s.heap.objs.size+1) k
   refine .inr ⟨.inl k,c,e,?_⟩
   have q:=x.cell y c e
   rw [C7 ndP hp hu (by show scope.names.lookup y ≠ _; rw [k]; decide)] at q
   exact q
 ·exact e0.hok.fresh (bn7 (x.above y c (bm9 h)))
 ·unfold start
  show _=N.length
  rw [bh6,bg5,bv6]
  omega
theorem C9 {CX:hZ}{P:Program}{w:World}{K:PySem.W.Frag}{mg:Str->Option Value}{base:Heap}{k:Nat}{f:Addr}{name qual:Str}{params:Arguments}{body:List Stmt}{scope:Scope}{dV kV doc pm cdv ct oc:Value}{an od:Option Addr}
  {osl:Array (Option Value)}{N ps:List Str}{sp:Sp} (lk:K.lookup f=some ⟨oc,od,.func (PySem.W.fnOf name qual params body scope dV kV doc pm an cdv ct),osl⟩) (hcd:PySem.W.codeIn K cdv qual=true) (S:FnScope N ps scope)
  (len:∀ vs H Q E,sp vs H Q E->vs.length=ps.length)
  (hbody:∀ (A:Around) (outer:List Env) (s:Shared) (H:Hp) (vs:List V) (Q:VK) (E:XK),cA k (A.deeper (envOfC qual scope s.heap.objs.size f cdv))->sp vs H Q E->
   ∃ t,eU (dN CX P w K mg base N qual scope f cdv A outer s H E) body t/\t { nx:=fun _ H'=>Q .non H',rt:=Q } (start N vs) H) :
  cP P w K mg base CX (k+1) f (PySem.W.fnOf name qual params body scope dV kV doc pm an cdv ct) ps sp:=by
 refine⟨len,fun A outer s H args us vs Q E hr e0 hb r hsp=>?_⟩
 have hl:=len _ _ _ _ hsp
 have KX:K.In s.heap:=e0.mod.kin.keeps fun b o e=>(e0.bs b o e).1
 have lim:s.heap.NoLimit:=e0.mod.nolimit.keeps fun b o e=>(e0.bs b o e).1
 have hkind:∀ y ∈ ps.zip us,scope.names.lookup y.1=some .local ∨ (scope.names.lookup y.1=some .cell/\((cellsFrom (s.heap.objs.size+1) scope.names []).lookup y.1).isSome=true):=fun ⟨n,v⟩ hy=>by
  rcases S.par n (List.of_mem_zip hy).1 with q | q
  ·exact .inl q
  ·exact .inr ⟨q,PySem.W.cellsFrom_some _ _ _ (.inl q)⟩
 refine codeAny_call_function hr.depth (KX _ _ lk) rfl S.co S.gen rfl (PySem.W.codeRec_of KX hcd) (hb _ _ _ _ ?_)
 refine wpAny_newFunctionEnv_cells S.kind hkind fun env he s1 x=>?_
 subst he
 refine⟨lim.keeps x.toInCall.keep,codeAny_func ?_⟩
 obtain ⟨t,ht,hq⟩:=hbody A outer s H vs Q E (hr.deeper _) hsp
 have I:a6 (dN CX P w K mg base N qual scope f cdv A outer s H E) [] (start N vs) H s1:=aq8 S hr.hd e0 hl r x
 refine bq7 (ht [] s1 (start N vs) H _ I hq) (fun fl s' hs=>?_) fun e s' hs=>hs
 have fin:∀ {σ':St}{H':Hp}{v:V}{u:Value},a6 (dN CX P w K mg base N qual scope f cdv A outer s H E) [] σ' H' s'->aV v u->Q v H'->CE outer P w H s Q u s':=
  fun {σ' H' v u} J rv q=>⟨v,H',J.os,J.bare,J.base,J.hok,rv,q⟩
 cases fl with
 | ret u=>
  obtain ⟨v,σ',H',J,rv,q⟩:=hs
  exact fin J rv q
 | next=>
  obtain ⟨σ',H',J,q⟩:=hs
  exact fin (v:=V.non) (u:=Value.none) J rfl q
 | brk=>
  obtain ⟨_,_,_,q⟩:=hs
  exact False.elim q
 | cont=>
  obtain ⟨_,_,_,q⟩:=hs
  exact False.elim q
section
variable {X : Cx} {x : Str} {p pos : Pos} {e : Expr} {es : List Expr} {t : TA} {id T : String} {r : List V → Hp → VK → Prop}
noncomputable def uP (r:List V->Hp->VK->Prop) (t:TA):TE:=fun σ H Q=>t σ H fun vs H1=>r vs H1 Q
theorem uQ (hc:dQ X (.builtin id) r) (hg:Gl X x) (hm:X.mg x=none) (hv:bootBuiltins x=some (.builtin id)) (ha:PA X (e :: es) t) (hn:x ≠ "__name__":=by decide) (hdb:(x == ("__debug__" : Str))=false:=by decide)
  (he:starEach (e :: es) X.env=(false,eval e X.env) :: starEach es X.env:=by rfl) (hpl:(backTo pos (starEach es X.env)).any (·.1)=false:=by rfl):PE X (.Call (.Name x p) (e :: es) [] pos) (uP r t):=by
 intro pins s σ H Q I h
 refine wpAny_Call_Name_kw (jL I hg hm hv ?_ hn hdb)
 exact PyProof.Rows.callWith_builtin1 (aN (ha pos pins s σ H _ I h) fun us s1 ⟨vs,H1,I1,r1,q1⟩=>hc pins s1 σ H1 vs us Q I1 r1 q1) he hpl
theorem uR (hc:dQ X (.type T) r) (hg:Gl X x) (hm:X.mg x=none) (hv:bootBuiltins x=some (.type T)) (ha:PA X (e :: es) t) (hn:x ≠ "__name__":=by decide) (hdb:(x == ("__debug__" : Str))=false:=by decide)
  (he:starEach (e :: es) X.env=(false,eval e X.env) :: starEach es X.env:=by rfl) (hpl:(backTo pos (starEach es X.env)).any (·.1)=false:=by rfl):PE X (.Call (.Name x p) (e :: es) [] pos) (uP r t):=by
 intro pins s σ H Q I h
 refine wpAny_Call_Name_kw (jL I hg hm hv ?_ hn hdb)
 exact bn0 (aN (ha pos pins s σ H _ I h) fun us s1 ⟨vs,H1,I1,r1,q1⟩=>hc pins s1 σ H1 vs us Q I1 r1 q1) he hpl
end
end L2
namespace HT
open PySem PyProof.Rows
noncomputable def iJ:List Int->List Int->Bool
 | [],[]=>false
 | [],_ :: _=>true
 | _ :: _,[]=>false
 | x :: xs,y :: ys=>if x=y then iJ xs ys else decide (x < y)
theorem o7 (x y:Int) (xs ys:List Int):iJ (x :: xs) (y :: ys)=if x=y then iJ xs ys else decide (x < y):=rfl
theorem aq9:iJ [] []=false:=rfl
section
variable {prog : Program} {w : World} {A : Around} {E : Value → Shared → Prop} {s : Shared}
noncomputable def b6 (n d:Nat):Option Int->Nat
 | none=>d
 | some v=>if v < 0 then (v+(n:Int)).toNat else min v.toNat n
theorem ar0 (n d k:Nat):b6 n d (some (k:Int))=min k n:=by
 show (if (k:Int) < 0 then ((k:Int)+(n:Int)).toNat else min (k:Int).toNat n)=min k n
 rw [if_neg (by omega),bj8]
theorem ar1 (n d:Nat) (hd:d<=n) (o:Option Int):b6 n d o<=n:=by
 cases o with
 | none=>exact hd
 | some v=>
  show (if v < 0 then (v+(n:Int)).toNat else min v.toNat n)<=n
  by_cases hv:v < 0
  ·rw [if_pos hv]; omega
  ·rw [if_neg hv]; exact Nat.min_le_right _ _
theorem E1 (v:Int) (n d:Nat):(if v < 0 then max (v+(n:Int)) 0 else min v (n:Int))=((b6 n d (some v):Nat):Int):=by
 show (if v < 0 then max (v+(n:Int)) 0 else min v (n:Int))=(((if v < 0 then (v+(n:Int)).toNat else min v.toNat n):Nat):Int)
 by_cases hv:v < 0
 ·simp only [if_pos hv]; omega
 ·simp only [if_neg hv]; omega
theorem ar2 (lo hi:Option Int) (n:Nat):Builtin.Slice.sliceAdjust lo hi 1 (n:Int)=(((b6 n 0 lo:Nat):Int),((b6 n n hi:Nat):Int)):=by
 have h1 : ¬ ((1:Int) < 0):=by omega
 unfold Builtin.Slice.sliceAdjust
 simp only [h1,bp8]
 refine Prod.ext ?_ ?_
 ·cases lo with
  | none=>rfl
  | some v=>exact E1 v n 0
 ·cases hi with
  | none=>rfl
  | some v=>exact E1 v n n
theorem ar3 (i j:Nat):Builtin.Slice.slicePlaces (i:Int) (j:Int) 1=j - i:=by
 unfold Builtin.Slice.slicePlaces
 have h1:(1:Int) > 0:=by omega
 simp only [h1,if_true,Int.ediv_one]
 split <;> omega
theorem E2 {v:Value}{o:Option Int}{Q:Option Int->Shared->Prop} (p:IsPart v o) (h:Q o s):wpAny (model prog w) A (Builtin.Slice.slicePartIndex v) Q E s:=by
 cases p with
 | none=>exact slicePart_none h
 | int i t=>exact slicePart_int h
theorem E3 {sl:Addr}{vl vu:Value}{lo hi:Option Int}{n:Nat}{Q:Int × Int × Nat->Shared->Prop} (hs:s.heap.IsSliceOf sl vl vu .none) (pl:IsPart vl lo) (pu:IsPart vu hi)
  (h:Q (((b6 n 0 lo:Nat):Int),1,b6 n n hi - b6 n 0 lo) s):wpAny (model prog w) A (Builtin.Slice.sliceApplied (.ref sl) (pure (n:Int))) Q E s:=by
 obtain ⟨os,hos,hcs,hds⟩:=id hs
 unfold Builtin.Slice.sliceApplied Builtin.Slice.sliceFields
 refine bg0 (bg0 (bn8 hos hds (x:=vl) rfl (bg0 (bn8 hos hds (x:=vu) rfl (bg0 (bn8 hos hds (x:=.none) rfl (bh3 ?_)))))))
 refine bg0 (slicePart_none ?_)
 show wpAny _ _ (if ((1:Int) == 0)=true then _ else _) _ _ s
 rw [if_neg (by decide)]
 refine bg0 (E2 pl (bg0 (E2 pu (bg0 (bh3 ?_)))))
 show wpAny _ _ (match Builtin.Slice.sliceAdjust lo hi 1 (n:Int) with | (lo,hi)=>pure (lo,(1:Int),Builtin.Slice.slicePlaces lo hi 1)) _ _ s
 rw [ar2 lo hi n]
 show wpAny _ _ (pure (((b6 n 0 lo:Nat):Int),(1:Int),Builtin.Slice.slicePlaces ((b6 n 0 lo:Nat):Int) ((b6 n n hi:Nat):Int) 1)) _ _ s
 rw [ar3]
 exact bh3 h
theorem ar4 (xs:Array Value) (i k:Nat):((List.range k).filterMap fun (m:Nat)=>xs[((i:Int)+(m:Int) * 1).toNat]?).toArray=((xs.toList.drop i).take k).toArray:=by
 have e:(fun (m:Nat)=>xs[((i:Int)+(m:Int) * 1).toNat]?)=fun m=>xs[i+m]?:=by
  funext m
  have:((i:Int)+(m:Int) * 1).toNat=i+m:=by omega
  rw [this]
 rw [e]
 have:=pick_run xs i k
 rw [List.filterMap_map] at this
 have e2:((fun x=>xs[x]?) ∘ fun x=>i+x)=fun m=>xs[i+m]?:=rfl
 rw [e2] at this
 rw [this]
theorem ar5 {t sl:Addr}{items:Array Value}{vl vu:Value}{lo hi:Option Int}{Q:Value->Shared->Prop} (ht:IsTup s.heap t items) (hs:s.heap.IsSliceOf sl vl vu .none) (pl:IsPart vl lo) (pu:IsPart vu hi)
  (hw : ¬ (b6 items.size 0 lo=0/\b6 items.size items.size hi=items.size))
  (h:Q (.ref s.heap.objs.size) { s with heap:=s.heap.push { cls:=.type "tuple",data:=.seq ((items.toList.drop (b6 items.size 0 lo)).take (b6 items.size items.size hi - b6 items.size 0 lo)).toArray } })
  (hsz:items.size<=sizeLine):wpAny (model prog w) A (getItem (.ref t) (.ref sl)) Q E s:=by
 have htake:sizeOk (.seq ((items.toList.drop (b6 items.size 0 lo)).take (b6 items.size items.size hi - b6 items.size 0 lo)).toArray):=by
  show ((items.toList.drop (b6 items.size 0 lo)).take (b6 items.size items.size hi - b6 items.size 0 lo)).toArray.size<=sizeLine
  rw [bh0,bn2,bp0,bl7]
  omega
 have hj:b6 items.size items.size hi<=items.size:=ar1 _ _ (bg9 _) hi
 obtain ⟨os,hos,hcs,hds⟩:=id hs
 have hTs:s.TypeIs (.ref sl) "slice":=⟨os,hos,hcs⟩
 unfold getItem
 try with_reducible refine br0 ?_
 first | refine bg0 (bh3 ?_) | skip
 refine bg0 (wpAny_sequenceKey ht.typeIs (by decide) ?_)
 refine bg0 (bn9 (name:=Str.ofString "__getitem__") ht.typeIs bs8
  (bo2 bs8 ht.typeIs entry_tuple_getitem ?_ (args_tuple_getitem _ _)))
 show wpAny _ _ (Builtin.Tuple.tupleItemsOf (.ref t) >>= _) _ _ s
 refine bg0 (tupleItemsOf_ ht ?_)
 refine bg0 (wpAny_typeOf hTs ?_)
 rw [if_pos (by decide)]
 refine bg0 (E3 hs pl pu ?_)
 have hno : ¬ ((((b6 items.size 0 lo:Nat):Int) == 0 && (1:Int) == 1 && (b6 items.size items.size hi - b6 items.size 0 lo) == items.size)=true):=by
  intro q
  rw [bj9,bj9] at q
  have q1:((b6 items.size 0 lo:Nat):Int)=0:=eq_of_beq q.1.1
  have q2:b6 items.size items.size hi - b6 items.size 0 lo=items.size:=eq_of_beq q.2
  exact hw ⟨by omega,by omega⟩
 show wpAny _ _ (if (((b6 items.size 0 lo:Nat):Int) == 0 && (1:Int) == 1 && (b6 items.size items.size hi - b6 items.size 0 lo) == items.size)=true then _ else _) _ _ s
 rw [if_neg hno,ar4]
 first
  | exact bg0 (m:=Builtin.Tuple.tupleExact _) (bn5 (bh3 ⟨_,rfl,bh3 h⟩) htake)
  | exact bg0 (m:=Builtin.Tuple.tupleExact _) (bn5 (bg0 (bh3 (bh3 ⟨_,rfl,bh3 h⟩))) htake)
  | exact bg0 (bg0 (m:=Builtin.Tuple.tupleExact _) (bn5 (bh3 (bh3 ⟨_,rfl,bh3 h⟩)) htake))
  | exact bg0 (bg0 (m:=Builtin.Tuple.tupleExact _) (bn5 (bh3 ⟨_,rfl,bh3 h⟩) htake))
end
end HT
namespace L2
open PySem PySem.Spec PyProof.Rows
noncomputable abbrev TO:=St->Hp->(Option Int->Hp->Prop)->Prop
noncomputable def PO (X:Cx) (e:Option Expr) (t:TO):Prop:=
 ∀ (pins:List (Addr × Obj)) (s:Shared) (σ:St) (H:Hp) (Q:Option Int->Hp->Prop),a6 X pins σ H s->t σ H Q->
  wpAny (model X.prog X.w) X.A (evalPart e X.env) (fun u s'=>∃ o H',a6 X pins σ H' s'/\IsPart u o/\Q o H') X.xe s
noncomputable def ar6:TO:=fun _ H Q=>Q none H
noncomputable def ar7 (t:TE):TO:=fun σ H Q=>t σ H fun x H1=>∃ i,x = .int i/\Q (some i) H1
theorem uS {ns:List Int}:∀ {us:List Value},aM (ns.map V.int) us->IntsAre us ns:=by
 induction ns with
 | nil=>intro us r; rw [List.map_nil] at r; cases r; exact .nil
 | cons n ns ih=>
  intro us r
  rw [bl3] at r
  cases r with
  | cons r1 r2=>
   obtain ⟨t,e⟩:=r1
   subst e
   exact .cons n t (ih r2)
section
variable {X : Cx} {e : Expr} {te : TE} {lo hi : Option Expr} {tl th : TO} {pos p2 : Pos}
theorem E4:PO X none ar6:=by
 intro pins s σ H Q I h
 rw [evalPart_none]
 exact bh3 ⟨none,H,I,.none,h⟩
theorem uT (h:PE X e te):PO X (some e) (ar7 te):=by
 intro pins s σ H Q I hw
 rw [evalPart_some]
 refine aN (h pins s σ H _ I hw) fun u s1 ⟨x,H1,I1,r1,q1⟩=>?_
 obtain ⟨i,rfl,q⟩:=q1
 obtain ⟨t,rfl⟩:=r1
 exact⟨some i,H1,I1,.int i t,q⟩
noncomputable def kM (X:Cx) (r:V->Option Int->Option Int->Hp->VK->Prop):Prop:=
 ∀ (pins:List (Addr × Obj)) (s:Shared) (σ:St) (H:Hp) (x:V) (v vl vu:Value) (lo hi:Option Int) (sl:Addr) (Q:VK),a6 X pins σ H s->aV x v->s.heap.IsSliceOf sl vl vu .none->IsPart vl lo->IsPart vu hi->r x lo hi H Q->
  ∃ T id,typeLookup (.type T) "__getitem__" = pure (some (.builtin id))/\s.TypeIs v T/\wpAny (model X.prog X.w) X.A (getItem v (.ref sl)) (EP X pins σ Q) X.xe s
theorem kM.or {r r':V->Option Int->Option Int->Hp->VK->Prop} (h:kM X r) (h':kM X r'):kM X (fun x lo hi H Q=>r x lo hi H Q ∨ r' x lo hi H Q):=by
 intro pins s σ H x v vl vu lo hi sl Q I rx hs pl pu q
 rcases q with q | q
 ·exact h pins s σ H x v vl vu lo hi sl Q I rx hs pl pu q
 ·exact h' pins s σ H x v vl vu lo hi sl Q I rx hs pl pu q
noncomputable def tSl (r:V->Option Int->Option Int->Hp->VK->Prop) (te:TE) (tl th:TO):TE:=fun σ H Q=>te σ H fun x H1=>tl σ H1 fun l H2=>th σ H2 fun u H3=>r x l u H3 Q
theorem uU {r:V->Option Int->Option Int->Hp->VK->Prop} (hr:kM X r) (he:PE X e te) (hl:PO X lo tl) (hu:PO X hi th):PE X (.Subscript e (.Slice lo hi none p2) pos) (tSl r te tl th):=by
 intro pins s σ H Q I h
 refine Subscript_ (aN (he pins s σ H _ I h) fun v s1 ⟨x,H1,I1,r1,q1⟩=>?_)
 refine wpAny_Slice (aN (hl pins s1 σ H1 _ I1 q1) fun vl s2 ⟨l,H2,I2,pl,q2⟩=>aN (hu pins s2 σ H2 _ I2 q2) fun vu s3 ⟨u,H3,I3,pu,q3⟩=>?_)
 rw [evalPart_none]
 refine bh3 ?_
 have I4:a6 X pins σ H3 { s3 with heap:=s3.heap.push { cls:=.type "slice",data:=.fields #[vl,vu,.none] } }:=I3.kept (t':=s3.toks) fun b ob q=>bg1 _ q
 obtain ⟨T,id,hT,ht,hg⟩:=hr pins { s3 with heap:=s3.heap.push { cls:=.type "slice",data:=.fields #[vl,vu,.none] } } σ H3 x v vl vu l u s3.heap.objs.size Q I4 r1 (Heap.IsSliceOf.new ..) pl pu q3
 show wpAny (model X.prog X.w) X.A (subscriptTail e (.Slice lo hi none p2) v (.ref s3.heap.objs.size)) (EP X pins σ Q) X.xe { s3 with heap:=s3.heap.push { cls:=.type "slice",data:=.fields #[vl,vu,.none] } }
 exact tail_any (ops:=[.ref s3.heap.objs.size,v]) ht hT hg (by with_unfolding_all rfl)
noncomputable def e9 (xs:List V) (lo hi:Option Int):List V:=(xs.drop (HT.b6 xs.length 0 lo)).take (HT.b6 xs.length xs.length hi - HT.b6 xs.length 0 lo)
theorem E5 (xs:List V) (lo hi:Option Int):(e9 xs lo hi).length<=xs.length:=by
 unfold e9
 rw [bn2,bp0]
 omega
noncomputable def ar8 (K:PySem.W.Frag):V->Option Int->Option Int->Hp->VK->Prop:=fun x lo hi H Q=>∃ a xs,x = .ref a/\aQ K H a xs/\
 ¬ (HT.b6 xs.length 0 lo=0/\HT.b6 xs.length xs.length hi=xs.length)/\∀ p,H p=none->Q (.ref p) (upd H p (.tup (e9 xs lo hi)))
theorem ar9:kM X (ar8 X.K):=by
 intro pins s σ H x v vl vu lo hi sl Q I rx hs pl pu h
 obtain ⟨a,xs,rfl,hx,hw,q⟩:=h
 cases rx
 obtain ⟨its,r,ht,hz⟩:=I.tuple hx
 have hlen:its.toArray.size=xs.length:=by rw [bh0]; exact r.length.symm
 refine⟨"tuple",_,PyProof.Rows.slot_tuple_getitem.lookup,ht.typeIs,?_⟩
 refine HT.ar5 ht hs pl pu (by rw [hlen]; exact hw) ?_ (by rw [hlen]; exact hz)
 rw [hlen]
 refine⟨.ref s.heap.objs.size,_,I.laid (t':=s.toks) (o:=.tup (e9 xs lo hi)) (fun b ob q=>bg1 _ q) (bg9 _) ?_,rfl,q _ (I.hok.fresh (bg9 _))⟩
 exact⟨bl1 (E5 xs lo hi) hz,_,(r.drop (HT.b6 xs.length 0 lo)).take (HT.b6 xs.length xs.length hi - HT.b6 xs.length 0 lo),IsTup.new _ _,j6.new _ _ rfl⟩
end
noncomputable def gL (n:Nat) (i:Int):Option Nat:=if 0<=i then (if i < n then some i.toNat else none) else if -(n:Int)<=i then some (i+n).toNat else none
noncomputable def atI {α:Type} (xs:List α) (i:Int):Option α:=(gL xs.length i).bind fun j=>xs[j]?
theorem E6 {n:Nat}{i:Int}{j:Nat} (h:gL n i=some j):seqIndex? i n=some j/\j < n/\-(n:Int)<=i/\i < n:=by
 unfold gL at h
 by_cases h0:0<=i
 ·rw [if_pos h0] at h
  by_cases h1:i < n
  ·rw [if_pos h1] at h
   have e:i.toNat=j:=bj0 h
   exact⟨by rw [seqIndex_of h0 h1,e],by omega,by omega,h1⟩
  ·rw [if_neg h1] at h; cases h
 ·rw [if_neg h0] at h
  by_cases h1 : -(n:Int)<=i
  ·rw [if_pos h1] at h
   have e:(i+n).toNat=j:=bj0 h
   exact⟨by rw [seqIndex_neg (by omega) h1,e],by omega,h1,by omega⟩
  ·rw [if_neg h1] at h; cases h
theorem uV {α:Type}{xs:List α}{i:Int}{v:α} (h:atI xs i=some v):∃ j,seqIndex? i xs.length=some j/\xs[j]? = some v/\j < xs.length/\-(xs.length:Int)<=i/\i < xs.length:=by
 unfold atI at h
 cases e:gL xs.length i with
 | none=>rw [e] at h; cases h
 | some j=>
  rw [e] at h
  obtain ⟨h1,h2,h3,h4⟩:=E6 e
  exact⟨j,h1,h,h2,h3,h4⟩
theorem o8 {α:Type}{xs:List α}{j:Nat}{v:α} (h:xs[j]? = some v):atI xs (j:Int)=some v:=by
 have hj:j < xs.length:=(bh2.mp h).1
 have e:gL xs.length (j:Int)=some j:=by
  unfold gL
  rw [if_pos (by omega),if_pos (by omega)]; simp
 unfold atI; rw [e]; exact h
noncomputable def E7 (b:Expr):Prop:=∀ o i,subscripted b false o i=operate [o,i] (getItem o i)
noncomputable def jN (X:Cx) (r:R2):Prop:=
 ∀ (value slice:Expr) (pins:List (Addr × Obj)) (s:Shared) (σ:St) (H:Hp) (x y:V) (v u:Value) (Q:VK),a6 X pins σ H s->aV x v->aV y u->r x y H Q->
  subscripted slice false v u=operate [v,u] (getItem v u)->wpAny (model X.prog X.w) X.A (subscriptTail value slice v u) (EP X pins σ Q) X.xe s
noncomputable def E8 (X:Cx) (id:String) (r:V->List V->Hp->VK->Prop):Prop:=
 ∀ (pins:List (Addr × Obj)) (s:Shared) (σ:St) (H:Hp) (x:V) (xs:List V) (v:Value) (us:List Value) (Q:VK),a6 X pins σ H s->aV x v->aM xs us->r x xs H Q->
  wpAny (model X.prog X.w) X.A (call (.builtin id) (v :: us)) (EP X pins σ Q) X.xe s
section
variable {X : Cx} {a b : Expr} {ta tb : TE} {pos : Pos}
theorem jN.or {r r':R2} (h:jN X r) (h':jN X r'):jN X (fun x y H Q=>r x y H Q ∨ r' x y H Q):=by
 intro value slice pins s σ H x y v u Q I rx ry q hs
 rcases q with q | q
 ·exact h value slice pins s σ H x y v u Q I rx ry q hs
 ·exact h' value slice pins s σ H x y v u Q I rx ry q hs
theorem jO {r:R2} (hr:jN X r) (ha:PE X a ta) (hb:PE X b tb) (hs:E7 b):PE X (.Subscript a b pos) (o4 r ta tb):=by
 intro pins s σ H Q I h
 exact Subscript_ (uF ha hb I h fun v u s2 x y H2 I2 rx ry q=>hr a b pins s2 σ H2 x y v u Q I2 rx ry q (hs _ _))
noncomputable def E9 (K:PySem.W.Frag):R2:=fun x y H Q=>∃ p xs i v,x = .ref p/\y = .int i/\aK K H p xs/\atI xs i=some v/\Q v H
noncomputable def F0 (K:PySem.W.Frag):R2:=fun x y H Q=>∃ p xs i v,x = .ref p/\y = .int i/\aQ K H p xs/\atI xs i=some v/\Q v H
noncomputable def F1:R2:=fun x y H Q=>∃ z i c,x = .str z/\y = .int i/\z.length<=sizeLine/\atI z.cps.toList i=some c/\Q (.str ⟨#[c]⟩) H
theorem o9:jN X (E9 X.K):=by
 intro value slice pins s σ H x y v u Q I rx ry h hs
 obtain ⟨p,xs,i,z,rfl,rfl,hq,he,q⟩:=h
 cases rx
 obtain ⟨t,rfl⟩:=ry
 obtain ⟨its,r,pl,hz⟩:=I.list hq
 obtain ⟨j,h1,h2,h3,h4,h5⟩:=uV he
 obtain ⟨w,ew,rw'⟩:=r.get h2
 have hl:=r.length
 have hn:=mJ
 have fin:EP X pins σ Q w s:=⟨z,H,I,rw',q⟩
 by_cases h0:0<=i
 ·have hj:i.toNat=j:=by
   rw [seqIndex_of h0 h5] at h1
   exact bj0 h1
  exact item_listR pl.isList h0 (by omega) (by rw [hj]; simpa using ew) fin hs
 ·have hj:(i+(its.toArray.size:Int)).toNat=j:=by
   rw [seqIndex_neg (by omega) h4] at h1
   rw [bh0,<- hl]
   exact bj0 h1
  exact subscriptTail_builtinR (x:=w) pl.isList.typeIs slot_list_getitem.lookup
   (wpAny_getItem_list_neg (Q:=fun r s'=>r=w/\EP X pins σ Q r s') pl.isList (by omega) (by rw [bh0] <;> omega) (by omega) (by rw [hj]; simpa using ew) ⟨rfl,fin⟩) hs
theorem oA:jN X (F0 X.K):=by
 intro value slice pins s σ H x y v u Q I rx ry h hs
 obtain ⟨p,xs,i,z,rfl,rfl,hq,he,q⟩:=h
 cases rx
 obtain ⟨t,rfl⟩:=ry
 obtain ⟨its,r,pl,hz⟩:=I.tuple hq
 obtain ⟨j,h1,h2,h3,h4,h5⟩:=uV he
 obtain ⟨w,ew,rw'⟩:=r.get h2
 have hl:=r.length
 have hn:=mJ
 have fin:EP X pins σ Q w s:=⟨z,H,I,rw',q⟩
 exact subscriptTail_builtinR (x:=w) pl.typeIs slot_tuple_getitem.lookup
  (getItem_tuple (j:=j) (Q:=fun r s'=>r=w/\EP X pins σ Q r s') pl (by omega) (by omega) (by rw [bh0,<- hl]; exact h1) (by simpa using ew) ⟨rfl,fin⟩) hs
theorem as0:jN X F1:=by
 intro value slice pins s σ H x y v u Q I rx ry h hs
 obtain ⟨z,i,c,rfl,rfl,hz,he,q⟩:=h
 obtain ⟨t,rfl⟩:=rx
 obtain ⟨t',rfl⟩:=ry
 obtain ⟨j,h1,h2,h3,h4,h5⟩:=uV he
 have hl:z.cps.toList.length=z.length:=by simp [Str.length]
 rw [hl] at h1 h4 h5
 have hn:=mJ
 exact tail_any (typeIs_str s z t) slot_str_getitem.lookup (getItem_str (c:=c) (by
  have e1:decide (i < -(2 ^ 63:Int))=false:=bg4 (by omega)
  have e2:decide (i >= 2 ^ 63)=false:=bg4 (by omega)
  rw [e1,e2,Bool.or_false]) (by rw [h1]; simpa using h2) ⟨.str ⟨#[c]⟩,H,I.tok _,⟨_,rfl⟩,q⟩) hs
noncomputable def F2 (K:PySem.W.Frag):R2:=fun x y H Q=>E9 K x y H Q ∨ F0 K x y H Q ∨ F1 x y H Q
theorem as1:jN X (F2 X.K):=o9.or (oA.or as0)
theorem as2 (its:List Value) (n j:Nat) (u:Value):Obj.mapSeq (·.setIfInBounds j u) { cls:=.type "list",data:=.seq its.toArray n }={ cls:=.type "list",data:=.seq (its.set j u).toArray n }:=by
 simp [Obj.mapSeq]
theorem a6.lst {pins:List (Addr × Obj)}{σ:St}{H:Hp}{s:Shared}{p:Addr}{xs:List V} (I:a6 X pins σ H s) (h:H p=some (.lst xs)) :
  ∃ (its:List Value) (n:Nat),aM xs its/\s.heap.get? p=some { cls:=.type "list",data:=.seq its.toArray n }/\xs.length<=sizeLine:=by
 obtain ⟨z,its,n,r,e⟩:=I.hok p _ h
 exact⟨its,n,r,e,z⟩
theorem a6.lstUpd {pins:List (Addr × Obj)}{σ:St}{H:Hp}{s:Shared}{p:Addr}{xs ys:List V}{its its':List Value}{n n':Nat}{f:Obj->Obj} (I:a6 X pins σ H s) (h:H p=some (.lst xs))
  (ho:s.heap.get? p=some { cls:=.type "list",data:=.seq its.toArray n }) (hf:f { cls:=.type "list",data:=.seq its.toArray n }={ cls:=.type "list",data:=.seq its'.toArray n' }) (r:aM ys its') (hz:ys.length<=sizeLine) (t:Nat) :
  a6 X pins σ (upd H p (.lst ys)) { s with heap:=s.heap.update p f,toks:=t }:=by
 have e:(s.heap.update p f).get? p=some { cls:=.type "list",data:=.seq its'.toArray n' }:=by
  rw [Heap.get?_update_self f ho (by rw [hf] <;> rfl),hf]
 refine I.write (x:=p) (e:=p) (by rw [h]; trivial) (.inl rfl) (fun b u hb q=>(Heap.get?_update_other _ _ (Ne.symm hb)).trans q) ⟨_,e⟩ ?_
 exact⟨hz,its',n',r,e⟩
noncomputable def uW:V->V->V->Hp->(Hp->Prop)->Prop:=fun o i v H Q=>∃ p xs k j,o = .ref p/\i = .int k/\H p=some (.lst xs)/\gL xs.length k=some j/\Q (upd H p (.lst (xs.set j v)))
theorem as3:A1 X uW:=by
 intro pins s σ H o i v ov iv u Q I ro ri rv h
 obtain ⟨p,xs,k,j,rfl,rfl,hp,hj,q⟩:=h
 cases ro
 obtain ⟨t,rfl⟩:=ri
 obtain ⟨its,n,r,ho,hz⟩:=I.lst hp
 obtain ⟨h1,h2,h3,h4⟩:=E6 hj
 have hl:=r.length
 have hn:=mJ
 have I':a6 X pins σ (upd H p (.lst (xs.set j v))) { s with heap:=s.heap.update p (Obj.mapSeq (·.setIfInBounds j u)) }:=
  I.lstUpd hp ho (as2 its n j u) (r.set rv j) (by rw [bm7]; exact hz) s.toks
 by_cases h0:0<=k
 ·have hk:k.toNat=j:=by
   rw [seqIndex_of h0 h4] at h1
   exact bj0 h1
  exact PySem.W.ki_setAt ho h0 (by omega) (by rw [bh0,<- hl]; exact h4) (by rw [hk]; exact⟨_,I',q⟩)
 ·have hk:(k+(its.toArray.size:Int)).toNat=j:=by
   rw [seqIndex_neg (by omega) h3] at h1
   rw [bh0,<- hl]
   exact bj0 h1
  exact PySem.W.ki_setBack ho (by omega) (by rw [bh0,<- hl]; exact h3) (by omega) (by rw [hk]; exact⟨_,I',q⟩)
theorem as4 (lo hi:Option Int) (n:Nat):(sliceBounds lo hi none n).1=((HT.b6 n 0 lo:Nat):Int)/\(sliceBounds lo hi none n).2.1=((HT.b6 n n hi:Nat):Int)/\(sliceBounds lo hi none n).2.2=1:=by
 refine⟨?_,?_,rfl⟩
 ·cases lo with
  | none=>simp [sliceBounds,HT.b6]
  | some i=>
   simp only [sliceBounds,HT.b6,Option.getD_none,show (1:Int) > 0 by decide,if_true]
   by_cases h:i < 0
   ·simp only [h,if_true] <;> omega
   ·simp only [h,bp8] <;> omega
 ·cases hi with
  | none=>simp [sliceBounds,HT.b6]
  | some i=>
   simp only [sliceBounds,HT.b6,Option.getD_none,show (1:Int) > 0 by decide,if_true]
   by_cases h:i < 0
   ·simp only [h,if_true] <;> omega
   ·simp only [h,bp8] <;> omega
theorem as5 (its:List Value) (lo hi:Option Int):slicePick its.toArray lo hi none=((its.drop (HT.b6 its.length 0 lo)).take (HT.b6 its.length its.length hi - HT.b6 its.length 0 lo)).toArray:=by
 obtain ⟨h1,h2,h3⟩:=as4 lo hi its.toArray.size
 unfold slicePick
 rw [h1,h2,h3]
 simp only [sliceRange_one,pick_run,bh0] <;> rfl
noncomputable def as6 (K:PySem.W.Frag):V->Option Int->Option Int->Hp->VK->Prop:=fun x lo hi H Q=>∃ a xs,x = .ref a/\aK K H a xs/\∀ p,H p=none->Q (.ref p) (upd H p (.lst (e9 xs lo hi)))
theorem F3:kM X (as6 X.K):=by
 intro pins s σ H x v vl vu lo hi sl Q I rx hs pl pu h
 obtain ⟨a,xs,rfl,hx,q⟩:=h
 cases rx
 obtain ⟨its,r,ht,hz⟩:=I.list hx
 have hlen:=r.length
 refine⟨"list",_,slot_list_getitem.lookup,ht.isList.typeIs,?_⟩
 refine wpAny_getItem_list_slice ht.isList hs pl pu .none (by simp) ?_ (by rw [bh0] <;> omega)
 rw [as5,<- hlen]
 refine⟨.ref s.heap.objs.size,_,I.laid (t':=s.toks) (o:=.lst (e9 xs lo hi)) (fun b ob q=>bg1 _ q) (bg9 _) ?_,rfl,q _ (I.hok.fresh (bg9 _))⟩
 exact⟨bl1 (E5 xs lo hi) hz,_,0,(r.drop (HT.b6 xs.length 0 lo)).take (HT.b6 xs.length xs.length hi - HT.b6 xs.length 0 lo),bi8 _ rfl⟩
noncomputable def jP:V->Bool
 | .non=>true
 | .bl _=>true
 | .int _=>true
 | .str _=>true
 | _=>false
noncomputable def iK:V->V->Bool
 | .non,.non=>true
 | .bl a,.bl b=>a == b
 | .bl a,.int b=>(if a then 1 else 0) == b
 | .int a,.bl b=>a == (if b then 1 else 0)
 | .int a,.int b=>a == b
 | .str a,.str b=>a == b
 | _,_=>false
theorem as7 {A:Around}{s:Shared}{y x:V}{u v:Value} (ry:aV y u) (rx:aV x v) (fy:jP y=true) (fx:jP x=true):SeqAt.EqAt A s u v (iK y x):=by
 cases y with
 | non=>
  cases ry
  cases x with
  | non=>cases rx; exact SeqAt.EqAt.same _
  | bl b=>cases rx; exact SeqAt.EqAt.none_bool b
  | int b=>obtain ⟨t,rfl⟩:=rx; exact SeqAt.EqAt.none_int b t
  | str b=>obtain ⟨t,rfl⟩:=rx; exact SeqAt.EqAt.none_str b t
  | _=>exact absurd (show false=true from fx) bi5
 | bl a=>
  cases ry
  cases x with
  | non=>cases rx; exact SeqAt.EqAt.bool_none a
  | bl b=>cases rx; exact SeqAt.EqAt.bool_bool a b
  | int b=>obtain ⟨t,rfl⟩:=rx; exact SeqAt.EqAt.bool_int a b t
  | str b=>obtain ⟨t,rfl⟩:=rx; exact SeqAt.EqAt.bool_str a b t
  | _=>exact absurd (show false=true from fx) bi5
 | int a=>
  obtain ⟨t',rfl⟩:=ry
  cases x with
  | non=>cases rx; exact SeqAt.EqAt.int_none a t'
  | bl b=>cases rx; exact SeqAt.EqAt.int_bool a t' b
  | int b=>obtain ⟨t,rfl⟩:=rx; exact SeqAt.EqAt.int_int a t' b t
  | str b=>obtain ⟨t,rfl⟩:=rx; exact SeqAt.EqAt.int_str a t' b t
  | _=>exact absurd (show false=true from fx) bi5
 | str a=>
  obtain ⟨t',rfl⟩:=ry
  cases x with
  | non=>cases rx; exact SeqAt.EqAt.str_none a t'
  | bl b=>cases rx; exact SeqAt.EqAt.str_bool a t' b
  | int b=>obtain ⟨t,rfl⟩:=rx; exact SeqAt.EqAt.str_int a t' b t
  | str b=>obtain ⟨t,rfl⟩:=rx; exact SeqAt.EqAt.str_str a t' b t
  | _=>exact absurd (show false=true from fx) bi5
 | _=>exact absurd (show false=true from fy) bi5
noncomputable def jQ (x:V) (u:Value):Bool:=match u with
 | .none=>iK .non x
 | .bool b=>iK (.bl b) x
 | .int i _=>iK (.int i) x
 | .str z _=>iK (.str z) x
 | _=>false
theorem F4 {x y:V}{u:Value} (r:aV y u) (f:jP y=true):jQ x u=iK y x:=by
 cases y with
 | non=>cases r; rfl
 | bl b=>cases r; rfl
 | int i=>obtain ⟨t,rfl⟩:=r; rfl
 | str z=>obtain ⟨t,rfl⟩:=r; rfl
 | _=>exact absurd (show false=true from f) bi5
theorem uX {x:V}:∀ {xs:List V}{us:List Value},aM xs us->xs.all jP=true->us.any (jQ x)=xs.any fun y=>iK y x
 | _,_,.nil,_=>rfl
 | y :: xs,u :: us,.cons r t,f=>by
  rw [bu5,bj9] at f
  rw [List.any_cons,List.any_cons,F4 r f.1,uX t f.2]
theorem uY {A:Around}{s:Shared}{x:V}{v:Value} (rx:aV x v) (fx:jP x=true):∀ {xs:List V}{us:List Value},aM xs us->xs.all jP=true->∀ u ∈ us,SeqAt.EqAt A s u v (jQ x u)
 | _,_,.nil,_=>fun u hu=>by cases hu
 | y :: xs,u :: us,.cons r t,f=>fun u' hu=>by
  rw [bu5,bj9] at f
  rcases bg8.mp hu with rfl | hu
  ·rw [F4 r f.1]; exact as7 r rx f.1 fx
  ·exact uY rx fx t f.2 u' hu
noncomputable def oB (x:V) (xs:List V):Bool:=xs.any fun y=>iK y x
noncomputable def F5 (K:PySem.W.Frag) (neg:Bool):R2:=fun x y H Q=>∃ p xs,y = .ref p/\(aK K H p xs ∨ aQ K H p xs)/\jP x=true/\xs.all jP=true/\Q (.bl (if neg then !oB x xs else oB x xs)) H
theorem F6:cJ X (compareOp .In) (F5 X.K false):=by
 intro pins s σ H x y v u Q I rx ry h
 obtain ⟨p,xs,rfl,hq,fx,fs,q⟩:=h
 cases ry
 rcases hq with hq | hq
 ·obtain ⟨its,r,pl,hz⟩:=I.list hq
  refine SeqAt.in_listAt (jQ x) pl.isList (fun w hw=>uY rx fx r fs w (by simpa using hw)) ⟨.bl _,H,I,rfl,?_⟩
  rw [show its.toArray.any (jQ x)=its.any (jQ x) by simp,uX r fs]
  exact q
 ·obtain ⟨its,r,pl,hz⟩:=I.tuple hq
  refine SeqAt.in_tupleAt (jQ x) pl (fun w hw=>uY rx fx r fs w (by simpa using hw)) ⟨.bl _,H,I,rfl,?_⟩
  rw [show its.toArray.any (jQ x)=its.any (jQ x) by simp,uX r fs]
  exact q
theorem as8:dQ X (.builtin "len") (fun xs H Q=>∃ p ys,xs = [.ref p]/\(aK X.K H p ys ∨ aQ X.K H p ys)/\Q (.int ys.length) H):=by
 intro pins s σ H xs us Q I r h
 obtain ⟨p,ys,rfl,hq,q⟩:=h
 obtain ⟨u,rfl,rx⟩:=jA r
 cases rx
 have hn:=mJ
 rcases hq with hq | hq
 ·obtain ⟨its,r',pl,hz⟩:=I.list hq
  have hlen:=r'.length
  exact Calls.call_len_list pl.isList (by simp only [bh0] <;> omega) ⟨.int ys.length,H,I.tok _,⟨s.toks+1,by rw [bh0,hlen]⟩,q⟩
 ·obtain ⟨its,r',pl,hz⟩:=I.tuple hq
  have hlen:=r'.length
  exact len_tuple pl (by simp only [bh0] <;> omega) ⟨.int ys.length,H,I.tok _,⟨s.toks+1,by rw [bh0,hlen]⟩,q⟩
theorem dQ.or {f:Value}{r r':List V->Hp->VK->Prop} (h:dQ X f r) (h':dQ X f r'):dQ X f (fun xs H Q=>r xs H Q ∨ r' xs H Q):=by
 intro pins s σ H xs us Q I rs q
 rcases q with q | q
 ·exact h pins s σ H xs us Q I rs q
 ·exact h' pins s σ H xs us Q I rs q
theorem as9:dQ X (.type "tuple") (fun xs H Q=>∃ p ys,xs = [.ref p]/\((aK X.K H p ys/\∀ l,H l=none->Q (.ref l) (upd H l (.tup ys))) ∨ (aQ X.K H p ys/\Q (.ref p) H))):=by
 intro pins s σ H xs us Q I r h
 obtain ⟨p,ys,rfl,h⟩:=h
 obtain ⟨u,rfl,rx⟩:=jA r
 cases rx
 rcases h with ⟨hq,q⟩ | ⟨hq,q⟩
 ·obtain ⟨its,r',pl,hz⟩:=I.list hq
  have hlen:=r'.length
  refine call_tuple_list pl.isList (fun h' kp=>?_) (by simp only [bh0] <;> omega)
  have I1:a6 X pins σ H { s with heap:=h' }:=I.kept (t':=s.toks) kp
  have I2:a6 X pins σ (upd H h'.objs.size (.tup ys)) { s with heap:=h'.push { cls:=.type "tuple",data:=.seq its.toArray } }:=
   I1.laid (t':=s.toks) (fun b o e=>bg1 _ e) (bg9 _) (show cE X.prog X.w _ _ _ (.tup ys) from ⟨hz,its,r',IsTup.new _ _,j6.new _ _ rfl⟩)
  exact⟨.ref h'.objs.size,_,I2,rfl,q _ (I1.hok.fresh (bg9 _))⟩
 ·obtain ⟨its,r',pl,hz⟩:=I.tuple hq
  exact call_tuple_same pl ⟨.ref p,H,I,rfl,q⟩
noncomputable def oC (K:PySem.W.Frag) (T:String) (x:V) (H:Hp):Prop:=match x with
 | .str _=>T="str"
 | .int _=>T="int"
 | .ref p=>(T="list"/\∃ xs,aK K H p xs) ∨ (T="tuple"/\∃ o,K.lookup p=some o/\o.cls = .type "tuple"/\o.dict=none) ∨
   (T="dict"/\((∃ kvs,H p=some (.dK kvs)) ∨ ∃ kvs,H p=some (.dT kvs))) ∨ (T="set"/\∃ S n,H p=some (.set S n))
 | _=>False
theorem F7 {pins:List (Addr × Obj)}{σ:St}{H:Hp}{s:Shared}{T:String}{x:V}{v:Value} (I:a6 X pins σ H s) (r:aV x v) (ty:oC X.K T x H) :
  s.TypeIs v T/\∀ a,v = .ref a->∃ ob,s.heap.get? a=some ob/\ob.dict=none:=by
 cases x with
 | str z=>
  obtain ⟨t,rfl⟩:=r
  cases (show T="str" from ty)
  exact⟨typeIs_str s z t,fun _ e=>nomatch e⟩
 | int i=>
  obtain ⟨t,rfl⟩:=r
  cases (show T="int" from ty)
  exact⟨typeIs_int s i t,fun _ e=>nomatch e⟩
 | ref p=>
  cases r
  rcases ty with ⟨rfl,xs,hq⟩ | ⟨rfl,o,hk,hc,hd⟩ | ⟨rfl,hk⟩ | ⟨rfl,S,n,hk⟩
  ·obtain ⟨its,_,pl,_⟩:=I.list hq
   refine⟨pl.isList.typeIs,fun a e=>?_⟩
   cases e
   obtain ⟨o,n,e,c,hd,_⟩:=pl
   exact⟨o,e,hd⟩
  ·refine⟨⟨o,I.kIn p o hk,hc⟩,fun a e=>?_⟩
   cases e
   exact⟨o,I.kIn _ o hk,hd⟩
  ·have z:∃ o,s.heap.get? p=some o/\o.ExactDict:=by
    rcases hk with ⟨kvs,hk⟩ | ⟨kvs,hk⟩
    ·obtain ⟨_,_,_,_,o,_,_,e,ex,_⟩:=I.hok p _ hk
     exact⟨o,e,ex⟩
    ·obtain ⟨_,_,_,_,o,_,_,e,ex,_⟩:=I.hok p _ hk
     exact⟨o,e,ex⟩
   obtain ⟨o,e,ex⟩:=z
   refine⟨⟨o,e,ex.1⟩,fun a e2=>?_⟩
   cases e2
   exact⟨o,e,ex.2.1⟩
  ·obtain ⟨o,_,_,_,e,ex,_⟩:=I.hok p _ hk
   refine⟨⟨o,e,ex.1⟩,fun a e2=>?_⟩
   cases e2
   exact⟨o,e,ex.2.1⟩
 | _=>exact False.elim ty
noncomputable def F8 (K:PySem.W.Frag) (T:String) (r:V->List V->Hp->VK->Prop) (to:TE):TE:=fun σ H Q=>to σ H fun x H1=>oC K T x H1/\r x [] H1 Q
noncomputable def qL (K:PySem.W.Frag) (T:String) (r:V->List V->Hp->VK->Prop) (to:TE) (t:TA):TE:=fun σ H Q=>to σ H fun x H1=>oC K T x H1/\t σ H1 fun xs H2=>r x xs H2 Q
variable {o e : Expr} {es : List Expr} {to : TE} {t : TA} {name : Str} {apos cpos : Pos} {T id : String} {r : V → List V → Hp → VK → Prop}
theorem at0 (pa:PlainAttrs T) (slot:Slot T name id) (hty:typeOf (.builtin id)=pure (.type "method_descriptor")) (hm:E8 X id r) (ho:PE X o to)
  (hbase:attributeBase o name X.env (eval o X.env)=eval o X.env:=by rfl) (hline:(apos.endLine == cpos.line)=true:=by rfl):PE X (.Call (.Attribute o name apos) [] [] cpos) (F8 X.K T r to):=by
 intro pins s σ H Q I h
 refine wpAny_Call_method0_late hbase hline (aN (ho pins s σ H _ I h) fun v s1 ⟨x,H1,I1,r1,ty,q1⟩=>?_)
 obtain ⟨h1,h2⟩:=F7 I1 r1 ty
 exact⟨T,id,pa,slot,hty,h1,h2,Calls.callWith_builtin rfl (PySem.evalArgs_none (hm pins s1 σ H1 x [] v [] Q I1 r1 .nil q1))⟩
theorem lJ (pa:PlainAttrs T) (slot:Slot T name id) (hty:typeOf (.builtin id)=pure (.type "method_descriptor")) (hm:E8 X id r) (ho:PE X o to) (ha:PA X (e :: es) t)
  (hbase:attributeBase o name X.env (eval o X.env)=eval o X.env:=by rfl)
  (hfew:((backTo cpos (starEach (e :: es) X.env)).all (fun x=>!x.1) && (backToKw cpos (keywordEach [] X.env)).all (fun x=>x.1.isSome)
   && decide ((e :: es).length+([]:List Keyword).length+(if ([]:List Keyword).isEmpty then 0 else 1) < 30))=true:=by rfl)
  (hline:(apos.endLine == cpos.line)=true:=by rfl) (hs:starEach (e :: es) X.env=(false,eval e X.env) :: starEach es X.env:=by rfl) (hplain:(backTo cpos (starEach es X.env)).any (·.1)=false:=by rfl) :
  PE X (.Call (.Attribute o name apos) (e :: es) [] cpos) (qL X.K T r to t):=by
 intro pins s σ H Q I h
 refine wpAny_Call_method_late hbase hfew hline rfl (aN (ho pins s σ H _ I h) fun v s1 ⟨x,H1,I1,r1,ty,q1⟩=>?_)
 obtain ⟨h1,h2⟩:=F7 I1 r1 ty
 refine⟨T,id,pa,slot,hty,h1,h2,?_⟩
 have hA:=ha cpos pins s1 σ H1 _ I1 q1
 rw [hs] at hA ⊢
 refine Calls.callWith_builtin (by show (false || (backTo cpos (starEach es X.env)).any (·.1))=false; rw [hplain] <;> rfl) (Calls.evalArgs_plain ?_)
 exact aN hA fun us s2 ⟨vs,H2,I2,r2,q2⟩=>hm pins s2 σ H2 x vs v us Q I2 r1 r2 q2
end
noncomputable def mK (X:Cx) (id:String) (r:V->List V->Hp->VK->Prop):Prop:=
 ∀ (pins:List (Addr × Obj)) (s:Shared) (σ:St) (H:Hp) (x:V) (xs:List V) (v:Value) (us:List Value) (Q:VK),a6 X pins σ H s->aV x v->aM xs us->r x xs H Q->
  wpAny (model X.prog X.w) X.A (call (.builtin id) (v :: us)) (EP X pins σ Q) X.xe s
theorem aM.one {x:V}{us:List Value} (h:aM [x] us):∃ u,us = [u]/\aV x u:=by
 cases h with
 | cons r t=>
  cases t
  exact⟨_,rfl,r⟩
theorem aM.two {x y:V}{us:List Value} (h:aM [x,y] us):∃ u v,us = [u,v]/\aV x u/\aV y v:=by
 cases h with
 | cons r t=>
  cases t with
  | cons q t=>
   cases t
   exact⟨_,_,rfl,r,q⟩
theorem aM.zero:∀ {us:List Value},aM [] us->us = []
 | _,.nil=>rfl
theorem aM.dropLast {xs:List V}{us:List Value} (h:aM xs us):aM xs.dropLast us.dropLast:=by
 induction h with
 | nil=>exact .nil
 | cons r t ih=>
  cases t with
  | nil=>exact .nil
  | cons q t'=>exact .cons r ih
theorem aM.eraseIdx:∀ {xs:List V}{us:List Value} (i:Nat),aM xs us->aM (xs.eraseIdx i) (us.eraseIdx i)
 | _,_,_,.nil=>.nil
 | _,_,0,.cons _ t=>t
 | _,_,i+1,.cons r t=>.cons r (aM.eraseIdx i t)
theorem aM.rep {xs:List V}{us:List Value} (h:aM xs us):∀ k:Nat,aM (List.replicate k xs).flatten (List.replicate k us).flatten
 | 0=>.nil
 | k+1=>by
  rw [bq1,bq1,br6,br6]
  exact aM.append h (aM.rep h k)
theorem at2 {α:Type} (l:List α):l.eraseIdx (l.length - 1)=l.dropLast:=by
 induction l with
 | nil=>rfl
 | cons a r ih=>
  cases r with
  | nil=>rfl
  | cons b r=>
   have e:(a :: b :: r).length - 1=((b :: r).length - 1)+1:=by
    have h1:(a :: b :: r).length=r.length+2:=rfl
    have h2:(b :: r).length=r.length+1:=rfl
    omega
   rw [e,List.eraseIdx_cons_succ,ih]
   all_goals rfl
theorem F9 (its:List Value):∀ (k:Nat) (acc:List Value),
  List.foldl (fun x1 x2=>x1 ++ x2) acc.toArray (List.replicate k its.toArray)=(acc ++ (List.replicate k its).flatten).toArray
 | 0,acc=>by simp
 | k+1,acc=>by
  have e:acc.toArray ++ its.toArray=(acc ++ its).toArray:=by simp
  have e2:(acc ++ its) ++ (List.replicate k its).flatten=acc ++ (List.replicate (k+1) its).flatten:=by
   rw [bq1,br6,bj2]
  rw [<- e2,<- F9 its k (acc ++ its),<- e,bq1,List.foldl_cons]
section
variable {X : Cx} {pins : List (Addr × Obj)} {σ : St} {H : Hp} {s : Shared} {l b : Addr} {xs ys zs : List V}
theorem a6.lset {its its':List Value}{n:Nat}{f:Array Value->Array Value}{t':Nat} (I:a6 X pins σ H s) (hH:H l=some (.lst xs))
  (e:s.heap.get? l=some { cls:=.type "list",data:=.seq its.toArray n }) (hf:f its.toArray=its'.toArray) (hv:aM ys its') (hz:ys.length<=sizeLine) :
  a6 X pins σ (upd H l (.lst ys)) { s with heap:=s.heap.update l (Obj.mapSeq f),toks:=t' }:=by
 have q:=PySem.IsL.update e f
 rw [hf] at q
 refine I.write (x:=l) (e:=l) (by rw [hH]; exact trivial) (.inl rfl) (fun b' u hb hu=>(Heap.get?_update_other s.heap (Obj.mapSeq f) (Ne.symm hb)).trans hu) ⟨_,q⟩ ?_
 exact⟨hz,its',_,hv,q⟩
theorem a6.lnew {its:List Value}{t':Nat} (I:a6 X pins σ H s) (hv:aM ys its) (hz:ys.length<=sizeLine) :
  a6 X pins σ (upd H s.heap.objs.size (.lst ys)) { s with heap:=s.heap.push { cls:=.type "list",data:=.seq its.toArray },toks:=t' }:=
 I.laid (fun _ _ q=>bg1 _ q) (bg9 _) ⟨hz,its,0,hv,bi8 _ rfl⟩
theorem a6.fresh (I:a6 X pins σ H s):H s.heap.objs.size=none:=I.hok.fresh (bg9 _)
theorem a6.lstM (I:a6 X pins σ H s) (hH:H l=some (.lst xs)):xs.length<=sizeLine/\∃ (its:List Value) (n:Nat),aM xs its/\xs.length=its.length/\s.heap.get? l=some { cls:=.type "list",data:=.seq its.toArray n }:=by
 obtain ⟨z,its,n,r,e⟩:=I.hok l _ hH
 exact⟨z,its,n,r,r.length,e⟩
theorem uZ {n:Nat} (h:n<=sizeLine):Builtin.List.listTooLong n=false:=by
 unfold Builtin.List.listTooLong
 exact bg4 (by omega)
end
section
variable {X : Cx}
noncomputable def G0:V->List V->Hp->VK->Prop:=fun x vs H Q=>∃ l xs y,x = .ref l/\vs = [y]/\H l=some (.lst xs)/\xs.length < sizeLine/\Q .non (upd H l (.lst (xs ++ [y])))
theorem mL:mK X "list.append" G0:=by
 intro pins s σ H x vs v us Q I rx rv h
 obtain ⟨l,xs,y,rfl,rfl,hH,hz,q⟩:=h
 cases rx
 obtain ⟨u,rfl,ru⟩:=rv.one
 obtain ⟨z,its,n,r,hl,e⟩:=I.lstM hH
 refine call_meets F.slot_list_append ⟨_,e,rfl⟩ F.entry_list_append (F.args_list_append_2 _ _) (PySem.list_append l its.toArray n u (by rw [bh0]; omega)) ⟨e,?_⟩
 refine⟨.non,_,I.lset (its':=its ++ [u]) hH e (by simp) (r.append (.cons ru .nil)) ?_,rfl,q⟩
 rw [bh6,bk5]
 omega
noncomputable def G1:V->List V->Hp->VK->Prop:=fun x vs H Q=>∃ l b xs zs,x = .ref l/\vs = [.ref b]/\H l=some (.lst xs)/\H b=some (.lst zs)/\xs.length+zs.length<=sizeLine/\Q .non (upd H l (.lst (xs ++ zs)))
theorem at3:mK X "list.extend" G1:=by
 intro pins s σ H x vs v us Q I rx rv h
 obtain ⟨l,b,xs,zs,rfl,rfl,hH,hB,hz,q⟩:=h
 cases rx
 obtain ⟨u,rfl,ru⟩:=rv.one
 cases ru
 obtain ⟨z,its,n,r,hl,e⟩:=I.lstM hH
 obtain ⟨z2,its2,n2,r2,hl2,e2⟩:=I.lstM hB
 have hsz:its.toArray.size+its2.toArray.size<=sizeLine:=by rw [bh0,bh0]; omega
 have hlong : ¬ (!its.toArray.isEmpty && Builtin.List.listTooLong (its.toArray.size+its2.toArray.size))=true:=by
  rw [uZ hsz,bv2]
  exact bi5
 refine call_meets F.slot_list_extend ⟨_,e,rfl⟩ F.entry_list_extend (F.args_list_extend_2 _ _)
  (AutoSeq1.list_extend_list_list_0 l its.toArray n b its2.toArray n2 hlong (by rw [bh0]; omega) (by omega)) ⟨e,e2,?_⟩
 refine⟨.non,_,I.lset (its':=its ++ its2) hH e (by simp) (r.append r2) ?_,rfl,q⟩
 rw [bh6]
 omega
noncomputable def G2:V->List V->Hp->VK->Prop:=fun x vs H Q=>∃ l xs y,x = .ref l/\vs = []/\H l=some (.lst xs)/\xs[xs.length - 1]? = some y/\Q y (upd H l (.lst xs.dropLast))
theorem at4:mK X "list.pop" G2:=by
 intro pins s σ H x vs v us Q I rx rv h
 obtain ⟨l,xs,y,rfl,rfl,hH,hy,q⟩:=h
 cases rx
 have hus:=rv.zero
 subst hus
 obtain ⟨z,its,n,r,hl,e⟩:=I.lstM hH
 obtain ⟨u,hu,ru⟩:=r.get hy
 have hy':its.toArray[its.toArray.size - 1]? = some u:=by
  show its.toArray[its.length - 1]? = some u
  rw [<- bo7,<- hl]
  exact hu
 refine call_meets F.slot_list_pop ⟨_,e,rfl⟩ F.entry_list_pop (F.args_list_pop_1 _) (MeetsSeq.list_pop_last l its.toArray n u hy' (by rw [bh0]; omega)) ⟨e,?_⟩
 refine⟨y,_,I.lset (its':=its.dropLast) hH e ?_ r.dropLast ?_,ru,q⟩
 ·show its.toArray.eraseIdxIfInBounds (its.toArray.size - 1)=its.dropLast.toArray
  rw [bh0,List.eraseIdxIfInBounds_toArray,at2]
 ·rw [List.length_dropLast]
  omega
noncomputable def G3:R2:=fun x y H Q=>∃ l k xs,x = .ref l/\y = .int k/\H l=some (.lst xs)/\-(2 ^ 63)<=k/\k < 2 ^ 63/\xs.length * k.toNat<=sizeLine/\
 ∀ p,H p=none->Q (.ref p) (upd H p (.lst (List.replicate k.toNat xs).flatten))
theorem at5 {α:Type} (xs:List α) (k:Nat):(List.replicate k xs).flatten.length=k * xs.length:=by
 induction k with
 | zero=>simp
 | succ k ih=>rw [bq1,br6,bh6,ih,Nat.succ_mul,Nat.add_comm]
theorem at6:cJ X (binaryOp .Mult) G3:=by
 intro pins s σ H x y v u Q I rx ry h
 obtain ⟨l,k,xs,rfl,rfl,hH,h1,h2,hz,q⟩:=h
 cases rx
 obtain ⟨t,rfl⟩:=ry
 obtain ⟨z,its,n,r,hl,e⟩:=I.lstM hH
 have hlen:its.toArray.size * k.toNat<=sizeLine:=by rw [bh0,<- hl]; exact hz
 have hcap : ¬ its.toArray.size * k.toNat > (2 ^ 63 - 1) / 8:=by
  have:(sizeLine:Nat)<=(2 ^ 63 - 1) / 8:=by decide
  omega
 have hfit : ¬ (!Builtin.List.listFitsIndex k)=true:=by
  rw [fitsIndex_both h1 h2]
  exact bi5
 have hlong : ¬ Builtin.List.listTooLong (its.toArray.size * k.toNat)=true:=by
  rw [uZ hlen]
  exact bi5
 have hnew:List.foldl (fun x1 x2=>x1 ++ x2) #[] (List.replicate (if its.toArray.isEmpty=true then 0 else k.toNat) its.toArray)=(List.replicate k.toNat its).flatten.toArray:=by
  have f0:∀ m:Nat,List.foldl (fun x1 x2=>x1 ++ x2) #[] (List.replicate m its.toArray)=(List.replicate m its).flatten.toArray:=fun m=>by
   have:=F9 its m []
   rw [List.nil_append] at this
   exact this
  rw [f0]
  cases its with
  | nil=>simp
  | cons a r'=>rw [if_neg (by simp)]
 refine wpAny_binaryOp_repeat_ref (T:="list") (U:="int") (by decide) ⟨_,e,rfl⟩ (fun s'=>typeIs_int s' k t) noFill_list_mul F.fills_int_mul F.slot_int_rmul repeat_list F.slot_int_index.lookup
  (call_meets F.slot_int_rmul (typeIs_int s k t) F.entry_int_rmul (F.args_int_rmul_2 _ _) (int___rmul___int_list k t l its.toArray n)
   ⟨e,rfl,⟨_,e,rfl⟩,call_meets F.slot_list_mul ⟨_,e,rfl⟩ F.entry_list_mul (F.args_list_mul_2 _ _) (AutoListH.list___mul___list_int_3 l its.toArray n k t hfit hcap hlong) ⟨e,?_⟩⟩)
 rw [hnew]
 exact⟨.ref _,_,I.lnew (t':=s.toks) (r.rep k.toNat) (by rw [at5,Nat.mul_comm]; exact hz),rfl,q _ I.fresh⟩
end
section
variable {κ : Type} [DecidableEq κ]
noncomputable def fO (kvs:List (κ × V)) (k:κ):Option V:=(kvs.find? fun kv=>decide (kv.1=k)).map (·.2)
noncomputable def eJ (kvs:List (κ × V)) (k:κ) (v:V):List (κ × V):=
 if (kvs.any fun kv=>decide (kv.1=k))=true then kvs.map (fun kv=>if kv.1=k then (kv.1,v) else kv) else kvs ++ [(k,v)]
theorem v0 {p:κ × V}{r:List (κ × V)}{k:κ} (e:p.1=k):fO (p :: r) k=some p.2:=by simp [fO,bs0,e]
theorem v3 {p:κ × V}{r:List (κ × V)}{k:κ} (e : ¬ p.1=k):fO (p :: r) k=fO r k:=by simp [fO,bs0,e]
theorem G4 (k:κ):∀ kvs:List (κ × V),(kvs.any fun kv=>decide (kv.1=k))=(fO kvs k).isSome
 | []=>rfl
 | p :: r=>by
  rw [List.any_cons]
  by_cases e:p.1=k
  ·simp only [v0 e,bg2 e,Bool.true_or,Option.isSome_some]
  ·rw [v3 e,bg4 e,Bool.false_or]; exact G4 k r
theorem v4 (kvs:List (κ × V)) (k:κ) (v:V):(eJ kvs k v).length<=kvs.length+1:=by
 unfold eJ
 split
 ·rw [bg5]; omega
 ·rw [bh6,bi9,List.length_nil]; omega
theorem kI.isSome_eq {o:Option V}{u:Option Value} (r:kI o u):o.isSome=u.isSome:=by
 cases o with
 | none=>cases u with
  | none=>rfl
  | some _=>exact (show False from r).elim
 | some _=>cases u with
  | none=>exact (show False from r).elim
  | some _=>rfl
theorem kI.getD {o:Option V}{u:Option Value}{d:V}{d':Value} (r:kI o u) (rd:aV d d'):aV (o.getD d) (u.getD d'):=by
 cases o with
 | none=>cases u with
  | none=>exact rd
  | some _=>exact (show False from r).elim
 | some _=>cases u with
  | none=>exact (show False from r).elim
  | some _=>exact r
theorem KV.val {kvs:List (κ × V)}{vs:List (κ × Value)} (r:KV kvs vs) (k:κ):kI (fO kvs k) (valueAt vs k):=by
 unfold KV at r
 induction r with
 | nil=>exact True.intro
 | @cons p q ps qs h t ih=>
  obtain ⟨h1,h2⟩:=h
  by_cases e:p.1=k
  ·have e':q.1=k:=h1.symm.trans e
   have b:valueAt (q :: qs) k=some q.2:=by simp [valueAt,bs0,e']
   rw [v0 e,b]; exact h2
  ·have e' : ¬ q.1=k:=fun z=>e (h1.trans z)
   have b:valueAt (q :: qs) k=valueAt qs k:=by simp [valueAt,bs0,e']
   rw [v3 e,b]; exact ih
theorem KV.any {kvs:List (κ × V)}{vs:List (κ × Value)} (r:KV kvs vs) (k:κ):(kvs.any fun kv=>decide (kv.1=k))=vs.any fun kv=>decide (kv.1=k):=by
 unfold KV at r
 induction r with
 | nil=>rfl
 | cons h t ih=>rw [List.any_cons,List.any_cons,ih,h.1]
theorem KV.repl {kvs:List (κ × V)}{vs:List (κ × Value)} (r:KV kvs vs) (k:κ) {y:V}{u:Value} (ry:aV y u) :
  KV (kvs.map fun kv=>if kv.1=k then (kv.1,y) else kv) (vs.map fun kv=>if kv.1=k then (kv.1,u) else kv):=by
 unfold KV at r ⊢
 induction r with
 | nil=>exact .nil
 | @cons p q ps qs h t ih=>
  rw [bl3,bl3]
  refine .cons ?_ ih
  obtain ⟨h1,h2⟩:=h
  by_cases e:p.1=k
  ·rw [if_pos e,if_pos (h1.symm.trans e)]; exact⟨h1,ry⟩
  ·rw [if_neg e,if_neg (fun z=>e (h1.trans z))]; exact⟨h1,h2⟩
theorem KV.put {kvs:List (κ × V)}{vs:List (κ × Value)} (r:KV kvs vs) (k:κ) {y:V}{u:Value} (ry:aV y u):KV (eJ kvs k y) (stored vs k u):=by
 unfold eJ stored
 rw [r.any k]
 by_cases e:(vs.any fun kv=>decide (kv.1=k))=true
 ·rw [if_pos e,if_pos e]; exact r.repl k ry
 ·rw [if_neg e,if_neg e]; exact Paired.snoc r ⟨rfl,ry⟩
theorem KV.length {kvs:List (κ × V)}{vs:List (κ × Value)} (r:KV kvs vs):kvs.length=vs.length:=Paired.length r
end
theorem mM {P:Program}{w:World}{k:aB}{u:Value} (r:aV (kV k) u):(e8 P w).is k u=true:=by
 cases k with
 | inl i=>obtain ⟨t,e⟩:=(show ∃ t,u=Value.int i t from r); subst e; exact al4 P w i t
 | inr x=>obtain ⟨t,e⟩:=(show ∃ t,u=Value.str x t from r); subst e; exact al5 P w x t
theorem G5 {P:Program}{w:World}:∀ {ks:List aB}{us:List Value},aM (ks.map kV) us->ItemsAre (e8 P w) ks us
 | [],_,r=>by rw [List.map_nil] at r; cases r; exact .nil
 | k :: ks,_,r=>by
  rw [bl3] at r
  cases r with
  | cons h t=>exact .cons (mM h) (G5 t)
noncomputable abbrev KT (H:Hp):List (List aB × V)->List (List aB × Addr × Value)->Prop:=Paired fun p q=>p.1=q.1/\H q.2.1=some (.tup (p.1.map kV))/\aV p.2 q.2.2
theorem KT.val {H:Hp}{kvs:List (List aB × V)}{xs:List (List aB × Addr × Value)} (r:KT H kvs xs) (k:List aB):kI (fO kvs k) ((atKey xs k).map (·.2)):=by
 induction r with
 | nil=>exact True.intro
 | @cons p q ps qs h t ih=>
  obtain ⟨h1,_,h2⟩:=h
  by_cases e:p.1=k
  ·have e':q.1=k:=h1.symm.trans e
   have b:atKey (q :: qs) k=some q.2:=by simp [atKey,bs0,e']
   rw [v0 e,b]; exact h2
  ·have e' : ¬ q.1=k:=fun z=>e (h1.trans z)
   have b:atKey (q :: qs) k=atKey qs k:=by simp [atKey,bs0,e']
   rw [v3 e,b]; exact ih
theorem KT.repl {H:Hp}{kvs:List (List aB × V)}{xs:List (List aB × Addr × Value)} (r:KT H kvs xs) (k:List aB) {y:V}{u:Value} (ry:aV y u) :
  KT H (kvs.map fun kv=>if kv.1=k then (kv.1,y) else kv) (xs.map (putAt k u)):=by
 induction r with
 | nil=>exact .nil
 | @cons p q ps qs h t ih=>
  rw [bl3,bl3]
  refine .cons ?_ ih
  obtain ⟨h1,h2,h3⟩:=h
  unfold putAt
  by_cases e:p.1=k
  ·rw [if_pos e,if_pos (h1.symm.trans e)]; exact⟨h1,h2,ry⟩
  ·rw [if_neg e,if_neg (fun z=>e (h1.trans z))]; exact⟨h1,h2,h3⟩
theorem KT.put {H:Hp}{kvs:List (List aB × V)}{xs:List (List aB × Addr × Value)} (r:KT H kvs xs) (k:List aB) {b:Addr}{y:V}{u:Value} (hb:H b=some (.tup (k.map kV))) (ry:aV y u) :
  KT H (eJ kvs k y) (storedH xs k b u):=by
 have e:(kvs.any fun kv=>decide (kv.1=k))=(atKey xs k).isSome:=by
  rw [G4,(r.val k).isSome_eq,Option.isSome_map]
 unfold eJ storedH
 rw [e]
 by_cases q:(atKey xs k).isSome=true
 ·rw [if_pos q,if_pos q]; exact r.repl k ry
 ·rw [if_neg q,if_neg q]; exact Paired.snoc r ⟨rfl,hb,ry⟩
theorem KT.keeps {H H':Hp}{kvs:List (List aB × V)}{xs:List (List aB × Addr × Value)} (r:KT H kvs xs) (ht:∀ b ys,H b=some (.tup ys)->H' b=some (.tup ys)):KT H' kvs xs:=
 Paired.mapP r fun _ _ z=>⟨z.1,ht _ _ z.2.1,z.2.2⟩
section
variable {P : Program} {w : World} {H : Hp} {h : Heap} {a : Addr}
theorem G6 {u:HO} (ok:bY P w H h) (e:Rd H a u):cE P w H h a u:=e.ok ok
theorem mO {kvs:List (aB × V)} (ok:bY P w H h) (e:Rd H a (.dK kvs)):kvs.length<=sizeLine/\(a == sysModules)=false/\∃ vs,KV kvs vs/\h.DictOf (e8 P w) a vs:=
 show cE P w H h a (.dK kvs) from G6 ok e
theorem qM {kvs:List (aB × V)} (ok:bY P w H h) (e:H a=some (.dK kvs)):kvs.length<=sizeLine/\(a == sysModules)=false/\∃ vs,KV kvs vs/\h.DictOf (e8 P w) a vs:=mO ok (.inl e)
theorem oD {ks:List aB} (ok:bY P w H h) (e:H a=some (.tup (ks.map kV))):(tupleKind (e8 P w)).is h ks a:=by
 obtain ⟨_,its,r,⟨o,h1,h2,n,h3⟩,_⟩:=(show cE P w H h a (.tup (ks.map kV)) from ok a _ e)
 exact⟨o,its.toArray,n,h1,h2,h3,by simpa using G5 r⟩
theorem oE {kvs:List (List aB × V)} (ok:bY P w H h) (e:Rd H a (.dT kvs)):kvs.length<=sizeLine/\(a == sysModules)=false/\
  ∃ xs,KT H kvs xs/\h.DictOfH (tupleKind (e8 P w)) a xs:=by
 obtain ⟨z,y,xs,r,o,es,ep,h1,h2,h3,h4,h5⟩:=(show cE P w H h a (.dT kvs) from G6 ok e)
 refine⟨z,y,xs,r,o,es,ep,h1,h2,h3,h4,fun x hx=>?_,h5⟩
 have all:∀ {l:List (List aB × V)}{m:List (List aB × Addr × Value)},KT H l m->∀ x ∈ m,(tupleKind (e8 P w)).is h x.1 x.2.1:=by
  intro l m q
  induction q with
  | nil=>intro x hx; exact nomatch hx
  | @cons p q ps qs hq t ih=>
   intro x hx
   rcases bg8.mp hx with e | hx
   ·subst e
    exact oD ok (by rw [<- hq.1]; exact hq.2.1)
   ·exact ih x hx
 exact all r x hx
theorem at7 {kvs:List (List aB × V)} (ok:bY P w H h) (e:H a=some (.dT kvs)):kvs.length<=sizeLine/\(a == sysModules)=false/\
  ∃ xs,KT H kvs xs/\h.DictOfH (tupleKind (e8 P w)) a xs:=oE ok (.inl e)
end
noncomputable def gM (H:Hp) (a:Addr) (y:V) (r:Option V):Prop:=
 (∃ kvs k,Rd H a (.dK kvs)/\y=kV k/\r=fO kvs k) ∨ ∃ kvs k b,Rd H a (.dT kvs)/\y = .ref b/\H b=some (.tup (k.map kV))/\r=fO kvs k
noncomputable def oF (H:Hp) (a:Addr) (y v:V) (H':Hp):Prop:=
 (∃ kvs k,H a=some (.dK kvs)/\y=kV k/\kvs.length < sizeLine/\H'=upd H a (.dK (eJ kvs k v))) ∨
 ∃ kvs k b,H a=some (.dT kvs)/\y = .ref b/\H b=some (.tup (k.map kV))/\kvs.length < sizeLine/\H'=upd H a (.dT (eJ kvs k v))
theorem gM.k {H:Hp}{a:Addr}{kvs:List (aB × V)}{k:aB} (e:H a=some (.dK kvs)):gM H a (kV k) (fO kvs k):=.inl ⟨kvs,k,.inl e,rfl,rfl⟩
theorem gM.t {H:Hp}{a b:Addr}{kvs:List (List aB × V)}{k:List aB} (e:H a=some (.dT kvs)) (eb:H b=some (.tup (k.map kV))):gM H a (.ref b) (fO kvs k):=.inr ⟨kvs,k,b,.inl e,rfl,eb,rfl⟩
theorem oF.k {H:Hp}{a:Addr}{kvs:List (aB × V)}{k:aB}{v:V} (e:H a=some (.dK kvs)) (hl:kvs.length < sizeLine):oF H a (kV k) v (upd H a (.dK (eJ kvs k v))):=.inl ⟨kvs,k,e,rfl,hl,rfl⟩
section
variable {X : Cx} {pins : List (Addr × Obj)} {σ : St} {H : Hp} {s : Shared} {a : Addr} {y v : V} {u r : Value} {o : Option V} {A : Around} {E : Value → Shared → Prop}
theorem a6.big (I:a6 X pins σ H s):sysModules < s.heap.objs.size:=by
 have h:mainGlobals < s.heap.objs.size:=(I.mod.glob.keeps I.bk).lt
 exact Nat.lt_trans (by decide) h
theorem at8 {Q:Value->Shared->Prop} (hu:A.units+1 < cLine) (I:a6 X pins σ H s) (g:gM H a y o) (ry:aV y u) (h:∀ s',a6 X pins σ H s'->Q (.bool o.isSome) s') :
  wpAny (model X.prog X.w) A (compareOp .In u (.ref a)) Q E s:=by
 rcases g with ⟨kvs,k,e,ey,l⟩ | ⟨kvs,k,b,e,ey,eb,l⟩
 ·subst ey
  obtain ⟨z,hd,vs,rel,dd⟩:=mO I.hok e
  refine wpAny_in_of (mM ry) hd dd.mapOf ?_
  rw [<- (rel.val k).isSome_eq,<- l]
  exact h _ (I.tok _)
 ·subst ey
  cases (show u=Value.ref b from ry)
  obtain ⟨z,hd,xs,rel,dd⟩:=oE I.hok e
  refine wpAny_in_heap (tupleKind_room_in1 hu) (oD I.hok eb) hd dd ?_
  have q:=(rel.val k).isSome_eq
  rw [Option.isSome_map] at q
  rw [<- q,<- l]
  exact h _ (I.tok _)
theorem at9 {Q:Value->Shared->Prop} (hu:A.units+1 < cLine) (I:a6 X pins σ H s) (g:gM H a y o) (ry:aV y u) (h:∀ s',a6 X pins σ H s'->Q (.bool (!o.isSome)) s') :
  wpAny (model X.prog X.w) A (compareOp .NotIn u (.ref a)) Q E s:=by
 rcases g with ⟨kvs,k,e,ey,l⟩ | ⟨kvs,k,b,e,ey,eb,l⟩
 ·subst ey
  obtain ⟨z,hd,vs,rel,dd⟩:=mO I.hok e
  refine wpAny_notIn_of (mM ry) hd dd.mapOf ?_
  rw [<- (rel.val k).isSome_eq,<- l]
  exact h _ (I.tok _)
 ·subst ey
  cases (show u=Value.ref b from ry)
  obtain ⟨z,hd,xs,rel,dd⟩:=oE I.hok e
  refine wpAny_notIn_heap (tupleKind_room_in1 hu) (oD I.hok eb) hd dd ?_
  have q:=(rel.val k).isSome_eq
  rw [Option.isSome_map] at q
  rw [<- q,<- l]
  exact h _ (I.tok _)
theorem qN {h':Heap}{t':Nat}{ob:HO} (I:a6 X pins σ H s) (mu:nY (H a)) (hs:Heap.SameBut a s.heap h') (he:∃ q,h'.get? a=some q) (new:cE X.prog X.w (upd H a ob) h' a ob) :
  a6 X pins σ (upd H a ob) { s with heap:=h',toks:=t' }:=
 I.write (x:=a) (e:=a) mu (.inl rfl) (fun b q hb z=>(hs.2 b hb).trans z) he new
theorem v5 {P:Program}{w:World}{H':Hp}{h':Heap}{kvs:List (aB × V)}{vs:List (aB × Value)} (z:kvs.length<=sizeLine) (hd:(a == sysModules)=false) (rel:KV kvs vs) (dd:h'.DictOf (e8 P w) a vs) :
  cE P w H' h' a (.dK kvs):=⟨z,hd,vs,rel,dd⟩
theorem au0 {H':Hp}{Q:Unit->Shared->Prop} (hu:A.units+1 < cLine) (I:a6 X pins σ H s) (g:oF H a y v H') (ry:aV y u) (rv:aV v r) (h:∀ s',a6 X pins σ H' s'->Q () s') :
  wpAny (model X.prog X.w) A (setItem (.ref a) u r) Q E s:=by
 rcases g with ⟨kvs,k,e,ey,l,eH⟩ | ⟨kvs,k,b,e,ey,eb,l,eH⟩
 ·subst ey eH
  obtain ⟨z,hd,vs,rel,dd⟩:=qM I.hok e
  have hz:vs.length<=sizeLine:=by rw [<- rel.length]; exact z
  have hl:(eJ kvs k v).length<=sizeLine:=by have:=v4 kvs k v; omega
  refine wpAny_setItem_pairs (hsz:=hz) (mM ry) dd fun h' dd' hs=>h _ ?_
  have he:∃ q,h'.get? a=some q:=let ⟨q,_,_,hq,_⟩:=dd'; ⟨q,hq⟩
  exact qN I (by rw [e]; exact True.intro) hs he (v5 hl hd (rel.put k rv) dd')
 ·subst ey eH
  cases (show u=Value.ref b from ry)
  obtain ⟨z,hd,xs,rel,dd⟩:=at7 I.hok e
  have hz:xs.length<=sizeLine:=by rw [<- Paired.length rel]; exact z
  have hl:(eJ kvs k v).length<=sizeLine:=by have:=v4 kvs k v; omega
  refine wpAny_setItem_heap (hsz:=hz) (tupleKind_room_in1 hu) (oD I.hok eb) dd fun h' dd' hs=>h _ ?_
  obtain ⟨q,es,ep,hq,h2,h3,h4,_,h5⟩:=dd'
  refine qN I (by rw [e]; exact True.intro) hs ⟨q,hq⟩ ⟨hl,hd,_,(rel.put k eb rv).keeps fun c ys ec=>?_,q,es,ep,hq,h2,h3,h4,h5⟩
  rw [aY (al6 ec e (fun z=>nomatch z))]
  exact ec
end
section
variable {X : Cx} {pins : List (Addr × Obj)} {σ : St} {H : Hp} {s : Shared} {a : Addr} {kvs : List (aB × V)} {k : aB} {u : Value} {A : Around} {E : Value → Shared → Prop}
theorem au1 {Q:Value->Shared->Prop} (I:a6 X pins σ H s) (e:Rd H a (.dK kvs)) (h:∀ t s',a6 X pins σ H s'->Q (.int kvs.length t) s'):wpAny (model X.prog X.w) A (call (.builtin "len") [.ref a]) Q E s:=by
 obtain ⟨z,hd,vs,rel,dd⟩:=mO I.hok e
 refine call_len_dict hd dd (by rw [<- rel.length]; rw [sizeLine_eq] at z; omega) ?_
 rw [<- rel.length]
 exact h _ _ (I.tok _)
end
noncomputable def G7 (ty td:TE):TE:=fun σ H Q=>ty σ H fun y H1=>td σ H1 fun x H2=>∃ a o,x = .ref a/\gM H2 a y o/\Q (.bl o.isSome) H2
noncomputable def G8 (ty td:TE):TE:=fun σ H Q=>ty σ H fun y H1=>td σ H1 fun x H2=>∃ a o,x = .ref a/\gM H2 a y o/\Q (.bl (!o.isSome)) H2
noncomputable def G9 (td ty tv:TE):TS:=fun D σ H=>tv σ H fun v H1=>td σ H1 fun x H2=>ty σ H2 fun y H3=>∃ a H4,x = .ref a/\oF H3 a y v H4/\D.nx σ H4
section
variable {X : Cx} {o i e value : Expr} {pos pos' tpos : Pos} {td ty tv : TE}
theorem au2 (hu:X.A.units+1 < cLine) (hi:PE X i ty) (ho:PE X o td):PC X .In i o (G7 ty td):=by
 intro pins s σ H Q I h
 refine aN (hi pins s σ H _ I h) fun iv s1 ⟨y,H1,I1,ry,q1⟩=>aN (ho pins s1 σ H1 _ I1 q1) fun u s2 ⟨x,H2,I2,rx,a,ov,ex,g,q2⟩=>?_
 subst ex
 obtain rfl:u=Value.ref a:=rx
 exact at8 hu I2 g ry fun s3 I3=>⟨.bl ov.isSome,H2,I3,rfl,q2⟩
theorem J0 (hu:X.A.units+1 < cLine) (hi:PE X i ty) (ho:PE X o td):PC X .NotIn i o (G8 ty td):=by
 intro pins s σ H Q I h
 refine aN (hi pins s σ H _ I h) fun iv s1 ⟨y,H1,I1,ry,q1⟩=>aN (ho pins s1 σ H1 _ I1 q1) fun u s2 ⟨x,H2,I2,rx,a,ov,ex,g,q2⟩=>?_
 subst ex
 obtain rfl:u=Value.ref a:=rx
 exact at9 hu I2 g ry fun s3 I3=>⟨.bl (!ov.isSome),H2,I3,rfl,q2⟩
theorem au3 (hu:X.A.units+1 < cLine) (ho:PE X o td) (hi:PE X i ty) (hv:PE X value tv) (hs:swapsWith value (some (.Subscript o i pos')) pos.line X.env=pure false) :
  PS X (.Assign [.Subscript o i pos'] value pos) (G9 td ty tv):=by
 intro pins s σ H D I h
 refine wpAny_Assign_Subscript (aN (hv pins s σ H _ I h) fun r s1 ⟨v,H1,I1,rv,q1⟩=>aN (ho pins s1 σ H1 _ I1 q1) fun u s2 ⟨x,H2,I2,rx,q2⟩=>aN (hi pins s2 σ H2 _ I2 q2) fun iv s3 ⟨y,H3,I3,ry,a,H4,ex,g,q3⟩=>?_) hs
 subst ex
 obtain rfl:u=Value.ref a:=rx
 exact au0 hu I3 g ry rv fun s4 I4=>⟨σ,H4,I4,q3⟩
end
theorem J1 {P:Program}{w:World}{H:Hp} (h:Heap) (hb:sysModules < h.objs.size):cE P w H (h.push { cls:=.type "dict",data:=.dict #[] }) h.objs.size (.dK []):=
 ⟨bl0 _,beq_eq_false_iff_ne.mpr (Ne.symm (bk6 hb)),[],.nil,Heap.DictOf.new h⟩
noncomputable def J2:TE:=fun _ H Q=>∀ p,H p=none->Q (.ref p) (upd H p (.dK []))
section
variable {X : Cx} {pos : Pos}
theorem au4:PE X (.Dict [] [] pos) J2:=fun pins s σ H Q I h=>
 wpAny_Dict_empty ⟨.ref s.heap.objs.size,_,I.laid (a:=s.heap.objs.size) (o:=.dK []) (t':=s.toks) (fun _ _ q=>bg1 _ q) (bg9 _) (J1 s.heap I.big),rfl,h _ (I.hok.fresh (bg9 _))⟩
end
noncomputable def v6:List (TE × TE)->St->Hp->(List (V × V)->Hp->Prop)->Prop
 | [],_,H,Q=>Q [] H
 | (tk,tv) :: r,σ,H,Q=>tk σ H fun x H1=>tv σ H1 fun y H2=>v6 r σ H2 fun ps H3=>Q ((x,y) :: ps) H3
noncomputable abbrev VV:List (V × V)->List (Value × Value)->Prop:=Paired fun p q=>aV p.1 q.1/\aV p.2 q.2
noncomputable def qO (X:Cx) (pos:Pos) (keys:List (Option Expr)) (values:List Expr) (trs:List (TE × TE)):Prop:=
 ∀ (pins:List (Addr × Obj)) (s:Shared) (σ:St) (H:Hp) (Q:List (V × V)->Hp->Prop),a6 X pins σ H s->v6 trs σ H Q->
  wpAny (model X.prog X.w) X.A (evalPairs (pairTrees keys values X.env pos)) (fun vs s'=>∃ ps H',a6 X pins σ H' s'/\VV ps vs/\Q ps H') X.xe s
theorem au5 {X:Cx}{pos:Pos}:qO X pos [] [] []:=fun pins s σ H Q I h=>pairTrees_nil_walk ⟨[],H,I,.nil,h⟩
theorem au6 {X:Cx}{pos:Pos}{k v:Expr}{ks:List (Option Expr)}{vs:List Expr}{tk tv:TE}{trs:List (TE × TE)} (hk:PE X k tk) (hv:PE X v tv) (hr:qO X pos ks vs trs) :
  qO X pos (some k :: ks) (v :: vs) ((tk,tv) :: trs):=fun pins s σ H Q I h=>
 pairTrees_cons_walk (aN (hk pins s σ H _ I h) fun u s1 ⟨x,H1,I1,rx,q1⟩=>aN (hv pins s1 σ H1 _ I1 q1) fun w2 s2 ⟨y,H2,I2,ry,q2⟩=>
  aN (hr pins s2 σ H2 _ I2 q2) fun ws s3 ⟨ps,H3,I3,rel,q3⟩=>⟨(x,y) :: ps,H3,I3,.cons ⟨rx,ry⟩ rel,q3⟩)
noncomputable def jC (kvs more:List (aB × V)):List (aB × V):=more.foldl (fun acc kv=>eJ acc kv.1 kv.2) kvs
theorem KV.merge:∀ {more:List (aB × V)}{rs:List (aB × Value)}{kvs:List (aB × V)}{vs:List (aB × Value)},KV more rs->KV kvs vs->KV (jC kvs more) (merged vs rs):=by
 intro more rs kvs vs r
 unfold KV at r
 induction r generalizing kvs vs with
 | nil=>intro q; exact q
 | @cons p q ps qs h t ih=>
  intro r0
  have e:KV (eJ kvs p.1 p.2) (stored vs q.1 q.2):=by
   have:=r0.put p.1 h.2
   rw [<- h.1]; exact this
  exact ih e
theorem v7:∀ (more kvs:List (aB × V)),(jC kvs more).length<=kvs.length+more.length
 | [],kvs=>by show kvs.length<=kvs.length+0; omega
 | p :: r,kvs=>by
  have h1:=v7 r (eJ kvs p.1 p.2)
  have h2:=v4 kvs p.1 p.2
  show (jC (eJ kvs p.1 p.2) r).length<=_
  rw [bi9]; omega
theorem J3 {P:Program}{w:World}:∀ {kvs:List (aB × V)}{ws:List (Value × Value)},VV (kvs.map fun kv=>(kV kv.1,kv.2)) ws->∃ rs,Carries (e8 P w) ws rs/\KV kvs rs
 | [],_,r=>by rw [List.map_nil] at r; cases r; exact⟨[],True.intro,.nil⟩
 | p :: kvs,_,r=>by
  rw [bl3] at r
  cases r with
  | @cons a b as bs h t=>
   obtain ⟨rs,c,q⟩:=J3 (P:=P) (w:=w) t
   obtain ⟨b1,b2⟩:=b
   exact⟨(p.1,b2) :: rs,⟨mM h.1,rfl,c⟩,.cons ⟨rfl,h.2⟩ q⟩
noncomputable def J4 (trs:List (TE × TE)):TE:=fun σ H Q=>∀ p,H p=none->v6 trs σ (upd H p (.dK [])) fun ps H2=>H2 p=some (.dK [])/\∃ kvs:List (aB × V),ps=kvs.map (fun kv=>(kV kv.1,kv.2))/\kvs.length<=15/\Q (.ref p) (upd H2 p (.dK (jC [] kvs)))
theorem au7 {X:Cx}{pos:Pos}{keys:List (Option Expr)}{values:List Expr}{trs:List (TE × TE)} (h:qO X pos keys values trs) (hall:keys.all (·.isSome)=true) (hl:keys.length=values.length) (h0:keys ≠ [])
  (h15:keys.length<=15):PE X (.Dict keys values pos) (J4 trs):=by
 intro pins s σ H Q I q
 have hn:=I.hok.fresh (bg9 s.heap.objs.size)
 have I1:=I.laid (a:=s.heap.objs.size) (o:=.dK []) (h':=s.heap.push { cls:=.type "dict",data:=.dict #[] }) (t':=s.toks) (fun _ _ q=>bg1 _ q) (bg9 _) (J1 s.heap I.big)
 refine wpAny_Dict_walk (knd:=e8 X.prog X.w) hall hl h0 h15 (aN (h pins _ σ _ _ I1 (q _ hn)) fun ws s2 ⟨ps,H2,I2,rel,e,kvs,ep,lk,q2⟩=>?_)
 subst ep
 obtain ⟨rs,c,rk⟩:=J3 (P:=X.prog) (w:=X.w) rel
 obtain ⟨z,hd,vs0,r0,dd⟩:=qM I2.hok e
 cases r0
 refine⟨rs,c,dd,fun h' dd' hs=>⟨.ref s.heap.objs.size,_,?_,rfl,q2⟩⟩
 have hz:(jC [] kvs).length<=sizeLine:=by
  have h1:=v7 kvs []
  rw [List.length_nil] at h1
  rw [sizeLine_eq]; omega
 have he:∃ q,h'.get? s.heap.objs.size=some q:=let ⟨q,_,_,hq,_⟩:=dd'; ⟨q,hq⟩
 exact qN I2 (by rw [e]; exact True.intro) hs he (v5 hz hd (rk.merge .nil) dd')
structure M1 (X:Cx) (o:Expr) (m:Str) (apos:Pos) (e:Expr) (cpos:Pos):Prop where
 base:attributeBase o m X.env (eval o X.env)=eval o X.env
 few:((backTo cpos (starEach [e] X.env)).all (fun x=>!x.1) && (backToKw cpos (keywordEach [] X.env)).all (fun x=>x.1.isSome)
  && decide (([e]:List Expr).length+([]:List Keyword).length+(if ([]:List Keyword).isEmpty then 0 else 1) < 30))=true
 line:(apos.endLine == cpos.line)=true
 trees:backTo cpos (starEach [e] X.env) = [(false,eval e X.env)]
structure M2 (X:Cx) (o:Expr) (m:Str) (apos:Pos) (e f:Expr) (cpos:Pos):Prop where
 base:attributeBase o m X.env (eval o X.env)=eval o X.env
 few:((backTo cpos (starEach [e,f] X.env)).all (fun x=>!x.1) && (backToKw cpos (keywordEach [] X.env)).all (fun x=>x.1.isSome)
  && decide (([e,f]:List Expr).length+([]:List Keyword).length+(if ([]:List Keyword).isEmpty then 0 else 1) < 30))=true
 line:(apos.endLine == cpos.line)=true
 trees:backTo cpos (starEach [e,f] X.env) = [(false,eval e X.env),(false,eval f X.env)]
noncomputable def v8 (H:Hp) (a:Addr):Prop:=(∃ kvs,Rd H a (.dK kvs)) ∨ ∃ kvs,Rd H a (.dT kvs)
theorem J5 {X:Cx}{pins:List (Addr × Obj)}{σ:St}{H:Hp}{s:Shared}{a:Addr} (I:a6 X pins σ H s) (d:v8 H a) :
  s.TypeIs (.ref a) "dict"/\(∀ b,Value.ref a = .ref b->∃ ob,s.heap.get? b=some ob/\ob.dict=none)/\(a == sysModules)=false:=by
 rcases d with ⟨kvs,e⟩ | ⟨kvs,e⟩
 ·obtain ⟨_,hd,vs,_,dd⟩:=mO I.hok e
  refine⟨dd.typeIs,fun b q=>?_,hd⟩
  cases q
  obtain ⟨ob,_,_,h1,h2,_⟩:=dd
  exact⟨ob,h1,h2.2.1⟩
 ·obtain ⟨_,hd,xs,_,dd⟩:=oE I.hok e
  refine⟨dd.typeIs,fun b q=>?_,hd⟩
  cases q
  obtain ⟨ob,_,_,h1,h2,_⟩:=dd
  exact⟨ob,h1,h2.2.1⟩
section
variable {X : Cx} {pins : List (Addr × Obj)} {σ : St} {H : Hp} {s : Shared} {a : Addr} {y d : V} {u r : Value} {o : Option V} {A : Around} {E : Value → Shared → Prop}
theorem au8 {Q:Value->Shared->Prop} (hu:A.units+1 < cLine) (I:a6 X pins σ H s) (g:gM H a y o) (ry:aV y u) (rd:aV d r) (h:∀ w' s',a6 X pins σ H s'->aV (o.getD d) w'->Q w' s') :
  wpAny (model X.prog X.w) A (call (.builtin "dict.get") [.ref a,u,r]) Q E s:=by
 rcases g with ⟨kvs,k,e,ey,l⟩ | ⟨kvs,k,b,e,ey,eb,l⟩
 ·subst ey
  obtain ⟨z,hd,vs,rel,dd⟩:=mO I.hok e
  refine call_meetsIn PySem.F.slot_dict_get dd.typeIs PySem.F.entry_dict_get (PySem.F.args_dict_get_3 _ _ _) (meets_dict_get_default (e8 X.prog X.w) a (mM ry) hd r) ⟨_,dd.mapOf,h _ _ (I.tok _) ?_⟩
  rw [l]
  exact (rel.val k).getD rd
 ·subst ey
  cases (show u=Value.ref b from ry)
  obtain ⟨z,hd,xs,rel,dd⟩:=oE I.hok e
  refine call_meetsIn PySem.F.slot_dict_get dd.typeIs PySem.F.entry_dict_get (PySem.F.args_dict_get_3 _ _ _) (meetsH_dict_get_default (tupleKind (e8 X.prog X.w)) a b hd r) ⟨tupleKind_room_in1 hu,k,xs,oD I.hok eb,dd,h _ _ (I.tok _) ?_⟩
  rw [l]
  exact (rel.val k).getD rd
end
noncomputable def J6 (td ty tx:TE):TE:=fun σ H Q=>td σ H fun x H1=>∃ a,x = .ref a/\v8 H1 a/\ty σ H1 fun y H2=>tx σ H2 fun z H3=>∃ o,gM H3 a y o/\Q (o.getD z) H3
section
variable {X : Cx} {o e f : Expr} {apos cpos : Pos} {td ty tx : TE}
theorem au9 (hu:X.A.units+1 < cLine) (ho:PE X o td) (he:PE X e ty) (hf:PE X f tx) (m:M2 X o "get" apos e f cpos):PE X (.Call (.Attribute o "get" apos) [e,f] [] cpos) (J6 td ty tx):=by
 intro pins s σ H Q I h
 refine wpAny_Call_method m.base m.few m.line PySem.F.plainAttrs_dict PySem.F.slot_dict_get PySem.F.type_dict_get (aN (ho pins s σ H _ I h) fun u s1 ⟨x,H1,I1,rx,a,ex,d,q1⟩=>?_)
 subst ex
 obtain rfl:u=Value.ref a:=rx
 obtain ⟨t1,t2,_⟩:=J5 I1 d
 refine⟨t1,t2,?_⟩
 rw [m.trees]
 refine Calls.callWith_builtin rfl (Calls.evalArgs_plain (Calls.spliced_cons (aN (he pins s1 σ H1 _ I1 q1) fun iv s2 ⟨y,H2,I2,ry,q2⟩=>
  Calls.spliced_cons (aN (hf pins s2 σ H2 _ I2 q2) fun fv s3 ⟨z,H3,I3,rz,ov,g,q3⟩=>Calls.spliced_nil ?_))))
 exact au8 hu I3 g ry rz fun w' s4 I4 rw'=>⟨_,H3,I4,rw',q3⟩
end
end L2
namespace Att
open PySem PySem.W PySem.Calls PyProof.Rows
theorem av0 {P:Params}{h:Heap}:∀ (ns:List Int) (vs:List Value),WellAll P h vs (ns.map WData.int)->IntsAre vs ns:=by
 intro ns
 induction ns with
 | nil=>
  intro vs w
  rw [List.map_nil] at w
  cases w
  exact .nil
 | cons n ns ih=>
  intro vs w
  rw [bl3] at w
  cases w with
  | cons a b=>
   cases a
   exact .cons _ _ (ih _ b)
theorem J7 {l:OpenLaw}{n:Nat} (hn:l.most=some n) {P:Params}{h:Heap}{args:List WData}{vals:List Value}
  (hpre:l.row.toRowW.claim.pre args=true) (hwl:WellAll P h vals args) :
  ∃ a vs ns,vals = [Value.ref a]/\args = [WData.list (ns.map WData.int)]/\h.get? a=some { cls:=.type "list",data:=.seq vs.toArray }/\IntsAre vs ns/\ns.length<=n:=by
 have hsh:WShape.hasAll [] args [.list .int]=true:=(pre_splitW hpre).1
 have hc:l.pre.holds [] { args:=args }=true:=(pre_splitW hpre).2
 obtain ⟨d,r,rfl,h1,h2⟩:=hasAllW_cons hsh
 obtain rfl:=hasAllW_nil h2
 obtain ⟨xs,rfl,h3⟩:=hasW_list h1
 obtain ⟨ns,rfl⟩:=items_int h3
 have hlen:ns.length<=n:=by
  unfold OpenLaw.pre at hc
  have h4:(WTm.not (.lt (.lit (.int (n:Int))) (.len (.arg 0)))).holds [] { args:=[.list (ns.map .int)] }=true:=by
   have h4:=(holds_andW hc).1
   rw [hn] at h4
   exact h4
  have h5:=condW_of h4 (w_not (w_lt w_lit (w_len_list (w_arg rfl))))
  rw [bg5] at h5
  refine bs9 fun q=>?_
  have q':(n:Int) < ((ns.length:Nat):Int):=by omega
  first
   | (rw [bg2 q'] at h5; exact absurd h5 (by decide))
   | (simp at h5; omega)
 cases hwl with
 | cons w1 w2=>
  cases w2
  cases w1 with
  | list ho hall=>exact⟨_,_,ns,rfl,rfl,ho,av0 ns _ hall,hlen⟩
theorem J8 (l:OpenLaw) (args:List WData):l.row.toRowW.claim.post args (.bool true) args=true:=
 postW_of (r:=l.row.toRowW) (X:=(true == true))
  (show WShape.has [] (.bool true) .bool=true by first | rfl | decide | simp [WShape.has,WShape.arms,WShape.armsAll])
  (show (WTm.eq .res (.lit (.bool true))).value [] { args:=args,res:=some (.bool true),after:=args }=some (.bool (true == true)) from w_eq_bool (w_res rfl) w_lit) rfl
theorem bf8 {l:OpenLaw}{n:Nat}{q:Program}{loose:List Str}{XP:(Str->Option Value)->Heap->Prop}{YP:World->Heap->Prop}{d:DefRec}{x:Str}
  (hn:l.most=some n) (hdf:d.params.defaults = [])
  (hbind:∀ pm cd doc v:Value,bindArgs (docDef d.name d.params d.body d.scope pm cd doc) ⟨[v],[]⟩=pure [(x,v)])
  (hx:d.scope.names.lookup x=some .local ∨ d.scope.names.lookup x=some .cell)
  (hk:d.scope.kind = .function) (hco:d.scope.isCoroutine=false) (hgen:d.scope.isGenerator=false)
  (body:∀ (w:World) (s₀ s₁ s:Shared) (mg mb:Str->Option Value) (fa:Addr) (o:Obj) (pm cd doc:Value) (a:Addr) (vs:List Value) (ns:List Int),
   Ground q loose [] XP w s₀ mg mb s₁.heap->YP w s₁.heap->
   s₁.heap.get? fa=some o->o.data = .func (docDef d.name d.params d.body d.scope pm cd doc)->s₁.heap.CodeRec cd d.name->mg d.name=some (.ref fa)->
   s₁.heap.get? a=some { cls:=.type "list",data:=.seq vs.toArray }->IntsAre vs ns->ns.length<=n->
   s.gens = #[]->s.os=s₁.os->
   Fr s₁.heap s₁.heap.objs.size s.heap (bindL (envOfC d.name d.scope s₁.heap.objs.size fa cd).kindOf [(x,.ref a)] fun _=>none)->
   Cl s₁.heap.objs.size (cellsFrom (s₁.heap.objs.size+1) d.scope.names []) s.heap (bindC (envOfC d.name d.scope s₁.heap.objs.size fa cd).kindOf [(x,.ref a)] fun _=>none)->
   wpAny (model l.prog w) (callerA.deeper (envOfC d.name d.scope s₁.heap.objs.size fa cd)) (execs d.body (envOfC d.name d.scope s₁.heap.objs.size fa cd))
    (fun f s'=>f = .ret (.bool true)/\OldK s₁.heap s'.heap/\s'.os=s₁.os/\AllBare s'.gens) (fun _ _=>False) s) :
  WalkO q loose XP YP l.row.toRowW d [] (fun f vs=>PySem.call f vs):=by
 intro w s₀ s₁ mg mb G Y fa o pm cd doc dV kV ho hd hcd hD hmg hg args vals as hpre hlay hrd hwl hlo
 obtain rfl:dV = .none:=Dflts.none hD hdf
 obtain rfl:kV = .none:=Dflts.noKw hD
 obtain ⟨a,vs,ns,rfl,rfl,hobj,hints,hlen⟩:=J7 hn hpre hwl
 refine enter_call ?_
 refine call_cells_ret (o:=o) (by rw [depth_caller]; decide) ho (fd_plain hd) G.T.nolimit hcd (hbind pm cd doc (.ref a)) (fun y hy=>?_) (fun h₁ tk F X=>?_) hco hgen hk
 ·obtain rfl:y=(x,Value.ref a):=bh1.mp hy
  rcases hx with e | e
  ·exact .inl e
  ·exact .inr ⟨e,cellsFrom_some _ _ _ (.inl e)⟩
 ·refine bq7 (body w s₀ s₁ { s₁ with heap:=h₁,toks:=tk } mg mb fa o pm cd doc a vs ns G Y ho (fd_plain hd) hcd hmg hobj hints hlen hg rfl F X) (fun f s' hq=>?_) (fun _ _ hq=>hq)
  obtain ⟨rfl,h2,h3,h4⟩:=hq
  exact⟨.inl ⟨.bool true,.bool true,[],rfl,fun _=>rfl,.bool true,J8 l _,fun _=>⟨bp2,fun _ hm=>(nomatch hm)⟩⟩,h2,h3,h4⟩
theorem av1 {l:OpenLaw}{n:Nat}{q:Program}{loose:List Str}{XP:(Str->Option Value)->Heap->Prop}{YP:World->Heap->Prop}{d:DefRec}
  (hn:l.most=some n) (hdf:d.params.defaults = [])
  (call:∀ (w:World) (s₀ s₁:Shared) (mg mb:Str->Option Value) (fa:Addr) (o:Obj) (pm cd doc:Value) (a:Addr) (vs:List Value) (ns:List Int),
   Ground q loose [] XP w s₀ mg mb s₁.heap->YP w s₁.heap->
   s₁.heap.get? fa=some o->o.data = .func (docDef d.name d.params d.body d.scope pm cd doc)->s₁.heap.CodeRec cd d.name->mg d.name=some (.ref fa)->
   s₁.heap.get? a=some { cls:=.type "list",data:=.seq vs.toArray }->IntsAre vs ns->ns.length<=n->s₁.gens = #[]->
   codeAny (model l.prog w) callerA (.call (.ref fa) ⟨[.ref a],[]⟩) (fun r s'=>r = .ok (.ret (.bool true))/\OldK s₁.heap s'.heap/\s'.os=s₁.os/\AllBare s'.gens) s₁) :
  WalkO q loose XP YP l.row.toRowW d [] (fun f vs=>PySem.call f vs):=by
 intro w s₀ s₁ mg mb G Y fa o pm cd doc dV kV ho hd hcd hD hmg hg args vals as hpre hlay hrd hwl hlo
 obtain rfl:dV = .none:=Dflts.none hD hdf
 obtain rfl:kV = .none:=Dflts.noKw hD
 obtain ⟨a,vs,ns,rfl,rfl,hobj,hints,hlen⟩:=J7 hn hpre hwl
 refine enter_call (codeAny_mono (call w s₀ s₁ mg mb fa o pm cd doc a vs ns G Y ho (fd_plain hd) hcd hmg hobj hints hlen hg) fun r s' hq=>?_)
 obtain ⟨rfl,h2,h3,h4⟩:=hq
 exact⟨.inl ⟨.bool true,.bool true,[],rfl,fun _=>rfl,.bool true,J8 l _,fun _=>⟨bp2,fun _ hm=>(nomatch hm)⟩⟩,h2,h3,h4⟩
end Att
namespace L2
open PySem PySem.Spec PyProof.Rows
theorem qP:∀ {vs:List Value}{ns:List Int},IntsAre vs ns->aM (ns.map V.int) vs
 | _,_,.nil=>.nil
 | _,_,.cons n t h=>.cons ⟨t,rfl⟩ (qP h)
noncomputable def qQ (H:Hp):Prop:=∀ b,H b=none ∨ ∃ o xs,H b=some (.frz o (.lst xs))
theorem av2 {P:Program}{w:World}{K:PySem.W.Frag}{mg mb:Str->Option Value}{CX:hZ}{k:Nat}{fa a:Addr}{fd:FuncData}{x:Str}{sp:Sp}{s₁:Shared}{vs:List Value}{ns:List Int}
  (KX:K.In s₁.heap) (hns:s₁.heap.Ns mainGlobals mg) (hb:s₁.heap.Ns builtinsNs mb) (hbb:∀ x:Str,x ≠ "__name__"->mb x=bootBuiltins x) (hlim:s₁.heap.NoLimit) (hg:s₁.gens = #[])
  (ha:s₁.heap.get? a=some { cls:=.type "list",data:=.seq vs.toArray }) (hi:IntsAre vs ns) (hl:ns.length<=sizeLine) (hr:cA k callerA)
  (F:∀ base:Heap,K.In base->base.Ns mainGlobals mg->cP P w K mg base CX k fa fd [x] sp) (hbind:∀ (s:Shared) (u:Value),BindsTo s fd ⟨[u],[]⟩ [(x,u)])
  (hsp:∀ H:Hp,qQ H->aK K H a (ns.map V.int)->sp [.ref a] H (fun v _=>v = .bl true) fun _ _ _=>False)
  (hCX:∀ H e s',CX [] H s₁ (fun _ _ _=>False) e s'->False) :
  codeAny (model P w) callerA (.call (.ref fa) ⟨[.ref a],[]⟩) (fun r s'=>r = .ok (.ret (.bool true))/\OldK s₁.heap s'.heap/\s'.os=s₁.os/\AllBare s'.gens) s₁:=by
 have rv:=qP hi
 have lenV:=hi.length
 have core:∀ H:Hp,qQ H->aK K H a (ns.map V.int)->bY P w H s₁.heap->(∀ b,H b ≠ none->b=a)->(H a ≠ none->K.lookup a=none)->
   codeAny (model P w) callerA (.call (.ref fa) ⟨[.ref a],[]⟩) (fun r s'=>r = .ok (.ret (.bool true))/\OldK s₁.heap s'.heap/\s'.os=s₁.os/\AllBare s'.gens) s₁:=by
  intro H hO hS hok hA hK
  have base_of:∀ {b:Addr}{o:Obj},s₁.heap.get? b=some o->H b=none->(jK s₁.heap H).get? b=some o:=fun e n=>al8 e n
  have noA:∀ {b:Addr}{o:Obj}{es:Array DictEntry}{ep:Nat},s₁.heap.get? b=some o->o.data = .dict es ep->H b=none:=fun {b o es ep} e d=>by
   cases q:H b with
   | none=>rfl
   | some u=>
    have e':b=a:=hA b (by rw [q]; simp)
    subst e'
    rw [ha] at e; cases e
    have d':Data.seq vs.toArray _=Data.dict es ep:=d
    cases d'
  have nsK:∀ {b:Addr}{m:Str->Option Value},s₁.heap.Ns b m->(jK s₁.heap H).Ns b m:=fun {b m} ⟨o,es,ep,e,d,r⟩=>⟨o,es,ep,base_of e (noA e d),d,r⟩
  have hKb:K.In (jK s₁.heap H):=fun b o e=>base_of (KX b o e) (by
   cases q:H b with
   | none=>rfl
   | some u=>
    have e':b=a:=hA b (by rw [q]; simp)
    subst e'
    rw [hK (by rw [q]; simp)] at e; cases e)
  have hM:Mod K mg (jK s₁.heap H):=⟨hKb,nsK hns,⟨mb,nsK hb,hbb⟩,let ⟨mc,h1,h2⟩:=hlim; ⟨mc,nsK h1,h2⟩⟩
  have e0:qK P w K mg (jK s₁.heap H) callerA [] s₁ H:=⟨rfl,hM,fun b o e=>al9 e,Nat.le_of_eq (al7 _ _),trivial,fun b hb=>absurd (show b ∈ ([]:List Addr) from hb) (by simp),hok,.of_eq hg⟩
  refine codeAny_mono ((F _ hKb (nsK hns)).run callerA [] s₁ H ⟨[.ref a],[]⟩ [.ref a] [.ref a] _ _ hr e0 (hbind s₁ (.ref a)) (.cons rfl .nil) (hsp H hO hS)) fun r s' h=>?_
  cases r with
  | error e=>exact (hCX H e s' h).elim
  | ok fl=>
   cases fl with
   | next=>exact False.elim h
   | brk=>exact False.elim h
   | cont=>exact False.elim h
   | ret u=>
    obtain ⟨v,H',os,bare,un,hok',r',q⟩:=h
    have q':v = .bl true:=q
    subst q'
    obtain rfl:u=Value.bool true:=r'
    refine⟨rfl,OldK.of_keep fun b o e=>?_,os,bare⟩
    cases q:H b with
    | none=>exact un.keep b o e q (by intro z; exact absurd (show b ∈ ([]:List Addr) from z) (by simp)) (by simp)
    | some u=>
     rcases hO b with z | ⟨ob,xs,z⟩
     ·rw [q] at z; cases z
     ·have z2:=un.frzs b ob _ z
      obtain ⟨e1,_⟩:=hok b _ z
      obtain ⟨e2,_⟩:=hok' b _ z2
      rw [e] at e1; cases e1
      exact e2
 cases hk:K.lookup a with
 | some o=>
  have e:=KX a o hk
  rw [ha] at e
  cases e
  refine core (fun _=>none) (fun _=>.inl rfl) (.inr ⟨_,vs.toArray,_,hk,rfl,rfl,rfl,by rw [bh0,lenV]; exact hl,by simpa using rv⟩) (fun b u z=>by have z':(none:Option HO)=some u:=z; cases z') (fun b z=>absurd rfl z) fun z=>absurd rfl z
 | none=>
  refine core (fun b=>if b=a then some (.frz { cls:=.type "list",data:=.seq vs.toArray } (.lst (ns.map V.int))) else none) (fun b=>?_) (.inl (.inr ⟨{ cls:=.type "list",data:=.seq vs.toArray },if_pos rfl⟩)) (fun b u z=>?_) (fun b z=>?_) fun _=>hk
  ·by_cases hb:b=a
   ·exact .inr ⟨_,_,if_pos hb⟩
   ·exact .inl (if_neg hb)
  ·by_cases hb:b=a
   ·have z':=(if_pos hb).symm.trans z
    cases z'
    subst hb
    exact⟨ha,by rw [bg5]; exact hl,vs,_,rv,ha⟩
   ·have z':=(if_neg hb).symm.trans z
    cases z'
  ·by_cases hb:b=a
   ·exact hb
   ·exact absurd (if_neg hb) z
theorem av3 {l:PySem.W.OpenLaw}{n k:Nat}{q:Program}{loose:List Str}{XP:(Str->Option Value)->Heap->Prop}{YP:World->Heap->Prop}{d:DefRec}{K:Params->PySem.W.Frag}{CX:World->hZ}{sp:World->Sp}{x:Str}
  (hn:l.most=some n) (hn2:n<=sizeLine) (hdf:d.params.defaults = []) (hr:cA k callerA)
  (hY:∀ (w:World) (h:Heap),YP w h->(K w.params).In h)
  (F:∀ (w:World) (mg:Str->Option Value) (fa:Addr) (h:Heap),(K w.params).In h->h.Ns mainGlobals mg->mg d.name=some (.ref fa)->
   ∃ fd:FuncData,(∀ (s:Shared) (u:Value),BindsTo s fd ⟨[u],[]⟩ [(x,u)])/\
    ∀ base:Heap,(K w.params).In base->base.Ns mainGlobals mg->cP l.prog w (K w.params) mg base (CX w) k fa fd [x] (sp w))
  (hsp:∀ (w:World) (H:Hp) (a:Addr) (ns:List Int),ns.length<=n->qQ H->aK (K w.params) H a (ns.map V.int)->sp w [.ref a] H (fun v _=>v = .bl true) fun _ _ _=>False)
  (hCX:∀ (w:World) (H:Hp) (s:Shared) (e:Value) (s':Shared),CX w [] H s (fun _ _ _=>False) e s'->False) :
  PySem.W.WalkO q loose XP YP l.row.toRowW d [] (fun f vs=>PySem.call f vs):=by
 refine Att.av1 hn hdf fun w s₀ s₁ mg mb fa o pm cd doc a vs ns G Y ho hd hcd hmg hobj hints hlen hg=>?_
 have KX:=hY w _ Y
 obtain ⟨fd,hb,hF⟩:=F w mg fa _ KX G.T.g hmg
 exact av2 KX G.T.g G.T.b G.T.builtins G.T.nolimit hg hobj hints (bl1 hlen hn2) hr hF hb (fun H hO hS=>hsp w H a ns hlen hO hS) fun H e s'=>hCX w H s₁ e s'
noncomputable def jR (s:Stmt):Arguments:=match s with
 | .FunctionDef _ a _ _ _ _ _ _ _ _=>a
 | _=>{ posonlyargs:=[],args:=[],vararg:=none,kwonlyargs:=[],kw_defaults:=[],kwarg:=none,defaults:=[] }
noncomputable def fG (s:Stmt):List Stmt:=match s with
 | .FunctionDef _ _ b _ _ _ _ _ _ _=>b
 | _=>[]
noncomputable def aX (s:Stmt):Scope:=match s with
 | .FunctionDef _ _ _ _ _ _ sc _ _ _=>sc
 | _=>{ kind:=.function,names:=[],isGenerator:=false,isCoroutine:=false }
noncomputable abbrev dR:hZ:=fun _ _ _ _ _ _=>False
noncomputable abbrev E0:XK:=fun _ _ _=>False
theorem av4 {X:Cx}:o6 dR X E0:=fun _ _ _ _ _ _ _ h=>h.elim
structure fH (K:PySem.W.Frag) (x qual:Str) (st:Stmt) (f:Addr) (fd:FuncData):Prop where
 ex:∃ (oc:Value) (od:Option Addr) (kV doc pm:Value) (an:Option Addr) (cdv ct:Value) (osl:Array (Option Value)),
  fd=PySem.W.fnOf x qual (jR st) (fG st) (aX st) .none kV doc pm an cdv ct/\K.lookup f=some ⟨oc,od,.func fd,osl⟩/\PySem.W.codeIn K cdv qual=true
 kp:PySem.W.keepIn K (.ref f)=true
section
variable {P : Program} {w : World} {K : PySem.W.Frag} {mg : Str → Option Value} {base : Heap}
theorem fH.ok {x qual:Str}{st:Stmt}{f:Addr}{fd:FuncData}{N ps:List Str}{k:Nat}{sp:Sp} (F:fH K x qual st f fd) (S:FnScope N ps (aX st)) (len:∀ vs H Q E,sp vs H Q E->vs.length=ps.length)
  (hbody:∀ (cdv:Value) (A:Around) (outer:List Env) (s:Shared) (H:Hp) (vs:List V) (Q:VK) (E:XK),cA k (A.deeper (envOfC qual (aX st) s.heap.objs.size f cdv))->sp vs H Q E->
   ∃ t,eU (dN dR P w K mg base N qual (aX st) f cdv A outer s H E).nox (fG st) t/\t { nx:=fun _ H'=>Q .non H',rt:=Q } (start N vs) H):cP P w K mg base dR (k+1) f fd ps sp:=by
 obtain ⟨oc,od,kV,doc,pm,an,cdv,ct,osl,rfl,lk,hcd⟩:=F.ex
 refine C9 lk hcd S len fun A outer s H vs Q E hr hsp=>?_
 obtain ⟨t,h,q⟩:=hbody cdv A outer s H vs Q E hr hsp
 exact⟨t,h.nox,q⟩
theorem fH.binds {x qual:Str}{st:Stmt}{f:Addr}{fd:FuncData}{ps:List Str} (F:fH K x qual st f fd)
  (h:∀ (kV doc pm:Value) (an:Option Addr) (cdv ct:Value) (us:List Value),us.length=ps.length->bindArgs (PySem.W.fnOf x qual (jR st) (fG st) (aX st) .none kV doc pm an cdv ct) ⟨us,[]⟩=pure (ps.zip us)):jB K fd ps []:=by
 obtain ⟨oc,od,kV,doc,pm,an,cdv,ct,osl,rfl,lk,hcd⟩:=F.ex
 exact .all (h kV doc pm an cdv ct)
theorem av5 {x qual:Str}{st:Stmt}{f:Addr}{oc:Value}{od an:Option Addr}{osl:Array (Option Value)}{kV doc pm cdv ct:Value} (l:K.lookup f=some ⟨oc,od,.func (PySem.W.fnOf x qual (jR st) (fG st) (aX st) .none kV doc pm an cdv ct),osl⟩)
  (c:PySem.W.codeIn K cdv qual=true) (k:PySem.W.keepIn K (.ref f)=true):fH K x qual st f (PySem.W.fnOf x qual (jR st) (fG st) (aX st) .none kV doc pm an cdv ct):=⟨⟨oc,od,kV,doc,pm,an,cdv,ct,osl,rfl,l,c⟩,k⟩
end
theorem lK {A:Around}{k:Nat} (hr:cA k A):A.units+1 < cLine:=Nat.lt_of_le_of_lt (Nat.add_le_add_left (by decide:1<=64) _) hr.units
theorem oG {n:Nat} (h:n<=1000):n < sizeLine:=Nat.lt_of_le_of_lt h (by decide)
section
variable {X : Cx}
theorem pv (i:Nat) {x:Str}{pos:Pos} (hN:X.N[i]? = some x:=by rfl) (hv:gI X.env.scope x:=by first | exact Or.inl rfl | exact Or.inr (Or.inl rfl) | exact Or.inr (Or.inr rfl)) (hd:(x == ("__debug__" : Str))=false:=by decide)
  (hcd:(x == ("__classdict__" : Str))=false:=by decide):PE X (.Name x pos) (iG i):=j8 hN hv hd hcd
theorem av6:dQ X (.builtin "len") (fun xs H Q=>∃ a kvs,xs = [V.ref a]/\H a=some (.dK kvs)/\Q (.int kvs.length) H):=by
 intro pins s σ H xs us Q I r h
 obtain ⟨a,kvs,rfl,ha,q⟩:=h
 obtain ⟨u,rfl,ru⟩:=jA r
 cases ru
 exact au1 I (.inl ha) fun t s' I'=>⟨.int kvs.length,H,I',⟨t,rfl⟩,q⟩
end
theorem bB {A B:Prop} (h:B):if false=true then A else B:=by
 rw [if_neg bi5]
 exact h
theorem bE {A B:Prop} (h:A):if true=true then A else B:=by
 rw [if_pos rfl]
 exact h
noncomputable def aD (H H':Hp):Prop:=∀ b o,H b=some o->H' b=some o
theorem aD.refl (H:Hp):aD H H:=fun _ _ h=>h
theorem aD.trans {H H1 H2:Hp} (a:aD H H1) (b:aD H1 H2):aD H H2:=fun c o h=>b c o (a c o h)
theorem aD.free {H H':Hp} (e:aD H H') {l:Addr} (h:H' l=Option.none):H l=Option.none:=by
 cases q:H l with
 | none=>rfl
 | some o=>
  rw [e l o q] at h
  cases h
theorem aD.seq {K:PySem.W.Frag}{H H':Hp}{a:Addr}{xs:List V} (e:aD H H') (h:aK K H a xs):aK K H' a xs:=by
 rcases h with (h | ⟨o,h⟩) | h
 ·exact .inl (.inl (e _ _ h))
 ·exact .inl (.inr ⟨o,e _ _ h⟩)
 ·exact .inr h
noncomputable def eV (cells:List (Str × Addr)):List (Str × NameKind)->List (Str × Addr)->List (Str × Addr)
 | [],cs=>cs
 | (n,k) :: r,cs=>eV cells r (if k == .free then (n,(cells.lookup n).getD 0) :: cs else cs)
theorem v9 {env:Env}:∀ (ns:List (Str × NameKind)) (cs:List (Str × Addr)),(∀ x ∈ ns,x.2 = .free->∃ c,env.cells.lookup x.1=some c)->
  (forIn ns cs (fun (x:Str × NameKind) r=>(match x with
   | (name,kind)=>if (kind == .free)=true then (do let y <- cellOf env name; pure (ForInStep.yield ((name,y) :: r))) else pure (ForInStep.yield r)):_->_->Sem _))=(pure (eV env.cells ns cs):Sem (List (Str × Addr)))
 | [],cs,_=>by rw [List.forIn_nil]; rfl
 | (n,k) :: r,cs,h=>by
  rw [List.forIn_cons]
  have hr:∀ x ∈ r,x.2 = .free->∃ c,env.cells.lookup x.1=some c:=fun x hx=>h x (bg6 _ hx)
  cases hk:(k == NameKind.free) with
  | true=>
   have e:k = .free:=by simpa using hk
   obtain ⟨c,hc⟩:=h (n,k) bg7 e
   simp only [hk,if_true]
   have e1:cellOf env n=pure c:=by unfold cellOf; rw [hc]
   rw [e1]
   show ((pure c >>= fun y=>pure (ForInStep.yield ((n,y) :: cs))) >>= _:Sem _)=_
   rw [pure_bind,pure_bind]
   have:=v9 (env:=env) r ((n,c) :: cs) hr
   refine this.trans ?_
   unfold eV
   simp only [hk,if_true,hc,Option.getD_some]
   cases r <;> rfl
  | false=>
   simp only [hk,bj7,bp8]
   rw [pure_bind]
   have:=v9 (env:=env) r cs hr
   refine this.trans ?_
   conv=>rhs; unfold eV
   simp only [hk,bj7,bp8]
theorem qR {scope:Scope}{env:Env} (h:∀ x ∈ scope.names,x.2 = .free->∃ c,env.cells.lookup x.1=some c):closureFor scope env=pure (eV env.cells scope.names []):=by
 have e:=v9 (env:=env) scope.names [] h
 unfold closureFor
 rw [show (pure (eV env.cells scope.names []):Sem (List (Str × Addr)))=(pure (eV env.cells scope.names []) >>= pure) by rw [pure_bind]]
 rw [<- e]
theorem qS {cells:List (Str × Addr)}:∀ (ns:List (Str × NameKind)) (cs:List (Str × Addr)) {x:Str}{c:Addr},(∀ y ∈ ns,y.2 = .free->∃ c,cells.lookup y.1=some c)->
  (∀ x c,cs.lookup x=some c->cells.lookup x=some c)->(eV cells ns cs).lookup x=some c->cells.lookup x=some c
 | [],cs,x,c,_,hc,h=>hc x c h
 | (n,k) :: r,cs,x,c,hn,hc,h=>by
  unfold eV at h
  have hr:∀ y ∈ r,y.2 = .free->∃ c,cells.lookup y.1=some c:=fun y hy=>hn y (bg6 _ hy)
  cases hk:(k == NameKind.free) with
  | false=>
   simp only [hk,bj7,bp8] at h
   exact qS r cs hr hc h
  | true=>
   simp only [hk,if_true] at h
   refine qS r _ hr (fun y d e=>?_) h
   obtain ⟨c0,h0⟩:=hn (n,k) bg7 (by simpa using hk)
   have h0:cells.lookup n=some c0:=h0
   rw [h0] at e
   rw [bo3] at e
   by_cases hyn:y=n
   ·subst hyn
    simp only [bp9,Option.getD_some] at e
    rw [h0]; exact e
   ·have:(y == n)=false:=beq_eq_false_iff_ne.mpr hyn
    simp only [this] at e
    exact hc y d e
theorem vA {cells:List (Str × Addr)}:∀ (ns:List (Str × NameKind)) (cs:List (Str × Addr)) {x:Str},((x,NameKind.free) ∈ ns ∨ ∃ c,cs.lookup x=some c)->∃ c,(eV cells ns cs).lookup x=some c
 | [],cs,x,h=>by
  rcases h with h | h
  ·simp at h
  ·exact h
 | (n,k) :: r,cs,x,h=>by
  unfold eV
  refine vA r _ ?_
  rcases h with h | ⟨c,h⟩
  ·rcases bg8.mp h with e | e
   ·cases e
    exact .inr ⟨_,by simp [bo3]; rfl⟩
   ·exact .inl e
  ·right
   cases hk:(k == NameKind.free) with
   | false=>exact⟨c,by simpa [hk] using h⟩
   | true=>
    simp only [if_true]
    rw [bo3]
    by_cases hxn:(x == n)=true
    ·simp only [hxn]; exact⟨_,rfl⟩
    ·simp only [Bool.eq_false_iff.mpr hxn]; exact⟨c,h⟩
theorem qT {env:Env}:∀ {names:List (Str × NameKind)}{x:Str}{k:NameKind},(names.map fun (n,k)=>if (k == NameKind.free && env.scope.kind == .function && env.kindOf n == some .cell) then (n,NameKind.cell) else (n,k)).lookup x=some k->
  names.lookup x=some k ∨ (names.lookup x=some .free/\k = .cell)
 | [],_,_,h=>by simp at h
 | (n,q) :: r,x,k,h=>by
  have ih:=@qT env r x k
  rw [bl3] at h
  by_cases hx:(x == n)=true
  ·have e:x=n:=by simpa using hx
   subst e
   by_cases hc:(q == NameKind.free && env.scope.kind == .function && env.kindOf x == some .cell)=true
   ·simp only [hc,if_true,bo3,bp9] at h
    have hq:q = .free:=by simp at hc; exact hc.1.1
    exact .inr ⟨by simp [bo3,hq],(bj0 h).symm⟩
   ·simp only [hc,bj7,bp8,bo3,bp9] at h
    exact .inl (by simp [bo3]; exact bj0 h)
  ·have hx':(x == n)=false:=Bool.eq_false_iff.mpr hx
   have h':(r.map fun (n,k)=>if (k == NameKind.free && env.scope.kind == .function && env.kindOf n == some .cell) then (n,NameKind.cell) else (n,k)).lookup x=some k:=by
    by_cases hc:(q == NameKind.free && env.scope.kind == .function && env.kindOf n == some .cell)=true
    ·simp only [hc,if_true,bo3,hx'] at h; exact h
    ·simp only [hc,bj7,bp8,bo3,hx'] at h; exact h
   simp only [bo3,hx']
   exact ih h'
noncomputable def gB (fr:List (Option Nat)) (σ:St):St:=fr.map fun o=>o.bind fun j=>(σ[j]?).join
noncomputable def Wk (σ₁ σ₂:St):Prop:=σ₁.length=σ₂.length/\∀ (i:Nat) v,σ₁[i]? = some (some v)->σ₂[i]? = some (some v)
theorem Wk.refl (σ:St):Wk σ σ:=⟨rfl,fun _ _ h=>h⟩
theorem Wk.set {σ τ:St}{i:Nat}{v:V} (h:Wk σ τ) (hi:σ[i]? = some none):Wk σ (τ.set i (some v)):=by
 refine⟨by rw [bm7]; exact h.1,fun j w e=>?_⟩
 by_cases hj:j=i
 ·subst hj; rw [hi] at e; cases e
 ·rw [bk8 (Ne.symm hj)]; exact h.2 j w e
theorem jS:∀ (ns:List (Str × NameKind)) (n:Nat) (cs:List (Str × Addr)),cellsFrom n ns cs=cellsFrom n ns [] ++ cs
 | [],_,_=>rfl
 | (x,k) :: r,n,cs=>by
  unfold cellsFrom
  split
  ·rw [jS r (n+1) ((x,n) :: cs),jS r (n+1) [(x,n)]]; simp
  ·exact jS r n cs
theorem vB:∀ (ns:List (Str × NameKind)) (n:Nat) {x:Str}{c:Addr},(x,c) ∈ cellsFrom n ns []->(x,NameKind.cell) ∈ ns
 | [],_,_,_,h=>by simp [cellsFrom] at h
 | (y,k) :: r,n,x,c,h=>by
  unfold cellsFrom at h
  split at h
  ·rename_i hk
   rw [jS] at h
   rcases bh4.mp h with z | z
   ·exact bg6 _ (vB r _ z)
   ·rw [bh1] at z
    cases z
    have:k = .cell:=by simpa using hk
    rw [this]; exact bg7
  ·exact bg6 _ (vB r _ h)
theorem qU:∀ (ns:List (Str × NameKind)) (n:Nat) {x:Str},(x,NameKind.cell) ∈ ns->∃ c,(x,c) ∈ cellsFrom n ns []
 | (y,k) :: r,n,x,h=>by
  unfold cellsFrom
  rcases bg8.mp h with z | z
  ·cases z
   rw [if_pos (by rfl),jS]
   exact⟨n,bj6 _ (by simp)⟩
  ·split
   ·obtain ⟨c,hc⟩:=qU r (n+1) z
    rw [jS]
    exact⟨c,bk3 _ hc⟩
   ·exact qU r n z
theorem vC {α:Type}:∀ {l:List (Str × α)}{x:Str}{c:α},(x,c) ∈ l->∃ d,l.lookup x=some d
 | (y,v) :: r,x,c,h=>by
  rw [bo3]
  cases hb:x == y with
  | true=>exact⟨v,rfl⟩
  | false=>
   rcases bg8.mp h with z | z
   ·cases z; simp at hb
   ·exact vC z
theorem qV {α:Type}{x:Str}:∀ (l r:List (Str × α)),(l ++ r).lookup x=(match l.lookup x with | some v=>some v | none=>r.lookup x)
 | [],_=>rfl
 | (y,v) :: l,r=>by
  rw [List.cons_append,bo3,bo3]
  cases hb:x == y with
  | true=>rfl
  | false=>exact qV l r
noncomputable def i4 (X:Cx) (scope:Scope) (C:Addr):List (Str × Addr):=cellsFrom (C+1) scope.names (eV X.env.cells scope.names [])
theorem lM {X:Cx}{scope:Scope}{C:Addr}{x:Str}{c:Addr} (h:(i4 X scope C).lookup x=some c) :
  (x,c) ∈ cellsFrom (C+1) scope.names [] ∨ ((∀ d,(x,d) ∉ cellsFrom (C+1) scope.names [])/\(eV X.env.cells scope.names []).lookup x=some c):=by
 unfold i4 at h
 rw [jS,qV] at h
 cases e:(cellsFrom (C+1) scope.names []).lookup x with
 | some v=>rw [e] at h; cases h; exact .inl (bm9 e)
 | none=>
  rw [e] at h
  refine .inr ⟨fun d hd=>?_,h⟩
  obtain ⟨d',z⟩:=vC hd
  rw [e] at z; cases z
theorem av7 {X:Cx}{scope:Scope}{C:Addr}{x:Str}{c:Addr} (hn:(x,NameKind.cell) ∉ scope.names) (h:(eV X.env.cells scope.names []).lookup x=some c):(i4 X scope C).lookup x=some c:=by
 unfold i4
 rw [jS,qV]
 cases e:(cellsFrom (C+1) scope.names []).lookup x with
 | some v=>exact absurd (vB _ _ (bm9 e)) hn
 | none=>exact h
theorem J9 {X:Cx}{scope:Scope}{C:Addr}{x:Str} (h:(x,NameKind.cell) ∈ scope.names ∨ ∃ c,(eV X.env.cells scope.names []).lookup x=some c):∃ c,(i4 X scope C).lookup x=some c:=by
 unfold i4
 rw [jS,qV]
 cases e:(cellsFrom (C+1) scope.names []).lookup x with
 | some v=>exact⟨v,rfl⟩
 | none=>
  rcases h with h | h
  ·obtain ⟨c,hc⟩:=qU scope.names (C+1) h
   obtain ⟨d,hd⟩:=vC hc
   rw [e] at hd; cases hd
  ·exact h
noncomputable def bV (X:Cx) (scope:Scope) (N:List Str) (s:Shared) (H:Hp) (C:Addr) (fp:List Addr) (E:Value->Shared->Prop):Cx:=
 { X with N:=N,s₀:=s,H₀:=H,env:=compEnvC scope (i4 X scope C) C X.env,outer:=X.stack,ex:=fp,fn:=fun x=>scope.names.lookup x == some .cell,pn:=[],xe:=E }
structure cQ (X:Cx) (scope:Scope) (N:List Str) (fr:List (Option Nat)):Prop where
 kind:scope.kind = .function
 own:∀ y ∈ scope.names,y.2 = .cell->scope.names.lookup y.1=some .cell
 names:∀ y ∈ scope.names,y.2 = .local->scope.names.lookup y.1=some .local
 free:∀ y ∈ scope.names,y.2 = .free->X.env.scope.names.lookup y.1=some .cell ∨ X.env.scope.names.lookup y.1=some .free
 len:fr.length=N.length
 from_:∀ (i j:Nat),fr[i]? = some (some j)->∃ x,N[i]? = some x/\X.N[j]? = some x/\scope.names.lookup x=some .free
section
variable {X : Cx} {pins : List (Addr × Obj)} {σ : St} {H : Hp} {s : Shared} {scope : Scope} {N : List Str} {fr : List (Option Nat)}
theorem cQ.cells (S:cQ X scope N fr) (I:a6 X pins σ H s):∀ y ∈ scope.names,y.2 = .free->∃ c,X.env.cells.lookup y.1=some c:=fun y hy hk=>I.ok.has y.1 (S.free y hy hk)
theorem av8 {C D:Addr}{fp:List Addr}{E:Value->Shared->Prop}{h1:Heap}{tk:Nat}{m:Str->Option Value} (S:cQ X scope N fr) (I:a6 X pins σ H s)
  (hf:∀ b ∈ fp,hV X pins H b) (hfl:∀ b ∈ fp,b < s.heap.objs.size) (hD:s.heap.objs.size<=D) (hC:s.heap.objs.size<=C) (hDC:D < C)
  (old:∀ b o,s.heap.get? b=some o->h1.get? b=some o) (hns:h1.Ns C m) (hacc:h1.get? D=some { cls:=.type "list",data:=.seq #[] 0 }) (hco:CellsOk h1 (C+1) (cellsFrom (C+1) scope.names [])) :
  a6 (bV X scope N s H C fp E) [] (gB fr σ) (upd H D (.lst [])) { s with heap:=h1,toks:=tk }:=by
 have hHD:H D=none:=I.hok.fresh hD
 have cl:=S.cells I
 have cs:∀ {x:Str}{c:Addr},(eV X.env.cells scope.names []).lookup x=some c->X.env.cells.lookup x=some c:=fun {x c} h=>qS scope.names [] cl (fun _ _ z=>by simp at z) h
 have clt:∀ {x:Str}{c:Addr},X.env.cells.lookup x=some c->c < s.heap.objs.size:=fun {x c} h=>by obtain ⟨v,z⟩:=I.cell x c h; exact z.lt
 have nge:∀ {x:Str}{c:Addr},(x,c) ∈ cellsFrom (C+1) scope.names []->C < c:=fun {x c} h=>(hco.empty x c h).2
 refine⟨⟨I.ok.mod,?_,I.ok.glob,I.ok.blt,hC,?_,?_,?_,I.ok.hd,I.ok.frames,.inl rfl,?_,I.bs,bl1 I.ok.bsz I.sz,?_,?_,I.stack,I.stkFree⟩,rfl,I.bare,Un.laid old hD hHD,⟨m,hns,?_⟩,?_,?_,?_,fun p hp=>absurd (show p ∈ ([]:List (Addr × Obj)) from hp) (by simp),?_,?_⟩
 ·exact S.kind
 ·intro x y c h1 h2
  rcases lM h1 with a | ⟨_,a⟩ <;> rcases lM h2 with b | ⟨_,b⟩
  ·exact name_of_addr hco.apart a b
  ·exact absurd (bi2 (Nat.lt_trans (nge a) (clt (cs b))) hC) (bo5 _)
  ·exact absurd (bi2 (Nat.lt_trans (nge b) (clt (cs a))) hC) (bo5 _)
  ·exact I.ok.inj x y c (cs a) (cs b)
 ·intro x hx
  have hx:(relabel scope X.env).names.lookup x=some .cell ∨ (relabel scope X.env).names.lookup x=some .free:=hx
  have fin:(x,NameKind.free) ∈ scope.names->∃ c,(i4 X scope C).lookup x=some c:=fun z=>J9 (.inr (vA scope.names [] (.inl z)))
  rcases hx with hx | hx
  ·rcases qT hx with z | z
   ·exact J9 (.inl (bm9 z))
   ·exact fin (bm9 z.1)
  ·rcases qT hx with z | z
   ·exact fin (bm9 z)
   ·exact absurd z.2 (by decide)
 ·intro x c hx h
  have hx:(scope.names.lookup x == some NameKind.cell)=true:=hx
  have hx:scope.names.lookup x=some .cell:=by simpa using hx
  rcases lM h with a | ⟨a,_⟩
  ·exact bl1 hC (bn7 (nge a))
  ·obtain ⟨d,hd⟩:=qU scope.names (C+1) (bm9 hx)
   exact absurd hd (a d)
 ·intro b hb
  refine⟨bk6 (bi2 (hfl b hb) hC),fun x c e=>?_⟩
  rcases lM e with a | ⟨_,a⟩
  ·exact bp6 (Nat.lt_trans (bi2 (hfl b hb) hC) (nge a))
  ·exact (hf b hb).2.2.2.2.1 x c (cs a)
 ·intro b o e hb
  rcases (hf b hb).2.2.2.1 with z | z
  ·exact I.ok.noex b o e z
  ·exact absurd (bi2 (bi0 e) (bl1 I.ok.bsz z)) (bo5 _)
 ·intro b hb z
  rcases bg8.mp (I.stkSub b z) with e | e
  ·exact (hf b hb).2.1 e
  ·exact (hf b hb).2.2.1 e
 ·intro i x v e1 e2 e3
  have e2:(fr.map fun o=>o.bind fun j=>(σ[j]?).join)[i]? = some (some v):=e2
  rw [bh5] at e2
  cases ef:fr[i]? with
  | none=>rw [ef] at e2; cases e2
  | some o=>
   rw [ef] at e2
   cases o with
   | none=>cases e2
   | some j=>
    have e2:some ((σ[j]?).join)=some (some v):=e2
    have ej:σ[j]? = some (some v):=by
     cases q:σ[j]? with
     | none=>rw [q] at e2; cases e2
     | some w=>rw [q] at e2; cases w with
      | none=>cases e2
      | some w=>cases e2; rfl
    obtain ⟨y,a1,a2,a4⟩:=S.from_ i j ef
    have e1:N[i]? = some x:=e1
    rw [e1] at a1
    cases a1
    have a3:(x,NameKind.free) ∈ scope.names:=bm9 a4
    have vis:gI X.env.scope x:=(S.free _ a3 rfl).elim (fun z=>.inr (.inl z)) fun z=>.inr (.inr z)
    obtain ⟨m0,hn0,hl0⟩:=I.loc
    obtain ⟨u,r,l⟩:=hl0 j x v a2 ej vis
    refine⟨u,r,.inr ⟨?_,?_⟩⟩
    ·have e3:(relabel scope X.env).names.lookup x=some .local ∨ (relabel scope X.env).names.lookup x=some .cell ∨ (relabel scope X.env).names.lookup x=some .free:=e3
     rcases e3 with z | z | z
     ·rcases qT z with y | y
      ·rw [a4] at y; cases y
      ·exact absurd y.2 (by decide)
     ·exact .inl z
     ·exact .inr z
    ·obtain ⟨c,hc⟩:=vA (cells:=X.env.cells) scope.names [] (x:=x) (.inl a3)
     refine⟨c,av7 (fun z=>by have:=S.own _ z rfl; rw [a4] at this; cases this) hc,?_⟩
     have hc':=cs hc
     have S1:=S.free (x,.free) a3 rfl
     rcases l with ⟨k,_⟩ | ⟨_,c2,hc2,z⟩
     ·have k:X.env.scope.names.lookup x=some .local:=k
      rcases S1 with q | q <;> (have q:X.env.scope.names.lookup x=_:=q; rw [k] at q; cases q)
     ·rw [hc'] at hc2; cases hc2
      obtain ⟨oc,ho,hd⟩:=z
      exact⟨oc,old c oc ho,hd⟩
 ·intro x c e
  rcases lM e with a | ⟨_,a⟩
  ·exact⟨_,(hco.empty x c a).1⟩
  ·obtain ⟨v,oc,ho,hd⟩:=I.cell x c (cs a)
   exact⟨v,oc,old c oc ho,hd⟩
 ·show upd H D (.lst []) C=none
  rw [aY (bp6 hDC)]; exact I.hok.fresh hC
 ·intro x c e
  show upd H D (.lst []) c=none
  rcases lM e with a | ⟨_,a⟩
  ·rw [aY (bp6 (Nat.lt_trans hDC (nge a)))]; exact I.hok.fresh (bl1 hC (bn7 (nge a)))
  ·have q:=cs a
   rw [aY (bk6 (bi2 (clt q) hD))]
   exact I.freeC x c q
 ·exact I.hok.laid old hD ⟨bl0 _,[],0,.nil,hacc⟩
 ·show (gB fr σ).length=N.length
  unfold gB; rw [bg5]; exact S.len
end
noncomputable def kN (X:Cx) (ifs:List Expr) (t:TT):Prop:=
 ∀ (pins:List (Addr × Obj)) (s:Shared) (σ:St) (H:Hp) (Q:Bool->Hp->Prop),a6 X pins σ H s->t σ H Q->
  wpAny (model X.prog X.w) X.A (forIn ifs true fun c r=>if r=true then do let ok <- isTrue c X.env (eval c X.env); pure (ForInStep.yield ok) else pure (ForInStep.yield r)) (TP X pins σ Q) X.xe s
noncomputable def vD:TT:=fun _ H Q=>Q true H
theorem oH {X:Cx}:kN X [] vD:=fun _ _ _ H _ I h=>wpAny_tests_nil ⟨H,I,h⟩
theorem av9 {X:Cx}{c:Expr}{t:TT} (h:PT X c t):kN X [c] t:=fun pins s σ H Q I hq=>wpAny_tests_one (h pins s σ H Q I hq)
section
variable {prog : Program} {w : World} {A : Around}
noncomputable def vE (prog:Program) (w:World) (A:Around) (elt tg:Expr) (ifs:List Expr) (it acc:Value) (env:Env) (lost:Value->Shared->Prop) (stop next:Shared->Prop) (s:Shared):Prop:=
 let M:=model prog w
 let tests:Sem Bool:=forIn ifs true fun c r=>if r=true then do let ok <- isTrue c env (eval c env); pure (ForInStep.yield ok) else pure (ForInStep.yield r)
 let put:Shared->Prop:=wpAny M A (eval elt env) (fun x=>wpAny M A (call (.builtin "list.append") [acc,x]) (fun _=>next) lost) lost
 let taken:Value->Shared->Prop:=fun v=>wpAny M A (letOwnedTupleGo tg it v) (fun _=>wpAny M A (assign tg env v) (fun _=>wpAny M A tests (fun ok s'=>if ok=true then put s' else next s') lost) lost) lost
 wpAny M A (pyNext it) (fun r s'=>match r with
  | none=>stop s'
  | some v=>taken v s') lost s
theorem aw0 {R:Result->Shared->Prop}{s:Shared}{elt tg iter:Expr}{ifs:List Expr}{scope:Scope}{pos:Pos}{it acc:Value}{env:Env} (I:Nat->Shared->Prop)
  (turn:∀ n s,I n s->vE prog w A elt tg ifs it acc env (notedBy (model prog w) A env fun e=>R (.error e)) (R (.ok .next)) (fun s'=>∃ m,m < n/\I m s') s) (n:Nat) (h:I n s) :
  codeAny (model prog w) A (.compLoop (.ListComp elt [⟨tg,iter,ifs,0⟩] scope pos) 0 it acc env) R s:=by
 apply codeAny_loop rfl I _ n h
 intro k s1 h1
 change wpAny _ A ((compTurn _ 0 it acc env).onRaise (fun x=>do noteFrame x env; theTreesLotGoes x)) _ _ s1
 apply wpAny_noted
 rw [compTurn_list]
 have t:=turn k s1 h1
 unfold vE at t
 apply bg0
 apply wpAny_standAt
 apply bg0
 refine bq7 t (fun r s2 h2=>?_) fun _ _ z=>z
 cases r with
 | none=>exact bh3 h2
 | some v=>
  apply bg0
  refine bq7 h2 (fun _ s3 h3=>?_) fun _ _ z=>z
  apply bg0
  refine bq7 h3 (fun _ s4 h4=>?_) fun _ _ z=>z
  apply bg0
  refine bq7 h4 (fun ok s5 h5=>?_) fun _ _ z=>z
  cases ok with
  | false=>exact bh3 ⟨rfl,h5⟩
  | true=>
   apply bg0
   apply bg0
   refine bq7 h5 (fun x s6 h6=>?_) fun _ _ z=>z
   apply bg0
   exact bq7 h6 (fun _ s7 h7=>bh3 (bh3 ⟨rfl,h7⟩)) fun _ _ z=>z
end
noncomputable def oI (g:TG) (tc:TT) (te:TE) (σ0:St) (J:It) (D:Addr) (Q:VK) (W:Nat->Nat->List V->Hp->Prop):Prop:=
 ∀ i m acc H',W i m acc H'->H' D=some (.lst acc)/\((J.stop i H'/\Q (.ref D) H') ∨ (J.go i H'/\∀ x H2,J.yld i H' x H2->g x σ0 H2 fun σ2 H3=>Wk σ0 σ2/\tc σ2 H3 fun b H4=>
  if b=true then te σ2 H4 fun v H5=>H5 D=some (.lst acc)/\acc.length < sizeLine/\∃ m',m' < m/\W (i+1) m' (acc ++ [v]) (upd H5 D (.lst (acc ++ [v]))) else ∃ m',m' < m/\W (i+1) m' acc H4))
noncomputable def K0 (wi:TI) (fr:List (Option Nat)) (g:TG) (tc:TT) (te:TE):TE:=fun σ H Q=>wi σ H fun J H1=>∀ D,H1 D=none->
 ∃ W:Nat->Nat->List V->Hp->Prop,(∃ m,W 0 m [] (upd H1 D (.lst [])))/\oI g tc te (gB fr σ) J D Q W
section
variable {M : Model} {A : Around} {E : Value → Shared → Prop} {s : Shared}
theorem aw1 {scope:Scope}{globals:Addr}{cl:List (Str × Addr)}{qual:Str}{func:Option Addr}{code:Value}{builtins:Addr}{outer:Env}{Q:Env->Shared->Prop}
  (hQ:∀ h',h'.Ns s.heap.objs.size (fun _=>none)->(∀ b o,s.heap.get? b=some o->h'.get? b=some o)->CellsOk h' (s.heap.objs.size+1) (cellsFrom (s.heap.objs.size+1) scope.names [])->
   Q (newEnv scope s.heap.objs.size globals (cellsFrom (s.heap.objs.size+1) scope.names cl) qual func code (some outer) builtins) { s with heap:=h' }) :
  wpAny M A (newFunctionEnv scope globals cl [] qual func code (some outer) builtins) Q E s:=by
 simp only [newFunctionEnv,Option.isSome_some,if_true]
 refine bg0 (wpAny_alloc ?_)
 refine bg0 (wpAny_layCells _ (fun name kind cells=>by cases hkc:kind == NameKind.cell <;> simp [hkc]) _ _ _ _ ?_)
 have ok:=cellsFrom_ok scope.names (s.heap.push { cls:=.type "dict",data:=.dict #[] }) (s.heap.objs.size+1) [] ⟨fun _ _ hm=>(nomatch hm),bp2⟩ (by rw [bs6]; exact bg9 _)
 rw [bs6] at ok
 rw [show ({ s with heap:=s.heap.push { cls:=.type "dict",data:=.dict #[] } }:Shared).heap.objs.size=s.heap.objs.size+1 from bs6 ..]
 rw [List.forIn_nil]
 refine bg0 (bh3 (bh3 (hQ _ ((Heap.Ns.new s.heap (.type "dict")).keeps (pushCells_keeps _ _)) (fun b o e=>pushCells_keeps _ _ b o (bg1 _ e)) ok)))
end
section
variable {X : Cx} {pins : List (Addr × Obj)} {σ : St} {H : Hp} {s : Shared} {scope : Scope} {N : List Str} {fr : List (Option Nat)} {tg iter elt : Expr} {ifs : List Expr} {pos : Pos} {wi : TI} {g : TG} {tc : TT} {te : TE}
structure mP (X:Cx) (scope:Scope) (N:List Str) (tg:Expr) (ifs:List Expr) (elt:Expr) (s:Shared) (H:Hp) (g:TG) (tc:TT) (te:TE):Prop where
 tg:∀ (C:Addr) (fp:List Addr),PG (bV X scope N s H C fp fun _ _=>False) tg g
 ifs:∀ (C:Addr) (fp:List Addr),kN (bV X scope N s H C fp fun _ _=>False) ifs tc
 elt:∀ (C:Addr) (fp:List Addr),PE (bV X scope N s H C fp fun _ _=>False) elt te
structure dS (X:Cx) (scope:Scope) (N:List Str) (tg:Expr) (ifs:List Expr) (elt:Expr) (g:TG) (tc:TT) (te:TE):Prop where
 tg:∀ (s:Shared) (H:Hp) (C:Addr) (fp:List Addr),PG (bV X scope N s H C fp fun _ _=>False) tg g
 ifs:∀ (s:Shared) (H:Hp) (C:Addr) (fp:List Addr),kN (bV X scope N s H C fp fun _ _=>False) ifs tc
 elt:∀ (s:Shared) (H:Hp) (C:Addr) (fp:List Addr),PE (bV X scope N s H C fp fun _ _=>False) elt te
theorem dS.at (B:dS X scope N tg ifs elt g tc te) (s:Shared) (H:Hp):mP X scope N tg ifs elt s H g tc te:=⟨B.tg s H,B.ifs s H,B.elt s H⟩
theorem aw2 {C:Addr}{fp:List Addr}{E:Value->Shared->Prop}{pins':List (Addr × Obj)}{σ':St}{H':Hp}{s':Shared} (I:a6 X pins σ H s) (hf:∀ b ∈ fp,hV X pins H b) (I':a6 (bV X scope N s H C fp E) pins' σ' H' s'):a6 X pins σ H' s':=
 I.call' (ch:=fp) I'.os I'.base I'.hok I'.bare fun b hb=>⟨(hf b hb).2.2.2.1,(hf b hb).2.1,(hf b hb).2.2.2.2.1,(hf b hb).2.2.2.2.2⟩
theorem qW {Rr:Value->Addr->Result->Shared->Prop}{J:It}{fp:List Addr}{it:Addr}{tn:Nat->Heap->Prop}{Q:VK}
  (hc:X.calm=true) (S:cQ X scope N fr) (B:mP X scope N tg ifs elt s H g tc te) (I:a6 X pins σ H s) (T:iH X.prog X.w X.K tg J fp it tn) (hst:tn 0 s.heap) (hf:∀ b ∈ fp,hV X pins H b)
  (h:∀ D,H D=none->∃ W:Nat->Nat->List V->Hp->Prop,(∃ m,W 0 m [] (upd H D (.lst [])))/\oI g tc te (gB fr σ) J D Q W)
  (hend:∀ (D C:Addr) (s':Shared) (H':Hp) (m:Str->Option Value),s.heap.objs.size<=C->s.heap.objs.size<=D->a6 X pins σ H' s'->s'.heap.Ns C m->H' C=none->Q (.ref D) H'->Rr (.ref D) C (.ok .next) s') :
  wpAny (model X.prog X.w) X.A (newList []) (fun acc s₃=>wpAny (model X.prog X.w) X.A (newFunctionEnv scope X.env.globals (eV X.env.cells scope.names []) [] X.env.qual none .none (some X.env)) (fun cenv s₄=>
   codeAny (model X.prog X.w) X.A (.compStart (.ListComp elt [⟨tg,iter,ifs,0⟩] scope pos) 0 (.ref it) acc { cenv with scope:=relabel scope X.env }) (Rr acc cenv.locals) s₄) X.xe s₃) X.xe s:=by
 refine bn5 (aw1 (fun h₁ hns₁ keep₁ hco₁=>?_))
 dsimp only at hns₁ keep₁ hco₁ ⊢
 generalize hH2:s.heap.push { cls:=.type "list",dict:=none,data:=.seq ([]:List Value).toArray }=H2 at hns₁ keep₁ hco₁ ⊢
 have hC:H2.objs.size=s.heap.objs.size+1:=by rw [<- hH2,bs6]
 have hDC:s.heap.objs.size < H2.objs.size:=by rw [hC]; exact Nat.lt_succ_self _
 have hCle:s.heap.objs.size<=H2.objs.size:=by rw [hC]; exact Nat.le_succ _
 have old:∀ b o,s.heap.get? b=some o->h₁.get? b=some o:=fun b o e=>keep₁ b o (hH2 ▸ bg1 _ e)
 have hacc:h₁.get? s.heap.objs.size=some { cls:=.type "list",data:=.seq #[] 0 }:=keep₁ _ _ (hH2 ▸ bi8 _ rfl)
 have hfl:∀ b ∈ fp,b < s.heap.objs.size:=fun b hb=>by obtain ⟨o,e,_⟩:=T.obj _ _ hst b hb; exact bi0 e
 obtain ⟨W,⟨m0,w0⟩,turn⟩:=h s.heap.objs.size (I.hok.fresh (bg9 _))
 have st1:tn 0 h₁:=T.keep _ _ _ hst fun b _ o e=>old b o e
 have fr0:∀ b ∈ fp,upd H s.heap.objs.size (.lst []) b=none:=fun b hb=>by rw [aY (bk6 (hfl b hb))]; exact (hf b hb).1
 have stat:∀ {H':Hp},(∀ b ∈ fp,H' b=none)->∀ b ∈ fp,hV (bV X scope N s H H2.objs.size fp fun _ _=>False) [] H' b:=fun {H'} hn b hb=>by
  have f:=hf b hb
  refine⟨hn b hb,bk6 (bi2 (hfl b hb) hCle),fun z=>?_,.inl hb,fun x c e=>(lM e).elim (fun z=>bp6 (Nat.lt_trans (bi2 (hfl b hb) hCle) (hco₁.empty x c z).2)) fun z=>f.2.2.2.2.1 x c (qS scope.names [] (S.cells I) (fun _ _ z=>by simp at z) z.2),fun p hp=>absurd (show p ∈ ([]:List (Addr × Obj)) from hp) (by simp)⟩
  rcases bg8.mp (I.stkSub b z) with e | e
  ·exact f.2.1 e
  ·exact f.2.2.1 e
 generalize hX:bV X scope N s H H2.objs.size fp (fun _ _=>False)=Y at stat
 have I0:a6 Y [] (gB fr σ) (upd H s.heap.objs.size (.lst [])) { s with heap:=h₁ }:=hX ▸ av8 S I hf hfl (bg9 _) hCle hDC old hns₁ hacc hco₁
 have bt:PG Y tg g:=hX ▸ B.tg H2.objs.size fp
 have bi:kN Y ifs tc:=hX ▸ B.ifs H2.objs.size fp
 have be:PE Y elt te:=hX ▸ B.elt H2.objs.size fp
 have eP:Y.prog=X.prog:=by rw [<- hX]; rfl
 have ew:Y.w=X.w:=by rw [<- hX]; rfl
 have eK:Y.K=X.K:=by rw [<- hX]; rfl
 have eA:Y.A=X.A:=by rw [<- hX]; rfl
 have eE:Y.env=compEnvC scope (i4 X scope H2.objs.size) H2.objs.size X.env:=by rw [<- hX]; rfl
 have eX:Y.xe=fun _ _=>False:=by rw [<- hX]; rfl
 have ec:Y.calm=true:=by rw [<- hX]; exact hc
 have never:∀ {E:Value->Shared->Prop} (e:Value) (s':Shared),Y.xe e s'->E e s':=fun {E} e s' z=>by rw [eX] at z; exact z.elim
 have out:∀ {pins' σ' H' s'},a6 Y pins' σ' H' s'->a6 X pins σ H' s':=fun {_ _ _ _} I'=>aw2 (C:=H2.objs.size) (E:=fun _ _=>False) (scope:=scope) (N:=N) I hf (hX ▸ I')
 have loop:codeAny (model X.prog X.w) X.A (.compLoop (.ListComp elt [⟨tg,iter,ifs,0⟩] scope pos) 0 (.ref it) (.ref s.heap.objs.size) (compEnvC scope (i4 X scope H2.objs.size) H2.objs.size X.env))
   (Rr (.ref s.heap.objs.size) H2.objs.size) { s with heap:=h₁ }:=by
  refine aw0 (fun n s'=>∃ i acc H',a6 Y [] (gB fr σ) H' s'/\tn i s'.heap/\(∀ b ∈ fp,H' b=none)/\W i n acc H') ?_ m0 ⟨0,[],_,I0,st1,fr0,w0⟩
  rintro n s3 ⟨i,acc,H3,I3,st3,fr3,w3⟩
  unfold vE
  dsimp only
  obtain ⟨hD3,step⟩:=turn i n acc H3 w3
  rcases step with ⟨stop,qn⟩ | ⟨go,step⟩
  ·have z:=T.done Y eP ew eK ec i [] s3 _ H3 (notedBy (model X.prog X.w) X.A (compEnvC scope (i4 X scope H2.objs.size) H2.objs.size X.env) fun e s'=>Rr (.ref s.heap.objs.size) H2.objs.size (.error e) s') I3 (stat fr3) st3 stop
   rw [eA] at z
   refine aN z fun r s4 ⟨hr,I4⟩=>?_
   subst hr
   obtain ⟨m4,hn4,_⟩:=I4.loc
   rw [eE] at hn4
   have f4:=I4.free
   rw [eE] at f4
   exact hend _ _ s4 H3 m4 hCle (bg9 _) (out I4) hn4 f4 qn
  ·have z:=T.item Y eP ew eK ec i [] s3 _ H3 (notedBy (model X.prog X.w) X.A (compEnvC scope (i4 X scope H2.objs.size) H2.objs.size X.env) fun e s'=>Rr (.ref s.heap.objs.size) H2.objs.size (.error e) s') I3 (stat fr3) st3 go
   rw [eA] at z
   refine aN z fun r s4 ⟨u,hr,h4⟩=>?_
   subst hr
   refine aN h4 fun _ s5 ⟨x,H5,I5,r5,y5,st5,fr5⟩=>?_
   have I5':=I5.pinned (stat fr5) (T.obj _ _ st5)
   have q1:=bt _ s5 _ H5 x u _ I5' r5 (step x H5 y5)
   rw [eP,ew,eA,eE] at q1
   refine bq7 q1 (fun _ s6 ⟨σ6,H6,I6,wk,q6⟩=>?_) never
   have q2:=bi _ s6 σ6 H6 _ I6 q6
   rw [eP,ew,eA,eE] at q2
   refine bq7 q2 (fun b s7 ⟨H7,I7,q7⟩=>?_) never
   have again:∀ {H8:Hp}{s8:Shared}{acc':List V},a6 Y ([] ++ o3 fp s5.heap) σ6 H8 s8->(∃ m',m' < n/\W (i+1) m' acc' H8)->∃ m,m < n/\∃ i acc H',a6 Y [] (gB fr σ) H' s8/\tn i s8.heap/\(∀ b ∈ fp,H' b=none)/\W i m acc H':=fun {H8 s8 acc'} I8 n8=>by
    obtain ⟨m',hm,w8⟩:=n8
    refine⟨m',hm,i+1,acc',H8,(I8.unpinned).weak wk.1 wk.2,T.keep _ _ _ st5 fun b hb o e=>(I8.pin (b,o) (bj6 _ (bj6 _ (qH hb e)))).1,fun b hb=>?_,w8⟩
    obtain ⟨o,e,d⟩:=T.obj _ _ st5 b hb
    exact (I8.pin (b,o) (bj6 _ (bj6 _ (qH hb e)))).2.1
   cases b with
   | false=>
    rw [if_neg bi5] at q7 ⊢
    exact again I7 q7
   | true=>
    rw [if_pos rfl] at q7 ⊢
    have q3:=be _ s7 σ6 H7 _ I7 q7
    rw [eP,ew,eA,eE] at q3
    refine bq7 q3 (fun v s8 ⟨y,H8,I8,r8,hD8,hz8,q8⟩=>?_) never
    have q4:=mL _ s8 σ6 H8 (.ref s.heap.objs.size) [y] (.ref s.heap.objs.size) [v] (fun _ H9=>∃ m',m' < n/\W (i+1) m' (acc ++ [y]) H9) I8 rfl (.cons r8 .nil) ⟨_,_,_,rfl,rfl,hD8,hz8,q8⟩
    rw [eP,ew,eA] at q4
    exact bq7 q4 (fun _ s9 ⟨_,H9,I9,_,q9⟩=>again I9 q9) never
 exact codeAny_compStart_list loop (T.self _ 0 _ _ _ st1 loop)
end
section
variable {X : Cx} {scope : Scope} {N : List Str} {fr : List (Option Nat)} {tg iter elt : Expr} {ifs : List Expr} {pos : Pos} {wi : TI} {g : TG} {tc : TT} {te : TE}
theorem a6.drop {pins:List (Addr × Obj)}{σ:St}{H H':Hp}{s s':Shared}{C:Addr}{h':Heap} (I0:a6 X pins σ H s) (hC:s.heap.objs.size<=C) {σ':St} (I:a6 X pins σ' H' s') (hn:H' C=none) (sb:Heap.SameBut C s'.heap h'):a6 X pins σ' H' { s' with heap:=h' }:=by
 refine I.turned (t':=s'.toks) (it:=C) (fun b o hb e=>(sb.2 b hb).trans e) hn (bp6 (bi2 I0.lt hC)) (.inr (bl1 I0.sz hC)) (fun x c e z=>?_) fun p hp z=>?_
 ·obtain ⟨v,q⟩:=I0.cell x c e
  exact absurd (bi2 q.lt (by rw [z]; exact hC)) (bo5 _)
 ·exact absurd (bi2 (bi0 (I0.pin p hp).1) (by rw [z]; exact hC)) (bo5 _)
theorem K1 (hc:X.calm=true) (S:cQ X scope N fr) (hi:PI X tg iter wi) (B:dS X scope N tg ifs elt g tc te)
  (hs:∀ x,foldedSetIterable iter X.env x=pure x:=by intro _; rfl):PE X (.ListComp elt [⟨tg,iter,ifs,0⟩] scope pos) (K0 wi fr g tc te):=by
 intro pins s σ H Q I h
 rw [eval_ListComp]
 refine wpAny_comprehension_free (use:=none) rfl hs (qR (S.cells I)) S.kind S.names (aN (hi pins s σ H _ I h) fun v s1 h1=>aN h1 fun itv s2 h2=>?_)
 obtain ⟨it,fp,tn,J,H2,e,I2,T,st2,f2,hW⟩:=h2
 subst e
 refine qW (Rr:=fun acc C=>compPost (model X.prog X.w) X.A X.xe none (EP X pins σ Q) acc C) hc S (B.at _ _) I2 T st2 f2 hW ?_
 intro D C s' H' m hC hD I' hns hHC q
 exact⟨m,hns,fun h' sb=>⟨.ref D,H',I2.drop hC I' hHC sb,rfl,q⟩⟩
theorem K2 {i:Nat}{x:Str}{px spos:Pos} (hc:X.calm=true) (S:cQ X scope N fr) (hi:PI X tg iter wi) (B:dS X scope N tg ifs elt g tc te) (hN:X.N.Nodup) (hix:X.N[i]? = some x) (hx:X.env.scope.names.lookup x=some .local)
  (hsw:swapsWith (.ListComp elt [⟨tg,iter,ifs,0⟩] scope pos) (some (.Name x px)) spos.line X.env=pure true) (hs:∀ x,foldedSetIterable iter X.env x=pure x:=by intro _; rfl) :
  PS X (.Assign [.Name x px] (.ListComp elt [⟨tg,iter,ifs,0⟩] scope pos) spos) (kK (K0 wi fr g tc te) (cN i)):=by
 intro pins s σ H D I h
 rw [exec_Assign_Name_used _ _ _ _ hsw]
 refine bg0 (wpAny_standAt (bg0 ?_))
 show wpAny _ _ (do let _ <- comprehension (.ListComp elt [⟨tg,iter,ifs,0⟩] scope pos) scope X.env _ (newList []) false (eval iter X.env) (some (assign (.Name x px) X.env))) _ _ s
 refine bg0 (bq7 (wpAny_comprehension_free (Q:=fun _ s'=>SP X pins D .next s') (use:=some (assign (.Name x px) X.env)) rfl hs (qR (S.cells I)) S.kind S.names (aN (hi pins s σ H _ I h) fun v s1 h1=>aN h1 fun itv s2 h2=>?_))
  (fun _ s' hq=>bh3 (bh3 hq)) fun _ _ e=>e)
 obtain ⟨it,fp,tn,J,H2,e,I2,T,st2,f2,hW⟩:=h2
 subst e
 refine qW (Rr:=fun acc C=>compPost (model X.prog X.w) X.A X.xe (some (assign (.Name x px) X.env)) (fun _ s'=>SP X pins D .next s') acc C) hc S (B.at _ _) I2 T st2 f2 hW ?_
 intro D' C s' H' m hC hD I' hns hHC q
 refine wpAny_assign_Name (u9 I' hN hix (.inl hx) (v:=.ref D') rfl (fun s'' I'' sb=>?_) (.inr hx))
 obtain ⟨a,sb,ha⟩:=sb
 have hCa:C ≠ a:=by
  rcases ha with z | z
  ·rw [z]; exact bp6 (bi2 I2.lt hC)
  ·intro e; subst e
   obtain ⟨v,q⟩:=I2.cell x _ z
   exact absurd (bi2 q.lt hC) (bo5 _)
 exact⟨m,hns.sameBut sb hCa,fun h' sb'=>⟨_,H',I2.drop hC I'' hHC sb',q⟩⟩
variable {gh : Hp → TG} {tch : Hp → TT} {teh : Hp → TE}
noncomputable def vF (wi:TI) (fr:List (Option Nat)) (gh:Hp->TG) (tch:Hp->TT) (teh:Hp->TE):TE:=fun σ H Q=>wi σ H fun J H1=>∀ D,H1 D=none->
 ∃ W:Nat->Nat->List V->Hp->Prop,(∃ m,W 0 m [] (upd H1 D (.lst [])))/\oI (gh H1) (tch H1) (teh H1) (gB fr σ) J D Q W
theorem vG (hc:X.calm=true) (S:cQ X scope N fr) (hi:PI X tg iter wi) (B:∀ (s:Shared) (H:Hp),mP X scope N tg ifs elt s H (gh H) (tch H) (teh H))
  (hs:∀ x,foldedSetIterable iter X.env x=pure x:=by intro _; rfl):PE X (.ListComp elt [⟨tg,iter,ifs,0⟩] scope pos) (vF wi fr gh tch teh):=by
 intro pins s σ H Q I h
 rw [eval_ListComp]
 refine wpAny_comprehension_free (use:=none) rfl hs (qR (S.cells I)) S.kind S.names (aN (hi pins s σ H _ I h) fun v s1 h1=>aN h1 fun itv s2 h2=>?_)
 obtain ⟨it,fp,tn,J,H2,e,I2,T,st2,f2,hW⟩:=h2
 subst e
 refine qW (Rr:=fun acc C=>compPost (model X.prog X.w) X.A X.xe none (EP X pins σ Q) acc C) hc S (B _ _) I2 T st2 f2 hW ?_
 intro D C s' H' m hC hD I' hns hHC q
 exact⟨m,hns,fun h' sb=>⟨.ref D,H',I2.drop hC I' hHC sb,rfl,q⟩⟩
theorem K3 {i:Nat}{x:Str}{px spos:Pos} (hc:X.calm=true) (S:cQ X scope N fr) (hi:PI X tg iter wi) (B:∀ (s:Shared) (H:Hp),mP X scope N tg ifs elt s H (gh H) (tch H) (teh H)) (hN:X.N.Nodup) (hix:X.N[i]? = some x) (hx:X.env.scope.names.lookup x=some .local)
  (hsw:swapsWith (.ListComp elt [⟨tg,iter,ifs,0⟩] scope pos) (some (.Name x px)) spos.line X.env=pure true) (hs:∀ x,foldedSetIterable iter X.env x=pure x:=by intro _; rfl) :
  PS X (.Assign [.Name x px] (.ListComp elt [⟨tg,iter,ifs,0⟩] scope pos) spos) (kK (vF wi fr gh tch teh) (cN i)):=by
 intro pins s σ H D I h
 rw [exec_Assign_Name_used _ _ _ _ hsw]
 refine bg0 (wpAny_standAt (bg0 ?_))
 show wpAny _ _ (do let _ <- comprehension (.ListComp elt [⟨tg,iter,ifs,0⟩] scope pos) scope X.env _ (newList []) false (eval iter X.env) (some (assign (.Name x px) X.env))) _ _ s
 refine bg0 (bq7 (wpAny_comprehension_free (Q:=fun _ s'=>SP X pins D .next s') (use:=some (assign (.Name x px) X.env)) rfl hs (qR (S.cells I)) S.kind S.names (aN (hi pins s σ H _ I h) fun v s1 h1=>aN h1 fun itv s2 h2=>?_))
  (fun _ s' hq=>bh3 (bh3 hq)) fun _ _ e=>e)
 obtain ⟨it,fp,tn,J,H2,e,I2,T,st2,f2,hW⟩:=h2
 subst e
 refine qW (Rr:=fun acc C=>compPost (model X.prog X.w) X.A X.xe (some (assign (.Name x px) X.env)) (fun _ s'=>SP X pins D .next s') acc C) hc S (B _ _) I2 T st2 f2 hW ?_
 intro D' C s' H' m hC hD I' hns hHC q
 refine wpAny_assign_Name (u9 I' hN hix (.inl hx) (v:=.ref D') rfl (fun s'' I'' sb=>?_) (.inr hx))
 obtain ⟨a,sb,ha⟩:=sb
 have hCa:C ≠ a:=by
  rcases ha with z | z
  ·rw [z]; exact bp6 (bi2 I2.lt hC)
  ·intro e; subst e
   obtain ⟨v,q⟩:=I2.cell x _ z
   exact absurd (bi2 q.lt hC) (bo5 _)
 exact⟨m,hns.sameBut sb hCa,fun h' sb'=>⟨_,H',I2.drop hC I'' hHC sb',q⟩⟩
end
theorem bN {H:Hp}{p:Addr} (h:H p=none) (o:HO):aD H (upd H p o):=fun b u q=>by rw [aY (cI q h)]; exact q
theorem aD.tup {K:PySem.W.Frag}{H H':Hp}{a:Addr}{xs:List V} (e:aD H H') (h:aQ K H a xs):aQ K H' a xs:=by
 rcases h with (h | ⟨o,h⟩) | h
 ·exact .inl (.inl (e _ _ h))
 ·exact .inl (.inr ⟨o,e _ _ h⟩)
 ·exact .inr h
structure K4 (H:Hp) (J:It) (xs:List V):Prop where
 go:∀ i H',aD H H'->i < xs.length->J.go i H'
 yld:∀ i H' x H2,aD H H'->J.yld i H' x H2->i < xs.length->xs[i]? = some x/\H2=H'
 stop:∀ H',aD H H'->J.stop xs.length H'
theorem K5 {K:PySem.W.Frag}{H:Hp}{a:Addr}{xs:List V} (h:aQ K H a xs):K4 H (kL K a) xs:=
 ⟨fun i H' e hi=>⟨xs,xs[i],e.tup h,by simp [hi]⟩,fun i H' x H2 e y hi=>⟨y.2 xs (e.tup h),y.1⟩,fun H' e=>⟨xs,e.tup h,bg9 _⟩⟩
noncomputable def i5 (lo:Int) (n:Nat):List V:=(List.range n).map fun (i:Nat)=>V.int (lo+(i:Int))
theorem qX (lo:Int) (n:Nat):(i5 lo n).length=n:=by unfold i5; rw [bg5,bt8]
noncomputable def CW (H1:Hp) (D:Addr) (n:Nat) (Pv:Nat->List V->Hp->Prop):Nat->Nat->List V->Hp->Prop:=fun i m acc H'=>m=n - i/\i<=n/\acc.length<=i/\aD H1 H'/\H' D=some (.lst acc)/\Pv i acc H'
noncomputable def vH (H1:Hp) (D:Addr) (n:Nat) (Pv:Nat->List V->Hp->Prop) (i:Nat) (acc:List V) (v:V) (H5:Hp):Prop:=H5 D=some (.lst acc)/\acc.length < sizeLine/\∃ m',m' < n - i/\CW H1 D n Pv (i+1) m' (acc ++ [v]) (upd H5 D (.lst (acc ++ [v])))
noncomputable def K6 (H1:Hp) (D:Addr) (n:Nat) (Pv:Nat->List V->Hp->Prop) (i:Nat) (acc:List V) (H4:Hp):Prop:=∃ m',m' < n - i/\CW H1 D n Pv (i+1) m' acc H4
structure qY (H1:Hp) (D:Addr) (n i:Nat) (acc:List V) (H':Hp):Prop where
 lt:i < n
 few:acc.length<=i
 sz:n<=sizeLine
 same:aD H1 H'
 new:H1 D=none
 acc:H' D=some (.lst acc)
theorem qY.yes {H1:Hp}{D:Addr}{n i:Nat}{acc:List V}{H' H5:Hp}{Pv:Nat->List V->Hp->Prop}{v:V} (c:qY H1 D n i acc H') (s:aD H' H5) (p:Pv (i+1) (acc ++ [v]) (upd H5 D (.lst (acc ++ [v])))):vH H1 D n Pv i acc v H5:=by
 refine⟨s _ _ c.acc,Nat.lt_of_le_of_lt c.few (bi2 c.lt c.sz),_,?_,rfl,c.lt,?_,fun b o e=>?_,bL,p⟩
 ·have:=c.lt; omega
 ·rw [bh6,bk5]; exact Nat.succ_le_succ c.few
 ·rw [aY (cI e c.new)]; exact s _ _ (c.same _ _ e)
theorem K7 {H1:Hp}{J:It}{xs:List V}{g:TG}{tc:TT}{te:TE}{σ0:St}{Q:VK} (O:K4 H1 J xs) (Pv:Nat->List V->Hp->Prop) (hn:xs.length<=sizeLine)
  (h0:∀ D,H1 D=none->Pv 0 [] (upd H1 D (.lst [])))
  (hs:∀ i x acc D H',xs[i]? = some x->qY H1 D xs.length i acc H'->Pv i acc H'->g x σ0 H' fun σ2 H3=>Wk σ0 σ2/\tc σ2 H3 fun b H4=>
   if b=true then te σ2 H4 fun v H5=>vH H1 D xs.length Pv i acc v H5 else K6 H1 D xs.length Pv i acc H4)
  (hd:∀ D acc H',H1 D=none->aD H1 H'->H' D=some (.lst acc)->acc.length<=xs.length->Pv xs.length acc H'->Q (.ref D) H') :
  ∀ D,H1 D=none->∃ W:Nat->Nat->List V->Hp->Prop,(∃ m,W 0 m [] (upd H1 D (.lst [])))/\oI g tc te σ0 J D Q W:=by
 intro D hD
 refine⟨CW H1 D xs.length Pv,⟨xs.length,rfl,bl0 _,bg9 _,bN hD _,bL,h0 D hD⟩,?_⟩
 rintro i m acc H' ⟨rfl,hi,ha,sm,hDa,p⟩
 refine⟨hDa,?_⟩
 by_cases hlt:i < xs.length
 ·refine .inr ⟨O.go i H' sm hlt,fun x H2 y=>?_⟩
  obtain ⟨hx,e⟩:=O.yld i H' x H2 sm y hlt
  subst e
  exact hs i x acc D H2 hx ⟨hlt,ha,hn,sm,hD,hDa⟩ p
 ·have e:i=xs.length:=by omega
  subst e
  exact .inl ⟨O.stop H' sm,hd D acc H' hD sm hDa ha p⟩
end L2
namespace Srt
open PySem PySem.W PyProof.Rows
noncomputable abbrev G (p:Array Nat) (i:Nat):Nat:=p.getD i 0
noncomputable def PP (n:Nat) (p:Array Nat):Prop:=p.toList.Perm (List.range n)
structure K8 (c:Nat->Nat->Bool):Prop where
 asym:∀ {i j},c i j=true->c j i=false
 ntr:∀ {i j k},c i j=false->c j k=false->c i k=false
section
variable {c : Nat → Nat → Bool} (O : K8 c)
noncomputable def Le (c:Nat->Nat->Bool) (i j:Nat):Prop:=c j i=false
include O
theorem le_refl (i:Nat):Le c i i:=by
 unfold Le
 cases h:c i i with
 | false=>rfl
 | true=>have:=O.asym h; rw [h] at this; exact this
theorem le_trans {i j k:Nat} (h1:Le c i j) (h2:Le c j k):Le c i k:=O.ntr h2 h1
end
end Srt
namespace L2
open PySem PySem.Spec PyProof.Rows
theorem oJ:∀ {xs:List V}{us:List Value} (i:Nat),i < xs.length->aM xs us->aV (xs.getD i .non) (us.getD i Value.none)
 | _,_,_,h,.nil=>by simp at h
 | _,_,0,_,.cons r _=>by simpa using r
 | _,_,i+1,h,.cons _ t=>by
  have:=oJ i (by simpa using h) t
  simpa using this
theorem qZ {α:Type}:∀ l:List α,(l.zip l).map (·.2)=l
 | []=>rfl
 | a :: l=>by
  show a :: ((l.zip l).map (·.2))=a :: l
  rw [qZ l]
theorem aw3 {prog:Program}{w:World}{A:Around}{E:Value->Shared->Prop}{s:Shared}{a:Addr}{vs:List Value}{n:Nat}{P:PySem.Fin->Shared->Prop} (e:s.heap.get? a=some (seqObj "list" vs.toArray n)) (few:vs.length < 2)
  (q:P (.done (.ret .none)) { s with heap:=sortedHeap s.heap a vs vs.toArray }):wpAny (model prog w) A (Builtin.«list.sort» ⟨[.ref a],[]⟩) P E s:=by
 have big:vs.length<=sizeLine:=bl1 (bn7 few) (by decide)
 have la:=bi0 e
 have c:vs.toArray.size < 2:=by simpa using few
 have same:(arrOf (SortSt.mk' general' (vs.toArray.zip vs.toArray) #[] 7 none)).map (·.2)=vs.toArray:=by
  change (vs.toArray.zip vs.toArray).map (·.2)=vs.toArray
  apply Array.ext'
  simpa using qZ vs
 obtain ⟨k,ek⟩:∃ k,(s.heap.update a (Obj.mapSeq fun _=>#[])).get? a=some (seqObj "list" #[] k):=⟨_,get?_update_seq e fun _=>#[]⟩
 have there:(((s.heap.update a (Obj.mapSeq fun _=>#[])).push (seqObj "tuple" vs.toArray 0)).push (seqObj "list" #[] 0)).get? a=some (seqObj "list" #[] k):=
  bg1 _ (bg1 _ ek)
 rw [list_sort_plain]
 apply bg0
 apply listItems_at e rfl
 apply bg0
 refine listUpdate_at e rfl ?_ (by simpa using big) (bl0 _)
 apply bg0
 apply seqEpoch_at ek rfl
 apply bg0
 refine wpAny_newTuple ?_ big
 apply bg0
 refine wpAny_newList ?_ (bl0 _)
 apply br0
 simp only [c,if_true,StateT.run_pure]
 apply bg0
 apply bh3
 apply bg0
 apply bh3
 apply bg0
 apply seqEpoch_at there rfl
 apply bg0
 refine listUpdate_at there rfl ?_ (bl0 _) (by rw [same,bh0]; exact Nat.le_succ_of_le big)
 rw [same]
 simp only [bne_self_eq_false,bj7,bp8]
 exact bh3 q
theorem K9 {prog:Program}{w:World}{A:Around}{E:Value->Shared->Prop}{s:Shared}{l:Addr}{vs:List Value}{Q:Value->Shared->Prop} (hl:s.heap.IsList l vs.toArray) (few:vs.length < 2)
  (q:Q (.ref (s.heap.objs.size+1)) { s with heap:=sortedAll s.heap vs vs.toArray }):wpAny (model prog w) A (call (.builtin "sorted") [.ref l]) Q E s:=by
 have big:vs.length<=sizeLine:=bl1 (bn7 few) (by decide)
 apply Calls.call_function_entry kind_sorted plain_sorted entry_sorted (args_sorted1 _)
 simp only [Builtin.«sorted»]
 apply bg0 (m:=checkCount "sorted" 1 1 _)
 apply bh3
 apply bg0
 refine collect_list hl ?_ big
 apply bg0
 refine wpAny_newList ?_ big
 have one:((s.heap.push (seqObj "list" #[] 0)).update s.heap.objs.size (Obj.mapSeq (· ++ vs.toArray))).objs.size=s.heap.objs.size+1:=(Heap.size_update _ _ _).trans (size_push' _ _)
 have at1:(((s.heap.push (seqObj "list" #[] 0)).update s.heap.objs.size (Obj.mapSeq (· ++ vs.toArray))).push (seqObj "list" vs.toArray 0)).get? (s.heap.objs.size+1)=some (seqObj "list" vs.toArray 0):=one ▸ bi8 _ rfl
 change wpAny _ _ _ _ _ { s with heap:=((s.heap.push (seqObj "list" #[] 0)).update s.heap.objs.size (Obj.mapSeq (· ++ vs.toArray))).push (seqObj "list" vs.toArray 0) }
 rw [one]
 apply bg0
 apply br0
 refine bo2 slot_list_sort ⟨_,at1,rfl⟩ entry_list_sort ?_ (args_list_sort _)
 refine aw3 at1 few ⟨_,rfl,?_⟩
 exact bh3 ⟨_,rfl,q⟩
noncomputable def L0 (K:PySem.W.Frag):List V->Hp->VK->Prop:=fun xs H Q=>∃ a ns,xs = [.ref a]/\aK K H a (ns.map V.int)/\ns.length < 64/\∀ l (ms:List Int),H l=none->ms.Perm ns->ms.Pairwise (· <= ·)->Q (.ref l) (upd H l (.lst (ms.map V.int)))
theorem aw4 {X:Cx}:dQ X (.builtin "sorted") (L0 X.K):=by
 intro pins s σ H xs us Q I r h
 obtain ⟨a,ns,rfl,hs,h64,q⟩:=h
 obtain ⟨u,rfl,ru⟩:=jA r
 cases ru
 obtain ⟨its,rv,p,hz⟩:=I.list hs
 have hl:=rv.length
 rw [bg5] at hl
 refine sorted_ints p.isList (uS rv) (by omega) fun out ns' a1 a2 a3=>?_
 obtain ⟨e,he⟩:=sortedAll_at s.heap its out
 have hn:s.heap.objs.size<=s.heap.objs.size+1:=Nat.le_succ _
 have hlen:ns'.length=ns.length:=a2.length_eq
 refine⟨.ref (s.heap.objs.size+1),upd H (s.heap.objs.size+1) (.lst (ns'.map V.int)),I.laid (t':=s.toks) (fun _ _=>sortedAll_old) hn ⟨?_,out.toList,e,qP a1,by simpa using he⟩,rfl,q _ ns' (I.hok.fresh hn) a2 a3⟩
 rw [bg5,hlen]
 exact bn7 (oG (by omega))
noncomputable def L1 (H:Hp):V->List Int
 | .ref b=>match H b with
  | some (.tup xs)=>xs.map fun x=>match x with
   | .int i=>i
   | _=>0
  | _=>[]
 | _=>[]
section
variable {prog : Program} {w : World} {A : Around} {s : Shared} {Q : Bool → Shared → Prop}
theorem L3:∀ {us ws:List Value}{xs ys:List Int} (i:Nat),IntsAre us xs->IntsAre ws ys->Q (HT.iJ xs ys) s->PySem.W.KatLex prog w A true (decide (us.length < ws.length)) Q (us.zip ws) i s
 | _,_,_,_,_,.nil,.nil,h=>h
 | _,_,_,_,_,.nil,.cons _ _ _,h=>h
 | _,_,_,_,_,.cons _ _ _,.nil,h=>h
 | _,_,_,_,i,.cons (vs:=us) x t hx,.cons (vs:=ws) y u hy,h=>by
  refine PySem.W.kat_cons (wpAny_eqBool_int ?_)
  rw [HT.o7] at h
  by_cases e:x=y
  ·rw [if_pos e] at h
   have eb:(x == y)=true:=by simpa using e
   rw [eb]
   refine PySem.W.kat_yes ?_
   have e2:decide ((Value.int x t :: us).length < (Value.int y u :: ws).length)=decide (us.length < ws.length):=by simp
   rw [e2]
   exact L3 (i+1) hx hy h
  ·rw [if_neg e] at h
   have eb:(x == y)=false:=by simpa using e
   rw [eb]
   refine PySem.W.kat_no ?_
   cases hi:(true && i == 0) with
   | true=>exact PySem.W.kat_lt_int h
   | false=>exact PySem.W.kat_one _ _ (lt_int h)
end
end L2
namespace Raw
open PySem PySem.W PySem.Calls PyProof.Rows
noncomputable def i6 (h:Heap) (d:Addr) (es:Array DictEntry) (ep:Nat):Prop:=∃ o,h.get? d=some o/\o.ExactDict/\o.data = .dict es ep
theorem i6.ty {s:Shared}{d:Addr}{es:Array DictEntry}{ep:Nat} (x:i6 s.heap d es ep):s.TypeIs (.ref d) "dict":=x.elim fun o y=>⟨o,y.1,y.2.1.1⟩
theorem i6.lt {h:Heap}{d:Addr}{es:Array DictEntry}{ep:Nat} (x:i6 h d es ep):d < h.objs.size:=x.elim fun _ y=>bi0 y.1
theorem i6.keep {h h':Heap}{d:Addr}{es:Array DictEntry}{ep:Nat} (x:i6 h d es ep) (k:∀ o,h.get? d=some o->h'.get? d=some o):i6 h' d es ep:=x.elim fun o y=>⟨o,k o y.1,y.2⟩
section
variable {prog : Program} {w : World} {A : Around} {E : Value → Shared → Prop} {s : Shared} {d it : Addr} {es : Array DictEntry} {ep i : Nat}
theorem made (far:(d == sysModules)=false) (x:i6 s.heap d es ep) {Q:Value->Shared->Prop}
  (q:Q (.ref s.heap.objs.size) { s with heap:=s.heap.push { cls:=.type "dict_keyiterator",data:=.fields #[.ref d,.int 0 0,.int es.size 0,.int ep 0] } }):wpAny (model prog w) A (pyIter (.ref d)) Q E s:=by
 have T:=x.ty
 obtain ⟨o,e1,e2,e3⟩:=x
 apply wpAny_pyIter_slot T PySem.F.slot_dict_iter
 apply bo2 PySem.F.slot_dict_iter T PySem.F.entry_dict_iter _ (PySem.F.args_dict_iter_1 _)
 simp only [Builtin.«dict.__iter__»,Builtin.Dict.dictSlotNone]
 apply bg0
 apply bg0
 apply wpAny_notOrdered_dict T
 apply bh3
 change wpAny _ _ (Builtin.Dict.showsAll d >>= _) _ _ s
 have far':Builtin.Dict.showsAll d=pure ():=by
  unfold Builtin.Dict.showsAll
  simp only [far,bj7,bp8]
 rw [far',pure_bind]
 apply bg0
 apply wpAny_dictEntries e1 e3
 apply bg0
 apply wpAny_dictEpoch e1 e3
 apply bg0
 refine bn5 (bh3 ?_)
 refine⟨.ref s.heap.objs.size,rfl,"dict_keyiterator",_,⟨_,bi8 _ rfl,rfl⟩,PySem.F.slot_dict_keyiterator_next.lookup,?_⟩
 simpa only [rawInt] using q
theorem turn (hh:A.handled=none) (hi:s.heap.IsKeyIter it d i es.size ep) (x:i6 s.heap d es ep) {Q:Option Value->Shared->Prop}
  (yes:∀ (lt:i < es.size) h',h'.IsKeyIter it d (i+1) es.size ep->Heap.SameBut it s.heap h'->Q (some es[i].key) { s with heap:=h' })
  (no:es.size<=i->∀ h',Heap.ExtBut it s.heap h'->Q none { s with heap:=h' }):wpAny (model prog w) A (pyNext (.ref it)) Q E s:=by
 have T:=hi.typeIs
 obtain ⟨oi,f1,f2,f3⟩:=hi
 obtain ⟨o,e1,e2,e3⟩:=x
 have slot:=PySem.F.slot_dict_keyiterator_next
 have plain:Builtin.Dict_items.ownsTuple "dict_keyiterator" = false:=by decide
 have isref:(Value.ref d == Value.none)=false:=rfl
 have nn : ¬ (i:Int) < 0:=by omega
 unfold pyNext
 apply bg0
 apply wpAny_attempt
 apply bn9 (name:=Str.ofString "__next__") T slot
 apply bo2 slot T PySem.F.entry_dict_keyiterator_next _ (PySem.F.args_dict_keyiterator_next_1 _)
 apply bg0
 apply bh3
 apply bg0
 apply bg0
 apply bg0
 first
  | apply wpAny_typeNameOfWhole_keyiter T
  | apply wpAny_typeNameOf_keyiter T
 apply bh3
 apply bg0
 apply wpAny_fieldsOf f1 f3
 simp only [plain,bj7,bp8]
 change wpAny _ _ (if (Value.ref d == Value.none)=true then _ else _) _ _ s
 have adr:Builtin.Dict_items.addrOf (Value.ref d)=pure d:=rfl
 simp only [isref,bj7,bp8,adr,pure_bind]
 apply bg0
 apply wpAny_dictEntries e1 e3
 simp only [bne_self_eq_false,bj7,bp8]
 apply bg0
 apply wpAny_dictEpoch e1 e3
 simp only [bne_self_eq_false,bj7,bp8]
 apply bh3
 simp only [nn,bp8,bj8]
 by_cases lt:i < es.size
 ·simp only [Array.getElem?_eq_getElem lt]
  apply bg0
  apply bg0
  first
   | apply wpAny_typeNameOfWhole_keyiter T
   | apply wpAny_typeNameOf_keyiter T
  apply bh3
  apply bg0
  apply wpAny_isOneOf_keyiter T
  change wpAny _ _ (setField (.ref it) 1 (rawInt ((i:Int)+1)) >>= _) _ _ s
  apply bg0
  refine wpAny_setField f1 f3 (by simp) ?_
  have again:(s.heap.update it (Obj.mapFields (·.setIfInBounds 1 (rawInt ((i:Int)+1))))).IsKeyIter it d (i+1) es.size ep:=by
   refine⟨_,Heap.get?_update_self _ f1 (Obj.isFreed_of_fields (Obj.data_mapFields f3 _)),?_,?_⟩
   ·rw [Obj.cls_mapFields]; exact f2
   ·rw [Obj.data_mapFields f3]; simp [rawInt]
  apply bg0
  apply br0
  apply bg0
  refine wpAny_isOneOf_keyiter (s:={ s with heap:=s.heap.update it (Obj.mapFields (·.setIfInBounds 1 (rawInt ((i:Int)+1)))) }) again.typeIs ?_
  change wpAny _ _ (pure es[i].key) _ _ _
  apply bh3
  apply bh3
  exact⟨es[i].key,rfl,bh3 (yes lt _ again (bu1 ..))⟩
 ·have ge:es.size<=i:=bs9 lt
  simp only [Array.getElem?_eq_none ge]
  apply bg0
  apply bg0
  first
   | apply wpAny_typeNameOfWhole_keyiter T
   | apply wpAny_typeNameOf_keyiter T
  apply bh3
  change wpAny _ _ (setField (.ref it) 0 .none >>= _) _ _ s
  apply bg0
  refine wpAny_setField f1 f3 (by simp) ?_
  apply bg0
  simp only [newExc,newTuple]
  apply bg0
  refine bn5 ?_ (by size_fits)
  apply bg0
  refine wpAny_of_eq (a:=Value.none) (by first | rfl | (simp only [firstArgMember]; rfl)) ?_
  refine bn5 ?_ (by size_fits)
  unfold raiseNew
  apply bg0
  apply wpAny_handled
  have quiet:A.in1.handled=none:=hh
  rw [quiet]
  refine wpAny_throw ?_
  apply bg0
  refine wpAny_isInstance (T:="StopIteration") (b:=true) ⟨_,bi8 _ rfl,rfl⟩ isSubtype_stop ?_
  exact bh3 (no ge _ (((bu1 ..).extBut.push _).push _))
theorem aw5 (hh:A.handled=none) (ne:d ≠ it):Walks prog w A it [it,d] [it] es.size (fun i v=>∃ lt:i < es.size,es[i].key=v) (fun i h=>h.IsKeyIter it d i es.size ep/\i6 h d es ep) where
 sub:=by intro b hb; rw [bh1.mp hb]; exact bg7
 frame:=by
  intro i h h' st hk
  exact⟨st.1.at (hk it bg7),st.2.keep (hk d (bg6 _ bg7))⟩
 item:=by
  intro i s Q E lt st hQ
  refine turn hh st.1 st.2 (fun lt' h' again sb=>?_) fun ge=>absurd lt (Nat.not_lt.mpr ge)
  exact hQ _ h' s.toks ⟨lt',rfl⟩ ⟨again,st.2.keep fun o e=>sb.extBut d o ne e⟩ fun b o hb e=>sb.extBut b o (fun z=>hb (bh1.mpr z)) e
 done:=by
  intro s Q E st hQ
  refine turn hh st.1 st.2 (fun lt=>absurd lt (bo5 _)) fun _ h' eb=>?_
  exact hQ h' s.toks fun b o hb e=>eb b o (fun z=>hb (bh1.mpr z)) e
 self:=by intro i s Q E st hQ; exact wpAny_pyIter_keyiter st.1 hQ
theorem aw6 (far:(d == sysModules)=false):KdlSrc prog w "dict" d d es.size (fun i v=>∃ lt:i < es.size,es[i].key=v) (fun h=>i6 h d es ep) where
 type:=fun _ x=>x.ty
 there:=fun _ x=>⟨x.lt,x.lt⟩
 keep:=fun _ _ x k=>x.keep (k d (.inl rfl))
 notList:=by decide
 notTuple:=by decide
 hint:=fun _ _ _ _ x q=>kdl_hint_dict x.ty q
 iter:=fun _ _ hh x=>⟨_,_,fun _ _ q=>made far x q,aw5 hh (bk6 x.lt),⟨_,bi8 _ rfl,rfl,rfl⟩,x.keep fun o e=>bg1 _ e⟩
end
end Raw
namespace L2
open PySem PySem.Spec PyProof.Rows
section
variable {X : Cx} {pins : List (Addr × Obj)} {σ : St} {H : Hp} {s : Shared} {a : Addr}
theorem aw7 {kvs:List (aB × V)} (I:a6 X pins σ H s) (h:H a=some (.dK kvs)):∃ es ep,Raw.i6 s.heap a es ep/\(a == sysModules)=false/\aM (kvs.map fun p=>kV p.1) (es.toList.map (·.key))/\kvs.length<=sizeLine:=by
 obtain ⟨z,far,vs,rel,o,es,ep,e1,e2,e3,kk,pr,nd⟩:=(show cE X.prog X.w H s.heap a (.dK kvs) from I.hok a _ h)
 refine⟨es,ep,⟨o,e1,e2,e3⟩,far,?_,z⟩
 clear z far e1 e2 e3 kk nd h
 generalize es.toList=l at pr
 induction pr generalizing kvs with
 | nil=>cases rel; exact .nil
 | @cons e k es' kvs' h1 h2 _ ih=>
  cases rel with
  | @cons p q ps qs r rs=>
   refine .cons ?_ (ih rs)
   obtain ⟨r1,_⟩:=r
   show aV (kV p.1) e.key
   rw [r1]
   rcases j5 h1 with ⟨n,t,e4,e5⟩ | ⟨x,t,e4,e5⟩
   ·rw [e4,e5]; exact⟨t,rfl⟩
   ·rw [e4,e5]; exact⟨t,rfl⟩
theorem aw8 {es:Array DictEntry}{acc:Array Value} (h:ItemsOf (fun i v=>∃ lt:i < es.size,es[i].key=v) acc es.size):acc.toList=es.toList.map (·.key):=by
 apply List.ext_getElem?
 intro j
 have h1:=h.1
 by_cases hj:j < es.size
 ·have hj':j < acc.size:=by rw [h1]; exact hj
  obtain ⟨_,e⟩:=h.2 j acc[j] (by simp [hj'])
  rw [bh5]
  simp [hj,hj',e]
 ·have hj' : ¬ j < acc.size:=by rw [h1]; exact hj
  rw [bh5]
  simp [bs9 hj,bs9 hj']
end
noncomputable def L4 (outer:List (Str × NameKind)) (XN:List Str) (names:List (Str × NameKind)) (N:List Str) (fr:List (Option Nat)):Bool:=
 names.all (fun y=>!(y.2 == .cell) || names.lookup y.1 == some .cell) && names.all (fun y=>!(y.2 == .local) || names.lookup y.1 == some .local) &&
 names.all (fun y=>!(y.2 == .free) || (outer.lookup y.1 == some .cell || outer.lookup y.1 == some .free)) && fr.length == N.length &&
 (fr.zip N).all (fun p=>match p.1 with
  | none=>true
  | some j=>XN[j]? == some p.2 && names.lookup p.2 == some .free)
theorem cQ.of {X:Cx}{scope:Scope}{N:List Str}{fr:List (Option Nat)} (hk:scope.kind = .function) (h:L4 X.env.scope.names X.N scope.names N fr=true):cQ X scope N fr:=by
 unfold L4 at h
 simp only [bj9] at h
 obtain ⟨⟨⟨⟨h1,h2⟩,h3⟩,h4⟩,h5⟩:=h
 refine⟨hk,fun y hy e=>?_,fun y hy e=>?_,fun y hy e=>?_,by simpa using h4,fun i j e=>?_⟩
 ·have:=bq0.mp h1 y hy
  rw [e] at this; simpa using this
 ·have:=bq0.mp h2 y hy
  rw [e] at this; simpa using this
 ·have:=bq0.mp h3 y hy
  rw [e] at this; simpa using this
 ·have hl:fr.length=N.length:=by simpa using h4
  have hi:i < fr.length:=(bh2.mp e).1
  have m:(some j,N[i]'(by omega)) ∈ fr.zip N:=by
   have:(fr.zip N)[i]? = some (some j,N[i]'(by omega)):=by
    rw [List.getElem?_zip_eq_some]
    exact⟨e,by simp⟩
   exact bh9 this
  have:=bq0.mp h5 _ m
  simp only [bj9,beq_iff_eq] at this
  exact⟨N[i]'(by omega),by simp,this.1,this.2⟩
theorem L5 {n:Option V}{r:St}{v:V}:Wk (none :: r) (some v :: r):=(Wk.refl (none :: r)).set (i:=0) rfl
noncomputable def mQ (H:Hp) (ys:List V) (ls:List (Int × Int)):Prop:=Paired (fun y l=>∃ b,y = .ref b/\H b=some (.tup [.int l.1,.int l.2])) ys ls
structure L6 (H:Hp) (v:V) (ws:List Int) (ls:List (Int × Int)):Prop where
 at_:∃ a p q ys,v = .ref a/\H a=some (.tup [.ref p,.ref q])/\H p=some (.tup (ws.map V.int))/\H q=some (.tup ys)/\mQ H ys ls
theorem mQ.get {H:Hp}:∀ {ys:List V}{ls:List (Int × Int)}{i:Nat}{y:V},mQ H ys ls->ys[i]? = some y->∃ l b,ls[i]? = some l/\y = .ref b/\H b=some (.tup [.int l.1,.int l.2])
 | _,_,_,_,.nil,e=>by simp at e
 | _,_,0,_,.cons (b:=l) ⟨b,h1,h2⟩ _,e=>by simp at e; subst e; exact⟨l,b,rfl,h1,h2⟩
 | _,_,i+1,_,.cons _ t,e=>by
  obtain ⟨l,b,h1,h2⟩:=mQ.get (i:=i) t (by simpa using e)
  exact⟨l,b,by simpa using h1,h2⟩
noncomputable def aH (ls:List (Int × Int)) (k:Int):List Int:=ls.flatMap fun l=>(if l.1=k then [l.2] else []) ++ (if l.2=k then [l.1] else [])
theorem aw9 (ls:List (Int × Int)) (l:Int × Int) (k:Int):aH (ls ++ [l]) k=aH ls k ++ ((if l.1=k then [l.2] else []) ++ (if l.2=k then [l.1] else [])):=by
 unfold aH; rw [List.flatMap_append]; simp
theorem L7 {ls:List (Int × Int)}{i:Nat}{l:Int × Int} (h:ls[i]? = some l) (k:Int):aH (ls.take (i+1)) k=aH (ls.take i) k ++ ((if l.1=k then [l.2] else []) ++ (if l.2=k then [l.1] else [])):=by
 rw [bn6,h]; exact aw9 _ _ _
structure iL (H H':Hp) (r:Addr) (bs:List Addr) (f:Nat->List Int):Prop where
 new:H r=none
 news:∀ b ∈ bs,H b=none/\b ≠ r
 nd:bs.Nodup
 row:H' r=some (.lst (bs.map V.ref))
 rows:∀ (k:Nat) (b:Addr),bs[k]? = some b->H' b=some (.lst ((f k).map V.int))
 same:aD H H'
theorem iL.congr {H H':Hp}{r:Addr}{bs:List Addr}{f g:Nat->List Int} (h:iL H H' r bs f) (e:∀ k,k < bs.length->f k=g k):iL H H' r bs g:=
 ⟨h.new,h.news,h.nd,h.row,fun k b hb=>by rw [<- e k (bh2.mp hb).1]; exact h.rows k b hb,h.same⟩
theorem iL.app {H H':Hp}{r:Addr}{bs:List Addr}{f:Nat->List Int} (h:iL H H' r bs f) {k:Nat}{b:Addr} (hb:bs[k]? = some b) (x:Int) :
  iL H (upd H' b (.lst ((f k).map V.int ++ [V.int x]))) r bs (fun j=>if j=k then f j ++ [x] else f j):=by
 have hm:b ∈ bs:=bh9 hb
 refine⟨h.new,h.news,h.nd,by rw [aY (Ne.symm (h.news b hm).2)]; exact h.row,fun j c hc=>?_,fun c o e=>by rw [aY (cI e (h.news b hm).1)]; exact h.same c o e⟩
 by_cases hj:j=k
 ·subst hj
  rw [hb] at hc; cases hc
  rw [bL,if_pos rfl]; simp
 ·rw [if_neg hj]
  have ne:c ≠ b:=fun z=>by
   subst z
   obtain ⟨i1,e1⟩:=bh2.mp hb
   obtain ⟨i2,e2⟩:=bh2.mp hc
   refine hj (Nat.le_antisymm (bs9 fun z=>?_) (bs9 fun z=>?_))
   ·exact bl4.mp h.nd _ _ i1 i2 z (e1.trans e2.symm)
   ·exact bl4.mp h.nd _ _ i2 i1 z (e2.trans e1.symm)
  rw [aY ne]; exact h.rows j c hc
theorem lN (ls:List (Int × Int)) (k:Int):(aH ls k).length<=2 * ls.length:=by
 induction ls with
 | nil=>exact bg9 _
 | cons l r ih=>
  have e:aH (l :: r) k=((if l.1=k then [l.2] else []) ++ (if l.2=k then [l.1] else [])) ++ aH r k:=rfl
  rw [e,bh6,bh6,bi9]
  have h1:(if l.1=k then [l.2] else []).length<=1:=by split <;> simp
  have h2:(if l.2=k then [l.1] else []).length<=1:=by split <;> simp
  omega
theorem lO {α:Type}{xs:List α}{i:Int}{v:α} (h0:0<=i) (h:xs[i.toNat]? = some v):atI xs i=some v:=by
 have:=o8 h
 rwa [show ((i.toNat:Nat):Int)=i by omega] at this
theorem i7 {n:Nat} (h:n<=16000000):n < sizeLine:=by rw [sizeLine_eq]; omega
theorem oK {σ:St}{H:Hp}{A B:Hp->Prop} (h:A H):vD σ H fun b H4=>if b=true then A H4 else B H4:=by
 show if true=true then A H else B H
 rw [if_pos rfl]; exact h
theorem kO {K:PySem.W.Frag}{H:Hp}{p:Addr}{xs:List V} (h:aK K H p xs):oC K "list" (.ref p) H:=.inl ⟨rfl,xs,h⟩
noncomputable def oM (H:Hp) (y:V):Int × Int:=match L1 H y with
 | [a,b]=>(a,b)
 | _=>(0,0)
theorem r6 {H:Hp}:∀ {zs:List V},(∀ y ∈ zs,∃ b,y = .ref b/\H b=some (.tup [.int (oM H y).1,.int (oM H y).2])/\L1 H y = [(oM H y).1,(oM H y).2])->mQ H zs (zs.map (oM H))
 | [],_=>.nil
 | y :: zs,h=>by
  obtain ⟨b,e,hb,_⟩:=h y bg7
  exact .cons ⟨b,e,hb⟩ (r6 fun z hz=>h z (bg6 _ hz))
theorem vI {l:Int × Int}{k x:Int}:x ∈ (if l.1=k then [l.2] else []) ++ (if l.2=k then [l.1] else []) ↔ (l.1=k/\x=l.2) ∨ (l.2=k/\x=l.1):=by
 rw [bh4]
 by_cases h1:l.1=k <;> by_cases h2:l.2=k <;> simp [h1,h2]
theorem dU {ls:List (Int × Int)}{k x:Int}:x ∈ aH ls k ↔ (k,x) ∈ ls ∨ (x,k) ∈ ls:=by
 unfold aH
 rw [List.mem_flatMap]
 constructor
 ·rintro ⟨l,hl,hx⟩
  rcases vI.mp hx with ⟨h1,h2⟩ | ⟨h1,h2⟩
  ·left; rw [<- h1,h2]; exact hl
  ·right; rw [<- h1,h2]; exact hl
 ·rintro (h | h)
  ·exact⟨_,h,vI.mpr (.inl ⟨rfl,rfl⟩)⟩
  ·exact⟨_,h,vI.mpr (.inr ⟨rfl,rfl⟩)⟩
theorem mR {ls:List (Int × Int)}{k x:Int} (h:x ∈ aH ls k):k ∈ aH ls x:=dU.mpr (dU.mp h).symm
theorem vJ (ns:List Int) (lo hi:Option Int):∃ ms:List Int,e9 (ns.map V.int) lo hi=ms.map V.int/\ms.length<=ns.length:=by
 unfold e9
 refine⟨_,by rw [<- List.map_drop,<- List.map_take],?_⟩
 rw [bn2,bp0]; omega
end L2
namespace Zp
open PySem PyProof.Rows
section
variable {prog : Program} {w : World} {A : Around} {E : Value → Shared → Prop} {s : Shared}
theorem L8 {it t:Addr}{i:Nat}{items:Array Value}{x:Value}{Q:Value->Shared->Prop} (hi:s.heap.IsTupleIter it t i) (ht:s.heap.IsTuple t items) (hx:items[i]? = some x)
  (q:∀ h',h'.IsTupleIter it t (i+1)->Heap.SameBut it s.heap h'->Q x { s with heap:=h' }):wpAny (model prog w) A (Builtin.SmallTypes.nextOf (.ref it)) Q E s:=by
 have T:=hi.typeIs
 obtain ⟨o,e1,e2,e3⟩:=hi
 obtain ⟨u,f1,_,k,f3⟩:=ht
 have slot:=PySem.F.slot_tuple_iterator_next
 have isref:(Value.ref t == Value.none)=false:=rfl
 unfold Builtin.SmallTypes.nextOf
 apply bg0
 apply bn9 (name:=Str.ofString "__next__") T slot
 apply bo2 slot T PySem.F.entry_tuple_iterator_next _ (PySem.F.args_tuple_iterator_next_1 _)
 change wpAny _ _ (field (.ref it) 0 >>= _) _ _ s
 apply bg0
 refine bn8 e1 e3 (x:=.ref t) rfl ?_
 change wpAny _ _ (if (Value.ref t == Value.none)=true then _ else _) _ _ s
 simp only [isref,bj7,bp8]
 change wpAny _ _ (field (.ref it) 1 >>= _) _ _ s
 apply bg0
 refine bn8 e1 e3 (x:=.int i 0) rfl ?_
 change wpAny _ _ (seqItems? (.ref t) >>= _) _ _ s
 apply bg0
 apply bv3 f1 f3
 simp only [bj8,hx]
 apply bg0
 refine wpAny_setField e1 e3 (by simp) ?_
 apply bh3
 refine⟨x,rfl,bh3 (q _ ⟨_,Heap.get?_update_self _ e1 (Obj.isFreed_of_fields (Obj.data_mapFields e3 _)),?_,?_⟩ (bu1 ..))⟩
 ·rw [Obj.cls_mapFields]; exact e2
 ·rw [Obj.data_mapFields e3]; simp [rawInt]
theorem L9 {it t:Addr}{i:Nat}{items:Array Value}{Q:Value->Shared->Prop} (hh:A.handled=none) (hi:s.heap.IsTupleIter it t i) (ht:s.heap.IsTuple t items) (hx:items[i]? = none)
  (q:∀ h' e,Heap.ExtBut it s.heap h'->(∃ o,h'.get? e=some o/\o.cls = .type "StopIteration")->E (.ref e) { s with heap:=h' }):wpAny (model prog w) A (Builtin.SmallTypes.nextOf (.ref it)) Q E s:=by
 have T:=hi.typeIs
 obtain ⟨o,e1,e2,e3⟩:=hi
 obtain ⟨u,f1,_,k,f3⟩:=ht
 have slot:=PySem.F.slot_tuple_iterator_next
 have isref:(Value.ref t == Value.none)=false:=rfl
 unfold Builtin.SmallTypes.nextOf
 apply bg0
 apply bn9 (name:=Str.ofString "__next__") T slot
 apply bo2 slot T PySem.F.entry_tuple_iterator_next _ (PySem.F.args_tuple_iterator_next_1 _)
 change wpAny _ _ (field (.ref it) 0 >>= _) _ _ s
 apply bg0
 refine bn8 e1 e3 (x:=.ref t) rfl ?_
 change wpAny _ _ (if (Value.ref t == Value.none)=true then _ else _) _ _ s
 simp only [isref,bj7,bp8]
 change wpAny _ _ (field (.ref it) 1 >>= _) _ _ s
 apply bg0
 refine bn8 e1 e3 (x:=.int i 0) rfl ?_
 change wpAny _ _ (seqItems? (.ref t) >>= _) _ _ s
 apply bg0
 apply bv3 f1 f3
 simp only [bj8,hx]
 apply bg0
 apply bt0
 apply bg0
 refine wpAny_setField e1 e3 (by simp) ?_
 apply bg0
 simp only [newExc,newTuple]
 apply bg0
 refine bn5 ?_ (by size_fits)
 apply bg0
 refine wpAny_of_eq (a:=Value.none) (by first | rfl | (simp only [firstArgMember]; rfl)) ?_
 refine bn5 ?_ (by size_fits)
 unfold raiseNew
 apply bg0
 apply wpAny_handled
 have quiet:A.in1.handled=none:=hh
 rw [quiet]
 refine wpAny_throw ?_
 exact q _ _ (((bu1 ..).extBut.push _).push _) ⟨_,bi8 _ rfl,rfl⟩
theorem ax0 (hh:A.handled=none) (it t:Addr) (ne:t ≠ it) (items:Array Value):Draws prog w A it [it,t] items.size (fun i v=>items[i]? = some v) (fun i h=>h.IsTupleIter it t i/\h.IsTuple t items) where
 live:=fun _ _ st=>st.1.elim fun o y=>⟨o,y.1⟩
 frame:=fun _ _ _ st k=>⟨st.1.at fun o e=>k it bg7 o e,st.2.elim fun o y=>⟨o,k t (bg6 _ bg7) o y.1,y.2⟩⟩
 item:=fun i s Q E lt st q=>L8 st.1 st.2 (Array.getElem?_eq_getElem lt) fun h' again sb=>q _ h' s.toks (Array.getElem?_eq_getElem lt) ⟨again,st.2.elim fun o y=>⟨o,sb.extBut t o ne y.1,y.2⟩⟩ sb
 done:=fun s Q E st q=>L9 hh st.1 st.2 (Array.getElem?_eq_none (bg9 _)) q
end
structure Ap (z TI TO i1 i2:Addr) (fp1 fp2:List Addr):Prop where
 TIz:TI ≠ z
 TOz:TO ≠ z
 TITO:TI ≠ TO
 z1:z ∉ fp1
 z2:z ∉ fp2
 o1:TO ∉ fp1
 o2:TO ∉ fp2
 t1:TI ∉ fp1
 t2:TI ∉ fp2
 m1:i1 ∈ fp1
 m2:i2 ∈ fp2
 n1:i1 ∉ fp2
 n2:i2 ∉ fp1
structure vK (z TI TO i1 i2:Addr) (St1 St2:Nat->Heap->Prop) (f0:Value) (i j:Nat) (h:Heap):Prop where
 zz:IsZip h z TI TO f0
 ti:IsPair h TI (.ref i1) (.ref i2)
 to_:∃ a b,IsPair h TO a b
 s1:St1 i h
 s2:St2 j h
section
variable {prog : Program} {w : World} {A : Around} {E : Value → Shared → Prop} {s : Shared} {z TI TO i1 i2 : Addr} {fp1 fp2 : List Addr} {n1 n2 : Nat} {P1 P2 : Nat → Value → Prop} {St1 St2 : Nat → Heap → Prop}
theorem mS (ap:Ap z TI TO i1 i2 fp1 fp2) {b:Addr} (h:b ∉ fp1):b ≠ i1:=fun e=>h (e ▸ ap.m1)
theorem r9 (ap:Ap z TI TO i1 i2 fp1 fp2) {b:Addr} (h:b ∉ fp2):b ≠ i2:=fun e=>h (e ▸ ap.m2)
theorem item (D1:Draws prog w A.in1 i1 fp1 n1 P1 St1) (D2:Draws prog w A.in1 i2 fp2 n2 P2 St2) (ap:Ap z TI TO i1 i2 fp1 fp2) {i:Nat} (l1:i < n1) (l2:i < n2) (st:vK z TI TO i1 i2 St1 St2 .none i i s.heap) {Q:Option Value->Shared->Prop}
  (q:∀ x y h' tk,P1 i x->P2 i y->vK z TI TO i1 i2 St1 St2 (rawInt s.heap.objs.size) (i+1) (i+1) h'->IsPair h' s.heap.objs.size x y->(∀ c o,c ≠ z->c ≠ TO->c ≠ i1->c ≠ i2->s.heap.get? c=some o->h'.get? c=some o)->
   h'.objs.size=s.heap.objs.size+1->Q (some (.ref s.heap.objs.size)) { s with heap:=h',toks:=tk }):wpAny (model prog w) A (pyNext (.ref z)) Q E s:=by
 obtain ⟨hz,hti,⟨a,b,hto⟩,h1,h2⟩:=st
 have T:s.TypeIs (.ref z) "zip":=⟨_,hz,rfl⟩
 have slot:=PySem.F.slot_zip_next
 unfold pyNext
 apply bg0
 apply wpAny_attempt
 apply bn9 (name:=Str.ofString "__next__") T slot
 apply bo2 slot T PySem.F.entry_zip_next _ (PySem.F.args_zip_next_1 _)
 change wpAny _ _ (field (.ref z) 2 >>= _) _ _ _
 apply bg0
 refine bn8 hz rfl (x:=.bool false) rfl ?_
 change wpAny _ _ (field (.ref z) 3 >>= _) _ _ _
 apply bg0
 refine bn8 hz rfl (x:=.ref TI) rfl ?_
 apply bg0
 apply bv3 hti rfl
 change wpAny _ _ (Builtin.SmallTypes.ownedTupleIsFree (.ref z) >>= _) _ _ _
 apply bg0
 unfold Builtin.SmallTypes.ownedTupleIsFree
 apply bg0
 refine bn8 hz rfl (x:=.none) rfl (bh3 ?_)
 simp only [if_true]
 apply bg0
 apply bt0
 apply bg0
 refine bn8 hz rfl (x:=.ref TO) rfl ?_
 apply bg0
 refine bo6 hz (by simp) fun g1 hz1 sb1=>?_
 have k1:∀ c o,c ≠ z->s.heap.get? c=some o->g1.get? c=some o:=fun c o c1 e=>sb1.extBut c o c1 e
 apply bg0
 simp only [List.zipIdx_cons,List.zipIdx_nil,List.forIn_cons,List.forIn_nil]
 apply bg0
 apply bg0
 apply wpAny_onRaise
 change wpAny _ _ (Builtin.SmallTypes.nextOf (.ref i1) >>= _) _ _ _
 apply bg0
 refine D1.item i { s with heap:=g1 } _ _ l1 (D1.frame _ _ _ h1 fun c hc o e=>k1 c o (fun y=>ap.z1 (y ▸ hc)) e) fun x g2 tk2 px st1 sb2=>bh3 ?_
 have k2:∀ c o,c ≠ z->c ≠ i1->s.heap.get? c=some o->g2.get? c=some o:=fun c o c1 c2 e=>sb2.extBut c o c2 (k1 c o c1 e)
 have to2:IsPair g2 TO a b:=k2 _ _ ap.TOz (mS ap ap.o1) hto
 apply bg0
 apply bv3 to2 rfl
 apply bg0
 refine wpAny_updateSeq_pair to2 fun g3 to3 sb3=>?_
 have to3:IsPair g3 TO x b:=to3
 apply bg0
 apply wpAny_letGo
 apply bh3
 apply bg0
 apply bg0
 apply wpAny_onRaise
 change wpAny _ _ (Builtin.SmallTypes.nextOf (.ref i2) >>= _) _ _ _
 apply bg0
 have k3:∀ c o,c ≠ z->c ≠ i1->c ≠ TO->s.heap.get? c=some o->g3.get? c=some o:=fun c o c1 c2 c3 e=>sb3.extBut c o c3 (k2 c o c1 c2 e)
 refine D2.item i { s with heap:=g3,toks:=tk2 } _ _ l2 (D2.frame _ _ _ h2 fun c hc o e=>k3 c o (fun y=>ap.z2 (y ▸ hc)) (fun y=>ap.n1 (y ▸ hc)) (fun y=>ap.o2 (y ▸ hc)) e) fun y g4 tk4 py st2 sb4=>bh3 ?_
 have to4:IsPair g4 TO x b:=sb4.extBut _ _ (r9 ap ap.o2) to3
 apply bg0
 apply bv3 to4 rfl
 apply bg0
 refine wpAny_updateSeq_pair to4 fun g5 to5 sb5=>?_
 have to5:IsPair g5 TO x y:=to5
 apply bg0
 apply wpAny_letGo
 apply bh3
 apply bh3
 apply bg0
 apply bv3 to5 rfl
 apply bg0
 refine wpAny_newTuple ?_ (by show 2<=sizeLine; decide)
 have size:g5.objs.size=s.heap.objs.size:=by rw [sb5.1,sb4.1,sb3.1,sb2.1,sb1.1]
 have k5:∀ c o,c ≠ z->c ≠ TO->c ≠ i1->c ≠ i2->s.heap.get? c=some o->g5.get? c=some o:=fun c o c1 c2 c3 c4 e=>sb5.extBut c o c2 (sb4.extBut c o c4 (k3 c o c1 c3 c2 e))
 have z5:IsZip g5 z TI TO .ellipsis:=sb5.extBut _ _ (Ne.symm ap.TOz) (sb4.extBut _ _ (r9 ap ap.z2) (sb3.extBut _ _ (Ne.symm ap.TOz) (sb2.extBut _ _ (mS ap ap.z1) hz1)))
 change wpAny _ _ (Builtin.SmallTypes.ownedTupleHandOut (.ref z) (.ref g5.objs.size) >>= _) _ _ _
 apply bg0
 unfold Builtin.SmallTypes.ownedTupleHandOut
 apply bg0
 have z6:IsZip (g5.push { cls:=.type "tuple",data:=.seq #[x,y] }) z TI TO .ellipsis:=bg1 _ z5
 refine bo6 z6 (by simp) fun g7 z7 sb7=>?_
 have z7:IsZip g7 z TI TO (rawInt g5.objs.size):=z7
 refine bo6 z7 (by simp) fun g8 z8 sb8=>?_
 have z8:IsZip g8 z TI TO (rawInt g5.objs.size):=z8
 have zlt:z < g5.objs.size:=bi0 z5
 have up:∀ c o,c ≠ z->g5.get? c=some o->g8.get? c=some o:=fun c o c1 e=>sb8.extBut c o c1 (sb7.extBut c o c1 (bg1 _ e))
 have p8:IsPair g8 g5.objs.size x y:=sb8.extBut _ _ (bp6 zlt) (sb7.extBut _ _ (bp6 zlt) (bi8 _ rfl))
 have s8:g8.objs.size=g5.objs.size+1:=by rw [sb8.1,sb7.1,bs6]
 have f1:St1 (i+1) g8:=D1.frame _ _ _ st1 fun c hc o e=>up c o (fun y=>ap.z1 (y ▸ hc)) (sb5.extBut c o (fun y=>ap.o1 (y ▸ hc)) (sb4.extBut c o (fun y=>ap.n2 (y ▸ hc)) (sb3.extBut c o (fun y=>ap.o1 (y ▸ hc)) e)))
 have f2:St2 (i+1) g8:=D2.frame _ _ _ st2 fun c hc o e=>up c o (fun y=>ap.z2 (y ▸ hc)) (sb5.extBut c o (fun y=>ap.o2 (y ▸ hc)) e)
 have ti8:IsPair g8 TI (.ref i1) (.ref i2):=up _ _ ap.TIz (k5 _ _ ap.TIz ap.TITO (mS ap ap.t1) (r9 ap ap.t2) hti)
 rw [size] at z8 p8 s8
 apply bh3
 refine⟨_,rfl,bh3 ?_⟩
 change Q (some (.ref g5.objs.size)) _
 rw [size]
 exact q x y g8 tk4 px py ⟨z8,ti8,⟨x,y,up _ _ ap.TOz to5⟩,f1,f2⟩ p8 (fun c o c1 c2 c3 c4 e=>up c o c1 (k5 c o c1 c2 c3 c4 e)) s8
theorem fin (D1:Draws prog w A.in1 i1 fp1 n1 P1 St1) (D2:Draws prog w A.in1 i2 fp2 n2 P2 St2) (ap:Ap z TI TO i1 i2 fp1 fp2) {i:Nat} (le:i=n1 ∨ (i < n1/\i=n2)) (st:vK z TI TO i1 i2 St1 St2 .none i i s.heap) {Q:Option Value->Shared->Prop}
  (q:∀ h' tk,(∀ c o,c ≠ z->c ≠ TO->c ≠ i1->c ≠ i2->s.heap.get? c=some o->h'.get? c=some o)->Q none { s with heap:=h',toks:=tk }):wpAny (model prog w) A (pyNext (.ref z)) Q E s:=by
 obtain ⟨hz,hti,⟨a,b,hto⟩,h1,h2⟩:=st
 have T:s.TypeIs (.ref z) "zip":=⟨_,hz,rfl⟩
 have slot:=PySem.F.slot_zip_next
 unfold pyNext
 apply bg0
 apply wpAny_attempt
 apply bn9 (name:=Str.ofString "__next__") T slot
 apply bo2 slot T PySem.F.entry_zip_next _ (PySem.F.args_zip_next_1 _)
 change wpAny _ _ (field (.ref z) 2 >>= _) _ _ _
 apply bg0
 refine bn8 hz rfl (x:=.bool false) rfl ?_
 change wpAny _ _ (field (.ref z) 3 >>= _) _ _ _
 apply bg0
 refine bn8 hz rfl (x:=.ref TI) rfl ?_
 apply bg0
 apply bv3 hti rfl
 change wpAny _ _ (Builtin.SmallTypes.ownedTupleIsFree (.ref z) >>= _) _ _ _
 apply bg0
 unfold Builtin.SmallTypes.ownedTupleIsFree
 apply bg0
 refine bn8 hz rfl (x:=.none) rfl (bh3 ?_)
 simp only [if_true]
 apply bg0
 apply bt0
 apply bg0
 refine bn8 hz rfl (x:=.ref TO) rfl ?_
 apply bg0
 refine bo6 hz (by simp) fun g1 hz1 sb1=>?_
 have k1:∀ c o,c ≠ z->s.heap.get? c=some o->g1.get? c=some o:=fun c o c1 e=>sb1.extBut c o c1 e
 apply bg0
 simp only [List.zipIdx_cons,List.zipIdx_nil,List.forIn_cons,List.forIn_nil]
 apply bg0
 apply bg0
 apply wpAny_onRaise
 change wpAny _ _ (Builtin.SmallTypes.nextOf (.ref i1) >>= _) _ _ _
 apply bg0
 have z1:IsZip g1 z TI TO .ellipsis:=hz1
 rcases le with rfl | ⟨lt,rfl⟩
 ·refine D1.done { s with heap:=g1 } _ _ (D1.frame _ _ _ h1 fun c hc o e=>k1 c o (fun y=>ap.z1 (y ▸ hc)) e) fun g2 e eb ex=>?_
  have z2:IsZip g2 z TI TO .ellipsis:=eb _ _ (mS ap ap.z1) z1
  refine bo6 z2 (by simp) fun g3 z3 sb3=>?_
  obtain ⟨oe,eo,co⟩:=ex
  have ne:e ≠ z:=fun y=>by
   rw [y,z2] at eo
   have:=bj0 eo
   rw [<- this] at co; exact absurd (show Value.type "zip" = Value.type "StopIteration" from co) (by decide)
  apply bg0
  refine wpAny_isInstance (T:="StopIteration") (b:=true) ⟨oe,sb3.extBut _ _ ne eo,co⟩ isSubtype_stop ?_
  exact bh3 (q g3 s.toks fun c o c1 _ c3 _ e=>sb3.extBut c o c1 (eb c o c3 (k1 c o c1 e)))
 ·refine D1.item i { s with heap:=g1 } _ _ lt (D1.frame _ _ _ h1 fun c hc o e=>k1 c o (fun y=>ap.z1 (y ▸ hc)) e) fun x g2 tk2 px st1 sb2=>bh3 ?_
  have k2:∀ c o,c ≠ z->c ≠ i1->s.heap.get? c=some o->g2.get? c=some o:=fun c o c1 c2 e=>sb2.extBut c o c2 (k1 c o c1 e)
  have to2:IsPair g2 TO a b:=k2 _ _ ap.TOz (mS ap ap.o1) hto
  apply bg0
  apply bv3 to2 rfl
  apply bg0
  refine wpAny_updateSeq_pair to2 fun g3 to3 sb3=>?_
  apply bg0
  apply wpAny_letGo
  apply bh3
  apply bg0
  apply bg0
  apply wpAny_onRaise
  change wpAny _ _ (Builtin.SmallTypes.nextOf (.ref i2) >>= _) _ _ _
  apply bg0
  have k3:∀ c o,c ≠ z->c ≠ i1->c ≠ TO->s.heap.get? c=some o->g3.get? c=some o:=fun c o c1 c2 c3 e=>sb3.extBut c o c3 (k2 c o c1 c2 e)
  refine D2.done { s with heap:=g3,toks:=tk2 } _ _ (D2.frame _ _ _ h2 fun c hc o e=>k3 c o (fun y=>ap.z2 (y ▸ hc)) (fun y=>ap.n1 (y ▸ hc)) (fun y=>ap.o2 (y ▸ hc)) e) fun g4 e eb ex=>?_
  have z4:IsZip g4 z TI TO .ellipsis:=eb _ _ (r9 ap ap.z2) (sb3.extBut _ _ (Ne.symm ap.TOz) (sb2.extBut _ _ (mS ap ap.z1) z1))
  refine bo6 z4 (by simp) fun g5 z5 sb5=>?_
  obtain ⟨oe,eo,co⟩:=ex
  have ne:e ≠ z:=fun y=>by
   rw [y,z4] at eo
   have:=bj0 eo
   rw [<- this] at co; exact absurd (show Value.type "zip" = Value.type "StopIteration" from co) (by decide)
  apply bg0
  refine wpAny_isInstance (T:="StopIteration") (b:=true) ⟨oe,sb5.extBut _ _ ne eo,co⟩ isSubtype_stop ?_
  exact bh3 (q g5 tk2 fun c o c1 c2 c3 c4 e=>sb5.extBut c o c1 (eb c o c4 (k3 c o c1 c3 c2 e)))
end
noncomputable def gN (h:Heap) (t u:Addr):Heap:=
 ((((h.push { cls:=.type "tuple_iterator",data:=.fields #[.ref t,.int 0 0] }).push { cls:=.type "tuple_iterator",data:=.fields #[.ref u,.int 0 0] }).push { cls:=.type "tuple",data:=.seq #[.ref h.objs.size,.ref (h.objs.size+1)] }).push
  { cls:=.type "tuple",data:=.seq #[.none,.none] }).push { cls:=.type "zip",data:=.fields #[.none,.bool false,.bool false,.ref (h.objs.size+2),.ref (h.objs.size+3)] }
theorem ax1 (t u:Addr) (xs ys:Array Value):Meets (Builtin.«zip.__new__» ⟨[.type "zip",.ref t,.ref u],[]⟩) (fun _ R s=>s.heap.IsTuple t xs/\s.heap.IsTuple u ys/\R (.ok (.ret (.ref (s.heap.objs.size+4)))) { s with heap:=gN s.heap t u }):=
 .of_wp fun prog w A R s h=>by
  obtain ⟨hp,g,d,tk,os⟩:=s
  obtain ⟨ht,hu,h⟩:=h
  have sub:=sub_zip
  have a1:Heap.IsTuple (Shared.heap ⟨hp,g,d,tk,os⟩) t xs:=ht
  have a2:Heap.IsTuple (Shared.heap ⟨hp.push { cls:=.type "tuple_iterator",data:=.fields #[.ref t,.int 0 0] },g,d,tk,os⟩) u ys:=hu.elim fun o y=>⟨o,bg1 _ y.1,y.2⟩
  wp_walk using bu9 a1,bu9 a2
  have e:∀ (o:Obj) (k:Heap),(k.push o).objs.size=k.objs.size+1:=fun o k=>bs6 ..
  refine⟨_,rfl,?_⟩
  simp only [gN,e] at h ⊢
  exact h
section
variable {prog : Program} {w : World} {A : Around} {E : Value → Shared → Prop} {s : Shared}
theorem ax2 {t u:Addr}{xs ys:Array Value}{Q:Value->Shared->Prop} (ht:s.heap.IsTuple t xs) (hu:s.heap.IsTuple u ys)
  (q:∀ h',IsZip h' (s.heap.objs.size+4) (s.heap.objs.size+2) (s.heap.objs.size+3) .none->IsPair h' (s.heap.objs.size+2) (.ref s.heap.objs.size) (.ref (s.heap.objs.size+1))->
   IsPair h' (s.heap.objs.size+3) .none .none->h'.IsTupleIter s.heap.objs.size t 0->h'.IsTupleIter (s.heap.objs.size+1) u 0->(∀ c o,s.heap.get? c=some o->h'.get? c=some o)->Q (.ref (s.heap.objs.size+4)) { s with heap:=h' }) :
  wpAny (model prog w) A (call (.type "zip") [.ref t,.ref u]) Q E s:=by
 refine callType_new PySem.F.called_zip (by decide) (PySem.F.typeCall_zip_2 _ _) (PySem.F.newCall_zip_2 _ _) (fun obj=>PySem.F.args_object_init_3 obj _ _) PySem.F.entry_zip_new (ax1 t u xs ys) ⟨ht,hu,?_⟩
 have e:∀ (o:Obj) (k:Heap),(k.push o).objs.size=k.objs.size+1:=fun o k=>bs6 ..
 have p0:∀ (k:Heap) (o:Obj) (m:Nat),o.isFreed=false->m=k.objs.size->(k.push o).get? m=some o:=fun k o m f z=>by rw [z]; exact bi8 _ f
 have g0:(gN s.heap t u).get? s.heap.objs.size=some { cls:=.type "tuple_iterator",data:=.fields #[.ref t,.int 0 0] }:=by
  unfold gN
  exact bg1 _ (bg1 _ (bg1 _ (bg1 _ (p0 _ _ _ rfl rfl))))
 have g1:(gN s.heap t u).get? (s.heap.objs.size+1)=some { cls:=.type "tuple_iterator",data:=.fields #[.ref u,.int 0 0] }:=by
  unfold gN
  exact bg1 _ (bg1 _ (bg1 _ (p0 _ _ _ rfl (by simp only [e]))))
 have g2:(gN s.heap t u).get? (s.heap.objs.size+2)=some { cls:=.type "tuple",data:=.seq #[.ref s.heap.objs.size,.ref (s.heap.objs.size+1)] }:=by
  unfold gN
  exact bg1 _ (bg1 _ (p0 _ _ _ rfl (by simp only [e])))
 have g3:(gN s.heap t u).get? (s.heap.objs.size+3)=some { cls:=.type "tuple",data:=.seq #[.none,.none] }:=by
  unfold gN
  exact bg1 _ (p0 _ _ _ rfl (by simp only [e]))
 have g4:(gN s.heap t u).get? (s.heap.objs.size+4)=some { cls:=.type "zip",data:=.fields #[.none,.bool false,.bool false,.ref (s.heap.objs.size+2),.ref (s.heap.objs.size+3)] }:=by
  unfold gN
  exact p0 _ _ _ rfl (by simp only [e])
 refine⟨⟨_,g4,rfl⟩,q _ g4 g2 g3 ⟨_,g0,rfl,rfl⟩ ⟨_,g1,rfl,rfl⟩ fun c o z=>?_⟩
 unfold gN
 exact bg1 _ (bg1 _ (bg1 _ (bg1 _ (bg1 _ z))))
end
end Zp
namespace L2
open PySem PySem.Spec PyProof.Rows
noncomputable def vL (K:PySem.W.Frag) (a b:Addr):It:=
  ⟨fun i H=>∃ xs ys x y,aQ K H a xs/\aQ K H b ys/\xs[i]? = some x/\ys[i]? = some y,
   fun i H v H'=>∃ T x y,H T=none/\v = .ref T/\H'=upd H T (.tup [x,y])/\∀ xs ys,aQ K H a xs->aQ K H b ys->xs[i]? = some x/\ys[i]? = some y,
   fun i H=>∃ xs ys,aQ K H a xs/\aQ K H b ys/\(i=xs.length ∨ (i < xs.length/\i=ys.length))⟩
noncomputable def Sq (t:Bool) (K:PySem.W.Frag) (H:Hp) (a:Addr) (xs:List V):Prop:=match t with
 | true=>aQ K H a xs
 | false=>aK K H a xs
noncomputable def gO (t:Bool) (h:Heap) (i a:Addr) (n:Nat):Prop:=match t with
 | true=>h.IsTupleIter i a n
 | false=>h.IsListIter i a n
noncomputable def M0 (t:Bool) (h:Heap) (a:Addr) (xs:Array Value):Prop:=match t with
 | true=>h.IsTuple a xs
 | false=>h.IsList a xs
theorem gO.at {h h':Heap}{i a:Addr}{n:Nat}:∀ {t:Bool},gO t h i a n->(∀ o,h.get? i=some o->h'.get? i=some o)->gO t h' i a n
 | true,x,k=>Heap.IsTupleIter.at x k
 | false,x,k=>Heap.IsListIter.at x k
theorem gO.ob {h:Heap}{i a:Addr}{n:Nat}:∀ {t:Bool},gO t h i a n->∃ o,h.get? i=some o/\∀ v,o.data ≠ .cell v
 | true,⟨o,f,_,d⟩=>⟨o,f,fun v q=>by rw [d] at q; cases q⟩
 | false,⟨o,f,_,d⟩=>⟨o,f,fun v q=>by rw [d] at q; cases q⟩
theorem gO.draws {prog:Program}{w:World}{A:Around}:∀ (t:Bool) (hh:A.handled=none) (it a:Addr) (ne:a ≠ it) (items:Array Value),Draws prog w A it [it,a] items.size (fun i v=>items[i]? = some v) (fun i h=>gO t h it a i/\M0 t h a items)
 | true,hh,it,a,ne,items=>Zp.ax0 hh it a ne items
 | false,hh,it,a,ne,items=>Draws.list hh it a ne items
section
variable {X : Cx} {pins : List (Addr × Obj)} {σ : St} {H : Hp} {s : Shared} {a : Addr} {xs ys : List V}
theorem Sq.get (I:a6 X pins σ H s):∀ {t:Bool},Sq t X.K H a xs->∃ us,aM xs us/\M0 t s.heap a us.toArray
 | true,h=>by obtain ⟨us,r,p,_⟩:=I.tuple h; exact⟨us,r,p⟩
 | false,h=>by obtain ⟨us,r,p,_⟩:=I.list h; exact⟨us,r,p.isList⟩
theorem Sq.inj (I:a6 X pins σ H s):∀ {t:Bool},Sq t X.K H a xs->Sq t X.K H a ys->xs=ys
 | true,h,g=>I.tuple_inj h g
 | false,h,g=>I.list_inj h g
theorem Sq.off (I:a6 X pins σ H s) (he:H a=none) (hb:X.base.get? a=none):∀ {t:Bool},Sq t X.K H a xs->False
 | true,h=>by
  rcases h with (h | ⟨_,h⟩) | ⟨o,_,_,h,_⟩
  ·rw [he] at h; cases h
  ·rw [he] at h; cases h
  ·have:=I.ok.mod.kin a o h
   rw [hb] at this; cases this
 | false,h=>by
  rcases h with (h | ⟨_,h⟩) | ⟨o,_,_,h,_⟩
  ·rw [he] at h; cases h
  ·rw [he] at h; cases h
  ·have:=I.ok.mod.kin a o h
   rw [hb] at this; cases this
end
noncomputable def ax3 (t1 t2:Bool) (K:PySem.W.Frag) (a b:Addr):It:=
  ⟨fun i H=>∃ xs ys x y,Sq t1 K H a xs/\Sq t2 K H b ys/\xs[i]? = some x/\ys[i]? = some y,
   fun i H v H'=>∃ T x y,H T=none/\v = .ref T/\H'=upd H T (.tup [x,y])/\∀ xs ys,Sq t1 K H a xs->Sq t2 K H b ys->xs[i]? = some x/\ys[i]? = some y,
   fun i H=>∃ xs ys,Sq t1 K H a xs/\Sq t2 K H b ys/\(i=xs.length ∨ (i < xs.length/\i=ys.length))⟩
structure vM (t1 t2:Bool) (z TI TO i1 i2 a b:Addr) (i:Nat) (h:Heap):Prop where
 zz:IsZip h z TI TO .none
 ti:IsPair h TI (.ref i1) (.ref i2)
 to_:∃ x y,IsPair h TO x y
 s1:gO t1 h i1 a i
 s2:gO t2 h i2 b i
theorem M3 (t1 t2:Bool) {P:Program}{w:World}{K:PySem.W.Frag}{elts:List Expr}{k:Nat}{pos:Pos} (a b z TI TO i1 i2:Addr) (d : [z,TI,TO,i1,i2].Nodup) :
  iH P w K (.Tuple elts k pos) (ax3 t1 t2 K a b) [z,TI,TO,i1,i2] z (vM t1 t2 z TI TO i1 i2 a b):=by
 have nd:z ≠ TI/\z ≠ TO/\z ≠ i1/\z ≠ i2/\TI ≠ TO/\TI ≠ i1/\TI ≠ i2/\TO ≠ i1/\TO ≠ i2/\i1 ≠ i2:=by
  simp only [bm6,bg8,bi6,bm1,not_or] at d
  obtain ⟨⟨a1,a2,a3,a4⟩,⟨b1,b2,b3⟩,⟨c1,c2⟩,e1,_⟩:=d
  exact⟨a1,a2,a3,a4,b1,b2,b3,c1,c2,e1⟩
 obtain ⟨n1,n2,n3,n4,n5,n6,n7,n8,n9,n10⟩:=nd
 have offBase:∀ {X:Cx}{pins:List (Addr × Obj)}{σ:St}{H:Hp}{s:Shared},a6 X pins σ H s->(∀ c ∈ [z,TI,TO,i1,i2],hV X pins H c)->∀ c ∈ [z,TI,TO,i1,i2],X.base.get? c=none:=by
  intro X pins σ H s I hf c hc
  cases q:X.base.get? c with
  | none=>rfl
  | some o=>
   rcases (hf c hc).2.2.2.1 with h | h
   ·exact absurd h (I.ok.noex c o q)
   ·exact absurd (bi2 (bi0 q) (bl1 I.ok.bsz h)) (bo5 _)
 have off:∀ {t:Bool}{X:Cx}{pins:List (Addr × Obj)}{σ:St}{H:Hp}{s:Shared}{c:Addr}{zs:List V},a6 X pins σ H s->(∀ c ∈ [z,TI,TO,i1,i2],hV X pins H c)->Sq t X.K H c zs->c ∉ [z,TI,TO,i1,i2]:=by
  intro t X pins σ H s c zs I hf hc hm
  exact Sq.off I (hf c hm).1 (offBase I hf c hm) hc
 have ap:∀ {c e:Addr},c ∉ [z,TI,TO,i1,i2]->e ∉ [z,TI,TO,i1,i2]->Zp.Ap z TI TO i1 i2 [i1,c] [i2,e]:=fun {c e} hc he=>by
  simp only [bg8,bi6,bm1,not_or] at hc he
  obtain ⟨c1,c2,c3,c4,c5⟩:=hc
  obtain ⟨e1,e2,e3,e4,e5⟩:=he
  have two:∀ {q u v:Addr},q ≠ u->q ≠ v->q ∉ [u,v]:=fun {q u v} h1 h2 hm=>by
   simp only [bg8,bi6,bm1] at hm
   exact hm.elim h1 h2
  exact⟨n1.symm,n2.symm,n5,two n3 (Ne.symm c1),two n4 (Ne.symm e1),two n8 (Ne.symm c3),two n9 (Ne.symm e3),two n6 (Ne.symm c2),two n7 (Ne.symm e2),bg7,bg7,two n10 (Ne.symm e4),two n10.symm (Ne.symm c5)⟩
 refine⟨by simp,fun i h st c hc=>?_,fun i h h' st kp=>?_,?_,?_,fun A i s Q E st q=>wpAny_pyIter_zip st.zz q⟩
 ·simp only [bg8,bi6,bm1] at hc
  obtain ⟨x,y,to⟩:=st.to_
  rcases hc with rfl | rfl | rfl | rfl | rfl
  ·exact⟨_,st.zz,fun v q=>by cases q⟩
  ·exact⟨_,st.ti,fun v q=>by cases q⟩
  ·exact⟨_,to,fun v q=>by cases q⟩
  ·exact st.s1.ob
  ·exact st.s2.ob
 ·obtain ⟨x,y,to⟩:=st.to_
  exact⟨kp z (by simp) _ st.zz,kp TI (by simp) _ st.ti,⟨x,y,kp TO (by simp) _ to⟩,st.s1.at fun o e=>kp i1 (by simp) o e,st.s2.at fun o e=>kp i2 (by simp) o e⟩
 ·
  intro X hP hw hK hc i pins s σ H E I hf st hg
  subst hP hw hK
  obtain ⟨xs,ys,x,y,ha,hb,hx,hy⟩:=hg
  obtain ⟨us,ru,pu⟩:=Sq.get I ha
  obtain ⟨vs,rv,pv'⟩:=Sq.get I hb
  obtain ⟨ux,eux,rux⟩:=ru.get hx
  obtain ⟨vy,evy,rvy⟩:=rv.get hy
  have fa:=off I hf ha
  have fb:=off I hf hb
  have hh:X.A.in1.handled=none:=I.ok.hd hc
  have l1:i < us.toArray.size:=by simpa using (bh2.mp eux).1
  have l2:i < vs.toArray.size:=by simpa using (bh2.mp evy).1
  have fa':a ≠ i1:=fun q=>fa (by rw [q]; simp)
  have fb':b ≠ i2:=fun q=>fb (by rw [q]; simp)
  have D1:=gO.draws t1 (prog:=X.prog) (w:=X.w) hh i1 a fa' us.toArray
  have D2:=gO.draws t2 (prog:=X.prog) (w:=X.w) hh i2 b fb' vs.toArray
  refine Zp.item D1 D2 (ap fa fb) l1 l2 ⟨st.zz,st.ti,st.to_,⟨st.s1,pu⟩,⟨st.s2,pv'⟩⟩ fun p q h' tk hp hq st' pr kp sz=>⟨_,rfl,?_⟩
  obtain rfl:p=ux:=by
   have:us.toArray[i]? = some ux:=by simpa using eux
   rw [this] at hp; exact (bj0 hp).symm
  obtain rfl:q=vy:=by
   have:vs.toArray[i]? = some vy:=by simpa using evy
   rw [this] at hq; exact (bj0 hq).symm
  refine wpAny_letOwnedTupleGo_zip (s:={ s with heap:=h',toks:=tk }) st'.zz fun g zz sb=>?_
  have hzl:z < s.heap.objs.size:=bi0 st.zz
  have up:∀ c o,c ≠ z->c ≠ TO->c ≠ i1->c ≠ i2->s.heap.get? c=some o->g.get? c=some o:=fun c o c1 c2 c3 c4 e=>sb.extBut c o c1 (kp c o c1 c2 c3 c4 e)
  have hT:H s.heap.objs.size=none:=I.hok.fresh (bg9 _)
  have prG:IsPair g s.heap.objs.size p q:=sb.extBut _ _ (bp6 hzl) pr
  have fpn:∀ c u,H c=some u->c ∉ [z,TI,TO,i1,i2]:=fun c u e hm=>by rw [(hf c hm).1] at e; cases e
  have upH:∀ c o u,H c=some u->s.heap.get? c=some o->g.get? c=some o:=fun c o u e z=>by
   have:=fpn c u e
   simp only [bg8,bi6,bm1,not_or] at this
   exact up c o this.1 this.2.2.1 this.2.2.2.1 this.2.2.2.2 z
  have ns:∀ m,s.heap.Ns X.env.locals m->g.Ns X.env.locals m:=fun m hm=>by
   obtain ⟨o,es,ep,e1,e2⟩:=hm
   exact⟨o,es,ep,up _ o (Ne.symm (hf z (by simp)).2.1) (Ne.symm (hf TO (by simp)).2.1) (Ne.symm (hf i1 (by simp)).2.1) (Ne.symm (hf i2 (by simp)).2.1) e1,e2⟩
  have I2:a6 X pins σ (upd H s.heap.objs.size (.tup [x,y])) { s with heap:=g,toks:=tk }:=by
   refine I.step (g':=s.gens) (d':=s.drawn) (ch:=[z,TO,i1,i2]) (fun c hc'=>?_) (fun c o _ _ hc' e _=>?_) (fun c o _ _ hc' e _=>⟨o.slots,?_⟩) (fun c o _ e n=>?_) (fun c o hc' e=>⟨o,?_⟩)
    (fun c zs e=>by rw [aY (cI e hT)]; exact e) (fun c u zs e=>by rw [aY (cI e hT)]; exact e) (fun c ps e=>⟨#[],by rw [aY (cI e hT),e]; simp⟩) ns (fun c u e=>?_) I.bare
   ·have hm:c ∈ [z,TI,TO,i1,i2]:=by
     simp only [bg8,bi6,bm1] at hc' ⊢
     rcases hc' with h | h | h | h <;> simp [h]
    exact⟨(hf c hm).2.2.2.1,(hf c hm).2.1,(hf c hm).2.2.2.2.1,(hf c hm).2.2.2.2.2⟩
   ·simp only [bg8,bi6,bm1,not_or] at hc'
    exact up c o hc'.1 hc'.2.1 hc'.2.2.1 hc'.2.2.2 e
   ·simp only [bg8,bi6,bm1,not_or] at hc'
    exact up c o hc'.1 hc'.2.1 hc'.2.2.1 hc'.2.2.2 e
   ·rw [aY (bk6 (bi0 e))]; exact n
   ·simp only [bg8,bi6,bm1,not_or] at hc'
    exact up c o hc'.1 hc'.2.1 hc'.2.2.1 hc'.2.2.2 e
   ·by_cases hcT:c=s.heap.objs.size
    ·subst hcT
     rw [bL] at e; cases e
     exact⟨by show 2<=sizeLine; decide,[p,q],.cons rux (.cons rvy .nil),⟨_,prG,rfl,_,rfl⟩,fun u e=>by rw [prG] at e; cases e; rfl⟩
    ·rw [aY hcT] at e
     refine (I.hok c u e).stay (fun c' o' hc2 q'=>?_) (fun c' q'=>by rw [aY (cI q' hT)]; exact q') fun c' zs q'=>by rw [aY (cI q' hT)]; exact q'
     rcases hc2 with rfl | hc2
     ·exact upH _ _ _ e q'
     ·exact upH _ _ _ hc2 q'
  obtain ⟨x',y',to'⟩:=st'.to_
  refine⟨.ref s.heap.objs.size,_,I2,rfl,⟨_,x,y,hT,rfl,rfl,fun xs' ys' ha' hb'=>?_⟩,⟨zz,sb.extBut _ _ n1.symm st'.ti,⟨x',y',sb.extBut _ _ n2.symm to'⟩,st'.s1.1.at fun o e=>sb.extBut _ o n3.symm e,st'.s2.1.at fun o e=>sb.extBut _ o n4.symm e⟩,fun c hc'=>?_⟩
  ·rw [Sq.inj I ha' ha,Sq.inj I hb' hb]; exact⟨hx,hy⟩
  ·obtain ⟨o,e,_⟩:∃ o,s.heap.get? c=some o/\True:=by
    simp only [bg8,bi6,bm1] at hc'
    obtain ⟨x2,y2,to2⟩:=st.to_
    obtain ⟨o1,f1,_⟩:=st.s1.ob
    obtain ⟨o2,f2,_⟩:=st.s2.ob
    rcases hc' with rfl | rfl | rfl | rfl | rfl
    ·exact⟨_,st.zz,trivial⟩
    ·exact⟨_,st.ti,trivial⟩
    ·exact⟨_,to2,trivial⟩
    ·exact⟨_,f1,trivial⟩
    ·exact⟨_,f2,trivial⟩
   rw [aY (bk6 (bi0 e))]; exact (hf c hc').1
 ·
  intro X hP hw hK hc i pins s σ H E I hf st hg
  subst hP hw hK
  obtain ⟨xs,ys,ha,hb,hi⟩:=hg
  obtain ⟨us,ru,pu⟩:=Sq.get I ha
  obtain ⟨vs,rv,pv'⟩:=Sq.get I hb
  have fa:=off I hf ha
  have fb:=off I hf hb
  have hh:X.A.in1.handled=none:=I.ok.hd hc
  have fa':a ≠ i1:=fun q=>fa (by rw [q]; simp)
  have fb':b ≠ i2:=fun q=>fb (by rw [q]; simp)
  have D1:=gO.draws t1 (prog:=X.prog) (w:=X.w) hh i1 a fa' us.toArray
  have D2:=gO.draws t2 (prog:=X.prog) (w:=X.w) hh i2 b fb' vs.toArray
  have e1:=ru.length
  have e2:=rv.length
  refine Zp.fin D1 D2 (ap fa fb) (by simp only [bh0]; omega) ⟨st.zz,st.ti,st.to_,⟨st.s1,pu⟩,⟨st.s2,pv'⟩⟩ fun g tk kp=>⟨rfl,?_⟩
  have fpn:∀ c u,H c=some u->c ∉ [z,TI,TO,i1,i2]:=fun c u e hm=>by rw [(hf c hm).1] at e; cases e
  have upH:∀ c o u,H c=some u->s.heap.get? c=some o->g.get? c=some o:=fun c o u e z=>by
   have:=fpn c u e
   simp only [bg8,bi6,bm1,not_or] at this
   exact kp c o this.1 this.2.2.1 this.2.2.2.1 this.2.2.2.2 z
  have ns:∀ m,s.heap.Ns X.env.locals m->g.Ns X.env.locals m:=fun m hm=>by
   obtain ⟨o,es,ep,e1,e2⟩:=hm
   exact⟨o,es,ep,kp _ o (Ne.symm (hf z (by simp)).2.1) (Ne.symm (hf TO (by simp)).2.1) (Ne.symm (hf i1 (by simp)).2.1) (Ne.symm (hf i2 (by simp)).2.1) e1,e2⟩
  refine I.step (g':=s.gens) (d':=s.drawn) (ch:=[z,TO,i1,i2]) (fun c hc'=>?_) (fun c o _ _ hc' e _=>?_) (fun c o _ _ hc' e _=>⟨o.slots,?_⟩) (fun c o _ e n=>n) (fun c o hc' e=>⟨o,?_⟩)
   (fun c zs e=>e) (fun c u zs e=>e) (fun c ps e=>⟨#[],by rw [e]; simp⟩) ns (fun c u e=>?_) I.bare
  ·have hm:c ∈ [z,TI,TO,i1,i2]:=by
    simp only [bg8,bi6,bm1] at hc' ⊢
    rcases hc' with h | h | h | h <;> simp [h]
   exact⟨(hf c hm).2.2.2.1,(hf c hm).2.1,(hf c hm).2.2.2.2.1,(hf c hm).2.2.2.2.2⟩
  ·simp only [bg8,bi6,bm1,not_or] at hc'
   exact kp c o hc'.1 hc'.2.1 hc'.2.2.1 hc'.2.2.2 e
  ·simp only [bg8,bi6,bm1,not_or] at hc'
   exact kp c o hc'.1 hc'.2.1 hc'.2.2.1 hc'.2.2.2 e
  ·simp only [bg8,bi6,bm1,not_or] at hc'
   exact kp c o hc'.1 hc'.2.1 hc'.2.2.1 hc'.2.2.2 e
  ·refine (I.hok c u e).stay (fun c' o' hc2 q'=>?_) (fun _ q'=>q') fun _ _ q'=>q'
   rcases hc2 with rfl | hc2
   ·exact upH _ _ _ e q'
   ·exact upH _ _ _ hc2 q'
noncomputable abbrev ax4:=vM true true
theorem ax5 {P:Program}{w:World}{K:PySem.W.Frag}{elts:List Expr}{k:Nat}{pos:Pos} (a b z TI TO i1 i2:Addr) (d : [z,TI,TO,i1,i2].Nodup) :
  iH P w K (.Tuple elts k pos) (vL K a b) [z,TI,TO,i1,i2] z (ax4 z TI TO i1 i2 a b):=M3 true true a b z TI TO i1 i2 d
section
variable {X : Cx}
noncomputable def ax6 (K:PySem.W.Frag) (ta:TA):TI:=fun σ H R=>ta σ H fun vs H1=>∃ a b xs ys,vs = [.ref a,.ref b]/\aQ K H1 a xs/\aQ K H1 b ys/\R (vL K a b) H1
theorem ax7 {elts:List Expr}{kt:Nat}{pt:Pos}{a b:Expr}{ta:TA}{p pos:Pos} (hg:Gl X "zip") (hm:X.mg "zip" = none) (ha:PA X [a,b] ta) (hs:starEach [a,b] X.env = [(false,eval a X.env),(false,eval b X.env)]:=by rfl) (hs2:starEach [b] X.env = [(false,eval b X.env)]:=by rfl) :
  PI X (.Tuple elts kt pt) (.Call (.Name "zip" p) [a,b] [] pos) (ax6 X.K ta):=by
 intro pins s σ H R I h
 refine Call_ (jL I hg hm PyProof.Rows.boot_zip (bn0 (aN (ha pos pins s σ H _ I h) fun us s1 ⟨vs,H1,I1,r1,q1⟩=>?_) (by rw [hs,hs2]) (by rw [hs2]; rfl)))
 obtain ⟨a',b',xs,ys,e,h1,h2,q⟩:=q1
 subst e
 cases r1 with
 | cons r rr=>
  cases rr with
  | cons r' rr=>
   cases rr
   cases r
   cases r'
   obtain ⟨us,_,p1,_⟩:=I1.tuple h1
   obtain ⟨ws,_,p2,_⟩:=I1.tuple h2
   refine Zp.ax2 p1 p2 fun h' z ti to s1' s2' kp=>wpAny_pyIter_zip z ?_
   have fresh:∀ k,H1 (s1.heap.objs.size+k)=none:=fun k=>I1.hok.fresh (bn3 _ _)
   refine⟨s1.heap.objs.size+4,[s1.heap.objs.size+4,s1.heap.objs.size+2,s1.heap.objs.size+3,s1.heap.objs.size,s1.heap.objs.size+1],_,_,H1,rfl,I1.kept (t':=s1.toks) kp,
    ax5 a' b' _ _ _ _ _ (by simp),⟨z,ti,⟨_,_,to⟩,s1',s2'⟩,fun c hc=>?_,q⟩
   simp only [bg8,bi6,bm1] at hc
   rcases hc with rfl | rfl | rfl | rfl | rfl
   ·exact I1.fpOk (bn3 _ _) (fresh 4)
   ·exact I1.fpOk (bn3 _ _) (fresh 2)
   ·exact I1.fpOk (bn3 _ _) (fresh 3)
   ·exact I1.fpOk (bg9 _) (fresh 0)
   ·exact I1.fpOk (bn3 _ _) (fresh 1)
theorem vN (hc:X.calm=true):dQ X (.builtin "all") (fun xs H Q=>∃ (a:Addr) (bs:List Bool),xs = [.ref a]/\aK X.K H a (bs.map V.bl)/\Q (.bl (bs.all id)) H):=by
 intro pins s σ H xs us Q I r h
 obtain ⟨a,bs,rfl,hq,q⟩:=h
 obtain ⟨u,rfl,ru⟩:=jA r
 cases ru
 obtain ⟨its,rv,p,hz⟩:=I.list hq
 have hl:=rv.length
 rw [bg5] at hl
 have hlt:a < s.heap.objs.size:=by obtain ⟨o,e,_⟩:=p.isList; exact bi0 e
 refine call_all_walk (wpAny_pyIter_list p.isList ?_)
 have hh:X.A.in1.handled=none:=I.ok.hd hc
 refine⟨s.heap.objs.size,_,_,_,_,_,fun i=>bs.getD i false,rfl,Walks.list hh s.heap.objs.size a (bk6 hlt) its.toArray,⟨⟨_,bi8 _ rfl,rfl,rfl⟩,p.isList.push _⟩,?_,fun h' tk kp=>?_⟩
 ·intro i v s' Q' E' hP hQ'
  have hi:its[i]? = some v:=by simpa using hP
  have hil:i < bs.length:=by rw [hl]; exact (bh2.mp hi).1
  obtain ⟨u,e1,e2⟩:=rv.get (i:=i) (x:=.bl bs[i]) (by simp [hil])
  rw [hi] at e1; cases e1
  cases e2
  have:bs.getD i false=bs[i]:=by rw [bi1,bg3 hil]; rfl
  have hQ2:Q' (bs.getD i false) s':=hQ'
  rw [this] at hQ2
  exact bw0 hQ2
 ·have all_eq:(List.range its.toArray.size).all (fun i=>bs.getD i false)=bs.all id:=by
   rw [bh0,<- hl]
   clear q rv hz hl hq hlt p hh kp
   induction bs with
   | nil=>rfl
   | cons b r ih=>
    rw [bi9,List.range_succ_eq_map,bu5,List.all_map,bu5,<- ih]
    rfl
  rw [all_eq]
  refine⟨.bl (bs.all id),H,I.kept (t':=tk) (h':=h') fun b o e=>kp b o (fun z=>?_) (bg1 _ e),rfl,q⟩
  rw [bh1.mp z] at e
  exact absurd (bi0 e) (bo5 _)
end
structure vO (H:Hp) (J:It) (n:Nat) (R:Nat->V->Hp->Prop):Prop where
 go:∀ i H',aD H H'->i < n->J.go i H'
 yld:∀ i H' x H2,aD H H'->J.yld i H' x H2->i < n->aD H' H2/\R i x H2
 stop:∀ H',aD H H'->J.stop n H'
theorem vP {H1:Hp}{J:It}{n:Nat}{R:Nat->V->Hp->Prop}{g:TG}{tc:TT}{te:TE}{σ0:St}{Q:VK} (O:vO H1 J n R) (Pv:Nat->List V->Hp->Prop) (hn:n<=sizeLine)
  (h0:∀ D,H1 D=none->Pv 0 [] (upd H1 D (.lst [])))
  (mono:∀ i acc H' H2,aD H' H2->Pv i acc H'->Pv i acc H2)
  (hs:∀ i x acc D H',i < n->R i x H'->qY H1 D n i acc H'->Pv i acc H'->g x σ0 H' fun σ2 H3=>Wk σ0 σ2/\tc σ2 H3 fun b H4=>
   if b=true then te σ2 H4 fun v H5=>vH H1 D n Pv i acc v H5 else K6 H1 D n Pv i acc H4)
  (hd:∀ D acc H',H1 D=none->aD H1 H'->H' D=some (.lst acc)->acc.length<=n->Pv n acc H'->Q (.ref D) H') :
  ∀ D,H1 D=none->∃ W:Nat->Nat->List V->Hp->Prop,(∃ m,W 0 m [] (upd H1 D (.lst [])))/\oI g tc te σ0 J D Q W:=by
 intro D hD
 refine⟨CW H1 D n Pv,⟨n,rfl,bl0 _,bg9 _,bN hD _,bL,h0 D hD⟩,?_⟩
 rintro i m acc H' ⟨rfl,hi,ha,sm,hDa,p⟩
 refine⟨hDa,?_⟩
 by_cases hlt:i < n
 ·refine .inr ⟨O.go i H' sm hlt,fun x H2 y=>?_⟩
  obtain ⟨s2,r2⟩:=O.yld i H' x H2 sm y hlt
  exact hs i x acc D H2 hlt r2 ⟨hlt,ha,hn,sm.trans s2,hD,s2 _ _ hDa⟩ (mono i acc H' H2 s2 p)
 ·have e:i=n:=by omega
  subst e
  exact .inl ⟨O.stop H' sm,hd D acc H' hD sm hDa ha p⟩
theorem M4 {K:PySem.W.Frag}{H:Hp}{a b:Addr}{xs ys:List V} (ha:aQ K H a xs) (hb:aQ K H b ys) (hl:ys.length<=xs.length) :
  vO H (vL K a b) ys.length (fun i v H2=>∃ T x y,v = .ref T/\H2 T=some (.tup [x,y])/\xs[i]? = some x/\ys[i]? = some y):=by
 refine⟨fun i H' sm hi=>⟨xs,ys,xs[i]'(by omega),ys[i],sm.tup ha,sm.tup hb,by simp,by simp⟩,fun i H' v H2 sm y hi=>?_,fun H' sm=>⟨xs,ys,sm.tup ha,sm.tup hb,by omega⟩⟩
 obtain ⟨T,x,y',hT,hv,e,hxy⟩:=y
 subst e
 obtain ⟨h1,h2⟩:=hxy xs ys (sm.tup ha) (sm.tup hb)
 exact⟨bN hT _,T,x,y',hv,bL,h1,h2⟩
end L2
namespace HT
open PySem PyProof.Rows
section
variable {prog : Program} {w : World} {A : Around} {E : Value → Shared → Prop} {s : Shared}
theorem ax8 {t sl:Addr}{items:Array Value}{vl vu:Value}{lo hi:Option Int}{Q:Value->Shared->Prop} (ht:IsTup s.heap t items) (hs:s.heap.IsSliceOf sl vl vu .none) (pl:IsPart vl lo) (pu:IsPart vu hi)
  (h1:b6 items.size 0 lo=0) (h2:b6 items.size items.size hi=items.size) (h:Q (.ref t) s):wpAny (model prog w) A (getItem (.ref t) (.ref sl)) Q E s:=by
 obtain ⟨o,e1,e2,e3⟩:=id hs
 have T:s.TypeIs (.ref sl) "slice":=⟨o,e1,e2⟩
 unfold getItem
 try with_reducible refine br0 ?_
 first | refine bg0 (bh3 ?_) | skip
 apply bg0
 apply wpAny_sequenceKey ht.typeIs (by decide)
 apply bg0
 apply bn9 (name:=Str.ofString "__getitem__") ht.typeIs bs8
 apply bo2 bs8 ht.typeIs entry_tuple_getitem _ (args_tuple_getitem _ _)
 change wpAny _ _ (Builtin.Tuple.tupleItemsOf (.ref t) >>= _) _ _ s
 apply bg0
 apply tupleItemsOf_ ht
 apply bg0
 apply wpAny_typeOf T
 rw [if_pos (by decide)]
 apply bg0
 apply E3 hs pl pu
 rw [h1,h2]
 have yes:((((0:Nat):Int) == 0 && (1:Int) == 1 && (items.size - 0) == items.size)=true):=by simp
 change wpAny _ _ (if ((((0:Nat):Int) == 0 && (1:Int) == 1 && (items.size - 0) == items.size)=true) then _ else _) _ _ s
 rw [if_pos yes]
 apply bg0
 unfold Builtin.Tuple.tupleIsExact
 apply bg0
 apply wpAny_typeOf ht.typeIs
 apply bh3
 change wpAny _ _ (rule "tuple.getitem.whole" >>= fun _=>ret (Value.ref t)) _ _ s
 apply bg0
 apply bt0
 exact bh3 ⟨_,rfl,bh3 h⟩
end
end HT
namespace L2
open PySem PySem.Spec PyProof.Rows
section
variable {X : Cx}
noncomputable def ax9 (K:PySem.W.Frag):V->Option Int->Option Int->Hp->VK->Prop:=fun x lo hi H Q=>∃ a xs,x = .ref a/\aQ K H a xs/\(∀ p,H p=none->Q (.ref p) (upd H p (.tup (e9 xs lo hi))))/\(e9 xs lo hi=xs->Q (.ref a) H)
theorem M5:kM X (ax9 X.K):=by
 intro pins s σ H x v vl vu lo hi sl Q I rx hs pl pu h
 obtain ⟨a,xs,ex,hx,q1,q2⟩:=h
 by_cases hw:HT.b6 xs.length 0 lo=0/\HT.b6 xs.length xs.length hi=xs.length
 ·subst ex
  cases rx
  obtain ⟨its,r,ht,hz⟩:=I.tuple hx
  have hlen:its.toArray.size=xs.length:=by rw [bh0]; exact r.length.symm
  refine⟨"tuple",_,PyProof.Rows.slot_tuple_getitem.lookup,ht.typeIs,?_⟩
  refine HT.ax8 ht hs pl pu (by rw [hlen]; exact hw.1) (by rw [hlen]; exact hw.2) ⟨.ref a,H,I,rfl,q2 ?_⟩
  unfold e9
  rw [hw.1,hw.2]
  simp
 ·exact ar9 pins s σ H x v vl vu lo hi sl Q I rx hs pl pu ⟨a,xs,ex,hx,hw,q1⟩
end
theorem vQ (xs:List V):e9 xs (some 1) none=xs.drop 1:=by
 unfold e9
 have e1:HT.b6 xs.length 0 (some 1)=min 1 xs.length:=HT.ar0 xs.length 0 1
 have e2:HT.b6 xs.length xs.length none=xs.length:=rfl
 rw [e1,e2]
 cases xs with
 | nil=>rfl
 | cons x r=>
  have:min 1 (x :: r).length=1:=by simp
  rw [this]
  simp
noncomputable def vR (K:PySem.W.Frag) (a b:Addr):It:=
  ⟨fun i H=>∃ xs ys x y,aK K H a xs/\aK K H b ys/\xs[i]? = some x/\ys[i]? = some y,
   fun i H v H'=>∃ T x y,H T=none/\v = .ref T/\H'=upd H T (.tup [x,y])/\∀ xs ys,aK K H a xs->aK K H b ys->xs[i]? = some x/\ys[i]? = some y,
   fun i H=>∃ xs ys,aK K H a xs/\aK K H b ys/\(i=xs.length ∨ (i < xs.length/\i=ys.length))⟩
noncomputable abbrev ay0:=vM false false
theorem ay1 {P:Program}{w:World}{K:PySem.W.Frag}{elts:List Expr}{k:Nat}{pos:Pos} (a b z TI TO i1 i2:Addr) (d : [z,TI,TO,i1,i2].Nodup) :
  iH P w K (.Tuple elts k pos) (vR K a b) [z,TI,TO,i1,i2] z (ay0 z TI TO i1 i2 a b):=M3 false false a b z TI TO i1 i2 d
section
variable {X : Cx}
noncomputable def ay2 (K:PySem.W.Frag) (ta:TA):TI:=fun σ H R=>ta σ H fun vs H1=>∃ a b xs ys,vs = [.ref a,.ref b]/\aK K H1 a xs/\aK K H1 b ys/\R (vR K a b) H1
theorem ay3 {elts:List Expr}{kt:Nat}{pt:Pos}{a b:Expr}{ta:TA}{p pos:Pos} (hg:Gl X "zip") (hm:X.mg "zip" = none) (ha:PA X [a,b] ta) (hs:starEach [a,b] X.env = [(false,eval a X.env),(false,eval b X.env)]:=by rfl) (hs2:starEach [b] X.env = [(false,eval b X.env)]:=by rfl) :
  PI X (.Tuple elts kt pt) (.Call (.Name "zip" p) [a,b] [] pos) (ay2 X.K ta):=by
 intro pins s σ H R I h
 refine Call_ (jL I hg hm PyProof.Rows.boot_zip (bn0 (aN (ha pos pins s σ H _ I h) fun us s1 ⟨vs,H1,I1,r1,q1⟩=>?_) (by rw [hs,hs2]) (by rw [hs2]; rfl)))
 obtain ⟨a',b',xs,ys,e,h1,h2,q⟩:=q1
 subst e
 cases r1 with
 | cons r rr=>
  cases rr with
  | cons r' rr=>
   cases rr
   cases r
   cases r'
   obtain ⟨us,_,p1,_⟩:=I1.list h1
   obtain ⟨ws,_,p2,_⟩:=I1.list h2
   refine call_zip_2 p1.isList p2.isList fun h' z ti to s1' s2' _ kp=>wpAny_pyIter_zip z ?_
   have fresh:∀ k,H1 (s1.heap.objs.size+k)=none:=fun k=>I1.hok.fresh (bn3 _ _)
   refine⟨s1.heap.objs.size+4,[s1.heap.objs.size+4,s1.heap.objs.size+2,s1.heap.objs.size+3,s1.heap.objs.size,s1.heap.objs.size+1],_,_,H1,rfl,I1.kept (t':=s1.toks) kp,
    ay1 a' b' _ _ _ _ _ (by simp),⟨z,ti,⟨_,_,to⟩,s1',s2'⟩,fun c hc=>?_,q⟩
   simp only [bg8,bi6,bm1] at hc
   rcases hc with rfl | rfl | rfl | rfl | rfl
   ·exact I1.fpOk (bn3 _ _) (fresh 4)
   ·exact I1.fpOk (bn3 _ _) (fresh 2)
   ·exact I1.fpOk (bn3 _ _) (fresh 3)
   ·exact I1.fpOk (bg9 _) (fresh 0)
   ·exact I1.fpOk (bn3 _ _) (fresh 1)
end
theorem ay4 {K:PySem.W.Frag}{H:Hp}{a b:Addr}{xs ys:List V} (ha:aK K H a xs) (hb:aK K H b ys) (hl:ys.length<=xs.length) :
  vO H (vR K a b) ys.length (fun i v H2=>∃ T x y,v = .ref T/\H2 T=some (.tup [x,y])/\xs[i]? = some x/\ys[i]? = some y):=by
 refine⟨fun i H' sm hi=>⟨xs,ys,xs[i]'(by omega),ys[i],sm.seq ha,sm.seq hb,by simp,by simp⟩,fun i H' v H2 sm y hi=>?_,fun H' sm=>⟨xs,ys,sm.seq ha,sm.seq hb,by omega⟩⟩
 obtain ⟨T,x,y',hT,hv,e,hxy⟩:=y
 subst e
 obtain ⟨h1,h2⟩:=hxy xs ys (sm.seq ha) (sm.seq hb)
 exact⟨bN hT _,T,x,y',hv,bL,h1,h2⟩
section
variable {X : Cx} {pins : List (Addr × Obj)} {σ : St} {H : Hp} {s : Shared} {a b : Addr} {A : Around} {E : Value → Shared → Prop}
theorem ay5 {kvs more:List (aB × V)}{Q:Value->Shared->Prop} (I:a6 X pins σ H s) (ea:H a=some (.dK kvs)) (eb:H b=some (.dK more)) (hne:a ≠ b) (hl:kvs.length+more.length<=sizeLine)
  (h:∀ s',a6 X pins σ (upd H a (.dK (jC kvs more))) s'->Q .none s'):wpAny (model X.prog X.w) A (call (.builtin "dict.update") [.ref a,.ref b]) Q E s:=by
 obtain ⟨z,hd,vs,rel,dd⟩:=qM I.hok ea
 obtain ⟨z2,hd2,rs,rel2,dd2⟩:=qM I.hok eb
 have l1:=rel.length
 have l2:=rel2.length
 refine call_meetsIn PySem.F.slot_dict_update dd.typeIs PySem.F.entry_dict_update (PySem.F.args_dict_update_2 _ _) (meets_dict_update (e8 X.prog X.w) a b hne hd2) ⟨vs,rs,dd,dd2,by omega,fun h' dd' _ hs=>h _ ?_⟩
 have he:∃ q,h'.get? a=some q:=let ⟨q,_,_,hq,_⟩:=dd'; ⟨q,hq⟩
 refine qN I (by rw [ea]; exact True.intro) hs he (v5 ?_ hd (rel2.merge rel) dd')
 have:=v7 more kvs
 omega
end
noncomputable def M6 (td ty:TE):TE:=fun σ H Q=>td σ H fun x H1=>∃ a,x = .ref a/\v8 H1 a/\ty σ H1 fun y H2=>∃ (b:Addr) (kvs more:List (aB × V)),y = .ref b/\a ≠ b/\H2 a=some (.dK kvs)/\H2 b=some (.dK more)/\kvs.length+more.length<=sizeLine/\Q .non (upd H2 a (.dK (jC kvs more)))
section
variable {X : Cx} {o e : Expr} {apos cpos : Pos} {td ty : TE}
theorem ay6 (ho:PE X o td) (he:PE X e ty) (m:M1 X o "update" apos e cpos):PE X (.Call (.Attribute o "update" apos) [e] [] cpos) (M6 td ty):=by
 intro pins s σ H Q I h
 refine wpAny_Call_method m.base m.few m.line PySem.F.plainAttrs_dict PySem.F.slot_dict_update PySem.F.type_dict_update (aN (ho pins s σ H _ I h) fun u s1 ⟨x,H1,I1,rx,a,ex,d,q1⟩=>?_)
 subst ex
 obtain rfl:u=Value.ref a:=rx
 obtain ⟨t1,t2,_⟩:=J5 I1 d
 refine⟨t1,t2,?_⟩
 rw [m.trees]
 refine Calls.callWith_builtin rfl (Calls.evalArgs_plain (Calls.spliced_cons (aN (he pins s1 σ H1 _ I1 q1) fun iv s2 ⟨y,H2,I2,ry,b,kvs,more,ey,ne,ea,eb,l,q2⟩=>Calls.spliced_nil ?_)))
 subst ey
 obtain rfl:iv=Value.ref b:=ry
 exact ay5 I2 ea eb ne l fun s3 I3=>⟨.non,_,I3,rfl,q2⟩
end
theorem ay7 (l:Addr) (items:Array Value) (n:Nat) (b:Addr) (items2:Array Value) (n2:Nat) (dd:Option Addr) (ss:Array (Option Value)) (h0 : ¬(!items.isEmpty && Builtin.List.listTooLong (items.size+items2.size))=true) (h1:items.size<=sizeLine) (h2:items.size+items2.size<=sizeLine+1) :
  Meets (Builtin.«list.extend» ⟨[.ref l,.ref b],[]⟩) (fun _ R s=>s.heap.get? l=some { cls:=.type "list",dict:=none,data:=.seq items n,slots:=#[] }/\s.heap.get? b=some { cls:=.type "tuple",dict:=dd,data:=.seq items2 n2,slots:=ss }/\R (.ok (.ret Value.none)) { s with heap:=s.heap.update l (Obj.mapSeq fun x=>x ++ items2),toks:=s.toks }):=
 .of_wp fun prog w A R s h=>by
  obtain ⟨hp,g,d,tk,os⟩:=s; obtain ⟨hl,hb,h⟩:=h; have f2:=AutoSeq1.sub_tuple_tuple; have f3:=AutoSeq1.sub_list_list; have f4:=AutoSeq1.sub_tuple_list; have f5:=AutoSeq1.sub_list_tuple
  have hz':(items ++ items2).size<=sizeLine+1:=by rw [Array.size_append]; exact h2
  wp_walk using (wpAny_updateSeq hl rfl (hz:=h1) (_hz':=hz')),AutoSeq1.wpAny_loadPart' hl,AutoSeq1.wpAny_loadPart' hb
  exact⟨_,rfl,h⟩
noncomputable def M7 (K:PySem.W.Frag):V->List V->Hp->VK->Prop:=fun x vs H Q=>∃ (l b:Addr) (xs zs:List V),x = .ref l/\vs = [.ref b]/\H l=some (.lst xs)/\aQ K H b zs/\xs.length+zs.length<=sizeLine/\Q .non (upd H l (.lst (xs ++ zs)))
theorem ay8 {X:Cx}:mK X "list.extend" (M7 X.K):=by
 intro pins s σ H x vs v us Q I rx rv h
 obtain ⟨l,b,xs,zs,rfl,rfl,hH,hB,hz,q⟩:=h
 cases rx
 obtain ⟨u,rfl,ru⟩:=rv.one
 cases ru
 obtain ⟨z,its,n,r,hl,e⟩:=I.lstM hH
 obtain ⟨its2,r2,⟨⟨cls,dd,data,ss⟩,e2,hc,n2,hd⟩,z2⟩:=I.tuple hB
 cases hc
 cases hd
 have hl2:=r2.length
 have hsz:its.toArray.size+its2.toArray.size<=sizeLine:=by rw [bh0,bh0]; omega
 have hlong : ¬ (!its.toArray.isEmpty && Builtin.List.listTooLong (its.toArray.size+its2.toArray.size))=true:=by
  rw [uZ hsz,bv2]
  exact bi5
 refine call_meets F.slot_list_extend ⟨_,e,rfl⟩ F.entry_list_extend (F.args_list_extend_2 _ _)
  (ay7 l its.toArray n b its2.toArray n2 dd ss hlong (by rw [bh0]; omega) (by omega)) ⟨e,e2,?_⟩
 refine⟨.non,_,I.lset (its':=its ++ its2) hH e (by simp) (r.append r2) ?_,rfl,q⟩
 rw [bh6]
 omega
end L2
namespace PP
open PySem L2
inductive PV where
 | non | bl (b:Bool) | int (i:Int) | str (x:Str) | tup (xs:List PV) | lst (xs:List PV)
 | dK (kvs:List (aB × PV)) | dT (kvs:List (List aB × PV)) | scr (ns:List Int) | kt (xs:List PV) | exc (c:Str) | fK (kvs:List (aB × PV)) | fT (kvs:List (List aB × PV))
mutual
noncomputable def flat:PV->Bool
 | .tup xs=>flats xs
 | .lst _=>false
 | .dK _=>false
 | .dT _=>false
 | .non=>true
 | .bl _=>true
 | .int _=>true
 | .str _=>true
 | .scr _=>true
 | .kt xs=>flats xs
 | .exc _=>true
 | .fK _=>false
 | .fT _=>false
noncomputable def flats:List PV->Bool
 | []=>true
 | x :: r=>flat x && flats r
end
noncomputable def jT (K:PySem.W.Frag) (H:Hp) (a:Addr) (ns:List Int):Prop:=(∃ o,H a=some (.frz o (.lst (ns.map V.int)))) ∨
  ∃ (o:Obj) (its:Array Value) (n:Nat),K.lookup a=some o/\o.cls = .type "list"/\o.dict=none/\o.data = .seq its n/\its.size<=sizeLine/\aM (ns.map V.int) its.toList
noncomputable def mT (K:PySem.W.Frag) (a:Addr) (us:List V):Prop:=∃ (o:Obj) (its:Array Value) (n:Nat),K.lookup a=some o/\o.cls = .type "tuple"/\o.data = .seq its n/\its.size<=sizeLine/\aM us its.toList
mutual
inductive aE (K:PySem.W.Frag) (M:Addr->Prop) (H:Hp):V->PV->Prop
 | non:aE K M H .non .non
 | bl (b:Bool):aE K M H (.bl b) (.bl b)
 | int (i:Int):aE K M H (.int i) (.int i)
 | str (x:Str):aE K M H (.str x) (.str x)
 | tup {a:Addr}{us:List V}{xs:List PV}:H a=some (.tup us)->Reps K M H us xs->aE K M H (.ref a) (.tup xs)
 | lst {a:Addr}{us:List V}{xs:List PV}:M a->H a=some (.lst us)->Reps K M H us xs->aE K M H (.ref a) (.lst xs)
 | dK {a:Addr}{kvs:List (aB × V)}{ps:List (aB × PV)}:M a->H a=some (.dK kvs)->kvs.map (·.1)=ps.map (·.1)->Reps K M H (kvs.map (·.2)) (ps.map (·.2))->aE K M H (.ref a) (.dK ps)
 | dT {a:Addr}{kvs:List (List aB × V)}{ps:List (List aB × PV)}:M a->H a=some (.dT kvs)->kvs.map (·.1)=ps.map (·.1)->Reps K M H (kvs.map (·.2)) (ps.map (·.2))->aE K M H (.ref a) (.dT ps)
 | scr {a:Addr}{ns:List Int}:jT K H a ns->aE K M H (.ref a) (.scr ns)
 | kt {a:Addr}{us:List V}{xs:List PV}:mT K a us->Reps K M H us xs->aE K M H (.ref a) (.kt xs)
 | exc {a C:Addr}{o:Obj}{c:Str}:H a=some (.frz o (.own a))->PySem.W.nsIn K mainGlobals c=some (some (.ref C))->o.cls = .ref C->aE K M H (.ref a) (.exc c)
 | fK {a:Addr}{o:Obj}{kvs:List (aB × V)}{ps:List (aB × PV)}:H a=some (.frz o (.dK kvs))->kvs.map (·.1)=ps.map (·.1)->Reps K M H (kvs.map (·.2)) (ps.map (·.2))->aE K M H (.ref a) (.fK ps)
 | fT {a:Addr}{o:Obj}{kvs:List (List aB × V)}{ps:List (List aB × PV)}:H a=some (.frz o (.dT kvs))->kvs.map (·.1)=ps.map (·.1)->Reps K M H (kvs.map (·.2)) (ps.map (·.2))->aE K M H (.ref a) (.fT ps)
inductive Reps (K:PySem.W.Frag) (M:Addr->Prop) (H:Hp):List V->List PV->Prop
 | nil:Reps K M H [] []
 | cons {v:V}{x:PV}{vs:List V}{xs:List PV}:aE K M H v x->Reps K M H vs xs->Reps K M H (v :: vs) (x :: xs)
end
structure iM (M M':Addr->Prop) (H H':Hp):Prop where
 lst:∀ a us,M a->H a=some (.lst us)->M' a/\H' a=some (.lst us)
 dK:∀ a kvs,M a->H a=some (.dK kvs)->M' a/\H' a=some (.dK kvs)
 dT:∀ a kvs,M a->H a=some (.dT kvs)->M' a/\H' a=some (.dT kvs)
 tup:∀ a us,H a=some (.tup us)->H' a=some (.tup us)
 frz:∀ a o u,H a=some (.frz o u)->H' a=some (.frz o u)
theorem jT.keep {K:PySem.W.Frag}{H H':Hp}{a:Addr}{ns:List Int} (k:∀ a o u,H a=some (.frz o u)->H' a=some (.frz o u)) (h:jT K H a ns):jT K H' a ns:=
 h.elim (fun ⟨o,e⟩=>.inl ⟨o,k _ _ _ e⟩) .inr
mutual
theorem aE.keep {K:PySem.W.Frag}{M M':Addr->Prop}{H H':Hp} (k:iM M M' H H'):∀ {v:V}{x:PV},aE K M H v x->aE K M' H' v x
 | _,_,.non=>.non
 | _,_,.bl b=>.bl b
 | _,_,.int i=>.int i
 | _,_,.str x=>.str x
 | _,_,.tup h r=>.tup (k.tup _ _ h) (Reps.keep k r)
 | _,_,.lst m h r=>.lst (k.lst _ _ m h).1 (k.lst _ _ m h).2 (Reps.keep k r)
 | _,_,.dK m h e r=>.dK (k.dK _ _ m h).1 (k.dK _ _ m h).2 e (Reps.keep k r)
 | _,_,.dT m h e r=>.dT (k.dT _ _ m h).1 (k.dT _ _ m h).2 e (Reps.keep k r)
 | _,_,.scr h=>.scr (h.keep k.frz)
 | _,_,.kt h r=>.kt h (Reps.keep k r)
 | _,_,.exc h e c=>.exc (k.frz _ _ _ h) e c
 | _,_,.fK h e r=>.fK (k.frz _ _ _ h) e (Reps.keep k r)
 | _,_,.fT h e r=>.fT (k.frz _ _ _ h) e (Reps.keep k r)
theorem Reps.keep {K:PySem.W.Frag}{M M':Addr->Prop}{H H':Hp} (k:iM M M' H H'):∀ {vs:List V}{xs:List PV},Reps K M H vs xs->Reps K M' H' vs xs
 | _,_,.nil=>.nil
 | _,_,.cons r t=>.cons (aE.keep k r) (Reps.keep k t)
end
mutual
theorem aE.flat {K:PySem.W.Frag}{M M':Addr->Prop}{H:Hp}{v:V}{x:PV} (f:flat x=true) (r:aE K M H v x):aE K M' H v x:=by
 cases r with
 | non=>exact .non
 | bl b=>exact .bl b
 | int i=>exact .int i
 | str x=>exact .str x
 | tup h r=>exact .tup h (Reps.flat (by unfold PP.flat at f; exact f) r)
 | lst m h r=>unfold PP.flat at f; cases f
 | dK m h e r=>unfold PP.flat at f; cases f
 | dT m h e r=>unfold PP.flat at f; cases f
 | scr h=>exact .scr h
 | kt h r=>exact .kt h (Reps.flat (by unfold PP.flat at f; exact f) r)
 | exc h e c=>exact .exc h e c
 | fK h e r=>unfold PP.flat at f; cases f
 | fT h e r=>unfold PP.flat at f; cases f
theorem Reps.flat {K:PySem.W.Frag}{M M':Addr->Prop}{H:Hp}{vs:List V}{xs:List PV} (f:flats xs=true) (r:Reps K M H vs xs):Reps K M' H vs xs:=by
 cases r with
 | nil=>exact .nil
 | cons r t=>
  unfold PP.flats at f
  rw [bj9] at f
  exact .cons (aE.flat f.1 r) (Reps.flat f.2 t)
end
theorem iM.same {M M':Addr->Prop}{H H':Hp} (s:aD H H') (m:∀ a,M a->M' a):iM M M' H H':=
 ⟨fun a _ h e=>⟨m a h,s _ _ e⟩,fun a _ h e=>⟨m a h,s _ _ e⟩,fun a _ h e=>⟨m a h,s _ _ e⟩,fun _ _ e=>s _ _ e,fun _ _ _ e=>s _ _ e⟩
theorem aE.same {K:PySem.W.Frag}{M M':Addr->Prop}{H H':Hp}{v:V}{x:PV} (r:aE K M H v x) (s:aD H H') (m:∀ a,M a->M' a):aE K M' H' v x:=r.keep (.same s m)
theorem Reps.same {K:PySem.W.Frag}{M M':Addr->Prop}{H H':Hp}{v:List V}{x:List PV} (r:Reps K M H v x) (s:aD H H') (m:∀ a,M a->M' a):Reps K M' H' v x:=r.keep (.same s m)
noncomputable def i8:HO->Bool
 | .lst _=>true
 | .dK _=>true
 | .dT _=>true
 | _=>false
theorem iM.upd {M M':Addr->Prop}{H:Hp}{a:Addr}{o o':HO} (h:H a=some o') (mu:i8 o'=true) (m:∀ b,M b->b ≠ a/\M' b):iM M M' H (upd H a o):=
 ⟨fun b _ hb e=>⟨(m b hb).2,by rw [aY (m b hb).1]; exact e⟩,fun b _ hb e=>⟨(m b hb).2,by rw [aY (m b hb).1]; exact e⟩,fun b _ hb e=>⟨(m b hb).2,by rw [aY (m b hb).1]; exact e⟩,
  fun b _ e=>by rw [aY (fun z=>by rw [z,h] at e; cases e; cases mu)]; exact e,
  fun b _ _ e=>by rw [aY (fun z=>by rw [z,h] at e; cases e; cases mu)]; exact e⟩
theorem Reps.length {K:PySem.W.Frag}{M:Addr->Prop}{H:Hp}:∀ {vs:List V}{xs:List PV},Reps K M H vs xs->vs.length=xs.length
 | _,_,.nil=>rfl
 | _,_,.cons _ t=>congrArg (· + 1) t.length
theorem Reps.get {K:PySem.W.Frag}{M:Addr->Prop}{H:Hp}:∀ {vs:List V}{xs:List PV}{i:Nat}{v:V},Reps K M H vs xs->vs[i]? = some v->∃ x,xs[i]? = some x/\aE K M H v x
 | _,_,_,_,.nil,e=>by simp at e
 | _,_,0,_,.cons r _,e=>by simp at e; subst e; exact⟨_,rfl,r⟩
 | _,_,i+1,v,.cons _ t,e=>by
  rw [bq6] at e
  obtain ⟨x,h1,h2⟩:=t.get e
  exact⟨x,by rw [bq6]; exact h1,h2⟩
theorem Reps.at {K:PySem.W.Frag}{M:Addr->Prop}{H:Hp}:∀ {vs:List V}{xs:List PV}{i:Nat}{x:PV},Reps K M H vs xs->xs[i]? = some x->∃ v,vs[i]? = some v/\aE K M H v x
 | _,_,_,_,.nil,e=>by simp at e
 | _,_,0,_,.cons r _,e=>by simp at e; subst e; exact⟨_,rfl,r⟩
 | _,_,i+1,v,.cons _ t,e=>by
  rw [bq6] at e
  obtain ⟨x,h1,h2⟩:=t.at e
  exact⟨x,by rw [bq6]; exact h1,h2⟩
theorem Reps.append {K:PySem.W.Frag}{M:Addr->Prop}{H:Hp}:∀ {vs:List V}{xs:List PV}{us:List V}{ys:List PV},Reps K M H vs xs->Reps K M H us ys->Reps K M H (vs ++ us) (xs ++ ys)
 | _,_,_,_,.nil,s=>s
 | _,_,_,_,.cons r t,s=>.cons r (t.append s)
theorem Reps.set {K:PySem.W.Frag}{M:Addr->Prop}{H:Hp}{v:V}{x:PV} (q:aE K M H v x):∀ (i:Nat) {vs:List V}{xs:List PV},Reps K M H vs xs->Reps K M H (vs.set i v) (xs.set i x)
 | _,_,_,.nil=>.nil
 | 0,_,_,.cons r t=>.cons q t
 | i+1,_,_,.cons r t=>.cons r (Reps.set q i t)
theorem Reps.take {K:PySem.W.Frag}{M:Addr->Prop}{H:Hp}:∀ (n:Nat) {vs:List V}{xs:List PV},Reps K M H vs xs->Reps K M H (vs.take n) (xs.take n)
 | 0,_,_,_=>by simp; exact .nil
 | _+1,_,_,.nil=>.nil
 | n+1,_,_,.cons r t=>.cons r (Reps.take n t)
theorem Reps.drop {K:PySem.W.Frag}{M:Addr->Prop}{H:Hp}:∀ (n:Nat) {vs:List V}{xs:List PV},Reps K M H vs xs->Reps K M H (vs.drop n) (xs.drop n)
 | 0,_,_,r=>r
 | _+1,_,_,.nil=>.nil
 | n+1,_,_,.cons _ t=>Reps.drop n t
theorem Reps.eraseIdx {K:PySem.W.Frag}{M:Addr->Prop}{H:Hp}:∀ (n:Nat) {vs:List V}{xs:List PV},Reps K M H vs xs->Reps K M H (vs.eraseIdx n) (xs.eraseIdx n)
 | _,_,_,.nil=>.nil
 | 0,_,_,.cons _ t=>t
 | n+1,_,_,.cons r t=>.cons r (Reps.eraseIdx n t)
noncomputable abbrev intz (ns:List Int):List PV:=ns.map PV.int
theorem Reps.intz {K:PySem.W.Frag}{M:Addr->Prop}{H:Hp}:∀ (ns:List Int),Reps K M H (ns.map V.int) (intz ns)
 | []=>.nil
 | n :: r=>.cons (.int n) (Reps.intz r)
theorem Reps.ofInts {K:PySem.W.Frag}{M:Addr->Prop}{H:Hp}:∀ {ns:List Int}{us:List V},Reps K M H us (PP.intz ns)->us=ns.map V.int
 | [],_,.nil=>rfl
 | n :: r,_,.cons q t=>by
  cases q
  rw [Reps.ofInts t]; rfl
theorem c6:∀ (ns:List Int),flats (intz ns)=true
 | []=>rfl
 | n :: r=>by show (flat (.int n) && flats (intz r))=true; rw [c6 r]; rfl
inductive Tg | rd | sh | nw | fr
inductive Slot | sh (g:Bool) (x:PV) | own (x:PV)
noncomputable def Slot.val:Slot->PV
 | .sh _ x=>x
 | .own x=>x
noncomputable def Slot.tag:Slot->Tg
 | .sh true _=>.nw
 | .sh false _=>.sh
 | .own _=>.rd
noncomputable abbrev bO:=List (Option Slot)
noncomputable def Ms (H0:Hp) (W:Addr->Prop):Bool->Addr->Prop
 | false,a=>¬ W a
 | true,a=>¬ W a/\H0 a=none
noncomputable def Mg (H0:Hp) (W:Addr->Prop) (Hs:Hp):Tg->Addr->Prop
 | .rd,_=>True
 | .sh,a=>¬ W a
 | .nw,a=>¬ W a/\H0 a=none
 | .fr,a=>Hs a=none
noncomputable def iN (K:PySem.W.Frag) (M:Addr->Prop) (H:Hp) (a:Addr):PV->Prop
 | .lst xs=>∃ us,H a=some (.lst us)/\Reps K M H us xs
 | .dK ps=>∃ kvs,H a=some (.dK kvs)/\kvs.map (·.1)=ps.map (·.1)/\Reps K M H (kvs.map (·.2)) (ps.map (·.2))
 | .dT ps=>∃ kvs,H a=some (.dT kvs)/\kvs.map (·.1)=ps.map (·.1)/\Reps K M H (kvs.map (·.2)) (ps.map (·.2))
 | _=>False
noncomputable def M8 (K:PySem.W.Frag) (H0:Hp) (W:Addr->Prop) (H:Hp) (v:V):Slot->Prop
 | .sh g x=>aE K (Ms H0 W g) H v x
 | .own x=>∃ a,v = .ref a/\W a/\iN K (Ms H0 W true) H a x
structure PX (K:PySem.W.Frag) (H0:Hp) (W:Addr->Prop) (σ:St) (ρ:bO) (H:Hp):Prop where
 len:ρ.length=σ.length
 same:aD H0 H
 wm:∀ a,W a->H0 a=none/\∃ o,H a=some o/\i8 o=true
 sl:∀ (i:Nat) (m:Slot),ρ[i]? = some (some m)->∃ v,σ[i]? = some (some v)/\M8 K H0 W H v m
 dis:∀ (i j:Nat) (x y:PV) (a:Addr),ρ[i]? = some (some (.own x))->ρ[j]? = some (some (.own y))->σ[i]? = some (some (.ref a))->σ[j]? = some (some (.ref a))->i=j
theorem iN.keep {K:PySem.W.Frag}{M M':Addr->Prop}{H H':Hp}{a:Addr} (k:iM M M' H H') (ha:∀ o,H a=some o->H' a=some o):∀ {x:PV},iN K M H a x->iN K M' H' a x
 | .lst _,⟨us,e,r⟩=>⟨us,ha _ e,r.keep k⟩
 | .dK _,⟨us,e,q,r⟩=>⟨us,ha _ e,q,r.keep k⟩
 | .dT _,⟨us,e,q,r⟩=>⟨us,ha _ e,q,r.keep k⟩
theorem iN.at {K:PySem.W.Frag}{M:Addr->Prop}{H:Hp}{a:Addr}:∀ {x:PV},iN K M H a x->∃ o,H a=some o/\i8 o=true
 | .lst _,⟨us,e,r⟩=>⟨_,e,rfl⟩
 | .dK _,⟨us,e,q,r⟩=>⟨_,e,rfl⟩
 | .dT _,⟨us,e,q,r⟩=>⟨_,e,rfl⟩
theorem iN.rep {K:PySem.W.Frag}{M M':Addr->Prop}{H:Hp}{a:Addr} (m:∀ b,M b->M' b) (ha:M' a):∀ {x:PV},iN K M H a x->aE K M' H (.ref a) x
 | .lst _,⟨us,e,r⟩=>.lst ha e (r.same (aD.refl _) m)
 | .dK _,⟨us,e,q,r⟩=>.dK ha e q (r.same (aD.refl _) m)
 | .dT _,⟨us,e,q,r⟩=>.dT ha e q (r.same (aD.refl _) m)
section
variable {K : PySem.W.Frag} {H0 : Hp} {W W' : Addr → Prop} {σ : St} {ρ : bO} {H H' : Hp}
theorem PX.mono (p:PX K H0 W σ ρ H) (s:aD H H'):PX K H0 W σ ρ H':=by
 refine⟨p.len,p.same.trans s,fun a h=>⟨(p.wm a h).1,let ⟨o,e,m⟩:=(p.wm a h).2; ⟨o,s _ _ e,m⟩⟩,fun i m h=>?_,p.dis⟩
 obtain ⟨v,e,r⟩:=p.sl i m h
 refine⟨v,e,?_⟩
 cases m with
 | sh g x=>exact aE.same r s fun _ z=>z
 | own x=>
  obtain ⟨a,e1,e2,r⟩:=r
  exact⟨a,e1,e2,r.keep (.same s fun _ z=>z) fun _ z=>s _ _ z⟩
theorem PX.new (p:PX K H0 W σ ρ H) {a:Addr} (h:H a=none) : ¬ W a/\H0 a=none:=
 ⟨fun z=>(by obtain ⟨_,o,e,_⟩:=p.wm a z; rw [h] at e; cases e),p.same.free h⟩
theorem Mg.back {g:Tg}{H1:Hp} (s:aD H H1) {a:Addr} (h:Mg H0 W H1 g a):Mg H0 W H g a:=by
 cases g with
 | fr=>exact s.free h
 | rd=>exact h
 | sh=>exact h
 | nw=>exact h
end
noncomputable abbrev PK:=PV->Tg->Prop
noncomputable abbrev aG:=bO->PK->Prop
noncomputable abbrev cF:=bO->(Bool->Prop)->Prop
noncomputable abbrev dG:=bO->(List (PV × Tg)->Prop)->Prop
inductive iO (K:PySem.W.Frag) (H0:Hp) (W:Addr->Prop) (Hs H:Hp):List V->List (PV × Tg)->Prop
 | nil:iO K H0 W Hs H [] []
 | cons {v:V}{x:PV}{g:Tg}{vs:List V}{xs:List (PV × Tg)}:aE K (Mg H0 W Hs g) H v x->iO K H0 W Hs H vs xs->iO K H0 W Hs H (v :: vs) ((x,g) :: xs)
noncomputable def rA (K:PySem.W.Frag) (H0:Hp) (W:Addr->Prop) (H:Hp) (Q:PK) (Q':VK):Prop:=∀ v H' x g,aD H H'->aE K (Mg H0 W H g) H' v x->Q x g->Q' v H'
noncomputable def LE (X:Cx) (t:aG):TE:=fun σ H Q'=>∃ (W:Addr->Prop) (ρ:bO) (Q:PK),PX X.K X.H₀ W σ ρ H/\t ρ Q/\rA X.K X.H₀ W H Q Q'
noncomputable def LT (X:Cx) (t:cF):TT:=fun σ H Q'=>∃ (W:Addr->Prop) (ρ:bO) (Q:Bool->Prop),PX X.K X.H₀ W σ ρ H/\t ρ Q/\∀ b H',aD H H'->Q b->Q' b H'
noncomputable def LA (X:Cx) (t:dG):TA:=fun σ H Q'=>∃ (W:Addr->Prop) (ρ:bO) (Q:List (PV × Tg)->Prop),PX X.K X.H₀ W σ ρ H/\t ρ Q/\∀ vs H' xs,aD H H'->iO X.K X.H₀ W H H' vs xs->Q xs->Q' vs H'
theorem iO.same {K:PySem.W.Frag}{H0:Hp}{W:Addr->Prop}{Hs Hs' H H':Hp} (s:aD H H') (b:aD Hs' Hs):∀ {vs:List V}{xs:List (PV × Tg)},iO K H0 W Hs H vs xs->iO K H0 W Hs' H' vs xs
 | _,_,.nil=>.nil
 | _,_,.cons r t=>.cons (r.same s fun _ z=>Mg.back b z) (t.same s b)
theorem iO.any {K:PySem.W.Frag}{H0:Hp}{W:Addr->Prop}{Hs H:Hp}:∀ {vs:List V}{xs:List (PV × Tg)},iO K H0 W Hs H vs xs->Reps K (fun _=>True) H vs (xs.map (·.1))
 | _,_,.nil=>.nil
 | _,_,.cons r t=>.cons (r.same (aD.refl _) fun _ _=>trivial) t.any
noncomputable def Nw:Tg->PV->Prop
 | .fr,_=>True
 | .nw,_=>True
 | _,x=>flat x=true
section
variable {K : PySem.W.Frag} {H0 Hs H : Hp} {W : Addr → Prop} {σ : St} {ρ : bO}
theorem Nw.rep {g:Tg}{x:PV}{v:V} (px:PX K H0 W σ ρ Hs) (n:Nw g x) (r:aE K (Mg H0 W Hs g) H v x):aE K (Ms H0 W true) H v x:=by
 cases g with
 | fr=>exact r.same (aD.refl _) fun a z=>px.new z
 | nw=>exact r.same (aD.refl _) fun a z=>z
 | sh=>exact r.flat n
 | rd=>exact r.flat n
theorem M9 {v:V}{m:Slot} (r:M8 K H0 W H v m):aE K (Mg H0 W Hs m.tag) H v m.val:=by
 cases m with
 | sh g x=>
  cases g with
  | true=>exact aE.same r (aD.refl _) fun _ z=>z
  | false=>exact aE.same r (aD.refl _) fun _ z=>z
 | own x=>
  obtain ⟨a,rfl,_,r⟩:=r
  exact r.rep (fun _ _=>trivial) trivial
end
section
variable {X : Cx} {σ : St} {H : Hp} {Q' : VK} {ta tb : aG}
noncomputable def a5 (i:Nat):aG:=fun ρ Q=>∃ m,ρ[i]? = some (some m)/\Q m.val m.tag
noncomputable def qC (x:PV):aG:=fun _ Q=>Q x .fr
theorem ay9 {i:Nat} (h:LE X (a5 i) σ H Q'):iG i σ H Q':=by
 obtain ⟨W,ρ,Q,px,⟨m,e,q⟩,k⟩:=h
 obtain ⟨v,ev,r⟩:=px.sl i m e
 exact⟨v,ev,k v H _ _ (aD.refl _) (M9 r) q⟩
theorem rB {x:PV}{v:V} (hr:∀ M,aE X.K M H v x) (h:LE X (qC x) σ H Q'):tC v σ H Q':=by
 obtain ⟨W,ρ,Q,px,q,k⟩:=h
 exact k v H _ _ (aD.refl _) (hr _) q
noncomputable def fP (X:Cx) (R:PV->Tg->PV->Tg->PK->Prop) (r:R2):Prop:=∀ (W:Addr->Prop) (Hs H:Hp) (u v:V) (x y:PV) (g g':Tg) (Q:PK) (Q':VK),aD Hs H->
 (∀ a,Hs a=none->¬ W a/\X.H₀ a=none)->aE X.K (Mg X.H₀ W Hs g) H u x->aE X.K (Mg X.H₀ W Hs g') H v y->R x g y g' Q->(∀ w H' z gz,aD H H'->aE X.K (Mg X.H₀ W Hs gz) H' w z->Q z gz->Q' w H')->r u v H Q'
noncomputable def q2 (R:PV->Tg->PV->Tg->PK->Prop) (ta tb:aG):aG:=fun ρ Q=>ta ρ fun x g=>tb ρ fun y g'=>R x g y g' Q
theorem rC {R:PV->Tg->PV->Tg->PK->Prop}{r:R2} (c:fP X R r) (h:LE X (q2 R ta tb) σ H Q'):o4 r (LE X ta) (LE X tb) σ H Q':=by
 obtain ⟨W,ρ,Q,px,q,k⟩:=h
 refine⟨W,ρ,_,px,q,fun u H1 x g s1 r1 q1=>⟨W,ρ,_,px.mono s1,q1,fun v H2 y g' s2 r2 q2=>?_⟩⟩
 exact c W H H2 u v x y g g' Q Q' (s1.trans s2) (fun a z=>px.new z) (r1.same s2 fun _ z=>z) (r2.same (aD.refl _) fun _ z=>Mg.back s1 z) q2 fun w H' z gz s3 r3 q3=>k w H' z gz ((s1.trans s2).trans s3) r3 q3
noncomputable def RI (C:Int->Int->Prop) (f:Int->Int->PV):PV->Tg->PV->Tg->PK->Prop:=fun x _ y _ Q=>∃ i j,x = .int i/\y = .int j/\C i j/\Q (f i j) .fr
noncomputable def fI (f:Int->Int->PV):PV->Tg->PV->Tg->PK->Prop:=fun x _ y _ Q=>∃ i j,x = .int i/\y = .int j/\Q (f i j) .fr
theorem rD {C:Int->Int->Prop}{f:Int->Int->Int}:fP X (RI C fun i j=>.int (f i j)) (rI C fun i j=>.int (f i j)):=by
 rintro W Hs H u v x y g g' Q Q' s n r1 r2 ⟨i,j,rfl,rfl,c,q⟩ k
 cases r1; cases r2
 exact⟨i,j,rfl,rfl,c,k _ _ _ _ (aD.refl _) (.int _) q⟩
theorem vS {f:Int->Int->Int}:fP X (fI fun i j=>.int (f i j)) (j9 fun i j=>.int (f i j)):=by
 rintro W Hs H u v x y g g' Q Q' s n r1 r2 ⟨i,j,rfl,rfl,q⟩ k
 cases r1; cases r2
 exact⟨i,j,rfl,rfl,k _ _ _ _ (aD.refl _) (.int _) q⟩
theorem oN {f:Int->Int->Bool}:fP X (fI fun i j=>.bl (f i j)) (j9 fun i j=>.bl (f i j)):=by
 rintro W Hs H u v x y g g' Q Q' s n r1 r2 ⟨i,j,rfl,rfl,q⟩ k
 cases r1; cases r2
 exact⟨i,j,rfl,rfl,k _ _ _ _ (aD.refl _) (.bl _) q⟩
noncomputable def lP (neg:Bool):PV->Tg->PV->Tg->PK->Prop:=fun x _ y _ Q=>(∃ i j,x = .int i/\y = .int j/\Q (.bl (if neg=true then !decide (i=j) else decide (i=j))) .fr) ∨ (∃ i j,x = .bl i/\y = .bl j/\Q (.bl (if neg=true then !decide (i=j) else decide (i=j))) .fr)
theorem N0 (i j:Int):decide (V.int i=V.int j)=decide (i=j):=by
 rw [bl8,bk2,bk2]; exact⟨fun z=>V.int.inj z,fun z=>congrArg V.int z⟩
theorem N1 (i j:Bool):decide (V.bl i=V.bl j)=decide (i=j):=by
 rw [bl8,bk2,bk2]; exact⟨fun z=>V.bl.inj z,fun z=>congrArg V.bl z⟩
theorem N2:fP X (lP false) B2:=by
 rintro W Hs H u v x y g g' Q Q' s n r1 r2 (⟨i,j,rfl,rfl,q⟩ | ⟨i,j,rfl,rfl,q⟩) k
 ·cases r1; cases r2
  exact⟨rfl,by rw [N0]; exact k _ _ _ _ (aD.refl _) (.bl _) q⟩
 ·cases r1; cases r2
  exact⟨rfl,by rw [N1]; exact k _ _ _ _ (aD.refl _) (.bl _) q⟩
theorem az0:fP X (lP true) uJ:=by
 rintro W Hs H u v x y g g' Q Q' s n r1 r2 (⟨i,j,rfl,rfl,q⟩ | ⟨i,j,rfl,rfl,q⟩) k
 ·cases r1; cases r2
  exact⟨rfl,by rw [N0]; exact k _ _ _ _ (aD.refl _) (.bl _) q⟩
 ·cases r1; cases r2
  exact⟨rfl,by rw [N1]; exact k _ _ _ _ (aD.refl _) (.bl _) q⟩
noncomputable def bC (t:aG):cF:=fun ρ Q=>t ρ fun x _=>∃ b,x = .bl b/\Q b
theorem rE {t:aG}{Q':Bool->Hp->Prop} (h:LT X (bC t) σ H Q'):LE X t σ H fun x H'=>∃ k,x = .bl k/\Q' k H':=by
 obtain ⟨W,ρ,Q,px,q,k⟩:=h
 refine⟨W,ρ,_,px,q,?_⟩
 rintro v H1 x g s r ⟨b,rfl,q⟩
 cases r
 exact⟨b,rfl,k _ _ s q⟩
noncomputable def oO (t u:cF):cF:=fun ρ Q=>t ρ fun c=>if c=true then u ρ Q else Q false
noncomputable def lQ (t u:cF):cF:=fun ρ Q=>t ρ fun c=>if c=true then Q true else u ρ Q
noncomputable def iP (t:cF):cF:=fun ρ Q=>t ρ fun c=>Q (!c)
variable {t u : cF} {Qb : Bool → Hp → Prop}
theorem az1 (h:LT X (oO t u) σ H Qb):zU (LT X t) (LT X u) σ H Qb:=by
 obtain ⟨W,ρ,Q,px,q,k⟩:=h
 refine⟨W,ρ,_,px,q,fun b H1 s1 q1=>?_⟩
 cases b with
 | true=>exact bE ⟨W,ρ,Q,px.mono s1,by simpa using q1,fun b H2 s2 q2=>k _ _ (s1.trans s2) q2⟩
 | false=>exact bB (k _ _ s1 (by simpa using q1))
theorem az2 (h:LT X (lQ t u) σ H Qb):zV (LT X t) (LT X u) σ H Qb:=by
 obtain ⟨W,ρ,Q,px,q,k⟩:=h
 refine⟨W,ρ,_,px,q,fun b H1 s1 q1=>?_⟩
 cases b with
 | false=>exact bB ⟨W,ρ,Q,px.mono s1,by simpa using q1,fun b H2 s2 q2=>k _ _ (s1.trans s2) q2⟩
 | true=>exact bE (k _ _ s1 (by simpa using q1))
theorem az3 (h:LT X (iP t) σ H Qb):zW (LT X t) σ H Qb:=by
 obtain ⟨W,ρ,Q,px,q,k⟩:=h
 exact⟨W,ρ,_,px,q,fun b H1 s1 q1=>k _ _ s1 q1⟩
noncomputable def oP (ta tb:aG):aG:=fun ρ Q=>ta ρ fun x _=>∃ c,x = .bl c/\if c=true then tb ρ Q else Q (.bl false) .fr
theorem rA.back {K:PySem.W.Frag}{H0:Hp}{W:Addr->Prop}{H H1:Hp}{Q:PK} (k:rA K H0 W H Q Q') (s:aD H H1):rA K H0 W H1 Q Q':=fun v H' x g s' r q=>k v H' x g (s.trans s') (r.same (aD.refl _) fun _ z=>Mg.back s z) q
theorem az4 (h:LE X (oP ta tb) σ H Q'):zX (LE X ta) (LE X tb) σ H Q':=by
 obtain ⟨W,ρ,Q,px,q,k⟩:=h
 refine⟨W,ρ,_,px,q,?_⟩
 rintro v H1 x g s1 r ⟨c,rfl,q⟩
 cases r
 refine⟨c,rfl,?_⟩
 cases c with
 | true=>exact bE ⟨W,ρ,Q,px.mono s1,by simpa using q,k.back s1⟩
 | false=>exact bB (k _ _ _ _ s1 (.bl _) (by simpa using q))
noncomputable def a9:dG:=fun _ Q=>Q []
noncomputable def a7 (te:aG) (tr:dG):dG:=fun ρ Q=>te ρ fun x g=>tr ρ fun xs=>Q ((x,g) :: xs)
variable {Qa : List V → Hp → Prop} {tr : dG}
theorem az5 (h:LA X a9 σ H Qa):jM σ H Qa:=by
 obtain ⟨W,ρ,Q,px,q,k⟩:=h
 exact k _ _ _ (aD.refl _) .nil q
theorem az6 (h:LA X (a7 ta tr) σ H Qa):iI (LE X ta) (LA X tr) σ H Qa:=by
 obtain ⟨W,ρ,Q,px,q,k⟩:=h
 refine⟨W,ρ,_,px,q,fun v H1 x g s1 r1 q1=>⟨W,ρ,_,px.mono s1,q1,fun vs H2 xs s2 r2 q2=>?_⟩⟩
 exact k _ _ _ (s1.trans s2) (.cons (r1.same s2 fun _ z=>z) (r2.same (aD.refl _) s1)) q2
noncomputable def iQ (t:dG):aG:=fun ρ Q=>t ρ fun xs=>xs.length<=1000/\flats (xs.map (·.1))=true/\Q (.tup (xs.map (·.1))) .fr
noncomputable def gP (t:dG):aG:=fun ρ Q=>t ρ fun xs=>xs.length<=1000/\flats (xs.map (·.1))=true/\Q (.lst (xs.map (·.1))) .fr
theorem iO.length {K:PySem.W.Frag}{H0:Hp}{W:Addr->Prop}{Hs H:Hp}:∀ {vs:List V}{xs:List (PV × Tg)},iO K H0 W Hs H vs xs->vs.length=xs.length
 | _,_,.nil=>rfl
 | _,_,.cons _ t=>congrArg (· + 1) t.length
theorem vT {n:Nat} (h:n<=1000):n<=sizeLine:=bn7 (oG h)
theorem az7 (h:LE X (iQ tr) σ H Q'):C2 (LA X tr) σ H Q':=by
 obtain ⟨W,ρ,Q,px,q,k⟩:=h
 refine⟨W,ρ,_,px,q,?_⟩
 rintro vs H1 xs s1 r ⟨hl,n,q⟩
 refine⟨by rw [r.length]; exact vT hl,fun p hp=>k _ _ _ .fr (s1.trans (bN hp _)) (.tup bL ?_) q⟩
 exact (r.any.flat n).same (bN hp _) fun _ z=>z
theorem az8 (h:LE X (gP tr) σ H Q'):C3 (LA X tr) σ H Q':=by
 obtain ⟨W,ρ,Q,px,q,k⟩:=h
 refine⟨W,ρ,_,px,q,?_⟩
 rintro vs H1 xs s1 r ⟨hl,n,q⟩
 refine⟨by rw [r.length]; exact vT hl,fun p hp=>k _ _ _ .fr (s1.trans (bN hp _)) (.lst (s1.free hp) bL ?_) q⟩
 exact (r.any.flat n).same (bN hp _) fun _ z=>z
noncomputable def i9 (X:Cx) (R:List PV->(PV->Prop)->Prop) (r:List V->Hp->VK->Prop):Prop:=∀ (H:Hp) (vs:List V) (xs:List PV) (Q:PV->Prop) (Q':VK),Reps X.K (fun _=>True) H vs xs->R xs Q->
 (∀ w H' z,aD H H'->aE X.K (fun a=>H a=none) H' w z->Q z->Q' w H')->r vs H Q'
noncomputable def aC (R:List PV->(PV->Prop)->Prop) (t:dG):aG:=fun ρ Q=>t ρ fun xs=>R (xs.map (·.1)) fun z=>Q z .fr
theorem N3 {R:List PV->(PV->Prop)->Prop}{r:List V->Hp->VK->Prop} (c:i9 X R r) (h:LE X (aC R tr) σ H Q'):uP r (LA X tr) σ H Q':=by
 obtain ⟨W,ρ,Q,px,q,k⟩:=h
 refine⟨W,ρ,_,px,q,fun vs H1 xs s1 r1 q1=>c H1 vs _ _ Q' r1.any q1 fun w H' z s2 r2 q2=>k w H' z .fr (s1.trans s2) (r2.same (aD.refl _) fun _ z=>s1.free z) q2⟩
end
structure jU where
 nx:bO->Prop
 rt:PV->Prop
 bk:bO->Prop:=fun _=>False
 ct:bO->Prop:=fun _=>False
noncomputable abbrev aR:=jU->bO->Prop
noncomputable def Ev (W:Addr->Prop) (H:Hp) (W':Addr->Prop) (H':Hp):Prop:=∀ b o,H b=some o->¬ W b->H' b=some o/\¬ W' b
theorem Ev.trans {W W1 W2:Addr->Prop}{H H1 H2:Hp} (a:Ev W H W1 H1) (b:Ev W1 H1 W2 H2):Ev W H W2 H2:=fun c o h n=>let ⟨h1,n1⟩:=a c o h n; b c o h1 n1
theorem Ev.same {W:Addr->Prop}{H H':Hp} (s:aD H H'):Ev W H W H':=fun c o h n=>⟨s _ _ h,n⟩
theorem Ev.refl (W:Addr->Prop) (H:Hp):Ev W H W H:=Ev.same (aD.refl _)
structure rF (X:Cx) (W:Addr->Prop) (H:Hp) (D':jU) (D:cY):Prop where
 nx:∀ W' σ' H' ρ',Ev W H W' H'->PX X.K X.H₀ W' σ' ρ' H'->D'.nx ρ'->D.nx σ' H'
 rt:∀ v H' x,aD X.H₀ H'->aE X.K (fun a=>X.H₀ a=none) H' v x->D'.rt x->D.rt v H'
 bk:∀ W' σ' H' ρ',Ev W H W' H'->PX X.K X.H₀ W' σ' ρ' H'->D'.bk ρ'->D.bk σ' H'
 ct:∀ W' σ' H' ρ',Ev W H W' H'->PX X.K X.H₀ W' σ' ρ' H'->D'.ct ρ'->D.ct σ' H'
theorem rF.step {X:Cx}{W W1:Addr->Prop}{H H1:Hp}{D':jU}{D:cY} (k:rF X W H D' D) (e:Ev W H W1 H1):rF X W1 H1 D' D:=
 ⟨fun W' σ' H' ρ' e'=>k.nx W' σ' H' ρ' (e.trans e'),k.rt,fun W' σ' H' ρ' e'=>k.bk W' σ' H' ρ' (e.trans e'),fun W' σ' H' ρ' e'=>k.ct W' σ' H' ρ' (e.trans e')⟩
noncomputable def LS (X:Cx) (t:aR):TS:=fun D σ H=>∃ (W:Addr->Prop) (ρ:bO) (D':jU),PX X.K X.H₀ W σ ρ H/\t D' ρ/\rF X W H D' D
theorem gQ {α:Type}{l:List α}{i j:Nat}{a b:α} (h:(l.set i a)[j]? = some b):(j=i/\i < l.length/\b=a) ∨ (j ≠ i/\l[j]? = some b):=by
 by_cases e:j=i
 ·subst e
  have hl:j < (l.set j a).length:=(bh2.mp h).1
  rw [bm7] at hl
  rw [bp5 hl] at h
  exact .inl ⟨rfl,hl,(bj0 h).symm⟩
 ·rw [bk8 (Ne.symm e)] at h
  exact .inr ⟨e,h⟩
section
variable {K : PySem.W.Frag} {H0 : Hp} {W W' : Addr → Prop} {σ : St} {ρ : bO} {H H' Hs : Hp}
theorem PX.setSh {i:Nat}{v:V}{g:Bool}{x:PV} (p:PX K H0 W σ ρ H) (r:aE K (Ms H0 W g) H v x):PX K H0 W (σ.set i (some v)) (ρ.set i (some (.sh g x))) H:=by
 refine⟨by rw [bm7,bm7]; exact p.len,p.same,p.wm,fun j m h=>?_,fun j k y z a h1 h2 h3 h4=>?_⟩
 ·rcases gQ h with ⟨rfl,hl,e⟩ | ⟨hne,h⟩
  ·cases e
   rw [p.len] at hl
   exact⟨v,bp5 hl,r⟩
  ·obtain ⟨u,e,q⟩:=p.sl j m h
   exact⟨u,by rw [bk8 (Ne.symm hne)]; exact e,q⟩
 ·rcases gQ h1 with ⟨_,_,e⟩ | ⟨n1,h1⟩
  ·cases e
  ·rcases gQ h2 with ⟨_,_,e⟩ | ⟨n2,h2⟩
   ·cases e
   ·rw [bk8 (Ne.symm n1)] at h3
    rw [bk8 (Ne.symm n2)] at h4
    exact p.dis j k y z a h1 h2 h3 h4
noncomputable def mU (W:Addr->Prop) (a:Addr):Addr->Prop:=fun b=>W b ∨ b=a
theorem vU {g:Bool}{a b:Addr} (n:b ≠ a) (h:Ms H0 W g b):Ms H0 (mU W a) g b:=by
 cases g with
 | true=>exact⟨fun z=>z.elim h.1 n,h.2⟩
 | false=>exact fun z=>z.elim h n
theorem PX.setOwn {i:Nat}{a:Addr}{x:PV} (p:PX K H0 W σ ρ Hs) (s:aD Hs H) (ha:Hs a=none) (r:iN K (Ms H0 (mU W a) true) H a x):PX K H0 (mU W a) (σ.set i (some (.ref a))) (ρ.set i (some (.own x))) H:=by
 have old:∀ b o,Hs b=some o->b ≠ a:=fun b o e z=>by rw [z,ha] at e; cases e
 have kp:∀ g,iM (Ms H0 W g) (Ms H0 (mU W a) g) Hs H:=fun g=>⟨fun b _ m e=>⟨vU (old _ _ e) m,s _ _ e⟩,fun b _ m e=>⟨vU (old _ _ e) m,s _ _ e⟩,fun b _ m e=>⟨vU (old _ _ e) m,s _ _ e⟩,fun _ _ e=>s _ _ e,fun _ _ _ e=>s _ _ e⟩
 have wa : ¬ W a:=(p.new ha).1
 refine⟨by rw [bm7,bm7]; exact p.len,p.same.trans s,fun b z=>?_,fun j m h=>?_,fun j k y z b h1 h2 h3 h4=>?_⟩
 ·rcases z with z | rfl
  ·obtain ⟨h1,o,h2,h3⟩:=p.wm b z
   exact⟨h1,o,s _ _ h2,h3⟩
  ·exact⟨(p.new ha).2,r.at⟩
 ·rcases gQ h with ⟨rfl,hl,e⟩ | ⟨hne,h⟩
  ·cases e
   rw [p.len] at hl
   exact⟨_,bp5 hl,a,rfl,.inr rfl,r⟩
  ·obtain ⟨u,e,q⟩:=p.sl j m h
   refine⟨u,by rw [bk8 (Ne.symm hne)]; exact e,?_⟩
   cases m with
   | sh g y=>exact aE.keep (kp g) q
   | own y=>
    obtain ⟨b,e1,e2,q⟩:=q
    exact⟨b,e1,.inl e2,q.keep (kp true) fun o z=>s _ _ z⟩
 ·have ne:∀ {j:Nat}{y:PV},ρ[j]? = some (some (.own y))->σ[j]? ≠ some (some (.ref a)):=fun {j y} h1 h2=>by
   obtain ⟨u,e,c,e1,e2,_⟩:=p.sl j _ h1
   rw [h2] at e
   cases e
   cases e1
   exact wa e2
  rcases gQ h1 with ⟨e1,l1,_⟩ | ⟨n1,h1⟩
  ·rcases gQ h2 with ⟨e2,_,_⟩ | ⟨n2,h2⟩
   ·rw [e1,e2]
   ·rw [e1,bp5 (by rw [<- p.len]; exact l1)] at h3
    rw [bk8 (Ne.symm n2)] at h4
    cases h3
    exact absurd h4 (ne h2)
  ·rw [bk8 (Ne.symm n1)] at h3
   rcases gQ h2 with ⟨e2,l2,_⟩ | ⟨n2,h2⟩
   ·rw [e2,bp5 (by rw [<- p.len]; exact l2)] at h4
    cases h4
    exact absurd h3 (ne h1)
   ·rw [bk8 (Ne.symm n2)] at h4
    exact p.dis j k y z b h1 h2 h3 h4
theorem Ev.own {a:Addr} (s:aD Hs H) (ha:Hs a=none):Ev W Hs (mU W a) H:=fun b o e n=>⟨s _ _ e,fun z=>z.elim n fun z=>by rw [z,ha] at e; cases e⟩
theorem kQ {g:Bool}{a b:Addr} (wa:W a) (h:Ms H0 W g b):b ≠ a:=by
 cases g with
 | true=>exact fun z=>h.1 (by rw [z]; exact wa)
 | false=>exact fun z=>h (by rw [z]; exact wa)
theorem PX.updOwn {i:Nat}{a:Addr}{x y:PV}{o:HO} (p:PX K H0 W σ ρ H) (hi:ρ[i]? = some (some (.own x))) (ha:σ[i]? = some (some (.ref a))) (wa:W a) (mu:i8 o=true) (r:iN K (Ms H0 W true) (upd H a o) a y) :
  PX K H0 W σ (ρ.set i (some (.own y))) (upd H a o):=by
 obtain ⟨w0,o',e',mu'⟩:=p.wm a wa
 have kp:∀ g,iM (Ms H0 W g) (Ms H0 W g) H (upd H a o):=fun g=>.upd e' mu' fun b m=>⟨kQ wa m,m⟩
 refine⟨by rw [bm7]; exact p.len,fun b u e=>by rw [aY (fun z=>by rw [z,w0] at e; cases e)]; exact p.same _ _ e,fun b z=>?_,fun j m h=>?_,fun j k y' z b h1 h2 h3 h4=>?_⟩
 ·by_cases e:b=a
  ·subst e; exact⟨w0,o,bL,mu⟩
  ·obtain ⟨h1,o2,h2,h3⟩:=p.wm b z
   exact⟨h1,o2,by rw [aY e]; exact h2,h3⟩
 ·rcases gQ h with ⟨rfl,hl,e⟩ | ⟨hne,h⟩
  ·cases e
   exact⟨_,ha,a,rfl,wa,r⟩
  ·obtain ⟨u,e,q⟩:=p.sl j m h
   refine⟨u,e,?_⟩
   cases m with
   | sh g y=>exact aE.keep (kp g) q
   | own y=>
    obtain ⟨b,e1,e2,q⟩:=q
    have hb:b ≠ a:=fun z=>by
     subst e1
     rw [z] at e
     exact hne (p.dis j i _ _ a h hi e ha)
    exact⟨b,e1,e2,q.keep (kp true) fun o z=>by rw [aY hb]; exact z⟩
 ·have g1:∃ y,ρ[j]? = some (some (.own y)):=by
   rcases gQ h1 with ⟨e,_,_⟩ | ⟨_,h⟩
   ·exact⟨x,by rw [e]; exact hi⟩
   ·exact⟨_,h⟩
  have g2:∃ y,ρ[k]? = some (some (.own y)):=by
   rcases gQ h2 with ⟨e,_,_⟩ | ⟨_,h⟩
   ·exact⟨x,by rw [e]; exact hi⟩
   ·exact⟨_,h⟩
  obtain ⟨y1,g1⟩:=g1
  obtain ⟨y2,g2⟩:=g2
  exact p.dis j k y1 y2 b g1 g2 h3 h4
theorem Ev.upd {a:Addr}{o:HO} (wa:W a):Ev W H W (upd H a o):=fun b u e n=>⟨by rw [aY (fun z=>n (by rw [z]; exact wa))]; exact e,n⟩
noncomputable def oQ (W:Addr->Prop) (a:Addr):Addr->Prop:=fun b=>W b/\b ≠ a
theorem vV {g:Bool}{a b:Addr} (h:Ms H0 W g b):Ms H0 (oQ W a) g b:=by
 cases g with
 | true=>exact⟨fun z=>h.1 z.1,h.2⟩
 | false=>exact fun z=>h z.1
theorem PX.freeze {i:Nat}{a:Addr}{x:PV} (p:PX K H0 W σ ρ H) (hi:ρ[i]? = some (some (.own x))) (ha:σ[i]? = some (some (.ref a))):PX K H0 (oQ W a) σ (ρ.set i (some (.sh true x))) H:=by
 obtain ⟨v,ev,a',e1,wa,r⟩:=p.sl i _ hi
 rw [ha] at ev
 cases ev
 cases e1
 refine⟨by rw [bm7]; exact p.len,p.same,fun b z=>p.wm b z.1,fun j m h=>?_,fun j k y' z b h1 h2 h3 h4=>?_⟩
 ·rcases gQ h with ⟨rfl,hl,e⟩ | ⟨hne,h⟩
  ·cases e
   exact⟨_,ha,r.rep (M':=Ms H0 (oQ W a) true) (fun b m=>vV (g:=true) m) (show Ms H0 (oQ W a) true a from ⟨fun z=>z.2 rfl,(p.wm a wa).1⟩)⟩
  ·obtain ⟨u,e,q⟩:=p.sl j m h
   refine⟨u,e,?_⟩
   cases m with
   | sh g y=>exact aE.same q (aD.refl _) fun _ m=>vV m
   | own y=>
    obtain ⟨b,e1,e2,q⟩:=q
    have hb:b ≠ a:=fun z=>by
     subst e1
     rw [z] at e
     exact hne (p.dis j i _ _ a h hi e ha)
    exact⟨b,e1,⟨e2,hb⟩,q.keep (.same (aD.refl _) fun _ m=>vV m) fun _ z=>z⟩
 ·rcases gQ h1 with ⟨_,_,e⟩ | ⟨_,h1⟩
  ·cases e
  ·rcases gQ h2 with ⟨_,_,e⟩ | ⟨_,h2⟩
   ·cases e
   ·exact p.dis j k _ _ b h1 h2 h3 h4
theorem Ev.off {a:Addr}:Ev W H (oQ W a) H:=fun b u e n=>⟨e,fun z=>n z.1⟩
end
section
variable {X : Cx} {σ : St} {H : Hp} {D : cY} {te : aG} {t u : aR}
noncomputable def cZ:aR:=fun D ρ=>D.nx ρ
noncomputable def aF (t u:aR):aR:=fun D ρ=>t { D with nx:=u D } ρ
theorem az9 (h:LS X cZ D σ H):zY D σ H:=by
 obtain ⟨W,ρ,D',px,q,k⟩:=h
 exact k.nx W σ H ρ (Ev.refl _ _) px q
theorem aA0 (h:LS X (aF t u) D σ H):zZ (LS X t) (LS X u) D σ H:=by
 obtain ⟨W,ρ,D',px,q,k⟩:=h
 exact⟨W,ρ,_,px,q,fun W' σ' H' ρ' e px' q'=>⟨W',ρ',D',px',q',k.step e⟩,k.rt,k.bk,k.ct⟩
noncomputable def N4:Tg->PV->Bool
 | .fr,_=>true
 | .nw,_=>true
 | _,x=>flat x
noncomputable def N5:Tg->PV->Prop
 | .rd,x=>flat x=true
 | _,_=>True
theorem aA1 {K:PySem.W.Frag}{H0 Hs H:Hp}{W:Addr->Prop}{σ:St}{ρ:bO}{g:Tg}{x:PV}{v:V} (px:PX K H0 W σ ρ Hs) (n:N5 g x) (r:aE K (Mg H0 W Hs g) H v x):aE K (Ms H0 W (N4 g x)) H v x:=by
 cases g with
 | fr=>exact Nw.rep (g:=.fr) px trivial r
 | nw=>exact Nw.rep (g:=.nw) px trivial r
 | sh=>
  show aE K (Ms H0 W (flat x)) H v x
  cases e:flat x with
  | true=>exact r.flat e
  | false=>exact r.same (aD.refl _) fun _ z=>z
 | rd=>exact r.flat n
noncomputable def bF (i:Nat) (te:aG):aR:=fun D ρ=>te ρ fun x g=>N5 g x/\D.nx (ρ.set i (some (.sh (N4 g x) x)))
theorem N6 {i:Nat} (h:LS X (bF i te) D σ H):kK (LE X te) (cN i) D σ H:=by
 obtain ⟨W,ρ,D',px,q,k⟩:=h
 refine⟨W,ρ,_,px,q,?_⟩
 rintro v H1 x g s r ⟨n,q⟩
 exact k.nx W _ H1 _ (Ev.same s) ((px.mono s).setSh (aA1 px n r)) q
noncomputable def N7:PV->Bool
 | .lst xs=>flats xs
 | .dK ps=>flats (ps.map (·.2))
 | .dT ps=>flats (ps.map (·.2))
 | _=>false
theorem aA2 {K:PySem.W.Frag}{M:Addr->Prop}{H:Hp}{v:V}{x:PV} (r:aE K M H v x) (o:N7 x=true):∃ a,v = .ref a/\M a/\∀ M',iN K M' H a x:=by
 cases r with
 | lst m e r=>exact⟨_,rfl,m,fun _=>⟨_,e,r.flat o⟩⟩
 | dK m e q r=>exact⟨_,rfl,m,fun _=>⟨_,e,q,r.flat o⟩⟩
 | dT m e q r=>exact⟨_,rfl,m,fun _=>⟨_,e,q,r.flat o⟩⟩
 | _=>cases o
noncomputable def dA (i:Nat) (te:aG):aR:=fun D ρ=>te ρ fun x g=>g = .fr/\N7 x=true/\D.nx (ρ.set i (some (.own x)))
theorem N8 {i:Nat} (h:LS X (dA i te) D σ H):kK (LE X te) (cN i) D σ H:=by
 obtain ⟨W,ρ,D',px,q,k⟩:=h
 refine⟨W,ρ,_,px,q,?_⟩
 rintro v H1 x g s r ⟨rfl,o,q⟩
 obtain ⟨a,rfl,m,w⟩:=aA2 r o
 exact k.nx _ _ H1 _ (Ev.own s m) (px.setOwn s m (w _)) q
noncomputable def oR (i:Nat) (t:aR):aR:=fun D ρ=>∃ x,ρ[i]? = some (some (.own x))/\t D (ρ.set i (some (.sh true x)))
theorem aA3 {i:Nat} (h:LS X (oR i t) D σ H):LS X t D σ H:=by
 obtain ⟨W,ρ,D',px,⟨x,hi,q⟩,k⟩:=h
 obtain ⟨v,ev,a,rfl,wa,r⟩:=px.sl i _ hi
 exact⟨_,_,D',px.freeze hi ev,q,k.step Ev.off⟩
noncomputable def bP (te:aG):aR:=fun D ρ=>te ρ fun x g=>Nw g x/\D.rt x
theorem aA4 (h:LS X (bP te) D σ H):uA (LE X te) D σ H:=by
 obtain ⟨W,ρ,D',px,q,k⟩:=h
 refine⟨W,ρ,_,px,q,?_⟩
 rintro v H1 x g s r ⟨n,q⟩
 exact k.rt v H1 x (px.same.trans s) ((Nw.rep px n r).same (aD.refl _) fun _ z=>z.2) q
noncomputable def Slot.nw:Slot->Prop
 | .own _=>True
 | .sh true _=>True
 | .sh false x=>flat x=true
noncomputable def jV (i:Nat):aR:=fun D ρ=>∃ m,ρ[i]? = some (some m)/\m.nw/\D.rt m.val
theorem aA5 {i:Nat} (h:LS X (jV i) D σ H):uA (iG i) D σ H:=by
 obtain ⟨W,ρ,D',px,⟨m,hi,n,q⟩,k⟩:=h
 obtain ⟨v,ev,r⟩:=px.sl i _ hi
 refine⟨v,ev,k.rt v H _ px.same ?_ q⟩
 cases m with
 | own x=>
  obtain ⟨a,rfl,wa,r⟩:=r
  exact r.rep (fun _ z=>z.2) (px.wm a wa).1
 | sh g x=>
  cases g with
  | true=>exact aE.same r (aD.refl _) fun _ z=>z.2
  | false=>exact aE.flat n r
noncomputable def cR (c:cF) (t u:aR):aR:=fun D ρ=>c ρ fun b=>if b=true then t D ρ else u D ρ
theorem aA6 {c:cF} (h:LS X (cR c t u) D σ H):A0 (LT X c) (LS X t) (LS X u) D σ H:=by
 obtain ⟨W,ρ,D',px,q,k⟩:=h
 refine⟨W,ρ,_,px,q,fun b H1 s q1=>?_⟩
 cases b with
 | true=>exact bE ⟨W,ρ,D',px.mono s,by simpa using q1,k.step (Ev.same s)⟩
 | false=>exact bB ⟨W,ρ,D',px.mono s,by simpa using q1,k.step (Ev.same s)⟩
noncomputable def lR (c:cF) (tb:aR):aR:=fun D ρ=>∃ I:Nat->bO->Prop,(∃ m,I m ρ)/\∀ m ρ',I m ρ'->c ρ' fun b=>if b=true then tb { D with nx:=fun ρ2=>∃ m',m' < m/\I m' ρ2,ct:=fun ρ2=>∃ m',m' < m/\I m' ρ2,bk:=D.nx } ρ' else D.nx ρ'
theorem aA7 {c:cF}{tb:aR} (h:LS X (lR c tb) D σ H):A3 (LT X c) (LS X tb) D σ H:=by
 obtain ⟨W,ρ,D',px,⟨I,⟨m0,i0⟩,turn⟩,k⟩:=h
 refine⟨fun m σ2 H2=>∃ W2 ρ2,PX X.K X.H₀ W2 σ2 ρ2 H2/\Ev W H W2 H2/\I m ρ2,⟨m0,W,ρ,px,Ev.refl _ _,i0⟩,?_⟩
 rintro m σ2 H2 ⟨W2,ρ2,px2,e2,i2⟩
 refine⟨W2,ρ2,_,px2,turn m ρ2 i2,fun b H3 s3 q3=>?_⟩
 cases b with
 | true=>
  refine bE ⟨fun σ4 H4=>∃ W4 ρ4,PX X.K X.H₀ W4 σ4 ρ4 H4/\Ev W H W4 H4/\∃ m',m' < m/\I m' ρ4,fun σ4 H4 ⟨W4,ρ4,a,b,m',c,d⟩=>⟨m',c,W4,ρ4,a,b,d⟩,W2,ρ2,_,px2.mono s3,by simpa using q3,?_⟩
  have e3:Ev W H W2 H3:=e2.trans (Ev.same s3)
  exact⟨fun W' σ' H' ρ' e p q=>⟨W',ρ',p,e3.trans e,q⟩,k.rt,fun W' σ' H' ρ' e p q=>k.nx W' σ' H' ρ' (e3.trans e) p q,fun W' σ' H' ρ' e p q=>⟨W',ρ',p,e3.trans e,q⟩⟩
 | false=>exact bB (k.nx W2 σ2 H3 ρ2 (e2.trans (Ev.same s3)) (px2.mono s3) (by simpa using q3))
end
theorem lim {n:Nat} (h:n<=16000000):n<=sizeLine:=bn7 (i7 h)
theorem aE.sqT {K:PySem.W.Frag}{M:Addr->Prop}{H:Hp}{v:V}{xs:List PV} (r:aE K M H v (.tup xs)):∃ a us,v = .ref a/\H a=some (.tup us)/\Reps K M H us xs:=by
 cases r with
 | tup e r=>exact⟨_,_,rfl,e,r⟩
theorem aE.sqL {K:PySem.W.Frag}{M:Addr->Prop}{H:Hp}{v:V}{xs:List PV} (r:aE K M H v (.lst xs)):∃ a us,v = .ref a/\M a/\H a=some (.lst us)/\Reps K M H us xs:=by
 cases r with
 | lst m e r=>exact⟨_,_,rfl,m,e,r⟩
theorem jT.sqL {K:PySem.W.Frag}{H:Hp}{a:Addr}{ns:List Int} (h:jT K H a ns):aK K H a (ns.map V.int):=h.elim (fun z=>.inl (.inr z)) .inr
noncomputable def lS:PV->Option (List PV)
 | .tup xs=>some xs
 | .lst xs=>some xs
 | .scr ns=>some (intz ns)
 | .kt xs=>some xs
 | _=>none
theorem aE.seq {K:PySem.W.Frag}{M:Addr->Prop}{H:Hp}{v:V}{x:PV}{xs:List PV} (r:aE K M H v x) (e:lS x=some xs):∃ a us,v = .ref a/\(aK K H a us ∨ aQ K H a us)/\Reps K M H us xs:=by
 cases r with
 | tup h r=>cases e; exact⟨_,_,rfl,.inr (aQ.of h),r⟩
 | lst m h r=>cases e; exact⟨_,_,rfl,.inl (aK.of h),r⟩
 | scr h=>cases e; exact⟨_,_,rfl,.inl h.sqL,Reps.intz _⟩
 | kt h r=>cases e; exact⟨_,_,rfl,.inr (.inr h),r⟩
 | _=>cases e
section
variable {X : Cx} {σ : St} {H : Hp} {D : cY} {te ti to : aG} {t u : aR} {Q' : VK}
theorem _root_.PP.PX.updL {K:PySem.W.Frag}{H0:Hp}{W:Addr->Prop}{σ:St}{ρ:bO}{H:Hp}{i:Nat}{a:Addr}{x:PV}{us:List V}{ys:List PV} (p:PX K H0 W σ ρ H) (hi:ρ[i]? = some (some (.own x))) (ha:σ[i]? = some (some (.ref a))) (wa:W a) (r:Reps K (Ms H0 W true) (upd H a (.lst us)) us ys) :
  PX K H0 W σ (ρ.set i (some (.own (.lst ys)))) (upd H a (.lst us)):=p.updOwn hi ha wa rfl (y:=.lst ys) ⟨us,bL,r⟩
noncomputable def jD (i:Nat) (te:aG):aR:=fun D ρ=>∃ xs,ρ[i]? = some (some (.own (.lst xs)))/\te ρ fun x g=>Nw g x/\xs.length < 16000000/\D.nx (ρ.set i (some (.own (.lst (xs ++ [x])))))
theorem aA8 {i:Nat} (h:LS X (jD i te) D σ H):nZ (qL X.K "list" G0 (iG i) (iI (LE X te) jM)) D σ H:=by
 obtain ⟨W,ρ,D',px,⟨xs,hi,q⟩,k⟩:=h
 obtain ⟨v,ev,a,rfl,wa,us,ea,r⟩:=px.sl i _ hi
 refine⟨_,ev,kO (aK.of ea),W,ρ,_,px,q,?_⟩
 rintro w H1 x g s rx ⟨n,hl,q⟩
 have ea1:=s _ _ ea
 refine⟨a,us,w,rfl,rfl,ea1,i7 (by rw [r.length]; omega),?_⟩
 refine k.nx W σ _ _ ((Ev.same s).trans (Ev.upd wa)) ((px.mono s).updL hi ev wa ?_) q
 exact ((r.same s fun _ z=>z).append (.cons (Nw.rep px n rx) .nil)).keep (.upd ea1 rfl fun b m=>⟨kQ wa m,m⟩)
noncomputable def N9 (K:PySem.W.Frag):V->List V->Hp->VK->Prop:=fun x vs H Q=>G1 x vs H Q ∨ M7 K x vs H Q
noncomputable def rG (i:Nat) (te:aG):aR:=fun D ρ=>∃ xs,ρ[i]? = some (some (.own (.lst xs)))/\te ρ fun y g=>∃ ys,(y = .tup ys ∨ y = .lst ys)/\(Nw g y ∨ flats ys=true)/\xs.length+ys.length<=16000000/\D.nx (ρ.set i (some (.own (.lst (xs ++ ys)))))
theorem aA9 {i:Nat} (h:LS X (rG i te) D σ H):nZ (qL X.K "list" (N9 X.K) (iG i) (iI (LE X te) jM)) D σ H:=by
 obtain ⟨W,ρ,D',px,⟨xs,hi,q⟩,k⟩:=h
 obtain ⟨v,ev,a,rfl,wa,us,ea,r⟩:=px.sl i _ hi
 refine⟨_,ev,kO (aK.of ea),W,ρ,_,px,q,?_⟩
 rintro w H1 y g s ry ⟨ys,hy,n,hl,q⟩
 have ea1:=s _ _ ea
 have key:∀ (zs:List V),Reps X.K (Ms X.H₀ W true) H1 zs ys->D.nx σ (upd H1 a (.lst (us ++ zs))):=fun zs rz=>by
  refine k.nx W σ _ _ ((Ev.same s).trans (Ev.upd wa)) ((px.mono s).updL hi ev wa ?_) q
  exact ((r.same s fun _ z=>z).append rz).keep (.upd ea1 rfl fun b m=>⟨kQ wa m,m⟩)
 have lr:=r.length
 rcases hy with rfl | rfl
 ·obtain ⟨b,zs,rfl,eb,rz⟩:=ry.sqT
  have lz:=rz.length
  refine .inr ⟨a,b,us,zs,rfl,rfl,ea1,aQ.of eb,lim (by omega),key zs ?_⟩
  rcases n with n | n
  ·obtain ⟨b',zs',e1,e2,rz'⟩:=(Nw.rep px n ry).sqT
   cases e1; rw [eb] at e2; cases e2; exact rz'
  ·exact rz.flat n
 ·obtain ⟨b,zs,rfl,_,eb,rz⟩:=ry.sqL
  have lz:=rz.length
  refine .inl ⟨a,b,us,zs,rfl,rfl,ea1,eb,lim (by omega),key zs ?_⟩
  rcases n with n | n
  ·obtain ⟨b',zs',e1,_,e2,rz'⟩:=(Nw.rep px n ry).sqL
   cases e1; rw [eb] at e2; cases e2; exact rz'
  ·exact rz.flat n
noncomputable def mV (i:Nat) (tk te:aG):aR:=fun D ρ=>te ρ fun x g=>∃ xs,ρ[i]? = some (some (.own (.lst xs)))/\tk ρ fun y _=>∃ n j,y = .int n/\gL xs.length n=some j/\Nw g x/\D.nx (ρ.set i (some (.own (.lst (xs.set j x)))))
theorem aB0 {i:Nat}{tk:aG} (h:LS X (mV i tk te) D σ H):kK (LE X te) (uC (iG i) (LE X tk) uW) D σ H:=by
 obtain ⟨W,ρ,D',px,q,k⟩:=h
 refine⟨W,ρ,_,px,q,?_⟩
 rintro w H1 x g s rx ⟨xs,hi,q1⟩
 obtain ⟨v,ev,a,rfl,wa,us,ea,r⟩:=(px.mono s).sl i _ hi
 refine⟨_,ev,W,ρ,_,px.mono s,q1,?_⟩
 rintro kv H2 y gy s2 ry ⟨n,j,rfl,hj,nw,q2⟩
 cases ry
 have ea2:=s2 _ _ ea
 refine⟨a,us,n,j,rfl,rfl,ea2,by rw [r.length]; exact hj,?_⟩
 refine k.nx W σ _ _ ((Ev.same (s.trans s2)).trans (Ev.upd wa)) ((px.mono (s.trans s2)).updL hi ev wa ?_) q2
 exact (Reps.set ((Nw.rep px nw rx).same s2 fun _ z=>z) j (r.same s2 fun _ z=>z)).keep (.upd ea2 rfl fun b m=>⟨kQ wa m,m⟩)
noncomputable def vW (i j:Nat):aR:=fun D ρ=>∃ xs y,ρ[i]? = some (some (.own (.lst (xs ++ [y]))))/\D.nx ((ρ.set i (some (.own (.lst xs)))).set j (some (.sh true y)))
theorem Reps.snoc_inv {K:PySem.W.Frag}{M:Addr->Prop}{H:Hp}{us:List V}{xs:List PV}{y:PV} (r:Reps K M H us (xs ++ [y])):∃ vs v,us=vs ++ [v]/\Reps K M H vs xs/\aE K M H v y:=by
 have l:=r.length
 have h1:=r.take xs.length
 have h2:=r.drop xs.length
 rw [List.take_left] at h1
 rw [List.drop_left] at h2
 generalize hd:us.drop xs.length=ds at h2
 cases h2 with
 | cons q t=>
  cases t
  exact⟨_,_,by rw [<- hd,bk0],h1,q⟩
theorem aB1 {i j:Nat} (h:LS X (vW i j) D σ H):kK (F8 X.K "list" G2 (iG i)) (cN j) D σ H:=by
 obtain ⟨W,ρ,D',px,⟨xs,y,hi,q⟩,k⟩:=h
 obtain ⟨v,ev,a,rfl,wa,us,ea,r⟩:=px.sl i _ hi
 obtain ⟨vs,w,rfl,r1,ry⟩:=r.snoc_inv
 refine⟨_,ev,kO (aK.of ea),a,_,w,rfl,rfl,ea,by simp,?_⟩
 rw [List.dropLast_concat]
 have kp:iM (Ms X.H₀ W true) (Ms X.H₀ W true) H (upd H a (.lst vs)):=.upd ea rfl fun b m=>⟨kQ wa m,m⟩
 exact k.nx W _ _ _ (Ev.upd wa) ((px.updL hi ev wa (r1.keep kp)).setSh (ry.keep kp)) q
end
theorem Reps.atI {K:PySem.W.Frag}{M:Addr->Prop}{H:Hp}{us:List V}{xs:List PV}{i:Int}{z:PV} (r:Reps K M H us xs) (h:L2.atI xs i=some z):∃ v,L2.atI us i=some v/\aE K M H v z:=by
 unfold L2.atI at h ⊢
 rw [r.length]
 cases e:gL xs.length i with
 | none=>rw [e] at h; cases h
 | some j=>rw [e] at h; exact r.at h
section
variable {X : Cx} {σ : St} {H : Hp} {Q' : VK} {ta tb te : aG} {tr : dG}
noncomputable def vX:PV->Tg->PV->Tg->PK->Prop:=fun x g y _ Q=>∃ xs i z,lS x=some xs/\y = .int i/\L2.atI xs i=some z/\Q z g
theorem aB2:fP X vX (F2 X.K):=by
 rintro W Hs H u v x y g g' Q Q' s n r1 r2 ⟨xs,i,z,e,rfl,hz,q⟩ k
 cases r2
 obtain ⟨a,us,rfl,hs,r⟩:=r1.seq e
 obtain ⟨v,hv,rv⟩:=r.atI hz
 rcases hs with hs | hs
 ·exact .inl ⟨a,us,i,v,rfl,rfl,hs,hv,k v H z g (aD.refl _) rv q⟩
 ·exact .inr (.inl ⟨a,us,i,v,rfl,rfl,hs,hv,k v H z g (aD.refl _) rv q⟩)
noncomputable def vY:PV->Option Nat
 | .tup xs=>some xs.length
 | .lst xs=>some xs.length
 | .scr ns=>some ns.length
 | .dK ps=>some ps.length
 | .kt xs=>some xs.length
 | _=>none
noncomputable def cS:List PV->(PV->Prop)->Prop:=fun xs Q=>∃ x n,xs = [x]/\vY x=some n/\Q (.int n)
theorem Reps.one {K:PySem.W.Frag}{M:Addr->Prop}{H:Hp}{vs:List V}{x:PV} (r:Reps K M H vs [x]):∃ v,vs = [v]/\aE K M H v x:=by
 cases r with
 | cons r t=>cases t; exact⟨_,rfl,r⟩
theorem Reps.two {K:PySem.W.Frag}{M:Addr->Prop}{H:Hp}{vs:List V}{x y:PV} (r:Reps K M H vs [x,y]):∃ v w,vs = [v,w]/\aE K M H v x/\aE K M H w y:=by
 cases r with
 | cons r t=>
  obtain ⟨w,rfl,q⟩:=t.one
  exact⟨_,_,rfl,r,q⟩
theorem aB3:i9 X cS (fun xs H Q=>(∃ p ys,xs = [.ref p]/\(aK X.K H p ys ∨ aQ X.K H p ys)/\Q (.int ys.length) H) ∨ ∃ a kvs,xs = [V.ref a]/\H a=some (.dK kvs)/\Q (.int kvs.length) H):=by
 rintro H vs xs Q Q' r ⟨x,n,rfl,e,q⟩ k
 obtain ⟨v,rfl,r1⟩:=r.one
 have fin:∀ {m:Nat},m=n->Q' (.int m) H:=fun {m} z=>by rw [z]; exact k _ _ _ (aD.refl _) (.int _) q
 cases r1 with
 | tup h r2=>cases e; exact .inl ⟨_,_,rfl,.inr (aQ.of h),fin r2.length⟩
 | lst m h r2=>cases e; exact .inl ⟨_,_,rfl,.inl (aK.of h),fin r2.length⟩
 | scr h=>cases e; exact .inl ⟨_,_,rfl,.inl h.sqL,fin (by rw [bg5])⟩
 | kt h r2=>cases e; exact .inl ⟨_,_,rfl,.inr (.inr h),fin r2.length⟩
 | dK m h e' r=>
  cases e
  refine .inr ⟨_,_,rfl,h,fin ?_⟩
  have:=congrArg List.length e'
  rw [bg5,bg5] at this
  exact this
 | _=>cases e
noncomputable def seqT:PV->Option (List PV)
 | .kt _=>none
 | x=>lS x
noncomputable def O0:List PV->(PV->Prop)->Prop:=fun xs Q=>∃ x ys,xs = [x]/\seqT x=some ys/\flats ys=true/\Q (.tup ys)
theorem aB4:i9 X (fun xs Q=>O0 xs Q/\∀ ns,xs ≠ [.scr ns]) (fun xs H Q=>∃ p ys,xs = [.ref p]/\((aK X.K H p ys/\∀ l,H l=none->Q (.ref l) (upd H l (.tup ys))) ∨ (aQ X.K H p ys/\Q (.ref p) H))):=by
 rintro H vs xs Q Q' r ⟨⟨x,ys,rfl,e,f,q⟩,nsc⟩ k
 obtain ⟨v,rfl,r1⟩:=r.one
 cases r1 with
 | tup h r2=>cases e; exact⟨_,_,rfl,.inr ⟨aQ.of h,k _ _ _ (aD.refl _) (.tup h (r2.flat f)) q⟩⟩
 | lst m h r2=>cases e; exact⟨_,_,rfl,.inl ⟨aK.of h,fun l hl=>k _ _ _ (bN hl _) (.tup bL ((r2.flat f).same (bN hl _) fun _ z=>z)) q⟩⟩
 | scr h=>exact absurd rfl (nsc _)
 | _=>cases e
noncomputable def rH:List PV->(PV->Prop)->Prop:=fun xs Q=>∃ ns,xs = [.lst (intz ns)]/\ns.length < 64/\∀ ms:List Int,ms.Perm ns->ms.Pairwise (· <= ·)->Q (.lst (intz ms))
theorem aB5:i9 X rH (L0 X.K):=by
 rintro H vs xs Q Q' r ⟨ns,rfl,hl,q⟩ k
 obtain ⟨v,rfl,r1⟩:=r.one
 obtain ⟨a,us,rfl,_,h,r2⟩:=r1.sqL
 obtain rfl:=r2.ofInts
 exact⟨a,ns,rfl,aK.of h,hl,fun l ms hl' p o=>k _ _ _ (bN hl' _) (.lst hl' bL (Reps.intz ms)) (q ms p o)⟩
noncomputable def vZ:List PV->(PV->Prop)->Prop:=fun xs Q=>∃ bs:List Bool,xs = [.lst (bs.map PV.bl)]/\Q (.bl (bs.all id))
theorem Reps.ofBls {K:PySem.W.Frag}{M:Addr->Prop}{H:Hp}:∀ {ns:List Bool}{us:List V},Reps K M H us (ns.map PV.bl)->us=ns.map V.bl
 | [],_,.nil=>rfl
 | n :: r,_,.cons q t=>by
  cases q
  rw [Reps.ofBls t]; rfl
theorem aB6:i9 X vZ (fun xs H Q=>∃ (a:Addr) (bs:List Bool),xs = [.ref a]/\aK X.K H a (bs.map V.bl)/\Q (.bl (bs.all id)) H):=by
 rintro H vs xs Q Q' r ⟨bs,rfl,q⟩ k
 obtain ⟨v,rfl,r1⟩:=r.one
 obtain ⟨a,us,rfl,_,h,r2⟩:=r1.sqL
 obtain rfl:=r2.ofBls
 exact⟨a,bs,rfl,aK.of h,k _ _ _ (aD.refl _) (.bl _) q⟩
noncomputable def oS:List PV->(PV->Prop)->Prop:=fun xs Q=>∃ i j,xs = [.int i,.int j]/\Q (.int (if j < i then j else i))
noncomputable def oT:List PV->(PV->Prop)->Prop:=fun xs Q=>∃ i j,xs = [.int i,.int j]/\Q (.int (if j > i then j else i))
theorem aB7:i9 X oS (fun xs H Q=>∃ i j,xs = [.int i,.int j]/\Q (.int (if j < i then j else i)) H):=by
 rintro H vs xs Q Q' r ⟨i,j,rfl,q⟩ k
 obtain ⟨v,w,rfl,r1,r2⟩:=r.two
 cases r1; cases r2
 exact⟨i,j,rfl,k _ _ _ (aD.refl _) (.int _) q⟩
theorem aB8:i9 X oT (fun xs H Q=>∃ i j,xs = [.int i,.int j]/\Q (.int (if j > i then j else i)) H):=by
 rintro H vs xs Q Q' r ⟨i,j,rfl,q⟩ k
 obtain ⟨v,w,rfl,r1,r2⟩:=r.two
 cases r1; cases r2
 exact⟨i,j,rfl,k _ _ _ (aD.refl _) (.int _) q⟩
noncomputable abbrev bK:=List PV->(PV->Prop)->Prop
noncomputable def oU (K:PySem.W.Frag) (p:bK):Sp:=fun vs H Q _=>∃ xs Qp,Reps K (fun _=>True) H vs xs/\p xs Qp/\∀ v H' x,aD H H'->aE K (fun a=>H a=none) H' v x->Qp x->Q v H'
theorem aB9 {p:bK}{E:XK} (h:LE X (aC p tr) σ H Q'):uN (oU X.K p) [] E (LA X tr) σ H Q':=by
 obtain ⟨W,ρ,Q,px,q,k⟩:=h
 refine⟨W,ρ,_,px,q,fun vs H1 xs s1 r1 q1=>⟨_,_,by rw [bk4]; exact r1.any,q1,fun v H' x s2 r2 q2=>k v H' x .fr (s1.trans s2) (r2.same (aD.refl _) fun _ z=>s1.free z) q2⟩⟩
noncomputable def aC0:PV->Option Bool
 | .non=>some false
 | .bl b=>some b
 | .int i=>some (i != 0)
 | .tup xs=>some (!xs.isEmpty)
 | .lst xs=>some (!xs.isEmpty)
 | .dK ps=>some (!ps.isEmpty)
 | _=>none
noncomputable def jE (t:aG):cF:=fun ρ Q=>t ρ fun x _=>∃ b,aC0 x=some b/\Q b
theorem w4 {α β:Type}:∀ {l:List α}{m:List β},l.length=m.length->l.isEmpty=m.isEmpty
 | [],[],_=>rfl
 | _ :: _,_ :: _,_=>rfl
theorem aC1 {t:aG}{Qb:Bool->Hp->Prop} (h:LT X (jE t) σ H Qb):LE X t σ H fun x H'=>∃ k,uL X.K x H' k/\Qb k H':=by
 obtain ⟨W,ρ,Q,px,q,k⟩:=h
 refine⟨W,ρ,_,px,q,?_⟩
 rintro v H1 x g s r ⟨b,e,q⟩
 refine⟨b,?_,k _ _ s q⟩
 cases r with
 | non=>cases e; rfl
 | bl b=>cases e; rfl
 | int i=>cases e; rfl
 | str x=>cases e
 | tup h r=>cases e; exact .inr (.inl ⟨_,aQ.of h,by rw [w4 r.length]⟩)
 | lst m h r=>cases e; exact .inl ⟨_,aK.of h,by rw [w4 r.length]⟩
 | dK m h e' r=>
  cases e
  refine .inr (.inr ⟨_,h,?_⟩)
  have:=congrArg List.length e'
  rw [bg5,bg5] at this
  rw [w4 this]
 | dT m h e' r=>cases e
 | scr h=>cases e
 | kt h r=>cases e
 | exc h e' c=>cases e
 | fK h e' r=>cases e
 | fT h e' r=>cases e
noncomputable def w5:PV->Bool
 | .non=>true
 | _=>false
noncomputable def w6 (neg:Bool):PV->Tg->PV->Tg->PK->Prop:=fun x _ y _ Q=>y = .non/\Q (.bl (if neg=true then !w5 x else w5 x)) .fr
theorem aC2 {K:PySem.W.Frag}{M:Addr->Prop}{H:Hp}{v:V}{x:PV} (r:aE K M H v x):decide (v = .non)=w5 x:=by
 cases r <;> rfl
theorem aC3:fP X (w6 true) (fun x y H Q=>y = .non/\Q (.bl (!decide (x = .non))) H):=by
 rintro W Hs H u v x y g g' Q Q' s n r1 r2 ⟨rfl,q⟩ k
 cases r2
 exact⟨rfl,by rw [aC2 r1]; exact k _ _ _ _ (aD.refl _) (.bl _) q⟩
end
structure mW (K:PySem.W.Frag) (H0:Hp) (W:Addr->Prop) (g:Bool) (H1:Hp) (J:It) (xs:List PV):Prop where
 go:∀ W' H' i,Ev W H1 W' H'->i < xs.length->J.go i H'
 yld:∀ W' H' i v H2,Ev W H1 W' H'->J.yld i H' v H2->i < xs.length->aD H' H2/\∃ x,xs[i]? = some x/\aE K (Ms H0 W' g) H2 v x
 stop:∀ W' H',Ev W H1 W' H'->J.stop xs.length H'
noncomputable abbrev fJ:=bO->(List PV->Bool->Prop)->Prop
noncomputable def LI (X:Cx) (t:fJ):TI:=fun σ H R=>∃ (W:Addr->Prop) (ρ:bO) (Q:List PV->Bool->Prop),PX X.K X.H₀ W σ ρ H/\t ρ Q/\∀ J H1 xs g,aD H H1->mW X.K X.H₀ W g H1 J xs->Q xs g->R J H1
theorem Ev.keep {H0:Hp}{W W':Addr->Prop}{H H':Hp}{g:Bool} (e:Ev W H W' H') (tw:∀ a,W a->∃ o,H a=some o/\i8 o=true):iM (Ms H0 W g) (Ms H0 W' g) H H':=by
 have m:∀ {a:Addr}{o:HO},Ms H0 W g a->H a=some o->Ms H0 W' g a/\H' a=some o:=fun {a o} z h=>by
  cases g with
  | true=>
   obtain ⟨h1,h2⟩:=e a _ h z.1
   exact⟨⟨h2,z.2⟩,h1⟩
  | false=>
   obtain ⟨h1,h2⟩:=e a _ h z
   exact⟨h2,h1⟩
 refine⟨fun a _ z h=>m z h,fun a _ z h=>m z h,fun a _ z h=>m z h,fun a _ h=>(e a _ h fun z=>?_).1,fun a _ _ h=>(e a _ h fun z=>?_).1⟩
 ·obtain ⟨o,h',mu⟩:=tw a z; rw [h] at h'; cases h'; cases mu
 ·obtain ⟨o,h',mu⟩:=tw a z; rw [h] at h'; cases h'; cases mu
section
variable {X : Cx} {σ : St} {H : Hp} {te : aG} {tr : dG} {R : It → Hp → Prop}
noncomputable def O1 (K:PySem.W.Frag) (tl:TE):TI:=fun σ H R=>tl σ H fun x H1=>∃ a,x = .ref a/\((∃ xs,aK K H1 a xs/\R (mI K a) H1) ∨ (∃ xs,aQ K H1 a xs/\R (kL K a) H1))
noncomputable def rJ:Tg->List PV->Bool
 | .fr,_=>true
 | .nw,_=>true
 | _,xs=>flats xs
noncomputable def cT (te:aG):fJ:=fun ρ Q=>te ρ fun x g=>∃ xs,lS x=some xs/\(g = .rd->flat x=true)/\Q xs (rJ g xs)
theorem O2 {K:PySem.W.Frag}{H0:Hp}{W:Addr->Prop}{g:Bool}{H1:Hp}{a:Addr}{us:List V}{xs:List PV} (tw:∀ a,W a->∃ o,H1 a=some o/\i8 o=true) (ha:∀ W' H',Ev W H1 W' H'->aK K H' a us) (r:Reps K (Ms H0 W g) H1 us xs):mW K H0 W g H1 (mI K a) xs:=by
 have lr:=r.length
 refine⟨fun W' H' i e hi=>⟨us,us[i]'(by omega),ha W' H' e,by simp⟩,fun W' H' i v H2 e y hi=>?_,fun W' H' e=>⟨us,ha W' H' e,by omega⟩⟩
 obtain ⟨rfl,y⟩:=y
 obtain ⟨x,hx,rx⟩:=r.get (y us (ha W' _ e))
 exact⟨aD.refl _,x,hx,rx.keep (e.keep tw)⟩
theorem O3 {K:PySem.W.Frag}{H0:Hp}{W:Addr->Prop}{g:Bool}{H1:Hp}{a:Addr}{us:List V}{xs:List PV} (tw:∀ a,W a->∃ o,H1 a=some o/\i8 o=true) (ha:∀ W' H',Ev W H1 W' H'->aQ K H' a us) (r:Reps K (Ms H0 W g) H1 us xs):mW K H0 W g H1 (kL K a) xs:=by
 have lr:=r.length
 refine⟨fun W' H' i e hi=>⟨us,us[i]'(by omega),ha W' H' e,by simp⟩,fun W' H' i v H2 e y hi=>?_,fun W' H' e=>⟨us,ha W' H' e,by omega⟩⟩
 obtain ⟨rfl,y⟩:=y
 obtain ⟨x,hx,rx⟩:=r.get (y us (ha W' _ e))
 exact⟨aD.refl _,x,hx,rx.keep (e.keep tw)⟩
theorem lT {K:PySem.W.Frag}{H0 Hs H:Hp}{W:Addr->Prop}{σ:St}{ρ:bO}{g:Tg}{us:List V}{xs:List PV} (px:PX K H0 W σ ρ Hs) (hg:g = .rd->flats xs=true) (r:Reps K (Mg H0 W Hs g) H us xs):Reps K (Ms H0 W (rJ g xs)) H us xs:=by
 cases g with
 | fr=>exact r.same (aD.refl _) fun _ z=>px.new z
 | nw=>exact r.same (aD.refl _) fun _ z=>z
 | sh=>
  show Reps K (Ms H0 W (flats xs)) H us xs
  cases e:flats xs with
  | true=>exact r.flat e
  | false=>exact r.same (aD.refl _) fun _ z=>z
 | rd=>exact r.flat (hg rfl)
theorem aC4 (h:LI X (cT te) σ H R):O1 X.K (LE X te) σ H R:=by
 obtain ⟨W,ρ,Q,px,q,k⟩:=h
 refine⟨W,ρ,_,px,q,?_⟩
 rintro v H1 x g s r ⟨xs,e,hg,q⟩
 have px1:=px.mono s
 have tw:∀ a,W a->∃ o,H1 a=some o/\i8 o=true:=fun a z=>(px1.wm a z).2
 cases r with
 | tup h r=>
  cases e
  refine⟨_,rfl,.inr ⟨_,aQ.of h,k _ _ _ _ s (O3 tw (fun W' H' e=>aQ.of (e _ _ h fun z=>?_).1) (lT px (fun z=>by have:=hg z; unfold flat at this; exact this) r)) q⟩⟩
  obtain ⟨o,h',mu⟩:=tw _ z; rw [h] at h'; cases h'; cases mu
 | @lst a us xs' m h r=>
  cases e
  have wa : ¬ W a:=by
   cases g with
   | fr=>exact (px.new m).1
   | nw=>exact m.1
   | sh=>exact m
   | rd=>have:=hg rfl; unfold flat at this; cases this
  exact⟨_,rfl,.inl ⟨_,aK.of h,k _ _ _ _ s (O2 tw (fun W' H' e=>aK.of (e _ _ h wa).1) (lT px (fun z=>by have:=hg z; unfold flat at this; cases this) r)) q⟩⟩
 | scr h=>
  cases e
  refine⟨_,rfl,.inl ⟨_,h.sqL,k _ _ _ _ s (O2 tw (fun W' H' e=>(jT.keep (fun a o u hz=>(e _ _ hz fun z=>?_).1) h).sqL) (lT (g:=g) px (fun z=>c6 _) (Reps.intz _))) q⟩⟩
  obtain ⟨o,h',mu⟩:=tw _ z; rw [hz] at h'; cases h'; cases mu
 | kt h r=>
  cases e
  exact⟨_,rfl,.inr ⟨_,.inr h,k _ _ _ _ s (O3 tw (fun W' H' e=>.inr h) (lT px (fun z=>by have:=hg z; unfold flat at this; exact this) r)) q⟩⟩
 | _=>cases e
noncomputable def dW (lo:Int) (n:Nat):List PV:=(List.range n).map fun (i:Nat)=>PV.int (lo+(i:Int))
theorem eW (lo:Int) (n:Nat):(dW lo n).length=n:=by unfold dW; rw [bg5,bt8]
theorem w9 {lo:Int}{n i:Nat} (h:i < n):(dW lo n)[i]? = some (.int (lo+i)):=by unfold dW; rw [bh5,List.getElem?_range h]; rfl
noncomputable def jW (te:aG):fJ:=fun ρ Q=>te ρ fun x _=>∃ j:Int,x = .int j/\-1000000<=j/\j<=1000000/\Q (dW 0 j.toNat) true
noncomputable def rK (ta tb:aG):fJ:=fun ρ Q=>ta ρ fun x _=>tb ρ fun y _=>∃ i j:Int,x = .int i/\y = .int j/\(-1000000<=i/\i<=1000000/\-1000000<=j/\j<=1000000)/\Q (dW i (j - i).toNat) true
theorem O4 {K:PySem.W.Frag}{H0:Hp}{W:Addr->Prop}{H1:Hp} (lo:Int) (n:Nat):mW K H0 W true H1 (o0 lo n) (dW lo n):=by
 refine⟨fun W' H' i e hi=>by rw [eW] at hi; exact hi,fun W' H' i v H2 e y hi=>?_,fun W' H' e=>by show n<=(dW lo n).length; rw [eW]; exact bg9 _⟩
 rw [eW] at hi
 obtain ⟨rfl,rfl⟩:=y
 exact⟨aD.refl _,_,w9 hi,.int _⟩
theorem aC5 (h:LI X (jW te) σ H R):A7 (iI (LE X te) jM) σ H R:=by
 obtain ⟨W,ρ,Q,px,q,k⟩:=h
 refine⟨W,ρ,_,px,q,?_⟩
 rintro v H1 x g s r ⟨j,rfl,h1,h2,q⟩
 cases r
 exact⟨j,rfl,by omega,by omega,k _ _ _ _ s (O4 0 j.toNat) q⟩
theorem aC6 {ta tb:aG} (h:LI X (rK ta tb) σ H R):A8 (iI (LE X ta) (iI (LE X tb) jM)) σ H R:=by
 obtain ⟨W,ρ,Q,px,q,k⟩:=h
 refine⟨W,ρ,_,px,q,fun v H1 x g s r q=>⟨W,ρ,_,px.mono s,q,?_⟩⟩
 rintro w H2 y g' s2 r2 ⟨i,j,rfl,rfl,h,q⟩
 cases r; cases r2
 exact⟨i,j,rfl,by omega,k _ _ _ _ (s.trans s2) (O4 i (j - i).toNat) q⟩
end
noncomputable abbrev kR:=PV->Bool->bO->(bO->Prop)->Prop
noncomputable def oV (K:PySem.W.Frag) (own:Nat->Prop) (p:kR) (t:TG):Prop:=∀ (H0:Hp) (W:Addr->Prop) (σ:St) (ρ:bO) (H:Hp) (v:V) (x:PV) (g:Bool) (Q:bO->Prop) (Q':St->Hp->Prop),
 PX K H0 W σ ρ H->aE K (Ms H0 W g) H v x->p x g ρ Q->(∀ σ' ρ',PX K H0 W σ' ρ' H->(∀ i,¬ own i->σ'[i]? = σ[i]?)->σ'.length=σ.length->Q ρ'->Q' σ' H)->t v σ H Q'
noncomputable def bR (i:Nat):kR:=fun x g ρ Q=>Q (ρ.set i (some (.sh (g || flat x) x)))
theorem rL {K:PySem.W.Frag}{H0 H:Hp}{W:Addr->Prop}{v:V}{x:PV}{g:Bool} (r:aE K (Ms H0 W g) H v x):aE K (Ms H0 W (g || flat x)) H v x:=by
 cases g with
 | true=>exact r
 | false=>
  show aE K (Ms H0 W (flat x)) H v x
  cases e:flat x with
  | true=>exact r.flat e
  | false=>exact r
theorem rM (K:PySem.W.Frag) (i:Nat):oV K (· = i) (bR i) (cN i):=by
 intro H0 W σ ρ H v x g Q Q' px r q k
 exact k _ _ (px.setSh (rL r)) (fun j hj=>by rw [bk8 (Ne.symm hj)]) (bm7 ..) q
noncomputable def jX (i j:Nat):kR:=fun x g ρ Q=>∃ y z,x = .tup [y,z]/\Q ((ρ.set i (some (.sh (g || flat y) y))).set j (some (.sh (g || flat z) z)))
theorem wA (K:PySem.W.Frag) (i j:Nat):oV K (fun k=>k=i ∨ k=j) (jX i j) (lI K 2 (gJ (cN i) (gJ (cN j) lH))):=by
 intro H0 W σ ρ H v x g Q Q' px r q k
 obtain ⟨y,z,rfl,q⟩:=q
 obtain ⟨a,us,rfl,h,r⟩:=r.sqT
 obtain ⟨u1,u2,rfl,r1,r2⟩:=r.two
 refine⟨a,_,rfl,aQ.of h,rfl,u1,_,rfl,u2,_,rfl,rfl,k _ _ ((px.setSh (rL r1)).setSh (rL r2)) (fun k hk=>?_) (by rw [bm7,bm7]) q⟩
 rw [bk8 (fun e=>hk (.inr e.symm)),bk8 (fun e=>hk (.inl e.symm))]
section
variable {X : Cx} {σ : St} {H : Hp} {D : cY}
noncomputable def eB (ti:fJ) (p:kR) (tb:aR):aR:=fun D ρ=>ti ρ fun xs g=>∃ I:Nat->bO->Prop,I 0 ρ/\(∀ i x ρ',xs[i]? = some x->I i ρ'->p x g ρ' fun ρ2=>tb { D with nx:=I (i+1),ct:=I (i+1),bk:=D.nx } ρ2)/\∀ ρ',I xs.length ρ'->D.nx ρ'
theorem aC7 {ti:fJ}{p:kR}{g:TG}{tb:aR}{own:Nat->Prop} (hg:oV X.K own p g) (h:LS X (eB ti p tb) D σ H):A9 (LI X ti) g (LS X tb) D σ H:=by
 obtain ⟨W,ρ,D',px,q,k⟩:=h
 refine⟨W,ρ,_,px,q,?_⟩
 rintro J H1 xs gb s it ⟨I,i0,turn,fin⟩
 refine⟨fun i m σ2 H2=>m=xs.length - i/\i<=xs.length/\∃ W2 ρ2,PX X.K X.H₀ W2 σ2 ρ2 H2/\Ev W H1 W2 H2/\I i ρ2,⟨xs.length,by omega,bl0 _,W,ρ,px.mono s,Ev.refl _ _,i0⟩,?_⟩
 rintro i m σ2 H2 ⟨rfl,hi,W2,ρ2,px2,e2,i2⟩
 have e0:Ev W H W2 H2:=(Ev.same s).trans e2
 by_cases hlt:i < xs.length
 ·refine .inr ⟨it.go W2 H2 i e2 hlt,fun σ3 H3=>∃ W3 ρ3,PX X.K X.H₀ W3 σ3 ρ3 H3/\Ev W H1 W3 H3/\I (i+1) ρ3,fun σ3 H3 ⟨W3,ρ3,a,b,c⟩=>⟨xs.length - (i+1),by omega,rfl,hlt,W3,ρ3,a,b,c⟩,fun v H3 y=>?_⟩
  obtain ⟨s3,x,hx,rx⟩:=it.yld W2 H2 i v H3 e2 y hlt
  refine hg X.H₀ W2 σ2 ρ2 H3 v x gb _ _ (px2.mono s3) rx (turn i x ρ2 hx i2) fun σ4 ρ4 px4 _ _ q4=>?_
  have e3:Ev W H1 W2 H3:=e2.trans (Ev.same s3)
  have e3':Ev W H W2 H3:=e0.trans (Ev.same s3)
  exact⟨W2,ρ4,_,px4,q4,fun W' σ' H' ρ' e p q=>⟨W',ρ',p,e3.trans e,q⟩,k.rt,fun W' σ' H' ρ' e p q=>k.nx W' σ' H' ρ' (e3'.trans e) p q,fun W' σ' H' ρ' e p q=>⟨W',ρ',p,e3.trans e,q⟩⟩
 ·have e:i=xs.length:=by omega
  subst e
  exact .inl ⟨it.stop W2 H2 e2,k.nx W2 σ2 H2 ρ2 e0 px2 (fin ρ2 i2)⟩
end
noncomputable def mX (fr:List (Option Nat)) (ρ:bO):bO:=fr.map fun o=>o.bind fun j=>(ρ[j]?).join.map fun m=>Slot.sh false m.val
noncomputable def lU (D:Addr):Addr->Prop:=fun a=>a=D
theorem aC8 {K:PySem.W.Frag}{H0:Hp}{W:Addr->Prop}{σ:St}{ρ:bO}{H1 H':Hp}{D:Addr}{acc:List V}{fr:List (Option Nat)} (px:PX K H0 W σ ρ H1) (hD:H1 D=none) (s:aD H1 H') (ha:H' D=some (.lst acc)) :
  PX K H1 (lU D) (gB fr σ) (mX fr ρ) H':=by
 have old:∀ {a:Addr}{o:HO},H1 a=some o->a ≠ D:=fun {a o} e z=>by rw [z,hD] at e; cases e
 refine⟨by unfold gB mX; rw [bg5,bg5],s,fun a z=>by cases z; exact⟨hD,_,ha,rfl⟩,fun i m h=>?_,fun i j x y a h1=>?_⟩
 ·unfold mX at h
  rw [bh5] at h
  cases ef:fr[i]? with
  | none=>rw [ef] at h; cases h
  | some o=>
   rw [ef] at h
   cases o with
   | none=>cases h
   | some j=>
    have h:some ((ρ[j]?).join.map fun m=>Slot.sh false m.val)=some (some m):=h
    cases er:ρ[j]? with
    | none=>rw [er] at h; cases h
    | some o=>
     rw [er] at h
     cases o with
     | none=>cases h
     | some m0=>
      cases h
      obtain ⟨v,ev,r⟩:=px.sl j m0 er
      refine⟨v,?_,?_⟩
      ·unfold gB
       rw [bh5,ef]
       show some ((σ[j]?).join)=_
       rw [ev]; rfl
      ·have r':aE K (fun _=>True) H1 v m0.val:=(M9 (Hs:=H1) r).same (aD.refl _) fun _ _=>trivial
       exact r'.keep ⟨fun a _ _ e=>⟨old e,s _ _ e⟩,fun a _ _ e=>⟨old e,s _ _ e⟩,fun a _ _ e=>⟨old e,s _ _ e⟩,fun _ _ e=>s _ _ e,fun _ _ _ e=>s _ _ e⟩
 ·unfold mX at h1
  rw [bh5] at h1
  cases ef:fr[i]? with
  | none=>rw [ef] at h1; cases h1
  | some o=>
   rw [ef] at h1
   cases o with
   | none=>cases h1
   | some j=>
    have h1:some ((ρ[j]?).join.map fun m=>Slot.sh false m.val)=some (some (Slot.own x)):=h1
    cases er:ρ[j]? with
    | none=>rw [er] at h1; cases h1
    | some o=>
     rw [er] at h1
     cases o with
     | none=>cases h1
     | some m0=>cases h1
section
variable {X : Cx} {σ : St} {H : Hp} {Q' : VK}
noncomputable abbrev _root_.L2.Cx.frm (X:Cx) (H1:Hp):Cx:={ X with H₀:=H1 }
noncomputable def cU (ti:fJ) (fr:List (Option Nat)) (p:kR) (tc:cF) (te:aG):aG:=fun ρ Q=>ti ρ fun xs g=>xs.length<=16000000/\∃ I:Nat->List PV->Prop,I 0 []/\
 (∀ i x acc,xs[i]? = some x->I i acc->p x false (mX fr ρ) fun ρ2=>tc ρ2 fun b=>if b=true then te ρ2 fun y gy=>Nw gy y/\I (i+1) (acc ++ [y]) else I (i+1) acc)/\∀ acc,I xs.length acc->Q (.lst acc) .fr
theorem oW {ti:fJ}{fr:List (Option Nat)}{p:kR}{g:TG}{tc:cF}{te:aG}{own:Nat->Prop} (hg:oV X.K own p g) (ho:∀ i,own i->fr[i]? = some none) (h:LE X (cU ti fr p tc te) σ H Q') :
  vF (LI X ti) fr (fun _=>g) (fun H1=>LT (X.frm H1) tc) (fun H1=>LE (X.frm H1) te) σ H Q':=by
 obtain ⟨W,ρ,Q,px,q,k⟩:=h
 refine⟨W,ρ,_,px,q,?_⟩
 rintro J H1 xs gb s it ⟨hl,I,i0,turn,fin⟩ D hD
 have px1:=px.mono s
 refine⟨fun i m acc H'=>m=xs.length - i/\i<=xs.length/\aD H1 H'/\H' D=some (.lst acc)/\∃ ys,Reps X.K (Ms H1 (lU D) true) H' acc ys/\ys.length<=i/\I i ys,⟨xs.length,by omega,bl0 _,bN hD _,bL,[],.nil,bg9 _,i0⟩,?_⟩
 rintro i m acc H' ⟨rfl,hi,sm,ha,ys,ry,hy,iy⟩
 refine⟨ha,?_⟩
 have ev:Ev W H1 (mU W D) H':=Ev.own sm hD
 by_cases hlt:i < xs.length
 ·refine .inr ⟨it.go _ H' i ev hlt,fun v H2 y=>?_⟩
  obtain ⟨s2,x,hx,rx⟩:=it.yld _ H' i v H2 ev y hlt
  have ha2:=s2 _ _ ha
  have pxb:PX X.K H1 (lU D) (gB fr σ) (mX fr ρ) H2:=aC8 px1 hD (sm.trans s2) ha2
  have rx':aE X.K (Ms H1 (lU D) false) H2 v x:=rx.same (aD.refl _) fun a z=>by
   cases gb with
   | true=>exact fun e=>z.1 (.inr e)
   | false=>exact fun e=>z (.inr e)
  refine hg H1 (lU D) _ _ H2 v x false _ _ pxb rx' (turn i x ys hx iy) fun σ2 ρ2 px2 hown hlen q2=>⟨⟨hlen.symm,fun j w e=>?_⟩,?_⟩
  ·by_cases oj:own j
   ·have:=ho j oj
    unfold gB at e
    rw [bh5,this] at e
    cases e
   ·rw [hown j oj]; exact e
  ·refine⟨lU D,ρ2,_,px2,q2,fun b H4 s4 q4=>?_⟩
   have ha4:=s4 _ _ ha2
   have sm4:=(sm.trans s2).trans s4
   cases b with
   | false=>
    refine bB ⟨xs.length - (i+1),by omega,rfl,hlt,sm4,ha4,ys,ry.same (s2.trans s4) fun _ z=>z,by omega,by simpa using q4⟩
   | true=>
    refine bE ⟨lU D,ρ2,_,px2.mono s4,by simpa using q4,?_⟩
    rintro w H5 y gy s5 ryy ⟨nw,q5⟩
    have ha5:=s5 _ _ ha4
    have lr:=ry.length
    refine⟨ha5,i7 (by omega),xs.length - (i+1),by omega,rfl,hlt,fun b o e=>?_,bL,ys ++ [y],?_,by rw [bh6,bk5]; omega,q5⟩
    ·rw [aY (fun z=>by rw [z,hD] at e; cases e)]
     exact s5 _ _ (sm4 _ _ e)
    ·exact ((ry.same ((s2.trans s4).trans s5) fun _ z=>z).append (.cons (Nw.rep (px2.mono s4) nw ryy) .nil)).keep (.upd ha5 rfl fun b m=>⟨m.1,m⟩)
 ·have e:i=xs.length:=by omega
  subst e
  refine .inl ⟨it.stop _ H' ev,k _ H' _ .fr (s.trans sm) (.lst (s.free hD) ha (ry.same (aD.refl _) fun _ z=>s.free z.2)) (fin ys iy)⟩
noncomputable def eY:cF:=fun _ Q=>Q true
theorem aC9 {Qb:Bool->Hp->Prop} (h:LT X eY σ H Qb):vD σ H Qb:=by
 obtain ⟨W,ρ,Q,px,q,k⟩:=h
 exact k _ _ (aD.refl _) q
end
section
variable {κ : Type} [DecidableEq κ]
noncomputable def bM (ps:List (κ × PV)) (k:κ):Option PV:=(ps.find? fun p=>decide (p.1=k)).map (·.2)
noncomputable def dO (ps:List (κ × PV)) (k:κ) (x:PV):List (κ × PV):=if (ps.any fun p=>decide (p.1=k))=true then ps.map (fun p=>if p.1=k then (p.1,x) else p) else ps ++ [(k,x)]
variable {K : PySem.W.Frag} {M : Addr → Prop} {H : Hp}
theorem jY (k:κ):∀ {kvs:List (κ × V)}{ps:List (κ × PV)},kvs.map (·.1)=ps.map (·.1)->Reps K M H (kvs.map (·.2)) (ps.map (·.2))->(bM ps k=none->fO kvs k=none)/\∀ x,bM ps k=some x->∃ v,fO kvs k=some v/\aE K M H v x
 | [],[],_,_=>⟨fun _=>rfl,fun x h=>by cases h⟩
 | [],_ :: _,e,_=>by cases e
 | _ :: _,[],e,_=>by cases e
 | (k1,v) :: kvs,(k2,x) :: ps,e,r=>by
  injection e with e1 e2
  have e1:k1=k2:=e1
  subst e1
  cases r with
  | cons r t=>
   obtain ⟨h1,h2⟩:=jY k e2 t
   unfold bM fO at h1 h2 ⊢
   by_cases e:k1=k
   ·simp only [bs0,e,decide_true,Option.map_some]
    exact⟨fun z=>(by cases z),fun y z=>(by cases z; exact⟨v,rfl,r⟩)⟩
   ·simp only [bs0,e,decide_false]
    exact⟨h1,h2⟩
theorem aD0 (k:κ) {kvs:List (κ × V)}{ps:List (κ × PV)} (e:kvs.map (·.1)=ps.map (·.1)):(kvs.any fun p=>decide (p.1=k))=ps.any fun p=>decide (p.1=k):=by
 have h1:(kvs.any fun p=>decide (p.1=k))=(kvs.map (·.1)).any fun z=>decide (z=k):=by rw [List.any_map]; rfl
 have h2:(ps.any fun p=>decide (p.1=k))=(ps.map (·.1)).any fun z=>decide (z=k):=by rw [List.any_map]; rfl
 rw [h1,h2,e]
theorem O5 (k:κ) {w:V}{y:PV} (q:aE K M H w y):∀ {kvs:List (κ × V)}{ps:List (κ × PV)},kvs.map (·.1)=ps.map (·.1)->Reps K M H (kvs.map (·.2)) (ps.map (·.2))->
  (kvs.map fun kv=>if kv.1=k then (kv.1,w) else kv).map (·.1)=(ps.map fun kv=>if kv.1=k then (kv.1,y) else kv).map (·.1)/\Reps K M H ((kvs.map fun kv=>if kv.1=k then (kv.1,w) else kv).map (·.2)) ((ps.map fun kv=>if kv.1=k then (kv.1,y) else kv).map (·.2))
 | [],[],_,_=>⟨rfl,.nil⟩
 | [],_ :: _,e,_=>by cases e
 | _ :: _,[],e,_=>by cases e
 | (k1,v) :: kvs,(k2,x) :: ps,e,r=>by
  injection e with e1 e2
  have e1:k1=k2:=e1
  subst e1
  cases r with
  | cons r t=>
   obtain ⟨h1,h2⟩:=O5 k q e2 t
   by_cases e:k1=k
   ·simp only [bl3,e,if_true]
    exact⟨by rw [h1],.cons q h2⟩
   ·simp only [bl3,e,bp8]
    exact⟨by rw [h1],.cons r h2⟩
theorem O6 (k:κ) {w:V}{y:PV} (q:aE K M H w y) {kvs:List (κ × V)}{ps:List (κ × PV)} (e:kvs.map (·.1)=ps.map (·.1)) (r:Reps K M H (kvs.map (·.2)) (ps.map (·.2))) :
  (eJ kvs k w).map (·.1)=(dO ps k y).map (·.1)/\Reps K M H ((eJ kvs k w).map (·.2)) ((dO ps k y).map (·.2)):=by
 unfold eJ dO
 rw [aD0 k e]
 split
 ·exact O5 k q e r
 ·rw [bi3,bi3,bi3,bi3,e]
  exact⟨rfl,r.append (.cons q .nil)⟩
end
noncomputable def kP:aB->PV
 | .inl i=>.int i
 | .inr x=>.str x
theorem wB {K:PySem.W.Frag}{M:Addr->Prop}{H:Hp}{v:V}{k:aB} (r:aE K M H v (kP k)):v=kV k:=by
 cases k with
 | inl i=>cases r; rfl
 | inr x=>cases r; rfl
theorem O7 {K:PySem.W.Frag}{M:Addr->Prop}{H:Hp}:∀ {ks:List aB}{us:List V},Reps K M H us (ks.map kP)->us=ks.map kV
 | [],_,.nil=>rfl
 | k :: r,_,.cons q t=>by rw [wB q,O7 t]; rfl
noncomputable def O8:PV->PV
 | .fK ps=>.dK ps
 | .fT ps=>.dT ps
 | x=>x
noncomputable def O9 (x y:PV) (o:Option PV):Prop:=(∃ ps k,O8 x = .dK ps/\y=kP k/\o=bM ps k) ∨ (∃ ps k,O8 x = .dT ps/\y = .tup (k.map kP)/\o=bM ps k)
theorem wC {K:PySem.W.Frag}{M M2:Addr->Prop}{H:Hp}{v w:V}{x y:PV}{o:Option PV} (h:O9 x y o) (rx:aE K M H v x) (ry:aE K M2 H w y):∃ a o',v = .ref a/\gM H a w o'/\(o=none->o'=none)/\∀ z,o=some z->∃ u,o'=some u/\aE K M H u z:=by
 rcases h with ⟨ps,k,ex,rfl,rfl⟩ | ⟨ps,k,ex,rfl,rfl⟩
 ·obtain rfl:=wB ry
  cases rx with
  | dK m h e r=>cases ex; exact⟨_,_,rfl,gM.k h,(jY k e r).1,(jY k e r).2⟩
  | fK h e r=>cases ex; exact⟨_,_,rfl,.inl ⟨_,k,.inr ⟨_,h⟩,rfl,rfl⟩,(jY k e r).1,(jY k e r).2⟩
  | _=>cases ex
 ·obtain ⟨b,us,rfl,hb,rb⟩:=ry.sqT
  obtain rfl:=O7 rb
  cases rx with
  | dT m h e r=>cases ex; exact⟨_,_,rfl,gM.t h hb,(jY k e r).1,(jY k e r).2⟩
  | fT h e r=>cases ex; exact⟨_,_,rfl,.inr ⟨_,k,b,.inr ⟨_,h⟩,rfl,hb,rfl⟩,(jY k e r).1,(jY k e r).2⟩
  | _=>cases ex
section
variable {X : Cx} {σ : St} {H : Hp} {D : cY} {tk td te : aG} {Q' : VK}
noncomputable def iR (neg:Bool) (tk td:aG):aG:=fun ρ Q=>tk ρ fun y _=>td ρ fun x _=>∃ o,O9 x y o/\Q (.bl (if neg=true then !o.isSome else o.isSome)) .fr
theorem P0 {α β:Type}{o:Option α}{o':Option β}{P:β->α->Prop} (h1:o=none->o'=none) (h2:∀ z,o=some z->∃ u,o'=some u/\P u z):o'.isSome=o.isSome:=by
 cases o with
 | none=>rw [h1 rfl]; rfl
 | some z=>obtain ⟨u,e,_⟩:=h2 z rfl; rw [e]; rfl
theorem aD1 (h:LE X (iR false tk td) σ H Q'):G7 (LE X tk) (LE X td) σ H Q':=by
 obtain ⟨W,ρ,Q,px,q,k⟩:=h
 refine⟨W,ρ,_,px,q,fun w H1 y g s r q=>⟨W,ρ,_,px.mono s,q,?_⟩⟩
 rintro v H2 x g' s2 r2 ⟨o,ak,q⟩
 obtain ⟨a,o',rfl,dg,h1,h2⟩:=wC ak r2 (r.same s2 fun _ z=>z)
 refine⟨a,o',rfl,dg,?_⟩
 rw [P0 h1 h2]
 exact k _ _ _ .fr (s.trans s2) (.bl _) q
theorem P3 (h:LE X (iR true tk td) σ H Q'):G8 (LE X tk) (LE X td) σ H Q':=by
 obtain ⟨W,ρ,Q,px,q,k⟩:=h
 refine⟨W,ρ,_,px,q,fun w H1 y g s r q=>⟨W,ρ,_,px.mono s,q,?_⟩⟩
 rintro v H2 x g' s2 r2 ⟨o,ak,q⟩
 obtain ⟨a,o',rfl,dg,h1,h2⟩:=wC ak r2 (r.same s2 fun _ z=>z)
 refine⟨a,o',rfl,dg,?_⟩
 rw [P0 h1 h2]
 exact k _ _ _ .fr (s.trans s2) (.bl _) q
theorem PX.updD {K:PySem.W.Frag}{H0:Hp}{W:Addr->Prop}{σ:St}{ρ:bO}{H:Hp}{i:Nat}{a:Addr}{x:PV}{kvs:List (aB × V)}{ps:List (aB × PV)} (p:PX K H0 W σ ρ H) (hi:ρ[i]? = some (some (.own x))) (ha:σ[i]? = some (some (.ref a))) (wa:W a)
  (r:kvs.map (·.1)=ps.map (·.1)/\Reps K (Ms H0 W true) (upd H a (.dK kvs)) (kvs.map (·.2)) (ps.map (·.2))):PX K H0 W σ (ρ.set i (some (.own (.dK ps)))) (upd H a (.dK kvs)):=p.updOwn hi ha wa rfl (y:=.dK ps) ⟨kvs,bL,r⟩
theorem wE {κ α β:Type}{l:List (κ × α)}{m:List (κ × β)} (e:l.map (·.1)=m.map (·.1)):l.length=m.length:=by
 have:=congrArg List.length e
 rw [bg5,bg5] at this
 exact this
noncomputable def mY (i:Nat) (tk te:aG):aR:=fun D ρ=>te ρ fun z g=>∃ ps,ρ[i]? = some (some (.own (.dK ps)))/\tk ρ fun y _=>∃ k,y=kP k/\Nw g z/\ps.length < 16000000/\D.nx (ρ.set i (some (.own (.dK (dO ps k z)))))
theorem aD2 {i:Nat} (h:LS X (mY i tk te) D σ H):G9 (iG i) (LE X tk) (LE X te) D σ H:=by
 obtain ⟨W,ρ,D',px,q,k⟩:=h
 refine⟨W,ρ,_,px,q,?_⟩
 rintro w H1 z g s rz ⟨ps,hi,q⟩
 obtain ⟨v,ev,a,rfl,wa,kvs,ea,e1,r⟩:=(px.mono s).sl i _ hi
 refine⟨_,ev,W,ρ,_,px.mono s,q,?_⟩
 rintro kv H2 y g' s2 ry ⟨kk,rfl,nw,hl,q⟩
 obtain rfl:=wB ry
 have ea2:=s2 _ _ ea
 refine⟨a,_,rfl,oF.k ea2 (i7 (by rw [wE e1]; omega)),?_⟩
 refine k.nx W σ _ _ ((Ev.same (s.trans s2)).trans (Ev.upd wa)) ((px.mono (s.trans s2)).updD hi ev wa ?_) q
 obtain ⟨h1,h2⟩:=O6 kk ((Nw.rep px nw rz).same s2 fun _ z=>z) e1 (r.same s2 fun _ z=>z)
 exact⟨h1,h2.keep (.upd ea2 rfl fun b m=>⟨kQ wa m,m⟩)⟩
theorem aD3 (h:LE X (qC (.dK [])) σ H Q'):J2 σ H Q':=by
 obtain ⟨W,ρ,Q,px,q,k⟩:=h
 exact fun p hp=>k _ _ _ .fr (bN hp _) (.dK hp bL rfl .nil) q
noncomputable def iA (ps more:List (aB × PV)):List (aB × PV):=more.foldl (fun acc kv=>dO acc kv.1 kv.2) ps
theorem P4 {K:PySem.W.Frag}{M:Addr->Prop}{H:Hp}:∀ {more:List (aB × V)}{mp:List (aB × PV)}{kvs:List (aB × V)}{ps:List (aB × PV)},more.map (·.1)=mp.map (·.1)->Reps K M H (more.map (·.2)) (mp.map (·.2))->kvs.map (·.1)=ps.map (·.1)->Reps K M H (kvs.map (·.2)) (ps.map (·.2))->
  (jC kvs more).map (·.1)=(iA ps mp).map (·.1)/\Reps K M H ((jC kvs more).map (·.2)) ((iA ps mp).map (·.2))
 | [],[],_,_,_,_,e,r=>⟨e,r⟩
 | [],_ :: _,_,_,e,_,_,_=>by cases e
 | _ :: _,[],_,_,e,_,_,_=>by cases e
 | (k1,v) :: more,(k2,x) :: mp,kvs,ps,e,r,e',r'=>by
  injection e with e1 e2
  have e1:k1=k2:=e1
  subst e1
  cases r with
  | cons q t=>
   obtain ⟨h1,h2⟩:=O6 k1 q e' r'
   exact P4 (more:=more) (mp:=mp) e2 t h1 h2
noncomputable def rN (i:Nat) (te:aG):aR:=fun D ρ=>∃ ps,ρ[i]? = some (some (.own (.dK ps)))/\te ρ fun y g=>∃ mp,y = .dK mp/\(g = .fr ∨ (g = .nw/\False))/\ps.length+mp.length<=16000000/\D.nx (ρ.set i (some (.own (.dK (iA ps mp)))))
theorem aD4 {i:Nat} (h:LS X (rN i te) D σ H):nZ (M6 (iG i) (LE X te)) D σ H:=by
 obtain ⟨W,ρ,D',px,⟨ps,hi,q⟩,k⟩:=h
 obtain ⟨v,ev,a,rfl,wa,kvs,ea,e1,r⟩:=px.sl i _ hi
 refine⟨_,ev,a,rfl,.inl ⟨kvs,.inl ea⟩,W,ρ,_,px,q,?_⟩
 rintro w H1 y g s ry ⟨mp,rfl,hg,hl,q⟩
 rcases hg with rfl | ⟨_,z⟩
 ·cases ry with
  | @dK b more _ m hb e2 rb=>
   have hab:a ≠ b:=fun z=>by subst z; rw [show H a=none from m] at ea; cases ea
   have ea1:=s _ _ ea
   refine⟨b,kvs,more,rfl,hab,ea1,hb,lim (by rw [wE e1,wE e2]; exact hl),?_⟩
   refine k.nx W σ _ _ ((Ev.same s).trans (Ev.upd wa)) ((px.mono s).updD hi ev wa ?_) q
   obtain ⟨h1,h2⟩:=P4 e2 (rb.same (M':=Ms X.H₀ W true) (aD.refl _) fun _ z=>px.new z) e1 (r.same s fun _ z=>z)
   exact⟨h1,h2.keep (.upd ea1 rfl fun b m=>⟨kQ wa m,m⟩)⟩
 ·exact z.elim
end
noncomputable def cV:Nat->PV->PV->Bool
 | _,.non,.non=>true
 | _,.bl a,.bl b=>a == b
 | _,.int a,.int b=>a == b
 | _,.str a,.str b=>a == b
 | n+1,.tup xs,.tup ys=>(xs.zip ys).all (fun p=>cV n p.1 p.2) && xs.length == ys.length
 | n+1,.lst xs,.lst ys=>(xs.zip ys).all (fun p=>cV n p.1 p.2) && xs.length == ys.length
 | n+1,.kt xs,.kt ys=>(xs.zip ys).all (fun p=>cV n p.1 p.2) && xs.length == ys.length
 | _,_,_=>false
noncomputable def fL:Nat->PV->PV->Bool
 | _,.non,.non=>true
 | _,.bl _,.bl _=>true
 | _,.int _,.int _=>true
 | _,.str _,.str _=>true
 | _,.non,.int _=>true
 | _,.int _,.non=>true
 | n+1,.tup xs,.tup ys=>(xs.zip ys).all (fun p=>fL n p.1 p.2)
 | n+1,.lst xs,.lst ys=>(xs.zip ys).all (fun p=>fL n p.1 p.2)
 | n+1,.kt xs,.kt ys=>(xs.zip ys).all (fun p=>fL n p.1 p.2)
 | _+1,.non,.tup _=>true
 | _+1,.tup _,.non=>true
 | _,_,_=>false
theorem aD5 (n:Nat) (a b:Int):cV n (.int a) (.int b)=(a == b):=by cases n <;> rfl
theorem P5 (n:Nat):∀ (a b:List Int),((((intz a).zip (intz b)).all fun p=>cV n p.1 p.2) && (intz a).length == (intz b).length)=decide (a=b)
 | [],[]=>rfl
 | [],_ :: _=>by simp
 | _ :: _,[]=>by simp
 | x :: a,y :: b=>by
  have ih:=P5 n a b
  simp only [bl3,List.zip_cons_cons,bu5,bi9,aD5] at ih ⊢
  by_cases e:x=y
  ·subst e
   have:((intz a).length+1 == (intz b).length+1)=((intz a).length == (intz b).length):=by simp
   rw [this,bp9,Bool.true_and,ih]
   simp
  ·have:(x == y)=false:=beq_eq_false_iff_ne.mpr e
   rw [this,Bool.false_and,Bool.false_and]
   simp [e]
theorem aD6 (n:Nat) (a b:List Int):cV (n+1) (.tup (intz a)) (.tup (intz b))=decide (a=b):=P5 n a b
theorem P6 (n:Nat):∀ (a b:List Int),(((intz a).zip (intz b)).all fun p=>fL n p.1 p.2)=true
 | [],_=>by simp
 | _ :: _,[]=>by simp
 | x :: a,y :: b=>by
  simp only [bl3,List.zip_cons_cons,bu5,P6 n a b,bu6]
  cases n <;> rfl
theorem aD7 (n:Nat) (a b:List Int):fL (n+1) (.tup (intz a)) (.tup (intz b))=true:=P6 n a b
noncomputable def oX (neg:Bool):PV->Tg->PV->Tg->PK->Prop:=fun x _ y _ Q=>∃ i ns,x = .int i/\lS y=some (intz ns)/\Q (.bl (if neg=true then !decide (i ∈ ns) else decide (i ∈ ns))) .fr
noncomputable def wF (n:Nat) (neg:Bool):PV->Tg->PV->Tg->PK->Prop:=fun x _ y _ Q=>((∃ xs ys,x = .tup xs/\y = .tup ys) ∨ (∃ xs ys,x = .lst xs/\y = .lst ys))/\fL (n+1) x y=true/\Q (.bl (if neg=true then !cV (n+1) x y else cV (n+1) x y)) .fr
noncomputable abbrev oY:=bO->(Option Int->Prop)->Prop
noncomputable def kS (xs:List PV) (lo hi:Option Int):List PV:=(xs.drop (HT.b6 xs.length 0 lo)).take (HT.b6 xs.length xs.length hi - HT.b6 xs.length 0 lo)
noncomputable def aD8:PV->List PV->PV
 | .tup _,ys=>.tup ys
 | .kt _,ys=>.tup ys
 | _,ys=>.lst ys
noncomputable def oZ (te:aG):oY:=fun ρ Q=>te ρ fun x _=>∃ i,x = .int i/\Q (some i)
noncomputable def wG (te:aG) (tl th:oY):aG:=fun ρ Q=>te ρ fun x _=>tl ρ fun lo=>th ρ fun hi=>∃ xs,seqT x=some xs/\flats xs=true/\Q (aD8 x (kS xs lo hi)) .fr
noncomputable def gC (N:List Str) (xs:List PV):bO:=xs.map (fun x=>some (.sh (flat x) x)) ++ List.replicate (N.length - xs.length) none
noncomputable abbrev eL (ta tb:aG):aG:=q2 (fI fun i j=>.int (i+j)) ta tb
noncomputable abbrev mZ (ta tb:aG):aG:=q2 (fI fun i j=>.int (i - j)) ta tb
noncomputable abbrev p5 (ta tb:aG):aG:=q2 (RI o5 fun i j=>.int (i * j)) ta tb
noncomputable abbrev kT (ta tb:aG):aG:=q2 (RI uI fun i j=>.int (i / j)) ta tb
noncomputable abbrev eC (ta tb:aG):aG:=q2 (RI (fun _ j=>0 < j) fun i j=>.int (i % j)) ta tb
noncomputable abbrev aD9 (ta tb:aG):aG:=q2 (RI (fun _ j=>0<=j) fun i j=>.int (i / 2 ^ j.toNat)) ta tb
noncomputable abbrev p6 (ta tb:aG):aG:=q2 (fI fun i j=>.bl (decide (i < j))) ta tb
noncomputable abbrev p9 (ta tb:aG):aG:=q2 (fI fun i j=>.bl (decide (j < i))) ta tb
noncomputable abbrev wH (ta tb:aG):aG:=q2 (fI fun i j=>.bl (decide (j<=i))) ta tb
noncomputable abbrev gR (ta tb:aG):aG:=q2 (lP false) ta tb
noncomputable abbrev qNe (ta tb:aG):aG:=q2 (lP true) ta tb
noncomputable abbrev aE0 (ta tb:aG):aG:=q2 (w6 true) ta tb
noncomputable abbrev bI (ta tb:aG):aG:=q2 vX ta tb
noncomputable def fQ:List PV->(PV->Prop)->Prop:=fun xs Q=>O0 xs Q/\∀ ns,xs ≠ [.scr ns]
noncomputable def P7:aR:=fun _ _=>False
noncomputable def QE (X:Cx) (e:Expr) (t:aG):Prop:=PE X e (LE X t)
noncomputable def QT (X:Cx) (e:Expr) (t:cF):Prop:=PT X e (LT X t)
noncomputable def QW (X:Cx) (e:Expr) (t:cF):Prop:=PW X e (LT X t)
noncomputable def QA (X:Cx) (es:List Expr) (t:dG):Prop:=PA X es (LA X t)
noncomputable def QS (X:Cx) (st:Stmt) (t:aR):Prop:=PS X st (LS X t)
noncomputable def fR (X:Cx) (st:List Stmt) (t:aR):Prop:=eU X st (LS X t)
noncomputable def QI (X:Cx) (tg iter:Expr) (t:fJ):Prop:=PI X tg iter (LI X t)
section
variable {X : Cx}
theorem cG {e:Expr}{t t':TE} (h:PE X e t) (m:∀ σ H Q,t' σ H Q->t σ H Q):PE X e t':=fun pins s σ H Q I q=>h pins s σ H Q I (m σ H Q q)
theorem nA {e:Expr}{t t':TT} (h:PT X e t) (m:∀ σ H Q,t' σ H Q->t σ H Q):PT X e t':=fun pins s σ H Q I q=>h pins s σ H Q I (m σ H Q q)
theorem P8 {e:Expr}{t t':TT} (h:PW X e t) (m:∀ σ H Q,t' σ H Q->t σ H Q):PW X e t':=fun wh pins s σ H Q I q=>h wh pins s σ H Q I (m σ H Q q)
theorem P9 {e:List Expr}{t t':TA} (h:PA X e t) (m:∀ σ H Q,t' σ H Q->t σ H Q):PA X e t':=fun pos pins s σ H Q I q=>h pos pins s σ H Q I (m σ H Q q)
theorem eD {e:Stmt}{t t':TS} (h:PS X e t) (m:∀ D σ H,t' D σ H->t D σ H):PS X e t':=fun pins s σ H D I q=>h pins s σ H D I (m D σ H q)
theorem Q0 {e:List Stmt}{t t':TS} (h:eU X e t) (m:∀ D σ H,t' D σ H->t D σ H):eU X e t':=fun pins s σ H D I q=>h pins s σ H D I (m D σ H q)
theorem pA {tg e:Expr}{t t':TI} (h:PI X tg e t) (m:∀ σ H R,t' σ H R->t σ H R):PI X tg e t':=fun pins s σ H R I q=>h pins s σ H R I (m σ H R q)
variable {a b c e o : Expr} {es dE : List Expr} {ta tb te to tk : aG} {tr : dG} {tA tB' tc : cF} {pos p2 px : Pos} {st : Stmt} {sts : List Stmt} {t u : aR}
theorem qv (i:Nat) {x:Str}{pos:Pos} (hN:X.N[i]? = some x:=by rfl) (hv:gI X.env.scope x:=by first | exact Or.inl rfl | exact Or.inr (Or.inl rfl) | exact Or.inr (Or.inr rfl)) (hd:(x == ("__debug__" : Str))=false:=by decide)
  (hcd:(x == ("__classdict__" : Str))=false:=by decide):QE X (.Name x pos) (a5 i):=cG (j8 hN hv hd hcd) fun _ _ _=>ay9
theorem aJ {i j}:QE X (.Constant (.int i) j pos) (qC (.int i)):=cG lD fun _ _ _=>rB fun _=>.int i
theorem iS {i j}:QE X (.Constant (.bool i) j pos) (qC (.bl i)):=cG zQ fun _ _ _=>rB fun _=>.bl i
theorem Q2 {j}:QE X (.Constant .none j pos) (qC .non):=cG am2 fun _ _ _=>rB fun _=>.non
theorem wI {i j}:QE X (.Constant (.str i) j pos) (qC (.str i)):=cG am3 fun _ _ _=>rB fun _=>.str i
theorem kU {op:Operator}{R:PV->Tg->PV->Tg->PK->Prop}{r:R2} (ho:cJ X (binaryOp op) r) (cv:fP X R r) (ha:QE X a ta) (hb:QE X b tb):QE X (.BinOp a op b pos) (q2 R ta tb):=cG (ao8 ho ha hb) fun _ _ _=>rC cv
theorem eZ (ha:QE X a ta) (hb:QE X b tb):QE X (.BinOp a .Add b pos) (q2 (fI fun i j=>.int (i+j)) ta tb):=kU ap0 vS ha hb
theorem nB (ha:QE X a ta) (hb:QE X b tb):QE X (.BinOp a .Sub b pos) (q2 (fI fun i j=>.int (i - j)) ta tb):=kU ap1 vS ha hb
theorem pB (ha:QE X a ta) (hb:QE X b tb):QE X (.BinOp a .Mult b pos) (q2 (RI o5 fun i j=>.int (i * j)) ta tb):=kU ap2 rD ha hb
theorem kW (ha:QE X a ta) (hb:QE X b tb):QE X (.BinOp a .FloorDiv b pos) (q2 (RI uI fun i j=>.int (i / j)) ta tb):=kU ap3 rD ha hb
theorem eM (ha:QE X a ta) (hb:QE X b tb):QE X (.BinOp a .Mod b pos) (q2 (RI (fun _ j=>0 < j) fun i j=>.int (i % j)) ta tb):=kU ap4 rD ha hb
theorem aE1 (ha:QE X a ta) (hb:QE X b tb):QE X (.BinOp a .RShift b pos) (q2 (RI (fun _ j=>0<=j) fun i j=>.int (i / 2 ^ j.toNat)) ta tb):=kU ap5 rD ha hb
theorem pC {op:CmpOp}{R:PV->Tg->PV->Tg->PK->Prop}{r:R2} (ho:cJ X (compareOp op) r) (cv:fP X R r) (ha:QE X a ta) (hb:QE X b tb) (hm:behindInMarks op b=false):QE X (.Compare a [op] [b] pos) (q2 R ta tb):=cG (uK ho ha hb hm) fun _ _ _=>rC cv
theorem kX {op:CmpOp}{R:PV->Tg->PV->Tg->PK->Prop}{r:R2} (ho:cJ X (compareOp op) r) (cv:fP X R r) (ha:QE X a ta) (hb:QE X b tb) (hm:behindInMarks op b=false):QT X (.Compare a [op] [b] pos) (bC (q2 R ta tb)):=nA (aq0 ho ha hb hm) fun _ _ _ h=>rC cv (rE h)
theorem aE2 (ha:QE X a ta) (hb:QE X b tb):QE X (.Compare a [.Lt] [b] pos) (q2 (fI fun i j=>.bl (decide (i < j))) ta tb):=pC qJ oN ha hb (gK _)
theorem Q3 (ha:QE X a ta) (hb:QE X b tb):QE X (.Compare a [.GtE] [b] pos) (q2 (fI fun i j=>.bl (decide (j<=i))) ta tb):=pC B9 oN ha hb (gK _)
theorem rO (ha:QE X a ta) (hb:QE X b tb):QE X (.Compare a [.Eq] [b] pos) (q2 (lP false) ta tb):=pC B7 N2 ha hb (gK _)
theorem rP (ha:QE X a ta) (hb:QE X b tb):QT X (.Compare a [.Lt] [b] pos) (bC (q2 (fI fun i j=>.bl (decide (i < j))) ta tb)):=kX qJ oN ha hb (gK _)
theorem rQ (ha:QE X a ta) (hb:QE X b tb):QT X (.Compare a [.Gt] [b] pos) (bC (q2 (fI fun i j=>.bl (decide (j < i))) ta tb)):=kX ap7 oN ha hb (gK _)
theorem aE3 (ha:QE X a ta) (hb:QE X b tb):QT X (.Compare a [.GtE] [b] pos) (bC (q2 (fI fun i j=>.bl (decide (j<=i))) ta tb)):=kX B9 oN ha hb (gK _)
theorem jZ (ha:QE X a ta) (hb:QE X b tb):QT X (.Compare a [.Eq] [b] pos) (bC (q2 (lP false) ta tb)):=kX B7 N2 ha hb (gK _)
theorem aE4 (ha:QE X a ta) (hb:QE X b tb):QT X (.Compare a [.NotEq] [b] pos) (bC (q2 (lP true) ta tb)):=kX B8 az0 ha hb (gK _)
theorem aE5 (ha:QE X a ta) (hb:QE X b tb):QT X (.Compare a [.IsNot] [b] pos) (bC (q2 (w6 true) ta tb)):=kX ap8 aC3 ha hb (gK _)
theorem Q4 (hu:X.A.units+1 < cLine) (hk:QE X a tk) (hd:QE X b te) (hm:behindInMarks .In b=false:=by rfl):QT X (.Compare a [.In] [b] pos) (bC (iR false tk te)):=nA (zT (au2 hu hk hd) hm) fun _ _ _ h=>aD1 (rE h)
theorem wJ (hu:X.A.units+1 < cLine) (hk:QE X a tk) (hd:QE X b te) (hm:behindInMarks .NotIn b=false:=by rfl):QT X (.Compare a [.NotIn] [b] pos) (bC (iR true tk te)):=nA (zT (J0 hu hk hd) hm) fun _ _ _ h=>P3 (rE h)
theorem aE6 (hu:X.A.units+1 < cLine) (hk:QE X a tk) (hd:QE X b te) (hm:behindInMarks .NotIn b=false:=by rfl):QE X (.Compare a [.NotIn] [b] pos) (iR true tk te):=cG (am4 (J0 hu hk hd) hm) fun _ _ _ h=>P3 h
theorem jF (h:QE X e te) (he:∀ whole,isTrue e X.env whole=(do let v <- whole; standAt e.pos; holding [v] (truthy v)):=by intro _; rfl):QT X e (bC te):=nA (am5 h he) fun _ _ _ h=>rE h
theorem kY (h:QE X e te) (he:∀ whole,isTrue e X.env whole=(do let v <- whole; standAt e.pos; holding [v] (truthy v)):=by intro _; rfl):QT X e (jE te):=nA (aq3 h he) fun _ _ _ h=>aC1 h
theorem wK (ha:QT X a tA):QW X (.BoolOp .And [a] pos) tA:=am6 ha
theorem wL (ha:QT X a tA):QW X (.BoolOp .Or [a] pos) tA:=am7 ha
theorem wM (ha:QT X a tA) (hb:QW X (.BoolOp .And (b :: dE) pos) tB'):QW X (.BoolOp .And (a :: b :: dE) pos) (oO tA tB'):=P8 (am8 ha hb) fun _ _ _=>az1
theorem pD (ha:QT X a tA) (hb:QW X (.BoolOp .Or (b :: dE) pos) tB'):QW X (.BoolOp .Or (a :: b :: dE) pos) (lQ tA tB'):=P8 (am9 ha hb) fun _ _ _=>az2
theorem nC (h:QW X e tA):QT X e tA:=PW.pt h
theorem k4 (ha:QT X a tA):QT X (.UnaryOp .Not a pos) (iP tA):=nA (an0 ha) fun _ _ _=>az3
theorem wN {op} (h:QE X a ta):QE X (.BoolOp op [a] pos) ta:=an1 h
theorem wO (ha:QE X a ta) (hb:QE X (.BoolOp .And (b :: dE) pos) tb):QE X (.BoolOp .And (a :: b :: dE) pos) (oP ta tb):=cG (an2 ha hb) fun _ _ _=>az4
theorem aA:QA X [] a9:=P9 dF fun _ _ _=>az5
theorem a8 (ha:QE X e te) (hr:QA X es tr) (hs:starEach (e :: es) X.env=(false,eval e X.env) :: starEach es X.env:=by rfl):QA X (e :: es) (a7 te tr):=P9 (cO ha hr hs) fun _ _ _=>az6
theorem kZ {x1} (h:QA X es tr):QE X (.Tuple es x1 pos) (iQ tr):=cG (aq6 h) fun _ _ _=>az7
theorem iT (h:QA X es tr):QE X (.List es pos) (gP tr):=cG (uM h) fun _ _ _=>az8
theorem bJ (ha:QE X a ta) (hb:QE X b tb) (hs:E7 b:=by exact fun _ _=>rfl):QE X (.Subscript a b pos) (q2 vX ta tb):=cG (jO as1 ha hb hs) fun _ _ _=>rC aB2
theorem rR:QE X (.Dict [] [] pos) (qC (.dK [])):=cG au4 fun _ _ _=>aD3
theorem l4 {x:Str}{id:String}{R:List PV->(PV->Prop)->Prop}{r:List V->Hp->VK->Prop} (hc:dQ X (.builtin id) r) (cv:i9 X R r) (hg:Gl X x) (hm:X.mg x=none) (hv:bootBuiltins x=some (.builtin id)) (ha:QA X (e :: es) tr) (hn:x ≠ "__name__":=by decide) (hdb:(x == ("__debug__" : Str))=false:=by decide)
  (he:starEach (e :: es) X.env=(false,eval e X.env) :: starEach es X.env:=by rfl) (hpl:(backTo pos (starEach es X.env)).any (·.1)=false:=by rfl):QE X (.Call (.Name x p2) (e :: es) [] pos) (aC R tr):=cG (uQ hc hg hm hv ha hn hdb he hpl) fun _ _ _=>N3 cv
theorem aE7 {x:Str}{T:String}{R:List PV->(PV->Prop)->Prop}{r:List V->Hp->VK->Prop} (hc:dQ X (.type T) r) (cv:i9 X R r) (hg:Gl X x) (hm:X.mg x=none) (hv:bootBuiltins x=some (.type T)) (ha:QA X (e :: es) tr) (hn:x ≠ "__name__":=by decide) (hdb:(x == ("__debug__" : Str))=false:=by decide)
  (he:starEach (e :: es) X.env=(false,eval e X.env) :: starEach es X.env:=by rfl) (hpl:(backTo pos (starEach es X.env)).any (·.1)=false:=by rfl):QE X (.Call (.Name x p2) (e :: es) [] pos) (aC R tr):=cG (uR hc hg hm hv ha hn hdb he hpl) fun _ _ _=>N3 cv
theorem dX:fR X [] cZ:=Q0 an4 fun _ _ _=>az9
theorem aI (h1:QS X st t) (h2:fR X sts u):fR X (st :: sts) (aF t u):=Q0 (lE h1 h2) fun _ _ _=>aA0
theorem aT (h1:QS X st t):fR X [st] t:=lF h1
theorem aE8:QS X st P7:=eD an7 fun _ _ _ ⟨_,_,_,_,h,_⟩=>h
theorem bG {i:Nat}{x:Str} (hN:X.N.Nodup) (he:QE X e te) (hi:X.N[i]? = some x:=by rfl) (hx:j7 X.env.scope x:=by first | exact Or.inl rfl | exact Or.inr rfl) (hs:swapsWith e (some (.Name x p2)) pos.line X.env=pure false:=by rfl) (hf:X.fn x=true ∨ X.env.scope.names.lookup x=some .local:=by first | exact .inl rfl | exact .inr rfl) :
  QS X (.Assign [.Name x p2] e pos) (bF i te):=eD (uD hN hi hx he hs hf) fun _ _ _=>N6
theorem eF {i:Nat}{x:Str} (hN:X.N.Nodup) (he:QE X e te) (hi:X.N[i]? = some x:=by rfl) (hx:j7 X.env.scope x:=by first | exact Or.inl rfl | exact Or.inr rfl) (hs:swapsWith e (some (.Name x p2)) pos.line X.env=pure false:=by rfl) (hf:X.fn x=true ∨ X.env.scope.names.lookup x=some .local:=by first | exact .inl rfl | exact .inr rfl) :
  QS X (.Assign [.Name x p2] e pos) (dA i te):=eD (uD hN hi hx he hs hf) fun _ _ _=>N8
theorem wP (i:Nat) (h:QS X st t):QS X st (oR i t):=eD h fun _ _ _=>aA3
theorem bT (he:QE X e te):QS X (.Return (some e) pos) (bP te):=eD (mF he) fun _ _ _=>aA4
theorem lV (i:Nat) {x:Str} (hN:X.N[i]? = some x:=by rfl) (hv:gI X.env.scope x:=by first | exact Or.inl rfl | exact Or.inr (Or.inl rfl) | exact Or.inr (Or.inr rfl)) (hd:(x == ("__debug__" : Str))=false:=by decide) (hcd:(x == ("__classdict__" : Str))=false:=by decide) :
  QS X (.Return (some (.Name x p2)) pos) (jV i):=eD (mF (j8 hN hv hd hcd)) fun _ _ _=>aA5
theorem dP {sa sb:List Stmt} (hc:QT X c tc) (ha:fR X sa t) (hb:fR X sb u):QS X (.If c sa sb pos) (cR tc t u):=eD (an5 hc ha hb) fun _ _ _=>aA6
theorem pE {body:List Stmt} (hp:PassesOwn (model X.prog X.w) X.A X.env X.xe) (hc:QT X c tc) (hb:fR X body t):QS X (.While c body [] pos) (lR tc t):=eD (ao0 hp hc hb) fun _ _ _=>aA7
theorem lW (i:Nat) {x:Str}{apos cpos xpos:Pos} (he:QE X e te) (hN:X.N[i]? = some x:=by rfl) (hv:gI X.env.scope x:=by first | exact Or.inl rfl | exact Or.inr (Or.inl rfl) | exact Or.inr (Or.inr rfl)) (hd:(x == ("__debug__" : Str))=false:=by decide) (hcd:(x == ("__classdict__" : Str))=false:=by decide)
  (hbase:attributeBase (.Name x xpos) "append" X.env (eval (.Name x xpos) X.env)=eval (.Name x xpos) X.env:=by rfl)
  (hfew:((backTo cpos (starEach [e] X.env)).all (fun x=>!x.1) && (backToKw cpos (keywordEach [] X.env)).all (fun x=>x.1.isSome) && decide (([e]:List Expr).length+([]:List Keyword).length+(if ([]:List Keyword).isEmpty then 0 else 1) < 30))=true:=by rfl)
  (hline:(apos.endLine == cpos.line)=true:=by rfl) (hs:starEach [e] X.env=(false,eval e X.env) :: starEach [] X.env:=by rfl) (hplain:(backTo cpos (starEach [] X.env)).any (·.1)=false:=by rfl)
  (hsw:swapsWith (.Call (.Attribute (.Name x xpos) "append" apos) [e] [] cpos) none pos.line X.env=pure false:=by rfl) :
  QS X (.Expr (.Call (.Attribute (.Name x xpos) "append" apos) [e] [] cpos) pos) (jD i te):=
 eD (kJ (lJ bp1 bt4 bt5 mL (j8 hN hv hd hcd) (cO he dF hs) hbase hfew hline hs hplain) hsw) fun _ _ _=>aA8
theorem rS {i:Nat}{x:Str}{xpos tpos:Pos} (hu:X.A.units+1 < cLine) (hk:QE X a tk) (he:QE X e te) (hN:X.N[i]? = some x:=by rfl) (hv:gI X.env.scope x:=by first | exact Or.inl rfl | exact Or.inr (Or.inl rfl) | exact Or.inr (Or.inr rfl)) (hd:(x == ("__debug__" : Str))=false:=by decide) (hcd:(x == ("__classdict__" : Str))=false:=by decide)
  (hs:swapsWith e (some (.Subscript (.Name x xpos) a tpos)) pos.line X.env=pure false:=by rfl):QS X (.Assign [.Subscript (.Name x xpos) a tpos] e pos) (mY i tk te):=eD (au3 hu (j8 hN hv hd hcd) hk he hs) fun _ _ _=>aD2
theorem aE9 {tg l:Expr}{tl:TE} (hl:PE X l tl):PI X tg l (O1 X.K tl):=by
 intro pins s σ H R I h
 refine aN (hl pins s σ H _ I h) fun v s1 ⟨x,H1,I1,r1,q1⟩=>?_
 obtain ⟨a,e,q⟩:=q1
 subst e
 cases r1
 rcases q with ⟨xs,hq,q⟩ | ⟨xs,hq,q⟩
 ·obtain ⟨its,rv,p,hz⟩:=I1.list hq
  refine wpAny_pyIter_list p.isList ?_
  refine⟨s1.heap.objs.size,[s1.heap.objs.size],_,_,H1,rfl,I1.kept (t':=s1.toks) fun b o e=>bg1 _ e,ao1 a _,⟨_,bi8 _ rfl,rfl,rfl⟩,fun b hb=>?_,q⟩
  have e:b=s1.heap.objs.size:=by simpa using hb
  subst e
  exact I1.fpOk (bg9 _) (I1.hok.fresh (bg9 _))
 ·obtain ⟨its,rv,p,hz⟩:=I1.tuple hq
  refine bu9 (show s1.heap.IsTuple a its.toArray from p) ?_
  refine⟨s1.heap.objs.size,[s1.heap.objs.size],_,_,H1,rfl,I1.kept (t':=s1.toks) fun b o e=>bg1 _ e,A5 a _,⟨_,bi8 _ rfl,rfl,rfl⟩,fun b hb=>?_,q⟩
  have e:b=s1.heap.objs.size:=by simpa using hb
  subst e
  exact I1.fpOk (bg9 _) (I1.hok.fresh (bg9 _))
theorem dH {tg l:Expr} (hl:QE X l te):QI X tg l (cT te):=pA (aE9 hl) fun _ _ _=>aC4
theorem lX {tg:Expr} (hg:Gl X "range") (hm:X.mg "range" = none) (ha:QE X a ta) (hs:starEach [a] X.env = [(false,eval a X.env)]:=by rfl):QI X tg (.Call (.Name "range" p2) [a] [] pos) (jW ta):=pA (ao4 hg hm (cO ha dF hs) hs) fun _ _ _=>aC5
theorem Q5 {tg:Expr} (hg:Gl X "range") (hm:X.mg "range" = none) (ha:QE X a ta) (hb:QE X b tb) (hs:starEach [a,b] X.env = [(false,eval a X.env),(false,eval b X.env)]:=by rfl) (hs2:starEach [b] X.env = [(false,eval b X.env)]:=by rfl) :
  QI X tg (.Call (.Name "range" p2) [a,b] [] pos) (rK ta tb):=pA (ao5 hg hm (cO ha (cO hb dF hs2) (by rw [hs,hs2])) hs hs2) fun _ _ _=>aC6
theorem Q6 {tg:Expr}{body:List Stmt}{ti:fJ}{p:kR}{g:TG}{own:Nat->Prop} (hp:PassesOwn (model X.prog X.w) X.A X.env X.xe) (hc:X.calm=true) (hi:QI X tg e ti) (hg:PG X tg g) (ht:oV X.K own p g) (hb:fR X body t)
  (hs:∀ x,foldedSetIterable e X.env x=pure x:=by intro _; rfl):QS X (.For tg e body [] pos) (eB ti p t):=eD (uE hp hc hi hg hb hs) fun _ _ _=>aC7 ht
end
section
variable {X : Cx} {pins : List (Addr × Obj)} {σ : St} {H : Hp} {s : Shared} {K : PySem.W.Frag} {M M' : Addr → Prop}
theorem mT.inj {a:Addr}{us ws:List V} (h:mT K a us) (h':mT K a ws):us=ws:=by
 obtain ⟨o,its,n,e1,_,e2,_,v⟩:=h
 obtain ⟨o',its',n',e1',_,e2',_,v'⟩:=h'
 rw [e1] at e1'; cases e1'
 rw [e2] at e2'; cases e2'
 exact v.inj v'
theorem Reps.self_of {n:Nat} (ih:∀ {v:V}{x y:PV},aE K M H v x->aE K M' H v y->fL n x y=true->cV n x y=true):∀ {vs:List V}{xs ys:List PV},Reps K M H vs xs->Reps K M' H vs ys->((xs.zip ys).all fun p=>fL n p.1 p.2)=true->(((xs.zip ys).all fun p=>cV n p.1 p.2) && xs.length == ys.length)=true
 | _,_,_,.nil,.nil,_=>rfl
 | _,_,_,.cons r t,.cons r' t',o=>by
  simp only [List.zip_cons_cons,bu5,bj9] at o
  have h1:=ih r r' o.1
  have h2:=Reps.self_of ih t t' o.2
  simp only [List.zip_cons_cons,bu5,h1,Bool.true_and,bi9] at h2 ⊢
  rw [<- h2]
  congr 1
  simp
theorem aE.self:∀ (n:Nat) {v:V}{x y:PV},aE K M H v x->aE K M' H v y->fL n x y=true->cV n x y=true:=by
 intro n
 induction n with
 | zero=>
  intro v x y r r' o
  cases r with
  | non=>cases r'; rfl
  | bl b=>cases r'; exact bp9 b
  | int i=>cases r'; exact bp9 i
  | str z=>cases r'; exact bp9 z
  | _=>cases o
 | succ n ih=>
  intro v x y r r' o
  cases r with
  | non=>cases r'; rfl
  | bl b=>cases r'; exact bp9 b
  | int i=>cases r'; exact bp9 i
  | str z=>cases r'; exact bp9 z
  | tup h rr=>
   cases r' with
   | tup h' rr'=>rw [h] at h'; cases h'; exact Reps.self_of ih rr rr' o
   | _=>cases o
  | lst _ h rr=>
   cases r' with
   | lst _ h' rr'=>rw [h] at h'; cases h'; exact Reps.self_of ih rr rr' o
   | _=>cases o
  | kt h rr=>
   cases r' with
   | kt h' rr'=>cases mT.inj h h'; exact Reps.self_of ih rr rr' o
   | _=>cases o
  | _=>cases o
theorem Reps.self (n:Nat) {vs:List V}{xs ys:List PV} (r:Reps K M H vs xs) (r':Reps K M' H vs ys) (o:((xs.zip ys).all fun p=>fL n p.1 p.2)=true):(((xs.zip ys).all fun p=>cV n p.1 p.2) && xs.length == ys.length)=true:=Reps.self_of (aE.self n) r r' o
theorem nD (n:Nat) (xs ys:List PV):(List.range (min xs.length ys.length)).all (fun j=>cV n (xs.getD j .non) (ys.getD j .non))=(xs.zip ys).all fun p=>cV n p.1 p.2:=by
 rw [bl8]
 simp only [bq0,List.mem_range]
 constructor
 ·intro h p hp
  obtain ⟨j,hj,e⟩:=br5 hp
  have hj':j < min xs.length ys.length:=by simpa using hj
  have:=h j hj'
  rw [List.getElem_zip] at e
  subst e
  have h1:j < xs.length:=by omega
  have h2:j < ys.length:=by omega
  simpa [bi1,h1,h2] using this
 ·intro h j hj
  have h1:j < xs.length:=by omega
  have h2:j < ys.length:=by omega
  have hz:j < (xs.zip ys).length:=by simp; omega
  have:=h _ (br1 hz)
  rw [List.getElem_zip] at this
  simpa [bi1,h1,h2] using this
theorem aF0 (I:a6 X pins σ H s):∀ (n:Nat) {A:Around}{v w:V}{x y:PV}{a b:Value},A.units+n < cLine->aE X.K M H v x->aE X.K M' H w y->aV v a->aV w b->fL n x y=true->SeqAt.EqAt A s a b (cV n x y):=by
 intro n
 induction n with
 | zero=>
  intro A v w x y a b hu rx ry ra rb o
  cases rx with
  | non=>
   cases ra
   cases ry with
   | non=>cases rb; exact SeqAt.EqAt.same _
   | int i=>obtain ⟨t',rfl⟩:=rb; exact SeqAt.EqAt.none_int _ _
   | _=>cases o
  | bl i=>
   cases ra
   cases ry with
   | bl j=>cases rb; exact SeqAt.EqAt.bool_bool _ _
   | _=>cases o
  | int i=>
   obtain ⟨t,rfl⟩:=ra
   cases ry with
   | int j=>obtain ⟨t',rfl⟩:=rb; exact SeqAt.EqAt.int_int _ _ _ _
   | non=>cases rb; exact SeqAt.EqAt.int_none _ _
   | _=>cases o
  | str i=>
   obtain ⟨t,rfl⟩:=ra
   cases ry with
   | str j=>obtain ⟨t',rfl⟩:=rb; exact SeqAt.EqAt.str_str _ _ _ _
   | _=>cases o
  | _=>cases o
 | succ n ih=>
  intro A v w x y a b hu rx ry ra rb o
  have items:∀ {us ws:List V}{xs ys:List PV}{its its2:List Value},Reps X.K M H us xs->Reps X.K M' H ws ys->aM us its->aM ws its2->((xs.zip ys).all fun p=>fL n p.1 p.2)=true->
    ∀ j (h1:j < its.toArray.size) (h2:j < its2.toArray.size),SeqAt.EqAt A.in1 s its.toArray[j] its2.toArray[j] (cV n (xs.getD j .non) (ys.getD j .non)):=fun {us ws xs ys its its2} r1 r2 v1 v2 ok j h1 h2=>by
   have l1:=v1.length
   have l2:=v2.length
   have m1:=r1.length
   have m2:=r2.length
   have k1:j < its.length:=by simpa using h1
   have k2:j < its2.length:=by simpa using h2
   have j1:j < us.length:=by omega
   have j2:j < ws.length:=by omega
   have i1:j < xs.length:=by omega
   have i2:j < ys.length:=by omega
   obtain ⟨u,hu',ru⟩:=v1.get (bg3 j1)
   obtain ⟨u2,hu2',ru2⟩:=v2.get (bg3 j2)
   obtain ⟨x,hx,rx⟩:=r1.get (bg3 j1)
   obtain ⟨y,hy,ry⟩:=r2.get (bg3 j2)
   have e1:its.toArray[j]=u:=by
    rw [bg3 k1] at hu'
    simpa using hu'
   have e2:its2.toArray[j]=u2:=by
    rw [bg3 k2] at hu2'
    simpa using hu2'
   have ok':fL n x y=true:=by
    rw [bq0] at ok
    have hz:j < (xs.zip ys).length:=by simp; omega
    have:=ok _ (br1 hz)
    rw [List.getElem_zip] at this
    rw [bg3 i1] at hx
    rw [bg3 i2] at hy
    cases hx; cases hy
    exact this
   rw [e1,e2]
   have g1:xs.getD j .non=x:=by rw [bi1,hx]; rfl
   have g2:ys.getD j .non=y:=by rw [bi1,hy]; rfl
   rw [g1,g2]
   exact ih (by show A.units+1+n < cLine; omega) rx ry ru ru2 ok'
  have huA:A.units < cLine:=by omega
  cases rx with
  | @kt p us xs h1 r1=>
   obtain ⟨its,v1,p1,_⟩:=I.tuple (.inr h1)
   cases (show a=Value.ref p from ra)
   cases ry with
   | @kt p2 ws ys h2 r2=>
    obtain ⟨its2,v2,p2',_⟩:=I.tuple (.inr h2)
    cases (show b=Value.ref p2 from rb)
    by_cases e:p=p2
    ·subst e
     have:=aE.self (K:=X.K) (M:=M) (M':=M') (n+1) (.kt h1 r1) (.kt h2 r2) o
     rw [this]
     exact SeqAt.EqAt.same _
    ·have:=SeqAt.RcAt.tuples p1 p2' huA (items r1 r2 v1 v2 o)
     refine .of_refs e ?_
     have l1:=v1.length
     have l2:=v2.length
     have m1:=r1.length
     have m2:=r2.length
     rw [bh0,bh0,<- l1,<- l2,m1,m2,nD] at this
     exact this
   | _=>cases o
  | @tup p us xs h1 r1=>
   obtain ⟨its,v1,p1,_⟩:=I.tuple (aQ.of (K:=X.K) h1)
   cases (show a=Value.ref p from ra)
   cases ry with
   | @tup p2 ws ys h2 r2=>
    obtain ⟨its2,v2,p2',_⟩:=I.tuple (aQ.of (K:=X.K) h2)
    cases (show b=Value.ref p2 from rb)
    by_cases e:p=p2
    ·subst e
     have:=aE.self (K:=X.K) (M:=M) (M':=M') (n+1) (.tup h1 r1) (.tup h2 r2) o
     rw [this]
     exact SeqAt.EqAt.same _
    ·have:=SeqAt.RcAt.tuples p1 p2' huA (items r1 r2 v1 v2 o)
     refine .of_refs e ?_
     have l1:=v1.length
     have l2:=v2.length
     have m1:=r1.length
     have m2:=r2.length
     rw [bh0,bh0,<- l1,<- l2,m1,m2,nD] at this
     exact this
   | non=>cases rb; exact SeqAt.EqAt.tuple_none p1 huA
   | _=>cases o
  | @lst p us xs _ h1 r1=>
   obtain ⟨its,v1,p1,_⟩:=I.list (aK.of (K:=X.K) h1)
   cases (show a=Value.ref p from ra)
   cases ry with
   | @lst p2 ws ys _ h2 r2=>
    obtain ⟨its2,v2,p2',_⟩:=I.list (aK.of (K:=X.K) h2)
    cases (show b=Value.ref p2 from rb)
    have l1:=v1.length
    have l2:=v2.length
    have m1:=r1.length
    have m2:=r2.length
    by_cases e:p=p2
    ·subst e
     rw [h1] at h2; cases h2
     have:=Reps.self n r1 r2 o
     show SeqAt.EqAt A s _ _ ((xs.zip ys).all (fun p=>cV n p.1 p.2) && xs.length == ys.length)
     rw [this]
     exact SeqAt.EqAt.same _
    ·refine .of_refs e ?_
     by_cases hl:xs.length=ys.length
     ·have:=SeqAt.RcAt.lists p1.isList p2'.isList (by rw [bh0,bh0]; omega) huA (items r1 r2 v1 v2 o)
      have hm:min xs.length ys.length=its.length:=by omega
      rw [bh0,<- hm,nD] at this
      show SeqAt.RcAt A s _ _ ((xs.zip ys).all (fun p=>cV n p.1 p.2) && xs.length == ys.length)
      rw [show (xs.length == ys.length)=true by simpa using hl,bu6]
      exact this
     ·have:=SeqAt.RcAt.lists_lengths (A:=A) p1.isList p2'.isList (by rw [bh0,bh0]; simp; omega) huA
      show SeqAt.RcAt A s _ _ ((xs.zip ys).all (fun p=>cV n p.1 p.2) && xs.length == ys.length)
      rw [show (xs.length == ys.length)=false by simpa using hl,bv2]
      exact this
   | _=>cases o
  | non=>
   cases ra
   cases ry with
   | non=>cases rb; exact SeqAt.EqAt.same _
   | int i=>obtain ⟨t',rfl⟩:=rb; exact SeqAt.EqAt.none_int _ _
   | @tup p2 ws ys h2 r2=>
    obtain ⟨its2,v2,p2',_⟩:=I.tuple (aQ.of (K:=X.K) h2)
    cases (show b=Value.ref p2 from rb)
    exact SeqAt.EqAt.none_tuple p2' huA
   | _=>cases o
  | bl i=>
   cases ra
   cases ry with
   | bl j=>cases rb; exact SeqAt.EqAt.bool_bool _ _
   | _=>cases o
  | int i=>
   obtain ⟨t,rfl⟩:=ra
   cases ry with
   | int j=>obtain ⟨t',rfl⟩:=rb; exact SeqAt.EqAt.int_int _ _ _ _
   | non=>cases rb; exact SeqAt.EqAt.int_none _ _
   | _=>cases o
  | str i=>
   obtain ⟨t,rfl⟩:=ra
   cases ry with
   | str j=>obtain ⟨t',rfl⟩:=rb; exact SeqAt.EqAt.str_str _ _ _ _
   | _=>cases o
  | _=>cases o
end
structure Bt (mg:Str->Option Value):Prop where
 len:mg "len" = none
 range:mg "range" = none
 tuple:mg "tuple" = none
 list:mg "list" = none
 sorted:mg "sorted" = none
 all:mg "all" = none
 any:mg "any" = none
 zip:mg "zip" = none
 min:mg "min" = none
 max:mg "max" = none
 sum:mg "sum" = none
 isinst:mg "isinstance" = none
 int:mg "int" = none
 bool:mg "bool" = none
 enum:mg "enumerate" = none
section
variable {X : Cx} {a b c e o : Expr} {es dE : List Expr} {ta tb te to tk : aG} {tr : dG} {tA tB' tc : cF} {pos p2 px : Pos} {st : Stmt} {sts : List Stmt} {t u : aR}
theorem dI (B:Bt X.mg) (ha:QA X [e] tr) (hg:Gl X "len":=by rfl) (he:starEach [e] X.env=(false,eval e X.env) :: starEach [] X.env:=by rfl) (hpl:(backTo pos (starEach [] X.env)).any (·.1)=false:=by rfl):QE X (.Call (.Name "len" p2) [e] [] pos) (aC cS tr):=
 l4 (as8.or av6) aB3 hg B.len PySem.boot_len ha (he:=he) (hpl:=hpl)
theorem gS (B:Bt X.mg) (ha:QA X [e] tr) (hg:Gl X "tuple":=by rfl) (he:starEach [e] X.env=(false,eval e X.env) :: starEach [] X.env:=by rfl) (hpl:(backTo pos (starEach [] X.env)).any (·.1)=false:=by rfl):QE X (.Call (.Name "tuple" p2) [e] [] pos) (aC fQ tr):=
 aE7 as9 aB4 hg B.tuple PyProof.Rows.boot_tuple ha (he:=he) (hpl:=hpl)
theorem aF1 (B:Bt X.mg) (ha:QA X [e] tr) (hg:Gl X "sorted":=by rfl) (he:starEach [e] X.env=(false,eval e X.env) :: starEach [] X.env:=by rfl) (hpl:(backTo pos (starEach [] X.env)).any (·.1)=false:=by rfl):QE X (.Call (.Name "sorted" p2) [e] [] pos) (aC rH tr):=
 l4 aw4 aB5 hg B.sorted PyProof.Rows.boot_sorted ha (he:=he) (hpl:=hpl)
theorem aF2 (B:Bt X.mg) (hc:X.calm=true) (ha:QA X [e] tr) (hg:Gl X "all":=by rfl) (he:starEach [e] X.env=(false,eval e X.env) :: starEach [] X.env:=by rfl) (hpl:(backTo pos (starEach [] X.env)).any (·.1)=false:=by rfl):QE X (.Call (.Name "all" p2) [e] [] pos) (aC vZ tr):=
 l4 (vN hc) aB6 hg B.all PyProof.Rows.boot_all ha (he:=he) (hpl:=hpl)
theorem wQ (B:Bt X.mg) (hc:X.calm=true) (ha:QA X [a,b] tr) (hg:Gl X "min":=by rfl) (he:starEach [a,b] X.env=(false,eval a X.env) :: starEach [b] X.env:=by rfl) (hpl:(backTo pos (starEach [b] X.env)).any (·.1)=false:=by rfl):QE X (.Call (.Name "min" p2) [a,b] [] pos) (aC oS tr):=
 l4 (aq5 hc) aB7 hg B.min PyProof.Rows.boot_min ha (he:=he) (hpl:=hpl)
theorem wR (B:Bt X.mg) (hc:X.calm=true) (ha:QA X [a,b] tr) (hg:Gl X "max":=by rfl) (he:starEach [a,b] X.env=(false,eval a X.env) :: starEach [b] X.env:=by rfl) (hpl:(backTo pos (starEach [b] X.env)).any (·.1)=false:=by rfl):QE X (.Call (.Name "max" p2) [a,b] [] pos) (aC oT tr):=
 l4 (aq4 hc) aB8 hg B.max PyProof.Rows.boot_max ha (he:=he) (hpl:=hpl)
theorem Q7 (x:Int):∀ (xs:List Int),oB (.int x) (xs.map V.int)=decide (x ∈ xs)
 | []=>by simp [oB]
 | y :: r=>by
  have ih:=Q7 x r
  unfold oB at ih ⊢
  rw [bl3,List.any_cons,ih]
  by_cases e:y=x
  ·subst e; simp [iK]
  ·have:iK (.int y) (.int x)=false:=by simpa [iK] using e
   rw [this,Bool.false_or,bl8]
   simp [Ne.symm e]
theorem Q8:∀ (xs:List Int),(xs.map V.int).all jP=true
 | []=>rfl
 | _ :: r=>by rw [bl3,bu5,Q8 r]; rfl
theorem Q9 (neg:Bool):fP X (oX neg) (F5 X.K neg):=by
 rintro W Hs H u v x y g g' Q Q' s n r1 r2 ⟨i,ns,rfl,e,q⟩ k
 cases r1
 obtain ⟨a,us,rfl,hs,r⟩:=r2.seq e
 obtain rfl:=r.ofInts
 refine⟨a,_,rfl,hs,rfl,Q8 ns,?_⟩
 have:=k _ _ _ .fr (aD.refl _) (.bl _) q
 rw [Q7]
 cases neg <;> exact this
theorem aF3 (ha:QE X a ta) (hb:QE X b tb) (hm:behindInMarks .In b=false:=by rfl):QE X (.Compare a [.In] [b] pos) (q2 (oX false) ta tb):=pC F6 (Q9 false) ha hb hm
theorem aF4 (ha:QE X a ta) (hb:QE X b tb) (hm:behindInMarks .In b=false:=by rfl):QT X (.Compare a [.In] [b] pos) (bC (q2 (oX false) ta tb)):=kX F6 (Q9 false) ha hb hm
theorem aE.kt_ {K:PySem.W.Frag}{M:Addr->Prop}{H:Hp}{v:V}{xs:List PV} (r:aE K M H v (.kt xs)):∃ a us,v = .ref a/\mT K a us/\Reps K M H us xs:=by
 cases r with
 | kt h r=>exact⟨_,_,rfl,h,r⟩
noncomputable def R3 (K:PySem.W.Frag) (n:Nat) (neg:Bool):R2:=fun v w H Q=>∃ x y,aE K (fun _=>True) H v x/\aE K (fun _=>True) H w y/\((∃ xs ys,x = .tup xs/\y = .tup ys) ∨ (∃ xs ys,x = .lst xs/\y = .lst ys) ∨ (∃ xs ys,x = .kt xs/\y = .kt ys))/\fL (n+1) x y=true/\Q (.bl (if neg=true then !cV (n+1) x y else cV (n+1) x y)) H
theorem wS {pins:List (Addr × Obj)}{σ:St}{H:Hp}{s:Shared}{M M':Addr->Prop} (I:a6 X pins σ H s) {n:Nat}{A:Around} (hu:A.units+(n+1) < cLine) {us ws:List V}{xs ys:List PV}{its its2:List Value} (r1:Reps X.K M H us xs) (r2:Reps X.K M' H ws ys) (v1:aM us its) (v2:aM ws its2)
  (ok:((xs.zip ys).all fun p=>fL n p.1 p.2)=true):∀ j (h1:j < its.toArray.size) (h2:j < its2.toArray.size),SeqAt.EqAt A.in1 s its.toArray[j] its2.toArray[j] (cV n (xs.getD j .non) (ys.getD j .non)):=by
 intro j h1 h2
 have l1:=v1.length
 have l2:=v2.length
 have m1:=r1.length
 have m2:=r2.length
 have k1:j < its.length:=by simpa using h1
 have k2:j < its2.length:=by simpa using h2
 have j1:j < us.length:=by omega
 have j2:j < ws.length:=by omega
 have i1:j < xs.length:=by omega
 have i2:j < ys.length:=by omega
 obtain ⟨u,hu',ru⟩:=v1.get (bg3 j1)
 obtain ⟨u2,hu2',ru2⟩:=v2.get (bg3 j2)
 obtain ⟨x,hx,rx⟩:=r1.get (bg3 j1)
 obtain ⟨y,hy,ry⟩:=r2.get (bg3 j2)
 have e1:its.toArray[j]=u:=by
  rw [bg3 k1] at hu'
  simpa using hu'
 have e2:its2.toArray[j]=u2:=by
  rw [bg3 k2] at hu2'
  simpa using hu2'
 have ok':fL n x y=true:=by
  rw [bq0] at ok
  have hz:j < (xs.zip ys).length:=by simp; omega
  have:=ok _ (br1 hz)
  rw [List.getElem_zip] at this
  rw [bg3 i1] at hx
  rw [bg3 i2] at hy
  cases hx; cases hy
  exact this
 rw [e1,e2]
 have g1:xs.getD j .non=x:=by rw [bi1,hx]; rfl
 have g2:ys.getD j .non=y:=by rw [bi1,hy]; rfl
 rw [g1,g2]
 exact aF0 I n (by show A.units+1+n < cLine; omega) rx ry ru ru2 ok'
theorem aF5 (n:Nat) (hu:X.A.units+(n+1) < cLine):cJ X (compareOp .Eq) (R3 X.K n false):=by
 intro pins s σ H v w a b Q I ra rb h
 obtain ⟨x,y,rx,ry,kd,o,q⟩:=h
 have hu0:X.A.units < cLine:=by omega
 rcases kd with ⟨xs,ys,rfl,rfl⟩ | ⟨xs,ys,rfl,rfl⟩ | ⟨xs,ys,rfl,rfl⟩
 ·obtain ⟨p,us,rfl,h1,r1⟩:=rx.sqT
  obtain ⟨p2,ws,rfl,h2,r2⟩:=ry.sqT
  cases ra; cases rb
  obtain ⟨its,v1,p1,_⟩:=I.tuple (aQ.of (K:=X.K) h1)
  obtain ⟨its2,v2,p2',_⟩:=I.tuple (aQ.of (K:=X.K) h2)
  have l1:=v1.length
  have l2:=v2.length
  have m1:=r1.length
  have m2:=r2.length
  have:=SeqAt.RcAt.tuples p1 p2' hu0 (wS I hu r1 r2 v1 v2 o)
  rw [bh0,bh0,<- l1,<- l2,m1,m2,nD] at this
  exact this _ _ _ _ ⟨.bl _,H,I,rfl,q⟩
 ·obtain ⟨p,us,rfl,_,h1,r1⟩:=rx.sqL
  obtain ⟨p2,ws,rfl,_,h2,r2⟩:=ry.sqL
  cases ra; cases rb
  obtain ⟨its,v1,p1,_⟩:=I.list (aK.of (K:=X.K) h1)
  obtain ⟨its2,v2,p2',_⟩:=I.list (aK.of (K:=X.K) h2)
  have l1:=v1.length
  have l2:=v2.length
  have m1:=r1.length
  have m2:=r2.length
  have q:Q (.bl ((xs.zip ys).all (fun p=>cV n p.1 p.2) && xs.length == ys.length)) H:=q
  by_cases hl:xs.length=ys.length
  ·have:=SeqAt.RcAt.lists p1.isList p2'.isList (by rw [bh0,bh0]; omega) hu0 (wS I hu r1 r2 v1 v2 o)
   have hm:min xs.length ys.length=its.length:=by omega
   rw [bh0,<- hm,nD] at this
   rw [show (xs.length == ys.length)=true by simpa using hl,bu6] at q
   exact this _ _ _ _ ⟨.bl _,H,I,rfl,q⟩
  ·have:=SeqAt.RcAt.lists_lengths (A:=X.A) p1.isList p2'.isList (by rw [bh0,bh0]; simp; omega) hu0
   rw [show (xs.length == ys.length)=false by simpa using hl,bv2] at q
   exact this _ _ _ _ ⟨.bl _,H,I,rfl,q⟩
 ·obtain ⟨p,us,rfl,h1,r1⟩:=rx.kt_
  obtain ⟨p2,ws,rfl,h2,r2⟩:=ry.kt_
  cases ra; cases rb
  obtain ⟨its,v1,p1,_⟩:=I.tuple (.inr h1)
  obtain ⟨its2,v2,p2',_⟩:=I.tuple (.inr h2)
  have l1:=v1.length
  have l2:=v2.length
  have m1:=r1.length
  have m2:=r2.length
  have:=SeqAt.RcAt.tuples p1 p2' hu0 (wS I hu r1 r2 v1 v2 o)
  rw [bh0,bh0,<- l1,<- l2,m1,m2,nD] at this
  exact this _ _ _ _ ⟨.bl _,H,I,rfl,q⟩
theorem aF6 {n:Nat}{neg:Bool}:fP X (wF n neg) (R3 X.K n neg):=by
 rintro W Hs H u v x y g g' Q Q' s n r1 r2 ⟨kd,o,q⟩ k
 exact⟨x,y,r1.same (aD.refl _) fun _ _=>trivial,r2.same (aD.refl _) fun _ _=>trivial,kd.elim .inl fun z=>.inr (.inl z),o,k _ _ _ .fr (aD.refl _) (.bl _) q⟩
theorem aF7 (hu:X.A.units+3 < cLine) (ha:QE X a ta) (hb:QE X b tb):QE X (.Compare a [.Eq] [b] pos) (q2 (wF 2 false) ta tb):=pC (aF5 2 hu) aF6 ha hb (gK _)
end
end PP
namespace PP
open PySem L2 PyProof.Rows
noncomputable def LO (X:Cx) (t:oY):TO:=fun σ H Q'=>∃ (W:Addr->Prop) (ρ:bO) (Q:Option Int->Prop),PX X.K X.H₀ W σ ρ H/\t ρ Q/\∀ o H',aD H H'->Q o->Q' o H'
noncomputable def QO (X:Cx) (e:Option Expr) (t:oY):Prop:=PO X e (LO X t)
theorem Reps.cut {K:PySem.W.Frag}{M:Addr->Prop}{H:Hp}{us:List V}{xs:List PV} (r:Reps K M H us xs) (lo hi:Option Int):Reps K M H (e9 us lo hi) (kS xs lo hi):=by
 unfold e9 kS
 rw [r.length]
 exact (r.drop _).take _
section
variable {X : Cx} {a b c e o : Expr} {es dE : List Expr} {ta tb te to tk : aG} {tr : dG} {tA tB' tc : cF} {pos p2 px : Pos} {st : Stmt} {sts : List Stmt} {t u : aR}
theorem rT (h:QE X e te):QO X (some e) (oZ te):=fun pins s σ H Q I hq=>uT h pins s σ H Q I (by
 obtain ⟨W,ρ,Q1,px,q,k⟩:=hq
 refine⟨W,ρ,_,px,q,?_⟩
 rintro v H1 x g s r ⟨i,rfl,q⟩
 cases r
 exact⟨i,rfl,k _ _ s q⟩)
theorem R4 {lo hi:Option Expr}{tl th:oY}{sp:Pos} (he:QE X e te) (hl:QO X lo tl) (hh:QO X hi th):QE X (.Subscript e (.Slice lo hi none sp) pos) (wG te tl th):=cG (uU (F3.or M5) he hl hh) fun σ H Q' h=>by
 obtain ⟨W,ρ,Q,px,q,k⟩:=h
 refine⟨W,ρ,_,px,q,fun v H1 x g s1 r1 q1=>⟨W,ρ,_,px.mono s1,q1,fun lo H2 s2 q2=>⟨W,ρ,_,px.mono (s1.trans s2),q2,?_⟩⟩⟩
 rintro hi H3 s3 ⟨xs,e,f,q3⟩
 have S:=(s1.trans s2).trans s3
 have r3:=r1.same (M':=Mg X.H₀ W H g) (s2.trans s3) fun _ z=>z
 cases r3 with
 | tup h r=>
  cases e
  refine .inr ⟨_,_,rfl,aQ.of h,fun p hp=>k _ _ _ .fr (S.trans (bN hp _)) (.tup bL (((r.flat f).cut lo hi).same (bN hp _) fun _ z=>z)) q3,fun ec=>k _ _ _ .fr S (.tup h ?_) q3⟩
  have:=(r.flat (M':=Mg X.H₀ W H .fr) f).cut lo hi
  rw [ec] at this
  exact this
 | lst m h r=>
  cases e
  exact .inl ⟨_,_,rfl,aK.of h,fun p hp=>k _ _ _ .fr (S.trans (bN hp _)) (.lst (S.free hp) bL (((r.flat f).cut lo hi).same (bN hp _) fun _ z=>z)) q3⟩
 | scr h=>
  cases e
  exact .inl ⟨_,_,rfl,h.sqL,fun p hp=>k _ _ _ .fr (S.trans (bN hp _)) (.lst (S.free hp) bL (((Reps.intz _).cut lo hi).same (bN hp _) fun _ z=>z)) q3⟩
 | _=>cases e
structure Df (P:Program) (w:World) (K:PySem.W.Frag) (mg:Str->Option Value) (base:Heap) (k:Nat) (x:Str) (ps:List Str) (p:bK):Prop where
 ex:∃ f fd,cP P w K mg base dR k f fd ps (oU K p)/\jB K fd ps []/\PySem.W.keepIn K (.ref f)=true/\mg x=some (.ref f)
theorem b8 {k j:Nat}{x:Str}{ps:List Str}{p:bK} (d:Df X.prog X.w X.K X.mg X.base k x ps p) (hr:cA j X.A) (ha:QA X (e :: es) tr) (hkj:k<=j:=by decide) (hg:Gl X x:=by rfl) (hdb:(x == ("__debug__" : Str))=false:=by decide)
  (he:starEach (e :: es) X.env=(false,eval e X.env) :: starEach es X.env:=by rfl) (hpl:(backTo pos (starEach es X.env)).any (·.1)=false:=by rfl):QE X (.Call (.Name x p2) (e :: es) [] pos) (aC p tr):=by
 obtain ⟨f,fd,F,b,kp,m⟩:=d.ex
 exact cG (uO F (hr.mono hkj) hg m kp b .nil av4 ha hdb he hpl) fun _ _ _=>aB9
theorem wT {K:PySem.W.Frag}{H:Hp}{N:List Str}{vs:List V}{xs:List PV} (r:Reps K (fun _=>True) H vs xs):PX K H (fun _=>False) (L2.start N vs) (gC N xs) H:=by
 have lr:=r.length
 have own:∀ {i:Nat}{m:Slot},(gC N xs)[i]? = some (some m)->∃ x,xs[i]? = some x/\m = .sh (flat x) x:=fun {i m} h=>by
  unfold gC at h
  by_cases hi:i < xs.length
  ·rw [bm8 (by simpa using hi),bh5] at h
   rw [bg3 hi] at h ⊢
   cases h
   exact⟨_,rfl,rfl⟩
  ·rw [bs3 (by simpa using hi),List.getElem?_replicate] at h
   split at h <;> cases h
 refine⟨by unfold L2.start gC; simp [lr],aD.refl _,fun a z=>z.elim,fun i m h=>?_,fun i j x y a h1=>?_⟩
 ·obtain ⟨x,hx,rfl⟩:=own h
  obtain ⟨v,hv,rx⟩:=r.at hx
  refine⟨v,?_,rL (g:=false) (rx.same (aD.refl _) fun _ _ z=>z)⟩
  have hi:i < vs.length:=(bh2.mp hv).1
  unfold L2.start
  rw [bm8 (by simpa using hi),bh5,hv]; rfl
 ·obtain ⟨x,_,e⟩:=own h1
  cases e
theorem Df.of {P:Program}{w:World}{K:PySem.W.Frag}{mg:Str->Option Value}{base:Heap}{k:Nat}{x:Str}{ps N:List Str}{p:bK}{st:Stmt}{f:Addr}{fd:FuncData} (F:fH K x x st f fd) (m:mg x=some (.ref f)) (S:FnScope N ps (aX st))
  (hb:∀ (kV doc pm:Value) (an:Option Addr) (cdv ct:Value) (us:List Value),us.length=ps.length->bindArgs (PySem.W.fnOf x x (jR st) (fG st) (aX st) .none kV doc pm an cdv ct) ⟨us,[]⟩=pure (ps.zip us))
  (len:∀ xs Q,p xs Q->xs.length=ps.length)
  (body:∀ (cdv:Value) (A:Around) (outer:List Env) (s:Shared) (H:Hp) (E:XK),cA k (A.deeper (envOfC x (aX st) s.heap.objs.size f cdv))->
   ∃ t,fR (dN dR P w K mg base N x (aX st) f cdv A outer s H E).nox (fG st) t/\∀ xs Q,p xs Q->t { nx:=fun _=>Q .non,rt:=Q } (gC N xs)):Df P w K mg base (k+1) x ps p:=by
 refine⟨f,fd,F.ok S (fun vs H Q E h=>?_) (fun cdv A outer s H vs Q E hr h=>?_),F.binds hb,F.kp,m⟩
 ·obtain ⟨xs,Qp,r,q,_⟩:=h
  rw [r.length]; exact len xs Qp q
 ·obtain ⟨xs,Qp,r,q,k⟩:=h
  obtain ⟨t,ht,hq⟩:=body cdv A outer s H E hr
  refine⟨_,ht,fun _=>False,gC N xs,_,wT r,hq xs Qp q,?_,?_,?_,?_⟩
  ·exact fun W' σ' H' ρ' e px q=>k _ _ _ px.same .non q
  ·exact fun v H' x s r q=>k _ _ _ s r q
  ·exact fun W' σ' H' ρ' e px q=>q
  ·exact fun W' σ' H' ρ' e px q=>q
theorem gT (i:Nat) {x:Str}{tp:Pos}{body:List Stmt}{ti:fJ} (hN:X.N.Nodup) (hi:QI X (.Name x tp) e ti) (hb:fR X body t) (hx:X.N[i]? = some x:=by rfl) (hl:j7 X.env.scope x:=by first | exact Or.inl rfl | exact Or.inr rfl) (hf:X.fn x=true ∨ X.env.scope.names.lookup x=some .local:=by first | exact .inl rfl | exact .inr rfl)
  (hp:PassesOwn (model X.prog X.w) X.A X.env X.xe:=by exact bv9) (hc:X.calm=true:=by rfl) (hs:∀ x,foldedSetIterable e X.env x=pure x:=by intro _; rfl):QS X (.For (.Name x tp) e body [] pos) (eB ti (bR i) t):=
 Q6 hp hc hi (fF hN hx hl hf) (rM _ i) hb hs
theorem R5 (i j:Nat) {x y:Str}{tp xp yp:Pos}{kt:Nat}{body:List Stmt}{ti:fJ} (hN:X.N.Nodup) (hi:QI X (.Tuple [.Name x xp,.Name y yp] kt tp) e ti) (hb:fR X body t) (hx:X.N[i]? = some x:=by rfl) (hy:X.N[j]? = some y:=by rfl) (hlx:j7 X.env.scope x:=by first | exact Or.inl rfl | exact Or.inr rfl) (hly:j7 X.env.scope y:=by first | exact Or.inl rfl | exact Or.inr rfl)
  (hfx:X.fn x=true ∨ X.env.scope.names.lookup x=some .local:=by first | exact .inl rfl | exact .inr rfl) (hfy:X.fn y=true ∨ X.env.scope.names.lookup y=some .local:=by first | exact .inl rfl | exact .inr rfl)
  (hp:PassesOwn (model X.prog X.w) X.A X.env X.xe:=by exact bv9) (hc:X.calm=true:=by rfl) (hs:∀ x,foldedSetIterable e X.env x=pure x:=by intro _; rfl):QS X (.For (.Tuple [.Name x xp,.Name y yp] kt tp) e body [] pos) (eB ti (jX i j) t):=
 Q6 hp hc hi (mH hc (hJ (fF hN hx hlx hfx) (hJ (fF hN hy hly hfy) mG))) (wA _ i j) hb hs
noncomputable abbrev cW:Value->Shared->Prop:=fun _ _=>False
section
variable {scope : Scope} {N : List Str} {fr : List (Option Nat)} {x y : Str} {tp xp yp : Pos} {kt : Nat} {iter elt : Expr} {ti : fJ}
theorem wU {ifs:List Expr}{tcs:cF} (he:∀ (s:Shared) (H:Hp) (C:Addr) (fp:List Addr),QE (bV X scope N s H C fp cW) elt te) (hi:∀ (s:Shared) (H:Hp) (C:Addr) (fp:List Addr),kN (bV X scope N s H C fp cW) ifs (LT (bV X scope N s H C fp cW) tcs))
  (hN:N.Nodup) (h0:N[0]? = some x) (hl:∀ (s:Shared) (H:Hp) (C:Addr) (fp:List Addr),(bV X scope N s H C fp cW).env.scope.names.lookup x=some .local) (s:Shared) (H:Hp) :
  mP X scope N (.Name x tp) ifs elt s H (cN 0) (LT (X.frm H) tcs) (LE (X.frm H) te):=
 ⟨fun C fp=>fF (X:=bV X scope N s H C fp cW) hN h0 (.inl (hl s H C fp)) (.inr (hl s H C fp)),fun C fp=>hi s H C fp,fun C fp=>he s H C fp⟩
theorem rU {Y:Cx}:kN Y [] (LT Y eY):=fun pins s σ H Q I h=>oH pins s σ H Q I (aC9 h)
theorem wV (hi:QI X (.Name x tp) iter ti) (he:∀ (s:Shared) (H:Hp) (C:Addr) (fp:List Addr),QE (bV X scope N s H C fp cW) elt te)
  (hc:X.calm=true:=by rfl) (S:cQ X scope N fr:=by exact cQ.of rfl rfl) (hN:N.Nodup:=by decide +kernel) (h0:N[0]? = some x:=by rfl) (hl:∀ (s:Shared) (H:Hp) (C:Addr) (fp:List Addr),(bV X scope N s H C fp cW).env.scope.names.lookup x=some .local:=by intro _ _ _ _; rfl) (hf:fr[0]? = some none:=by rfl)
  (hs:∀ x,foldedSetIterable iter X.env x=pure x:=by intro _; rfl):QE X (.ListComp elt [⟨.Name x tp,iter,[],0⟩] scope pos) (cU ti fr (bR 0) eY te):=
 cG (vG (gh:=fun _=>cN 0) (tch:=fun H=>LT (X.frm H) eY) (teh:=fun H=>LE (X.frm H) te) hc S hi (wU he (fun _ _ _ _=>rU) hN h0 hl) hs) fun _ _ _=>oW (rM _ 0) (fun i e=>by subst e; exact hf)
theorem iU {c:Expr}{tcs:cF} (hi:QI X (.Name x tp) iter ti) (ht:∀ (s:Shared) (H:Hp) (C:Addr) (fp:List Addr),QT (bV X scope N s H C fp cW) c tcs) (he:∀ (s:Shared) (H:Hp) (C:Addr) (fp:List Addr),QE (bV X scope N s H C fp cW) elt te)
  (hc:X.calm=true:=by rfl) (S:cQ X scope N fr:=by exact cQ.of rfl rfl) (hN:N.Nodup:=by decide +kernel) (h0:N[0]? = some x:=by rfl) (hl:∀ (s:Shared) (H:Hp) (C:Addr) (fp:List Addr),(bV X scope N s H C fp cW).env.scope.names.lookup x=some .local:=by intro _ _ _ _; rfl) (hf:fr[0]? = some none:=by rfl)
  (hs:∀ x,foldedSetIterable iter X.env x=pure x:=by intro _; rfl):QE X (.ListComp elt [⟨.Name x tp,iter,[c],0⟩] scope pos) (cU ti fr (bR 0) tcs te):=
 cG (vG (gh:=fun _=>cN 0) (tch:=fun H=>LT (X.frm H) tcs) (teh:=fun H=>LE (X.frm H) te) hc S hi (wU he (fun s H C fp=>av9 (ht s H C fp)) hN h0 hl) hs) fun _ _ _=>oW (rM _ 0) (fun i e=>by subst e; exact hf)
theorem aF8 {i:Nat}{z:Str}{zp:Pos} (nd:X.N.Nodup) (hi:QI X (.Name x tp) iter ti) (he:∀ (s:Shared) (H:Hp) (C:Addr) (fp:List Addr),QE (bV X scope N s H C fp cW) elt te)
  (hz:X.N[i]? = some z:=by rfl) (hzl:X.env.scope.names.lookup z=some .local:=by rfl) (hsw:swapsWith (.ListComp elt [⟨.Name x tp,iter,[],0⟩] scope p2) (some (.Name z zp)) pos.line X.env=pure true:=by rfl)
  (hc:X.calm=true:=by rfl) (S:cQ X scope N fr:=by exact cQ.of rfl rfl) (hN:N.Nodup:=by decide +kernel) (h0:N[0]? = some x:=by rfl) (hl:∀ (s:Shared) (H:Hp) (C:Addr) (fp:List Addr),(bV X scope N s H C fp cW).env.scope.names.lookup x=some .local:=by intro _ _ _ _; rfl) (hf:fr[0]? = some none:=by rfl)
  (hs:∀ x,foldedSetIterable iter X.env x=pure x:=by intro _; rfl):QS X (.Assign [.Name z zp] (.ListComp elt [⟨.Name x tp,iter,[],0⟩] scope p2) pos) (dA i (cU ti fr (bR 0) eY te)):=
 eD (K3 (gh:=fun _=>cN 0) (tch:=fun H=>LT (X.frm H) eY) (teh:=fun H=>LE (X.frm H) te) hc S hi (wU he (fun _ _ _ _=>rU) hN h0 hl) nd hz hzl hsw hs) fun D σ H h=>oW (rM _ 0) (fun i e=>by subst e; exact hf) (N8 h)
end
theorem aF9:mK X "list.extend" (N9 X.K):=fun pins s σ H x xs v us Q I rx rs h=>h.elim (at3 pins s σ H x xs v us Q I rx rs) (ay8 pins s σ H x xs v us Q I rx rs)
theorem R6 (i:Nat) {x:Str}{apos cpos xpos:Pos} (he:QE X e te) (hN:X.N[i]? = some x:=by rfl) (hv:gI X.env.scope x:=by first | exact Or.inl rfl | exact Or.inr (Or.inl rfl) | exact Or.inr (Or.inr rfl)) (hd:(x == ("__debug__" : Str))=false:=by decide) (hcd:(x == ("__classdict__" : Str))=false:=by decide)
  (hbase:attributeBase (.Name x xpos) "extend" X.env (eval (.Name x xpos) X.env)=eval (.Name x xpos) X.env:=by rfl)
  (hfew:((backTo cpos (starEach [e] X.env)).all (fun x=>!x.1) && (backToKw cpos (keywordEach [] X.env)).all (fun x=>x.1.isSome) && decide (([e]:List Expr).length+([]:List Keyword).length+(if ([]:List Keyword).isEmpty then 0 else 1) < 30))=true:=by rfl)
  (hline:(apos.endLine == cpos.line)=true:=by rfl) (hs:starEach [e] X.env=(false,eval e X.env) :: starEach [] X.env:=by rfl) (hplain:(backTo cpos (starEach [] X.env)).any (·.1)=false:=by rfl)
  (hsw:swapsWith (.Call (.Attribute (.Name x xpos) "extend" apos) [e] [] cpos) none pos.line X.env=pure false:=by rfl) :
  QS X (.Expr (.Call (.Attribute (.Name x xpos) "extend" apos) [e] [] cpos) pos) (rG i te):=
 eD (kJ (lJ bp1 PySem.F.slot_list_extend PySem.F.type_list_extend aF9 (j8 hN hv hd hcd) (cO he dF hs) hbase hfew hline hs hplain) hsw) fun _ _ _=>aA9
theorem R7 (i:Nat) {x:Str}{apos cpos xpos:Pos} (he:QE X e te) (hm:M1 X (.Name x xpos) "update" apos e cpos:=by exact⟨rfl,rfl,rfl,rfl⟩) (hN:X.N[i]? = some x:=by rfl) (hv:gI X.env.scope x:=by first | exact Or.inl rfl | exact Or.inr (Or.inl rfl) | exact Or.inr (Or.inr rfl)) (hd:(x == ("__debug__" : Str))=false:=by decide) (hcd:(x == ("__classdict__" : Str))=false:=by decide)
  (hsw:swapsWith (.Call (.Attribute (.Name x xpos) "update" apos) [e] [] cpos) none pos.line X.env=pure false:=by rfl):QS X (.Expr (.Call (.Attribute (.Name x xpos) "update" apos) [e] [] cpos) pos) (rN i te):=
 eD (kJ (ay6 (j8 hN hv hd hcd) he hm) hsw) fun _ _ _=>aD4
theorem rV {i:Nat}{x:Str}{xpos tpos:Pos} (hk:QE X a tk) (he:QE X e te) (hN:X.N[i]? = some x:=by rfl) (hv:gI X.env.scope x:=by first | exact Or.inl rfl | exact Or.inr (Or.inl rfl) | exact Or.inr (Or.inr rfl)) (hd:(x == ("__debug__" : Str))=false:=by decide) (hcd:(x == ("__classdict__" : Str))=false:=by decide)
  (hp:∀ (tx:TE) (tg:TE),PE X (.Name x xpos) tx->PE X a tg->PG X (.Subscript (.Name x xpos) a tpos) (uC tx tg uW):=by intro _ _ h1 h2; exact an8 h1 h2 as3)
  (hs:swapsWithSole [.Subscript (.Name x xpos) a tpos] e pos.line X.env=pure false:=by rfl) (hw:swappedStores [.Subscript (.Name x xpos) a tpos] e X.env=pure none:=by rfl) :
  QS X (.Assign [.Subscript (.Name x xpos) a tpos] e pos) (mV i tk te):=eD (an9 he (hp _ _ (j8 hN hv hd hcd) hk) hs hw) fun _ _ _=>aB0
end
end PP
namespace SO
open PySem PyProof.Rows
section
variable (rk : Keyed → Int)
noncomputable def Kr (xs:Array Keyed) (i:Nat):Int:=((xs[i]?).map rk).getD 0
noncomputable def Up (xs:Array Keyed) (lo hi:Nat):Prop:=∀ i j,lo<=i->i<=j->j < hi->Kr rk xs i<=Kr rk xs j
noncomputable def Dn (xs:Array Keyed) (lo hi:Nat):Prop:=∀ i j,lo<=i->i<=j->j < hi->Kr rk xs j<=Kr rk xs i
end
variable {rk : Keyed → Int}
theorem lY {xs ys:Array Keyed}{i j:Nat} (h:xs[i]? = ys[j]?):Kr rk xs i=Kr rk ys j:=by unfold Kr; rw [h]
theorem rW {xs:Array Keyed}{i j:Nat} (hj:j<=xs.size) (k:Nat):Kr rk (mirror xs i j ((j - i) / 2)) k=Kr rk xs (if i<=k/\k < j then i+j - 1 - k else k):=by
 refine lY ?_
 rw [getElem?_mirror_all hj]
 split <;> rfl
theorem wW {xs:Array Keyed}{i j:Nat} (hj:j<=xs.size) (e:∀ k,i<=k->k < j->Kr rk xs k=Kr rk xs (j - 1)) (k:Nat):Kr rk (mirror xs i j ((j - i) / 2)) k=Kr rk xs k:=by
 rw [rW hj]
 split
 ·rename_i h; rw [e k h.1 h.2,e _ (by omega) (by omega)]
 ·rfl
theorem aG0 {xs:Array Keyed}{src d:Nat} (hs:src < xs.size) (hd:d<=src) (k:Nat):Kr rk (bubble xs src d) k=Kr rk xs (if k=src - d then src else if src - d < k/\k<=src then k - 1 else k):=by
 refine lY ?_
 rw [getElem?_bubble hs d hd]
 repeat' split
 all_goals rfl
structure SB (κ:SortKind) (a0:Array Keyed) (pd:Array (Nat × Nat × Nat)) (st:SortSt):Prop where
 pm:(arrOf st).Perm a0
 kd:kindOf st=κ
 ok:failedOf st=none
 pd:pendingOf st=pd
section
variable {κ : SortKind} {a0 : Array Keyed} {pd : Array (Nat × Nat × Nat)} {st : SortSt} {prog : Program} {w : World} {A : Around} {E : Value → Shared → Prop} {s : Shared} {Ok : Keyed → Prop}
theorem SB.sz (h:SB κ a0 pd st):(arrOf st).size=a0.size:=h.pm.size_eq
theorem SB.put (h:SB κ a0 pd st) {xs:Array Keyed} (hp:xs.Perm (arrOf st)):SB κ a0 pd (setArr st xs):=⟨hp.trans h.pm,h.kd,h.ok,h.pd⟩
noncomputable def cB (prog:Program) (w:World) (A:Around) (E:Value->Shared->Prop) (s:Shared) (κ:SortKind) (Ok:Keyed->Prop) (rk:Keyed->Int):Prop:=
 ∀ (x y:Keyed),Ok x->Ok y->∀ (st:SortSt) (Q:Option Bool->SortSt->Prop),kindOf st=κ->Q (some (decide (rk x < rk y))) st->wpS (model prog w) A E s (lt' x y) Q st
noncomputable def bQ (Ok:Keyed->Prop) (xs:Array Keyed):Prop:=∀ x ∈ xs,Ok x
theorem SB.all (h:SB κ a0 pd st) (o:bQ Ok a0):bQ Ok (arrOf st):=fun x hx=>o x (h.pm.mem_iff.mp hx)
theorem dB {xs:Array Keyed}{i:Nat}{Q:Keyed->SortSt->Prop} (hi:i < xs.size) (h:Q xs[i] st):wpS (model prog w) A E s (elem' xs i) Q st:=by
 rw [elem'_eq,getElem?_pos xs i hi]; exact bi7 h
theorem c9 {xs:Array Keyed}{i:Nat} (hi:i < xs.size):Kr rk xs i=rk xs[i]:=by unfold Kr; rw [getElem?_pos xs i hi]; rfl
theorem pF (c:cB prog w A E s κ Ok rk) (o:bQ Ok a0) (b:SB κ a0 pd st) {i j:Nat}{Q:Option Bool->SortSt->Prop} (hi:i < a0.size) (hj:j < a0.size)
  (h:Q (some (decide (Kr rk (arrOf st) i < Kr rk (arrOf st) j))) st):wpS (model prog w) A E s (ltAt' i j) Q st:=by
 have hi':i < (arrOf st).size:=by rw [b.sz]; exact hi
 have hj':j < (arrOf st).size:=by rw [b.sz]; exact hj
 rw [ltAt'_eq]
 refine bh7 (wpS_get (bh7 (dB hi' (bh7 (dB hj' ?_)))))
 refine c _ _ (b.all o _ (bm2 hi')) (b.all o _ (bm2 hj')) st Q b.kd ?_
 rw [<- c9 (rk:=rk) hi',<- c9 (rk:=rk) hj']; exact h
theorem rX {i j:Nat}{Q:Unit->SortSt->Prop} (h:Q () (setArr st (mirror (arrOf st) i j ((j - i) / 2)))):wpS (model prog w) A E s (reverseSlice' i j) Q st:=by
 rw [reverseSlice'_eq]; exact wpS_modify h
noncomputable abbrev CS:=Option (Option Nat) × Nat
noncomputable abbrev DS:=Option (Option Nat) × Nat × Nat
noncomputable def pG (lo b nrem:Nat):StateT SortSt Sem CS:=forIn [b:nrem] ((none,b):CS) fun _ r=>do
 match <- ltAt' (lo+r.2) (lo+r.2 - 1) with
 | some q=>if q=true then pure (ForInStep.done (none,r.2)) else pure (ForInStep.yield (none,r.2+1))
 | _=>pure (ForInStep.done (some none,r.2))
noncomputable def wX (lo b nrem:Nat):StateT SortSt Sem DS:=forIn [b:nrem] ((none,b,0):DS) fun _ r=>do
 match <- ltAt' (lo+r.2.1) (lo+r.2.1 - 1) with
 | some q=>
  if q=true then (if r.2.2 > 0 then do reverseSlice' (lo+r.2.1 - (r.2.2+1)) (lo+r.2.1); pure (ForInStep.yield (none,r.2.1+1,0)) else pure (ForInStep.yield (none,r.2.1+1,0)))
  else do
   match <- ltAt' (lo+r.2.1 - 1) (lo+r.2.1) with
   | some q=>if q=true then pure (ForInStep.done (none,r.2.1,r.2.2)) else pure (ForInStep.yield (none,r.2.1+1,r.2.2+1))
   | _=>pure (ForInStep.done (some none,r.2.1,r.2.2))
 | _=>pure (ForInStep.done (some none,r.2.1,r.2.2))
theorem R8 (c:cB prog w A E s κ Ok rk) (o:bQ Ok a0) (b:SB κ a0 pd st) {lo n nrem:Nat}{Q:CS->SortSt->Prop} (hz:lo+nrem<=a0.size) (h1:1<=n) (hn:n<=nrem) (u:Up rk (arrOf st) lo (lo+n))
  (h:∀ m,n<=m->m<=nrem->Up rk (arrOf st) lo (lo+m)->(m=nrem ∨ Kr rk (arrOf st) (lo+m) < Kr rk (arrOf st) (lo+m - 1))->Q (none,m) st):wpS (model prog w) A E s (pG lo n nrem) Q st:=by
 unfold pG
 refine bp7 (I:=fun x r st'=>st'=st/\r=(none,x)/\Up rk (arrOf st) lo (lo+x)) ?_ ?_ ⟨rfl,rfl,u⟩
 ·rintro x r st' hx hx' ⟨rfl,rfl,u'⟩
  refine bh7 (pF c o b (by omega) (by omega) ?_)
  by_cases hq:Kr rk (arrOf st') (lo+x) < Kr rk (arrOf st') (lo+x - 1)
  ·rw [bg2 hq]
   exact bi7 (h x hx (by omega) u' (.inr hq))
  ·rw [bg4 hq]
   refine bi7 ⟨rfl,rfl,fun i j hi hij hj=>?_⟩
   rcases bl9 j (lo+x) with z | z
   ·exact u' i j hi hij z
   ·have ej:j=lo+x:=by omega
    subst ej
    rcases bv4 hij with z | z
    ·rw [z]; exact bq2 _
    ·have:=u' i (lo+x - 1) hi (by omega) (by omega)
     omega
 ·rintro r st' ⟨rfl,rfl,u'⟩
  have em:max n nrem=nrem:=by omega
  rw [em] at u' ⊢
  exact h nrem hn (bg9 _) u' (.inl rfl)
structure pH (rk:Keyed->Int) (xs ys:Array Keyed) (lo m q:Nat):Prop where
 dn:Dn rk ys lo (lo+m)
 le:q+1<=m
 eq:∀ i,lo+m - (q+1)<=i->i < lo+m->Kr rk ys i=Kr rk ys (lo+m - 1)
 low:∀ i,i < lo->Kr rk ys i=Kr rk xs i
theorem aG1 (c:cB prog w A E s κ Ok rk) (o:bQ Ok a0) (b:SB κ a0 pd st) {lo n nrem:Nat}{xs:Array Keyed}{Q:DS->SortSt->Prop} (hz:lo+nrem<=a0.size) (h1:1<=n) (hn:n<=nrem) (u:pH rk xs (arrOf st) lo n 0)
  (h:∀ m q st',SB κ a0 pd st'->n<=m->m<=nrem->pH rk xs (arrOf st') lo m q->Q (none,m,q) st'):wpS (model prog w) A E s (wX lo n nrem) Q st:=by
 unfold wX
 refine bp7 (I:=fun x r st'=>∃ q,r=(none,x,q)/\SB κ a0 pd st'/\pH rk xs (arrOf st') lo x q) ?_ ?_ ⟨0,rfl,b,u⟩
 ·rintro x r st' hx hx' ⟨q,rfl,b',f⟩
  have sz:=b'.sz
  dsimp only
  refine bh7 (pF c o b' (by omega) (by omega) ?_)
  by_cases hq:Kr rk (arrOf st') (lo+x) < Kr rk (arrOf st') (lo+x - 1)
  ·rw [bg2 hq]
   have nx:∀ ys:Array Keyed,(∀ k,Kr rk ys k=Kr rk (arrOf st') k)->pH rk xs ys lo (x+1) 0:=fun ys e=>by
    refine⟨fun i j hi hij hj=>?_,by omega,fun i h1 h2=>by rw [show i=lo+(x+1) - 1 by omega],fun i hi=>(e i).trans (f.low i hi)⟩
    rw [e,e]
    rcases bl9 j (lo+x) with z | z
    ·exact f.dn i j hi hij z
    ·have ej:j=lo+x:=by omega
     subst ej
     rcases bv4 hij with z | z
     ·rw [z]; exact bq2 _
     ·have:=f.dn i (lo+x - 1) hi (by omega) (by omega)
      omega
   dsimp only
   rw [if_pos rfl]
   by_cases hp:q > 0
   ·rw [if_pos hp]
    exact bh7 (rX (bi7 ⟨0,rfl,b'.put (mirror_perm _ _ _ _),nx _ (wW (by omega) f.eq)⟩))
   ·rw [if_neg hp]
    exact bi7 ⟨0,rfl,b',nx _ fun _=>rfl⟩
  ·rw [bg4 hq]
   dsimp only
   rw [if_neg bi5]
   refine bh7 (pF c o b' (by omega) (by omega) ?_)
   by_cases hl:Kr rk (arrOf st') (lo+x - 1) < Kr rk (arrOf st') (lo+x)
   ·rw [bg2 hl]
    exact bi7 (h x q st' b' hx (by omega) f)
   ·rw [bg4 hl]
    have ex:Kr rk (arrOf st') (lo+x)=Kr rk (arrOf st') (lo+x - 1):=by omega
    refine bi7 ⟨q+1,rfl,b',fun i j hi hij hj=>?_,by have:=f.le; omega,fun i h1 h2=>?_,f.low⟩
    ·rcases bl9 j (lo+x) with z | z
     ·exact f.dn i j hi hij z
     ·have ej:j=lo+x:=by omega
      subst ej
      rcases bv4 hij with z | z
      ·rw [z]; exact bq2 _
      ·rw [ex]; exact f.dn i (lo+x - 1) hi (by omega) (by omega)
    ·rw [show lo+(x+1) - 1=lo+x by omega]
     rcases bl9 i (lo+x) with z | z
     ·rw [ex]; exact f.eq i (by omega) z
     ·rw [show i=lo+x by omega]
 ·rintro r st' ⟨q,rfl,b',f⟩
  have em:max n nrem=nrem:=by omega
  rw [em] at f ⊢
  exact h nrem q st' b' hn (bg9 _) f
theorem R9 (c:cB prog w A E s κ Ok rk) (o:bQ Ok a0) (b:SB κ a0 pd st) {lo nrem:Nat} (n:Nat) {xs:Array Keyed}{Q:Option Nat->SortSt->Prop}{K:DS->StateT SortSt Sem (Option Nat)}{k:CS->StateT SortSt Sem (Option Nat)} (hz:lo+nrem<=a0.size) (hn:n+1<=nrem)
  (hK:∀ m q,K (none,m,q)=if q > 0 then reverseSlice' (lo+m - (q+1)) (lo+m) >>= fun _=>reverseSlice' lo (lo+m) >>= fun _=>pG lo m nrem >>= k else reverseSlice' lo (lo+m) >>= fun _=>pG lo m nrem >>= k)
  (hk:∀ m,k (none,m)=pure (some m)) (u:pH rk xs (arrOf st) lo (n+1) 0)
  (h:∀ m st',SB κ a0 pd st'->1<=m->m<=nrem->Up rk (arrOf st') lo (lo+m)->(∀ i,i < lo->Kr rk (arrOf st') i=Kr rk xs i)->Q (some m) st'):wpS (model prog w) A E s (liftM (rule "list.sort.descending-run") >>= fun _=>wX lo (n+1) nrem >>= K) Q st:=by
 refine bh7 (wpS_lift (bt0 ⟨rfl,?_⟩))
 refine bh7 (aG1 c o b hz (by omega) hn u fun m q st1 b1 m1 m2 f=>?_)
 have fin:∀ st2:SortSt,SB κ a0 pd st2->(∀ k,Kr rk (arrOf st2) k=Kr rk (arrOf st1) k)->
   wpS (model prog w) A E s (reverseSlice' lo (lo+m) >>= fun _=>pG lo m nrem >>= k) Q st2:=fun st2 b2 e=>by
  have sz:=b2.sz
  have low:∀ i,i < lo->Kr rk (mirror (arrOf st2) lo (lo+m) ((lo+m - lo) / 2)) i=Kr rk xs i:=fun i hi=>by
   rw [rW (by omega),if_neg (by omega),e]
   exact f.low i hi
  refine bh7 (rX (bh7 (R8 (κ:=κ) c o (b2.put (mirror_perm _ _ _ _)) hz (by omega) m2 ?_ fun m' h1 h2 up _=>by rw [hk]; exact bi7 (h m' _ (b2.put (mirror_perm _ _ _ _)) (by omega) h2 up low))))
  ·intro i j hi hij hj
   show Kr rk (mirror (arrOf st2) lo (lo+m) _) i<=Kr rk (mirror (arrOf st2) lo (lo+m) _) j
   rw [rW (by omega),rW (by omega),if_pos (by omega),if_pos (by omega),e,e]
   exact f.dn _ _ (by omega) (by omega) (by omega)
 rw [hK]
 by_cases hp:q > 0
 ·rw [if_pos hp]
  have sz:=b1.sz
  exact bh7 (rX (fin _ (b1.put (mirror_perm _ _ _ _)) (wW (by omega) f.eq)))
 ·rw [if_neg hp]
  exact fin st1 b1 fun _=>rfl
theorem aG2 (c:cB prog w A E s κ Ok rk) (o:bQ Ok a0) (b:SB κ a0 pd st) {lo nrem:Nat}{Q:Option Nat->SortSt->Prop} (hz:lo+nrem<=a0.size) (h1:1<=nrem)
  (h:∀ m st',SB κ a0 pd st'->1<=m->m<=nrem->Up rk (arrOf st') lo (lo+m)->(∀ i,i < lo->Kr rk (arrOf st') i=Kr rk (arrOf st) i)->Q (some m) st'):wpS (model prog w) A E s (countRun' lo nrem) Q st:=by
 rw [countRun'_eq]
 refine bh7 (R8 (n:=1) c o b hz (bg9 _) h1 (fun i j hi hij hj=>by rw [show i=j by omega]; exact bq2 _) fun n n1 n2 un on=>?_)
 dsimp only
 by_cases en:(n == nrem)=true
 ·rw [if_pos en]
  exact bi7 (h n st b n1 n2 un fun _ _=>rfl)
 ·rw [if_neg en]
  have en':n ≠ nrem:=by simpa using en
  have lt:=on.resolve_left en'
  have sz:=b.sz
  by_cases g:n > 1
  ·rw [if_pos g]
   refine bh7 (pF c o b (by omega) (by omega) ?_)
   by_cases hq:Kr rk (arrOf st) lo < Kr rk (arrOf st) (lo+n - 1)
   ·rw [bg2 hq]
    exact bi7 (h n st b n1 n2 un fun _ _=>rfl)
   ·rw [bg4 hq]
    dsimp only
    rw [if_neg bi5]
    have all:∀ k,lo<=k->k < lo+n->Kr rk (arrOf st) k=Kr rk (arrOf st) (lo+n - 1):=fun k k1 k2=>by
     have a1:=un lo k (bg9 _) k1 k2
     have a2:=un k (lo+n - 1) k1 (by omega) (by omega)
     omega
    have sm:=wW (rk:=rk) (xs:=arrOf st) (i:=lo) (j:=lo+n) (by omega) all
    refine bh7 (rX (R9 (xs:=arrOf st) (κ:=κ) c o (b.put (mirror_perm _ _ _ _)) n hz (by omega) (fun _ _=>rfl) (fun _=>rfl) ⟨fun i j hi hij hj=>?_,by omega,fun i h1 h2=>by rw [show i=lo+(n+1) - 1 by omega],fun i _=>sm i⟩ h))
    show Kr rk (mirror (arrOf st) lo (lo+n) _) j<=Kr rk (mirror (arrOf st) lo (lo+n) _) i
    rw [sm,sm]
    rcases bl9 j (lo+n) with z | z
    ·rw [all i hi (by omega),all j (by omega) z]; exact bq2 _
    ·have ej:j=lo+n:=by omega
     subst ej
     rcases bv4 hij with z | z
     ·rw [z]; exact bq2 _
     ·rw [all i hi (by omega)]; exact bu2 lt
  ·rw [if_neg g]
   have e1:n=1:=by omega
   subst e1
   refine R9 (xs:=arrOf st) c o b 1 hz (by omega) (fun _ _=>rfl) (fun _=>rfl) ⟨fun i j hi hij hj=>?_,by omega,fun i h1 h2=>by rw [show i=lo+(1+1) - 1 by omega],fun i _=>rfl⟩ h
   rcases bv4 hij with z | z
   ·rw [z]; exact bq2 _
   ·have ei:i=lo+1 - 1:=by omega
    have ej:j=lo+1:=by omega
    rw [ei,ej]; exact bu2 lt
theorem aG3 (c:cB prog w A E s κ Ok rk) (o:bQ Ok a0) (b:SB κ a0 pd st) {lo n q:Nat}{Q:Bool->SortSt->Prop} (hz:lo+n<=a0.size) (hq:q<=n) (u:Up rk (arrOf st) lo (lo+q))
  (h:∀ st',SB κ a0 pd st'->Up rk (arrOf st') lo (lo+n)->(∀ i,i < lo->Kr rk (arrOf st') i=Kr rk (arrOf st) i)->Q true st'):wpS (model prog w) A E s (binarySort' lo n q) Q st:=by
 rw [binarySort'_eq]
 refine bh7 (bw4 (bp7 (I:=fun k r st'=>r=(none,())/\SB κ a0 pd st'/\Up rk (arrOf st') lo (lo+min k n)/\∀ i,i < lo->Kr rk (arrOf st') i=Kr rk (arrOf st) i)
  (Q:=fun r st'=>r=(none,())/\SB κ a0 pd st'/\Up rk (arrOf st') lo (lo+n)/\∀ i,i < lo->Kr rk (arrOf st') i=Kr rk (arrOf st) i) ?_ ?_ ?_) ?_)
 ·rintro k r st1 hk hkn ⟨rfl,b1,u1,l1⟩
  rw [show min k n=k by omega] at u1
  have hk0:lo+k < a0.size:=by omega
  have sz:=b1.sz
  refine bh7 (bw4 (bp7 (I:=fun x r st'=>st'=st1/\∃ l g,r=(none,l,g)/\l<=g/\g<=k/\g - l<=k - x/\(∀ i,i < l->Kr rk (arrOf st1) (lo+i)<=Kr rk (arrOf st1) (lo+k))/\∀ i,g<=i->i < k->Kr rk (arrOf st1) (lo+k) < Kr rk (arrOf st1) (lo+i))
   (Q:=fun r st'=>st'=st1/\∃ l g,r=(none,l,g)/\l<=k/\(∀ i,i < l->Kr rk (arrOf st1) (lo+i)<=Kr rk (arrOf st1) (lo+k))/\∀ i,l<=i->i < k->Kr rk (arrOf st1) (lo+k) < Kr rk (arrOf st1) (lo+i)) ?_ ?_ ?_) ?_)
  ·rintro x r st2 _ hx ⟨rfl,l,g,rfl,d1,d2,d3,f1,f2⟩
   dsimp only
   by_cases hlg:l >= g
   ·rw [if_pos hlg]
    have e:g=l:=by omega
    subst e
    exact bi7 ⟨rfl,g,g,rfl,d2,f1,f2⟩
   ·rw [if_neg hlg]
    refine bh7 (pF c o b1 hk0 (by omega) ?_)
    by_cases hc:Kr rk (arrOf st2) (lo+k) < Kr rk (arrOf st2) (lo+(l+g) / 2)
    ·rw [bg2 hc]
     refine bi7 ⟨rfl,l,(l+g) / 2,rfl,by omega,by omega,by omega,f1,fun i i1 i2=>?_⟩
     have:=u1 (lo+(l+g) / 2) (lo+i) (by omega) (by omega) (by omega)
     omega
    ·rw [bg4 hc]
     refine bi7 ⟨rfl,(l+g) / 2+1,g,rfl,by omega,d2,by omega,fun i i1=>?_,f2⟩
     have:=u1 (lo+i) (lo+(l+g) / 2) (by omega) (by omega) (by omega)
     omega
  ·rintro r st2 ⟨rfl,l,g,rfl,d1,d2,d3,f1,f2⟩
   have e:g=l:=by omega
   subst e
   exact⟨rfl,g,g,rfl,d2,f1,f2⟩
  ·exact⟨rfl,0,k,rfl,by omega,by omega,by omega,fun i hi=>absurd hi (by omega),fun i i1 i2=>absurd i1 (by omega)⟩
  ·rintro r st2 ⟨rfl,l,g,rfl,d,f1,f2⟩
   dsimp only
   rw [moveDown'_eq]
   have kb:∀ i,Kr rk (bubble (arrOf st2) (lo+k) (lo+k - (lo+l))) i=Kr rk (arrOf st2) (if i=lo+l then lo+k else if lo+l < i/\i<=lo+k then i - 1 else i):=fun i=>by
    rw [aG0 (by omega) (by omega),show lo+k - (lo+k - (lo+l))=lo+l by omega]
   refine bh7 (wpS_modify (bi7 ⟨rfl,b1.put (bubble_perm _ _ _),fun i j hi hij hj=>?_,fun i hi=>?_⟩))
   ·show Kr rk (bubble (arrOf st2) (lo+k) (lo+k - (lo+l))) i<=Kr rk (bubble (arrOf st2) (lo+k) (lo+k - (lo+l))) j
    rw [kb,kb]
    rw [show min (k+1) n=k+1 by omega] at hj
    have v1:∀ p,lo<=p->p < lo+l->Kr rk (arrOf st2) p<=Kr rk (arrOf st2) (lo+k):=fun p p1 p2=>by have:=f1 (p - lo) (by omega); rwa [show lo+(p - lo)=p by omega] at this
    have v2:∀ p,lo+l<=p->p < lo+k->Kr rk (arrOf st2) (lo+k) < Kr rk (arrOf st2) p:=fun p p1 p2=>by have:=f2 (p - lo) (by omega) (by omega); rwa [show lo+(p - lo)=p by omega] at this
    repeat' split
    all_goals first
     | (exfalso; omega)
     | exact bq2 _
     | exact v1 _ (by omega) (by omega)
     | exact bu2 (v2 _ (by omega) (by omega))
     | exact u1 _ _ (by omega) (by omega) (by omega)
   ·show Kr rk (bubble (arrOf st2) (lo+k) (lo+k - (lo+l))) i=_
    rw [kb,if_neg (by omega),if_neg (by omega)]
    exact l1 i hi
 ·rintro r st1 ⟨rfl,b1,u1,l1⟩
  rw [show min (max (max q 1) n) n=n by omega] at u1
  exact⟨rfl,b1,u1,l1⟩
 ·refine⟨rfl,b,fun i j hi hij hj=>?_,fun _ _=>rfl⟩
  rcases bl9 j (lo+q) with z | z
  ·exact u i j hi hij z
  ·rw [show i=j by omega]; exact bq2 _
 ·rintro r st1 ⟨rfl,b1,u1,l1⟩
  exact bi7 (h st1 b1 u1 l1)
end
noncomputable def l5:Bool->Keyed->Array Keyed->Nat->Nat->Nat->StateT SortSt Sem (Option Nat):=sortPriv% PySem.Builtin.gallop
noncomputable def lZ (lf:Bool) (key:Keyed) (xs:Array Keyed) (bs i:Nat):StateT SortSt Sem (Option Bool):=do
 let z <- elem' xs (bs+i)
 if lf then lt' z key else return (<- lt' key z).map (!·)
theorem aG4 (lf:Bool) (key:Keyed) (xs:Array Keyed) (bs n h:Nat):l5 lf key xs bs n h=(do
 let mut la:=0
 let mut of:=1
 let mut l:=0
 let mut g:=0
 let some rt <- lZ lf key xs bs h | return none
 if rt then
  let mx:=n - h
  for _ in [0:n] do
   if of >= mx then break
   let some mr <- lZ lf key xs bs (h+of) | return none
   if !mr then break
   la:=of
   of:=2 * of+1
  l:=h+la+1
  g:=h+min of mx
 else
  let mx:=h+1
  for _ in [0:n] do
   if of >= mx then break
   let some fd <- lZ lf key xs bs (h - of) | return none
   if fd then break
   la:=of
   of:=2 * of+1
  l:=h+1 - min of mx
  g:=h - la
 for _ in [0:n] do
  if l >= g then break
  let m:=l+(g - l) / 2
  let some mr <- lZ lf key xs bs m | return none
  if mr then l:=m+1 else g:=m
 return some g):=rfl
section
variable {rk : Keyed → Int} {κ : SortKind} {st : SortSt} {prog : Program} {w : World} {A : Around} {E : Value → Shared → Prop} {s : Shared} {Ok : Keyed → Prop}
noncomputable def c7 (rk:Keyed->Int) (lf:Bool) (key:Keyed) (xs:Array Keyed) (bs i:Nat):Bool:=if lf then decide (Kr rk xs (bs+i) < rk key) else decide (Kr rk xs (bs+i)<=rk key)
theorem rY (c:cB prog w A E s κ Ok rk) (hk:kindOf st=κ) {lf:Bool}{key:Keyed}{xs:Array Keyed}{bs i:Nat}{Q:Option Bool->SortSt->Prop} (ok:Ok key) (o:bQ Ok xs) (hi:bs+i < xs.size)
  (h:Q (some (c7 rk lf key xs bs i)) st):wpS (model prog w) A E s (lZ lf key xs bs i) Q st:=by
 unfold lZ
 refine bh7 (dB hi ?_)
 unfold c7 at h
 rw [c9 hi] at h
 cases lf with
 | true=>
  simp only [if_true] at h ⊢
  exact c _ _ (o _ (bm2 hi)) ok st Q hk h
 | false=>
  simp only [bj7,bp8] at h ⊢
  refine bh7 (c _ _ ok (o _ (bm2 hi)) st _ hk (bi7 ?_))
  have e:(!decide (rk key < rk xs[bs+i]))=decide (rk xs[bs+i]<=rk key):=by
   by_cases z:rk xs[bs+i]<=rk key
   ·rw [bg2 z,bg4 (by omega)]; rfl
   ·rw [bg4 z,bg2 (by omega)]; rfl
  show Q (some (!decide (rk key < rk xs[bs+i]))) st
  rw [e]; exact h
noncomputable abbrev GS:=Option (Option Nat) × Nat × Nat
noncomputable def S0 (lf:Bool) (key:Keyed) (xs:Array Keyed) (bs n l g:Nat):StateT SortSt Sem GS:=forIn [0:n] ((none,l,g):GS) fun _ r=>
 if r.2.1 >= r.2.2 then pure (ForInStep.done (none,r.2.1,r.2.2)) else do
  match <- lZ lf key xs bs (r.2.1+(r.2.2 - r.2.1) / 2) with
  | some q=>if q=true then pure (ForInStep.yield (none,r.2.1+(r.2.2 - r.2.1) / 2+1,r.2.2)) else pure (ForInStep.yield (none,r.2.1,r.2.1+(r.2.2 - r.2.1) / 2))
  | _=>pure (ForInStep.done (some none,r.2.1,r.2.2))
theorem S2 (c:cB prog w A E s κ Ok rk) (hk:kindOf st=κ) {lf:Bool}{key:Keyed}{xs:Array Keyed}{bs n l g:Nat}{Q:GS->SortSt->Prop} (ok:Ok key) (o:bQ Ok xs) (hz:bs+n<=xs.size)
  (mono:∀ i j,i<=j->j < n->c7 rk lf key xs bs j=true->c7 rk lf key xs bs i=true) (hlg:l<=g) (hg:g<=n) (h1:∀ i,i < l->c7 rk lf key xs bs i=true) (h2:∀ i,g<=i->i < n->c7 rk lf key xs bs i=false)
  (hq:∀ k,k<=n->(∀ i,i < k->c7 rk lf key xs bs i=true)->(∀ i,k<=i->i < n->c7 rk lf key xs bs i=false)->Q (none,k,k) st):wpS (model prog w) A E s (S0 lf key xs bs n l g) Q st:=by
 unfold S0
 refine bp7 (I:=fun x r st'=>st'=st/\∃ l g,r=(none,l,g)/\l<=g/\g<=n/\g - l<=n - x/\(∀ i,i < l->c7 rk lf key xs bs i=true)/\∀ i,g<=i->i < n->c7 rk lf key xs bs i=false) ?_ ?_ ⟨rfl,l,g,rfl,hlg,hg,by omega,h1,h2⟩
 ·rintro x r st' _ hx ⟨rfl,l,g,rfl,d1,d2,d3,f1,f2⟩
  dsimp only
  by_cases hc:l >= g
  ·rw [if_pos hc]
   have e:g=l:=by omega
   subst e
   exact bi7 (hq g d2 f1 f2)
  ·rw [if_neg hc]
   refine bh7 (rY c hk ok o (by omega) ?_)
   cases z:c7 rk lf key xs bs (l+(g - l) / 2) with
   | true=>exact bi7 ⟨rfl,_,_,rfl,by omega,d2,by omega,fun i hi=>mono i (l+(g - l) / 2) (by omega) (by omega) z,f2⟩
   | false=>
    refine bi7 ⟨rfl,_,_,rfl,by omega,by omega,by omega,f1,fun i i1 i2=>?_⟩
    cases y:c7 rk lf key xs bs i with
    | false=>rfl
    | true=>rw [mono _ i i1 i2 y] at z; cases z
 ·rintro r st' ⟨rfl,l,g,rfl,d1,d2,d3,f1,f2⟩
  have e:g=l:=by omega
  subst e
  exact hq g d2 f1 f2
theorem nE (c:cB prog w A E s κ Ok rk) (hk:kindOf st=κ) {lf:Bool}{key:Keyed}{xs:Array Keyed}{bs n h:Nat}{Q:Option Nat->SortSt->Prop} (ok:Ok key) (o:bQ Ok xs) (hh:h < n) (hz:bs+n<=xs.size) (u:Up rk xs bs (bs+n))
  (hq:∀ k,k<=n->(∀ i,i < k->c7 rk lf key xs bs i=true)->(∀ i,k<=i->i < n->c7 rk lf key xs bs i=false)->Q (some k) st):wpS (model prog w) A E s (l5 lf key xs bs n h) Q st:=by
 have mono:∀ i j,i<=j->j < n->c7 rk lf key xs bs j=true->c7 rk lf key xs bs i=true:=fun i j hij hj e=>by
  have:=u (bs+i) (bs+j) (by omega) (by omega) (by omega)
  unfold c7 at e ⊢
  cases lf with
  | true=>simp only [if_true,bk2] at e ⊢; omega
  | false=>simp only [bj7,bp8,bk2] at e ⊢; omega
 have monf:∀ i j,i<=j->j < n->c7 rk lf key xs bs i=false->c7 rk lf key xs bs j=false:=fun i j hij hj e=>by
  cases z:c7 rk lf key xs bs j with
  | false=>rfl
  | true=>rw [mono i j hij hj z] at e; cases e
 rw [aG4]
 refine bh7 (rY c hk ok o (by omega) ?_)
 dsimp only
 cases z:c7 rk lf key xs bs h with
 | true=>
  rw [if_pos rfl]
  refine bh7 (bw4 (bp7 (I:=fun x r st'=>st'=st/\∃ la of,r=(none,la,of)/\la < of/\x < of/\h+la < n/\c7 rk lf key xs bs (h+la)=true)
   (Q:=fun r st'=>st'=st/\∃ la of,r=(none,la,of)/\la < of/\h+la < n/\c7 rk lf key xs bs (h+la)=true/\(of < n - h->c7 rk lf key xs bs (h+of)=false)) ?_ ?_ ⟨rfl,0,1,rfl,by omega,by omega,by omega,z⟩) ?_)
  ·rintro x r st' _ hx ⟨rfl,la,of,rfl,d1,d2,d3,f⟩
   dsimp only
   by_cases hc:of >= n - h
   ·rw [if_pos hc]
    exact bi7 ⟨rfl,la,of,rfl,d1,d3,f,fun y=>absurd y (by omega)⟩
   ·rw [if_neg hc]
    refine bh7 (rY c hk ok o (by omega) ?_)
    cases y:c7 rk lf key xs bs (h+of) with
    | true=>exact bi7 ⟨rfl,of,2 * of+1,rfl,by omega,by omega,by omega,y⟩
    | false=>exact bi7 ⟨rfl,la,of,rfl,d1,d3,f,fun _=>y⟩
  ·rintro r st' ⟨rfl,la,of,rfl,d1,d2,d3,f⟩
   exact⟨rfl,la,of,rfl,d1,d3,f,fun y=>absurd y (by omega)⟩
  ·rintro r st' ⟨rfl,la,of,rfl,d1,d3,f,ft⟩
   dsimp only
   refine bh7 (S2 (l:=h+la+1) (g:=h+min of (n - h)) c hk ok o hz mono (by omega) (by omega) (fun i hi=>mono i (h+la) (by omega) d3 f) (fun i i1 i2=>?_) fun k k1 k2 k3=>bi7 (hq k k1 k2 k3))
   rcases bl9 of (n - h) with y | y
   ·exact monf (h+of) i (by omega) i2 (ft y)
   ·exact absurd i1 (by omega)
 | false=>
  rw [if_neg bi5]
  refine bh7 (bw4 (bp7 (I:=fun x r st'=>st'=st/\∃ la of,r=(none,la,of)/\la < of/\x < of/\la<=h/\c7 rk lf key xs bs (h - la)=false)
   (Q:=fun r st'=>st'=st/\∃ la of,r=(none,la,of)/\la < of/\la<=h/\c7 rk lf key xs bs (h - la)=false/\(of < h+1->c7 rk lf key xs bs (h - of)=true)) ?_ ?_ ⟨rfl,0,1,rfl,by omega,by omega,by omega,z⟩) ?_)
  ·rintro x r st' _ hx ⟨rfl,la,of,rfl,d1,d2,d3,f⟩
   dsimp only
   by_cases hc:of >= h+1
   ·rw [if_pos hc]
    exact bi7 ⟨rfl,la,of,rfl,d1,d3,f,fun y=>absurd y (by omega)⟩
   ·rw [if_neg hc]
    refine bh7 (rY c hk ok o (by omega) ?_)
    cases y:c7 rk lf key xs bs (h - of) with
    | false=>exact bi7 ⟨rfl,of,2 * of+1,rfl,by omega,by omega,by omega,y⟩
    | true=>exact bi7 ⟨rfl,la,of,rfl,d1,d3,f,fun _=>y⟩
  ·rintro r st' ⟨rfl,la,of,rfl,d1,d2,d3,f⟩
   exact⟨rfl,la,of,rfl,d1,d3,f,fun y=>absurd y (by omega)⟩
  ·rintro r st' ⟨rfl,la,of,rfl,d1,d3,f,ft⟩
   dsimp only
   refine bh7 (S2 (l:=h+1 - min of (h+1)) (g:=h - la) c hk ok o hz mono (by omega) (by omega) (fun i hi=>?_) (fun i i1 i2=>monf (h - la) i i1 i2 f) fun k k1 k2 k3=>bi7 (hq k k1 k2 k3))
   rcases bl9 of (h+1) with y | y
   ·exact mono i (h - of) (by omega) (by omega) (ft y)
   ·exact absurd hi (by omega)
end
noncomputable def nF:Nat->StateT SortSt Sem Unit:=sortPriv% PySem.Builtin.setMinGallop
noncomputable def wY:Array Keyed->Array Keyed->StateT SortSt Sem (Array Keyed):=sortPriv% PySem.Builtin.mergeLo
theorem aG5 (g:Nat):nF g=modify (fun st=>SortSt.mk' (kindOf st) (arrOf st) (pendingOf st) g (failedOf st)):=rfl
noncomputable abbrev LS:=Option (Array Keyed) × Array Keyed × Nat × Nat × Nat × Nat × Nat
noncomputable abbrev wZ:=Option (Array Keyed) × Array Keyed × Nat × Nat × Nat × Nat
noncomputable abbrev LO:=Option (Array Keyed) × Array Keyed × Nat × Nat × Nat
noncomputable def rZ (x y o:Array Keyed) (i j mg p q:Nat):StateT SortSt Sem (ForInStep LS):=do
 let v <- elem' x i
 if (i+1+1 == x.size)=true then pure (.done (some (o.push v ++ y.extract j y.size ++ x.extract (i+1) x.size),o.push v,i+1,j,mg,p,q))
 else if (decide (p < 7) && decide (q < 7))=true then pure (.done (none,o.push v,i+1,j,mg,p,q)) else pure (.yield (none,o.push v,i+1,j,mg,p,q))
noncomputable def sA (x y o:Array Keyed) (i j mg p q:Nat):StateT SortSt Sem (ForInStep LS):=do
 let v <- elem' y j
 if (j+1 == y.size)=true then pure (.done (some (o.push v ++ x.extract i x.size ++ y.extract (j+1) y.size),o.push v,i,j+1,mg,p,q)) else do
  let u <- elem' x i
  match <- l5 true u y (j+1) (y.size - (j+1)) 0 with
  | some k=>
   if k > 0 then
    if (j+1+k == y.size)=true then pure (.done (some (o.push v ++ y.extract (j+1) (j+1+k) ++ x.extract i x.size ++ y.extract (j+1+k) y.size),o.push v ++ y.extract (j+1) (j+1+k),i,j+1+k,mg,p,k))
    else rZ x y (o.push v ++ y.extract (j+1) (j+1+k)) i (j+1+k) mg p k
   else rZ x y (o.push v) i (j+1) mg p k
  | _=>pure (.done (some (o.push v ++ x.extract i x.size ++ y.extract (j+1) y.size),o.push v,i,j+1,mg,p,q))
noncomputable def sB (x y o:Array Keyed) (i j mg p q:Nat):StateT SortSt Sem (ForInStep LS):=do
 nF mg
 let v <- elem' y j
 match <- l5 false v x i (x.size - i) 0 with
 | some k=>
  if k > 0 then
   if (i+k+1 == x.size)=true then pure (.done (some (o ++ x.extract i (i+k) ++ y.extract j y.size ++ x.extract (i+k) x.size),o ++ x.extract i (i+k),i+k,j,mg,k,q))
   else if (i+k == x.size)=true then pure (.done (some (o ++ x.extract i (i+k) ++ x.extract (i+k) x.size ++ y.extract j y.size),o ++ x.extract i (i+k),i+k,j,mg,k,q))
   else sA x y (o ++ x.extract i (i+k)) (i+k) j mg k q
  else sA x y o i j mg k q
 | _=>pure (.done (some (o ++ x.extract i x.size ++ y.extract j y.size),o,i,j,mg,p,q))
noncomputable def x3 (x y o:Array Keyed) (i j mg p q:Nat):StateT SortSt Sem LS:=forIn [0:x.size+y.size] ((none,o,i,j,mg,p,q):LS) fun _ r=>
 if r.2.2.2.2.1 > 1 then sB x y r.2.1 r.2.2.1 r.2.2.2.1 (r.2.2.2.2.1 - 1) r.2.2.2.2.2.1 r.2.2.2.2.2.2 else sB x y r.2.1 r.2.2.1 r.2.2.2.1 r.2.2.2.2.1 r.2.2.2.2.2.1 r.2.2.2.2.2.2
noncomputable def x4 (x y o:Array Keyed) (i j mg:Nat):StateT SortSt Sem wZ:=forIn [0:x.size+y.size] ((none,o,i,j,0,0):wZ) fun _ r=>do
 let v <- elem' y r.2.2.2.1
 let u <- elem' x r.2.2.1
 match <- lt' v u with
 | some q=>
  if q=true then do
   let v <- elem' y r.2.2.2.1
   if (r.2.2.2.1+1 == y.size)=true then pure (.done (some (r.2.1.push v ++ x.extract r.2.2.1 x.size ++ y.extract (r.2.2.2.1+1) y.size),r.2.1.push v,r.2.2.1,r.2.2.2.1+1,0,r.2.2.2.2.2+1))
   else if r.2.2.2.2.2+1 >= mg then pure (.done (none,r.2.1.push v,r.2.2.1,r.2.2.2.1+1,0,r.2.2.2.2.2+1)) else pure (.yield (none,r.2.1.push v,r.2.2.1,r.2.2.2.1+1,0,r.2.2.2.2.2+1))
  else do
   let u <- elem' x r.2.2.1
   if (r.2.2.1+1+1 == x.size)=true then pure (.done (some (r.2.1.push u ++ y.extract r.2.2.2.1 y.size ++ x.extract (r.2.2.1+1) x.size),r.2.1.push u,r.2.2.1+1,r.2.2.2.1,r.2.2.2.2.1+1,0))
   else if r.2.2.2.2.1+1 >= mg then pure (.done (none,r.2.1.push u,r.2.2.1+1,r.2.2.2.1,r.2.2.2.2.1+1,0)) else pure (.yield (none,r.2.1.push u,r.2.2.1+1,r.2.2.2.1,r.2.2.2.2.1+1,0))
 | _=>pure (.done (some (r.2.1 ++ x.extract r.2.2.1 x.size ++ y.extract r.2.2.2.1 y.size),r.2.1,r.2.2.1,r.2.2.2.1,r.2.2.2.2.1,r.2.2.2.2.2))
noncomputable def S3 (x y o:Array Keyed) (i j mg:Nat):StateT SortSt Sem LO:=forIn [0:x.size+y.size] ((none,o,i,j,mg):LO) fun _ r=>do
 let u <- x4 x y r.2.1 r.2.2.1 r.2.2.2.1 r.2.2.2.2
 match u.1 with
 | some z=>pure (.done (some z,u.2.1,u.2.2.1,u.2.2.2.1,r.2.2.2.2))
 | none=>do
  liftM (rule "list.sort.gallop")
  let v <- x3 x y u.2.1 u.2.2.1 u.2.2.2.1 (r.2.2.2.2+1) u.2.2.2.2.1 u.2.2.2.2.2
  match v.1 with
  | some z=>pure (.done (some z,v.2.1,v.2.2.1,v.2.2.2.1,v.2.2.2.2.1))
  | none=>do
   nF (v.2.2.2.2.1+1)
   pure (.yield (none,v.2.1,v.2.2.1,v.2.2.2.1,v.2.2.2.2.1+1))
theorem aG6 (x y:Array Keyed):wY x y=(do
 liftM (rule "list.sort.merge-lo")
 let v <- elem' y 0
 if (1 == y.size)=true then pure (#[v] ++ x.extract 0 x.size ++ y.extract 1 y.size)
 else if (0+1 == x.size)=true then pure (#[v] ++ y.extract 1 y.size ++ x.extract 0 x.size)
 else do
  let z <- get
  let r <- S3 x y #[v] 0 1 (gallopOf z)
  match r.1 with
  | some z=>pure z
  | none=>unsupported "internal:list.sort.merge-bound"):=by kernel_rfl
section
variable (rk : Keyed → Int)
noncomputable def Sd (l:List Keyed):Prop:=l.Pairwise fun a b=>rk a<=rk b
structure MI (xs ys o:List Keyed) (i j:Nat):Prop where
 pm:o.Perm (xs.take i ++ ys.take j)
 sx:Sd rk (o ++ xs.drop i)
 sy:Sd rk (o ++ ys.drop j)
end
variable {rk : Keyed → Int} {xs ys o : List Keyed} {i j : Nat}
theorem Sd.ins {o a b d:List Keyed} (h1:Sd rk (o ++ a)) (h2:Sd rk (o ++ (b ++ d))) (h:∀ u ∈ b,∀ t ∈ a,rk u<=rk t):Sd rk ((o ++ b) ++ a):=by
 unfold Sd at *
 rw [bj2]
 obtain ⟨p1,p2,p3⟩:=bl2.mp h1
 obtain ⟨q1,q2,q3⟩:=bl2.mp h2
 obtain ⟨r1,r2,r3⟩:=bl2.mp q2
 refine bl2.mpr ⟨p1,bl2.mpr ⟨r1,p2,h⟩,fun u hu t ht=>?_⟩
 rcases bh4.mp ht with z | z
 ·exact q3 u hu t (bk3 _ z)
 ·exact p3 u hu t z
theorem MI.ofy (m:MI rk xs ys o i j) (k:Nat) (h:∀ u ∈ (ys.drop j).take k,∀ t ∈ xs.drop i,rk u<=rk t):MI rk xs ys (o ++ (ys.drop j).take k) i (j+k):=by
 have e:(ys.drop j).take k ++ ys.drop (j+k)=ys.drop j:=by rw [<- List.drop_drop]; exact bk0 k _
 refine⟨?_,Sd.ins m.sx (d:=ys.drop (j+k)) (by rw [e]; exact m.sy) h,by rw [bj2,e]; exact m.sy⟩
 rw [List.take_add,<- bj2]
 exact m.pm.append_right _
theorem MI.ofx (m:MI rk xs ys o i j) (k:Nat) (h:∀ u ∈ (xs.drop i).take k,∀ t ∈ ys.drop j,rk u<=rk t):MI rk xs ys (o ++ (xs.drop i).take k) (i+k) j:=by
 have e:(xs.drop i).take k ++ xs.drop (i+k)=xs.drop i:=by rw [<- List.drop_drop]; exact bk0 k _
 refine⟨?_,by rw [bj2,e]; exact m.sx,Sd.ins m.sy (d:=xs.drop (i+k)) (by rw [e]; exact m.sx) h⟩
 rw [List.take_add]
 refine (m.pm.append_right _).trans ?_
 rw [bj2,bj2]
 exact (List.perm_append_comm).append_left _
theorem MI.fin (m:MI rk xs ys o i j) (h:xs.length<=i ∨ ys.length<=j):(o ++ xs.drop i ++ ys.drop j).Perm (xs ++ ys)/\Sd rk (o ++ xs.drop i ++ ys.drop j):=by
 refine⟨?_,?_⟩
 ·rw [bj2]
  refine (m.pm.append_right _).trans ?_
  have e1:xs=xs.take i ++ xs.drop i:=(bk0 i xs).symm
  have e2:ys=ys.take j ++ ys.drop j:=(bk0 j ys).symm
  conv=>rhs; rw [e1,e2]
  rw [bj2,bj2]
  refine List.Perm.append_left _ ?_
  rw [<- bj2,<- bj2]
  exact (List.perm_append_comm).append_right _
 ·rcases h with h | h
  ·rw [List.drop_eq_nil_of_le h,bk4]; exact m.sy
  ·rw [List.drop_eq_nil_of_le h,bk4]; exact m.sx
theorem MI.lst (m:MI rk xs ys o i j) (h:∀ u ∈ ys,∀ t ∈ xs.drop i,rk u<=rk t):(o ++ ys.drop j ++ xs.drop i).Perm (xs ++ ys)/\Sd rk (o ++ ys.drop j ++ xs.drop i):=by
 have m2:=m.ofy ys.length fun u hu t ht=>h u (List.mem_of_mem_drop (List.mem_of_mem_take hu)) t ht
 have e:(ys.drop j).take ys.length=ys.drop j:=bj3 (by simp)
 rw [e] at m2
 have f:=m2.fin (.inr (by omega))
 rw [List.drop_eq_nil_of_le (as:=ys) (i:=j+ys.length) (by omega),bk4] at f
 exact f
theorem S4 {x:Array Keyed}{i k:Nat}{u:Keyed} (h:u ∈ (x.toList.drop i).take k):∃ t,t < k/\i+t < x.size/\rk u=Kr rk x (i+t):=by
 obtain ⟨t,ht,e⟩:=br5 h
 have h1:t < k/\i+t < x.size:=by simp at ht; omega
 refine⟨t,h1.1,h1.2,?_⟩
 rw [c9 h1.2,<- e]
 simp
theorem pI {x:Array Keyed}{i:Nat}{u:Keyed} (h:u ∈ x.toList.drop i):∃ t,i+t < x.size/\rk u=Kr rk x (i+t):=by
 obtain ⟨t,ht,e⟩:=br5 h
 have h1:i+t < x.size:=by simp at ht; omega
 refine⟨t,h1,?_⟩
 rw [c9 h1,<- e]
 simp
theorem Sd.up {x:Array Keyed} (h:Sd rk x.toList) (lo hi:Nat) (hh:hi<=x.size):Up rk x lo hi:=fun i j _ hij hj=>by
 rw [c9 (by omega:i < x.size),c9 (by omega:j < x.size)]
 rcases bv4 hij with z | z
 ·subst z; exact bq2 _
 ·have:=bl4.mp h i j (by simp; omega) (by simp; omega) z
  simpa using this
theorem S5 (x:Array Keyed) (i k:Nat):(x.extract i (i+k)).toList=(x.toList.drop i).take k:=by
 simp [List.extract]
theorem sC (x:Array Keyed) (i:Nat):(x.extract i x.size).toList=x.toList.drop i:=by
 simp [List.extract]
 exact bj3 (by simp)
theorem m3 {x:Array Keyed}{i:Nat} (h:i < x.size) : [x[i]]=(x.toList.drop i).take 1:=by
 rw [br3 (by simpa using h)]; simp
structure Gq (st st':SortSt):Prop where
 kd:kindOf st'=kindOf st
 ar:arrOf st'=arrOf st
 pd:pendingOf st'=pendingOf st
 ok:failedOf st'=failedOf st
theorem Gq.refl (st:SortSt):Gq st st:=⟨rfl,rfl,rfl,rfl⟩
section
variable {κ : SortKind} {st : SortSt} {prog : Program} {w : World} {A : Around} {E : Value → Shared → Prop} {s : Shared} {Ok : Keyed → Prop}
theorem sD {st0:SortSt}{g:Nat}{Q:Unit->SortSt->Prop} (q:Gq st0 st) (h:∀ st',Gq st0 st'->Q () st'):wpS (model prog w) A E s (nF g) Q st:=by
 rw [aG5]; exact wpS_modify (h _ ⟨q.kd,q.ar,q.pd,q.ok⟩)
noncomputable def eN (rk:Keyed->Int) (x y r:Array Keyed):Prop:=r.toList.Perm (x.toList ++ y.toList)/\Sd rk r.toList
theorem MI.y1 {x y o:Array Keyed} (m:MI rk x.toList y.toList o.toList i j) (hj:j < y.size) (h:∀ t,i+t < x.size->rk y[j]<=Kr rk x (i+t)):MI rk x.toList y.toList (o.push y[j]).toList i (j+1):=by
 have:=m.ofy 1 fun u hu t ht=>?_
 ·rw [<- m3 hj] at this; simpa using this
 ·rw [<- m3 hj,bh1] at hu
  subst hu
  obtain ⟨q,q1,q2⟩:=pI (rk:=rk) ht
  rw [q2]; exact h q q1
theorem MI.x1 {x y o:Array Keyed} (m:MI rk x.toList y.toList o.toList i j) (hi:i < x.size) (h:∀ t,j+t < y.size->rk x[i]<=Kr rk y (j+t)):MI rk x.toList y.toList (o.push x[i]).toList (i+1) j:=by
 have:=m.ofx 1 fun u hu t ht=>?_
 ·rw [<- m3 hi] at this; simpa using this
 ·rw [<- m3 hi,bh1] at hu
  subst hu
  obtain ⟨q,q1,q2⟩:=pI (rk:=rk) ht
  rw [q2]; exact h q q1
theorem MI.yk {x y o:Array Keyed} (m:MI rk x.toList y.toList o.toList i j) (k:Nat) (h:∀ p t,p < k->j+p < y.size->i+t < x.size->Kr rk y (j+p)<=Kr rk x (i+t)):MI rk x.toList y.toList (o ++ y.extract j (j+k)).toList i (j+k):=by
 have:=m.ofy k fun u hu t ht=>?_
 ·rw [<- S5] at this; rw [bo0]; exact this
 ·obtain ⟨p,p1,p2,p3⟩:=S4 (rk:=rk) hu
  obtain ⟨q,q1,q2⟩:=pI (rk:=rk) ht
  rw [q2,p3]; exact h p q p1 p2 q1
theorem MI.xk {x y o:Array Keyed} (m:MI rk x.toList y.toList o.toList i j) (k:Nat) (h:∀ p t,p < k->i+p < x.size->j+t < y.size->Kr rk x (i+p)<=Kr rk y (j+t)):MI rk x.toList y.toList (o ++ x.extract i (i+k)).toList (i+k) j:=by
 have:=m.ofx k fun u hu t ht=>?_
 ·rw [<- S5] at this; rw [bo0]; exact this
 ·obtain ⟨p,p1,p2,p3⟩:=S4 (rk:=rk) hu
  obtain ⟨q,q1,q2⟩:=pI (rk:=rk) ht
  rw [q2,p3]; exact h p q p1 p2 q1
theorem nG {key:Keyed}{xs:Array Keyed}{bs i:Nat}:c7 rk false key xs bs i=decide (Kr rk xs (bs+i)<=rk key):=rfl
theorem nH {key:Keyed}{xs:Array Keyed}{bs i:Nat}:c7 rk true key xs bs i=decide (Kr rk xs (bs+i) < rk key):=rfl
noncomputable def GI (rk:Keyed->Int) (x y:Array Keyed) (lb:Nat) (st:SortSt) (c:LS) (st':SortSt):Prop:=Gq st st'/\∃ o i j mg p q,c=(none,o,i,j,mg,p,q)/\MI rk x.toList y.toList o.toList i j/\i+1 < x.size/\j < y.size/\lb<=i+j
noncomputable def GQ (rk:Keyed->Int) (x y:Array Keyed) (lb:Nat) (st:SortSt) (c:LS) (st':SortSt):Prop:=Gq st st'/\((∃ r o i j mg p q,c=(some r,o,i,j,mg,p,q)/\eN rk x y r) ∨ ∃ o i j mg p q,c=(none,o,i,j,mg,p,q)/\MI rk x.toList y.toList o.toList i j/\i+1 < x.size/\j < y.size/\lb<=i+j)
noncomputable def GR (rk:Keyed->Int) (x y:Array Keyed) (lb:Nat) (st:SortSt) (r:ForInStep LS) (st':SortSt):Prop:=match r with | .done c=>GQ rk x y lb st c st' | .yield c=>GI rk x y lb st c st'
theorem MI.done {x y o:Array Keyed} (m:MI rk x.toList y.toList o.toList i j) (hh:x.size<=i ∨ y.size<=j):eN rk x y (o ++ x.extract i x.size ++ y.extract j y.size):=by
 unfold eN
 rw [bo0,bo0,sC,sC]
 exact m.fin (by simpa using hh)
theorem MI.last {x y o:Array Keyed} (m:MI rk x.toList y.toList o.toList i j) (x0:0 < x.size) (hl:∀ u ∈ y.toList,rk u<=rk x[x.size - 1]) (hh:i+1=x.size):eN rk x y (o ++ y.extract j y.size ++ x.extract i x.size):=by
 unfold eN
 rw [bo0,bo0,sC,sC]
 refine m.lst fun u hu t ht=>?_
 obtain ⟨q,q1,q2⟩:=pI (rk:=rk) ht
 have e:i+q=x.size - 1:=by omega
 rw [q2,e,c9 (by omega)]
 exact hl u hu
theorem S6 {st0:SortSt}{x y o:Array Keyed}{mg p q lb:Nat} (x0:0 < x.size) (hl:∀ u ∈ y.toList,rk u<=rk x[x.size - 1]) (g:Gq st0 st) (m:MI rk x.toList y.toList o.toList i j) (hi:i+1 < x.size) (hj:j < y.size) (hb:lb<=i+j)
  (hm:∀ t,j+t < y.size->rk x[i]<=Kr rk y (j+t)):wpS (model prog w) A E s (rZ x y o i j mg p q) (GR rk x y lb st0) st:=by
 unfold rZ
 have hi':i < x.size:=by omega
 have m':=m.x1 hi' hm
 refine bh7 (dB hi' ?_)
 by_cases he:(i+1+1 == x.size)=true
 ·rw [if_pos he]
  have he:i+1+1=x.size:=by simpa using he
  exact bi7 ⟨g,.inl ⟨_,_,_,_,_,_,_,rfl,m'.last x0 hl he⟩⟩
 ·rw [if_neg he]
  have he:i+1+1 ≠ x.size:=by simpa using he
  split
  ·exact bi7 ⟨g,.inr ⟨_,_,_,_,_,_,rfl,m',by omega,hj,by omega⟩⟩
  ·exact bi7 ⟨g,_,_,_,_,_,_,rfl,m',by omega,hj,by omega⟩
theorem S7 (c:cB prog w A E s κ Ok rk) {st0:SortSt} (hk:kindOf st0=κ) {x y o:Array Keyed}{mg p q lb:Nat} (ox:bQ Ok x) (oy:bQ Ok y) (sx:Sd rk x.toList) (sy:Sd rk y.toList) (x0:0 < x.size) (hl:∀ u ∈ y.toList,rk u<=rk x[x.size - 1]) (g:Gq st0 st) (m:MI rk x.toList y.toList o.toList i j) (hi:i+1 < x.size) (hj:j < y.size) (hb:lb<=i+j)
  (hm:∀ t,i+t < x.size->rk y[j]<=Kr rk x (i+t)):wpS (model prog w) A E s (sA x y o i j mg p q) (GR rk x y lb st0) st:=by
 unfold sA
 have hi':i < x.size:=by omega
 have m':=m.y1 hj hm
 refine bh7 (dB hj ?_)
 by_cases he:(j+1 == y.size)=true
 ·rw [if_pos he]
  have he:j+1=y.size:=by simpa using he
  exact bi7 ⟨g,.inl ⟨_,_,_,_,_,_,_,rfl,m'.done (.inr (by omega))⟩⟩
 ·rw [if_neg he]
  have he:j+1 ≠ y.size:=by simpa using he
  refine bh7 (dB hi' (bh7 (nE c (g.kd.trans hk) (ox _ (bm2 hi')) oy (by omega) (by omega) (sy.up _ _ (by omega)) fun k k1 k2 k3=>?_)))
  dsimp only
  have ux:=sx.up 0 _ (bg9 x.size)
  have mk:=m'.yk k fun p t hp _ ht=>by
   have a1:=k2 p hp
   rw [nH,bk2] at a1
   have a2:=ux i (i+t) (by omega) (by omega) ht
   rw [c9 hi'] at a2
   omega
  have km:∀ t,j+1+k+t < y.size->rk x[i]<=Kr rk y (j+1+k+t):=fun t ht=>by
   have a1:=k3 (k+t) (by omega) (by omega)
   rw [nH,bk9,<- Nat.add_assoc] at a1
   omega
  by_cases hk0:k > 0
  ·rw [if_pos hk0]
   by_cases hf:(j+1+k == y.size)=true
   ·rw [if_pos hf]
    have hf:j+1+k=y.size:=by simpa using hf
    exact bi7 ⟨g,.inl ⟨_,_,_,_,_,_,_,rfl,mk.done (.inr (by omega))⟩⟩
   ·rw [if_neg hf]
    have hf:j+1+k ≠ y.size:=by simpa using hf
    exact S6 x0 hl g mk hi (by omega) (by omega) km
  ·rw [if_neg hk0]
   have e0:k=0:=by omega
   subst e0
   exact S6 x0 hl g m' hi (by omega) (by omega) km
theorem S8 (c:cB prog w A E s κ Ok rk) {st0:SortSt} (hk:kindOf st0=κ) {x y o:Array Keyed}{mg p q lb:Nat} (ox:bQ Ok x) (oy:bQ Ok y) (sx:Sd rk x.toList) (sy:Sd rk y.toList) (x0:0 < x.size) (hl:∀ u ∈ y.toList,rk u<=rk x[x.size - 1]) (g:Gq st0 st) (m:MI rk x.toList y.toList o.toList i j) (hi:i+1 < x.size) (hj:j < y.size) (hb:lb<=i+j) :
  wpS (model prog w) A E s (sB x y o i j mg p q) (GR rk x y lb st0) st:=by
 unfold sB
 refine bh7 (sD g fun st4 q4=>bh7 (dB hj (bh7 (nE c (q4.kd.trans hk) (oy _ (bm2 hj)) ox (by omega) (by omega) (sx.up _ _ (by omega)) fun k k1 k2 k3=>?_))))
 dsimp only
 have uy:=sy.up 0 _ (bg9 y.size)
 have mk:=m.xk k fun p t hp _ ht=>by
  have a1:=k2 p hp
  rw [nG,bk2] at a1
  have a2:=uy j (j+t) (by omega) (by omega) ht
  rw [c9 hj] at a2
  omega
 have km:∀ t,i+k+t < x.size->rk y[j]<=Kr rk x (i+k+t):=fun t ht=>by
  have a1:=k3 (k+t) (by omega) (by omega)
  rw [nG,bk9,<- Nat.add_assoc] at a1
  omega
 by_cases hk0:k > 0
 ·rw [if_pos hk0]
  by_cases he:(i+k+1 == x.size)=true
  ·rw [if_pos he]
   exact bi7 ⟨q4,.inl ⟨_,_,_,_,_,_,_,rfl,mk.last x0 hl (by simpa using he)⟩⟩
  ·rw [if_neg he]
   have he:i+k+1 ≠ x.size:=by simpa using he
   by_cases hf:(i+k == x.size)=true
   ·rw [if_pos hf]
    have hf:i+k=x.size:=by simpa using hf
    exact bi7 ⟨q4,.inl ⟨_,_,_,_,_,_,_,rfl,mk.done (.inl (by omega))⟩⟩
   ·rw [if_neg hf]
    have hf:i+k ≠ x.size:=by simpa using hf
    exact S7 c hk ox oy sx sy x0 hl q4 mk (by omega) hj (by omega) km
 ·rw [if_neg hk0]
  have e0:k=0:=by omega
  subst e0
  exact S7 c hk ox oy sx sy x0 hl q4 m hi hj hb km
theorem aG7 (c:cB prog w A E s κ Ok rk) {st0:SortSt} (hk:kindOf st0=κ) {x y o:Array Keyed}{mg p q lb:Nat} (ox:bQ Ok x) (oy:bQ Ok y) (sx:Sd rk x.toList) (sy:Sd rk y.toList) (x0:0 < x.size) (hl:∀ u ∈ y.toList,rk u<=rk x[x.size - 1]) (g:Gq st0 st) (m:MI rk x.toList y.toList o.toList i j) (hi:i+1 < x.size) (hj:j < y.size) (hb:lb<=i+j) :
  wpS (model prog w) A E s (x3 x y o i j mg p q) (GQ rk x y lb st0) st:=by
 unfold x3
 refine bp7 (I:=fun _=>GI rk x y lb st0) ?_ ?_ ⟨g,o,i,j,_,p,q,rfl,m,hi,hj,hb⟩
 ·rintro t c3 st3 _ _ ⟨q3,o,i,j,mg,p,q,rfl,m,hi,hj,pr3⟩
  dsimp only
  split
  ·exact bw4 (S8 c hk ox oy sx sy x0 hl q3 m hi hj pr3) fun r _ hr=>by cases r <;> exact hr
  ·exact bw4 (S8 c hk ox oy sx sy x0 hl q3 m hi hj pr3) fun r _ hr=>by cases r <;> exact hr
 ·rintro c3 st3 ⟨q3,o,i,j,mg,p,q,rfl,m,hi,hj,pr3⟩
  exact⟨q3,.inr ⟨_,_,_,_,_,_,rfl,m,hi,hj,pr3⟩⟩
theorem aG8 (c:cB prog w A E s κ Ok rk) {st0:SortSt} (hk:kindOf st0=κ) {x y o:Array Keyed}{mg:Nat}{Q:wZ->SortSt->Prop} (ox:bQ Ok x) (oy:bQ Ok y) (sx:Sd rk x.toList) (sy:Sd rk y.toList) (x0:0 < x.size) (hl:∀ u ∈ y.toList,rk u<=rk x[x.size - 1]) (g:Gq st0 st) (m:MI rk x.toList y.toList o.toList i j) (hi:i+1 < x.size) (hj:j < y.size)
  (h1:∀ r o' i' j' p q st',Gq st0 st'->eN rk x y r->Q (some r,o',i',j',p,q) st')
  (h2:∀ o' i' j' p q st',Gq st0 st'->MI rk x.toList y.toList o'.toList i' j'->i'+1 < x.size->j' < y.size->i+j+1<=i'+j'->Q (none,o',i',j',p,q) st') :
  wpS (model prog w) A E s (x4 x y o i j mg) Q st:=by
 have ux:Up rk x 0 x.size:=sx.up 0 _ (bg9 _)
 have uy:Up rk y 0 y.size:=sy.up 0 _ (bg9 _)
 unfold x4
 refine bp7 (I:=fun t c st'=>Gq st0 st'/\∃ o i' j' p q,c=(none,o,i',j',p,q)/\MI rk x.toList y.toList o.toList i' j'/\i'+1 < x.size/\j' < y.size/\i+j+t<=i'+j') ?_ ?_ ⟨g,o,i,j,0,0,rfl,m,hi,hj,by omega⟩
 ·rintro t c2 st2 _ ht ⟨q2,o,i',j',p,q,rfl,m,hi,hj,pr2⟩
  dsimp only
  have hi':i' < x.size:=by omega
  refine bh7 (dB hj (bh7 (dB hi' (bh7 (c _ _ (oy _ (bm2 hj)) (ox _ (bm2 hi')) st2 _ (q2.kd.trans hk) ?_)))))
  by_cases hc:rk y[j'] < rk x[i']
  ·rw [bg2 hc]
   dsimp only
   rw [if_pos rfl]
   have m':=m.y1 hj fun t ht=>by
    have:=ux i' (i'+t) (by omega) (by omega) ht
    rw [c9 hi'] at this
    omega
   refine bh7 (dB hj ?_)
   by_cases he:(j'+1 == y.size)=true
   ·rw [if_pos he]
    have he:j'+1=y.size:=by simpa using he
    exact bi7 (h1 _ _ _ _ _ _ _ q2 (m'.done (.inr (by omega))))
   ·rw [if_neg he]
    have he:j'+1 ≠ y.size:=by simpa using he
    split
    ·exact bi7 (h2 _ _ _ _ _ _ q2 m' hi (by omega) (by omega))
    ·exact bi7 ⟨q2,_,_,_,_,_,rfl,m',hi,by omega,by omega⟩
  ·rw [bg4 hc]
   dsimp only
   rw [if_neg bi5]
   have m':=m.x1 hi' fun t ht=>by
    have:=uy j' (j'+t) (by omega) (by omega) ht
    rw [c9 hj] at this
    omega
   refine bh7 (dB hi' ?_)
   by_cases he:(i'+1+1 == x.size)=true
   ·rw [if_pos he]
    exact bi7 (h1 _ _ _ _ _ _ _ q2 (m'.last x0 hl (by simpa using he)))
   ·rw [if_neg he]
    have he:i'+1+1 ≠ x.size:=by simpa using he
    split
    ·exact bi7 (h2 _ _ _ _ _ _ q2 m' (by omega) hj (by omega))
    ·exact bi7 ⟨q2,_,_,_,_,_,rfl,m',by omega,hj,by omega⟩
 ·rintro c2 st2 ⟨q2,o,i',j',p,q,rfl,m,hi,hj,pr2⟩
  exact h2 _ _ _ _ _ _ q2 m hi hj (by omega)
theorem aG9 (c:cB prog w A E s κ Ok rk) (hk:kindOf st=κ) {x y:Array Keyed}{Q:Array Keyed->SortSt->Prop} (ox:bQ Ok x) (oy:bQ Ok y) (sx:Sd rk x.toList) (sy:Sd rk y.toList) (x0:0 < x.size) (y0:0 < y.size)
  (hf:∀ t ∈ x.toList,rk y[0]<=rk t) (hl:∀ u ∈ y.toList,rk u<=rk x[x.size - 1])
  (h:∀ r st',Gq st st'->eN rk x y r->Q r st'):wpS (model prog w) A E s (wY x y) Q st:=by
 rw [aG6]
 refine bh7 (wpS_lift (bt0 ⟨rfl,bh7 (dB y0 ?_)⟩))
 have m0:MI rk x.toList y.toList (#[y[0]]:Array Keyed).toList 0 1:=by
  have mm:MI rk x.toList y.toList [] 0 0:=⟨by simp,sx,sy⟩
  have:=mm.ofy 1 fun u hu t ht=>?_
  ·rw [<- m3 y0] at this; exact this
  ·rw [<- m3 y0,bh1] at hu
   subst hu
   exact hf t ht
 by_cases e1:(1 == y.size)=true
 ·rw [if_pos e1]
  have e1:1=y.size:=by simpa using e1
  exact bi7 (h _ st (Gq.refl st) (m0.done (.inr (by omega))))
 ·rw [if_neg e1]
  have e1:1 ≠ y.size:=by simpa using e1
  by_cases e2:(0+1 == x.size)=true
  ·rw [if_pos e2]
   exact bi7 (h _ st (Gq.refl st) (m0.last x0 hl (by simpa using e2)))
  ·rw [if_neg e2]
   have e2:0+1 ≠ x.size:=by simpa using e2
   refine bh7 (wpS_get ?_)
   unfold S3
   refine bh7 (bw4 (bp7
    (I:=fun n c st'=>Gq st st'/\∃ o i j mg,c=(none,o,i,j,mg)/\MI rk x.toList y.toList o.toList i j/\i+1 < x.size/\j < y.size/\n+1<=i+j)
    (Q:=fun c st'=>Gq st st'/\∃ r o i j mg,c=(some r,o,i,j,mg)/\eN rk x y r) ?_ ?_ ⟨Gq.refl st,_,0,1,_,rfl,m0,by omega,by omega,by omega⟩) ?_)
   ·rintro n c1 st1 _ hn ⟨q1,o,i,j,mg,rfl,m,hi,hj,pr⟩
    dsimp only
    refine bh7 (aG8 c hk ox oy sx sy x0 hl q1 m hi hj (fun r o' i' j' p q st' g md=>bi7 ⟨g,r,_,_,_,_,rfl,md⟩) fun o' i' j' p q st' g m' hi' hj' pr'=>?_)
    refine bh7 (wpS_lift (bt0 ⟨rfl,?_⟩))
    refine bh7 (bw4 (aG7 c hk ox oy sx sy x0 hl g m' hi' hj' pr') ?_)
    rintro c3 st3 ⟨q3,⟨r,o,i3,j3,mg,p,q,rfl,md⟩ | ⟨o,i3,j3,mg,p,q,rfl,m,hi,hj,pr3⟩⟩
    ·exact bi7 ⟨q3,r,_,_,_,_,rfl,md⟩
    ·exact bh7 (sD q3 fun st4 q4=>bi7 ⟨q4,o,i3,j3,_,rfl,m,hi,hj,by omega⟩)
   ·rintro c1 st1 ⟨q1,o,i,j,mg,rfl,m,hi,hj,pr⟩
    exact absurd pr (by omega)
   ·rintro c1 st1 ⟨q1,r,o,i,j,mg,rfl,md⟩
    exact bi7 (h r _ q1 md)
end
noncomputable def x5:Array Keyed->Array Keyed->StateT SortSt Sem (Array Keyed):=sortPriv% PySem.Builtin.mergeHi
noncomputable abbrev LH:=Option (Array Keyed) × Nat × Nat × Array Keyed × Nat × Nat × Nat
noncomputable abbrev x6:=Option (Array Keyed) × Nat × Nat × Array Keyed × Nat × Nat
noncomputable abbrev LP:=Option (Array Keyed) × Nat × Nat × Array Keyed × Nat
noncomputable def sE (x y o:Array Keyed) (i j mg p q:Nat):StateT SortSt Sem (ForInStep LH):=do
 let v <- elem' x (i - 1)
 if (i - 1 == 0)=true then pure (.done (some (x.extract 0 (i - 1) ++ y.extract 0 j ++ (o.push v).reverse),i - 1,j,o.push v,mg,p,q))
 else if (decide (p < 7) && decide (q < 7))=true then pure (.done (none,i - 1,j,o.push v,mg,p,q)) else pure (.yield (none,i - 1,j,o.push v,mg,p,q))
noncomputable def sF (x y o:Array Keyed) (i j mg p q:Nat):StateT SortSt Sem (ForInStep LH):=do
 let v <- elem' y (j - 1)
 if (j - 1 == 1)=true then pure (.done (some (y.extract 0 (j - 1) ++ x.extract 0 i ++ (o.push v).reverse),i,j - 1,o.push v,mg,p,q)) else do
  let u <- elem' x (i - 1)
  match <- l5 true u y 0 (j - 1) (j - 1 - 1) with
  | some z=>
   if j - 1 - z > 0 then
    if (z == 1)=true then pure (.done (some (y.extract 0 z ++ x.extract 0 i ++ (o.push v ++ (y.extract z (j - 1)).reverse).reverse),i,z,o.push v ++ (y.extract z (j - 1)).reverse,mg,p,j - 1 - z))
    else if (z == 0)=true then pure (.done (some (x.extract 0 i ++ y.extract 0 z ++ (o.push v ++ (y.extract z (j - 1)).reverse).reverse),i,z,o.push v ++ (y.extract z (j - 1)).reverse,mg,p,j - 1 - z))
    else sE x y (o.push v ++ (y.extract z (j - 1)).reverse) i z mg p (j - 1 - z)
   else sE x y (o.push v) i (j - 1) mg p (j - 1 - z)
  | _=>pure (.done (some (x.extract 0 i ++ y.extract 0 (j - 1) ++ (o.push v).reverse),i,j - 1,o.push v,mg,p,q))
noncomputable def sG (x y o:Array Keyed) (i j mg p q:Nat):StateT SortSt Sem (ForInStep LH):=do
 nF mg
 let v <- elem' y (j - 1)
 match <- l5 false v x 0 i (i - 1) with
 | some z=>
  if i - z > 0 then
   if (z == 0)=true then pure (.done (some (x.extract 0 z ++ y.extract 0 j ++ (o ++ (x.extract z i).reverse).reverse),z,j,o ++ (x.extract z i).reverse,mg,i - z,q))
   else sF x y (o ++ (x.extract z i).reverse) z j mg (i - z) q
  else sF x y o i j mg (i - z) q
 | _=>pure (.done (some (x.extract 0 i ++ y.extract 0 j ++ o.reverse),i,j,o,mg,p,q))
noncomputable def x8 (x y o:Array Keyed) (i j mg p q:Nat):StateT SortSt Sem LH:=forIn [0:x.size+y.size] ((none,i,j,o,mg,p,q):LH) fun _ r=>
 if r.2.2.2.2.1 > 1 then sG x y r.2.2.2.1 r.2.1 r.2.2.1 (r.2.2.2.2.1 - 1) r.2.2.2.2.2.1 r.2.2.2.2.2.2 else sG x y r.2.2.2.1 r.2.1 r.2.2.1 r.2.2.2.2.1 r.2.2.2.2.2.1 r.2.2.2.2.2.2
noncomputable def x9 (x y o:Array Keyed) (i j mg:Nat):StateT SortSt Sem x6:=forIn [0:x.size+y.size] ((none,i,j,o,0,0):x6) fun _ r=>do
 let v <- elem' y (r.2.2.1 - 1)
 let u <- elem' x (r.2.1 - 1)
 match <- lt' v u with
 | some q=>
  if q=true then do
   let u <- elem' x (r.2.1 - 1)
   if (r.2.1 - 1 == 0)=true then pure (.done (some (x.extract 0 (r.2.1 - 1) ++ y.extract 0 r.2.2.1 ++ (r.2.2.2.1.push u).reverse),r.2.1 - 1,r.2.2.1,r.2.2.2.1.push u,r.2.2.2.2.1+1,0))
   else if r.2.2.2.2.1+1 >= mg then pure (.done (none,r.2.1 - 1,r.2.2.1,r.2.2.2.1.push u,r.2.2.2.2.1+1,0)) else pure (.yield (none,r.2.1 - 1,r.2.2.1,r.2.2.2.1.push u,r.2.2.2.2.1+1,0))
  else do
   let v <- elem' y (r.2.2.1 - 1)
   if (r.2.2.1 - 1 == 1)=true then pure (.done (some (y.extract 0 (r.2.2.1 - 1) ++ x.extract 0 r.2.1 ++ (r.2.2.2.1.push v).reverse),r.2.1,r.2.2.1 - 1,r.2.2.2.1.push v,0,r.2.2.2.2.2+1))
   else if r.2.2.2.2.2+1 >= mg then pure (.done (none,r.2.1,r.2.2.1 - 1,r.2.2.2.1.push v,0,r.2.2.2.2.2+1)) else pure (.yield (none,r.2.1,r.2.2.1 - 1,r.2.2.2.1.push v,0,r.2.2.2.2.2+1))
 | _=>pure (.done (some (x.extract 0 r.2.1 ++ y.extract 0 r.2.2.1 ++ r.2.2.2.1.reverse),r.2.1,r.2.2.1,r.2.2.2.1,r.2.2.2.2.1,r.2.2.2.2.2))
noncomputable def S9 (x y o:Array Keyed) (i j mg:Nat):StateT SortSt Sem LP:=forIn [0:x.size+y.size] ((none,i,j,o,mg):LP) fun _ r=>do
 let u <- x9 x y r.2.2.2.1 r.2.1 r.2.2.1 r.2.2.2.2
 match u.1 with
 | some z=>pure (.done (some z,u.2.1,u.2.2.1,u.2.2.2.1,r.2.2.2.2))
 | none=>do
  liftM (rule "list.sort.gallop")
  let v <- x8 x y u.2.2.2.1 u.2.1 u.2.2.1 (r.2.2.2.2+1) u.2.2.2.2.1 u.2.2.2.2.2
  match v.1 with
  | some z=>pure (.done (some z,v.2.1,v.2.2.1,v.2.2.2.1,v.2.2.2.2.1))
  | none=>do
   nF (v.2.2.2.2.1+1)
   pure (.yield (none,v.2.1,v.2.2.1,v.2.2.2.1,v.2.2.2.2.1+1))
theorem aH0 (x y:Array Keyed):x5 x y=(do
 liftM (rule "list.sort.merge-hi")
 let v <- elem' x (x.size - 1)
 if (x.size - 1 == 0)=true then pure (x.extract 0 (x.size - 1) ++ y.extract 0 y.size ++ (#[v]:Array Keyed).reverse)
 else if (y.size == 1)=true then pure (y.extract 0 y.size ++ x.extract 0 (x.size - 1) ++ (#[v]:Array Keyed).reverse)
 else do
  let z <- get
  let r <- S9 x y #[v] (x.size - 1) y.size (gallopOf z)
  match r.1 with
  | some z=>pure z
  | none=>unsupported "internal:list.sort.merge-bound"):=by kernel_rfl
structure MH (rk:Keyed->Int) (xs ys o:List Keyed) (i j:Nat):Prop where
 pm:o.Perm (xs.drop i ++ ys.drop j)
 sx:Sd rk (xs.take i ++ o)
 sy:Sd rk (ys.take j ++ o)
variable {rk : Keyed → Int} {xs ys o : List Keyed} {i j : Nat}
theorem Sd.insR {o a b d:List Keyed} (h1:Sd rk (a ++ o)) (h2:Sd rk ((d ++ b) ++ o)) (h:∀ t ∈ a,∀ u ∈ b,rk t<=rk u):Sd rk (a ++ (b ++ o)):=by
 unfold Sd at *
 obtain ⟨p1,p2,p3⟩:=bl2.mp h1
 obtain ⟨q1,q2,q3⟩:=bl2.mp h2
 obtain ⟨r1,r2,r3⟩:=bl2.mp q1
 refine bl2.mpr ⟨p1,bl2.mpr ⟨r2,p2,fun u hu t ht=>q3 u (bj6 _ hu) t ht⟩,fun u hu t ht=>?_⟩
 rcases bh4.mp ht with z | z
 ·exact h u hu t z
 ·exact p3 u hu t z
theorem sH (l:List Keyed) {z j:Nat} (h:z<=j):l.take z ++ (l.take j).drop z=l.take j:=by
 have e:l.take z=(l.take j).take z:=by rw [List.take_take,Nat.min_eq_left h]
 rw [e]; exact bk0 z _
theorem xA (l:List Keyed) {z j:Nat} (h:z<=j):(l.take j).drop z ++ l.drop j=l.drop z:=by
 rw [bw8,show l.drop j=(l.drop z).drop (j - z) by rw [List.drop_drop,Nat.add_sub_cancel' h]]
 exact bk0 _ _
theorem MH.ofy (m:MH rk xs ys o i j) {z:Nat} (hz:z<=j) (h:∀ t ∈ xs.take i,∀ u ∈ (ys.take j).drop z,rk t<=rk u):MH rk xs ys ((ys.take j).drop z ++ o) i z:=by
 refine⟨?_,Sd.insR m.sx (d:=ys.take z) (by rw [sH _ hz]; exact m.sy) h,by rw [<- bj2,sH _ hz]; exact m.sy⟩
 rw [<- xA ys hz]
 refine (m.pm.append_left _).trans ?_
 rw [<- bj2,<- bj2]
 exact (List.perm_append_comm).append_right _
theorem MH.ofx (m:MH rk xs ys o i j) {z:Nat} (hz:z<=i) (h:∀ t ∈ ys.take j,∀ u ∈ (xs.take i).drop z,rk t<=rk u):MH rk xs ys ((xs.take i).drop z ++ o) z j:=by
 refine⟨?_,by rw [<- bj2,sH _ hz]; exact m.sx,Sd.insR m.sy (d:=xs.take z) (by rw [sH _ hz]; exact m.sx) h⟩
 rw [<- xA xs hz,bj2]
 exact m.pm.append_left _
theorem MH.fin (m:MH rk xs ys o i j) (h:i=0 ∨ j=0):(xs.take i ++ ys.take j ++ o).Perm (xs ++ ys)/\Sd rk (xs.take i ++ ys.take j ++ o):=by
 refine⟨?_,?_⟩
 ·have e1:xs=xs.take i ++ xs.drop i:=(bk0 i xs).symm
  have e2:ys=ys.take j ++ ys.drop j:=(bk0 j ys).symm
  conv=>rhs; rw [e1,e2]
  rw [bj2,bj2]
  refine List.Perm.append_left _ ((m.pm.append_left _).trans ?_)
  rw [<- bj2,<- bj2]
  exact (List.perm_append_comm).append_right _
 ·rcases h with h | h
  ·subst h; simpa using m.sy
  ·subst h; simpa using m.sx
theorem MH.fst (m:MH rk xs ys o i j) (h:∀ t ∈ ys.take j,∀ u ∈ xs,rk t<=rk u):(ys.take j ++ xs.take i ++ o).Perm (xs ++ ys)/\Sd rk (ys.take j ++ xs.take i ++ o):=by
 have m2:=m.ofx (bl0 i) fun t ht u hu=>h t ht u (List.mem_of_mem_take (List.mem_of_mem_drop hu))
 have f:=m2.fin (.inl rfl)
 simpa using f
theorem pJ {x:Array Keyed}{i:Nat}{u:Keyed} (h:u ∈ x.toList.take i):∃ t,t < i/\t < x.size/\rk u=Kr rk x t:=by
 obtain ⟨t,ht,e⟩:=br5 h
 have h1:t < i/\t < x.size:=by simp at ht; omega
 refine⟨t,h1.1,h1.2,?_⟩
 rw [c9 h1.2,<- e]
 simp
theorem pK {x:Array Keyed}{z i:Nat}{u:Keyed} (h:u ∈ (x.toList.take i).drop z):∃ t,z<=t/\t < i/\t < x.size/\rk u=Kr rk x t:=by
 obtain ⟨t,ht,e⟩:=br5 h
 have h1:z+t < i/\z+t < x.size:=by simp at ht; omega
 refine⟨z+t,by omega,h1.1,h1.2,?_⟩
 rw [c9 h1.2,<- e]
 simp
theorem m5 (x:Array Keyed) (z i:Nat):(x.extract z i).toList=(x.toList.take i).drop z:=by
 rw [bw8]; simp [List.extract]
theorem sI (x:Array Keyed) (i:Nat):(x.extract 0 i).toList=x.toList.take i:=by
 simp [List.extract]
theorem pL {x:Array Keyed}{i:Nat} (h:i < x.size) : [x[i]]=(x.toList.take (i+1)).drop i:=by
 rw [bw8,m3 h,show i+1 - i=1 by omega]
section
variable {κ : SortKind} {st : SortSt} {prog : Program} {w : World} {A : Around} {E : Value → Shared → Prop} {s : Shared} {Ok : Keyed → Prop}
theorem MH.y1 {x y o:Array Keyed} (m:MH rk x.toList y.toList o.toList.reverse i (j+1)) (hj:j < y.size) (h:∀ t,t < i->t < x.size->Kr rk x t<=rk y[j]):MH rk x.toList y.toList (o.push y[j]).toList.reverse i j:=by
 have:=m.ofy (Nat.le_succ j) fun t ht u hu=>?_
 ·rw [<- pL hj] at this; simpa using this
 ·rw [<- pL hj,bh1] at hu
  subst hu
  obtain ⟨q,q1,q2,q3⟩:=pJ (rk:=rk) ht
  rw [q3]; exact h q q1 q2
theorem MH.x1 {x y o:Array Keyed} (m:MH rk x.toList y.toList o.toList.reverse (i+1) j) (hi:i < x.size) (h:∀ t,t < j->t < y.size->Kr rk y t<=rk x[i]):MH rk x.toList y.toList (o.push x[i]).toList.reverse i j:=by
 have:=m.ofx (Nat.le_succ i) fun t ht u hu=>?_
 ·rw [<- pL hi] at this; simpa using this
 ·rw [<- pL hi,bh1] at hu
  subst hu
  obtain ⟨q,q1,q2,q3⟩:=pJ (rk:=rk) ht
  rw [q3]; exact h q q1 q2
theorem MH.yk {x y o:Array Keyed} (m:MH rk x.toList y.toList o.toList.reverse i j) {z:Nat} (hz:z<=j) (h:∀ t p,t < i->t < x.size->z<=p->p < j->p < y.size->Kr rk x t<=Kr rk y p):MH rk x.toList y.toList (o ++ (y.extract z j).reverse).toList.reverse i z:=by
 have:=m.ofy hz fun t ht u hu=>?_
 ·rw [<- m5] at this; simpa using this
 ·obtain ⟨q,q1,q2,q3⟩:=pJ (rk:=rk) ht
  obtain ⟨p,p1,p2,p3,p4⟩:=pK (rk:=rk) hu
  rw [q3,p4]; exact h q p q1 q2 p1 p2 p3
theorem MH.xk {x y o:Array Keyed} (m:MH rk x.toList y.toList o.toList.reverse i j) {z:Nat} (hz:z<=i) (h:∀ t p,t < j->t < y.size->z<=p->p < i->p < x.size->Kr rk y t<=Kr rk x p):MH rk x.toList y.toList (o ++ (x.extract z i).reverse).toList.reverse z j:=by
 have:=m.ofx hz fun t ht u hu=>?_
 ·rw [<- m5] at this; simpa using this
 ·obtain ⟨q,q1,q2,q3⟩:=pJ (rk:=rk) ht
  obtain ⟨p,p1,p2,p3,p4⟩:=pK (rk:=rk) hu
  rw [q3,p4]; exact h q p q1 q2 p1 p2 p3
theorem MH.done {x y o:Array Keyed} (m:MH rk x.toList y.toList o.toList.reverse i j) (hh:i=0 ∨ j=0):eN rk x y (x.extract 0 i ++ y.extract 0 j ++ o.reverse):=by
 unfold eN
 rw [bo0,bo0,sI,sI,Array.toList_reverse]
 exact m.fin hh
theorem MH.frst {x y o:Array Keyed} (m:MH rk x.toList y.toList o.toList.reverse i j) (y0:0 < y.size) (hf:∀ t ∈ x.toList,rk y[0]<=rk t) (hh:j=1):eN rk x y (y.extract 0 j ++ x.extract 0 i ++ o.reverse):=by
 unfold eN
 rw [bo0,bo0,sI,sI,Array.toList_reverse]
 refine m.fst fun t ht u hu=>?_
 subst hh
 obtain ⟨q,q1,q2,q3⟩:=pJ (rk:=rk) ht
 have e:q=0:=by omega
 subst e
 rw [q3,c9 y0]
 exact hf u hu
structure HB (rk:Keyed->Int) (x y:Array Keyed) (lb i j:Nat) (o:Array Keyed):Prop where
 m:MH rk x.toList y.toList o.toList.reverse i j
 i0:0 < i
 i1:i < x.size
 j0:1 < j
 j1:j<=y.size
 pr:i+j+lb<=x.size+y.size
noncomputable def HI (rk:Keyed->Int) (x y:Array Keyed) (lb:Nat) (st:SortSt) (c:LH) (st':SortSt):Prop:=Gq st st'/\∃ i j o mg p q,c=(none,i,j,o,mg,p,q)/\HB rk x y lb i j o
noncomputable def HQ (rk:Keyed->Int) (x y:Array Keyed) (lb:Nat) (st:SortSt) (c:LH) (st':SortSt):Prop:=Gq st st'/\((∃ r i j o mg p q,c=(some r,i,j,o,mg,p,q)/\eN rk x y r) ∨ ∃ i j o mg p q,c=(none,i,j,o,mg,p,q)/\HB rk x y lb i j o)
noncomputable def HR (rk:Keyed->Int) (x y:Array Keyed) (lb:Nat) (st:SortSt) (r:ForInStep LH) (st':SortSt):Prop:=match r with | .done c=>HQ rk x y lb st c st' | .yield c=>HI rk x y lb st c st'
theorem T0 {st0:SortSt}{x y o:Array Keyed}{i j mg p q lb:Nat} (g:Gq st0 st) (b:HB rk x y lb (i+1) j o) (hm:∀ (hi:i < x.size) t,t < j->t < y.size->Kr rk y t<=rk x[i]):wpS (model prog w) A E s (sE x y o (i+1) j mg p q) (HR rk x y lb st0) st:=by
 unfold sE
 obtain ⟨m,i0,i1,j0,j1,pr⟩:=b
 have hi':i < x.size:=by omega
 have m':=m.x1 hi' (hm hi')
 simp only [Nat.add_sub_cancel]
 refine bh7 (dB hi' ?_)
 by_cases he:(i == 0)=true
 ·rw [if_pos he]
  have he:i=0:=by simpa using he
  exact bi7 ⟨g,.inl ⟨_,_,_,_,_,_,_,rfl,m'.done (.inl he)⟩⟩
 ·rw [if_neg he]
  have he:i ≠ 0:=by simpa using he
  split
  ·exact bi7 ⟨g,.inr ⟨_,_,_,_,_,_,rfl,m',by omega,by omega,j0,j1,by omega⟩⟩
  ·exact bi7 ⟨g,_,_,_,_,_,_,rfl,m',by omega,by omega,j0,j1,by omega⟩
theorem T1 (c:cB prog w A E s κ Ok rk) {st0:SortSt} (hk:kindOf st0=κ) {x y o:Array Keyed}{i j mg p q lb:Nat} (ox:bQ Ok x) (oy:bQ Ok y) (sx:Sd rk x.toList) (sy:Sd rk y.toList) (y0:0 < y.size) (hf:∀ t ∈ x.toList,rk y[0]<=rk t) (g:Gq st0 st) (b:HB rk x y lb (i+1) (j+1) o)
  (hm:∀ (hj:j < y.size) t,t < i+1->t < x.size->Kr rk x t<=rk y[j]):wpS (model prog w) A E s (sF x y o (i+1) (j+1) mg p q) (HR rk x y lb st0) st:=by
 unfold sF
 obtain ⟨m,i0,i1,j0,j1,pr⟩:=b
 have hi':i < x.size:=by omega
 have hj:j < y.size:=by omega
 have m':=m.y1 hj (hm hj)
 simp only [Nat.add_sub_cancel]
 refine bh7 (dB hj ?_)
 by_cases he:(j == 1)=true
 ·rw [if_pos he]
  have he:j=1:=by simpa using he
  exact bi7 ⟨g,.inl ⟨_,_,_,_,_,_,_,rfl,m'.frst y0 hf he⟩⟩
 ·rw [if_neg he]
  have he:j ≠ 1:=by simpa using he
  refine bh7 (dB hi' (bh7 (nE c (g.kd.trans hk) (ox _ (bm2 hi')) oy (by omega) (by omega) (sy.up _ _ (by omega)) fun z k1 k2 k3=>?_)))
  dsimp only
  have ux:=sx.up 0 _ (bg9 x.size)
  have mk:=m'.yk k1 fun t p ht ht' hp hp' _=>by
   have a1:=k3 p hp hp'
   rw [nH,bk9,Nat.zero_add] at a1
   have a2:=ux t i (by omega) (by omega) hi'
   rw [c9 (i:=i) hi'] at a2
   omega
  have km:∀ (hi:i < x.size) t,t < z->t < y.size->Kr rk y t<=rk x[i]:=fun _ t ht _=>by
   have a1:=k2 t ht
   rw [nH,bk2,Nat.zero_add] at a1
   omega
  by_cases hk0:j - z > 0
  ·rw [if_pos hk0]
   by_cases h1:(z == 1)=true
   ·rw [if_pos h1]
    have h1:z=1:=by simpa using h1
    exact bi7 ⟨g,.inl ⟨_,_,_,_,_,_,_,rfl,mk.frst y0 hf h1⟩⟩
   ·rw [if_neg h1]
    have h1:z ≠ 1:=by simpa using h1
    by_cases h0:(z == 0)=true
    ·rw [if_pos h0]
     have h0:z=0:=by simpa using h0
     exact bi7 ⟨g,.inl ⟨_,_,_,_,_,_,_,rfl,mk.done (.inr h0)⟩⟩
    ·rw [if_neg h0]
     have h0:z ≠ 0:=by simpa using h0
     exact T0 g ⟨mk,by omega,i1,by omega,by omega,by omega⟩ km
  ·rw [if_neg hk0]
   have e0:z=j:=by omega
   subst e0
   exact T0 g ⟨m',by omega,i1,by omega,by omega,by omega⟩ km
theorem T4 (c:cB prog w A E s κ Ok rk) {st0:SortSt} (hk:kindOf st0=κ) {x y o:Array Keyed}{i j mg p q lb:Nat} (ox:bQ Ok x) (oy:bQ Ok y) (sx:Sd rk x.toList) (sy:Sd rk y.toList) (y0:0 < y.size) (hf:∀ t ∈ x.toList,rk y[0]<=rk t) (g:Gq st0 st) (b:HB rk x y lb i (j+1) o) :
  wpS (model prog w) A E s (sG x y o i (j+1) mg p q) (HR rk x y lb st0) st:=by
 unfold sG
 obtain ⟨m,i0,i1,j0,j1,pr⟩:=b
 have hj:j < y.size:=by omega
 simp only [Nat.add_sub_cancel]
 refine bh7 (sD g fun st4 q4=>bh7 (dB hj (bh7 (nE c (q4.kd.trans hk) (oy _ (bm2 hj)) ox (by omega) (by omega) (sx.up _ _ (by omega)) fun z k1 k2 k3=>?_))))
 dsimp only
 have uy:=sy.up 0 _ (bg9 y.size)
 have mk:=m.xk k1 fun t p ht ht' hp hp' _=>by
  have a1:=k3 p hp hp'
  rw [nG,bk9,Nat.zero_add] at a1
  have a2:=uy t j (by omega) (by omega) hj
  rw [c9 (i:=j) hj] at a2
  omega
 have km:∀ (hj:j < y.size) t,t < z->t < x.size->Kr rk x t<=rk y[j]:=fun _ t ht _=>by
  have a1:=k2 t ht
  rw [nG,bk2,Nat.zero_add] at a1
  exact a1
 by_cases hk0:i - z > 0
 ·rw [if_pos hk0]
  by_cases he:(z == 0)=true
  ·rw [if_pos he]
   exact bi7 ⟨q4,.inl ⟨_,_,_,_,_,_,_,rfl,mk.done (.inl (by simpa using he))⟩⟩
  ·rw [if_neg he]
   have he:z ≠ 0:=by simpa using he
   obtain ⟨z2,rfl⟩:∃ z2,z=z2+1:=⟨z - 1,by omega⟩
   exact T1 c hk ox oy sx sy y0 hf q4 ⟨mk,by omega,by omega,j0,j1,by omega⟩ km
 ·rw [if_neg hk0]
  have e0:z=i:=by omega
  subst e0
  obtain ⟨z2,rfl⟩:∃ z2,z=z2+1:=⟨z - 1,by omega⟩
  exact T1 c hk ox oy sx sy y0 hf q4 ⟨m,i0,i1,j0,j1,pr⟩ km
theorem aH1 (c:cB prog w A E s κ Ok rk) {st0:SortSt} (hk:kindOf st0=κ) {x y o:Array Keyed}{i j mg p q lb:Nat} (ox:bQ Ok x) (oy:bQ Ok y) (sx:Sd rk x.toList) (sy:Sd rk y.toList) (y0:0 < y.size) (hf:∀ t ∈ x.toList,rk y[0]<=rk t) (g:Gq st0 st) (b:HB rk x y lb i j o) :
  wpS (model prog w) A E s (x8 x y o i j mg p q) (HQ rk x y lb st0) st:=by
 unfold x8
 refine bp7 (I:=fun _=>HI rk x y lb st0) ?_ ?_ ⟨g,i,j,o,_,p,q,rfl,b⟩
 ·rintro t c3 st3 _ _ ⟨q3,i,j,o,mg,p,q,rfl,b3⟩
  obtain ⟨j3,rfl⟩:∃ j3,j=j3+1:=⟨j - 1,by have:=b3.j0; omega⟩
  dsimp only
  split
  ·exact bw4 (T4 c hk ox oy sx sy y0 hf q3 b3) fun r _ hr=>by cases r <;> exact hr
  ·exact bw4 (T4 c hk ox oy sx sy y0 hf q3 b3) fun r _ hr=>by cases r <;> exact hr
 ·rintro c3 st3 ⟨q3,i,j,o,mg,p,q,rfl,b3⟩
  exact⟨q3,.inr ⟨_,_,_,_,_,_,rfl,b3⟩⟩
theorem aH2 (c:cB prog w A E s κ Ok rk) {st0:SortSt} (hk:kindOf st0=κ) {x y o:Array Keyed}{i j mg n:Nat}{Q:x6->SortSt->Prop} (ox:bQ Ok x) (oy:bQ Ok y) (sx:Sd rk x.toList) (sy:Sd rk y.toList) (y0:0 < y.size) (hf:∀ t ∈ x.toList,rk y[0]<=rk t) (g:Gq st0 st) (b:HB rk x y n i j o)
  (h1:∀ r i' j' o' p q st',Gq st0 st'->eN rk x y r->Q (some r,i',j',o',p,q) st') (h2:∀ i' j' o' p q st',Gq st0 st'->HB rk x y (n+1) i' j' o'->Q (none,i',j',o',p,q) st') :
  wpS (model prog w) A E s (x9 x y o i j mg) Q st:=by
 have ux:Up rk x 0 x.size:=sx.up 0 _ (bg9 _)
 have uy:Up rk y 0 y.size:=sy.up 0 _ (bg9 _)
 unfold x9
 refine bp7 (I:=fun t c st'=>Gq st0 st'/\∃ i j o p q,c=(none,i,j,o,p,q)/\HB rk x y (n+t) i j o) ?_ ?_ ⟨g,i,j,o,0,0,rfl,b⟩
 ·rintro t c2 st2 _ ht ⟨q2,i',j',o,p,q,rfl,m,i0,i1,j0,j1,pr⟩
  obtain ⟨i2,rfl⟩:∃ i2,i'=i2+1:=⟨i' - 1,by omega⟩
  obtain ⟨j2,rfl⟩:∃ j2,j'=j2+1:=⟨j' - 1,by omega⟩
  simp only [Nat.add_sub_cancel]
  have hi:i2 < x.size:=by omega
  have hj:j2 < y.size:=by omega
  refine bh7 (dB hj (bh7 (dB hi (bh7 (c _ _ (oy _ (bm2 hj)) (ox _ (bm2 hi)) st2 _ (q2.kd.trans hk) ?_)))))
  by_cases hc:rk y[j2] < rk x[i2]
  ·rw [bg2 hc]
   dsimp only
   rw [if_pos rfl]
   have m':=m.x1 hi fun t ht _=>by
    have:=uy t j2 (by omega) (by omega) hj
    rw [c9 hj] at this
    omega
   refine bh7 (dB hi ?_)
   by_cases he:(i2 == 0)=true
   ·rw [if_pos he]
    exact bi7 (h1 _ _ _ _ _ _ _ q2 (m'.done (.inl (by simpa using he))))
   ·rw [if_neg he]
    have he:i2 ≠ 0:=by simpa using he
    split
    ·exact bi7 (h2 _ _ _ _ _ _ q2 ⟨m',by omega,by omega,j0,j1,by omega⟩)
    ·exact bi7 ⟨q2,_,_,_,_,_,rfl,m',by omega,by omega,j0,j1,by omega⟩
  ·rw [bg4 hc]
   dsimp only
   rw [if_neg bi5]
   have m':=m.y1 hj fun t ht _=>by
    have:=ux t i2 (by omega) (by omega) hi
    rw [c9 hi] at this
    omega
   refine bh7 (dB hj ?_)
   by_cases he:(j2 == 1)=true
   ·rw [if_pos he]
    exact bi7 (h1 _ _ _ _ _ _ _ q2 (m'.frst y0 hf (by simpa using he)))
   ·rw [if_neg he]
    have he:j2 ≠ 1:=by simpa using he
    split
    ·exact bi7 (h2 _ _ _ _ _ _ q2 ⟨m',i0,i1,by omega,by omega,by omega⟩)
    ·exact bi7 ⟨q2,_,_,_,_,_,rfl,m',i0,i1,by omega,by omega,by omega⟩
 ·rintro c2 st2 ⟨q2,i',j',o,p,q,rfl,m,i0,i1,j0,j1,pr⟩
  exact h2 _ _ _ _ _ _ q2 ⟨m,i0,i1,j0,j1,by omega⟩
theorem aH3 (c:cB prog w A E s κ Ok rk) (hk:kindOf st=κ) {x y:Array Keyed}{Q:Array Keyed->SortSt->Prop} (ox:bQ Ok x) (oy:bQ Ok y) (sx:Sd rk x.toList) (sy:Sd rk y.toList) (x0:0 < x.size) (y0:0 < y.size)
  (hf:∀ t ∈ x.toList,rk y[0]<=rk t) (hl:∀ u ∈ y.toList,rk u<=rk x[x.size - 1])
  (h:∀ r st',Gq st st'->eN rk x y r->Q r st'):wpS (model prog w) A E s (x5 x y) Q st:=by
 rw [aH0]
 refine bh7 (wpS_lift (bt0 ⟨rfl,bh7 (dB (by omega:x.size - 1 < x.size) ?_)⟩))
 have m0:MH rk x.toList y.toList (#[x[x.size - 1]]:Array Keyed).toList.reverse (x.size - 1) y.size:=by
  have mm:MH rk x.toList y.toList [] x.size y.size:=⟨by simp,by rw [bj3 (by simp),bk4]; exact sx,by rw [bj3 (by simp),bk4]; exact sy⟩
  have e:=pL (x:=x) (i:=x.size - 1) (by omega)
  rw [show x.size - 1+1=x.size by omega] at e
  have:=mm.ofx (Nat.sub_le x.size 1) fun t ht u hu=>?_
  ·rw [<- e] at this; simpa using this
  ·rw [<- e,bh1] at hu
   subst hu
   exact hl t (List.mem_of_mem_take ht)
 by_cases e1:(x.size - 1 == 0)=true
 ·rw [if_pos e1]
  exact bi7 (h _ st (Gq.refl st) (m0.done (.inl (by simpa using e1))))
 ·rw [if_neg e1]
  have e1:x.size - 1 ≠ 0:=by simpa using e1
  by_cases e2:(y.size == 1)=true
  ·rw [if_pos e2]
   exact bi7 (h _ st (Gq.refl st) (m0.frst y0 hf (by simpa using e2)))
  ·rw [if_neg e2]
   have e2:y.size ≠ 1:=by simpa using e2
   refine bh7 (wpS_get ?_)
   unfold S9
   refine bh7 (bw4 (bp7
    (I:=fun n c st'=>Gq st st'/\∃ i j o mg,c=(none,i,j,o,mg)/\HB rk x y (n+1) i j o)
    (Q:=fun c st'=>Gq st st'/\∃ r i j o mg,c=(some r,i,j,o,mg)/\eN rk x y r) ?_ ?_ ⟨Gq.refl st,_,_,_,_,rfl,m0,by omega,by omega,by omega,by omega,by omega⟩) ?_)
   ·rintro n c1 st1 _ hn ⟨q1,i,j,o,mg,rfl,b⟩
    dsimp only
    refine bh7 (aH2 c hk ox oy sx sy y0 hf q1 b (fun r o' i' j' p q st' g md=>bi7 ⟨g,r,_,_,_,_,rfl,md⟩) fun i' j' o' p q st' g b'=>?_)
    refine bh7 (wpS_lift (bt0 ⟨rfl,?_⟩))
    refine bh7 (bw4 (aH1 c hk ox oy sx sy y0 hf g b') ?_)
    rintro c3 st3 ⟨q3,⟨r,i3,j3,o,mg,p,q,rfl,md⟩ | ⟨i3,j3,o,mg,p,q,rfl,b3⟩⟩
    ·exact bi7 ⟨q3,r,_,_,_,_,rfl,md⟩
    ·exact bh7 (sD q3 fun st4 q4=>bi7 ⟨q4,i3,j3,o,_,rfl,b3⟩)
   ·rintro c1 st1 ⟨q1,i,j,o,mg,rfl,b⟩
    have:=b.pr
    exact absurd this (by omega)
   ·rintro c1 st1 ⟨q1,r,i,j,o,mg,rfl,md⟩
    exact bi7 (h r _ q1 md)
end
theorem aH4 (i:Nat):mergeAt' i=(do
 let z <- get
 let (some (sa,na,pw),some (sb,nb,_)):=((pendingOf z)[i]?,(pendingOf z)[i+1]?) | unsupported "internal:list.sort.pending"
 set (SortSt.mk' (kindOf z) (arrOf z) (((pendingOf z).setIfInBounds i (sa,na+nb,pw)).eraseIdxIfInBounds (i+1)) (gallopOf z) (failedOf z))
 let some k <- l5 false (<- elem' (arrOf z) sb) (arrOf z) sa na 0 | return false
 let (sa,na):=(sa+k,na - k)
 if na == 0 then return true
 let some nb <- l5 true (<- elem' (arrOf z) (sa+na - 1)) (arrOf z) sb nb (nb - 1) | return false
 if nb == 0 then return true
 let x:=(arrOf z).extract sa sb
 let y:=(arrOf z).extract sb (sb+nb)
 let m <- if na<=nb then wY x y else x5 x y
 modify fun z=>setArr z (m.toList.zipIdx.foldl (fun a (p,j)=>a.setIfInBounds (sa+j) p) (arrOf z))
 return (failedOf (<- get)).isNone):=rfl
variable {rk : Keyed → Int}
theorem aH5 {σ:Type}{M:Model}{A:Around}{E:Value->Shared->Prop}{s:Shared}{a b:σ}{Q:PUnit->σ->Prop} (h:Q ⟨⟩ a):wpS M A E s (set a:StateT σ Sem PUnit) Q b:=by
 unfold wpS; rw [StateT.run_set]; exact bh3 ⟨rfl,h⟩
theorem T5 (o:Nat):∀ (m:List Keyed) (n:Nat) (a:Array Keyed) (t:Nat),o+n+m.length<=a.size->
  ((m.zipIdx n).foldl (fun a (p,j)=>a.setIfInBounds (o+j) p) a)[t]? = if o+n<=t/\t < o+n+m.length then m[t - (o+n)]? else a[t]?
 | [],n,a,t,_=>by
  show a[t]? = _
  rw [if_neg (fun z=>Nat.not_lt_of_ge z.1 z.2)]
 | p :: m,n,a,t,h=>by
  rw [List.zipIdx_cons,List.foldl_cons]
  have h':o+(n+1)+m.length<=(a.setIfInBounds (o+n) p).size:=by rw [Array.size_setIfInBounds]; simp at h; omega
  have ih:=T5 o m (n+1) (a.setIfInBounds (o+n) p) t h'
  refine ih.trans ?_
  have hs:o+n < a.size:=by simp at h; omega
  rw [Array.getElem?_setIfInBounds]
  by_cases e:o+n=t
  ·subst e
   rw [if_neg (by omega),if_pos rfl,if_pos hs,if_pos (by simp),Nat.sub_self]; rfl
  ·rw [if_neg e]
   by_cases c:o+n<=t/\t < o+n+(p :: m).length
   ·rw [if_pos c,if_pos (by simp at c; omega)]
    rw [show t - (o+n)=(t - (o+(n+1)))+1 by omega]; rfl
   ·rw [if_neg c,if_neg (by simp at c ⊢; omega)]
theorem T6 {a:Array Keyed}{lo hi:Nat} (u:Up rk a lo hi) (hh:hi<=a.size):Sd rk (a.extract lo hi).toList:=by
 unfold Sd
 rw [bl4]
 intro i j hi' hj hij
 have h2:lo+j < hi:=by simp at hj; omega
 have:=u (lo+i) (lo+j) (by omega) (by omega) h2
 rw [c9 (by omega:lo+i < a.size),c9 (by omega:lo+j < a.size)] at this
 simpa using this
theorem T7 {a:Array Keyed}{lo mid hi:Nat} (u:Up rk a lo mid) (v:Up rk a mid hi) (h0:lo < mid) (h1:mid < hi) (h:Kr rk a (mid - 1)<=Kr rk a mid):Up rk a lo hi:=fun i j hi' hij hj=>by
 rcases bl9 j mid with z | z
 ·exact u i j hi' hij z
 ·rcases bl9 i mid with y | y
  ·have a1:=u i (mid - 1) hi' (by omega) (by omega)
   have a2:=v mid j (bg9 _) z hj
   omega
  ·exact v i j y hij hj
theorem T8 {a:Array Keyed}{lo hi t:Nat} (h:t < hi - lo) (hh:hi<=a.size):Kr rk (a.extract lo hi) t=Kr rk a (lo+t):=by
 refine lY ?_
 rw [Array.getElem?_extract_of_lt (by omega)]
 exact (getElem?_pos a (lo+t) (by omega)).symm
section
variable {κ : SortKind} {a0 : Array Keyed} {pd : Array (Nat × Nat × Nat)} {st : SortSt} {prog : Program} {w : World} {A : Around} {E : Value → Shared → Prop} {s : Shared} {Ok : Keyed → Prop}
theorem aH6 {a m:Array Keyed}{p x e:Nat} (hpx:p<=x) (hxe:x<=e) (he:e<=a.size) (md:eN rk (a.extract p x) (a.extract x e) m) :
  let r:=m.toList.zipIdx.foldl (fun a (q,j)=>a.setIfInBounds (p+j) q) a
  r.Perm a/\(∀ t,(t < p ∨ e<=t)->Kr rk r t=Kr rk a t)/\(∀ t t',p<=t->t<=t'->t' < e->Kr rk r t<=Kr rk r t')/\∀ t,p<=t->t < e->∃ t',p<=t'/\t' < e/\Kr rk r t=Kr rk a t':=by
 intro r
 have ml:m.toList.length=e - p:=by
  rw [md.1.length_eq]; simp; omega
 have g:∀ t,r[t]? = if p<=t/\t < e then m[t - p]? else a[t]?:=fun t=>by
  have:=T5 p m.toList 0 a t (by omega)
  rw [show r=(m.toList.zipIdx 0).foldl (fun a (q,j)=>a.setIfInBounds (p+j) q) a from rfl,this]
  simp only [Nat.add_zero,ml,show p+(e - p)=e by omega,bo7]
 have ex:(a.extract p x).toList ++ (a.extract x e).toList=(a.toList.take e).drop p:=by
  rw [m5,m5,bw8,bw8,bw8]
  rw [show x=p+(x - p) by omega,<- List.drop_drop,show p+(x - p) - p=x - p by omega,show e - (p+(x - p))=(e - p) - (x - p) by omega]
  have:=bk0 (x - p) ((a.toList.drop p).take (e - p))
  rw [List.take_take,bw8,Nat.min_eq_left (by omega)] at this
  exact this
 have rl:r.toList=a.toList.take p ++ (m.toList ++ a.toList.drop e):=by
  apply List.ext_getElem?
  intro t
  rw [bo7,g]
  rcases bl9 t p with z | z
  ·rw [if_neg (by omega),bm8 (by simp; omega),List.getElem?_take_of_lt z,bo7]
  ·rw [bs3 (by simp; omega)]
   have lp:(a.toList.take p).length=p:=by simp; omega
   rw [lp]
   rcases bl9 t e with y | y
   ·rw [if_pos ⟨z,y⟩,bm8 (by omega),bo7]
   ·rw [if_neg (by omega),bs3 (by omega),ml,List.getElem?_drop,bo7]
    congr 1; omega
 have mp:m.toList.Perm ((a.toList.take e).drop p):=ex ▸ md.1
 refine⟨?_,fun t ht=>lY (by rw [g,if_neg (by omega)]),fun t t' h1 h2 h3=>?_,fun t h1 h2=>?_⟩
 ·refine Array.perm_iff_toList_perm.mpr ?_
  rw [rl]
  have:a.toList=a.toList.take p ++ ((a.toList.take e).drop p ++ a.toList.drop e):=by
   rw [xA _ (by omega:p<=e)]; exact (bk0 p _).symm
  conv=>rhs; rw [this]
  exact (mp.append_right _).append_left _
 ·have e1:Kr rk r t=Kr rk m (t - p):=lY (by rw [g,if_pos (by omega)])
  have e2:Kr rk r t'=Kr rk m (t' - p):=lY (by rw [g,if_pos (by omega)])
  rw [e1,e2]
  have ms:m.size=e - p:=by rw [<- ml]; simp
  exact md.2.up 0 m.size (bg9 _) (t - p) (t' - p) (by omega) (by omega) (by omega)
 ·have e1:Kr rk r t=Kr rk m (t - p):=lY (by rw [g,if_pos (by omega)])
  have ms:m.size=e - p:=by rw [<- ml]; simp
  have hm:t - p < m.size:=by omega
  have mm:m[t - p] ∈ (a.toList.take e).drop p:=mp.mem_iff.mp (by simp)
  obtain ⟨t',q1,q2,q3,q4⟩:=pK (rk:=rk) mm
  exact⟨t',q1,q2,by rw [e1,c9 hm]; exact q4⟩
theorem aH7 (c:cB prog w A E s κ Ok rk) (o:bQ Ok a0) (b:SB κ a0 pd st) {i sa na pw sb nb pw':Nat}{Q:Bool->SortSt->Prop} (e1:pd[i]? = some (sa,na,pw)) (e2:pd[i+1]? = some (sb,nb,pw')) (hs:sb=sa+na) (n0:0 < na) (m0:0 < nb) (hz:sb+nb<=a0.size)
  (u:Up rk (arrOf st) sa sb) (v:Up rk (arrOf st) sb (sb+nb))
  (h:∀ st',SB κ a0 ((pd.setIfInBounds i (sa,na+nb,pw)).eraseIdxIfInBounds (i+1)) st'->Up rk (arrOf st') sa (sb+nb)->(∀ t,(t < sa ∨ sb+nb<=t)->Kr rk (arrOf st') t=Kr rk (arrOf st) t)->Q true st'):wpS (model prog w) A E s (mergeAt' i) Q st:=by
 have sz:=b.sz
 rw [aH4]
 refine bh7 (wpS_get ?_)
 rw [b.pd,e1,e2]
 dsimp only
 refine bh7 (aH5 ?_)
 generalize hst:SortSt.mk' (kindOf st) (arrOf st) ((pd.setIfInBounds i (sa,na+nb,pw)).eraseIdxIfInBounds (i+1)) (gallopOf st) (failedOf st)=st1
 have b1:SB κ a0 ((pd.setIfInBounds i (sa,na+nb,pw)).eraseIdxIfInBounds (i+1)) st1:=by rw [<- hst]; exact⟨b.pm,b.kd,b.ok,rfl⟩
 have ar:arrOf st1=arrOf st:=by rw [<- hst]
 have oa:=b.all o
 have hsb:sb < (arrOf st).size:=by omega
 refine bh7 (dB hsb (bh7 (nE c b1.kd (oa _ (bm2 hsb)) oa n0 (by omega) (hs ▸ u) fun k k1 k2 k3=>?_)))
 dsimp only
 have k2':∀ t,sa<=t->t < sa+k->Kr rk (arrOf st) t<=Kr rk (arrOf st) sb:=fun t t1 t2=>by
  have:=k2 (t - sa) (by omega)
  rw [nG,bk2,show sa+(t - sa)=t by omega] at this
  rw [c9 hsb]; exact this
 have k3':∀ t,sa+k<=t->t < sb->Kr rk (arrOf st) sb < Kr rk (arrOf st) t:=fun t t1 t2=>by
  have:=k3 (t - sa) (by omega) (by omega)
  rw [nG,bk9,show sa+(t - sa)=t by omega] at this
  rw [c9 hsb]; omega
 by_cases ek:(na - k == 0)=true
 ·rw [if_pos ek]
  have ek:na - k=0:=by simpa using ek
  refine bi7 (h st1 b1 ?_ fun t _=>by rw [ar])
  rw [ar]
  exact T7 u v (by omega) (by omega) (k2' (sb - 1) (by omega) (by omega))
 ·rw [if_neg ek]
  have ek:na - k ≠ 0:=by simpa using ek
  have el:sa+k+(na - k) - 1=sb - 1:=by omega
  rw [el]
  have hsl:sb - 1 < (arrOf st).size:=by omega
  refine bh7 (dB hsl (bh7 (nE c b1.kd (oa _ (bm2 hsl)) oa (by omega) (by omega) v fun l l1 l2 l3=>?_)))
  dsimp only
  have l2':∀ t,sb<=t->t < sb+l->Kr rk (arrOf st) t < Kr rk (arrOf st) (sb - 1):=fun t t1 t2=>by
   have:=l2 (t - sb) (by omega)
   rw [nH,bk2,show sb+(t - sb)=t by omega] at this
   rw [c9 hsl]; exact this
  have l3':∀ t,sb+l<=t->t < sb+nb->Kr rk (arrOf st) (sb - 1)<=Kr rk (arrOf st) t:=fun t t1 t2=>by
   have:=l3 (t - sb) (by omega) (by omega)
   rw [nH,bk9,show sb+(t - sb)=t by omega] at this
   rw [c9 hsl]; omega
  by_cases en:(l == 0)=true
  ·rw [if_pos en]
   have en:l=0:=by simpa using en
   subst en
   refine bi7 (h st1 b1 ?_ fun t _=>by rw [ar])
   rw [ar]
   exact T7 u v (by omega) (by omega) (l3' sb (by omega) (by omega))
  ·rw [if_neg en]
   have en:l ≠ 0:=by simpa using en
   have sub:∀ p e,bQ Ok ((arrOf st).extract p e):=fun p e z hz=>oa z (by
    have:z ∈ ((arrOf st).extract p e).toList:=Array.mem_toList_iff.mpr hz
    rw [m5] at this
    exact Array.mem_toList_iff.mp (List.mem_of_mem_take (List.mem_of_mem_drop this)))
   have sx:Sd rk ((arrOf st).extract (sa+k) sb).toList:=T6 (fun i j h1 h2 h3=>u i j (by omega) h2 h3) (by omega)
   have sy:Sd rk ((arrOf st).extract sb (sb+l)).toList:=T6 (fun i j h1 h2 h3=>v i j h1 h2 (by omega)) (by omega)
   have x0:0 < ((arrOf st).extract (sa+k) sb).size:=by simp; omega
   have y0:0 < ((arrOf st).extract sb (sb+l)).size:=by simp; omega
   have hf:∀ t ∈ ((arrOf st).extract (sa+k) sb).toList,rk ((arrOf st).extract sb (sb+l))[0]<=rk t:=fun t ht=>by
    rw [m5] at ht
    obtain ⟨t',q1,q2,q3,q4⟩:=pK (rk:=rk) ht
    rw [q4,<- c9 (rk:=rk) y0,T8 (by omega) (by omega)]
    exact bu2 (k3' t' q1 q2)
   have hl:∀ t ∈ ((arrOf st).extract sb (sb+l)).toList,rk t<=rk ((arrOf st).extract (sa+k) sb)[((arrOf st).extract (sa+k) sb).size - 1]:=fun t ht=>by
    rw [m5] at ht
    obtain ⟨t',q1,q2,q3,q4⟩:=pK (rk:=rk) ht
    have e:((arrOf st).extract (sa+k) sb).size=sb - (sa+k):=by simp; omega
    rw [q4,<- c9 (rk:=rk) (by omega),T8 (by omega) (by omega),e,show sa+k+(sb - (sa+k) - 1)=sb - 1 by omega]
    exact bu2 (l2' t' q1 q2)
   have fin:∀ (m:Array Keyed) (st2:SortSt),Gq st1 st2->eN rk ((arrOf st).extract (sa+k) sb) ((arrOf st).extract sb (sb+l)) m->
     wpS (model prog w) A E s (do modify (fun z=>setArr z (m.toList.zipIdx.foldl (fun a (p,j)=>a.setIfInBounds (sa+k+j) p) (arrOf z))); return (failedOf (<- get)).isNone) Q st2:=fun m st2 g md=>by
    have b2:SB κ a0 ((pd.setIfInBounds i (sa,na+nb,pw)).eraseIdxIfInBounds (i+1)) st2:=⟨by rw [g.ar]; exact b1.pm,g.kd.trans b1.kd,g.ok.trans b1.ok,g.pd.trans b1.pd⟩
    have a2:arrOf st2=arrOf st:=g.ar.trans ar
    obtain ⟨r1,r2,r3,r4⟩:=aH6 (by omega) (by omega) (by omega) md
    generalize hr:m.toList.zipIdx.foldl (fun a (q,j)=>a.setIfInBounds (sa+k+j) q) (arrOf st)=r at r1 r2 r3 r4
    refine bh7 (wpS_modify (bh7 (wpS_get (bi7 ?_))))
    have b3:=b2.put (xs:=m.toList.zipIdx.foldl (fun a (q,j)=>a.setIfInBounds (sa+k+j) q) (arrOf st2)) (by rw [a2,hr]; exact r1)
    have er:arrOf (setArr st2 (m.toList.zipIdx.foldl (fun a (q,j)=>a.setIfInBounds (sa+k+j) q) (arrOf st2)))=r:=by rw [<- hr,a2]
    have tr:(failedOf (setArr st2 (m.toList.zipIdx.foldl (fun a (q,j)=>a.setIfInBounds (sa+k+j) q) (arrOf st2)))).isNone=true:=by rw [b3.ok]; rfl
    rw [tr]
    refine h _ b3 (fun i j hi hij hj=>?_) fun t ht=>?_
    ·rw [er]
     have bl:∀ t,sa<=t->t < sa+k->∀ t',sa+k<=t'->t' < sb+l->Kr rk (arrOf st) t<=Kr rk (arrOf st) t':=fun t t1 t2 t' t3 t4=>by
      rcases bl9 t' sb with z | z
      ·exact u t t' t1 (by omega) z
      ·have a1:=k2' t t1 t2
       have a2:=v sb t' (bg9 _) z (by omega)
       omega
     have br:∀ t,sb+l<=t->t < sb+nb->∀ t',sa+k<=t'->t' < sb+l->Kr rk (arrOf st) t'<=Kr rk (arrOf st) t:=fun t t1 t2 t' t3 t4=>by
      rcases bl9 t' sb with z | z
      ·have a1:=u t' (sb - 1) (by omega) (by omega) (by omega)
       have a2:=l3' t t1 t2
       omega
      ·exact v t' t z (by omega) t2
     have blr:∀ t,sa<=t->t < sa+k->∀ t',sb+l<=t'->t' < sb+nb->Kr rk (arrOf st) t<=Kr rk (arrOf st) t':=fun t t1 t2 t' t3 t4=>by
      have a1:=bl t t1 t2 (sb - 1) (by omega) (by omega)
      have a2:=l3' t' t3 t4
      omega
     rcases bl9 i (sa+k) with z | z
     ·rw [r2 i (.inl z)]
      rcases bl9 j (sa+k) with y | y
      ·rw [r2 j (.inl y)]; exact u i j hi hij (by omega)
      ·rcases bl9 j (sb+l) with x | x
       ·obtain ⟨t',q1,q2,q3⟩:=r4 j y x
        rw [q3]; exact bl i hi z t' q1 q2
       ·rw [r2 j (.inr x)]; exact blr i hi z j x hj
     ·rcases bl9 j (sb+l) with x | x
      ·exact r3 i j z hij x
      ·rw [r2 j (.inr x)]
       rcases bl9 i (sb+l) with y | y
       ·obtain ⟨t',q1,q2,q3⟩:=r4 i z y
        rw [q3]; exact br j x hj t' q1 q2
       ·rw [r2 i (.inr y)]; exact v i j (by omega) hij hj
    ·rw [er]; exact r2 t (by omega)
   by_cases hle:na - k<=l
   ·rw [if_pos hle]
    exact bh7 (aG9 c b1.kd (sub _ _) (sub _ _) sx sy x0 y0 hf hl fun m st2 g md=>fin m st2 g md)
   ·rw [if_neg hle]
    exact bh7 (aH3 c b1.kd (sub _ _) (sub _ _) sx sy x0 y0 hf hl fun m st2 g md=>fin m st2 g md)
end
noncomputable def Ch:Nat->List (Nat × Nat)->Nat->Prop
 | a,[],b=>a=b
 | a,(p,n) :: r,b=>p=a/\0 < n/\Ch (a+n) r b
theorem Ch.split:∀ {l l':List (Nat × Nat)}{a b:Nat},Ch a (l ++ l') b->∃ m,Ch a l m/\Ch m l' b
 | [],_,a,_,h=>⟨a,rfl,h⟩
 | (p,n) :: l,l',a,b,h=>by
  obtain ⟨h1,h2,h3⟩:=h
  obtain ⟨m,q1,q2⟩:=Ch.split h3
  exact⟨m,⟨h1,h2,q1⟩,q2⟩
theorem Ch.join:∀ {l l':List (Nat × Nat)}{a m b:Nat},Ch a l m->Ch m l' b->Ch a (l ++ l') b
 | [],_,a,m,_,h,h'=>by cases (show a=m from h); exact h'
 | (p,n) :: l,l',a,m,b,h,h'=>⟨h.1,h.2.1,Ch.join h.2.2 h'⟩
theorem Ch.len:∀ {l:List (Nat × Nat)}{a b:Nat},Ch a l b->a+l.length<=b
 | [],a,b,h=>by cases (show a=b from h); simp
 | (p,n) :: l,a,b,h=>by
  have:=Ch.len h.2.2
  have:=h.2.1
  simp; omega
theorem Ch.mem:∀ {l:List (Nat × Nat)}{a b:Nat}{r:Nat × Nat},Ch a l b->r ∈ l->a<=r.1/\r.1+r.2<=b/\0 < r.2
 | (p,n) :: l,a,b,r,h,hr=>by
  obtain ⟨h1,h2,h3⟩:=h
  have hb:=Ch.len h3
  rcases bg8.mp hr with e | e
  ·subst e
   have h1:p=a:=h1
   refine⟨?_,?_,h2⟩
   ·show a<=p; omega
   ·show p+n<=b; omega
  ·have:=Ch.mem h3 e
   exact⟨by omega,this.2.1,this.2.2⟩
noncomputable def sk (pd:Array (Nat × Nat × Nat)):List (Nat × Nat):=pd.toList.map fun r=>(r.1,r.2.1)
theorem sJ (pd:Array (Nat × Nat × Nat)):(sk pd).length=pd.size:=by simp [sk]
structure Rn (rk:Keyed->Int) (a:Array Keyed) (l:List (Nat × Nat)) (lo:Nat):Prop where
 ch:Ch 0 l lo
 up:∀ r ∈ l,Up rk a r.1 (r.1+r.2)
variable {rk : Keyed → Int} {κ : SortKind} {a0 : Array Keyed} {pd : Array (Nat × Nat × Nat)} {st : SortSt} {prog : Program} {w : World} {A : Around} {E : Value → Shared → Prop} {s : Shared} {Ok : Keyed → Prop}
theorem Rn.same {a b:Array Keyed}{l:List (Nat × Nat)}{lo:Nat} (h:Rn rk a l lo) (e:∀ t,t < lo->Kr rk b t=Kr rk a t):Rn rk b l lo:=⟨h.ch,fun r hr i j hi hij hj=>by
 have:=(h.ch.mem hr).2.1
 rw [e i (by omega),e j (by omega)]
 exact h.up r hr i j hi hij hj⟩
theorem T9 (c:cB prog w A E s κ Ok rk) (o:bQ Ok a0) (b:SB κ a0 pd st) {i lo:Nat}{Q:Bool->SortSt->Prop} (hi:i+1 < pd.size) (hz:lo<=a0.size) (rn:Rn rk (arrOf st) (sk pd) lo)
  (h:∀ pd' st',SB κ a0 pd' st'->pd'.size+1=pd.size->Rn rk (arrOf st') (sk pd') lo->(∀ t,lo<=t->Kr rk (arrOf st') t=Kr rk (arrOf st) t)->Q true st'):wpS (model prog w) A E s (mergeAt' i) Q st:=by
 obtain ⟨⟨sa,na,pw⟩,e1⟩:∃ r,pd[i]? = some r:=⟨pd[i],getElem?_pos pd i (by omega)⟩
 obtain ⟨⟨sb,nb,pw'⟩,e2⟩:∃ r,pd[i+1]? = some r:=⟨pd[i+1],getElem?_pos pd (i+1) hi⟩
 have d1:pd.toList=pd.toList.take i ++ (sa,na,pw) :: (sb,nb,pw') :: pd.toList.drop (i+2):=by
  have hl:i < pd.toList.length:=by simp; omega
  have hl2:i+1 < pd.toList.length:=by simpa using hi
  have g1:pd.toList[i]=(sa,na,pw):=by rw [getElem?_pos pd i (by omega)] at e1; simpa using e1
  have g2:pd.toList[i+1]=(sb,nb,pw'):=by rw [getElem?_pos pd (i+1) hi] at e2; simpa using e2
  have:=bk0 i pd.toList
  rw [br3 hl,br3 hl2,g1,g2] at this
  exact this.symm
 have li:(pd.toList.take i).length=i:=by simp; omega
 have d2:((pd.setIfInBounds i (sa,na+nb,pw)).eraseIdxIfInBounds (i+1)).toList=pd.toList.take i ++ (sa,na+nb,pw) :: pd.toList.drop (i+2):=by
  have e:((pd.setIfInBounds i (sa,na+nb,pw)).eraseIdxIfInBounds (i+1)).toList=(pd.toList.set i (sa,na+nb,pw)).eraseIdx (i+1):=by
   unfold Array.eraseIdxIfInBounds
   rw [dif_pos (by rw [Array.size_setIfInBounds]; exact hi),Array.toList_eraseIdx,Array.toList_setIfInBounds]
  rw [e]
  conv=>lhs; rw [d1]
  rw [List.set_append_right _ _ (by omega),li,Nat.sub_self,List.set_cons_zero,List.eraseIdx_append_of_length_le (by omega),li,show i+1 - i=1 by omega]
  rfl
 have k1:sk pd=(pd.toList.take i).map (fun r=>(r.1,r.2.1)) ++ (sa,na) :: (sb,nb) :: (pd.toList.drop (i+2)).map (fun r=>(r.1,r.2.1)):=by
  unfold sk; conv=>lhs; rw [d1]
  simp
 have k2:sk ((pd.setIfInBounds i (sa,na+nb,pw)).eraseIdxIfInBounds (i+1))=(pd.toList.take i).map (fun r=>(r.1,r.2.1)) ++ (sa,na+nb) :: (pd.toList.drop (i+2)).map (fun r=>(r.1,r.2.1)):=by
  unfold sk; rw [d2]
  simp
 have ch:=rn.ch
 rw [k1] at ch
 obtain ⟨m,c1,c2⟩:=ch.split
 obtain ⟨f1,f2,f3,f4,f5⟩:=c2
 have f1:sa=m:=f1
 have f3:sb=m+na:=f3
 have up:=rn.up
 rw [k1] at up
 have lo2:=f5.len
 refine aH7 c o b e1 e2 (by omega) f2 f4 (by omega) (by have:=up (sa,na) (by simp); rw [f3,<- f1]; exact this) (up (sb,nb) (by simp)) fun st' b' u' fr=>h _ st' b' ?_ ⟨?_,?_⟩ fun t ht=>fr t (by omega)
 ·rw [<- sJ,<- sJ,k1,k2]; simp; omega
 ·rw [k2]
  refine c1.join ⟨f1,by omega,?_⟩
  rw [<- Nat.add_assoc]; exact f5
 ·intro r hr
  rw [k2] at hr
  rcases bh4.mp hr with z | z
  ·intro p q h1 h2 h3
   have:=(c1.mem z).2.1
   rw [fr p (by omega),fr q (by omega)]
   exact up r (bk3 _ z) p q h1 h2 h3
  ·rcases bg8.mp z with z | z
   ·subst z
    show Up rk (arrOf st') sa (sa+(na+nb))
    rw [show sa+(na+nb)=sb+nb by omega]; exact u'
   ·intro p q h1 h2 h3
    have:=(f5.mem z).1
    rw [fr p (by omega),fr q (by omega)]
    exact up r (bj6 _ (bg6 _ (bg6 _ z))) p q h1 h2 h3
noncomputable abbrev RS:=Option Unit × Nat
noncomputable def U0 (sz pw:Nat):StateT SortSt Sem (Option Unit × Unit):=forIn [0:sz] ((none,()):Option Unit × Unit) fun _ _=>do
 let z <- get
 match (if (pendingOf z).size > 1 then (pendingOf z)[(pendingOf z).size - 2]? else none) with
 | some (_,_,o)=>if o<=pw then pure (.done (none,())) else do
   let q <- mergeAt' ((pendingOf z).size - 2)
   if (!q)=true then pure (.done (some (),())) else pure (.yield (none,()))
 | _=>pure (.done (none,()))
noncomputable def jn (sz lo n:Nat):StateT SortSt Sem (ForInStep RS):=do
 let z <- get
 match (pendingOf z).back? with
 | some (s1,n1,_)=>do
  let r <- U0 sz (power' sz (2 * s1+n1) (2 * s1+n1+n1+n) sz)
  match r.1 with
  | some u=>pure (.done (some u,lo))
  | none=>do
   modify fun s=>setPending s ((pendingOf s).modify ((pendingOf s).size - 1) fun x=>(x.1,x.2.1,power' sz (2 * s1+n1) (2 * s1+n1+n1+n) sz))
   modify fun s=>setPending s ((pendingOf s).push (lo,n,0))
   pure (.yield (none,lo+n))
 | _=>do
  modify fun s=>setPending s ((pendingOf s).push (lo,n,0))
  pure (.yield (none,lo+n))
noncomputable def U1 (sz mr lo:Nat):StateT SortSt Sem (ForInStep RS):=if lo >= sz then pure (.done (none,lo)) else do
 match <- countRun' lo (sz - lo) with
 | some n=>
  if n < mr then
   liftM (rule "list.sort.binary-insertion")
   let q <- binarySort' lo (min (sz - lo) mr) n
   if (!q)=true then pure (.done (some (),lo)) else jn sz lo (min (sz - lo) mr)
  else jn sz lo n
 | _=>pure (.done (some (),lo))
noncomputable def U2 (sz:Nat):StateT SortSt Sem (Option Unit × Unit):=forIn [0:sz] ((none,()):Option Unit × Unit) fun _ _=>do
 let z <- get
 if (pendingOf z).size<=1 then pure (.done (none,())) else do
  let q <- mergeAt' (if ((if (pendingOf z).size - 2 > 0 then (pendingOf z)[(pendingOf z).size - 2 - 1]?.map (·.2.1) else none).any (· < ((pendingOf z)[(pendingOf z).size - 2+1]?.elim 0 (·.2.1))))=true then (pendingOf z).size - 2 - 1 else (pendingOf z).size - 2)
  if (!q)=true then pure (.done (some (),())) else pure (.yield (none,()))
theorem aH8:sortRuns'=(do
 let z <- get
 let r <- (forIn [0:(arrOf z).size] ((none,0):RS) fun _ r=>U1 (arrOf z).size (minRun' (arrOf z).size (arrOf z).size 0) r.2)
 match r.1 with
 | some u=>pure u
 | none=>do
  let q <- U2 (arrOf z).size
  match q.1 with
  | some u=>pure u
  | none=>pure ()):=by kernel_rfl
theorem U3 {lo nn:Nat} (n1:0 < nn) {pd:Array (Nat × Nat × Nat)}{a:Array Keyed} (r:Rn rk a (sk pd) lo) (u:Up rk a lo (lo+nn)):Rn rk a (sk (pd.push (lo,nn,0))) (lo+nn):=by
 have e:sk (pd.push (lo,nn,0))=sk pd ++ [(lo,nn)]:=by simp [sk]
 refine⟨by rw [e]; exact r.ch.join ⟨rfl,n1,rfl⟩,fun q hq=>?_⟩
 rw [e] at hq
 rcases bh4.mp hq with z | z
 ·exact r.up q z
 ·rw [bh1] at z
  subst z
  exact u
theorem U4 (c:cB prog w A E s κ Ok rk) (o:bQ Ok a0) (b:SB κ a0 pd st) {lo n:Nat}{Q:ForInStep RS->SortSt->Prop} (n1:1<=n) (n2:lo+n<=a0.size) (rn:Rn rk (arrOf st) (sk pd) lo) (u:Up rk (arrOf st) lo (lo+n))
  (h:∀ pd' st',SB κ a0 pd' st'->Rn rk (arrOf st') (sk pd') (lo+n)->Q (.yield (none,lo+n)) st'):wpS (model prog w) A E s (jn a0.size lo n) Q st:=by
 unfold jn
 refine bh7 (wpS_get ?_)
 rw [b.pd]
 cases hb:pd.back? with
 | none=>exact bh7 (wpS_modify (bi7 (h (pd.push (lo,n,0)) _ ⟨b.pm,b.kd,b.ok,by show (pendingOf st).push _=_; rw [b.pd]⟩ (U3 n1 rn u))))
 | some q=>
  obtain ⟨s1,m1,q3⟩:=q
  dsimp only
  generalize power' a0.size (2 * s1+m1) (2 * s1+m1+m1+n) a0.size=pw
  unfold U0
  refine bh7 (bw4 (bp7
   (I:=fun _ r st'=>r=(none,())/\∃ pd,SB κ a0 pd st'/\Rn rk (arrOf st') (sk pd) lo/\Up rk (arrOf st') lo (lo+n))
   (Q:=fun r st'=>r=(none,())/\∃ pd,SB κ a0 pd st'/\Rn rk (arrOf st') (sk pd) lo/\Up rk (arrOf st') lo (lo+n)) ?_ (fun _ _ z=>z) ⟨rfl,pd,b,rn,u⟩) ?_)
  ·rintro t r st4 _ ht ⟨rfl,pd4,b4,r4,u4⟩
   refine bh7 (wpS_get ?_)
   rw [b4.pd]
   cases ho:(if pd4.size > 1 then pd4[pd4.size - 2]? else none) with
   | none=>exact bi7 ⟨rfl,pd4,b4,r4,u4⟩
   | some z=>
    obtain ⟨z1,z2,z3⟩:=z
    have h1:pd4.size > 1:=by
     by_cases y:pd4.size > 1
     ·exact y
     ·rw [if_neg y] at ho; cases ho
    dsimp only
    by_cases hp:z3<=pw
    ·rw [if_pos hp]
     exact bi7 ⟨rfl,pd4,b4,r4,u4⟩
    ·rw [if_neg hp]
     refine bh7 (T9 c o b4 (by omega) (by omega) r4 fun pd5 st5 b5 _ r5 f5=>?_)
     exact bi7 ⟨rfl,pd5,b5,r5,fun i j hi hij hj=>by rw [f5 i hi,f5 j (by omega)]; exact u4 i j hi hij hj⟩
  ·rintro r st4 ⟨rfl,pd4,b4,r4,u4⟩
   refine bh7 (wpS_modify (bh7 (wpS_modify (bi7 ?_))))
   have e:sk (pd4.modify (pd4.size - 1) fun x=>(x.1,x.2.1,pw))=sk pd4:=by
    unfold sk
    rw [Array.toList_modify]
    apply List.ext_getElem?
    intro t
    rw [bh5,bh5,List.getElem?_modify]
    cases pd4.toList[t]? with
    | none=>simp
    | some v=>by_cases y:pd4.size - 1=t <;> simp [y]
   refine h ((pd4.modify (pd4.size - 1) fun x=>(x.1,x.2.1,pw)).push (lo,n,0)) _ ⟨b4.pm,b4.kd,b4.ok,?_⟩ (U3 n1 (by rw [e]; exact r4) u4)
   show ((pendingOf st4).modify ((pendingOf st4).size - 1) fun x=>(x.1,x.2.1,pw)).push _=_
   rw [b4.pd]
theorem aH9 (c:cB prog w A E s κ Ok rk) (o:bQ Ok a0) (b:SB κ a0 #[] st) {Q:Unit->SortSt->Prop} (h2:1<=a0.size)
  (h:∀ st',(arrOf st').Perm a0->failedOf st'=none->Up rk (arrOf st') 0 a0.size->Q () st'):wpS (model prog w) A E s sortRuns' Q st:=by
 rw [aH8]
 refine bh7 (wpS_get ?_)
 rw [b.sz]
 generalize minRun' a0.size a0.size 0=mr
 refine bh7 (bw4 (bp7
  (I:=fun x r st'=>∃ lo pd,r=(none,lo)/\x<=lo/\lo<=a0.size/\SB κ a0 pd st'/\Rn rk (arrOf st') (sk pd) lo)
  (Q:=fun r st'=>∃ pd,r=(none,a0.size)/\SB κ a0 pd st'/\Rn rk (arrOf st') (sk pd) a0.size) ?_ ?_ ⟨0,#[],rfl,bg9 _,bl0 _,b,⟨rfl,fun r hr=>absurd hr (by simp [sk])⟩⟩) ?_)
 ·rintro x r st1 _ hx ⟨lo,pd,rfl,xl,lz,b1,rn⟩
  unfold U1
  dsimp only
  by_cases hd:lo >= a0.size
  ·rw [if_pos hd]
   have e:lo=a0.size:=by omega
   subst e
   exact bi7 ⟨pd,rfl,b1,rn⟩
  ·rw [if_neg hd]
   refine bh7 (aG2 c o b1 (by omega) (by omega) fun n st2 b2 n1 n2 u2 l2=>?_)
   have rn2:=rn.same l2
   dsimp only
   by_cases hmr:n < mr
   ·rw [if_pos hmr]
    refine bh7 (wpS_lift (bt0 ⟨rfl,?_⟩))
    refine bh7 (aG3 c o b2 (by omega) (by omega) u2 fun st3 b3 u3 l3=>?_)
    rw [if_neg (by decide)]
    exact U4 c o b3 (by omega) (by omega) (rn2.same l3) u3 fun pd' st' b' r'=>⟨_,pd',rfl,by omega,by omega,b',r'⟩
   ·rw [if_neg hmr]
    exact U4 c o b2 n1 (by omega) rn2 u2 fun pd' st' b' r'=>⟨lo+n,pd',rfl,by omega,by omega,b',r'⟩
 ·rintro r st1 ⟨lo,pd,rfl,xl,lz,b1,rn⟩
  have e:lo=a0.size:=by omega
  subst e
  exact⟨pd,rfl,b1,rn⟩
 ·rintro r st1 ⟨pd,rfl,b1,rn⟩
  dsimp only
  unfold U2
  refine bh7 (bw4 (bp7
   (I:=fun t r st'=>r=(none,())/\∃ pd,SB κ a0 pd st'/\Rn rk (arrOf st') (sk pd) a0.size/\(pd.size+t<=a0.size ∨ pd.size<=1))
   (Q:=fun r st'=>r=(none,())/\∃ pd,SB κ a0 pd st'/\Rn rk (arrOf st') (sk pd) a0.size/\pd.size<=1) ?_ ?_ ⟨rfl,pd,b1,rn,.inl (by have:=rn.ch.len; rw [sJ] at this; omega)⟩) ?_)
  ·rintro t r st2 _ ht ⟨rfl,pd,b2,rn2,pr⟩
   refine bh7 (wpS_get ?_)
   rw [b2.pd]
   by_cases h1:pd.size<=1
   ·rw [if_pos h1]
    exact bi7 ⟨rfl,pd,b2,rn2,h1⟩
   ·rw [if_neg h1]
    refine bh7 (T9 c o b2 ?_ (bg9 _) rn2 fun pd' st3 b3 sz3 rn3 _=>?_)
    ·split <;> split <;> omega
    ·exact bi7 ⟨rfl,pd',b3,rn3,by omega⟩
  ·rintro r st2 ⟨rfl,pd,b2,rn2,pr⟩
   exact⟨rfl,pd,b2,rn2,by omega⟩
  ·rintro r st2 ⟨rfl,pd,b2,rn2,pr⟩
   refine bi7 (h st2 b2.pm b2.ok ?_)
   have ch:=rn2.ch
   have up:=rn2.up
   rw [<- sJ] at pr
   cases e:sk pd with
   | nil=>rw [e] at ch; exact absurd (show 0=a0.size from ch) (by omega)
   | cons r l=>
    rw [e] at ch up pr
    have el:l = []:=List.eq_nil_of_length_eq_zero (by have:=pr; rw [bi9] at this; omega)
    subst el
    obtain ⟨p,n⟩:=r
    obtain ⟨q1,q2,q3⟩:=ch
    have q1:p=0:=q1
    have q3:0+n=a0.size:=q3
    subst q1
    have:=up (0,n) (by simp)
    rw [<- q3]; exact this
end SO
namespace L2
open PySem PySem.Spec PyProof.Rows SO
noncomputable abbrev dC (h:Heap) (a:Addr) (vs:List Value):Heap:=((h.update a (Obj.mapSeq fun _=>#[])).push (seqObj "tuple" vs.toArray 0)).push (seqObj "list" #[] 0)
noncomputable abbrev dJ (h:Heap) (vs:List Value):Heap:=((h.push (seqObj "list" #[] 0)).update h.objs.size (Obj.mapSeq (· ++ vs.toArray))).push (seqObj "list" vs.toArray 0)
theorem U5 {h:Heap}{vs:List Value}{b:Addr}{o:Obj} (e:h.get? b=some o):(dJ h vs).get? b=some o:=by
 have l:=bi0 e
 refine bg1 _ ?_
 rw [Heap.get?_update_ne _ _ _ _ (bk6 l)]
 exact bg1 _ e
theorem U6 {h:Heap}{vs:List Value}{a b:Addr}{o:Obj} (hb:b ≠ a) (e:h.get? b=some o):(dC h a vs).get? b=some o:=by
 refine bg1 _ (bg1 _ ?_)
 rw [Heap.get?_update_ne _ _ _ _ hb]; exact e
theorem aI0 {prog:Program}{w:World}{A:Around}{E:Value->Shared->Prop}{s:Shared}{a:Addr}{vs:List Value}{n:Nat}{P:PySem.Fin->Shared->Prop}{κ:SortKind}{Ok:Keyed->Prop}{rk:Keyed->Int}
  (e:s.heap.get? a=some (seqObj "list" vs.toArray n)) (h2:2<=vs.length) (big:vs.length<=sizeLine)
  (hk:∀ Q:SortKind->Shared->Prop,Q κ { s with heap:=dC s.heap a vs }->wpAny (model prog w) A (keyKind' vs.toArray) Q E { s with heap:=dC s.heap a vs })
  (c:cB prog w A E { s with heap:=dC s.heap a vs } κ Ok rk) (o:∀ v ∈ vs,Ok (v,v))
  (q:∀ out:List Value,out.Perm vs->out.Pairwise (fun u v=>rk (u,u)<=rk (v,v))->P (.done (.ret .none)) { s with heap:=sortedHeap s.heap a vs out.toArray }):wpAny (model prog w) A (Builtin.«list.sort» ⟨[.ref a],[]⟩) P E s:=by
 have la:=bi0 e
 have cc : ¬ vs.toArray.size < 2:=by simpa using h2
 obtain ⟨k,ek⟩:∃ k,(s.heap.update a (Obj.mapSeq fun _=>#[])).get? a=some (seqObj "list" #[] k):=⟨_,get?_update_seq e fun _=>#[]⟩
 have there:(dC s.heap a vs).get? a=some (seqObj "list" #[] k):=bg1 _ (bg1 _ ek)
 rw [list_sort_plain]
 apply bg0
 apply listItems_at e rfl
 apply bg0
 refine listUpdate_at e rfl ?_ (by simpa using big) (bl0 _)
 apply bg0
 apply seqEpoch_at ek rfl
 apply bg0
 refine wpAny_newTuple ?_ big
 apply bg0
 refine wpAny_newList ?_ (bl0 _)
 apply br0
 simp only [cc,bp8]
 apply bg0
 refine hk _ ?_
 have zl:(vs.toArray.zip vs.toArray).toList=vs.zip vs:=by simp
 apply bg0
 refine bq7 (aH9 (a0:=vs.toArray.zip vs.toArray) (Q:=fun _ st'=>(arrOf st').Perm (vs.toArray.zip vs.toArray)/\failedOf st'=none/\Up rk (arrOf st') 0 (vs.toArray.zip vs.toArray).size) c (fun x hx=>?_) ⟨Array.Perm.refl _,rfl,rfl,rfl⟩ (by simp; omega) fun st' a1 a2 a3=>⟨a1,a2,a3⟩) ?_ fun _ _ z=>z
 ·have hx':x ∈ vs.zip vs:=by rw [<- zl]; exact Array.mem_toList_iff.mpr hx
  obtain ⟨y1,y2⟩:=mem_zip_self hx'
  have:=o x.1 y2
  have ex:x=(x.1,x.1):=Prod.ext rfl y1.symm
  rw [ex]; exact this
 ·rintro ⟨⟨⟩,st'⟩ s' ⟨rfl,pm,ok,up⟩
  have lp:(arrOf st').toList.Perm (vs.zip vs):=by rw [<- zl]; exact Array.perm_iff_toList_perm.mp pm
  have out:(arrOf st').map (·.2)=((arrOf st').toList.map (·.2)).toArray:=by apply Array.toList_inj.mp; rw [Array.toList_map]
  have op:((arrOf st').toList.map (·.2)).Perm vs:=by
   have:=lp.map (·.2)
   rw [qZ] at this; exact this
  have sz:(arrOf st').size=vs.length:=by rw [pm.size_eq]; simp
  dsimp only
  apply bg0
  apply seqEpoch_at there rfl
  apply bg0
  refine listUpdate_at there rfl ?_ (bl0 _) (by rw [Array.size_map,sz]; exact Nat.le_succ_of_le big)
  rw [ok]
  simp only [bne_self_eq_false,bj7,bp8]
  refine bh3 ?_
  have hq:=q _ op ?_
  ·rw [<- out] at hq; exact hq
  ·rw [bp3,bl4]
   intro i j hi hj hij
   have hi':i < (arrOf st').size:=by simpa using hi
   have hj':j < (arrOf st').size:=by simpa using hj
   have h1:=up i j (bl0 _) (bn7 hij) (by simp; omega)
   rw [c9 hi',c9 hj'] at h1
   have dg:∀ x ∈ (arrOf st').toList,(x.2,x.2)=x:=fun x hx=>Prod.ext (mem_zip_self (lp.mem_iff.mp hx)).1.symm rfl
   rw [dg _ (br1 hi),dg _ (br1 hj)]
   simpa using h1
theorem U7 {prog:Program}{w:World}{A:Around}{E:Value->Shared->Prop}{s:Shared}{l:Addr}{vs:List Value}{Q:Value->Shared->Prop}{κ:SortKind}{Ok:Keyed->Prop}{rk:Keyed->Int}
  (hl:s.heap.IsList l vs.toArray) (h2:2<=vs.length) (big:vs.length<=sizeLine)
  (hk:∀ (A:Around) (E:Value->Shared->Prop) (Q:SortKind->Shared->Prop),Q κ { s with heap:=dC (dJ s.heap vs) (s.heap.objs.size+1) vs }->wpAny (model prog w) A (keyKind' vs.toArray) Q E { s with heap:=dC (dJ s.heap vs) (s.heap.objs.size+1) vs })
  (c:∀ (A:Around) (E:Value->Shared->Prop),cB prog w A E { s with heap:=dC (dJ s.heap vs) (s.heap.objs.size+1) vs } κ Ok rk) (o:∀ v ∈ vs,Ok (v,v))
  (q:∀ out:List Value,out.Perm vs->out.Pairwise (fun u v=>rk (u,u)<=rk (v,v))->Q (.ref (s.heap.objs.size+1)) { s with heap:=sortedAll s.heap vs out.toArray }):wpAny (model prog w) A (call (.builtin "sorted") [.ref l]) Q E s:=by
 apply Calls.call_function_entry kind_sorted plain_sorted entry_sorted (args_sorted1 _)
 simp only [Builtin.«sorted»]
 apply bg0 (m:=checkCount "sorted" 1 1 _)
 apply bh3
 apply bg0
 refine collect_list hl ?_ big
 apply bg0
 refine wpAny_newList ?_ big
 have one:((s.heap.push (seqObj "list" #[] 0)).update s.heap.objs.size (Obj.mapSeq (· ++ vs.toArray))).objs.size=s.heap.objs.size+1:=(Heap.size_update _ _ _).trans (size_push' _ _)
 have at1:(dJ s.heap vs).get? (s.heap.objs.size+1)=some (seqObj "list" vs.toArray 0):=one ▸ bi8 _ rfl
 change wpAny _ _ _ _ _ { s with heap:=dJ s.heap vs }
 rw [one]
 apply bg0
 apply br0
 refine bo2 slot_list_sort ⟨_,at1,rfl⟩ entry_list_sort ?_ (args_list_sort _)
 exact aI0 (s:={ s with heap:=dJ s.heap vs }) at1 h2 big (hk _ _) (c _ _) o fun out a1 a2=>⟨_,rfl,bh3 ⟨_,rfl,q out a1 a2⟩⟩
noncomputable def sK (h:Heap) (B:Int) (x:Keyed):Int:=match x.1 with
 | .ref b=>match h.get? b with
  | some ob=>match ob.data with
   | .seq us _=>numOf (us.getD 0 .none) * B+numOf (us.getD 1 .none)
   | _=>0
  | none=>0
 | _=>0
structure k6 (h:Heap) (M:Int) (v:Value) (p q:Int):Prop where
 at_:∃ b ob us n,v = .ref b/\h.get? b=some ob/\ob.cls = .type "tuple"/\ob.data = .seq (List.toArray us) n/\IntsAre us [p,q]
 lo : -M<=q
 hi:q<=M
theorem k6.rk {h:Heap}{M B:Int}{x:Keyed}{p q:Int} (z:k6 h M x.1 p q):sK h B x=p * B+q:=by
 obtain ⟨b,ob,us,n,e1,e2,_,e4,e5⟩:=z.at_
 cases e5 with
 | cons _ t e6=>cases e6 with
  | cons _ u e7=>cases e7; unfold sK; rw [e1]; dsimp only; rw [e2]; dsimp only; rw [e4]; rfl
theorem U8 {p q p' q' M:Int} (h1 : -M<=q) (h2:q<=M) (h3 : -M<=q') (h4:q'<=M):HT.iJ [p,q] [p',q']=decide (p * (2 * M+1)+q < p' * (2 * M+1)+q'):=by
 rw [HT.o7]
 have mm:∀ {a b:Int},a < b->a * (2 * M+1)+(2 * M+1)<=b * (2 * M+1):=fun {a b} z=>by
  have:=Int.mul_le_mul_of_nonneg_right (show a+1<=b by omega) (show 0<=2 * M+1 by omega)
  rw [Int.add_mul,Int.one_mul] at this
  exact this
 by_cases e:p=p'
 ·subst e
  rw [if_pos rfl,HT.o7]
  by_cases e2:q=q'
  ·subst e2
   rw [if_pos rfl,HT.aq9,bg4 (by omega)]
  ·rw [if_neg e2]
   by_cases l:q < q'
   ·rw [bg2 l,bg2 (by omega)]
   ·rw [bg4 l,bg4 (by omega)]
 ·rw [if_neg e]
  by_cases l:p < p'
  ·have:=mm l
   rw [bg2 l,bg2 (by omega)]
  ·have:=mm (show p' < p by omega)
   rw [bg4 l,bg4 (by omega)]
theorem aI1 {prog:Program}{w:World}{A:Around}{E:Value->Shared->Prop}{s:Shared}{M:Int}:cB prog w A E s (tuples' true) (fun x=>∃ p q,k6 s.heap M x.1 p q) (sK s.heap (2 * M+1)):=by
 rintro x y ⟨p,q,z⟩ ⟨p',q',z'⟩ st Q hk hq
 rw [z.rk,z'.rk] at hq
 rw [<- U8 z.lo z.hi z'.lo z'.hi] at hq
 obtain ⟨b,ob,us,n,e1,e2,e3,e4,e5⟩:=z.at_
 obtain ⟨b',ob',us',n',e1',e2',e3',e4',e5'⟩:=z'.at_
 rw [lt'_eq]
 refine bh7 (wpS_get ?_)
 rw [hk,e1,e1']
 refine bh7 (wpS_lift (wpAny_attempt (PySem.W.kat_lt e2 e4 e2' e4' ?_)))
 have:=L3 (prog:=prog) (w:=w) (A:=A) (s:=s) (Q:=fun a s'=>s'=s/\wpS (model prog w) A E s (pure (some a)) Q st) 0 e5 e5' ⟨rfl,bi7 hq⟩
 simpa using this
theorem U9 {vs vs':List Value} (h:vs.Perm vs'):∀ {xs:List V},aM xs vs->∃ xs',xs'.Perm xs/\aM xs' vs':=by
 induction h with
 | nil=>intro xs r; exact⟨xs,bv5 _,r⟩
 | cons v _ ih=>
  intro xs r
  cases r with
  | cons r t=>
   obtain ⟨xs',p,r'⟩:=ih t
   exact⟨_ :: xs',p.cons _,.cons r r'⟩
 | swap u v l=>
  intro xs r
  cases r with
  | cons r t=>cases t with
   | cons r2 t2=>exact⟨_,List.Perm.swap _ _ _,.cons r2 (.cons r t2)⟩
 | trans _ _ ih1 ih2=>
  intro xs r
  obtain ⟨x1,p1,r1⟩:=ih1 r
  obtain ⟨x2,p2,r2⟩:=ih2 r1
  exact⟨x2,p2.trans p1,r2⟩
theorem V0 {α:Type} (f:α->Int):∀ l:List α,∃ M:Int,∀ y ∈ l,-M<=f y/\f y<=M
 | []=>⟨0,fun _ h=>nomatch h⟩
 | x :: l=>by
  obtain ⟨M,h⟩:=V0 f l
  refine⟨max M (max (f x) (- f x)),fun y hy=>?_⟩
  rcases bg8.mp hy with e | e
  ·subst e; omega
  ·have:=h y e; omega
noncomputable def V1 (K:PySem.W.Frag):List V->Hp->VK->Prop:=fun xs H Q=>∃ (a:Addr) (ys:List V) (key:V->List Int),xs = [.ref a]/\aK K H a ys/\ys.length<=4096/\(∀ y ∈ ys,∃ b,y = .ref b/\aQ K H b ((key y).map V.int)/\(key y).length=2)/\
 ∀ l (zs:List V),H l=none->zs.Perm ys->zs.Pairwise (fun u v=>HT.iJ (key v) (key u)=false)->Q (.ref l) (upd H l (.lst zs))
theorem aI2 {X:Cx}:dQ X (.builtin "sorted") (V1 X.K):=by
 intro pins s σ H xs us Q I r h
 obtain ⟨a,ys,key,rfl,hs,hz4,hk,q⟩:=h
 obtain ⟨u,rfl,ru⟩:=jA r
 cases ru
 obtain ⟨its,rv,p,hz⟩:=I.list hs
 have hl:=rv.length
 have hn:s.heap.objs.size<=s.heap.objs.size+1:=Nat.le_succ _
 by_cases h2:its.length < 2
 ·refine K9 p.isList h2 ?_
  obtain ⟨e,he⟩:=sortedAll_at s.heap its its.toArray
  refine⟨.ref (s.heap.objs.size+1),upd H (s.heap.objs.size+1) (.lst ys),I.laid (t':=s.toks) (fun _ _=>sortedAll_old) hn ⟨hz,its,e,rv,he⟩,rfl,q _ ys (I.hok.fresh hn) (bv5 _) ?_⟩
  match ys,hl with
  | [],_=>exact bp2
  | [_],_=>exact bj4 _ _
  | _ :: _ :: _,hl=>simp at hl; omega
 ·obtain ⟨M,hM⟩:=V0 (fun y=>(key y).getD 1 0) ys
  have pv:∀ {y:V}{v:Value},aV y v->y ∈ ys->∃ pp qq,key y = [pp,qq]/\k6 (dC (dJ s.heap its) (s.heap.objs.size+1) its) M v pp qq:=fun {y v} ry hy=>by
   obtain ⟨b,rfl,sq,l2⟩:=hk y hy
   cases ry
   obtain ⟨us,ru,⟨ob,e1,c1,n1,d1⟩,_⟩:=I.tuple sq
   have ia:=uS ru
   have mm:=hM _ hy
   match hkk:key (V.ref b),l2 with
   | [pp,qq],_=>
    rw [hkk] at ia mm
    exact⟨pp,qq,rfl,⟨b,ob,us,n1,rfl,U6 (bk6 (Nat.lt_succ_of_lt (bi0 e1))) (U5 e1),c1,d1,ia⟩,mm.1,mm.2⟩
  have pvs:∀ {xs:List V}{vs:List Value},aM xs vs->(∀ y ∈ xs,y ∈ ys)->∀ v ∈ vs,∃ pp qq,k6 (dC (dJ s.heap its) (s.heap.objs.size+1) its) M v pp qq:=by
   intro xs vs r
   induction r with
   | nil=>intro _ v hv; cases hv
   | cons rx rt ih=>
    intro hh v hv
    rcases bg8.mp hv with z | z
    ·subst z
     obtain ⟨pp,qq,_,z⟩:=pv rx (hh _ bg7)
     exact⟨pp,qq,z⟩
    ·exact ih (fun y hy=>hh y (bg6 _ hy)) v z
  have firsts:∀ {vs:List Value},(∀ v ∈ vs,∃ pp qq,k6 (dC (dJ s.heap its) (s.heap.objs.size+1) its) M v pp qq)->∃ fs:List Value,PySem.W.KatTups (dC (dJ s.heap its) (s.heap.objs.size+1) its) vs fs/\fs.length=vs.length/\∀ v ∈ fs,∃ i t,v=Value.int i t:=by
   intro vs
   induction vs with
   | nil=>intro _; exact⟨[],PySem.W.KatTups.nil,rfl,fun _ z=>nomatch z⟩
   | cons v vs ih=>
    intro hh
    obtain ⟨fs,t1,t2,t3⟩:=ih fun y hy=>hh y (bg6 _ hy)
    obtain ⟨pp,qq,z⟩:=hh v bg7
    obtain ⟨b,ob,us,n,rfl,e2,e3,e4,e5⟩:=z.at_
    cases e5 with
    | cons _ t e6=>exact⟨Value.int pp t :: fs,PySem.W.KatTups.cons e2 e3 e4 (by simp) t1,by simp [t2],fun v hv=>(bg8.mp hv).elim (fun z=>⟨pp,t,z⟩) (t3 v)⟩
  have allp:=pvs rv fun _ h=>h
  obtain ⟨fs,t1,t2,t3⟩:=firsts allp
  refine U7 (κ:=tuples' true) (Ok:=fun x=>∃ pp qq,k6 (dC (dJ s.heap its) (s.heap.objs.size+1) its) M x.1 pp qq) (rk:=sK (dC (dJ s.heap its) (s.heap.objs.size+1) its) (2 * M+1)) p.isList (by omega) (by rw [<- hl]; exact hz)
   (fun A E Q hQ=>?_) (fun A E=>aI1 (s:={ s with heap:=dC (dJ s.heap its) (s.heap.objs.size+1) its })) (fun v hv=>allp v hv) fun out pm so=>?_
  ·refine PySem.W.kat_kind (T:=.type "int") t1 (by omega) (fun v hv=>?_) (by decide) ?_
   ·obtain ⟨i,t,rfl⟩:=t3 v hv
    exact PySem.W.Looks.now
   ·have eT:(Value.type "int" != Value.type "tuple")=true:=by decide
    rw [eT]; exact hQ
  ·obtain ⟨zs,pz,rz⟩:=U9 pm.symm rv
   obtain ⟨e,he⟩:=sortedAll_at s.heap its out.toArray
   refine⟨.ref (s.heap.objs.size+1),upd H (s.heap.objs.size+1) (.lst zs),I.laid (t':=s.toks) (fun _ _=>sortedAll_old) hn ⟨by rw [pz.length_eq]; exact hz,out,e,rz,he⟩,rfl,q _ zs (I.hok.fresh hn) pz ?_⟩
   have lz:=rz.length
   rw [bl4]
   intro i j hi hj hij
   have s1:=bl4.mp so i j (by omega) (by omega) hij
   have gi:=oJ i hi rz
   have gj:=oJ j hj rz
   simp only [bi1,bg3 hi,bg3 hj,bg3 (show i < out.length by omega),bg3 (show j < out.length by omega),Option.getD_some] at gi gj
   obtain ⟨pi,qi,ki,vi⟩:=pv gi (pz.mem_iff.mp (br1 hi))
   obtain ⟨pj,qj,kj,vj⟩:=pv gj (pz.mem_iff.mp (br1 hj))
   rw [k6.rk (x:=(out[i],out[i])) vi,k6.rk (x:=(out[j],out[j])) vj] at s1
   rw [ki,kj,U8 vj.lo vj.hi vi.lo vi.hi]
   exact bg4 (by omega)
end L2
namespace L2
open PySem PySem.Spec PyProof.Rows
theorem cE.at {P:Program}{w:World}{H:Hp}{h:Heap}{a:Addr}{o:HO} (x:cE P w H h a o):∃ ob,h.get? a=some ob:=by
 cases o with
 | lst xs=>obtain ⟨_,_,_,_,e⟩:=x; exact⟨_,e⟩
 | tup xs=>obtain ⟨_,_,_,⟨_,e,_⟩,_⟩:=x; exact⟨_,e⟩
 | dK kvs=>obtain ⟨_,_,_,_,_,_,_,e,_⟩:=x; exact⟨_,e⟩
 | dT kvs=>obtain ⟨_,_,_,_,_,_,_,e,_⟩:=x; exact⟨_,e⟩
 | set S n=>obtain ⟨_,_,_,_,e,_⟩:=x; exact⟨_,e⟩
 | ins C dx fs=>obtain ⟨_,_,_,e,_⟩:=x; exact⟨_,e⟩
 | own y=>exact x
 | xd fs=>obtain ⟨_,⟨_,_,_,e,_⟩,_⟩:=x; exact⟨_,e⟩
 | rng lo hi=>obtain ⟨_,_,_,e⟩:=x; exact⟨_,e⟩
 | frz ob u=>obtain ⟨e,_⟩:=x; exact⟨_,e⟩
 | tbl ps=>exact⟨_,x⟩
 | met f y=>exact⟨_,x⟩
 | ext φ=>exact x.2.1
structure xB (P:Program) (w:World) (outer:List Env) (H:Hp) (s:Shared) (H':Hp) (B:Heap) (a C:Addr) (s':Shared):Prop where
 os:s'.os=s.os
 bare:AllBare s'.gens
 un:Un (c8 outer) [] H H' s.heap s'.heap
 hok:bY P w H' s'.heap
 fly:∃ a0,Heap.FlyingW B outer a (.ref C) a0 s'.heap
 b0:∀ b o,s.heap.get? b=some o->b ∉ c8 outer->∃ o',B.get? b=some o'
 b1:∀ b o,s.heap.get? b=some o->H b=none->b ∉ c8 outer->B.get? b=some o
 b2:∀ b u o,H' b=some u->s'.heap.get? b=some o->B.get? b=some o
noncomputable def fM (P:Program) (w:World):hZ:=fun outer H s E e s'=>∃ (H':Hp) (B:Heap) (a C:Addr),e = .ref a/\xB P w outer H s H' B a C s'/\E (.ref C) none H'
section
variable {P : Program} {w : World} {outer : List Env} {H H' : Hp} {s s' : Shared} {B h2 : Heap} {a C : Addr}
theorem xB.hok2 (f:xB P w outer H s H' B a C s') (k:B.StaysIn h2):bY P w H' h2:=fun b u e=>
 (f.hok b u e).stay (fun c v hc q=>by
  rcases hc with z | z
  ·subst z; exact k _ _ (f.b2 _ _ _ e q)
  ·exact k _ _ (f.b2 _ _ _ z q)) (fun _ q=>q) fun _ _ q=>q
end
section
variable {P : Program} {w : World} {K : PySem.W.Frag} {mg : Str → Option Value} {base : Heap} {N : List Str} {qual : Str} {scope : Scope} {f : Addr} {cd : Value} {A : Around} {outer : List Env} {s₀ : Shared} {H₀ : Hp} {E₀ E₁ : XK}
theorem sL {pins:List (Addr × Obj)}{σ:St}{H:Hp}{s:Shared} (I:a6 (dN (fM P w) P w K mg base N qual scope f cd A outer s₀ H₀ E₀) pins σ H s) {b:Addr}{o:Obj} (e:s₀.heap.get? b=some o) (n:b ∉ c8 outer) :
  b ∉ c8 (envOfC qual scope s₀.heap.objs.size f cd :: outer):=fun z=>by
 rcases bg8.mp (I.stkSub b z) with y | y
 ·have l:=bi0 e
  have y:b=s₀.heap.objs.size:=y
  exact absurd l (by rw [y]; exact bo5 _)
 ·exact n y
theorem aI3 (hE:∀ c d H',E₁ c d H'->E₀ c d H'):o6 (fM P w) (dN (fM P w) P w K mg base N qual scope f cd A outer s₀ H₀ E₀) E₁:=by
 intro pins σ H s e s' I hx
 obtain ⟨H',B,a,C,e1,fl,q⟩:=hx
 subst e1
 have I':=I.call' fl.os fl.un fl.hok fl.bare (ch:=[]) (fun b z=>absurd z (by simp))
 obtain ⟨a0,fly⟩:=fl.fly
 refine wpAny_leaves_onW I.ok.frames rfl fly fun h' fly' up=>?_
 have slot:∀ b o,s₀.heap.get? b=some o->b ∈ c8 outer->∃ sl,h'.get? b=some { o with slots:=sl }:=fun b o e hb=>by
  obtain ⟨sl,e1⟩:=I'.base.slot b o e (I.ok.frf b hb) hb (fun z=>nomatch z)
  obtain ⟨_,o2,e2,nf⟩:=I.ok.funs.mem hb
  rw [show (dN (fM P w) P w K mg base N qual scope f cd A outer s₀ H₀ E₀).s₀=s₀ from rfl,e] at e2
  cases e2
  obtain ⟨sl',e3⟩:=up b _ e1 nf
  exact⟨sl',e3⟩
 have old:∀ b o,s₀.heap.get? b=some o->H₀ b=none->b ∉ c8 outer->B.get? b=some o:=fun b o e n hb=>
  fl.b1 b o (I.base.keep b o e n hb (fun z=>nomatch z)) (I.base.free b o e n (fun z=>nomatch z)) (sL I e hb)
 have old0:∀ b o,s₀.heap.get? b=some o->b ∉ c8 outer->∃ o',B.get? b=some o':=fun b o e hb=>by
  obtain ⟨o1,e1⟩:=I.base.there b o e (fun z=>nomatch z)
  exact fl.b0 b o1 e1 (sL I e hb)
 refine⟨H',B,a,C,rfl,⟨I'.os,I'.bare,⟨fun b o e n hb _=>fly'.1 _ _ (old b o e n hb),fun b o e n hb _=>slot b o e hb,fun b o e n hx=>I'.base.free b o e n hx,fun b o e _=>?_,I'.base.tups,I'.base.frzs,I'.base.tbls⟩,fl.hok2 fly'.1,⟨a0,fly'⟩,old0,old,fun b u o e h=>?_⟩,hE _ _ _ q⟩
 ·by_cases hb:b ∈ c8 outer
  ·obtain ⟨sl,e1⟩:=slot b o e hb
   exact⟨_,e1⟩
  ·obtain ⟨o',e1⟩:=old0 b o e hb
   exact⟨o',fly'.1 _ _ e1⟩
 ·obtain ⟨ob,e1⟩:=(fl.hok b u e).at
  have e2:=fl.b2 b u ob e e1
  have e3:=fly'.1 _ _ e2
  have h:h'.get? b=some o:=h
  rw [h] at e3; cases e3; exact e2
theorem aI4 {pins:List (Addr × Obj)}{σ:St}{H:Hp}{s:Shared}{h':Heap}{e C:Addr}{args:List Value} (I:a6 (dN (fM P w) P w K mg base N qual scope f cd A outer s₀ H₀ E₀) pins σ H s) (mx:Heap.MadeExcOf s.heap h' e (.ref C) args) (q:E₀ (.ref C) none H) :
  (dN (fM P w) P w K mg base N qual scope f cd A outer s₀ H₀ E₀).xe (.ref e) { s with heap:=h' }:=by
 have tr:∀ b u,H b=some u->b ∉ c8 (envOfC qual scope s₀.heap.objs.size f cd :: outer):=fun b u z n=>by
  rw [I.stkFree b n] at z; cases z
 have inB:∀ b o,s.heap.get? b=some o->b ∉ c8 (envOfC qual scope s₀.heap.objs.size f cd :: outer)->(PySem.W.hideAll s.heap (c8 (envOfC qual scope s₀.heap.objs.size f cd :: outer))).get? b=some o:=fun b o z n=>PySem.W.hideAll_get _ z n
 refine wpAny_leaves_madeW (base:=PySem.W.hideAll s.heap (c8 (envOfC qual scope s₀.heap.objs.size f cd :: outer))) I.ok.frames rfl (fun b o z=>PySem.W.of_hideAll _ z) (PySem.W.funFrames_hide I.stack fun env he b hb=>List.mem_filterMap.mpr ⟨env,he,hb⟩) mx fun h'' t fly _ _ up=>?_
 have slot:∀ b o,s₀.heap.get? b=some o->b ∈ c8 outer->∃ sl,h''.get? b=some { o with slots:=sl }:=fun b o e hb=>by
  obtain ⟨sl,e1⟩:=I.base.slot b o e (I.ok.frf b hb) hb (fun z=>nomatch z)
  obtain ⟨_,o2,e2,nf⟩:=I.ok.funs.mem hb
  rw [show (dN (fM P w) P w K mg base N qual scope f cd A outer s₀ H₀ E₀).s₀=s₀ from rfl,e] at e2
  cases e2
  obtain ⟨sl',e3⟩:=up b _ (mx.keeps _ _ e1) nf
  exact⟨sl',e3⟩
 have old:∀ b o,s₀.heap.get? b=some o->H₀ b=none->b ∉ c8 outer->(PySem.W.hideAll s.heap (c8 (envOfC qual scope s₀.heap.objs.size f cd :: outer))).get? b=some o:=fun b o e n hb=>
  inB b o (I.base.keep b o e n hb (fun z=>nomatch z)) (sL I e hb)
 have old0:∀ b o,s₀.heap.get? b=some o->b ∉ c8 outer->∃ o',(PySem.W.hideAll s.heap (c8 (envOfC qual scope s₀.heap.objs.size f cd :: outer))).get? b=some o':=fun b o e hb=>by
  obtain ⟨o1,e1⟩:=I.base.there b o e (fun z=>nomatch z)
  exact⟨o1,inB b o1 e1 (sL I e hb)⟩
 refine⟨H,_,e,C,rfl,⟨I.os,I.bare,⟨fun b o e n hb _=>fly.1 _ _ (old b o e n hb),fun b o e n hb _=>slot b o e hb,fun b o e n hx=>I.base.free b o e n hx,fun b o e _=>?_,I.base.tups,I.base.frzs,I.base.tbls⟩,fun b u z=>?_,⟨_,fly⟩,old0,old,fun b u o z h=>?_⟩,q⟩
 ·by_cases hb:b ∈ c8 outer
  ·obtain ⟨sl,e1⟩:=slot b o e hb
   exact⟨_,e1⟩
  ·obtain ⟨o',e1⟩:=old0 b o e hb
   exact⟨o',fly.1 _ _ e1⟩
 ·refine (I.hok b u z).stay (fun c v hc y=>?_) (fun _ y=>y) fun _ _ y=>y
  rcases hc with z' | z'
  ·subst z'; exact fly.1 _ _ (inB _ _ y (tr _ _ z))
  ·exact fly.1 _ _ (inB _ _ y (tr _ _ z'))
 ·obtain ⟨ob,e1⟩:=(I.hok b u z).at
  have e2:=inB b ob e1 (tr b u z)
  have e3:=fly.1 _ _ e2
  have h:h''.get? b=some o:=h
  rw [h] at e3; cases e3; exact e2
end
structure nI (X:Cx) (E:XK):Prop where
 pass:o6 (fM X.prog X.w) X E
 made:∀ (pins:List (Addr × Obj)) (σ:St) (H:Hp) (s:Shared) (h':Heap) (e C:Addr) (args:List Value),a6 X pins σ H s->Heap.MadeExcOf s.heap h' e (.ref C) args->E (.ref C) none H->X.xe (.ref e) { s with heap:=h' }
 own:PassesOwn (model X.prog X.w) X.A X.env X.xe
theorem aI5 {P:Program}{w:World}{K:PySem.W.Frag}{mg:Str->Option Value}{base:Heap}{N:List Str}{qual:Str}{scope:Scope}{f:Addr}{cd:Value}{A:Around}{outer:List Env}{s₀:Shared}{H₀:Hp}{E₀ E₁:XK} (hE:∀ c d H',E₁ c d H'->E₀ c d H') :
  nI (dN (fM P w) P w K mg base N qual scope f cd A outer s₀ H₀ E₀) E₁:=
 ⟨aI3 hE,fun _ _ _ _ _ _ _ _ I mx q=>aI4 I mx (hE _ _ _ q),PassesOwn.leaving⟩
noncomputable def V2 (E:XK) (C:Addr) (t:TA):TS:=fun _ σ H=>t σ H fun vs H1=>vs.length<=sizeLine/\E (.ref C) none H1
theorem aI6 {X:Cx}{E:XK}{x:Str}{C:Addr}{bm:List Value}{B newId initId:String}{np cpos pos:Pos}{e:Expr}{es:List Expr}{t:TA} (hX:nI X E) (hc:X.calm=true) (O:OwnCls x C bm newId X.mg X.base) (FB:ExcBaseFacts B newId initId bm) (ha:PA X (e :: es) t) (hg:Gl X x)
  (hd:(x == ("__debug__" : Str))=false:=by decide) (he:starEach (e :: es) X.env=(false,eval e X.env) :: starEach es X.env:=by rfl) (hpl:(backTo cpos (starEach es X.env)).any (·.1)=false:=by rfl) :
  PS X (.Raise (some (.Call (.Name x np) (e :: es) [] cpos)) none pos) (V2 E C t):=by
 intro pins s σ H D I h
 obtain ⟨tl,Na,nm,qn,bs,hx,sn,sub,ab,col,dd,k0,k1,k2,k3,k5,mN,hC,hN,hni,T⟩:=O.obj
 refine wpAny_Raise_call_subT (nm:=nm) (q:=qn) (N:=Na) (bs:=bs) (bm:=tl) (hdct:=hx) (sn:=sn) (sub:=sub) (ab:=ab) (col:=col) (dd:=dd) (k0:=k0) (k1:=k1) (k2:=k2) (k3:=k3) (k5:=k5) FB (C:=C) (mN:=mN) (T.hasType FB.hasBase) (I.ok.hd hc) (by rw [he]; show (false || (backTo cpos (starEach es X.env)).any (·.1))=false; rw [hpl]; rfl) hni (zR I hg O.bound ⟨rfl,?_⟩ hd)
 have h1:=ha cpos pins s σ H _ I h
 rw [he] at h1 ⊢
 refine Calls.evalArgs_plain (bq7 h1 (fun us s2 h2=>?_) fun _ _ y=>y)
 obtain ⟨vs,H2,I2,r,hl,q⟩:=h2
 have r:aM vs us:=r
 exact⟨rfl,by show us.length<=sizeLine; rw [<- r.length]; exact hl,I2.bk _ _ hC,hN.keeps I2.bk,T.keeps I2.bk,fun h' e' mx=>hX.made pins σ H2 s2 h' e' C _ I2 mx q⟩
theorem fH.okX {P:Program}{w:World}{K:PySem.W.Frag}{mg:Str->Option Value}{base:Heap}{x qual:Str}{st:Stmt}{f:Addr}{fd:FuncData}{N ps:List Str}{k:Nat}{sp:Sp} (F:fH K x qual st f fd) (S:FnScope N ps (aX st)) (len:∀ vs H Q E,sp vs H Q E->vs.length=ps.length)
  (hbody:∀ (cdv:Value) (A:Around) (outer:List Env) (s:Shared) (H:Hp) (vs:List V) (Q:VK) (E:XK),cA k (A.deeper (envOfC qual (aX st) s.heap.objs.size f cdv))->sp vs H Q E->
   ∃ t,eU (dN (fM P w) P w K mg base N qual (aX st) f cdv A outer s H E) (fG st) t/\t { nx:=fun _ H'=>Q .non H',rt:=Q } (start N vs) H):cP P w K mg base (fM P w) (k+1) f fd ps sp:=by
 obtain ⟨oc,od,kV,doc,pm,an,cdv,ct,osl,rfl,lk,hcd⟩:=F.ex
 exact C9 lk hcd S len fun A outer s H vs Q E hr hsp=>hbody cdv A outer s H vs Q E hr hsp
section
variable {X : Cx} {pins : List (Addr × Obj)} {σ : St} {H H1 H' : Hp} {s s1 s' : Shared} {B h2 : Heap} {a C : Addr}
noncomputable abbrev Cx.suite (X:Cx) (a:Addr):Cx:={ X with A:=X.A.mark (some (.ref a)),calm:=false,xe:=fun _ _=>False }
end
noncomputable abbrev TB:=cY->XK->St->Hp->Prop
section
variable {X : Cx}
noncomputable def V3:V->List V->Hp->VK->Prop:=fun x vs H Q=>∃ l xs y,∃ k:Nat,x = .ref l/\vs = [.int k,y]/\H l=some (.lst xs)/\k<=xs.length/\xs.length < sizeLine/\Q .non (upd H l (.lst (xs.take k ++ y :: xs.drop k)))
theorem aI7:mK X "list.insert" V3:=by
 intro pins s σ H x vs v us Q I rx rv h
 obtain ⟨l,xs,y,k,rfl,rfl,hH,hk,hz,q⟩:=h
 obtain ⟨u1,u2,rfl,⟨t,rfl⟩,r2⟩:=rv.two
 obtain rfl:v=Value.ref l:=rx
 obtain ⟨z,its,n,r,hl,e⟩:=I.lstM hH
 have hs:sizeLine=16777216:=sizeLine_eq
 obtain ⟨x,hx⟩:∃ x:Int,x=(k:Int):=⟨_,rfl⟩
 rw [<- hx]
 have hf : ¬(!Builtin.List.listFitsIndex x)=true:=by
  have h1:Builtin.List.listFitsIndex x=true:=by
   unfold Builtin.List.listFitsIndex
   rw [bj9]
   exact⟨bg2 (by omega),bg2 (by omega)⟩
  rw [h1]; exact bi5
 have hz2:its.toArray.size<=sizeLine:=by rw [bh0]; omega
 refine call_meets PySem.F.slot_list_insert ⟨_,e,rfl⟩ PySem.F.entry_list_insert (PySem.F.args_list_insert_3 _ _ _) (AutoSeq1.list_insert_list_int_val_1 l its.toArray n x t u2 hf hz2) ⟨e,.non,_,?_,rfl,q⟩
 refine I.lset (its':=its.take k ++ u2 :: its.drop k) hH e ?_ ((r.take k).append (.cons r2 (r.drop k))) ?_
 ·have e1:(if x < 0 then (x+(its.toArray.size:Int)).toNat else min x.toNat its.toArray.size)=k:=by
   rw [if_neg (by omega),bh0]
   omega
  dsimp only
  rw [e1]
  apply Array.toList_inj.mp
  simp only [bo0,Array.toList_push,Array.toList_extract,List.extract_eq_drop_take]
  simp
  rw [bj3 (by rw [bp0]; omega)]
 ·rw [bh6,bi9,bn2,bp0]
  omega
end
end L2
namespace Core
open PySem L2 PP
noncomputable def iV (ns:List Int):Bool:=((ns.zip (ns.drop 1)).map fun p=>decide (p.1 < p.2)).all id
theorem pM {α β:Type}{l:List α}{f:α->β}{i:Nat}{x:α} (h:l[i]? = some x):(l.take (i+1)).map f=(l.take i).map f ++ [f x]:=by
 rw [bn6,h]; simp
theorem fA:∀ {ns:List Int},iV ns=true->ns.Pairwise (· < ·)
 | [],_=>.nil
 | [x],_=>bj4 _ _
 | x :: y :: r,h=>by
  have e:iV (x :: y :: r)=(decide (x < y) && iV (y :: r)):=rfl
  rw [e,bj9] at h
  have ih:=fA h.2
  refine bq8.mpr ⟨fun z hz=>?_,ih⟩
  rcases bg8.mp hz with rfl | hz
  ·exact bl6 h.1
  ·exact Int.lt_trans (bl6 h.1) (List.rel_of_pairwise_cons ih hz)
theorem sM:∀ {ns:List Int},ns.Pairwise (· < ·)->iV ns=true
 | [],_=>rfl
 | [x],_=>rfl
 | x :: y :: r,h=>by
  have e:iV (x :: y :: r)=(decide (x < y) && iV (y :: r)):=rfl
  have h':=bq8.mp h
  rw [e,sM h'.2,bu6]
  exact bg2 (h'.1 y bg7)
noncomputable def kin (ws:List Int) (ls:List (Int × Int)) (S:List Int) (h:Int):Bool:=!decide (h ∈ S) && decide (ws.getD h.toNat 0<=(((aH ls h).filter fun x=>decide (x ∈ S)).length:Int))
noncomputable def nextOf (ws:List Int) (ls:List (Int × Int)) (S:List Int):List Int:=((List.range ws.length).map fun (i:Nat)=>(i:Int)).filter (kin ws ls S)
noncomputable def bD (ws:List Int) (ls:List (Int × Int)) (S:List Int):Nat->List Int
 | 0=>S
 | k+1=>bD ws ls S k ++ nextOf ws ls (bD ws ls S k)
noncomputable def cold (ws:List Int) (S:List Int):Nat:=(((List.range ws.length).map fun (i:Nat)=>(i:Int)).filter fun x=>!decide (x ∈ S)).length
theorem xC {α:Type} (p q:α->Bool) (h:∀ x,q x=true->p x=false):∀ L:List α,(L.filter fun x=>!p x && !q x).length+(L.filter q).length=(L.filter fun x=>!p x).length
 | []=>rfl
 | x :: r=>by
  have ih:=xC p q h r
  cases e1:p x with
  | true=>
   have e2:q x=false:=by
    cases e:q x with
    | false=>rfl
    | true=>have:=h x e; rw [e1] at this; cases this
   simp only [bt1,e1,e2,Bool.not_true,Bool.false_and,bj7,bp8]
   exact ih
  | false=>
   cases e2:q x with
   | true=>
    simp only [bt1,e1,e2,Bool.not_true,Bool.not_false,bv2,bj7,bp8,if_true,bi9]
    omega
   | false=>
    simp only [bt1,e1,e2,Bool.not_false,bu6,bj7,bp8,if_true,bi9]
    omega
theorem xE {ws:List Int}{ls:List (Int × Int)}{S:List Int}{x:Int} (h:kin ws ls S x=true):decide (x ∈ S)=false:=by
 unfold kin at h
 cases e:decide (x ∈ S) with
 | false=>rfl
 | true=>rw [e] at h; cases h
theorem xF (ws:List Int) (ls:List (Int × Int)) (S:List Int):cold ws (S ++ nextOf ws ls S)+(nextOf ws ls S).length=cold ws S:=by
 have e:=xC (fun x=>decide (x ∈ S)) (kin ws ls S) (fun x h=>xE h) ((List.range ws.length).map fun (i:Nat)=>(i:Int))
 unfold cold
 rw [<- e]
 congr 2
 refine br7 fun x hx=>?_
 have:decide (x ∈ S ++ nextOf ws ls S)=(decide (x ∈ S) || kin ws ls S x):=by
  rw [bl8]
  unfold nextOf
  simp only [bk2,bh4,bh8,Bool.or_eq_true]
  exact⟨fun z=>z.elim .inl fun z=>.inr z.2,fun z=>z.elim .inl fun z=>.inr ⟨hx,z⟩⟩
 rw [this]
 cases decide (x ∈ S) <;> cases kin ws ls S x <;> rfl
theorem aI8 (ws:List Int) (S:List Int):cold ws S<=ws.length:=by
 unfold cold
 refine bl1 (bm4 _ _) ?_
 rw [bg5,bt8]; exact bg9 _
theorem aI9 (ws:List Int) (ls:List (Int × Int)) (S:List Int):(nextOf ws ls S).length<=ws.length:=by
 unfold nextOf
 refine bl1 (bm4 _ _) ?_
 rw [bg5,bt8]; exact bg9 _
noncomputable def after (ws:List Int) (ls:List (Int × Int)) (S:List Int) (m:Nat):List (List Int):=(List.range m).map fun k=>nextOf ws ls (bD ws ls S k)
theorem V4 (ws:List Int) (ls:List (Int × Int)) (S:List Int) (m:Nat):after ws ls S (m+1)=after ws ls S m ++ [nextOf ws ls (bD ws ls S m)]:=by
 unfold after
 rw [List.range_succ,bi3]; rfl
theorem V5 (ws:List Int) (ls:List (Int × Int)) (ns:List Int):∀ k,(bD ws ls ns k).length+cold ws (bD ws ls ns k)=ns.length+cold ws ns
 | 0=>rfl
 | k+1=>by
  have ih:=V5 ws ls ns k
  have cs:=xF ws ls (bD ws ls ns k)
  show (bD ws ls ns k ++ nextOf ws ls (bD ws ls ns k)).length+cold ws (bD ws ls ns k ++ nextOf ws ls (bD ws ls ns k))=_
  rw [bh6]; omega
theorem V6 {ws ns:List Int} (hu:ns.Pairwise (· < ·)) (hin:∀ x ∈ ns,0<=x/\x < (ws.length:Int)):ns.length+cold ws ns<=ws.length:=by
 have nd:ns.Nodup:=hu.imp fun h=>bq5 h
 have sub:ns ⊆ ((List.range ws.length).map fun (i:Nat)=>(i:Int)).filter fun x=>decide (x ∈ ns):=fun x hx=>by
  refine bh8.mpr ⟨bi4.mpr ⟨x.toNat,List.mem_range.mpr ?_,?_⟩,bg2 hx⟩
  ·have:=hin x hx; omega
  ·have:=hin x hx; omega
 have h1:=nd.length_le_of_subset sub
 have h2:=xC (fun _=>false) (fun x=>decide (x ∈ ns)) (fun _ _=>rfl) ((List.range ws.length).map fun (i:Nat)=>(i:Int))
 have h3:(((List.range ws.length).map fun (i:Nat)=>(i:Int)).filter fun x=>!false && !decide (x ∈ ns)).length=cold ws ns:=rfl
 have h4:(((List.range ws.length).map fun (i:Nat)=>(i:Int)).filter fun x=>!false).length<=ws.length:=by
  refine bl1 (bm4 _ _) ?_
  rw [bg5,bt8]; exact bg9 _
 rw [h3] at h2
 omega
theorem xG (ws:List Int) (ls:List (Int × Int)) (ns:List Int):∀ m,(ns :: after ws ls ns m).flatten=bD ws ls ns m
 | 0=>by simp [after,bD]
 | m+1=>by
  rw [V4,<- List.cons_append,List.flatten_append,xG ws ls ns m]
  simp [bD]
noncomputable def cY (ws:List Int) (ls:List (Int × Int)) (ns:List Int) (m:Nat):Prop:=(∀ k < m,nextOf ws ls (bD ws ls ns k) ≠ [])/\nextOf ws ls (bD ws ls ns m) = []
theorem V7 {ws:List Int}{ls:List (Int × Int)}{ns:List Int}:∀ (m:Nat),(∀ k < m,nextOf ws ls (bD ws ls ns k) ≠ [])->m+cold ws (bD ws ls ns m)<=ws.length
 | 0,_=>by have:=aI8 ws ns; show 0+cold ws ns<=_; omega
 | m+1,h=>by
  have ih:=V7 m fun k hk=>h k (by omega)
  have cs:=xF ws ls (bD ws ls ns m)
  have:1<=(nextOf ws ls (bD ws ls ns m)).length:=by
   cases e:nextOf ws ls (bD ws ls ns m) with
   | nil=>exact absurd e (h m (by omega))
   | cons _ _=>exact Nat.succ_le_succ (bl0 _)
  show m+1+cold ws (bD ws ls ns m ++ nextOf ws ls (bD ws ls ns m))<=_
  omega
theorem gD {ns:List Int}{i:Nat}{x:PV} (h:(intz ns)[i]? = some x):∃ n,x = .int n/\ns[i]? = some n:=by
 rw [bh5] at h
 cases e:ns[i]? with
 | none=>rw [e] at h; cases h
 | some n=>rw [e] at h; exact⟨n,(bj0 h).symm,rfl⟩
theorem k7 {lo:Int}{n i:Nat}{x:PV} (h:(dW lo n)[i]? = some x):x = .int (lo+i)/\i < n:=by
 have hi:i < n:=by
  have:=(bh2.mp h).1
  rwa [eW] at this
 rw [w9 hi] at h
 exact⟨(bj0 h).symm,hi⟩
noncomputable def rng (n:Nat):List Int:=(List.range n).map fun (i:Nat)=>(i:Int)
theorem cX (n:Nat):(rng n).length=n:=by unfold rng; rw [bg5,bt8]
theorem nJ {n i:Nat} (h:i < n):(rng n)[i]? = some (i:Int):=by unfold rng; rw [bh5,List.getElem?_range h]; rfl
theorem dL {n:Nat}{x:Int}:x ∈ rng n ↔ 0<=x/\x < (n:Int):=by
 unfold rng
 rw [bi4]
 constructor
 ·rintro ⟨i,hi,rfl⟩
  have:=List.mem_range.mp hi
  omega
 ·intro h
  exact⟨x.toNat,List.mem_range.mpr (by omega),by omega⟩
theorem k8 {α:Type}{l:List α}{p:α->Bool}{i:Nat}{x:α} (h:l[i]? = some x):(l.take (i+1)).filter p=(l.take i).filter p ++ (if p x=true then [x] else []):=by
 rw [bn6,h,List.filter_append]
 congr 1
 cases e:p x <;> simp [e]
theorem fS (a b:List Int):intz (a ++ b)=intz a ++ intz b:=bi3
theorem bA (a:List Int):(intz a).length=a.length:=bg5 _
noncomputable def b9 (ws:List Int) (ls:List (Int × Int)):PV:=.tup [.tup (intz ws),.tup (ls.map fun l=>.tup [.int l.1,.int l.2])]
structure Wb (ws:List Int) (ls:List (Int × Int)):Prop where
 few:ws.length<=40
 most:ls.length<=1700
 links:∀ l ∈ ls,(0<=l.1/\l.1 < ws.length)/\0<=l.2/\l.2 < ws.length
noncomputable def dD (x:PV) (ns:List Int):Prop:=x = .tup (intz ns) ∨ x = .lst (intz ns)
theorem dD.seq {x:PV}{ns:List Int} (h:dD x ns):lS x=some (intz ns):=by rcases h with rfl | rfl <;> rfl
theorem dD.seqT {x:PV}{ns:List Int} (h:dD x ns):seqT x=some (intz ns):=by rcases h with rfl | rfl <;> rfl
theorem xH:∀ (ls:List (Int × Int)),flats (ls.map fun l=>PV.tup [.int l.1,.int l.2])=true
 | []=>rfl
 | l :: r=>by
  show (flat (.tup [.int l.1,.int l.2]) && flats (r.map fun l=>PV.tup [.int l.1,.int l.2]))=true
  rw [xH r]; rfl
theorem xI (ws:List Int) (ls:List (Int × Int)):flat (b9 ws ls)=true:=by
 show flats [.tup (intz ws),.tup (ls.map fun l=>PV.tup [.int l.1,.int l.2])]=true
 show (flat (.tup (intz ws)) && (flat (.tup (ls.map fun l=>PV.tup [.int l.1,.int l.2])) && true))=true
 show (flats (intz ws) && (flats (ls.map fun l=>PV.tup [.int l.1,.int l.2]) && true))=true
 rw [c6,xH]; rfl
theorem xJ (ns:List Int):flat (.tup (intz ns))=true:=c6 ns
noncomputable def iB:bK:=fun xs Q=>∃ ws ls,xs = [b9 ws ls]/\Q (.int ws.length)
noncomputable def V8:aR:=(bP (aC cS (a7 (bI (a5 0) (qC (.int 0))) a9)))
noncomputable abbrev cC (t:aR) (N:List Str) (p:bK):Prop:=∀ xs Q,p xs Q->t { nx:=fun _=>Q .non,rt:=Q } (gC N xs)
theorem aJ0:cC V8 ["web"] iB:=by
 rintro xs Q ⟨ws,ls,rfl,q⟩
 refine⟨_,rfl,_,_,_,rfl,rfl,rfl,_,_,rfl,rfl,trivial,?_⟩
 rw [bA]; exact q
noncomputable def xK:bK:=fun xs Q=>∃ x ns,xs = [x]/\dD x ns/\ns.length<=1000/\Q (.bl (iV ns))
noncomputable def inB (n:Nat) (x:Int):Bool:=decide (0<=x) && decide (x < (n:Int))
noncomputable def sN:bK:=fun xs Q=>∃ ws ls n,xs = [b9 ws ls,.int n]/\Q (.bl (inB ws.length n))
noncomputable def V9:aR:=(bP (oP (wH (a5 1) (qC (.int 0))) (p6 (a5 1) (aC iB (a7 (a5 0) a9)))))
theorem aJ1:cC V9 ["web","number"] sN:=by
 rintro xs Q ⟨ws,ls,n,rfl,q⟩
 refine⟨_,rfl,_,_,rfl,rfl,_,rfl,?_⟩
 unfold inB at q
 by_cases h:(0:Int)<=n
 ·rw [bg2 h] at q ⊢
  refine bE ⟨_,rfl,_,rfl,ws,ls,rfl,_,_,rfl,rfl,trivial,?_⟩
  simpa using q
 ·rw [bg4 h] at q ⊢
  exact bB ⟨trivial,by simpa using q⟩
noncomputable def aW (n:Nat) (ns:List Int):Bool:=iV ns && (ns.map (inB n)).all id
noncomputable def l6:bK:=fun xs Q=>∃ ws ls x ns,xs = [b9 ws ls,x]/\dD x ns/\ns.length<=1000/\Q (.bl (aW ws.length ns))
noncomputable def W0:aR:=(bP (oP (aC xK (a7 (a5 1) a9)) (aC vZ (a7 (cU (cT (a5 1)) [none,some 0] (bR 0) eY (aC sN (a7 (a5 1) (a7 (a5 0) a9)))) a9))))
theorem pN {x:PV}{ns:List Int} (h:dD x ns):(Slot.sh (flat x) x).tag = .rd->flat x=true:=by
 cases flat x <;> intro z <;> cases z
theorem aJ2:cC W0 ["web","numbers"] l6:=by
 rintro xs Q ⟨ws,ls,x,ns,rfl,hx,hl,q⟩
 refine⟨_,rfl,x,ns,rfl,hx,hl,_,rfl,?_⟩
 unfold aW at q
 cases h:iV ns with
 | false=>rw [h] at q; exact bB ⟨trivial,q⟩
 | true=>
  rw [h] at q
  refine bE ⟨_,rfl,_,hx.seq,pN hx,by rw [bA]; omega,fun i acc=>acc=(((ns.take i).map (inB ws.length)).map PV.bl),rfl,?_,?_⟩
  ·rintro i y acc hy rfl
   obtain ⟨n,rfl,hn⟩:=gD hy
   have tk:((ns.take (i+1)).map (inB ws.length)).map PV.bl=((ns.take i).map (inB ws.length)).map PV.bl ++ [PV.bl (inB ws.length n)]:=by rw [pM hn,bi3]; rfl
   exact⟨_,rfl,_,rfl,ws,ls,n,rfl,trivial,tk.symm⟩
  ·rintro acc rfl
   rw [bA,bn4]
   exact⟨_,rfl,trivial,by simpa using q⟩
theorem dD.noscr {x:PV}{ns:List Int} (h:dD x ns):∀ ms,([x]:List PV) ≠ [.scr ms]:=by
 rcases h with rfl | rfl <;> intro ms z <;> cases z
structure DS (ps:List (aB × PV)) (S:List Int):Prop where
 has:∀ i:Int,(bM ps (Sum.inl i:aB)).isSome=decide (i ∈ S)
 len:ps.length<=S.length
 fl:flats (ps.map (·.2))=true
theorem DS.nil:DS [] []:=⟨fun i=>rfl,bg9 _,rfl⟩
section
variable {κ : Type} [DecidableEq κ]
theorem aJ3 {k:κ}:bM ([]:List (κ × PV)) k=none:=rfl
theorem iW {p:κ × PV}{r:List (κ × PV)}{k:κ} (e:p.1=k):bM (p :: r) k=some p.2:=by simp [bM,bs0,e]
theorem iC {p:κ × PV}{r:List (κ × PV)}{k:κ} (e : ¬ p.1=k):bM (p :: r) k=bM r k:=by simp [bM,bs0,e]
theorem sO (k:κ):∀ kvs:List (κ × PV),(kvs.any fun kv=>decide (kv.1=k))=(bM kvs k).isSome
 | []=>rfl
 | p :: r=>by
  rw [List.any_cons]
  by_cases e:p.1=k
  ·simp only [iW e,bg2 e,Bool.true_or,Option.isSome_some]
  ·rw [iC e,bg4 e,Bool.false_or]; exact sO k r
theorem W5 (k j:κ) (y:PV):∀ kvs:List (κ × PV),bM (kvs.map fun kv=>if kv.1=k then (kv.1,y) else kv) j=(bM kvs j).map fun x=>if j=k then y else x
 | []=>rfl
 | p :: r=>by
  have ih:=W5 k j y r
  rw [bl3]
  by_cases h:p.1=k
  ·rw [if_pos h]
   by_cases e:p.1=j
   ·rw [iW (p:=(p.1,y)) e,iW e,Option.map_some,if_pos (e.symm.trans h)]
   ·rw [iC (p:=(p.1,y)) e,iC e,ih]
  ·rw [if_neg h]
   by_cases e:p.1=j
   ·rw [iW (p:=p) e,iW e,Option.map_some,if_neg (fun z=>h (e.trans z))]
   ·rw [iC (p:=p) e,iC e,ih]
theorem W6 (k j:κ) (y:PV):∀ kvs:List (κ × PV),bM kvs k=none->bM (kvs ++ [(k,y)]) j=if j=k then some y else bM kvs j
 | [],_=>by
  by_cases e:k=j
  ·rw [if_pos e.symm]; exact iW (p:=(k,y)) e
  ·rw [if_neg (fun z=>e z.symm)]; exact iC (p:=(k,y)) e
 | p :: r,hn=>by
  rw [List.cons_append]
  have hk : ¬ p.1=k:=fun z=>by rw [iW z] at hn; cases hn
  rw [iC hk] at hn
  have ih:=W6 k j y r hn
  by_cases e:p.1=j
  ·rw [iW e,iW e,if_neg (fun z=>hk (e.trans z))]
  ·rw [iC e,iC e,ih]
theorem W7 (kvs:List (κ × PV)) (k j:κ) (y:PV):bM (dO kvs k y) j=if j=k then some y else bM kvs j:=by
 unfold dO
 by_cases a:(kvs.any fun kv=>decide (kv.1=k))=true
 ·rw [if_pos a,W5]
  rw [sO] at a
  by_cases e:j=k
  ·obtain ⟨x,hx⟩:=Option.isSome_iff_exists.mp a
   rw [if_pos e,e,hx,Option.map_some,if_pos rfl]
  ·rw [if_neg e]
   cases bM kvs j with
   | none=>rfl
   | some x=>rw [Option.map_some,if_neg e]
 ·rw [if_neg a]
  refine W6 k j y kvs ?_
  rw [sO] at a
  cases q:bM kvs k with
  | none=>rfl
  | some x=>rw [q] at a; exact (a rfl).elim
theorem W8 (kvs:List (κ × PV)) (k:κ) (v:PV):(dO kvs k v).length<=kvs.length+1:=by
 unfold dO
 split
 ·rw [bg5]; omega
 ·rw [bh6,bi9,List.length_nil]; omega
end
theorem xM:∀ (xs:List PV),flats xs=true ↔ ∀ x ∈ xs,flat x=true
 | []=>by simp [flats]
 | x :: r=>by
  unfold flats
  rw [bj9,xM r]; simp
theorem aJ4 {κ:Type} [DecidableEq κ] {ps:List (κ × PV)}{k:κ}{v:PV}{p:κ × PV} (h:p ∈ dO ps k v):p.2=v ∨ p ∈ ps:=by
 unfold dO at h
 split at h
 ·obtain ⟨q,hq,e⟩:=bi4.mp h
  split at e
  ·subst e; exact .inl rfl
  ·subst e; exact .inr hq
 ·rcases bh4.mp h with h | h
  ·exact .inr h
  ·rw [bh1.mp h]; exact .inl rfl
theorem W9 {κ:Type} [DecidableEq κ] {ps:List (κ × PV)}{k:κ}{v:PV} (h:flats (ps.map (·.2))=true) (hv:flat v=true):flats ((dO ps k v).map (·.2))=true:=by
 rw [xM] at h ⊢
 intro x hx
 obtain ⟨p,hp,rfl⟩:=bi4.mp hx
 rcases aJ4 hp with e | e
 ·rw [e]; exact hv
 ·exact h _ (bi4.mpr ⟨p,e,rfl⟩)
theorem DS.put {ps:List (aB × PV)}{S:List Int} (h:DS ps S) (x:Int) (v:PV) (hv:flat v=true):DS (dO ps (Sum.inl x:aB) v) (S ++ [x]):=by
 refine⟨fun i=>?_,?_,W9 h.fl hv⟩
 ·rw [W7]
  by_cases e:i=x
  ·subst e; rw [if_pos rfl]; simp
  ·rw [if_neg (fun z=>e (Sum.inl.inj z)),h.has]
   simp [e]
 ·have:=W8 ps (Sum.inl x:aB) v
  have:=h.len
  rw [bh6,bk5]; omega
theorem DS.merge {S:List Int}:∀ {mp ps:List (aB × PV)}{T:List Int},DS ps S->DS mp T->DS (iA ps mp) (S ++ T):=by
 have key:∀ (mp:List (aB × PV)) {ps:List (aB × PV)} (i:Int),(bM (iA ps mp) (Sum.inl i:aB)).isSome=((bM ps (Sum.inl i:aB)).isSome || (bM mp (Sum.inl i:aB)).isSome):=fun mp=>by
  induction mp with
  | nil=>intro ps i; show (bM ps (Sum.inl i:aB)).isSome=_; rw [aJ3]; simp
  | cons p r ih=>
   intro ps i
   show (bM (iA (dO ps p.1 p.2) r) (Sum.inl i:aB)).isSome=_
   rw [ih,W7]
   by_cases e:(Sum.inl i:aB)=p.1
   ·rw [if_pos e,iW e.symm]; simp
   ·rw [if_neg e,iC (Ne.symm e)]
 have keyl:∀ (mp:List (aB × PV)) {ps:List (aB × PV)},(iA ps mp).length<=ps.length+mp.length:=fun mp=>by
  induction mp with
  | nil=>intro ps; exact bg9 _
  | cons p r ih=>
   intro ps
   have h1:=ih (ps:=dO ps p.1 p.2)
   have h2:=W8 ps p.1 p.2
   show (iA (dO ps p.1 p.2) r).length<=_
   rw [bi9]; omega
 have keyf:∀ (mp:List (aB × PV)) {ps:List (aB × PV)},flats (ps.map (·.2))=true->flats (mp.map (·.2))=true->flats ((iA ps mp).map (·.2))=true:=fun mp=>by
  induction mp with
  | nil=>intro ps h _; exact h
  | cons p r ih=>
   intro ps h g
   have g:(flat p.2 && flats (r.map (·.2)))=true:=g
   rw [bj9] at g
   exact ih (ps:=dO ps p.1 p.2) (W9 h g.1) g.2
 intro mp ps T h g
 refine⟨fun i=>?_,?_,keyf mp h.fl g.fl⟩
 ·rw [key,h.has,g.has,bl8]; simp
 ·have:=keyl mp (ps:=ps)
  have:=h.len
  have:=g.len
  rw [bh6]; omega
noncomputable def gU:bK:=fun xs Q=>∃ x ns,xs = [x]/\dD x ns/\ns.length<=1000/\∀ ps,DS ps ns->Q (.dK ps)
noncomputable def X0:aR:=(aF (dA 1 (qC (.dK [])))
 (aF (eB (cT (a5 0)) (bR 2)
  (mY 1 (a5 2) (qC (.bl true))))
 (jV 1)))
theorem aJ5:cC X0 ["hearths","inside","hearth"] gU:=by
 rintro xs Q ⟨x,ns,rfl,hx,hl,q⟩
 refine⟨rfl,rfl,_,rfl,_,hx.seq,pN hx,fun i ρ=>∃ y ps,ρ = [some (.sh (flat x) x),some (.own (.dK ps)),y]/\DS ps (ns.take i),⟨none,[],rfl,DS.nil⟩,?_,?_⟩
 ·rintro i y ρ hy ⟨y0,ps,rfl,d⟩
  obtain ⟨n,rfl,hn⟩:=gD hy
  have hlen:=d.len
  rw [bn2] at hlen
  refine⟨_,rfl,_,rfl,Sum.inl n,rfl,trivial,by omega,_,_,rfl,?_⟩
  rw [bn6,hn]
  exact d.put n _ rfl
 ·rintro ρ ⟨y,ps,rfl,d⟩
  rw [bA,bn4] at d
  exact⟨_,rfl,trivial,q ps d⟩
noncomputable def l7:bK:=fun xs Q=>∃ x ns ps S,xs = [x,.dK ps]/\dD x ns/\DS ps S/\ns.length<=10000/\Q (.int ((ns.filter fun x=>decide (x ∈ S)).length:Nat))
noncomputable def X1:aR:=(bP (aC cS (a7 (cU (cT (a5 0)) [none,some 1] (bR 0) (bC (iR false (a5 0) (a5 1))) (a5 0)) a9)))
theorem aJ6:cC X1 ["hearths","inside"] l7:=by
 rintro xs Q ⟨x,ns,ps,S,rfl,hx,d,hl,q⟩
 refine⟨_,rfl,_,hx.seq,pN hx,by rw [bA]; omega,fun i acc=>acc=intz ((ns.take i).filter fun x=>decide (x ∈ S)),rfl,?_,?_⟩
 ·rintro i y acc hy rfl
  obtain ⟨n,rfl,hn⟩:=gD hy
  have tk:=k8 (p:=fun x=>decide (x ∈ S)) hn
  refine⟨_,rfl,_,rfl,_,.inl ⟨ps,Sum.inl n,rfl,rfl,rfl⟩,_,rfl,?_⟩
  show if (bM ps (Sum.inl n:aB)).isSome=true then _ else _
  rw [d.has n]
  by_cases h:n ∈ S
  ·rw [bg2 h] at tk ⊢
   refine bE ⟨_,rfl,trivial,?_⟩
   rw [if_pos rfl] at tk
   show _=intz (List.filter _ (List.take (i+1) ns))
   rw [tk,fS]; rfl
  ·rw [bg4 h] at tk ⊢
   refine bB ?_
   rw [if_neg (by decide),bk4] at tk
   show _=intz (List.filter _ (List.take (i+1) ns))
   rw [tk]
 ·rintro acc rfl
  rw [bA,bn4]
  refine⟨_,_,rfl,rfl,trivial,?_⟩
  rw [bA]; exact q
noncomputable def cK (n:Nat) (ls:List (Int × Int)):List PV:=(List.range n).map fun (k:Nat)=>PV.lst (intz (aH ls k))
noncomputable def gV:bK:=fun xs Q=>∃ ws ls,xs = [b9 ws ls]/\Wb ws ls/\Q (.lst (cK ws.length ls))
theorem pO {n:Nat}{ls:List (Int × Int)}{h:Int} (h0:0<=h) (h1:h < (n:Int)):atI (cK n ls) h=some (.lst (intz (aH ls h))):=by
 refine lO h0 ?_
 unfold cK
 rw [bh5,List.getElem?_range (by omega)]
 show some (PV.lst (intz (aH ls ((h.toNat:Nat):Int))))=_
 rw [show ((h.toNat:Nat):Int)=h by omega]
noncomputable def sP:bK:=fun xs Q=>∃ ws ls ps S h,xs = [b9 ws ls,.lst (cK ws.length ls),.dK ps,.int h]/\Wb ws ls/\DS ps S/\0<=h/\h < (ws.length:Int)/\Q (.bl (kin ws ls S h))
noncomputable def X2:aR:=(bP (oP (iR true (a5 3) (a5 2)) (wH (aC l7 (a7 (bI (a5 1) (a5 3)) (a7 (a5 2) a9))) (bI (bI (a5 0) (qC (.int 0))) (a5 3)))))
theorem sQ {ws:List Int}{h:Int} (h0:0<=h) (h1:h < (ws.length:Int)):atI (intz ws) h=some (.int (ws.getD h.toNat 0)):=by
 refine lO h0 ?_
 have:h.toNat < ws.length:=by omega
 rw [bh5,bi1,bg3 this]; rfl
theorem aJ7:cC X2 ["web","around","burning","hearth"] sP:=by
 rintro xs Q ⟨ws,ls,ps,S,h,rfl,wb,d,h0,h1,q⟩
 refine⟨_,rfl,_,rfl,_,.inl ⟨ps,Sum.inl h,rfl,rfl,rfl⟩,_,rfl,?_⟩
 show if (!(bM ps (Sum.inl h:aB)).isSome)=true then _ else _
 rw [d.has h]
 unfold kin at q
 by_cases hm:h ∈ S
 ·rw [bg2 hm] at q ⊢
  exact bB ⟨trivial,by simpa using q⟩
 ·rw [bg4 hm] at q ⊢
  have nl:=lN ls h
  have:=wb.most
  refine bE ⟨_,rfl,_,rfl,_,_,_,rfl,rfl,pO h0 h1,_,rfl,_,aH ls h,ps,S,rfl,.inr rfl,d,by omega,_,rfl,_,_,_,rfl,rfl,rfl,_,rfl,_,_,_,rfl,rfl,sQ h0 h1,_,_,rfl,rfl,trivial,?_⟩
  simpa using q
noncomputable def pP:bK:=fun xs Q=>∃ ws ls ps S,xs = [b9 ws ls,.lst (cK ws.length ls),.dK ps]/\Wb ws ls/\DS ps S/\Q (.tup (intz (nextOf ws ls S)))
noncomputable def X3:aR:=(bP (aC fQ (a7 (cU (jW (aC iB (a7 (a5 0) a9))) [none,some 0,some 1,some 2] (bR 0) (bC (aC sP (a7 (a5 1) (a7 (a5 2) (a7 (a5 3) (a7 (a5 0) a9)))))) (a5 0)) a9)))
theorem aJ8:cC X3 ["web","around","burning"] pP:=by
 rintro xs Q ⟨ws,ls,ps,S,rfl,wb,d,q⟩
 have few:=wb.few
 refine⟨_,rfl,ws,ls,rfl,_,rfl,by omega,by omega,by rw [eW]; omega,fun i acc=>acc=intz (((rng ws.length).take i).filter (kin ws ls S)),rfl,?_,?_⟩
 ·rintro i y acc hy rfl
  obtain ⟨rfl,hi⟩:=k7 hy
  have hi':i < ws.length:=by omega
  have tk:=k8 (p:=kin ws ls S) (nJ hi')
  have e0:(0:Int)+(i:Int)=(i:Int):=by omega
  refine⟨_,rfl,_,rfl,_,rfl,_,rfl,ws,ls,ps,S,_,rfl,wb,d,by omega,by omega,_,rfl,?_⟩
  show if kin ws ls S ((0:Int)+(i:Int))=true then _ else _
  rw [e0]
  cases h:kin ws ls S (i:Int) with
  | true=>
   refine bE ⟨_,rfl,trivial,?_⟩
   rw [h,if_pos rfl] at tk
   show _=intz (List.filter _ (List.take (i+1) _))
   rw [tk,fS]
   show _ ++ [PV.int _]=_
   rfl
  | false=>
   refine bB ?_
   rw [h,if_neg (by decide),bk4] at tk
   show _=intz (List.filter _ (List.take (i+1) _))
   rw [tk]
 ·rintro acc rfl
  rw [eW,bj3 (by rw [cX]; omega)]
  exact⟨⟨_,_,rfl,rfl,c6 _,trivial,q⟩,fun ns z=>by cases z⟩
noncomputable def tups (rs:List (List Int)):List PV:=rs.map fun r=>PV.tup (intz r)
theorem aJ9 {rs:List (List Int)}{i:Nat}{x:PV} (h:(tups rs)[i]? = some x):∃ r,x = .tup (intz r)/\rs[i]? = some r:=by
 unfold tups at h
 rw [bh5] at h
 cases e:rs[i]? with
 | none=>rw [e] at h; cases h
 | some n=>rw [e] at h; exact⟨n,(bj0 h).symm,rfl⟩
theorem k9 (rs:List (List Int)):(tups rs).length=rs.length:=bg5 _
theorem nK:∀ (rs:List (List Int)),flats (tups rs)=true
 | []=>rfl
 | r :: t=>by
  show (flat (.tup (intz r)) && flats (tups t))=true
  rw [xJ,nK t]; rfl
theorem cL {n:Nat}{ns:List Int} (h:aW n ns=true):iV ns=true/\∀ x ∈ ns,0<=x/\x < (n:Int):=by
 unfold aW at h
 rw [bj9,bq0] at h
 refine⟨h.1,fun x hx=>?_⟩
 have:=h.2 _ (bi4.mpr ⟨x,hx,rfl⟩)
 unfold inB at this
 simpa using this
theorem iX {n:Nat}{ns:List Int} (h:aW n ns=true):ns.length<=n:=by
 obtain ⟨h1,h2⟩:=cL h
 have:=V6 (ws:=List.replicate n (0:Int)) (fA h1) (by rw [bv6]; exact h2)
 rw [bv6] at this
 omega
theorem xN {ws:List Int}{ls:List (Int × Int)}{ns:List Int} (h:aW ws.length ns=true) (k:Nat):(bD ws ls ns k).length<=ws.length:=by
 have h1:=V5 ws ls ns k
 have h2:=V6 (fA (cL h).1) (cL h).2
 omega
end Core
namespace PP
open PySem L2
noncomputable def xO (te:aG):aG:=fun ρ Q=>te ρ fun x _=>∃ n:Int,x = .int n/\0<=n/\n<=1000000/\Q (.lst (dW 0 n.toNat)) .fr
end PP
namespace Core
open PySem L2 PP
theorem aK0 (g:Tg) (n:Int):Nw g (.int n):=by cases g <;> first | exact trivial | rfl
noncomputable def pQ (x:PV) (ns:List Int):Prop:=x = .scr ns ∨ x = .lst (intz ns)
theorem pQ.seq {x:PV}{ns:List Int} (h:pQ x ns):lS x=some (intz ns):=by rcases h with rfl | rfl <;> rfl
theorem pQ.len {x:PV}{ns:List Int} (h:pQ x ns):vY x=some ns.length:=by
 rcases h with rfl | rfl
 ·rfl
 ·show some (intz ns).length=_
  rw [bA]
noncomputable def iD:bK:=fun xs Q=>∃ x ns k,xs = [x,.int k]/\pQ x ns/\0<=k/\Q (.int (ns.getD k.toNat 0))
noncomputable def X4:aR:=(aF (cR (bC (p6 (a5 1) (aC cS (a7 (a5 0) a9)))) (bP (bI (a5 0) (a5 1))) cZ)
 (bP (qC (.int 0))))
theorem aK1:cC X4 ["script","k"] iD:=by
 rintro xs Q ⟨x,ns,k,rfl,hx,h0,q⟩
 refine⟨_,rfl,_,rfl,_,_,rfl,hx.len,_,_,rfl,rfl,_,rfl,?_⟩
 by_cases h:k < (ns.length:Int)
 ·rw [bg2 h]
  exact bE ⟨_,rfl,_,rfl,_,_,_,hx.seq,rfl,sQ h0 h,aK0 _ _,q⟩
 ·rw [bg4 h]
  rw [bi1,bv7 (by omega)] at q
  exact bB ⟨trivial,q⟩
noncomputable def cH (ls:List (Int × Int)):List PV:=ls.map fun l=>PV.tup [.int l.1,.int l.2]
noncomputable def kA (l m:Int × Int):Prop:=l.1 < m.1 ∨ (l.1=m.1/\l.2 < m.2)
noncomputable abbrev si (n:Int):Option Slot:=some (.sh true (.int n))
theorem dD.len {x:PV}{ns:List Int} (h:dD x ns):vY x=some ns.length:=by
 rcases h with rfl | rfl <;> (show some (intz ns).length=_; rw [bA])
end Core
namespace PP
open PySem L2 PyProof.Rows
theorem Reps.rep {K:PySem.W.Frag}{M:Addr->Prop}{H:Hp}{us:List V}{xs:List PV} (r:Reps K M H us xs):∀ k:Nat,Reps K M H (List.replicate k us).flatten (List.replicate k xs).flatten
 | 0=>.nil
 | k+1=>by rw [bq1,bq1,br6,br6]; exact r.append (Reps.rep r k)
section
variable {X : Cx} {a b e : Expr} {ta tb te : aG} {tr : dG} {pos p2 p3 pos2 : Pos}
theorem X5 {tA:TA} (hg:Gl X "range") (hm:X.mg "range" = none) (ha:PA X [a] tA) (hs:starEach [a] X.env = [(false,eval a X.env)]:=by rfl) :
  PE X (.Call (.Name "range" p2) [a] [] pos) (fun σ H Q=>tA σ H fun vs H1=>∃ j:Int,vs = [.int j]/\∀ r,H1 r=none->Q (.ref r) (upd H1 r (.rng 0 j))):=by
 intro pins s σ H Q I h
 refine Call_ (jL I hg hm boot_range (bn0 (aN (ha pos pins s σ H _ I h) fun us s1 ⟨vs,H1,I1,r1,q1⟩=>?_) hs rfl))
 obtain ⟨j,e,q⟩:=q1
 subst e
 cases r1 with
 | cons r rr=>
  cases rr
  obtain ⟨t,rfl⟩:=r
  refine call_range_1 ?_
  exact⟨.ref s1.heap.objs.size,_,I1.laid (o:=.rng 0 j) (fun b ob q=>bg1 _ q) (bg9 _) ⟨_,_,_,bi8 _ rfl⟩,rfl,q _ (I1.hok.fresh (bg9 _))⟩
theorem X6:∀ {xs:List V}{us:List Value},xs.length=us.length->(∀ (i:Nat) x u,xs[i]? = some x->us[i]? = some u->aV x u)->aM xs us
 | [],[],_,_=>.nil
 | x :: xs,u :: us,hl,h=>.cons (h 0 x u rfl rfl) (X6 (by simpa using hl) fun i y w h1 h2=>h (i+1) y w (by rw [bq6]; exact h1) (by rw [bq6]; exact h2))
theorem X7 {n:Nat}{acc:Array Value} (h:ItemsOf (fun i v=>∃ t,v = .int (0+(i:Int) * 1) t) acc n):aM (i5 0 n) acc.toList:=by
 obtain ⟨h1,h2⟩:=h
 refine X6 (by rw [qX]; simp [h1]) fun i x u hx hu=>?_
 have hi:i < n:=by
  have:=(bh2.mp hx).1
  rwa [qX] at this
 unfold i5 at hx
 rw [bh5,List.getElem?_range hi] at hx
 cases hx
 obtain ⟨t,rfl⟩:=h2 i u (by rw [<- bo7]; exact hu)
 exact⟨t,by congr 1; omega⟩
theorem aK2 (hc:X.calm=true):dQ X (.type "list") (fun xs H Q=>∃ r j,xs = [.ref r]/\H r=some (.rng 0 j)/\0<=j/\j<=1000000/\∀ l,H l=none->Q (.ref l) (upd H l (.lst (i5 0 j.toNat)))):=by
 intro pins s σ H xs us Q I r h
 obtain ⟨p,j,rfl,hq,h0,h1,q⟩:=h
 obtain ⟨u,rfl,rx⟩:=jA r
 cases rx
 obtain ⟨t,u,v,ho⟩:=(show cE X.prog X.w H s.heap p (.rng 0 j) from I.hok p _ hq)
 refine PySem.call_list_range (a:=0) (b:=j) (c:=1) (n:=j.toNat) (I.ok.hd hc) ho (small_one (by decide) (by decide) (by omega) (by omega)) (by rw [rangeSize_one]; split <;> omega) (by omega) fun h' tk acc' c' kp e it=>?_
 have vv:=X7 it
 have eq:acc'.toList.toArray=acc':=by simp
 exact⟨.ref s.heap.objs.size,_,I.laid (t':=tk) (o:=.lst (i5 0 j.toNat)) kp (bg9 _) ⟨by rw [qX]; exact lim (by omega),acc'.toList,c',vv,by rw [eq]; exact e⟩,rfl,q _ (I.hok.fresh (bg9 _))⟩
theorem X8 {K:PySem.W.Frag}{M:Addr->Prop}{H:Hp} (lo:Int) (n:Nat):Reps K M H (i5 lo n) (dW lo n):=by
 unfold i5 dW
 generalize List.range n=l
 induction l with
 | nil=>exact .nil
 | cons a r ih=>exact .cons (.int _) ih
theorem X9 (B:Bt X.mg) (ha:QE X a ta) (hc:X.calm=true:=by rfl) (hg:Gl X "list":=by rfl) (hgr:Gl X "range":=by rfl) (hs:starEach [a] X.env = [(false,eval a X.env)]:=by rfl)
  (he:starEach [.Call (.Name "range" p3) [a] [] pos2] X.env=(false,eval (.Call (.Name "range" p3) [a] [] pos2) X.env) :: starEach [] X.env:=by rfl) (hpl:(backTo pos (starEach [] X.env)).any (·.1)=false:=by rfl) :
  QE X (.Call (.Name "list" p2) [.Call (.Name "range" p3) [a] [] pos2] [] pos) (xO ta):=
 cG (uR (aK2 hc) hg B.list PyProof.Rows.boot_list (cO (X5 hgr B.range (cO ha dF hs) hs) dF he) (he:=he) (hpl:=hpl)) fun σ H Q' h=>by
  obtain ⟨W,ρ,Q,px,q,k⟩:=h
  refine⟨W,ρ,_,px,q,?_⟩
  rintro v H1 x g s r ⟨n,rfl,h0,h1,q⟩
  cases r
  refine⟨n,rfl,fun r hr=>⟨r,n,rfl,bL,h0,h1,fun l hl=>?_⟩⟩
  have S:aD H (upd (upd H1 r (.rng 0 n)) l (.lst (i5 0 n.toNat))):=(s.trans (bN hr _)).trans (bN hl _)
  exact k _ _ _ .fr S (.lst (((s.trans (bN hr _))).free hl) bL (X8 0 n.toNat)) q
noncomputable def xP:V->Int
 | .int i=>i
 | _=>0
noncomputable def m6 (H:Hp):V->List Int
 | .ref a=>match H a with
  | some (.tup us)=>us.map xP
  | _=>[]
 | _=>[]
theorem aK3 {H:Hp}{a:Addr}{ns:List Int} (h:H a=some (.tup (ns.map V.int))):m6 H (.ref a)=ns:=by
 show (match H a with | some (.tup us)=>us.map xP | _=>[])=ns
 rw [h]
 show (ns.map V.int).map xP=ns
 rw [bo8]
 exact List.map_id _
theorem Y0 {K:PySem.W.Frag}{M:Addr->Prop}{H:Hp}:∀ {us:List V}{ys:List (List Int)},Reps K M H us (ys.map fun r=>PV.tup (intz r))->us.map (m6 H)=ys/\∀ u ∈ us,∃ b,u = .ref b/\H b=some (.tup ((m6 H u).map V.int))
 | _,[],.nil=>⟨rfl,fun u h=>nomatch h⟩
 | _,y :: ys,.cons r t=>by
  obtain ⟨a,us,rfl,h,r1⟩:=r.sqT
  obtain rfl:=r1.ofInts
  obtain ⟨h1,h2⟩:=Y0 t
  have hk:=aK3 h
  refine⟨by rw [bl3,h1,hk],fun u hu=>?_⟩
  rcases bg8.mp hu with rfl | hu
  ·exact⟨a,rfl,by rw [hk]; exact h⟩
  ·exact h2 u hu
theorem Y1 {K:PySem.W.Frag}{M:Addr->Prop}{H:Hp}:∀ {us:List V},(∀ u ∈ us,∃ b,u = .ref b/\H b=some (.tup ((m6 H u).map V.int)))->Reps K M H us ((us.map (m6 H)).map fun r=>PV.tup (intz r))
 | [],_=>.nil
 | u :: us,h=>by
  obtain ⟨b,rfl,hb⟩:=h u bg7
  exact .cons (.tup hb (Reps.intz _)) (Y1 fun v hv=>h v (bg6 _ hv))
end
noncomputable def Y2 (K:PySem.W.Frag):Sp:=fun vs H Q _=>∃ (a:Addr) (ns:List Int),vs = [.ref a]/\(aQ K H a (ns.map V.int) ∨ aK K H a (ns.map V.int))/\ns.length<=1000/\∀ H',aD H H'->Q (.bl (Core.iV ns)) H'
noncomputable def sR:Sp:=fun vs H Q _=>∃ v ws ls,vs = [v]/\L6 H v ws ls/\ws.length<=1000/\ls.length<=2000/\(∀ l ∈ ls,(0<=l.1/\l.1 < ws.length)/\0<=l.2/\l.2 < ws.length)/\
 ∀ (r:Addr) (bs:List Addr) (H':Hp),bs.length=ws.length->iL H H' r bs (fun k=>aH ls k)->Q (.ref r) H'
section
variable {P : Program} {w : World} {K : PySem.W.Frag} {mg : Str → Option Value} {base : Heap} {f : Addr} {fd : FuncData} {k : Nat}
theorem aK4 (F:cP P w K mg base dR k f fd ["things"] (Y2 K)) (b:jB K fd ["things"] []) (kp:PySem.W.keepIn K (.ref f)=true) (m:mg "rises" = some (.ref f)):Df P w K mg base k "rises" ["things"] Core.xK:=by
 refine⟨f,fd,F.imp fun vs H Q E h=>?_,b,kp,m⟩
 obtain ⟨xs,Qp,r,⟨x,ns,rfl,hx,hl,q⟩,k⟩:=h
 obtain ⟨v,rfl,r1⟩:=r.one
 rcases hx with rfl | rfl
 ·obtain ⟨a,us,rfl,h,r2⟩:=r1.sqT
  obtain rfl:=r2.ofInts
  exact⟨a,ns,rfl,.inl (aQ.of h),hl,fun H' s=>k _ H' _ s (.bl _) q⟩
 ·obtain ⟨a,us,rfl,_,h,r2⟩:=r1.sqL
  obtain rfl:=r2.ofInts
  exact⟨a,ns,rfl,.inr (aK.of h),hl,fun H' s=>k _ H' _ s (.bl _) q⟩
theorem r6 {M:Addr->Prop}{H:Hp}:∀ {us:List V}{ls:List (Int × Int)},Reps K M H us (ls.map fun l=>PV.tup [.int l.1,.int l.2])->mQ H us ls
 | _,[],.nil=>.nil
 | _,l :: ls,.cons r t=>by
  obtain ⟨a,us,rfl,h,r1⟩:=r.sqT
  obtain ⟨u1,u2,rfl,q1,q2⟩:=r1.two
  cases q1; cases q2
  exact .cons ⟨a,rfl,h⟩ (r6 t)
theorem Y3 {M:Addr->Prop}{H:Hp}{v:V}{ws:List Int}{ls:List (Int × Int)} (r:aE K M H v (Core.b9 ws ls)):L6 H v ws ls:=by
 obtain ⟨a,us,rfl,h,r1⟩:=aE.sqT r
 obtain ⟨u1,u2,rfl,q1,q2⟩:=r1.two
 obtain ⟨p,up,rfl,hp,rp⟩:=q1.sqT
 obtain ⟨q,uq,rfl,hq,rq⟩:=q2.sqT
 obtain rfl:=rp.ofInts
 exact⟨a,p,q,uq,rfl,h,hp,hq,r6 rq⟩
theorem xQ {M:Addr->Prop}{H:Hp}:∀ {bs:List Addr}{ls:List (Int × Int)} (off:Nat),(∀ b ∈ bs,M b)->(∀ (k:Nat) b,bs[k]? = some b->H b=some (.lst ((aH ls ((off+k:Nat):Int)).map V.int)))->Reps K M H (bs.map V.ref) ((List.range' off bs.length).map fun (k:Nat)=>PV.lst (intz (aH ls k)))
 | [],_,_,_,_=>.nil
 | b :: bs,ls,off,hm,h=>by
  refine .cons (.lst (hm b bg7) (h 0 b rfl) (Reps.intz _)) (xQ (off+1) (fun c hc=>hm c (bg6 _ hc)) fun k c hk=>?_)
  have:=h (k+1) c (by rw [bq6]; exact hk)
  rw [show off+1+k=off+(k+1) by omega]; exact this
theorem aK5 (F:cP P w K mg base dR k f fd ["web"] sR) (b:jB K fd ["web"] []) (kp:PySem.W.keepIn K (.ref f)=true) (m:mg "near_lists" = some (.ref f)):Df P w K mg base k "near_lists" ["web"] Core.gV:=by
 refine⟨f,fd,F.imp fun vs H Q E h=>?_,b,kp,m⟩
 obtain ⟨xs,Qp,r,⟨ws,ls,rfl,wb,q⟩,k⟩:=h
 obtain ⟨v,rfl,r1⟩:=r.one
 have:=wb.few
 have:=wb.most
 refine⟨v,ws,ls,rfl,Y3 r1,by omega,by omega,wb.links,fun t bs H' hb R=>k _ H' _ R.same (.lst R.new R.row ?_) q⟩
 have:=xQ (K:=K) (M:=fun a=>H a=none) (H:=H') (bs:=bs) (ls:=ls) 0 (fun b hb=>(R.news b hb).1) fun k b hk=>by rw [Nat.zero_add]; exact R.rows k b hk
 rw [hb,<- List.range_eq_range'] at this
 exact this
end
end PP
namespace Core
open PySem L2 PP
theorem aK6 (n:Nat):dW 0 n=intz (rng n):=by
 unfold dW rng
 show _=List.map PV.int (List.map (fun (i:Nat)=>(i:Int)) (List.range n))
 rw [bo8]
 refine List.map_congr_left fun i _=>?_
 show PV.int (0+(i:Int))=PV.int (i:Int)
 rw [Int.zero_add]
theorem Y4 (n:Nat):(rng n).Nodup:=by
 unfold rng
 rw [List.nodup_iff_pairwise_ne,bp3]
 exact (List.nodup_range (n:=n)).imp fun h e=>h (by omega)
noncomputable def two (l:Int × Int):List Int:=[l.1,l.2]
noncomputable def pR (r:List Int):Int × Int:=(r.getD 0 0,r.getD 1 0)
theorem Y5 (ls:List (Int × Int)):cH ls=(ls.map two).map fun r=>PV.tup (intz r):=by
 unfold cH
 rw [bo8]; rfl
theorem aK7 {zs:List (List Int)}{ls:List (Int × Int)} (h:zs.Perm (ls.map two)):∃ ls':List (Int × Int),zs=ls'.map two/\ls'.Perm ls:=by
 refine⟨zs.map pR,?_,?_⟩
 ·rw [bo8]
  have:∀ z ∈ zs,(two ∘ pR) z=z:=fun z hz=>by
   obtain ⟨l,_,rfl⟩:=bi4.mp (h.mem_iff.mp hz)
   rfl
  rw [List.map_congr_left this,List.map_id']
 ·have:=h.map pR
  rw [bo8] at this
  have e:ls.map (pR ∘ two)=ls:=by
   have:∀ l ∈ ls,(pR ∘ two) l=id l:=fun l _=>rfl
   rw [List.map_congr_left this,List.map_id]
  rw [e] at this
  exact this
theorem aK8 {ls:List (Int × Int)} (so:(ls.map two).Pairwise fun u v=>HT.iJ v u=false) (nd:ls.Nodup):ls.Pairwise kA:=by
 rw [bp3] at so
 refine (List.pairwise_and_iff.mpr ⟨so,nd⟩).imp fun {a b} h=>?_
 obtain ⟨h1,h2⟩:=h
 unfold two at h1
 rw [HT.o7] at h1
 unfold kA
 by_cases e:b.1=a.1
 ·rw [if_pos e,HT.o7] at h1
  by_cases e2:b.2=a.2
  ·exact absurd (Prod.ext e.symm e2.symm) h2
  ·rw [if_neg e2] at h1
   have:=of_decide_eq_false h1
   omega
 ·rw [if_neg e] at h1
  have:=of_decide_eq_false h1
  omega
structure eO (i:Int) (ms:List Int):Prop where
 up:ms.Pairwise (· < ·)
 inn:∀ x ∈ ms,0<=x/\x < i
 len:(ms.length:Int)<=i
theorem eO.nil:eO 0 []:=⟨.nil,(fun _ h=>nomatch h),bq2 _⟩
theorem eO.skip {i:Nat}{ms:List Int} (h:eO (i:Int) ms):eO ((i+1:Nat):Int) ms:=⟨h.up,fun x hx=>by have:=h.inn x hx; omega,by have:=h.len; omega⟩
theorem eO.set {n:Nat}{ms:List Int} (h:eO (n:Int) ms):aW n ms=true:=by
 unfold aW
 rw [sM h.up,Bool.true_and,bq0]
 intro b hb
 obtain ⟨x,hx,rfl⟩:=bi4.mp hb
 have:=h.inn x hx
 unfold inB
 simp [this]
noncomputable def fB (n:Nat) (S:List Int):List PV:=(rng n).map fun i=>PV.bl (decide (i ∈ S))
theorem nL (n:Nat) (S:List Int):(fB n S).length=n:=by unfold fB; rw [bg5,cX]
theorem Y6 {n:Nat}{S:List Int}{x:Int} (h0:0<=x) (h1:x < (n:Int)):atI (fB n S) x=some (.bl (decide (x ∈ S))):=by
 refine lO h0 ?_
 unfold fB
 rw [bh5,nJ (by omega)]
 show some (PV.bl (decide (((x.toNat:Nat):Int) ∈ S)))=_
 rw [show ((x.toNat:Nat):Int)=x by omega]
theorem aK9 {n:Nat}{S:List Int}{x:Int} (h0:0<=x) (h1:x < (n:Int)):(fB n S).set x.toNat (.bl true)=fB n (S ++ [x]):=by
 refine List.ext_getElem? fun i=>?_
 by_cases hi:i < n
 ·have e1:(fB n (S ++ [x]))[i]? = some (.bl (decide ((i:Int) ∈ S ++ [x]))):=by unfold fB; rw [bh5,nJ hi]; rfl
  rw [e1]
  by_cases e:i=x.toNat
  ·subst e
   rw [bp5 (by rw [nL]; exact hi)]
   have:(((x.toNat:Nat):Int) ∈ S ++ [x]):=by rw [show ((x.toNat:Nat):Int)=x by omega]; simp
   rw [bg2 this]
  ·rw [bk8 (Ne.symm e)]
   unfold fB
   rw [bh5,nJ hi]
   have:decide ((i:Int) ∈ S ++ [x])=decide ((i:Int) ∈ S):=by
    rw [bl8]; simp; omega
   rw [this]; rfl
 ·rw [bv7 (by rw [bm7,nL]; omega),bv7 (by rw [nL]; omega)]
theorem Y7:∀ {a b:List Int},a.Perm b->a.Pairwise (· <= ·)->b.Pairwise (· <= ·)->a=b:=by
 intro a b h ha hb
 exact h.eq_of_pairwise (fun x y _ _ h1 h2=>Int.le_antisymm h1 h2) ha hb
noncomputable def Y8:bK:=fun xs Q=>∃ ns:List Int,xs = [.scr ns]/\ns.length<=63/\Q (.bl true)
end Core
namespace PP
open PySem L2 PyProof.Rows
theorem aL0 {P:Program}{w:World}{K:PySem.W.Frag}{mg:Str->Option Value}{base:Heap}{k:Nat}{x:Str}{ps N:List Str}{p:bK}{st:Stmt}{f:Addr}{fd:FuncData} (F:fH K x x st f fd) (S:FnScope N ps (aX st))
  (len:∀ xs Q,p xs Q->xs.length=ps.length)
  (body:∀ (cdv:Value) (A:Around) (outer:List Env) (s:Shared) (H:Hp) (E:XK),cA k (A.deeper (envOfC x (aX st) s.heap.objs.size f cdv))->
   ∃ t,fR (dN dR P w K mg base N x (aX st) f cdv A outer s H E).nox (fG st) t/\∀ xs Q,p xs Q->t { nx:=fun _=>Q .non,rt:=Q } (gC N xs)):cP P w K mg base dR (k+1) f fd ps (oU K p):=by
 refine F.ok S (fun vs H Q E h=>?_) (fun cdv A outer s H vs Q E hr h=>?_)
 ·obtain ⟨xs,Qp,r,q,_⟩:=h
  rw [r.length]; exact len xs Qp q
 ·obtain ⟨xs,Qp,r,q,k⟩:=h
  obtain ⟨t,ht,hq⟩:=body cdv A outer s H E hr
  refine⟨_,ht,fun _=>False,gC N xs,_,wT r,hq xs Qp q,?_,?_,?_,?_⟩
  ·exact fun W' σ' H' ρ' e px q=>k _ _ _ px.same .non q
  ·exact fun v H' x s r q=>k _ _ _ s r q
  ·exact fun W' σ' H' ρ' e px q=>q
  ·exact fun W' σ' H' ρ' e px q=>q
noncomputable def sS (K:PySem.W.Frag):Sp:=fun vs H Q _=>∃ (a:Addr) (ns:List Int),vs = [.ref a]/\jT K H a ns/\ns.length<=63/\∀ H',Q (.bl true) H'
theorem aL1 {P:Program}{w:World}{K:PySem.W.Frag}{mg:Str->Option Value}{base:Heap}{k:Nat}{f:Addr}{fd:FuncData} (F:cP P w K mg base dR k f fd ["script"] (oU K Core.Y8)):cP P w K mg base dR k f fd ["script"] (sS K):=
 F.imp fun vs H Q E h=>by
  obtain ⟨a,ns,rfl,hs,hl,q⟩:=h
  refine⟨[.scr ns],fun z=>z = .bl true,.cons (.scr hs) .nil,⟨ns,rfl,hl,rfl⟩,?_⟩
  rintro v H' x _ r rfl
  cases r
  exact q H'
theorem aL2 {K:PySem.W.Frag}{H:Hp}{a:Addr}{ns:List Int} (hO:qQ H) (h:aK K H a (ns.map V.int)):jT K H a ns:=by
 rcases h with (h | ⟨o,h⟩) | h
 ·rcases hO a with e | ⟨o,xs,e⟩ <;> (rw [h] at e; cases e)
 ·exact .inl ⟨o,h⟩
 ·exact .inr h
end PP
namespace PyProof.Rows
open PySem
end PyProof.Rows
namespace L2
open PySem PySem.Spec PyProof.Rows
noncomputable def xR (K:PySem.W.Frag) (a:Addr):It:=
  ⟨fun i H=>∃ xs x,aK K H a xs/\xs[i]? = some x,
   fun i H v H'=>∃ T x,H T=none/\v = .ref T/\H'=upd H T (.tup [.int i,x])/\∀ xs,aK K H a xs->xs[i]? = some x,
   fun i H=>∃ xs,aK K H a xs/\xs.length<=i⟩
structure aL3 (e it a:Addr) (i:Nat) (h:Heap):Prop where
 ee:∃ old,IsEnum h e it i old
 s1:h.IsListIter it a i
theorem aL4 {P:Program}{w:World}{K:PySem.W.Frag}{elts:List Expr}{k:Nat}{pos:Pos} (a e it:Addr) (d:e ≠ it) :
  iH P w K (.Tuple elts k pos) (xR K a) [e,it] e (aL3 e it a):=by
 refine⟨by simp,fun i h st c hc=>?_,fun i h h' st kp=>?_,?_,?_,fun A i s Q E st q=>?_⟩
 ·simp only [bg8,bi6,bm1] at hc
  obtain ⟨old,ee⟩:=st.ee
  obtain ⟨o1,f1,g1,d1⟩:=st.s1
  rcases hc with rfl | rfl
  ·exact⟨_,ee,fun v q=>by cases q⟩
  ·exact⟨_,f1,fun v q=>by rw [d1] at q; cases q⟩
 ·obtain ⟨old,ee⟩:=st.ee
  exact⟨⟨old,kp e (by simp) _ ee⟩,st.s1.at fun o z=>kp it (by simp) o z⟩
 ·intro X hP hw hK hc i pins s σ H E I hf st hg
  subst hP hw hK
  obtain ⟨xs,x,ha,hx⟩:=hg
  obtain ⟨us,ru,pu,lu⟩:=I.list ha
  obtain ⟨ux,eux,rux⟩:=ru.get hx
  obtain ⟨old,ee⟩:=st.ee
  refine wpAny_pyNext_enum_item ee st.s1 pu.isList (by simpa using eux) d fun h' eo it' pr sz kp=>⟨_,rfl,?_⟩
  refine wpAny_letOwnedTupleGo_enum (s:={ s with heap:=h',toks:=s.toks+1 }) eo fun g zz sb=>?_
  have hzl:e < s.heap.objs.size:=bi0 ee
  have up:∀ c o,c ≠ e->c ≠ it->s.heap.get? c=some o->g.get? c=some o:=fun c o c1 c2 z=>sb.extBut c o c1 (kp c o c1 c2 z)
  have hT:H s.heap.objs.size=none:=I.hok.fresh (bg9 _)
  have prG:g.get? s.heap.objs.size=some { cls:=.type "tuple",data:=.seq #[.int i s.toks,ux] }:=sb.extBut _ _ (bp6 hzl) pr
  have fpn:∀ c u,H c=some u->c ∉ [e,it]:=fun c u z hm=>by rw [(hf c hm).1] at z; cases z
  have upH:∀ c o u,H c=some u->s.heap.get? c=some o->g.get? c=some o:=fun c o u q z=>by
   have:=fpn c u q
   simp only [bg8,bi6,bm1,not_or] at this
   exact up c o this.1 this.2 z
  have ns:∀ m,s.heap.Ns X.env.locals m->g.Ns X.env.locals m:=fun m hm=>by
   obtain ⟨o,es,ep,e1,e2⟩:=hm
   exact⟨o,es,ep,up _ o (Ne.symm (hf e (by simp)).2.1) (Ne.symm (hf it (by simp)).2.1) e1,e2⟩
  have I2:a6 X pins σ (upd H s.heap.objs.size (.tup [.int i,x])) { s with heap:=g,toks:=s.toks+1 }:=by
   refine I.step (g':=s.gens) (d':=s.drawn) (ch:=[e,it]) (fun c hc'=>?_) (fun c o _ _ hc' z _=>?_) (fun c o _ _ hc' z _=>⟨o.slots,?_⟩) (fun c o _ z n=>?_) (fun c o hc' z=>⟨o,?_⟩)
    (fun c zs z=>by rw [aY (cI z hT)]; exact z) (fun c u zs z=>by rw [aY (cI z hT)]; exact z) (fun c ps z=>⟨#[],by rw [aY (cI z hT),z]; simp⟩) ns (fun c u z=>?_) I.bare
   ·exact⟨(hf c hc').2.2.2.1,(hf c hc').2.1,(hf c hc').2.2.2.2.1,(hf c hc').2.2.2.2.2⟩
   ·simp only [bg8,bi6,bm1,not_or] at hc'
    exact up c o hc'.1 hc'.2 z
   ·simp only [bg8,bi6,bm1,not_or] at hc'
    exact up c o hc'.1 hc'.2 z
   ·rw [aY (bk6 (bi0 z))]; exact n
   ·simp only [bg8,bi6,bm1,not_or] at hc'
    exact up c o hc'.1 hc'.2 z
   ·by_cases hcT:c=s.heap.objs.size
    ·subst hcT
     rw [bL] at z; cases z
     exact⟨by show 2<=sizeLine; decide,[.int i s.toks,ux],.cons ⟨_,rfl⟩ (.cons rux .nil),⟨_,prG,rfl,_,rfl⟩,fun u e=>by rw [prG] at e; cases e; rfl⟩
    ·rw [aY hcT] at z
     refine (I.hok c u z).stay (fun c' o' hc2 q'=>?_) (fun c' q'=>by rw [aY (cI q' hT)]; exact q') fun c' zs q'=>by rw [aY (cI q' hT)]; exact q'
     rcases hc2 with rfl | hc2
     ·exact upH _ _ _ z q'
     ·exact upH _ _ _ hc2 q'
  refine⟨.ref s.heap.objs.size,_,I2,rfl,⟨_,x,hT,rfl,rfl,fun xs' ha'=>?_⟩,⟨⟨ux,by push_cast; exact zz⟩,it'.at fun o z=>sb.extBut _ o (Ne.symm d) z⟩,fun c hc'=>?_⟩
  ·rw [I.list_inj ha' ha]; exact hx
  ·obtain ⟨o,z⟩:∃ o,s.heap.get? c=some o:=by
    simp only [bg8,bi6,bm1] at hc'
    obtain ⟨o1,f1,_⟩:=st.s1
    rcases hc' with rfl | rfl
    ·exact⟨_,ee⟩
    ·exact⟨_,f1⟩
   rw [aY (bk6 (bi0 z))]; exact (hf c hc').1
 ·intro X hP hw hK hc i pins s σ H E I hf st hg
  subst hP hw hK
  obtain ⟨xs,ha,hi⟩:=hg
  obtain ⟨us,ru,pu,lu⟩:=I.list ha
  obtain ⟨old,ee⟩:=st.ee
  have hh:X.A.handled=none:=I.ok.hd hc
  have e1:=ru.length
  refine wpAny_pyNext_enum_end hh ee st.s1 pu.isList (by rw [Array.getElem?_eq_none]; simp only [bh0]; omega) fun g kp=>⟨rfl,?_⟩
  have fpn:∀ c u,H c=some u->c ∉ [e,it]:=fun c u z hm=>by rw [(hf c hm).1] at z; cases z
  have upH:∀ c o u,H c=some u->s.heap.get? c=some o->g.get? c=some o:=fun c o u q z=>by
   have:=fpn c u q
   simp only [bg8,bi6,bm1,not_or] at this
   exact kp c o this.2 z
  have ns:∀ m,s.heap.Ns X.env.locals m->g.Ns X.env.locals m:=fun m hm=>by
   obtain ⟨o,es,ep,e1,e2⟩:=hm
   exact⟨o,es,ep,kp _ o (Ne.symm (hf it (by simp)).2.1) e1,e2⟩
  refine I.step (g':=s.gens) (d':=s.drawn) (ch:=[it]) (fun c hc'=>?_) (fun c o _ _ hc' z _=>?_) (fun c o _ _ hc' z _=>⟨o.slots,?_⟩) (fun c o _ z n=>n) (fun c o hc' z=>⟨o,?_⟩)
   (fun c zs z=>z) (fun c u zs z=>z) (fun c ps z=>⟨#[],by rw [z]; simp⟩) ns (fun c u z=>?_) I.bare
  ·have hm:c ∈ [e,it]:=bg6 _ hc'
   exact⟨(hf c hm).2.2.2.1,(hf c hm).2.1,(hf c hm).2.2.2.2.1,(hf c hm).2.2.2.2.2⟩
  ·exact kp c o (fun y=>hc' (by rw [y]; simp)) z
  ·exact kp c o (fun y=>hc' (by rw [y]; simp)) z
  ·exact kp c o (fun y=>hc' (by rw [y]; simp)) z
  ·refine (I.hok c u z).stay (fun c' o' hc2 q'=>?_) (fun _ q'=>q') fun _ _ q'=>q'
   rcases hc2 with rfl | hc2
   ·exact upH _ _ _ z q'
   ·exact upH _ _ _ hc2 q'
 ·obtain ⟨old,ee⟩:=st.ee
  exact wpAny_pyIter_enum ee q
end L2
namespace Zp
open PySem PyProof.Rows
section
variable {prog : Program} {w : World} {A : Around} {E : Value → Shared → Prop} {s : Shared}
theorem aL5 {e it t:Addr}{i:Nat}{items:Array Value}{x old:Value}{Q:Option Value->Shared->Prop} (he:IsEnum s.heap e it i old) (hi:s.heap.IsTupleIter it t i) (ht:s.heap.IsTuple t items) (hx:items[i]? = some x) (ne:e ≠ it)
  (q:∀ h',IsEnumOut h' e it ((i:Int)+1) x s.heap.objs.size->h'.IsTupleIter it t (i+1)->h'.get? s.heap.objs.size=some { cls:=.type "tuple",data:=.seq #[.int i s.toks,x] }->h'.objs.size=s.heap.objs.size+1->
   (∀ b o,b ≠ e->b ≠ it->s.heap.get? b=some o->h'.get? b=some o)->Q (some (.ref s.heap.objs.size)) { s with heap:=h',toks:=s.toks+1 }):wpAny (model prog w) A (pyNext (.ref e)) Q E s:=by
 have T:s.TypeIs (.ref e) "enumerate":=⟨_,he,rfl⟩
 have slot:=PySem.F.slot_enumerate_next
 unfold pyNext
 apply bg0
 apply wpAny_attempt
 apply bn9 (name:=Str.ofString "__next__") T slot
 apply bo2 slot T PySem.F.entry_enumerate_next _ (PySem.F.args_enumerate_next_1 _)
 change wpAny _ _ (field (.ref e) 2 >>= _) _ _ _
 apply bg0
 refine bn8 he rfl (x:=.ref it) rfl ?_
 apply bg0
 refine L8 hi ht hx fun g1 it1 sb1=>?_
 have e1:IsEnum g1 e it i old:=sb1.extBut _ _ ne he
 change wpAny _ _ (field (.ref e) 3 >>= _) _ _ _
 apply bg0
 refine bn8 e1 rfl (x:=rawInt i) rfl ?_
 change wpAny _ _ (field (.ref e) 4 >>= _) _ _ _
 apply bg0
 refine bn8 e1 rfl (x:=.none) rfl ?_
 change wpAny _ _ (mkInt i >>= _) _ _ _
 apply bg0
 refine wpAny_mkInt ?_
 change wpAny _ _ (setField (.ref e) 3 (rawInt ((i:Int)+1)) >>= _) _ _ _
 apply bg0
 refine bo6 e1 (by simp) fun g2 e2 sb2=>?_
 apply bg0
 refine bo6 e2 (by simp) fun g3 e3 sb3=>?_
 have e3:IsEnum g3 e it ((i:Int)+1) old:=e3
 apply bg0
 refine wpAny_newTuple ?_ (by show 2<=sizeLine; decide)
 have e4:IsEnum (g3.push { cls:=.type "tuple",data:=.seq #[.int i s.toks,x] }) e it ((i:Int)+1) old:=bg1 _ e3
 have size:g3.objs.size=s.heap.objs.size:=by rw [sb3.1,sb2.1,sb1.1]
 change wpAny _ _ (Builtin.SmallTypes.ownedTupleIsFree (.ref e) >>= _) _ _ _
 apply bg0
 unfold Builtin.SmallTypes.ownedTupleIsFree
 apply bg0
 refine bn8 e4 rfl (x:=.none) rfl (bh3 ?_)
 simp only [if_true]
 apply bg0
 apply bt0
 apply bg0
 refine bn8 e4 rfl (x:=old) rfl ?_
 apply bg0
 refine bo6 e4 (by simp) fun g5 e5 sb5=>?_
 apply bg0
 unfold Builtin.SmallTypes.ownedTupleHandOut
 apply bg0
 refine bo6 e5 (by simp) fun g6 e6 sb6=>?_
 refine bo6 e6 (by simp) fun g7 e7 sb7=>?_
 have e7:IsEnumOut g7 e it ((i:Int)+1) x g3.objs.size:=e7
 have elt:e < g3.objs.size:=bi0 e3
 have up:∀ c o,c ≠ e->(g3.push { cls:=.type "tuple",data:=.seq #[.int i s.toks,x] }).get? c=some o->g7.get? c=some o:=fun c o c1 z=>sb7.extBut c o c1 (sb6.extBut c o c1 (sb5.extBut c o c1 z))
 have up3:∀ c o,c ≠ e->g1.get? c=some o->g7.get? c=some o:=fun c o c1 z=>up c o c1 (bg1 _ (sb3.extBut c o c1 (sb2.extBut c o c1 z)))
 have p7:g7.get? g3.objs.size=some { cls:=.type "tuple",data:=.seq #[.int i s.toks,x] }:=up _ _ (bp6 elt) (bi8 _ rfl)
 have s7:g7.objs.size=g3.objs.size+1:=by rw [sb7.1,sb6.1,sb5.1,bs6]
 apply bg0
 apply wpAny_letGo
 apply bh3
 rw [size] at e7 p7 s7
 refine⟨_,rfl,bh3 ?_⟩
 change Q (some (.ref g3.objs.size)) _
 rw [size]
 exact q g7 e7 (it1.at fun o z=>up3 it o (Ne.symm ne) z) p7 s7 fun b o b1 b2 z=>up3 b o b1 (sb1.extBut b o b2 z)
theorem aL6 {e it t:Addr}{i:Nat}{items:Array Value}{old:Value}{Q:Option Value->Shared->Prop} (hh:A.handled=none) (he:IsEnum s.heap e it i old) (hi:s.heap.IsTupleIter it t i) (ht:s.heap.IsTuple t items) (hx:items[i]? = none)
  (q:∀ h',Heap.ExtBut it s.heap h'->Q none { s with heap:=h' }):wpAny (model prog w) A (pyNext (.ref e)) Q E s:=by
 have T:s.TypeIs (.ref e) "enumerate":=⟨_,he,rfl⟩
 have slot:=PySem.F.slot_enumerate_next
 unfold pyNext
 apply bg0
 apply wpAny_attempt
 apply bn9 (name:=Str.ofString "__next__") T slot
 apply bo2 slot T PySem.F.entry_enumerate_next _ (PySem.F.args_enumerate_next_1 _)
 change wpAny _ _ (field (.ref e) 2 >>= _) _ _ _
 apply bg0
 refine bn8 he rfl (x:=.ref it) rfl ?_
 apply bg0
 refine L9 hh hi ht hx fun g2 ex eb exo=>?_
 obtain ⟨oe,eo,co⟩:=exo
 apply bg0
 refine wpAny_isInstance (T:="StopIteration") (b:=true) ⟨oe,eo,co⟩ isSubtype_stop ?_
 exact bh3 (q g2 eb)
theorem aL7 {M:Model}{A:Around}{E:Value->Shared->Prop}{s:Shared}{α:Type}{c:Prop} [Decidable c] {m n:Sem α}{Q:α->Shared->Prop} (h1:wpAny M A m Q E s) (h2:wpAny M A n Q E s):wpAny M A (if c then m else n) Q E s:=by
 split
 ·exact h1
 ·exact h2
theorem aL8 (t:Addr) (xs:Array Value):Meets (Builtin.«enumerate.__new__» ⟨[.type "enumerate",.ref t],[]⟩) (fun _ R s=>s.heap.IsTuple t xs/\R (.ok (.ret (.ref (s.heap.objs.size+1)))) { s with heap:=(s.heap.push { cls:=.type "tuple_iterator",data:=.fields #[.ref t,.int 0 0] }).push { cls:=.type "enumerate",data:=.fields #[.none,.bool false,.ref s.heap.objs.size,rawInt 0,.none,.none] } }):=
 .of_wp fun prog w A R s h=>by
  obtain ⟨hp,g,d,tk,os⟩:=s
  obtain ⟨ht,h⟩:=h
  have sub:=sub_enumerate
  have a1:Heap.IsTuple (Shared.heap ⟨hp,g,d,tk,os⟩) t xs:=ht
  wp_walk using bu9 a1
  refine wpAny_stack_any fun st=>bh3 ?_
  refine aL7 ?_ ?_
  all_goals
   apply bg0
   refine wpAny_of_eq (a:=(Value.ref t,none)) rfl ?_
   wp_walk using bu9 a1
   have e:∀ (o:Obj) (k:Heap),(k.push o).objs.size=k.objs.size+1:=fun o k=>bs6 ..
   refine⟨_,rfl,?_⟩
   simp only [e] at h ⊢
   exact h
theorem aL9 {t:Addr}{xs:Array Value}{Q:Value->Shared->Prop} (ht:s.heap.IsTuple t xs)
  (q:∀ h',IsEnum h' (s.heap.objs.size+1) s.heap.objs.size 0 .none->h'.IsTupleIter s.heap.objs.size t 0->h'.objs.size=s.heap.objs.size+2->(∀ c o,s.heap.get? c=some o->h'.get? c=some o)->Q (.ref (s.heap.objs.size+1)) { s with heap:=h' }) :
  wpAny (model prog w) A (call (.type "enumerate") [.ref t]) Q E s:=by
 refine callType_new PySem.F.called_enumerate (by decide) (PySem.F.typeCall_enumerate_1 _) (PySem.F.newCall_enumerate_1 _) (fun obj=>PySem.F.args_object_init_2 obj _) PySem.F.entry_enumerate_new (aL8 t xs) ⟨ht,?_⟩
 have e:∀ (o:Obj) (k:Heap),(k.push o).objs.size=k.objs.size+1:=fun o k=>bs6 ..
 have g0:((s.heap.push { cls:=.type "tuple_iterator",data:=.fields #[.ref t,.int 0 0] }).push { cls:=.type "enumerate",data:=.fields #[.none,.bool false,.ref s.heap.objs.size,rawInt 0,.none,.none] }).get? s.heap.objs.size=some { cls:=.type "tuple_iterator",data:=.fields #[.ref t,.int 0 0] }:=bg1 _ (bi8 _ rfl)
 have g1:((s.heap.push { cls:=.type "tuple_iterator",data:=.fields #[.ref t,.int 0 0] }).push { cls:=.type "enumerate",data:=.fields #[.none,.bool false,.ref s.heap.objs.size,rawInt 0,.none,.none] }).get? (s.heap.objs.size+1)=some { cls:=.type "enumerate",data:=.fields #[.none,.bool false,.ref s.heap.objs.size,rawInt 0,.none,.none] }:=by
  have:=bi8 (h:=s.heap.push { cls:=.type "tuple_iterator",data:=.fields #[.ref t,.int 0 0] }) (o:={ cls:=.type "enumerate",data:=.fields #[.none,.bool false,.ref s.heap.objs.size,rawInt 0,.none,.none] }) rfl
  rw [e] at this; exact this
 exact⟨⟨_,g1,rfl⟩,q _ g1 ⟨_,g0,rfl,rfl⟩ (by rw [e,e]) fun c o z=>bg1 _ (bg1 _ z)⟩
end
end Zp
namespace L2
open PySem PySem.Spec PyProof.Rows
noncomputable def xS (K:PySem.W.Frag) (a:Addr):It:=
  ⟨fun i H=>∃ xs x,aQ K H a xs/\xs[i]? = some x,
   fun i H v H'=>∃ T x,H T=none/\v = .ref T/\H'=upd H T (.tup [.int i,x])/\∀ xs,aQ K H a xs->xs[i]? = some x,
   fun i H=>∃ xs,aQ K H a xs/\xs.length<=i⟩
structure aM0 (e it a:Addr) (i:Nat) (h:Heap):Prop where
 ee:∃ old,IsEnum h e it i old
 s1:h.IsTupleIter it a i
theorem aM1 {P:Program}{w:World}{K:PySem.W.Frag}{elts:List Expr}{k:Nat}{pos:Pos} (a e it:Addr) (d:e ≠ it) :
  iH P w K (.Tuple elts k pos) (xS K a) [e,it] e (aM0 e it a):=by
 refine⟨by simp,fun i h st c hc=>?_,fun i h h' st kp=>?_,?_,?_,fun A i s Q E st q=>?_⟩
 ·simp only [bg8,bi6,bm1] at hc
  obtain ⟨old,ee⟩:=st.ee
  obtain ⟨o1,f1,g1,d1⟩:=st.s1
  rcases hc with rfl | rfl
  ·exact⟨_,ee,fun v q=>by cases q⟩
  ·exact⟨_,f1,fun v q=>by rw [d1] at q; cases q⟩
 ·obtain ⟨old,ee⟩:=st.ee
  exact⟨⟨old,kp e (by simp) _ ee⟩,st.s1.at fun o z=>kp it (by simp) o z⟩
 ·intro X hP hw hK hc i pins s σ H E I hf st hg
  subst hP hw hK
  obtain ⟨xs,x,ha,hx⟩:=hg
  obtain ⟨us,ru,pu,lu⟩:=I.tuple ha
  obtain ⟨ux,eux,rux⟩:=ru.get hx
  obtain ⟨old,ee⟩:=st.ee
  refine Zp.aL5 ee st.s1 pu (by simpa using eux) d fun h' eo it' pr sz kp=>⟨_,rfl,?_⟩
  refine wpAny_letOwnedTupleGo_enum (s:={ s with heap:=h',toks:=s.toks+1 }) eo fun g zz sb=>?_
  have hzl:e < s.heap.objs.size:=bi0 ee
  have up:∀ c o,c ≠ e->c ≠ it->s.heap.get? c=some o->g.get? c=some o:=fun c o c1 c2 z=>sb.extBut c o c1 (kp c o c1 c2 z)
  have hT:H s.heap.objs.size=none:=I.hok.fresh (bg9 _)
  have prG:g.get? s.heap.objs.size=some { cls:=.type "tuple",data:=.seq #[.int i s.toks,ux] }:=sb.extBut _ _ (bp6 hzl) pr
  have fpn:∀ c u,H c=some u->c ∉ [e,it]:=fun c u z hm=>by rw [(hf c hm).1] at z; cases z
  have upH:∀ c o u,H c=some u->s.heap.get? c=some o->g.get? c=some o:=fun c o u q z=>by
   have:=fpn c u q
   simp only [bg8,bi6,bm1,not_or] at this
   exact up c o this.1 this.2 z
  have ns:∀ m,s.heap.Ns X.env.locals m->g.Ns X.env.locals m:=fun m hm=>by
   obtain ⟨o,es,ep,e1,e2⟩:=hm
   exact⟨o,es,ep,up _ o (Ne.symm (hf e (by simp)).2.1) (Ne.symm (hf it (by simp)).2.1) e1,e2⟩
  have I2:a6 X pins σ (upd H s.heap.objs.size (.tup [.int i,x])) { s with heap:=g,toks:=s.toks+1 }:=by
   refine I.step (g':=s.gens) (d':=s.drawn) (ch:=[e,it]) (fun c hc'=>?_) (fun c o _ _ hc' z _=>?_) (fun c o _ _ hc' z _=>⟨o.slots,?_⟩) (fun c o _ z n=>?_) (fun c o hc' z=>⟨o,?_⟩)
    (fun c zs z=>by rw [aY (cI z hT)]; exact z) (fun c u zs z=>by rw [aY (cI z hT)]; exact z) (fun c ps z=>⟨#[],by rw [aY (cI z hT),z]; simp⟩) ns (fun c u z=>?_) I.bare
   ·exact⟨(hf c hc').2.2.2.1,(hf c hc').2.1,(hf c hc').2.2.2.2.1,(hf c hc').2.2.2.2.2⟩
   ·simp only [bg8,bi6,bm1,not_or] at hc'
    exact up c o hc'.1 hc'.2 z
   ·simp only [bg8,bi6,bm1,not_or] at hc'
    exact up c o hc'.1 hc'.2 z
   ·rw [aY (bk6 (bi0 z))]; exact n
   ·simp only [bg8,bi6,bm1,not_or] at hc'
    exact up c o hc'.1 hc'.2 z
   ·by_cases hcT:c=s.heap.objs.size
    ·subst hcT
     rw [bL] at z; cases z
     exact⟨by show 2<=sizeLine; decide,[.int i s.toks,ux],.cons ⟨_,rfl⟩ (.cons rux .nil),⟨_,prG,rfl,_,rfl⟩,fun u e=>by rw [prG] at e; cases e; rfl⟩
    ·rw [aY hcT] at z
     refine (I.hok c u z).stay (fun c' o' hc2 q'=>?_) (fun c' q'=>by rw [aY (cI q' hT)]; exact q') fun c' zs q'=>by rw [aY (cI q' hT)]; exact q'
     rcases hc2 with rfl | hc2
     ·exact upH _ _ _ z q'
     ·exact upH _ _ _ hc2 q'
  refine⟨.ref s.heap.objs.size,_,I2,rfl,⟨_,x,hT,rfl,rfl,fun xs' ha'=>?_⟩,⟨⟨ux,by push_cast; exact zz⟩,it'.at fun o z=>sb.extBut _ o (Ne.symm d) z⟩,fun c hc'=>?_⟩
  ·rw [I.tuple_inj ha' ha]; exact hx
  ·obtain ⟨o,z⟩:∃ o,s.heap.get? c=some o:=by
    simp only [bg8,bi6,bm1] at hc'
    obtain ⟨o1,f1,_⟩:=st.s1
    rcases hc' with rfl | rfl
    ·exact⟨_,ee⟩
    ·exact⟨_,f1⟩
   rw [aY (bk6 (bi0 z))]; exact (hf c hc').1
 ·intro X hP hw hK hc i pins s σ H E I hf st hg
  subst hP hw hK
  obtain ⟨xs,ha,hi⟩:=hg
  obtain ⟨us,ru,pu,lu⟩:=I.tuple ha
  obtain ⟨old,ee⟩:=st.ee
  have hh:X.A.handled=none:=I.ok.hd hc
  have e1:=ru.length
  refine Zp.aL6 hh ee st.s1 pu (by rw [Array.getElem?_eq_none]; simp only [bh0]; omega) fun g kp=>⟨rfl,?_⟩
  have fpn:∀ c u,H c=some u->c ∉ [e,it]:=fun c u z hm=>by rw [(hf c hm).1] at z; cases z
  have upH:∀ c o u,H c=some u->s.heap.get? c=some o->g.get? c=some o:=fun c o u q z=>by
   have:=fpn c u q
   simp only [bg8,bi6,bm1,not_or] at this
   exact kp c o this.2 z
  have ns:∀ m,s.heap.Ns X.env.locals m->g.Ns X.env.locals m:=fun m hm=>by
   obtain ⟨o,es,ep,e1,e2⟩:=hm
   exact⟨o,es,ep,kp _ o (Ne.symm (hf it (by simp)).2.1) e1,e2⟩
  refine I.step (g':=s.gens) (d':=s.drawn) (ch:=[it]) (fun c hc'=>?_) (fun c o _ _ hc' z _=>?_) (fun c o _ _ hc' z _=>⟨o.slots,?_⟩) (fun c o _ z n=>n) (fun c o hc' z=>⟨o,?_⟩)
   (fun c zs z=>z) (fun c u zs z=>z) (fun c ps z=>⟨#[],by rw [z]; simp⟩) ns (fun c u z=>?_) I.bare
  ·have hm:c ∈ [e,it]:=bg6 _ hc'
   exact⟨(hf c hm).2.2.2.1,(hf c hm).2.1,(hf c hm).2.2.2.2.1,(hf c hm).2.2.2.2.2⟩
  ·exact kp c o (fun y=>hc' (by rw [y]; simp)) z
  ·exact kp c o (fun y=>hc' (by rw [y]; simp)) z
  ·exact kp c o (fun y=>hc' (by rw [y]; simp)) z
  ·refine (I.hok c u z).stay (fun c' o' hc2 q'=>?_) (fun _ q'=>q') fun _ _ q'=>q'
   rcases hc2 with rfl | hc2
   ·exact upH _ _ _ z q'
   ·exact upH _ _ _ hc2 q'
 ·obtain ⟨old,ee⟩:=st.ee
  exact wpAny_pyIter_enum ee q
section
variable {X : Cx}
noncomputable def Y9 (K:PySem.W.Frag) (ta:TA):TI:=fun σ H R=>ta σ H fun vs H1=>∃ a,vs = [.ref a]/\((∃ xs,aK K H1 a xs/\R (xR K a) H1) ∨ (∃ xs,aQ K H1 a xs/\R (xS K a) H1))
theorem aM2 {elts:List Expr}{kt:Nat}{pt:Pos}{a:Expr}{ta:TA}{p pos:Pos} (hg:Gl X "enumerate") (hm:X.mg "enumerate" = none) (ha:PA X [a] ta) (hs:starEach [a] X.env = [(false,eval a X.env)]:=by rfl) :
  PI X (.Tuple elts kt pt) (.Call (.Name "enumerate" p) [a] [] pos) (Y9 X.K ta):=by
 intro pins s σ H R I h
 refine Call_ (jL I hg hm PyProof.Rows.boot_enumerate (bn0 (aN (ha pos pins s σ H _ I h) fun us s1 ⟨vs,H1,I1,r1,q1⟩=>?_) (by rw [hs]; rfl) (by rfl)))
 obtain ⟨a',e,q⟩:=q1
 subst e
 have fresh:∀ k,H1 (s1.heap.objs.size+k)=none:=fun k=>I1.hok.fresh (bn3 _ _)
 cases r1 with
 | cons r rr=>
  cases rr
  cases r
  rcases q with ⟨xs,h1,q⟩ | ⟨xs,h1,q⟩
  ·obtain ⟨us,_,p1,_⟩:=I1.list h1
   refine call_enumerate_list p1.isList fun h' z s1' sz kp=>wpAny_pyIter_enum z ?_
   refine⟨s1.heap.objs.size+1,[s1.heap.objs.size+1,s1.heap.objs.size],_,_,H1,rfl,I1.kept (t':=s1.toks) kp,
    aL4 a' _ _ (Nat.succ_ne_self _),⟨⟨_,z⟩,s1'⟩,fun c hc=>?_,q⟩
   simp only [bg8,bi6,bm1] at hc
   rcases hc with rfl | rfl
   ·exact I1.fpOk (bn3 _ _) (fresh 1)
   ·exact I1.fpOk (bg9 _) (fresh 0)
  ·obtain ⟨us,_,p1,_⟩:=I1.tuple h1
   refine Zp.aL9 p1 fun h' z s1' sz kp=>wpAny_pyIter_enum z ?_
   refine⟨s1.heap.objs.size+1,[s1.heap.objs.size+1,s1.heap.objs.size],_,_,H1,rfl,I1.kept (t':=s1.toks) kp,
    aM1 a' _ _ (Nat.succ_ne_self _),⟨⟨_,z⟩,s1'⟩,fun c hc=>?_,q⟩
   simp only [bg8,bi6,bm1] at hc
   rcases hc with rfl | rfl
   ·exact I1.fpOk (bn3 _ _) (fresh 1)
   ·exact I1.fpOk (bg9 _) (fresh 0)
end
end L2
namespace PP
open PySem L2 PyProof.Rows
noncomputable def kB (xs:List PV):List PV:=xs.mapIdx fun i x=>PV.tup [.int (i:Int),x]
theorem xT (xs:List PV):(kB xs).length=xs.length:=by unfold kB; rw [List.length_mapIdx]
theorem Z0 {xs:List PV}{i:Nat}{x:PV} (h:xs[i]? = some x):(kB xs)[i]? = some (.tup [.int (i:Int),x]):=by
 unfold kB; rw [List.getElem?_mapIdx,h]; rfl
theorem aM3 {xs:List PV}{i:Nat}{z:PV} (h:(kB xs)[i]? = some z):∃ x,xs[i]? = some x/\z = .tup [.int (i:Int),x]:=by
 unfold kB at h
 rw [List.getElem?_mapIdx] at h
 cases e:xs[i]? with
 | none=>rw [e] at h; cases h
 | some x=>rw [e] at h; exact⟨x,rfl,(bj0 h).symm⟩
noncomputable def xV (te:aG):fJ:=fun ρ Q=>te ρ fun x g=>∃ xs,(x = .lst xs ∨ x = .tup xs)/\(g = .rd->flat x=true)/\Q (kB xs) (rJ g xs)
theorem aM4 {K:PySem.W.Frag}{H0:Hp}{W:Addr->Prop}{g:Bool}{H1:Hp}{a:Addr}{us:List V}{xs:List PV} (tw:∀ a,W a->∃ o,H1 a=some o/\i8 o=true) (ha:∀ W' H',Ev W H1 W' H'->aK K H' a us) (r:Reps K (Ms H0 W g) H1 us xs):mW K H0 W g H1 (xR K a) (kB xs):=by
 have lr:=r.length
 have ll:=xT xs
 refine⟨fun W' H' i e hi=>⟨us,us[i]'(by omega),ha W' H' e,by simp⟩,fun W' H' i v H2 e y hi=>?_,fun W' H' e=>⟨us,ha W' H' e,by omega⟩⟩
 obtain ⟨T,x,hT,rfl,rfl,y⟩:=y
 obtain ⟨z,hz,rz⟩:=r.get (y us (ha W' _ e))
 have sm:=bN hT (HO.tup [.int (i:Int),x])
 exact⟨sm,_,Z0 hz,.tup bL (.cons (.int _) (.cons ((rz.keep (e.keep tw)).same sm fun _ q=>q) .nil))⟩
theorem aM5 {K:PySem.W.Frag}{H0:Hp}{W:Addr->Prop}{g:Bool}{H1:Hp}{a:Addr}{us:List V}{xs:List PV} (tw:∀ a,W a->∃ o,H1 a=some o/\i8 o=true) (ha:∀ W' H',Ev W H1 W' H'->aQ K H' a us) (r:Reps K (Ms H0 W g) H1 us xs):mW K H0 W g H1 (xS K a) (kB xs):=by
 have lr:=r.length
 have ll:=xT xs
 refine⟨fun W' H' i e hi=>⟨us,us[i]'(by omega),ha W' H' e,by simp⟩,fun W' H' i v H2 e y hi=>?_,fun W' H' e=>⟨us,ha W' H' e,by omega⟩⟩
 obtain ⟨T,x,hT,rfl,rfl,y⟩:=y
 obtain ⟨z,hz,rz⟩:=r.get (y us (ha W' _ e))
 have sm:=bN hT (HO.tup [.int (i:Int),x])
 exact⟨sm,_,Z0 hz,.tup bL (.cons (.int _) (.cons ((rz.keep (e.keep tw)).same sm fun _ q=>q) .nil))⟩
section
variable {X : Cx} {σ : L2.St} {H : Hp} {te : aG} {R : It → Hp → Prop}
theorem aM6 (h:LI X (xV te) σ H R):Y9 X.K (iI (LE X te) jM) σ H R:=by
 obtain ⟨W,ρ,Q,px,q,k⟩:=h
 refine⟨W,ρ,_,px,q,?_⟩
 rintro v H1 x g s r ⟨xs,hx,hg,q⟩
 have px1:=px.mono s
 have tw:∀ a,W a->∃ o,H1 a=some o/\i8 o=true:=fun a z=>(px1.wm a z).2
 rcases hx with rfl | rfl
 ·obtain ⟨a,us,rfl,m,h,r⟩:=r.sqL
  have wa : ¬ W a:=by
   cases g with
   | fr=>exact (px.new m).1
   | nw=>exact m.1
   | sh=>exact m
   | rd=>have:=hg rfl; unfold flat at this; cases this
  exact⟨a,rfl,.inl ⟨us,aK.of h,k _ _ _ _ s (aM4 tw (fun W' H' e=>aK.of (e _ _ h wa).1) (lT px (fun z=>by have:=hg z; unfold flat at this; cases this) r)) q⟩⟩
 ·obtain ⟨a,us,rfl,h,r⟩:=r.sqT
  refine⟨a,rfl,.inr ⟨us,aQ.of h,k _ _ _ _ s (aM5 tw (fun W' H' e=>aQ.of (e _ _ h fun z=>?_).1) (lT px (fun z=>by have:=hg z; unfold flat at this; exact this) r)) q⟩⟩
  obtain ⟨o,h',mu⟩:=tw _ z; rw [h] at h'; cases h'; cases mu
theorem aM7 {elts:List Expr}{kt:Nat}{pt p2 pos:Pos}{a:Expr}{ta:aG} (hg:Gl X "enumerate") (hm:X.mg "enumerate" = none) (ha:QE X a ta) (hs:starEach [a] X.env = [(false,eval a X.env)]:=by rfl):QI X (.Tuple elts kt pt) (.Call (.Name "enumerate" p2) [a] [] pos) (xV ta):=
 pA (aM2 hg hm (cO ha dF hs) hs) fun _ _ _=>aM6
end
section
variable {X : Cx} {e : Expr} {te : aG} {pos p2 : Pos} {scope : Scope} {N : List Str} {fr : List (Option Nat)} {x y : Str} {tp xp yp : Pos} {kt : Nat} {iter elt : Expr} {ti : fJ}
noncomputable abbrev nM (x y:Str) (xp yp:Pos) (kt:Nat) (tp:Pos):Expr:=.Tuple [.Name x xp,.Name y yp] kt tp
theorem Z1 {ifs:List Expr}{tcs:cF} (hc:X.calm=true) (he:∀ (s:Shared) (H:Hp) (C:Addr) (fp:List Addr),QE (bV X scope N s H C fp cW) elt te) (hi:∀ (s:Shared) (H:Hp) (C:Addr) (fp:List Addr),kN (bV X scope N s H C fp cW) ifs (LT (bV X scope N s H C fp cW) tcs))
  (hN:N.Nodup) (h0:N[0]? = some x) (h1:N[1]? = some y) (hl:∀ (s:Shared) (H:Hp) (C:Addr) (fp:List Addr),(bV X scope N s H C fp cW).env.scope.names.lookup x=some .local) (hl2:∀ (s:Shared) (H:Hp) (C:Addr) (fp:List Addr),(bV X scope N s H C fp cW).env.scope.names.lookup y=some .local) (s:Shared) (H:Hp) :
  mP X scope N (nM x y xp yp kt tp) ifs elt s H (lI X.K 2 (gJ (cN 0) (gJ (cN 1) lH))) (LT (X.frm H) tcs) (LE (X.frm H) te):=
 ⟨fun C fp=>mH (X:=bV X scope N s H C fp cW) hc (hJ (fF hN h0 (.inl (hl s H C fp)) (.inr (hl s H C fp))) (hJ (fF hN h1 (.inl (hl2 s H C fp)) (.inr (hl2 s H C fp))) mG)),fun C fp=>hi s H C fp,fun C fp=>he s H C fp⟩
theorem Z2 (hi:QI X (nM x y xp yp kt tp) iter ti) (he:∀ (s:Shared) (H:Hp) (C:Addr) (fp:List Addr),QE (bV X scope N s H C fp cW) elt te)
  (hc:X.calm=true:=by rfl) (S:cQ X scope N fr:=by exact cQ.of rfl rfl) (hN:N.Nodup:=by decide +kernel) (h0:N[0]? = some x:=by rfl) (h1:N[1]? = some y:=by rfl) (hl:∀ (s:Shared) (H:Hp) (C:Addr) (fp:List Addr),(bV X scope N s H C fp cW).env.scope.names.lookup x=some .local:=by intro _ _ _ _; rfl) (hl2:∀ (s:Shared) (H:Hp) (C:Addr) (fp:List Addr),(bV X scope N s H C fp cW).env.scope.names.lookup y=some .local:=by intro _ _ _ _; rfl) (hf:fr[0]? = some none:=by rfl) (hf2:fr[1]? = some none:=by rfl)
  (hs:∀ x,foldedSetIterable iter X.env x=pure x:=by intro _; rfl):QE X (.ListComp elt [⟨nM x y xp yp kt tp,iter,[],0⟩] scope pos) (cU ti fr (jX 0 1) eY te):=
 cG (vG (gh:=fun _=>lI X.K 2 (gJ (cN 0) (gJ (cN 1) lH))) (tch:=fun H=>LT (X.frm H) eY) (teh:=fun H=>LE (X.frm H) te) hc S hi (Z1 hc he (fun _ _ _ _=>rU) hN h0 h1 hl hl2) hs) fun _ _ _=>oW (wA _ 0 1) (fun i e=>by rcases e with e | e <;> (subst e; assumption))
theorem aM8 {i:Nat}{z:Str}{zp:Pos} (nd:X.N.Nodup) (hi:QI X (nM x y xp yp kt tp) iter ti) (he:∀ (s:Shared) (H:Hp) (C:Addr) (fp:List Addr),QE (bV X scope N s H C fp cW) elt te)
  (hz:X.N[i]? = some z:=by rfl) (hzl:X.env.scope.names.lookup z=some .local:=by rfl) (hsw:swapsWith (.ListComp elt [⟨nM x y xp yp kt tp,iter,[],0⟩] scope p2) (some (.Name z zp)) pos.line X.env=pure true:=by rfl)
  (hc:X.calm=true:=by rfl) (S:cQ X scope N fr:=by exact cQ.of rfl rfl) (hN:N.Nodup:=by decide +kernel) (h0:N[0]? = some x:=by rfl) (h1:N[1]? = some y:=by rfl) (hl:∀ (s:Shared) (H:Hp) (C:Addr) (fp:List Addr),(bV X scope N s H C fp cW).env.scope.names.lookup x=some .local:=by intro _ _ _ _; rfl) (hl2:∀ (s:Shared) (H:Hp) (C:Addr) (fp:List Addr),(bV X scope N s H C fp cW).env.scope.names.lookup y=some .local:=by intro _ _ _ _; rfl) (hf:fr[0]? = some none:=by rfl) (hf2:fr[1]? = some none:=by rfl)
  (hs:∀ x,foldedSetIterable iter X.env x=pure x:=by intro _; rfl):QS X (.Assign [.Name z zp] (.ListComp elt [⟨nM x y xp yp kt tp,iter,[],0⟩] scope p2) pos) (bF i (cU ti fr (jX 0 1) eY te)):=
 eD (K3 (gh:=fun _=>lI X.K 2 (gJ (cN 0) (gJ (cN 1) lH))) (tch:=fun H=>LT (X.frm H) eY) (teh:=fun H=>LE (X.frm H) te) hc S hi (Z1 hc he (fun _ _ _ _=>rU) hN h0 h1 hl hl2) nd hz hzl hsw hs) fun D σ H h=>oW (wA _ 0 1) (fun i e=>by rcases e with e | e <;> (subst e; assumption)) (N6 h)
end
section
variable {X : Cx} {a b e o f : Expr} {ta tb te td tk tx : aG} {pos p2 apos cpos : Pos} {σ : L2.St} {H : Hp} {Q' : VK}
noncomputable def Z3:PV->Tg->PV->Tg->PK->Prop:=fun x _ y _ Q=>∃ xs n,x = .lst xs/\y = .int n/\flats xs=true/\-1000000<=n/\n<=1000000/\xs.length<=10/\Q (.lst (List.replicate n.toNat xs).flatten) .fr
noncomputable abbrev xW (ta tb:aG):aG:=q2 Z3 ta tb
theorem aM9:fP X Z3 G3:=by
 rintro W Hs H u v x y g g' Q Q' s n r1 r2 ⟨xs,m,rfl,rfl,f,h1,h2,hl,q⟩ k
 cases r2
 obtain ⟨a,us,rfl,mm,h,r⟩:=r1.sqL
 have lr:=r.length
 refine⟨a,m,us,rfl,rfl,h,by omega,by omega,lim ?_,fun p hp=>k _ _ _ .fr (bN hp _) (.lst (s.free hp) bL (((r.flat f).rep m.toNat).same (bN hp _) fun _ z=>z)) q⟩
 have h3:us.length<=10:=by omega
 have h4:m.toNat<=1000000:=by omega
 calc us.length * m.toNat<=10 * 1000000:=Nat.mul_le_mul h3 h4
  _<=16000000:=by decide
theorem Z4 (ha:QE X a ta) (hb:QE X b tb):QE X (.BinOp a .Mult b pos) (xW ta tb):=kU at6 aM9 ha hb
end
end PP
namespace Core
open PySem L2 PP
section
variable (ws : List Int) (ls : List (Int × Int)) (os ns : List Int)
noncomputable def gW:Nat->List Int
 | 0=>[]
 | k+1=>gW k ++ (os.find? (kin ws ls (ns ++ gW k))).toList
noncomputable def pS (k:Nat):Option Int:=os.find? (kin ws ls (ns ++ gW ws ls os ns k))
end
section
variable {ws : List Int} {ls : List (Int × Int)} {os ns : List Int}
theorem aN0 {k:Nat}{h:Int} (e:pS ws ls os ns k=some h):gW ws ls os ns (k+1)=gW ws ls os ns k ++ [h]:=by
 show gW ws ls os ns k ++ (pS ws ls os ns k).toList=_
 rw [e]; rfl
theorem Z5 {S T:List Int}{h:Int} (hk:kin ws ls S h=true) (st:∀ x ∈ S,x ∈ T) (hn:h ∉ T):kin ws ls T h=true:=by
 unfold kin at hk ⊢
 rw [bj9] at hk ⊢
 refine⟨by rw [bg4 hn]; rfl,bg2 ?_⟩
 have h1:=bl6 hk.2
 have h2:((aH ls h).filter fun x=>decide (x ∈ S)).length<=((aH ls h).filter fun x=>decide (x ∈ T)).length:=by
  rw [<- List.countP_eq_length_filter,<- List.countP_eq_length_filter]
  exact List.countP_mono_left fun x _ hx=>bg2 (st x (bl6 hx))
 omega
noncomputable def fU (ws:List Int) (ls:List (Int × Int)) (T:List Int):Prop:=∀ h ∈ rng ws.length,kin ws ls T h=false
theorem Z6 {T:List Int} (sh:fU ws ls T) (st:∀ x ∈ ns,x ∈ T):∀ k,∀ x ∈ bD ws ls ns k,x ∈ T
 | 0,x,hx=>st x hx
 | k+1,x,hx=>by
  have ih:=Z6 sh st k
  rcases bh4.mp (show x ∈ bD ws ls ns k ++ nextOf ws ls (bD ws ls ns k) from hx) with hx | hx
  ·exact ih x hx
  ·have hx:=bh8.mp hx
   by_cases e:x ∈ T
   ·exact e
   ·have:=Z5 hx.2 ih e
    rw [sh x hx.1] at this; cases this
theorem Z7 (n:Nat):(rng n).Nodup:=Y4 n
theorem aN1 {k:Nat}{h:Int} (e:pS ws ls os ns k=some h):h ∈ os/\h ∉ ns ++ gW ws ls os ns k:=
 ⟨List.mem_of_find?_eq_some e,of_decide_eq_false (xE (List.find?_some e))⟩
theorem aN2 (po:os.Perm (rng ws.length)) (hs:aW ws.length ns=true):∀ k,(ns ++ gW ws ls os ns k).Nodup/\∀ x ∈ ns ++ gW ws ls os ns k,x ∈ rng ws.length
 | 0=>by
  rw [show gW ws ls os ns 0 = [] from rfl,bk4]
  exact⟨(fA (cL hs).1).imp fun h=>bq5 h,fun x hx=>dL.mpr ((cL hs).2 x hx)⟩
 | k+1=>by
  obtain ⟨i1,i2⟩:=aN2 po hs k
  cases e:pS ws ls os ns k with
  | none=>
   have:gW ws ls os ns (k+1)=gW ws ls os ns k:=by
    show gW ws ls os ns k ++ (pS ws ls os ns k).toList=_
    rw [e]; exact bk4 _
   rw [this]; exact⟨i1,i2⟩
  | some h=>
   obtain ⟨n1,n2⟩:=aN1 e
   rw [aN0 e,<- bj2]
   refine⟨bo4.mpr ⟨i1,bj4 _ _,fun x hx y hy=>?_⟩,fun x hx=>?_⟩
   ·rw [bh1.mp hy]; intro z; subst z; exact n2 hx
   ·rcases bh4.mp hx with hx | hx
    ·exact i2 x hx
    ·rw [bh1.mp hx]; exact po.mem_iff.mp n1
theorem xX (hs:aW ws.length ns=true):∀ k,(bD ws ls ns k).Nodup
 | 0=>(fA (cL hs).1).imp fun h=>bq5 h
 | k+1=>by
  show (bD ws ls ns k ++ nextOf ws ls (bD ws ls ns k)).Nodup
  refine bo4.mpr ⟨xX hs k,(Y4 ws.length).filter _,fun x hx y hy=>?_⟩
  intro z; subst z
  exact of_decide_eq_false (xE (bh8.mp hy).2) hx
end
noncomputable def jG:Option Int->PV
 | none=>.non
 | some h=>.int h
theorem l8 {i:Nat}{h:Int}{g:Bool}{ρ:bO}{Q:bO->Prop} (q:Q (ρ.set i (some (.sh true (.int h))))):bR i (.int h) g ρ Q:=by
 show Q (ρ.set i (some (.sh (g || true) (.int h))))
 rw [Bool.or_true]; exact q
noncomputable def pT (ns S:List Int):Int:=(ns.length:Int) - (((ns.filter fun x=>decide (x ∈ S)).length:Nat):Int)
noncomputable def sT:bK:=fun xs Q=>∃ x ns ps S,xs = [x,.dK ps]/\dD x ns/\DS ps S/\ns.length<=10000/\Q (.int (pT ns S))
noncomputable def Z8:aR:=(bP (mZ (aC cS (a7 (a5 0) a9)) (aC l7 (a7 (a5 0) (a7 (a5 1) a9)))))
theorem aN3:cC Z8 ["hearths","inside"] sT:=by
 rintro xs Q ⟨x,ns,ps,S,rfl,hx,d,hl,q⟩
 exact⟨_,rfl,_,_,rfl,hx.len,_,rfl,_,rfl,x,ns,ps,S,rfl,hx,d,hl,_,_,rfl,rfl,trivial,q⟩
noncomputable def nN:bK:=fun xs Q=>∃ x ns y ms,xs = [x,y]/\dD x ns/\dD y ms/\ns.length<=10000/\ms.length<=1000/\Q (.tup (intz (ns.filter fun z=>!decide (z ∈ ms))))
noncomputable def Z9:aR:=(aF (bF 2 (aC gU (a7 (a5 1) a9)))
 (bP (aC fQ (a7 (cU (cT (a5 0)) [none,some 2] (bR 0) (bC (iR true (a5 0) (a5 1))) (a5 0)) a9))))
theorem aN4:cC Z9 ["hearths","some","gone"] nN:=by
 rintro xs Q ⟨x,ns,y,ms,rfl,hx,hy,hl,hm,q⟩
 refine⟨_,rfl,y,ms,rfl,hy,hm,fun ps d=>⟨trivial,?_⟩⟩
 refine⟨_,rfl,_,hx.seq,pN hx,by rw [bA]; omega,fun i acc=>acc=intz ((ns.take i).filter fun z=>!decide (z ∈ ms)),rfl,?_,?_⟩
 ·rintro i z acc hz rfl
  obtain ⟨n,rfl,hn⟩:=gD hz
  have tk:=k8 (p:=fun z=>!decide (z ∈ ms)) hn
  refine⟨_,rfl,_,rfl,_,.inl ⟨ps,Sum.inl n,rfl,rfl,rfl⟩,_,rfl,?_⟩
  show if (!(bM ps (Sum.inl n:aB)).isSome)=true then _ else _
  rw [d.has n]
  by_cases h:n ∈ ms
  ·rw [bg2 h] at tk ⊢
   refine bB ?_
   show _=intz (List.filter _ (List.take (i+1) ns))
   rw [tk]; exact congrArg intz (bk4 _).symm
  ·rw [bg4 h] at tk ⊢
   refine bE ⟨_,rfl,trivial,?_⟩
   show _=intz (List.filter _ (List.take (i+1) ns))
   rw [tk,fS]; rfl
 ·rintro acc rfl
  rw [bA,bn4]
  exact⟨⟨_,_,rfl,rfl,c6 _,trivial,q⟩,fun ns z=>by cases z⟩
noncomputable def l9 (ws:List Int) (ls:List (Int × Int)) (S:List Int) (h:Int):Bool:=decide (pT (aH ls h) S < ws.getD h.toNat 0)
noncomputable def stay (ws:List Int) (ls:List (Int × Int)) (S:List Int):List Int:=S.filter (l9 ws ls S)
theorem sV {n:Nat}{S:List Int} (h:aW n S=true) (p:Int->Bool):aW n (S.filter p)=true:=by
 obtain ⟨h1,h2⟩:=cL h
 have u:eO (n:Int) (S.filter p):=⟨(fA h1).filter p,fun x hx=>h2 x (bh8.mp hx).1,by
  have:=iX h
  have:=bm4 p S
  omega⟩
 exact u.set
noncomputable def sW:bK:=fun xs Q=>∃ ws ls x S,xs = [b9 ws ls,.lst (cK ws.length ls),x]/\Wb ws ls/\dD x S/\aW ws.length S=true/\Q (.tup (intz (stay ws ls S)))
noncomputable def aa0:aR:=(aF (bF 3 (aC gU (a7 (a5 2) a9)))
 (bP (aC fQ (a7 (cU (cT (a5 2)) [none,some 3,some 1,some 0] (bR 0) (bC (p6 (aC sT (a7 (bI (a5 2) (a5 0)) (a7 (a5 1) a9))) (bI (bI (a5 3) (qC (.int 0))) (a5 0)))) (a5 0)) a9))))
theorem aN5:cC aa0 ["web","around","block","inside"] sW:=by
 rintro xs Q ⟨ws,ls,x,S,rfl,wb,hx,hs,q⟩
 have few:=wb.few
 have ln:=iX hs
 have most:=wb.most
 refine⟨_,rfl,x,S,rfl,hx,by omega,fun ps d=>⟨trivial,?_⟩⟩
 refine⟨_,rfl,_,hx.seq,pN hx,by rw [bA]; omega,fun i acc=>acc=intz ((S.take i).filter (l9 ws ls S)),rfl,?_,?_⟩
 ·rintro i z acc hz rfl
  obtain ⟨h,rfl,hh⟩:=gD hz
  have hm:=(cL hs).2 h (bh9 hh)
  have nl:=lN ls h
  have tk:=k8 (p:=l9 ws ls S) hh
  refine⟨_,rfl,_,rfl,_,_,_,rfl,rfl,pO hm.1 hm.2,_,rfl,_,aH ls h,ps,S,rfl,.inr rfl,d,by omega,_,rfl,_,_,_,rfl,rfl,rfl,_,rfl,_,_,_,rfl,rfl,sQ hm.1 hm.2,_,_,rfl,rfl,_,rfl,?_⟩
  show if l9 ws ls S h=true then _ else _
  cases hk:l9 ws ls S h with
  | true=>
   rw [hk,if_pos rfl] at tk
   refine bE ⟨_,rfl,trivial,?_⟩
   show _=intz (List.filter _ (List.take (i+1) S))
   rw [tk,fS]; rfl
  | false=>
   rw [hk,if_neg (by decide),bk4] at tk
   refine bB ?_
   show _=intz (List.filter _ (List.take (i+1) S))
   rw [tk]
 ·rintro acc rfl
  rw [bA,bn4]
  exact⟨⟨_,_,rfl,rfl,c6 _,trivial,q⟩,fun ns z=>by cases z⟩
section
variable {ws : List Int} {ls : List (Int × Int)} {S T : List Int}
theorem aa1 {n:Nat}{A B:List Int} (ha:aW n A=true) (hb:aW n B=true) (h:∀ x,x ∈ A ↔ x ∈ B):A=B:=by
 have ua:=fA (cL ha).1
 have ub:=fA (cL hb).1
 have p:A.Perm B:=(List.perm_ext_iff_of_nodup (ua.imp fun z=>bq5 z) (ub.imp fun z=>bq5 z)).mpr h
 exact Y7 p (ua.imp fun z=>bu2 z) (ub.imp fun z=>bu2 z)
end
section
variable {ws : List Int} {ls : List (Int × Int)} {ns : List Int}
theorem aN6 (wb:Wb ws ls) {h x:Int} (hx:x ∈ aH ls h):x ∈ rng ws.length:=by
 unfold aH at hx
 obtain ⟨l,hl,hx⟩:=List.mem_flatMap.mp hx
 have:=wb.links l hl
 rcases bh4.mp hx with hx | hx
 ·split at hx
  ·rw [bh1.mp hx]; exact dL.mpr this.2
  ·cases hx
 ·split at hx
  ·rw [bh1.mp hx]; exact dL.mpr this.1
  ·cases hx
noncomputable def jH (n:Nat) (S:List Int):List Int:=(rng n).filter fun x=>!decide (x ∈ S)
end
end Core
namespace Raw
open PySem PySem.W PyProof.Rows
section
variable {prog : Program} {w : World} {A : Around} {E : Value → Shared → Prop} {s : Shared} {T : String} {r d : Addr} {n : Nat} {P : Nat → Value → Prop} {OK : Heap → Prop}
theorem aN7 {R:Result->Shared->Prop} (K:KdlSrc prog w T r d n P OK) (hh:A.handled=none) (hok:OK s.heap) (hn:n<=sizeLine)
  (hR:∀ h' tk acc c,(∀ b o,b ≠ s.heap.objs.size->(s.heap.push { cls:=.type "list",data:=.seq ([]:List Value).toArray }).get? b=some o->h'.get? b=some o)->h'.get? s.heap.objs.size=some { cls:=.type "list",dict:=none,data:=.seq acc c,slots:=#[] }->ItemsOf P acc n->R (.ok (.ret (.ref s.heap.objs.size))) { s with heap:=h',toks:=tk }) :
  codeAny (model prog w) A (.builtin "proto.collect" ⟨[.ref r],[]⟩) R s:=by
 have lt:=K.there _ hok
 refine codeAny_builtin PySem.F.entry_proto_collect ?_
 rw [Around.under_plainId PySem.F.plain_proto_collect _]
 show wpAny _ A.in1 (newList [] >>= fun l=>again (.builtin "list.__iadd__" ⟨[l,.ref r],[]⟩)) _ _ s
 refine bg0 (bn5 ?_)
 refine bh3 ⟨plainId_quiet PySem.F.plain_list_iadd _,codeAny_builtin PySem.F.entry_list_iadd ?_⟩
 rw [Around.under_plainId PySem.F.plain_list_iadd _]
 show wpAny _ A.in1 (Builtin.List.listExtendWith (.ref s.heap.objs.size) (.ref r) (.ref s.heap.objs.size)) _ _ _
 exact kdl_extend (s:={ s with heap:=s.heap.push { cls:=.type "list",data:=.seq ([]:List Value).toArray } }) (R:=R) K hh (K.keep _ _ hok fun b _ o e=>bg1 _ e) s.heap.objs.size (bp6 lt.1) (bp6 lt.2) _ 0 (bi8 _ rfl) hR hn
theorem aN8 {Q:List Value->Shared->Prop} (K:KdlSrc prog w T r d n P OK) (hh:A.handled=none) (hok:OK s.heap) (hn:n<=sizeLine)
  (hQ:∀ h' tk acc,(∀ b o,s.heap.get? b=some o->h'.get? b=some o)->s.heap.objs.size<=h'.objs.size->ItemsOf P acc n->Q acc.toList { s with heap:=h',toks:=tk }) :
  wpAny (model prog w) A (collect (.ref r)) Q E s:=by
 unfold collect
 refine bg0 (wpAny_runValue (aN7 (s:=s) K hh hok hn fun h' tk acc c kp at1 it=>?_))
 show wpAny _ A (load s.heap.objs.size >>= _) _ _ _
 refine bg0 (wpAny_load at1 ?_)
 exact bh3 (hQ h' tk acc (fun b o e=>kp b o (bk6 (bi0 e)) (bg1 _ e)) (bn7 (bi0 at1)) it)
theorem aN9 {Q:Value->Shared->Prop}{G:List Int->Prop} (K:KdlSrc prog w T r d n P OK) (hh:A.handled=none) (hok:OK s.heap) (hn:n < 64)
  (hI:∀ acc,ItemsOf P acc n->∃ ns,IntsAre acc.toList ns/\G ns)
  (h:∀ h' tk a (out:Array Value) (ns ns':List Int) e,(∀ b o,s.heap.get? b=some o->h'.get? b=some o)->s.heap.objs.size<=a->h'.get? a=some (seqObj "list" out e)->IntsAre out.toList ns'->G ns->ns'.Perm ns->ns'.Pairwise (· <= ·)->Q (.ref a) { s with heap:=h',toks:=tk }) :
  wpAny (model prog w) A (call (.builtin "sorted") [.ref r]) Q E s:=by
 have hsl:n<=sizeLine:=bl1 (bn7 hn) (by decide)
 refine Calls.call_function_entry kind_sorted plain_sorted entry_sorted (args_sorted1 _) ?_
 unfold Builtin.«sorted»
 refine bg0 (m:=checkCount "sorted" 1 1 _) (bh3 ?_)
 refine bg0 (aN8 (s:=s) K hh hok hsl fun h' tk acc kp hs it=>?_)
 obtain ⟨ns,hi,g⟩:=hI acc it
 have hz:acc.toList.length < 64:=by rw [bl7,it.1]; exact hn
 refine bg0 (wpAny_newList ?_ (bl1 (bn7 hz) (by decide)))
 have hoL:(h'.push (seqObj "list" acc.toList.toArray 0)).get? h'.objs.size=some (seqObj "list" acc.toList.toArray 0):=bi8 _ rfl
 show wpAny _ _ _ _ _ { s with heap:=h'.push (seqObj "list" acc.toList.toArray 0),toks:=tk }
 refine bg0 (br0 (bo2 slot_list_sort ⟨_,hoL,rfl⟩ entry_list_sort (list_sort_tree hoL hi hz fun out ns' a1 a2 a3=>⟨_,rfl,?_⟩) (args_list_sort _)))
 obtain ⟨e,he⟩:=sortedHeap_at (vs:=acc.toList) (out:=out) hoL
 refine bh3 ⟨_,rfl,h _ tk h'.objs.size out ns ns' e (fun b o hb=>?_) hs he a1 g a2 a3⟩
 have lt:=bi0 (kp b o hb)
 rw [sortedHeap_old (bk6 lt) (by rw [size_push']; exact Nat.lt_succ_of_lt lt)]
 exact bg1 _ (kp b o hb)
end
end Raw
namespace L2
open PySem PySem.Spec PyProof.Rows
section
variable {X : Cx}
theorem aO0 (hc:X.calm=true):dQ X (.builtin "sorted") (fun xs H Q=>∃ a kvs ns,xs = [.ref a]/\H a=some (.dK kvs)/\kvs.map (·.1)=ns.map Sum.inl/\ns.length < 64/\∀ l (ms:List Int),H l=none->ms.Perm ns->ms.Pairwise (· <= ·)->Q (.ref l) (upd H l (.lst (ms.map V.int)))):=by
 intro pins s σ H xs us Q I r h
 obtain ⟨a,kvs,ns,rfl,ha,hk,h64,q⟩:=h
 obtain ⟨u,rfl,ru⟩:=jA r
 cases ru
 obtain ⟨es,ep,rd,far,vk,z⟩:=aw7 I ha
 have hl:=vk.length
 have hl2:=congrArg List.length hk
 rw [bg5,bg5] at hl hl2
 have hsz:es.toList.length=es.size:=bl7
 have e1:(kvs.map fun p=>kV p.1)=ns.map V.int:=by
  have:(kvs.map fun p=>kV p.1)=(kvs.map (·.1)).map kV:=by rw [bo8]; rfl
  rw [this,hk,bo8]; rfl
 rw [e1] at vk
 refine Raw.aN9 (G:=fun ms=>ms=ns) (Raw.aw6 far) (I.ok.hd hc) rd (by omega) (fun acc it=>⟨ns,by rw [aw8 it]; exact uS vk,rfl⟩) fun h' tk l out ns1 ns' e kp hn he a1 g a2 a3=>?_
 subst g
 have hlen:ns'.length=ns1.length:=a2.length_eq
 refine⟨.ref l,upd H l (.lst (ns'.map V.int)),I.laid (t':=tk) kp hn ⟨?_,out.toList,e,qP a1,by simpa using he⟩,rfl,q _ ns' (I.hok.fresh hn) a2 a3⟩
 rw [bg5,hlen]
 exact bn7 (oG (by omega))
end
end L2
namespace PP
open PySem L2 PyProof.Rows
section
variable {X : Cx} {a b e : Expr} {ta tb te : aG} {tr : dG} {pos p2 : Pos}
noncomputable def sX:List PV->(PV->Prop)->Prop:=fun xs Q=>∃ (ps:List (aB × PV)) (ns:List Int),xs = [.dK ps]/\ps.map (·.1)=ns.map Sum.inl/\ns.length < 64/\∀ ms:List Int,ms.Perm ns->ms.Pairwise (· <= ·)->Q (.lst (intz ms))
theorem aO1:i9 X sX (fun xs H Q=>∃ a kvs ns,xs = [.ref a]/\H a=some (.dK kvs)/\kvs.map (·.1)=ns.map Sum.inl/\ns.length < 64/\∀ l (ms:List Int),H l=none->ms.Perm ns->ms.Pairwise (· <= ·)->Q (.ref l) (upd H l (.lst (ms.map V.int)))):=by
 rintro H vs xs Q Q' r ⟨ps,ns,rfl,e,hl,q⟩ k
 obtain ⟨v,rfl,r1⟩:=r.one
 cases r1 with
 | @dK a kvs _ m h e2 r2=>
  exact⟨a,kvs,ns,rfl,h,e2.trans e,hl,fun l ms hl' p o=>k _ _ _ (bN hl' _) (.lst hl' bL (Reps.intz ms)) (q ms p o)⟩
theorem aa2 (B:Bt X.mg) (hc:X.calm=true) (ha:QA X [e] tr) (hg:Gl X "sorted":=by rfl) (he:starEach [e] X.env=(false,eval e X.env) :: starEach [] X.env:=by rfl) (hpl:(backTo pos (starEach [] X.env)).any (·.1)=false:=by rfl):QE X (.Call (.Name "sorted" p2) [e] [] pos) (aC sX tr):=
 l4 (aO0 hc) aO1 hg B.sorted PyProof.Rows.boot_sorted ha (he:=he) (hpl:=hpl)
end
end PP
namespace Core
open PySem L2 PP
noncomputable def iE (k:Nat) (r:List Int):List (aB × PV):=r.map fun h=>((Sum.inl h:aB),PV.int (k:Int))
noncomputable def kC (rs:List (List Int)):List (aB × PV):=(rs.mapIdx iE).flatten
theorem aO2 (rs:List (List Int)) (r:List Int):kC (rs ++ [r])=kC rs ++ iE rs.length r:=by
 unfold kC
 rw [List.mapIdx_append,List.flatten_append]
 simp
theorem aa3 (k:Nat) (r:List Int):(iE k r).map (·.1)=r.map Sum.inl:=by
 unfold iE; rw [bo8]; rfl
theorem aa4:∀ (rs:List (List Int)) (g:Nat->Nat),((rs.mapIdx fun i r=>iE (g i) r).flatten).map (·.1)=rs.flatten.map (Sum.inl:Int->aB)
 | [],_=>rfl
 | r :: t,g=>by
  rw [List.mapIdx_cons,br6,br6,bi3,bi3,aa3,aa4 t fun i=>g (i+1)]
theorem aa5 (rs:List (List Int)):(kC rs).map (·.1)=rs.flatten.map (Sum.inl:Int->aB):=aa4 rs fun i=>i
theorem xY {ps:List (aB × PV)}{h:Int}{v:PV}{S:List Int} (e:ps.map (·.1)=S.map Sum.inl) (hn:h ∉ S):dO ps (Sum.inl h:aB) v=ps ++ [(Sum.inl h,v)]:=by
 unfold dO
 rw [if_neg]
 intro z
 rw [List.any_eq_true] at z
 obtain ⟨p,hp,hq⟩:=z
 have:p.1 ∈ ps.map (·.1):=bi4.mpr ⟨p,hp,rfl⟩
 rw [e,bl6 hq] at this
 obtain ⟨y,hy,e2⟩:=bi4.mp this
 exact hn (Sum.inl.inj e2 ▸ hy)
theorem aO3 {k:Nat}{r:List Int}{i:Nat}{n:Int} (h:r[i]? = some n):iE k (r.take (i+1))=iE k (r.take i) ++ [(Sum.inl n,PV.int (k:Int))]:=by
 unfold iE
 rw [bn6,h,bi3]; rfl
theorem dU {ls:List (Int × Int)}{h x:Int}:x ∈ aH ls h ↔ ∃ l ∈ ls,(l.1=h/\l.2=x) ∨ (l.2=h/\l.1=x):=by
 unfold aH
 rw [List.mem_flatMap]
 constructor
 ·rintro ⟨l,hl,hx⟩
  refine⟨l,hl,?_⟩
  rcases bh4.mp hx with hx | hx
  ·split at hx
   ·rename_i e; exact .inl ⟨e,(bh1.mp hx).symm⟩
   ·cases hx
  ·split at hx
   ·rename_i e; exact .inr ⟨e,(bh1.mp hx).symm⟩
   ·cases hx
 ·rintro ⟨l,hl,⟨e1,e2⟩ | ⟨e1,e2⟩⟩
  ·exact⟨l,hl,bk3 _ (by rw [if_pos e1,e2]; exact List.mem_singleton_self _)⟩
  ·exact⟨l,hl,bj6 _ (by rw [if_pos e1,e2]; exact List.mem_singleton_self _)⟩
theorem aa6 {h:Int}:∀ {ls:List (Int × Int)},(∀ l ∈ ls,l.1 < l.2)->ls.Pairwise kA->(aH ls h).Nodup
 | [],_,_=>.nil
 | l :: r,hl,hp=>by
  have ih:=aa6 (h:=h) (ls:=r) (fun m hm=>hl m (bg6 _ hm)) (bq8.mp hp).2
  have h0:=hl l bg7
  have e:aH (l :: r) h=((if l.1=h then [l.2] else []) ++ (if l.2=h then [l.1] else [])) ++ aH r h:=rfl
  rw [e]
  refine bo4.mpr ⟨?_,ih,fun x hx y hy q=>?_⟩
  ·by_cases e1:l.1=h
   ·rw [if_pos e1,if_neg (by omega),bk4]; exact bj4 _ _
   ·rw [if_neg e1]
    split
    ·exact bj4 _ _
    ·exact .nil
  ·subst q
   obtain ⟨m,hm,c⟩:=dU.mp hy
   have h1:=hl m (bg6 _ hm)
   have h2:=(bq8.mp hp).1 m hm
   have c':(l.1=h/\l.2=x) ∨ (l.2=h/\l.1=x):=by
    rcases bh4.mp hx with hx | hx
    ·split at hx
     ·rename_i e; exact .inl ⟨e,(bh1.mp hx).symm⟩
     ·cases hx
    ·split at hx
     ·rename_i e; exact .inr ⟨e,(bh1.mp hx).symm⟩
     ·cases hx
   unfold kA at h2
   omega
theorem qZ {ls:List (Int × Int)}{wts:List Int} (e:wts.length=ls.length):(ls.zip wts).map (·.2)=wts:=by
 rw [List.map_snd_zip]; omega
theorem aa7 (n:Nat):(rng n).Pairwise (· < ·):=by
 unfold rng
 rw [bp3]
 exact (List.pairwise_lt_range (n:=n)).imp fun h=>by omega
theorem aO4 (n:Nat) (p:Int->Bool):aW n ((rng n).filter p)=true:=by
 refine eO.set ⟨(aa7 n).sublist List.filter_sublist,fun x hx=>?_,?_⟩
 ·have:=dL.mp (bh8.mp hx).1
  exact this
 ·have:=bm4 p (rng n)
  rw [cX] at this
  omega
section
variable {ws : List Int} {ls : List (Int × Int)} {ns wts : List Int} {m : Nat}
noncomputable def loose (ls:List (Int × Int)) (wts ns:List Int):List ((Int × Int) × Int):=(ls.zip wts).filter fun z=>!(decide (z.1.1 ∈ ns) && decide (z.1.2 ∈ ns))
end
end Core
set_option maxHeartbeats 1000000
set_option maxHeartbeats 1000000
set_option maxHeartbeats 1000000
set_option maxHeartbeats 1000000
namespace PP
open PySem L2 PyProof.Rows
noncomputable abbrev eQ:=(Str->Prop)->bK
noncomputable def EX (K:PySem.W.Frag) (H0:Hp) (Ep:Str->Prop):XK:=fun c d H'=>d=none/\aD H0 H'/\∃ n C,c = .ref C/\PySem.W.nsIn K mainGlobals n=some (some (.ref C))/\Ep n
noncomputable def spX (K:PySem.W.Frag) (p:eQ):Sp:=fun vs H Q E=>∃ xs Qp Ep,Reps K (fun _=>True) H vs xs/\p Ep xs Qp/\(∀ v H' x,aD H H'->aE K (fun a=>H a=none) H' v x->Qp x->Q v H')/\
 ∀ n C H',aD H H'->PySem.W.nsIn K mainGlobals n=some (some (.ref C))->Ep n->E (.ref C) none H'
structure bW (P:Program) (w:World) (K:PySem.W.Frag) (mg:Str->Option Value) (base:Heap) (k:Nat) (x:Str) (ps:List Str) (p:eQ):Prop where
 ex:∃ f fd,cP P w K mg base (fM P w) k f fd ps (spX K p)/\jB K fd ps []/\PySem.W.keepIn K (.ref f)=true/\mg x=some (.ref f)
section
variable {X : Cx} {σ : L2.St} {H : Hp} {D : cY} {tr : dG} {Q' : VK} {a b c e : Expr} {es : List Expr} {pos p2 cp np hp : Pos} {t : aR} {te : aG} {tc : cF}
noncomputable def kD (Ep:Str->Prop) (p:eQ) (t:dG):aG:=aC (p Ep) t
theorem aa8 {p:eQ}{Ep:Str->Prop} (h:LE X (kD Ep p tr) σ H Q'):uN (spX X.K p) [] (EX X.K X.H₀ Ep) (LA X tr) σ H Q':=by
 obtain ⟨W,ρ,Q,px,q,k⟩:=h
 refine⟨W,ρ,_,px,q,fun vs H1 xs s1 r1 q1=>⟨_,_,Ep,by rw [bk4]; exact r1.any,q1,fun v H' x s2 r2 q2=>k v H' x .fr (s1.trans s2) (r2.same (aD.refl _) fun _ z=>s1.free z) q2,fun n C H' s2 z1 z2=>⟨rfl,(px.same.trans s1).trans s2,n,C,rfl,z1,z2⟩⟩⟩
theorem m7 {Ep:Str->Prop}{k j:Nat}{x:Str}{ps:List Str}{p:eQ} (hX:nI X (EX X.K X.H₀ Ep)) (d:bW X.prog X.w X.K X.mg X.base k x ps p) (hr:cA j X.A) (ha:QA X (e :: es) tr) (hkj:k<=j:=by decide) (hg:Gl X x:=by rfl) (hdb:(x == ("__debug__" : Str))=false:=by decide)
  (he:starEach (e :: es) X.env=(false,eval e X.env) :: starEach es X.env:=by rfl) (hpl:(backTo pos (starEach es X.env)).any (·.1)=false:=by rfl):QE X (.Call (.Name x p2) (e :: es) [] pos) (kD Ep p tr):=by
 obtain ⟨f,fd,F,b,kp,m⟩:=d.ex
 exact cG (uO F (hr.mono hkj) hg m kp b .nil hX.pass ha hdb he hpl) fun _ _ _=>aa8
theorem xZ {k j:Nat}{x:Str}{ps:List Str}{p:eQ} (d:bW X.prog X.w X.K X.mg X.base k x ps p) (hr:cA j X.A) (ha:QA X (e :: es) tr) (hkj:k<=j:=by decide) (hg:Gl X x:=by rfl) (hdb:(x == ("__debug__" : Str))=false:=by decide)
  (he:starEach (e :: es) X.env=(false,eval e X.env) :: starEach es X.env:=by rfl) (hpl:(backTo pos (starEach es X.env)).any (·.1)=false:=by rfl):QE X (.Call (.Name x p2) (e :: es) [] pos) (aC (p fun _=>False) tr):=by
 obtain ⟨f,fd,F,b,kp,m⟩:=d.ex
 refine cG (uO F (E:=EX X.K X.H₀ fun _=>False) (hr.mono hkj) hg m kp b .nil (fun _ _ _ _ _ _ _ h=>?_) ha hdb he hpl) fun _ _ _ h=>aa8 (Ep:=fun _=>False) h
 obtain ⟨_,_,_,_,_,_,_,_,_,_,_,_,z⟩:=h
 exact z.elim
noncomputable def pU (Ep:Str->Prop) (n:Str) (t:dG):aR:=fun _ ρ=>t ρ fun xs=>xs.length<=1000/\Ep n
theorem aO5 {Ep:Str->Prop}{n:Str}{C:Addr} (hn:PySem.W.nsIn X.K mainGlobals n=some (some (.ref C))) (h:LS X (pU Ep n tr) D σ H):V2 (EX X.K X.H₀ Ep) C (LA X tr) D σ H:=by
 obtain ⟨W,ρ,D',px,q,k⟩:=h
 exact⟨W,ρ,_,px,q,fun vs H1 xs s1 r z=>⟨by rw [r.length]; exact vT z.1,rfl,px.same.trans s1,n,C,rfl,hn,z.2⟩⟩
structure Xc (K:PySem.W.Frag) (mg:Str->Option Value) (base:Heap) (n:Str):Prop where
 ex:∃ C B newId initId bm,OwnCls n C bm newId mg base/\ExcBaseFacts B newId initId bm/\PySem.W.nsIn K mainGlobals n=some (some (.ref C))
theorem yA {Ep:Str->Prop}{n:Str} (hX:nI X (EX X.K X.H₀ Ep)) (x:Xc X.K X.mg X.base n) (ha:QA X (e :: es) tr) (hc:X.calm=true:=by rfl) (hg:Gl X n:=by rfl) (hd:(n == ("__debug__" : Str))=false:=by decide)
  (he:starEach (e :: es) X.env=(false,eval e X.env) :: starEach es X.env:=by rfl) (hpl:(backTo cp (starEach es X.env)).any (·.1)=false:=by rfl):QS X (.Raise (some (.Call (.Name n np) (e :: es) [] cp)) none pos) (pU Ep n tr):=by
 obtain ⟨C,B,newId,initId,bm,O,FB,hn⟩:=x.ex
 exact eD (aI6 hX hc O FB ha hg hd he hpl) fun _ _ _=>aO5 hn
noncomputable def oC:V->Value
 | .ref a=>.ref a
 | .ty n=>.type n
 | _=>.none
end
structure sY (K:PySem.W.Frag) (C:Addr):Prop where
 cls:PySem.W.isClsIn K C=true
 ty:PySem.W.typeIn K (.ref C)=some (.type "type")
 ga:PySem.W.findIn K (.ref C) "__getattribute__" = some (some (.builtin "BaseException.__getattribute__"))
 gt:PySem.W.findIn K (.ref C) "__getattr__" = some none
 fc:PySem.W.findIn K (.ref C) "__class__" = some (some (.builtin "object.__class__"))
 fg:PySem.W.specialIn K (.builtin "object.__class__") "__get__" = some (some (.builtin "getset_descriptor.__get__"))
 ft:PySem.W.takesIn K (.builtin "object.__class__")=some true
 ob:PySem.W.mroIn K C (.type "object")=some true
 be:PySem.W.mroIn K C (.type "BaseException")=some true
theorem aa9 {K:PySem.W.Frag}{h₀:Heap}{mg:Str->Option Value}{x:Str}{C:Addr}{bmB:List Value}{newId:String} (X:K.In h₀) (m:mg x=some (.ref C)) (q:PySem.W.excIn K C bmB newId=true):OwnCls x C bmB newId mg h₀:=by
 refine⟨m,?_⟩
 unfold PySem.W.excIn at q
 split at q
 case h_2=>cases q
 rename_i dd cd sl ho
 split at q
 case h_2=>cases q
 rename_i C' bm k0 k1 k2 k3 n k5 hm hs
 simp only [bj9,beq_iff_eq,bw5] at q
 obtain ⟨⟨⟨⟨⟨rfl,rfl⟩,dl⟩,ht⟩,hok⟩,hni⟩:=q
 obtain ⟨nm,bs,mro,ns,qn,hd,sn,sub,ab,col,del⟩:=cd
 dsimp only at hm dl hok hni
 subst hm dl
 obtain rfl:sl = #[k0,k1,k2,k3,some (.builtin n),k5]:=by
  obtain ⟨l⟩:=sl
  exact congrArg Array.mk hs
 exact⟨bm,ns,nm,qn,bs,hd,sn,sub,ab,col,dd,k0,k1,k2,k3,k5,_,X _ _ ho,.of_isNs (PySem.W.isNs_of_in X hok),PySem.W.nsMap_none_of_in X hok hni,PySem.W.tail_of_in X ht⟩
theorem bW.of {P:Program}{w:World}{K:PySem.W.Frag}{mg:Str->Option Value}{base:Heap}{k:Nat}{x:Str}{ps N:List Str}{p:eQ}{st:Stmt}{f:Addr}{fd:FuncData} (F:fH K x x st f fd) (m:mg x=some (.ref f)) (S:FnScope N ps (aX st))
  (hb:∀ (kV doc pm:Value) (an:Option Addr) (cdv ct:Value) (us:List Value),us.length=ps.length->bindArgs (PySem.W.fnOf x x (jR st) (fG st) (aX st) .none kV doc pm an cdv ct) ⟨us,[]⟩=pure (ps.zip us))
  (t:(Str->Prop)->aR) (len:∀ Ep xs Q,p Ep xs Q->xs.length=ps.length) (rd:∀ Ep xs Q,p Ep xs Q->t Ep { nx:=fun _=>Q .non,rt:=Q } (gC N xs))
  (body:∀ (cdv:Value) (A:Around) (outer:List Env) (s:Shared) (H:Hp) (E:XK) (Ep:Str->Prop),cA k (A.deeper (envOfC x (aX st) s.heap.objs.size f cdv))->nI (dN (fM P w) P w K mg base N x (aX st) f cdv A outer s H E) (EX K H Ep)->
   fR (dN (fM P w) P w K mg base N x (aX st) f cdv A outer s H E) (fG st) (t Ep)):bW P w K mg base (k+1) x ps p:=by
 refine⟨f,fd,F.okX S (fun vs H Q E h=>?_) (fun cdv A outer s H vs Q E hr h=>?_),F.binds hb,F.kp,m⟩
 ·obtain ⟨xs,Qp,Ep,r,q,_⟩:=h
  rw [r.length]; exact len Ep xs Qp q
 ·obtain ⟨xs,Qp,Ep,r,q,k,ke⟩:=h
  have ht:=body cdv A outer s H E Ep hr (aI5 fun c d H' z=>?_)
  ·refine⟨_,ht,fun _=>False,gC N xs,_,wT r,rd Ep xs Qp q,?_,?_,?_,?_⟩
   ·exact fun W' σ' H' ρ' e px q=>k _ _ _ px.same .non q
   ·exact fun v H' x s r q=>k _ _ _ s r q
   ·exact fun W' σ' H' ρ' e px q=>q
   ·exact fun W' σ' H' ρ' e px q=>q
  ·obtain ⟨rfl,s1,n,C,rfl,z1,z2⟩:=z
   exact ke n C H' s1 z1 z2
end PP
namespace Core
open PySem L2 PP
noncomputable abbrev lA (t:(Str->Prop)->aR) (N:List Str) (p:eQ):Prop:=∀ Ep xs Q,p Ep xs Q->t Ep { nx:=fun _=>Q .non,rt:=Q } (gC N xs)
noncomputable def lB:eQ:=fun Ep xs Q=>∃ ws ls x ns,xs = [b9 ws ls,x]/\dD x ns/\ns.length<=1000/\(aW ws.length ns=true->Q (.tup (intz ns)))/\(aW ws.length ns=false->Ep "BadSet")
noncomputable def ab0 (Ep:Str->Prop):aR:=(aF (cR (iP (bC (aC l6 (a7 (a5 0) (a7 (a5 1) a9))))) (pU Ep "BadSet" (a7 (qC (.str "a set is of rising hearths of the web")) a9)) cZ)
 (bP (aC fQ (a7 (a5 1) a9))))
theorem aO6:lA ab0 ["web","hearths"] lB:=by
 rintro Ep xs Q ⟨ws,ls,x,ns,rfl,hx,hl,q1,q2⟩
 refine⟨_,rfl,_,rfl,ws,ls,x,ns,rfl,hx,hl,_,rfl,?_⟩
 cases h:aW ws.length ns with
 | true=>exact bB ⟨_,rfl,⟨_,_,rfl,hx.seqT,c6 _,trivial,q1 h⟩,hx.noscr⟩
 | false=>exact bE ⟨by decide,q2 h⟩
end Core
namespace PP
open PySem L2
theorem nO {us:List Value} (h:us.length=1):∃ a,us = [a]:=List.length_eq_one_iff.mp h
theorem yB {us:List Value} (h:us.length=2):∃ a b,us = [a,b]:=by
 cases us with
 | nil=>cases h
 | cons a r=>
  obtain ⟨b,rfl⟩:=nO (us:=r) (by simpa using h)
  exact⟨a,b,rfl⟩
theorem yC {us:List Value} (h:us.length=3):∃ a b c,us = [a,b,c]:=by
 cases us with
 | nil=>cases h
 | cons a r=>
  obtain ⟨b,c,rfl⟩:=yB (us:=r) (by simpa using h)
  exact⟨a,b,c,rfl⟩
theorem us4 {us:List Value} (h:us.length=4):∃ a b c d,us = [a,b,c,d]:=by
 cases us with
 | nil=>cases h
 | cons a r=>
  obtain ⟨b,c,d,rfl⟩:=yC (us:=r) (by simpa using h)
  exact⟨a,b,c,d,rfl⟩
end PP
namespace Core
open PySem L2 PP
noncomputable def NN (zs:List Int):Prop:=∀ z ∈ zs,(0:Int)<=z
theorem NN.set {zs:List Int}{z:Int} (h:NN zs) (hz:0<=z) (j:Nat):NN (zs.set j z):=fun y hy=>by
 rcases List.mem_or_eq_of_mem_set hy with hy | rfl
 ·exact h y hy
 ·exact hz
noncomputable def yD (i:Nat) (S:List Int):Prop:=S.Pairwise (· < ·)/\∀ x ∈ S,0<=x/\x < (i:Int)
theorem yD.set {i:Nat}{S:List Int} (h:yD i S):aW i S=true:=by
 unfold aW
 rw [sM h.1,Bool.true_and,bq0]
 intro b hb
 obtain ⟨x,hx,rfl⟩:=bi4.mp hb
 have:=h.2 x hx
 unfold inB
 simp only [id,bj9,bk2]
 exact this
end Core
namespace PP
open PySem L2
section
variable {X : Cx} {a b e : Expr} {ta tb : aG} {tr : dG} {D : cY} {σ : St} {H : Hp} {pos p2 p3 p4 : Pos}
noncomputable def sZ (i:Nat) (ta tb:aG):aR:=fun D ρ=>∃ xs,ρ[i]? = some (some (.own (.lst xs)))/\ta ρ fun x _=>∃ k:Nat,x = .int k/\k<=xs.length/\xs.length < 16000000/\tb ρ fun y g=>Nw g y/\D.nx (ρ.set i (some (.own (.lst (xs.take k ++ y :: xs.drop k)))))
theorem aO7 {i:Nat} (h:LS X (sZ i ta tb) D σ H):nZ (qL X.K "list" V3 (iG i) (iI (LE X ta) (iI (LE X tb) jM))) D σ H:=by
 obtain ⟨W,ρ,D',px,⟨xs,hi,q⟩,k⟩:=h
 obtain ⟨v,ev,a,rfl,wa,us,ea,r⟩:=px.sl i _ hi
 refine⟨_,ev,kO (aK.of ea),W,ρ,_,px,q,?_⟩
 rintro w H1 x g s rx ⟨j,rfl,hj,hl,q⟩
 cases rx
 refine⟨W,ρ,_,px.mono s,q,?_⟩
 rintro w H2 y g s2 ry ⟨n,q⟩
 have ea2:=s2 _ _ (s _ _ ea)
 have s3:=s.trans s2
 refine⟨a,us,w,j,rfl,rfl,ea2,by rw [r.length]; exact hj,i7 (by rw [r.length]; omega),?_⟩
 refine k.nx W σ _ _ ((Ev.same s3).trans (Ev.upd wa)) ((px.mono s3).updL hi ev wa ?_) q
 have r2:=r.same s3 fun _ z=>z
 exact ((r2.take j).append (.cons (Nw.rep (px.mono s) n ry) (r2.drop j))).keep (.upd ea2 rfl fun b m=>⟨kQ wa m,m⟩)
theorem aO8 (i:Nat) {x:Str}{apos cpos xpos:Pos} (ha:QE X a ta) (hb:QE X b tb) (hN:X.N[i]? = some x:=by rfl) (hv:gI X.env.scope x:=by first | exact Or.inl rfl | exact Or.inr (Or.inl rfl) | exact Or.inr (Or.inr rfl)) (hd:(x == ("__debug__" : Str))=false:=by decide) (hcd:(x == ("__classdict__" : Str))=false:=by decide)
  (hbase:attributeBase (.Name x xpos) "insert" X.env (eval (.Name x xpos) X.env)=eval (.Name x xpos) X.env:=by rfl)
  (hfew:((backTo cpos (starEach [a,b] X.env)).all (fun x=>!x.1) && (backToKw cpos (keywordEach [] X.env)).all (fun x=>x.1.isSome) && decide (([a,b]:List Expr).length+([]:List Keyword).length+(if ([]:List Keyword).isEmpty then 0 else 1) < 30))=true:=by rfl)
  (hline:(apos.endLine == cpos.line)=true:=by rfl) (hs:starEach [a,b] X.env=(false,eval a X.env) :: starEach [b] X.env:=by rfl) (hs2:starEach [b] X.env=(false,eval b X.env) :: starEach [] X.env:=by rfl) (hplain:(backTo cpos (starEach [b] X.env)).any (·.1)=false:=by rfl)
  (hsw:swapsWith (.Call (.Attribute (.Name x xpos) "insert" apos) [a,b] [] cpos) none pos.line X.env=pure false:=by rfl) :
  QS X (.Expr (.Call (.Attribute (.Name x xpos) "insert" apos) [a,b] [] cpos) pos) (sZ i ta tb):=
 eD (kJ (lJ bp1 PySem.F.slot_list_insert PySem.F.type_list_insert aI7 (j8 hN hv hd hcd) (cO ha (cO hb dF hs2) hs) hbase hfew hline hs hplain) hsw) fun _ _ _=>aO7
end
section
variable {X : Cx} {e : Expr} {tr : dG} {pos p2 : Pos}
noncomputable def t5:List PV->(PV->Prop)->Prop:=fun xs Q=>∃ ys:List (List Int),xs = [.lst (ys.map fun r=>PV.tup (intz r))]/\ys.length<=4096/\(∀ y ∈ ys,y.length=2)/\∀ zs:List (List Int),zs.Perm ys->zs.Pairwise (fun u v=>HT.iJ v u=false)->Q (.lst (zs.map fun r=>PV.tup (intz r)))
theorem aO9:i9 X t5 (V1 X.K):=by
 rintro H vs xs Q Q' r ⟨ys,rfl,hl,hne,q⟩ k
 obtain ⟨v,rfl,r1⟩:=r.one
 obtain ⟨a,us,rfl,_,h,r2⟩:=r1.sqL
 obtain ⟨h1,h2⟩:=Y0 r2
 have lr:=r2.length
 rw [bg5] at lr
 refine⟨a,us,m6 H,rfl,aK.of h,by omega,fun y hy=>?_,fun l zs hl' pm so=>?_⟩
 ·obtain ⟨b,rfl,hb⟩:=h2 y hy
  refine⟨b,rfl,aQ.of hb,hne _ ?_⟩
  rw [<- h1]; exact bi4.mpr ⟨_,hy,rfl⟩
 ·have hz:∀ u ∈ zs,∃ b,u = .ref b/\H b=some (.tup ((m6 H u).map V.int)):=fun u hu=>h2 u (pm.mem_iff.mp hu)
  refine k _ _ _ (bN hl' _) (.lst hl' bL ((Y1 hz).same (bN hl' _) fun _ z=>z)) (q _ ?_ ?_)
  ·rw [<- h1]; exact pm.map _
  ·rw [bp3]; exact so
theorem aP0 (B:Bt X.mg) (ha:QA X [e] tr) (hg:Gl X "sorted":=by rfl) (he:starEach [e] X.env=(false,eval e X.env) :: starEach [] X.env:=by rfl) (hpl:(backTo pos (starEach [] X.env)).any (·.1)=false:=by rfl):QE X (.Call (.Name "sorted" p2) [e] [] pos) (aC t5 tr):=
 l4 aI2 aO9 hg B.sorted PyProof.Rows.boot_sorted ha (he:=he) (hpl:=hpl)
end
end PP
namespace Core
open PySem L2 PP
structure WL (n:Int) (ws:List Int) (ls:List (Int × Int)):Prop where
 many:(ws.length:Int)=n
 inn:∀ l ∈ ls,0<=l.1/\l.1 < l.2/\l.2 < n
 most:ls.length<=1700
 ord:ls.Pairwise kA
 pos:∀ w ∈ ws,0<=w
theorem WL.perm {n:Int}{ws:List Int}{ls ls':List (Int × Int)} (h1:(ws.length:Int)=n) (h2:∀ l ∈ ls,0<=l.1/\l.1 < l.2/\l.2 < n) (h3:ls.length<=1700) (nd:ls.Nodup) (h4:∀ w ∈ ws,0<=w) (p:ls'.Perm ls) (so:(ls'.map two).Pairwise fun u v=>HT.iJ v u=false):WL n ws ls':=
 ⟨h1,fun l hl=>h2 l (p.mem_iff.mp hl),by rw [p.length_eq]; exact h3,aK8 so (p.nodup_iff.mpr nd),h4⟩
theorem WL.wb {n:Int}{ws:List Int}{ls:List (Int × Int)} (h:WL n ws ls) (hn:n<=40):Wb ws ls:=
 ⟨by have:=h.many; omega,h.most,fun l hl=>by have:=h.inn l hl; have:=h.many; omega⟩
noncomputable def t6:eQ:=fun Ep xs Q=>∃ ws ls x S,xs = [b9 ws ls,x]/\Wb ws ls/\dD x S/\S.length<=1000/\(aW ws.length S=true->Q (.bl (decide (stay ws ls S=S))))/\(aW ws.length S=false->Ep "BadSet")
noncomputable def ab1 (Ep:Str->Prop):aR:=(aF (bF 2 (kD Ep lB (a7 (a5 0) (a7 (a5 1) a9))))
 (bP (q2 (wF 2 false) (aC sW (a7 (a5 0) (a7 (aC gV (a7 (a5 0) a9)) (a7 (a5 2) a9)))) (a5 2))))
theorem aP1:lA ab1 ["web","block","chosen"] t6:=by
 rintro Ep xs Q ⟨ws,ls,x,S,rfl,wb,hx,hl,q,qe⟩
 refine⟨_,rfl,_,rfl,ws,ls,x,S,rfl,hx,hl,fun hs=>⟨trivial,?_⟩,qe⟩
 have q:=q hs
 refine⟨_,rfl,_,rfl,ws,ls,rfl,wb,_,rfl,ws,ls,_,S,rfl,wb,.inl rfl,hs,_,rfl,.inl ⟨_,_,rfl,rfl⟩,aD7 2 _ _,trivial,?_⟩
 show Q (.bl (cV 3 (.tup (intz (stay ws ls S))) (.tup (intz S))))
 rw [aD6]; exact q
noncomputable def pV (f:List Int->List (Int × Int)->List Int->(PV->Prop)->Prop):eQ:=fun Ep xs Q=>∃ ws ls x ns,xs = [b9 ws ls,x]/\Wb ws ls/\dD x ns/\ns.length<=1000/\(aW ws.length ns=true->f ws ls ns Q)/\(aW ws.length ns=false->Ep "BadSet")
noncomputable def t7:eQ:=pV fun ws ls ns Q=>∀ m,cY ws ls ns m->Q (.lst (tups (ns :: after ws ls ns m)))
noncomputable def t8:eQ:=pV fun ws ls ns Q=>∀ m,cY ws ls ns m->Q (.dK (kC (ns :: after ws ls ns m)))
noncomputable def t9:eQ:=pV fun ws ls ns Q=>∀ ms m,cY ws ls ns m->ms.Perm (bD ws ls ns m)->ms.Pairwise (· <= ·)->Q (.tup (intz ms))
noncomputable def tE:eQ:=pV fun ws ls ns Q=>∀ m,cY ws ls ns m->Q (.bl (decide (((bD ws ls ns m).length:Int)=(ws.length:Int))))
noncomputable def ab2 (Ep:Str->Prop):aR:=(aF (dA 2 (gP (a7 (kD Ep lB (a7 (a5 0) (a7 (a5 1) a9))) a9)))
 (aF (dA 3 (aC gU (a7 (bI (a5 2) (qC (.int 0))) a9)))
 (aF (bF 4 (aC gV (a7 (a5 0) a9)))
 (aF (bF 5 (aC pP (a7 (a5 0) (a7 (a5 4) (a7 (a5 3) a9)))))
 (aF (lR (jE (a5 5))
  (aF (jD 2 (a5 5))
  (aF (rN 3 (aC gU (a7 (a5 5) a9)))
  (bF 5 (aC pP (a7 (a5 0) (a7 (a5 4) (a7 (a5 3) a9))))))))
 (jV 2))))))
theorem aP2:lA ab2 ["web","seeds","told","burning","around","lit"] t7:=by
 rintro Ep xs Q ⟨ws,ls,x,ns,rfl,wb,hx,hl,q,qe⟩
 have few:=wb.few
 refine⟨_,rfl,_,rfl,ws,ls,x,ns,rfl,hx,hl,fun hs=>?_,qe⟩
 have q:=q hs
 have ln:=iX hs
 refine⟨by show 1<=1000; decide,?_,rfl,?_,?_⟩
 ·show (flat (.tup (intz ns)) && true)=true
  rw [xJ]; rfl
 ·show (flat (.tup (intz ns)) && true)=true
  rw [xJ]; rfl
 refine⟨_,rfl,_,_,_,rfl,rfl,rfl,_,ns,rfl,.inl rfl,by omega,fun ps d=>⟨rfl,d.fl,?_⟩⟩
 refine⟨_,rfl,ws,ls,rfl,wb,trivial,?_⟩
 refine⟨_,rfl,_,rfl,_,rfl,ws,ls,ps,ns,rfl,wb,d,trivial,?_⟩
 refine⟨fun n ρ=>∃ k ps,ρ = [some (.sh (flat (b9 ws ls)) (b9 ws ls)),some (.sh (flat x) x),some (.own (.lst (tups (ns :: after ws ls ns k)))),some (.own (.dK ps)),some (.sh true (.lst (cK ws.length ls))),some (.sh true (.tup (intz (nextOf ws ls (bD ws ls ns k)))))]/\
   n=cold ws (bD ws ls ns k)/\DS ps (bD ws ls ns k)/\∀ j < k,nextOf ws ls (bD ws ls ns j) ≠ [],⟨_,0,ps,rfl,rfl,d,fun _ z=>absurd z (Nat.not_lt_zero _)⟩,?_⟩
 rintro n ρ ⟨k,ps,rfl,rfl,d,ne⟩
 refine⟨_,rfl,_,rfl,?_⟩
 cases hn:nextOf ws ls (bD ws ls ns k) with
 | nil=>exact bB ⟨_,rfl,trivial,q k ⟨ne,hn⟩⟩
 | cons y yr=>
  refine bE ?_
  rw [<- hn]
  have cs:=xF ws ls (bD ws ls ns k)
  have nl:1<=(nextOf ws ls (bD ws ls ns k)).length:=by rw [hn]; exact Nat.succ_le_succ (bl0 _)
  have nle:=aI9 ws ls (bD ws ls ns k)
  have sl:=xN (ls:=ls) hs k
  have dl:=d.len
  have ke:=V7 k ne
  refine⟨_,rfl,_,rfl,trivial,?_,?_⟩
  ·rw [k9,bi9]
   unfold after
   rw [bg5,bt8]; omega
  refine⟨_,rfl,_,rfl,_,_,rfl,.inl rfl,by omega,fun mp dm=>⟨mp,rfl,.inl rfl,?_,?_⟩⟩
  ·have:=dm.len; omega
  have D7:DS (iA ps mp) (bD ws ls ns (k+1)):=d.merge dm
  refine⟨_,rfl,_,rfl,_,rfl,ws,ls,_,_,rfl,wb,D7,trivial,?_⟩
  refine⟨_,?_,k+1,iA ps mp,?_,rfl,D7,fun j hj=>?_⟩
  ·show cold ws (bD ws ls ns k ++ nextOf ws ls (bD ws ls ns k)) < _
   omega
  ·rw [V4,<- List.cons_append]
   unfold tups
   rw [bi3]; rfl
  ·by_cases e:j=k
   ·rw [e,hn]; exact fun z=>nomatch z
   ·exact ne j (by omega)
noncomputable def ab3 (Ep:Str->Prop):aR:=(aF (dA 2 (qC (.dK [])))
 (aF (eB (xV (kD Ep t7 (a7 (a5 0) (a7 (a5 1) a9)))) (jX 3 4)
  (eB (cT (a5 4)) (bR 5)
   (mY 2 (a5 5) (a5 3))))
 (jV 2)))
theorem aP3:lA ab3 ["web","seeds","ranks","rank","lit","hearth"] t8:=by
 rintro Ep xs Q ⟨ws,ls,x,ns,rfl,wb,hx,hl,q,qe⟩
 have few:=wb.few
 refine⟨rfl,rfl,_,rfl,_,rfl,ws,ls,x,ns,rfl,wb,hx,hl,fun hs m en=>⟨_,.inl rfl,fun z=>(by cases z),?_⟩,qe⟩
 have q:=q hs
 have fl:=xG ws ls ns m
 have sl:=xN (ls:=ls) hs m
 have nd:=xX (ls:=ls) hs m
 generalize hrs:ns :: after ws ls ns m=rs at fl
 rw [<- fl] at sl nd
 refine⟨fun i ρ=>∃ y z u,ρ = [some (.sh (flat (b9 ws ls)) (b9 ws ls)),some (.sh (flat x) x),some (.own (.dK (kC (rs.take i)))),y,z,u],⟨none,none,none,rfl⟩,?_,?_⟩
 ·rintro i y ρ hy ⟨y0,z0,u0,rfl⟩
  obtain ⟨y,hy2,rfl⟩:=aM3 hy
  obtain ⟨r,rfl,hr⟩:=aJ9 hy2
  have tk:rs.take (i+1)=rs.take i ++ [r]:=by rw [bn6,hr]; rfl
  have il:(rs.take i).length=i:=by
   have:=(bh2.mp hr).1
   rw [bn2]; omega
  have nd2:((rs.take i).flatten ++ r).Nodup/\((rs.take i).flatten ++ r).length<=rs.flatten.length:=by
   have e:rs.flatten=((rs.take i).flatten ++ r) ++ (rs.drop (i+1)).flatten:=by
    rw [<- List.flatten_singleton (l:=r),<- List.flatten_append,<- tk,<- List.flatten_append,bk0]
   rw [e] at nd ⊢
   exact⟨(bo4.mp nd).1,by rw [bh6 (as:=(rs.take i).flatten ++ r)]; omega⟩
  refine⟨_,_,rfl,_,rfl,_,rfl,fun z=>(by cases z),fun j ρ=>∃ u,ρ = [some (.sh (flat (b9 ws ls)) (b9 ws ls)),some (.sh (flat x) x),some (.own (.dK (kC (rs.take i) ++ iE i (r.take j)))),some (.sh true (.int (i:Int))),some (.sh true (.tup (intz r))),u],⟨u0,?_⟩,?_,?_⟩
  ·rw [show iE i (r.take 0) = [] from rfl,bk4]
   rfl
  ·rintro j y ρ hy ⟨u1,rfl⟩
   obtain ⟨n,rfl,hn⟩:=gD hy
   have ke:(kC (rs.take i) ++ iE i (r.take j)).map (·.1)=((rs.take i).flatten ++ r.take j).map (Sum.inl:Int->aB):=by
    rw [bi3,bi3,aa5,aa3]
   have nn:n ∉ (rs.take i).flatten ++ r.take j:=by
    have:=nd2.1
    rw [<- bk0 j r,br3 (bh2.mp hn).1,(bh2.mp hn).2,<- bj2] at this
    exact fun z=>(bo4.mp this).2.2 n z n bg7 rfl
   have le:(kC (rs.take i) ++ iE i (r.take j)).length<=40:=by
    have e1:=congrArg List.length ke
    have e2:=nd2.2
    rw [bg5,bg5,bh6,bh6,bn2] at e1
    rw [bh6] at e2
    rw [bh6]
    omega
   refine⟨_,rfl,_,rfl,_,rfl,Sum.inl n,rfl,trivial,by omega,si n,?_⟩
   rw [xY ke nn,aO3 hn,bj2]
   rfl
  ·rintro ρ ⟨u,rfl⟩
   refine⟨some (.sh true (.int i)),some (.sh true (.tup (intz r))),u,?_⟩
   rw [bA,bn4,tk,aO2,il]
 ·rintro ρ ⟨y,z,u,rfl⟩
  rw [xT,k9,bn4,<- hrs]
  exact⟨_,rfl,trivial,q m en⟩
noncomputable def ab4 (Ep:Str->Prop):aR:=(bP (aC fQ (a7 (aC sX (a7 (kD Ep t8 (a7 (a5 0) (a7 (a5 1) a9))) a9)) a9)))
theorem aP4:lA ab4 ["web","seeds"] t9:=by
 rintro Ep xs Q ⟨ws,ls,x,ns,rfl,wb,hx,hl,q,qe⟩
 have few:=wb.few
 refine⟨_,rfl,_,rfl,ws,ls,x,ns,rfl,wb,hx,hl,fun hs m en=>?_,qe⟩
 have sl:=xN (ls:=ls) hs m
 refine⟨_,bD ws ls ns m,rfl,?_,by omega,fun ms hp ho=>⟨⟨_,_,rfl,rfl,c6 _,trivial,q hs ms m en hp ho⟩,fun ns z=>by cases z⟩⟩
 rw [aa5,xG]
noncomputable def ab5 (Ep:Str->Prop):aR:=(bP (gR (aC cS (a7 (kD Ep t9 (a7 (a5 0) (a7 (a5 1) a9))) a9)) (aC iB (a7 (a5 0) a9))))
theorem aP5:lA ab5 ["web","seeds"] tE:=by
 rintro Ep xs Q ⟨ws,ls,x,ns,rfl,wb,hx,hl,q,qe⟩
 refine⟨_,rfl,_,rfl,ws,ls,x,ns,rfl,wb,hx,hl,fun hs ms m en hp ho=>⟨_,_,rfl,rfl,_,rfl,ws,ls,rfl,.inl ⟨_,_,rfl,rfl,trivial,?_⟩⟩,qe⟩
 rw [bA,hp.length_eq]
 exact q hs m en
noncomputable def tF:bK:=fun xs Q=>∃ ws ls y ms,xs = [b9 ws ls,y]/\dD y ms/\ms.length<=1000/\ws.length<=1000/\Q (.tup (intz (jH ws.length ms)))
noncomputable def ab6:aR:=(bP (aC nN (a7 (xO (aC iB (a7 (a5 0) a9))) (a7 (a5 1) a9))))
theorem aP6:cC ab6 ["web","some"] tF:=by
 rintro xs Q ⟨ws,ls,y,ms,rfl,hy,hm,hw,q⟩
 refine⟨_,rfl,ws,ls,rfl,_,rfl,by omega,by omega,?_⟩
 rw [aK6]
 refine⟨_,rfl,_,rng ws.length,y,ms,rfl,.inr rfl,hy,by rw [cX]; omega,hm,trivial,q⟩
end Core
namespace PP
open PySem L2
section
variable {X : Cx} {a : Expr} {tk : aG} {σ : St} {H : Hp} {Q' : VK} {pos p2 : Pos}
noncomputable def yE (tk:aG):aG:=fun ρ Q=>tk ρ fun x _=>∃ n:Int,x = .int n/\Q (.dK [(Sum.inl n,.bl true)]) .fr
theorem aP7 (h:LE X (yE tk) σ H Q'):J4 [(LE X tk,tC (.bl true))] σ H Q':=by
 obtain ⟨W,ρ,Q,px,q,k⟩:=h
 intro p hp
 refine⟨W,ρ,_,px.mono (bN hp _),q,?_⟩
 rintro v H1 x g s r ⟨n,rfl,q1⟩
 cases r
 have hp1:H1 p=some (.dK []):=s p _ bL
 refine⟨hp1,[((Sum.inl n:aB),V.bl true)],rfl,by show 1<=15; decide,?_⟩
 have sm:aD H (upd H1 p (.dK (jC [] [((Sum.inl n:aB),V.bl true)]))):=fun b o e=>by
  have nb:b ≠ p:=fun z=>by rw [z,hp] at e; cases e
  rw [aY nb]
  exact s b o (by rw [aY nb]; exact e)
 exact k _ _ _ .fr sm (.dK hp bL rfl (.cons (.bl true) .nil)) q1
theorem aP8 {j:Nat} (ha:QE X a tk):QE X (.Dict [some a] [.Constant (.bool true) j p2] pos) (yE tk):=
 cG (au7 (au6 ha zQ au5) rfl rfl (by simp) (by show 1<=15; decide)) fun _ _ _=>aP7
theorem aP9 (hN:X.N.Nodup) (i j:Nat) {x y:Str}{apos cpos xpos:Pos} (hi:X.N[i]? = some x:=by rfl) (hj:X.N[j]? = some y:=by rfl) (hv:gI X.env.scope x:=by first | exact Or.inl rfl | exact Or.inr (Or.inl rfl) | exact Or.inr (Or.inr rfl)) (hd:(x == ("__debug__" : Str))=false:=by decide) (hcd:(x == ("__classdict__" : Str))=false:=by decide)
  (hbase:attributeBase (.Name x xpos) "pop" X.env (eval (.Name x xpos) X.env)=eval (.Name x xpos) X.env:=by rfl) (hline:(apos.endLine == cpos.line)=true:=by rfl)
  (hx:j7 X.env.scope y:=by first | exact Or.inl rfl | exact Or.inr rfl) (hs:swapsWith (.Call (.Attribute (.Name x xpos) "pop" apos) [] [] cpos) (some (.Name y p2)) pos.line X.env=pure false:=by rfl) (hf:X.fn y=true ∨ X.env.scope.names.lookup y=some .local:=by first | exact .inl rfl | exact .inr rfl) :
  QS X (.Assign [.Name y p2] (.Call (.Attribute (.Name x xpos) "pop" apos) [] [] cpos) pos) (vW i j):=
 eD (uD hN hj hx (at0 bp1 PySem.F.slot_list_pop PySem.F.type_list_pop at4 (j8 hi hv hd hcd) hbase hline) hs hf) fun _ _ _=>aB1
end
end PP
namespace Core
open PySem L2 PP
noncomputable def gX (R:List Int):List (aB × PV):=R.map fun x=>((Sum.inl x:aB),PV.bl true)
theorem ab7 (R:List Int):(gX R).map (·.1)=R.map (Sum.inl:Int->aB):=by unfold gX; rw [bo8]; rfl
theorem aQ0 (R:List Int):(gX R).length=R.length:=by unfold gX; rw [bg5]
theorem aQ1 (R:List Int) (n:Int):(bM (gX R) (Sum.inl n:aB)).isSome=decide (n ∈ R):=by
 rw [<- sO,bl8,List.any_eq_true,bk2]
 unfold gX
 refine⟨fun ⟨p,hp,e⟩=>?_,fun h=>⟨_,bi4.mpr ⟨n,h,rfl⟩,bg2 rfl⟩⟩
 obtain ⟨x,hx,rfl⟩:=bi4.mp hp
 have e:(Sum.inl x:aB)=Sum.inl n:=bl6 e
 rw [<- Sum.inl.inj e]; exact hx
theorem aQ2 {R:List Int}{y:Int} (h:y ∉ R):dO (gX R) (Sum.inl y:aB) (.bl true)=gX (R ++ [y]):=by
 rw [xY (ab7 R) h]
 unfold gX
 rw [bi3]; rfl
structure yF (n:Nat) (ls:List (Int × Int)) (S P:List Int):Prop where
 set:aW n P=true
 ne:P ≠ []
 sub:∀ x ∈ P,x ∈ S
 shut:∀ x ∈ P,∀ y ∈ aH ls x,y ∈ S->y ∈ P
 got:∀ h ∈ S.head?,h ∈ P
 least:∀ U:List Int,(∀ x ∈ U,∀ y ∈ aH ls x,y ∈ S->y ∈ U)->(∀ h ∈ S.head?,h ∈ U)->∀ x ∈ P,x ∈ U
noncomputable def tG:bK:=fun xs Q=>∃ ws ls S,xs = [.lst (cK ws.length ls),.tup (intz S)]/\Wb ws ls/\aW ws.length S=true/\S ≠ []/\∀ P,yF ws.length ls S P->Q (.tup (intz P))
noncomputable def ab8:aR:=(aF (bF 2 (aC gU (a7 (a5 1) a9)))
 (aF (dA 3 (yE (bI (a5 1) (qC (.int 0)))))
 (aF (dA 4 (gP (a7 (bI (a5 1) (qC (.int 0))) a9)))
 (aF (lR (jE (a5 4))
  (aF (vW 4 5)
  (eB (cT (bI (a5 0) (a5 5))) (bR 6)
   (cR (oO (bC (iR false (a5 6) (a5 2))) (bC (iR true (a5 6) (a5 3)))) (aF (mY 3 (a5 6) (qC (.bl true)))
    (jD 4 (a5 6))) cZ))))
 (bP (aC fQ (a7 (aC sX (a7 (a5 3) a9)) a9)))))))
structure Way (ls:List (Int × Int)) (S R W:List Int) (E:Int->Prop):Prop where
 nd:R.Nodup
 ne:R ≠ []
 sub:∀ x ∈ R,x ∈ S
 wait:∀ x ∈ W,x ∈ R
 shut:∀ x ∈ R,x ∉ W->¬ E x->∀ y ∈ aH ls x,y ∈ S->y ∈ R
 got:∀ h ∈ S.head?,h ∈ R
 least:∀ U:List Int,(∀ x ∈ U,∀ y ∈ aH ls x,y ∈ S->y ∈ U)->(∀ h ∈ S.head?,h ∈ U)->∀ x ∈ R,x ∈ U
theorem aQ3:cC ab8 ["around","hearths","inside","reached","waiting","hearth","other"] tG:=by
 rintro xs Q ⟨ws,ls,S,rfl,wb,hS,hne,q⟩
 have few:=wb.few
 have most:=wb.most
 have sl:=iX hS
 have snd:S.Nodup:=(fA (cL hS).1).imp fun h=>bq5 h
 obtain ⟨s0,sr,rfl⟩:∃ s0 sr,S=s0 :: sr:=by
  cases S with
  | nil=>exact absurd rfl hne
  | cons a r=>exact⟨a,r,rfl⟩
 have i0:L2.atI (intz (s0 :: sr)) (0:Int)=some (.int s0):=o8 (xs:=intz (s0 :: sr)) (j:=0) rfl
 generalize hSS:s0 :: sr=S at *
 have m0:s0 ∈ S:=by rw [<- hSS]; exact bg7
 have hd:∀ h,h ∈ S.head? ↔ h=s0:=fun h=>by rw [<- hSS]; exact⟨fun z=>by cases z; rfl,fun z=>by rw [z]; rfl⟩
 refine⟨_,rfl,_,S,rfl,.inl rfl,by omega,fun pm dm=>⟨trivial,?_⟩⟩
 refine⟨_,rfl,_,_,_,rfl,rfl,i0,s0,rfl,rfl,rfl,?_⟩
 refine⟨_,rfl,_,_,_,rfl,rfl,i0,by show 1<=1000; decide,rfl,rfl,rfl,?_⟩
 refine⟨fun n ρ=>∃ (R W:List Int) (y5 y6:Option Slot),ρ = [some (.sh (flat (.lst (cK ws.length ls))) (.lst (cK ws.length ls))),some (.sh (flat (.tup (intz S))) (.tup (intz S))),some (.sh true (.dK pm)),some (.own (.dK (gX R))),some (.own (.lst (intz W))),y5,y6]/\
   n=2 * (S.length - R.length)+W.length/\n<=2 * S.length/\Way ls S R W fun _=>False,⟨_,[s0],[s0],none,none,rfl,rfl,by rw [<- hSS]; simp; omega,bj4 _ _,(fun z=>nomatch z),(fun x hx=>by rw [bh1.mp hx]; exact m0),fun _ h=>h,fun x hx hw=>absurd hx hw,fun h hh=>bh1.mpr ((hd h).mp hh),fun U _ hU x hx=>by rw [bh1.mp hx]; exact hU s0 ((hd s0).mpr rfl)⟩,?_⟩
 rintro n ρ ⟨R,W,y5,y6,rfl,rfl,bd,wy⟩
 refine⟨_,rfl,_,rfl,?_⟩
 have rl:R.length<=S.length:=wy.nd.length_le_of_subset wy.sub
 rcases List.eq_nil_or_concat W with hW | ⟨W',h,hW⟩
 ·subst hW
  refine bB ⟨_,rfl,_,R,rfl,ab7 R,by omega,fun ms pm so=>⟨⟨_,_,rfl,rfl,c6 _,trivial,q ms ⟨?_,?_,?_,?_,fun h hh=>pm.mem_iff.mpr (wy.got h hh),fun U hU hh x hx=>wy.least U hU hh x (pm.mem_iff.mp hx)⟩⟩,fun ns z=>by cases z⟩⟩
  ·have nd:ms.Nodup:=pm.nodup_iff.mpr wy.nd
   have up:ms.Pairwise (· < ·):=(List.Pairwise.and so nd).imp fun z=>Int.lt_iff_le_and_ne.mpr ⟨z.1,z.2⟩
   have u:eO (ws.length:Int) ms:=⟨up,fun x hx=>(cL hS).2 x (wy.sub x (pm.mem_iff.mp hx)),by rw [pm.length_eq]; omega⟩
   exact u.set
  ·intro z; rw [z] at pm; exact wy.ne (List.nil_perm.mp pm)
  ·exact fun x hx=>wy.sub x (pm.mem_iff.mp hx)
  ·exact fun x hx y hy hyS=>pm.mem_iff.mpr (wy.shut x (pm.mem_iff.mp hx) (fun z=>nomatch z) (fun z=>z) y hy hyS)
 ·have hW:W=W' ++ [h]:=by rw [hW]; simp
  subst hW
  have hR:h ∈ R:=wy.wait h (by simp)
  have hb:=(cL hS).2 h (wy.sub h hR)
  have nz:(!(intz (W' ++ [h])).isEmpty)=true:=by rw [fS]; cases W' <;> rfl
  show if (!(intz (W' ++ [h])).isEmpty)=true then _ else _
  rw [nz]
  refine bE ⟨intz W',.int h,by rw [fS]; rfl,?_⟩
  refine⟨_,rfl,_,rfl,_,_,_,rfl,rfl,pO hb.1 hb.2,_,rfl,(fun z=>by cases z),fun j ρ=>∃ (R2 W2:List Int) (y6:Option Slot),ρ = [some (.sh (flat (.lst (cK ws.length ls))) (.lst (cK ws.length ls))),some (.sh (flat (.tup (intz S))) (.tup (intz S))),some (.sh true (.dK pm)),some (.own (.dK (gX R2))),some (.own (.lst (intz W2))),si h,y6]/\
    2 * (S.length - R2.length)+W2.length < 2 * (S.length - R.length)+(W' ++ [h]).length/\Way ls S R2 W2 (fun x=>x=h)/\h ∈ R2/\∀ y ∈ (aH ls h).take j,y ∈ S->y ∈ R2,
    ⟨R,W',y6,rfl,by rw [bh6,bk5]; omega,⟨wy.nd,wy.ne,wy.sub,fun x hx=>wy.wait x (bk3 _ hx),fun x hx hw he=>wy.shut x hx (fun z=>(bh4.mp z).elim hw fun z=>he (bh1.mp z)) fun z=>z,wy.got,wy.least⟩,hR,fun y hy=>by rw [List.take_zero] at hy; cases hy⟩,?_,?_⟩
  ·rintro j y ρ hy ⟨R2,W2,y6,rfl,lt,wy2,hR2,seen⟩
   obtain ⟨o,rfl,ho⟩:=gD hy
   have rl2:R2.length<=S.length:=wy2.nd.length_le_of_subset wy2.sub
   have tk:∀ y,y ∈ (aH ls h).take (j+1)->y ∈ (aH ls h).take j ∨ y=o:=fun y z=>by
    rw [bn6,ho] at z
    rcases bh4.mp z with z | z
    ·exact .inl z
    ·exact .inr (by simpa using z)
   refine l8 ?_
   refine⟨_,rfl,_,rfl,_,.inl ⟨pm,Sum.inl o,rfl,rfl,rfl⟩,_,rfl,?_⟩
   show if (bM pm (Sum.inl o:aB)).isSome=true then _ else _
   rw [dm.has o]
   by_cases h1:o ∈ S
   ·rw [bg2 h1]
    refine bE ⟨_,rfl,_,rfl,_,.inl ⟨gX R2,Sum.inl o,rfl,rfl,rfl⟩,_,rfl,?_⟩
    show if (!(bM (gX R2) (Sum.inl o:aB)).isSome)=true then _ else _
    rw [aQ1]
    by_cases h2:o ∈ R2
    ·rw [bg2 h2]
     exact bB ⟨R2,W2,si o,rfl,lt,wy2,hR2,fun y z zS=>(tk y z).elim (fun z=>seen y z zS) fun e=>by rw [e]; exact h2⟩
    ·rw [bg4 h2]
     have nd3:(R2 ++ [o]).Nodup:=bo4.mpr ⟨wy2.nd,bj4 _ _,fun a ha b hb e=>h2 (by rw [bh1.mp hb] at e; rw [<- e]; exact ha)⟩
     have sub3:∀ x ∈ R2 ++ [o],x ∈ S:=fun x hx=>(bh4.mp hx).elim (wy2.sub x) fun z=>by rw [bh1.mp z]; exact h1
     have l3:(R2 ++ [o]).length<=S.length:=nd3.length_le_of_subset sub3
     rw [bh6,bk5] at l3
     refine bE ⟨_,rfl,_,rfl,Sum.inl o,rfl,trivial,by rw [aQ0]; omega,?_⟩
     rw [aQ2 h2]
     refine⟨_,rfl,_,rfl,trivial,by rw [bA]; omega,R2 ++ [o],W2 ++ [o],si o,?_,?_,⟨nd3,(fun z=>by simp at z),sub3,fun x hx=>?_,fun x hx hw he y hy yS=>?_,fun h hh=>bk3 _ (wy2.got h hh),fun U hU hh x hx=>(bh4.mp hx).elim (wy2.least U hU hh x) fun z=>by rw [bh1.mp z]; exact hU h (wy2.least U hU hh h hR2) o (bh9 ho) h1⟩,bk3 _ hR2,fun y z zS=>?_⟩
     ·rw [fS]; rfl
     ·simp only [bh6,bk5] at lt ⊢; omega
     ·rcases bh4.mp hx with z | z
      ·exact bk3 _ (wy2.wait x z)
      ·exact bj6 _ z
     ·rcases bh4.mp hx with z | z
      ·exact bk3 _ (wy2.shut x z (fun z=>hw (bk3 _ z)) he y hy yS)
      ·exact absurd (bj6 _ z) hw
     ·rcases tk y z with z | e
      ·exact bk3 _ (seen y z zS)
      ·rw [e]; exact bj6 _ (bh1.mpr rfl)
   ·rw [bg4 h1]
    exact bB (bB ⟨R2,W2,si o,rfl,lt,wy2,hR2,fun y z zS=>(tk y z).elim (fun z=>seen y z zS) fun e=>absurd (e ▸ zS) h1⟩)
  ·rintro ρ ⟨R2,W2,y6,rfl,lt,wy2,hR2,seen⟩
   rw [bA,bn4] at seen
   refine⟨_,lt,R2,W2,si h,y6,rfl,rfl,by omega,wy2.nd,wy2.ne,wy2.sub,wy2.wait,fun x hx hw _ y hy yS=>?_,wy2.got,wy2.least⟩
   by_cases e:x=h
   ·subst e; exact seen y hy yS
   ·exact wy2.shut x hx hw e y hy yS
noncomputable def ab9 (Ep:Str->Prop):aR:=(aF (bF 2 (aC gV (a7 (a5 0) a9)))
 (aF (bF 3 (kD Ep lB (a7 (a5 0) (a7 (a5 1) a9))))
 (aF (dA 4 (gP a9))
 (aF (lR (jE (a5 3))
  (aF (bF 5 (aC tG (a7 (a5 2) (a7 (a5 3) a9))))
  (aF (jD 4 (a5 5))
  (bF 3 (aC nN (a7 (a5 3) (a7 (a5 5) a9)))))))
 (jV 4)))))
theorem aQ4 (n:Nat):rng (n+1)=rng n ++ [(n:Int)]:=by
 unfold rng; rw [List.range_succ,bi3]; rfl
theorem tH (n:Nat) (a:Int):(List.replicate n [PV.int a]).flatten=intz (List.replicate n a):=by
 induction n with
 | zero=>rfl
 | succ n ih=>rw [bq1,bq1,br6,ih]; rfl
section
variable {ws : List Int} {ls : List (Int × Int)}
noncomputable def cne (ws:List Int) (ls:List (Int × Int)) (S:List Int):Bool:=!decide (S = []) && decide (stay ws ls S=S)
end
theorem tI {b:Bool}{A B:Prop} (a:A) (c:B):if b=true then A else B:=by
 cases b with
 | true=>exact bE a
 | false=>exact bB c
noncomputable def far (ns S:List Int):Bool:=decide (((S.filter fun x=>decide (x ∈ ns)).length:Int)=0)
noncomputable def eR (ls:List (Int × Int)) (S U:List Int):Prop:=∀ x ∈ U,∀ y ∈ aH ls x,y ∈ S->y ∈ U
noncomputable def comp (ls:List (Int × Int)) (S:List Int) (h:Int):List Int:=S.filter fun x=>@decide (∀ U:List Int,eR ls S U->h ∈ U->x ∈ U) (Classical.propDecidable _)
section
variable {ws : List Int} {ls : List (Int × Int)} {S : List Int} {n : Nat} {h x : Int}
theorem fV:x ∈ comp ls S h ↔ x ∈ S/\∀ U,eR ls S U->h ∈ U->x ∈ U:=by
 unfold comp
 rw [bh8]
 exact⟨fun z=>⟨z.1,@bl6 _ (Classical.propDecidable _) z.2⟩,fun z=>⟨z.1,@bg2 _ (Classical.propDecidable _) z.2⟩⟩
theorem nP:∀ x ∈ comp ls S h,x ∈ S:=fun x hx=>(fV.mp hx).1
theorem fW (hh:h ∈ S):h ∈ comp ls S h:=fV.mpr ⟨hh,fun _ _ z=>z⟩
theorem iY:eR ls S (comp ls S h):=fun x hx y hy yS=>fV.mpr ⟨yS,fun U hU z=>hU x ((fV.mp hx).2 U hU z) y hy yS⟩
theorem gE (hS:aW n S=true):aW n (comp ls S h)=true:=sV hS _
theorem aQ5 {P:List Int} (hS:aW n S=true) (hP:aW n P=true) (hs:∀ x ∈ P,x ∈ S) (hh:h ∈ P) (sh:eR ls S P) (le:∀ U,eR ls S U->h ∈ U->∀ x ∈ P,x ∈ U):P=comp ls S h:=
 aa1 hP (gE hS) fun x=>⟨fun hx=>fV.mpr ⟨hs x hx,fun U hU z=>le U hU z x hx⟩,fun hx=>(fV.mp hx).2 P sh hh⟩
theorem jI (hS:aW n S=true) (hx:x ∈ comp ls S h) (hh:h ∈ S):comp ls S x=comp ls S h:=by
 have back:h ∈ comp ls S x:=by
  refine fV.mpr ⟨hh,fun U hU xU=>?_⟩
  refine bl5 fun hn=>?_
  have sv:eR ls S (S.filter fun z=>!decide (z ∈ U)):=fun a ha b hb bS=>by
   rw [bh8] at ha ⊢
   refine⟨bS,?_⟩
   by_cases bU:b ∈ U
   ·have:=hU b bU a (mR hb) ha.1
    rw [bg2 this] at ha; exact absurd ha.2 (by decide)
   ·rw [bg4 bU]; rfl
  have:=(fV.mp hx).2 _ sv (bh8.mpr ⟨hh,by rw [bg4 hn]; rfl⟩)
  rw [bh8,bg2 xU] at this
  exact absurd this.2 (by decide)
 exact aa1 (gE hS) (gE hS) fun y=>⟨fun hy=>(fV.mp hy).2 _ iY hx,fun hy=>(fV.mp hy).2 _ iY back⟩
theorem jJ {L:List Int}{a:Int} (hL:aW n L=true) (ha:L.head? = some a):a ∈ L/\∀ x ∈ L,a=x ∨ a < x:=by
 cases L with
 | nil=>cases ha
 | cons b r=>
  cases ha
  refine⟨bg7,fun x hx=>?_⟩
  rcases bg8.mp hx with e | hx
  ·exact .inl e.symm
  ·exact .inr ((bq8.mp (fA (cL hL).1)).1 x hx)
theorem yG {L:List Int}{a:Int} (hL:aW n L=true) (ha:a ∈ L) (hl:∀ x ∈ L,a<=x):L.head? = some a:=by
 cases L with
 | nil=>cases ha
 | cons b r=>
  rcases bg8.mp ha with e | e
  ·rw [e]; rfl
  ·have h1:=(bq8.mp (fA (cL hL).1)).1 a e
   have h2:=hl b bg7
   omega
noncomputable def pW (ls:List (Int × Int)) (S:List Int) (h:Int):Bool:=decide ((comp ls S h).head? = some h)
noncomputable def aZ (ls:List (Int × Int)) (S:List Int):List Int:=S.filter (pW ls S)
theorem aQ6 {A B:List Int} (ua:A.Pairwise (· < ·)) (ub:B.Pairwise (· < ·)) (h:∀ x,x ∈ A ↔ x ∈ B):A=B:=
 Y7 ((List.perm_ext_iff_of_nodup (ua.imp fun z=>bq5 z) (ub.imp fun z=>bq5 z)).mpr h) (ua.imp fun z=>bu2 z) (ub.imp fun z=>bu2 z)
theorem aQ7 {L:List Int}{a:Int} (hS:aW n S=true) (hL:aW n L=true) (sub:∀ x ∈ L,x ∈ S) (ha:L.head? = some a) (pl:∀ x ∈ comp ls S a,x ∈ L)
  (lt:∀ h ∈ (aZ ls S).filter (fun z=>!decide (z ∈ L)),∀ x ∈ L,h < x) :
  (aZ ls S).filter (fun z=>!decide (z ∈ L.filter fun z=>!decide (z ∈ comp ls S a)))=(aZ ls S).filter (fun z=>!decide (z ∈ L)) ++ [a]:=by
 obtain ⟨aL,al⟩:=jJ hL ha
 have aS:=sub a aL
 have hu:(aZ ls S).Pairwise (· < ·):=fA (cL (sV hS (pW ls S))).1
 have hd:(comp ls S a).head? = some a:=yG (gE hS) (fW aS) fun x hx=>by rcases al x (pl x hx) with e | e <;> omega
 refine aQ6 (hu.sublist List.filter_sublist) (bl2.mpr ⟨hu.sublist List.filter_sublist,bj4 _ _,fun x hx y hy=>by rw [bh1.mp hy]; exact lt x hx a aL⟩) fun x=>?_
 simp only [bh4,bh1,bh8,bw5,bk9,not_and,Decidable.not_not]
 constructor
 ·rintro ⟨hx,hn⟩
  by_cases xL:x ∈ L
  ·refine .inr ?_
   have xc:=hn xL
   have h1:(comp ls S x).head? = some x:=bl6 (bh8.mp hx).2
   rw [jI hS xc aS,hd] at h1
   cases h1; rfl
  ·exact .inl ⟨hx,xL⟩
 ·rintro (⟨hx,xL⟩ | rfl)
  ·exact⟨hx,fun z=>absurd z xL⟩
  ·exact⟨bh8.mpr ⟨aS,bg2 hd⟩,fun _=>fW aS⟩
theorem yF.comp {L P:List Int}{a:Int} (hS:aW n S=true) (sub:∀ x ∈ L,x ∈ S) (sh:eR ls S L) (ha:L.head? = some a) (pc:yF n ls L P):P=comp ls S a:=by
 have ea:∀ z,z ∈ L.head?->z=a:=fun z hz=>by rw [ha] at hz; cases hz; rfl
 exact aQ5 hS pc.set (fun x hx=>sub x (pc.sub x hx)) (pc.got a ha) (fun x hx y hy yS=>pc.shut x hx y hy (sh x (pc.sub x hx) y hy yS))
  fun U hU aU=>pc.least U (fun x hx y hy yL=>hU x hx y hy (sub y yL)) fun z hz=>by rw [ea z hz]; exact aU
end
noncomputable abbrev aQ8:=ab9
noncomputable def iZ (ls:List (Int × Int)) (S:List Int):List (List Int):=(aZ ls S).map (comp ls S)
noncomputable def tJ:eQ:=pV fun ws ls S Q=>Q (.lst (tups (iZ ls S)))
theorem aQ9:lA ab9 ["web","block","around","left","pieces","piece"] tJ:=by
 rintro Ep xs Q ⟨ws,ls,x,S,rfl,wb,hx,hl,q,qe⟩
 have few:=wb.few
 refine⟨_,rfl,ws,ls,rfl,wb,trivial,?_⟩
 refine⟨_,rfl,_,rfl,ws,ls,x,S,rfl,hx,hl,fun hs=>⟨trivial,?_⟩,qe⟩
 have q:Q (.lst (tups (iZ ls S))):=q hs
 have sl:=iX hs
 refine⟨by decide,rfl,rfl,rfl,?_⟩
 refine⟨fun n ρ=>∃ (L:List Int) (Ps:List (List Int)) (y5:Option Slot),ρ = [some (.sh (flat (b9 ws ls)) (b9 ws ls)),some (.sh (flat x) x),some (.sh true (.lst (cK ws.length ls))),some (.sh true (.tup (intz L))),some (.own (.lst (tups Ps))),y5]/\
   n=L.length/\aW ws.length L=true/\Ps.length+L.length<=S.length/\(∀ x ∈ L,x ∈ S)/\eR ls S L/\Ps=((aZ ls S).filter fun z=>!decide (z ∈ L)).map (comp ls S)/\∀ h ∈ (aZ ls S).filter (fun z=>!decide (z ∈ L)),∀ x ∈ L,h < x,⟨_,S,[],none,rfl,rfl,hs,by simp,fun _ h=>h,fun _ _ _ _ h=>h,?_,?_⟩,?_⟩
 ·rw [br2.mpr fun z hz=>?_]; rfl
  rw [bg2 (bh8.mp hz).1]; decide
 ·intro h hh
  have:=bh8.mp hh
  rw [bg2 (bh8.mp this.1).1] at this
  exact absurd this.2 (by decide)
 rintro n ρ ⟨L,Ps,y5,rfl,rfl,lset,bd,sub,sh,eP,lt⟩
 refine⟨_,rfl,_,rfl,?_⟩
 cases hL:L with
 | nil=>
  refine bB ⟨_,rfl,trivial,?_⟩
  have e:(aZ ls S).filter (fun z=>!decide (z ∈ L))=aZ ls S:=bq3.mpr fun z _=>by rw [hL]; rfl
  rw [e] at eP
  rw [eP]; exact q
 | cons a r=>
  rw [<- hL]
  have ne:(!(intz L).isEmpty)=true:=by rw [hL]; rfl
  have nl:L ≠ []:=by rw [hL]; exact fun z=>nomatch z
  have hd:L.head? = some a:=by rw [hL]; rfl
  show if (!(intz L).isEmpty)=true then _ else _
  rw [ne]
  refine bE ?_
  have ll:=iX lset
  refine⟨_,rfl,_,rfl,ws,ls,L,rfl,wb,lset,nl,fun P pc=>⟨trivial,?_⟩⟩
  have pn:P.Nodup:=(fA (cL pc.set).1).imp fun h=>bq5 h
  have pl:P.length<=L.length:=pn.length_le_of_subset pc.sub
  refine⟨_,rfl,_,rfl,trivial,by rw [k9]; omega,?_⟩
  refine⟨_,rfl,_,rfl,_,L,_,P,rfl,.inl rfl,.inl rfl,by omega,by omega,trivial,?_⟩
  have aP:=pc.got a hd
  obtain ⟨aL,al⟩:=jJ lset hd
  have lt2:(L.filter fun z=>!decide (z ∈ P)).length < L.length:=by
   rcases bl9 (L.filter fun z=>!decide (z ∈ P)).length L.length with z | z
   ·exact z
   ·have:=bq3.mp (List.filter_sublist.eq_of_length_le z) a aL
    rw [bg2 aP] at this; cases this
  have ec:=pc.comp hs sub sh hd
  have hn:=aQ7 hs lset sub hd (fun x hx=>pc.sub x (by rw [ec]; exact hx)) lt
  rw [<- ec] at hn
  refine⟨_,lt2,L.filter (fun z=>!decide (z ∈ P)),Ps ++ [P],some (.sh true (.tup (intz P))),?_,rfl,sV lset _,by rw [bh6,bk5]; omega,fun x hx=>sub x (bh8.mp hx).1,?_,?_,?_⟩
  ·unfold tups
   rw [bi3]; rfl
  ·intro x hx y hy yS
   rw [bh8] at hx ⊢
   refine⟨sh x hx.1 y hy yS,?_⟩
   by_cases yP:y ∈ P
   ·have:=pc.shut y yP x (mR hy) hx.1
    rw [bg2 this] at hx; exact absurd hx.2 (by decide)
   ·rw [bg4 yP]; rfl
  ·rw [hn,bi3,<- eP,ec]; rfl
  ·rw [hn]
   intro h hh x hx
   rw [bh8] at hx
   rcases bh4.mp hh with hh | hh
   ·exact lt h hh x hx.1
   ·rw [bh1.mp hh]
    rcases al x hx.1 with e | e
    ·rw [<- e,bg2 aP] at hx; exact absurd hx.2 (by decide)
    ·exact e
end Core
namespace PP
open PySem L2
section
variable {X : Cx} {a b : Expr} {ta tb : aG} {pos : Pos}
noncomputable def yH:PV->Tg->PV->Tg->PK->Prop:=fun x _ y _ Q=>∃ (i:Int) (o:Option Int),x = .int i/\y=Core.jG o/\Q (.bl (!decide (o=some i))) .fr
theorem aR0:fP X yH uJ:=by
 rintro W Hs H u v x y g g' Q Q' s n r1 r2 ⟨i,o,rfl,rfl,q⟩ k
 cases r1
 cases o with
 | none=>
  cases r2
  exact⟨rfl,k _ _ _ .fr (aD.refl _) (.bl true) q⟩
 | some j=>
  cases r2
  have e:decide (V.int i=V.int j)=decide (some j=some i):=decide_eq_decide.mpr ⟨fun z=>by cases z; rfl,fun z=>by cases z; rfl⟩
  refine⟨rfl,?_⟩
  rw [e]
  exact k _ _ _ .fr (aD.refl _) (.bl _) q
theorem aR1 (ha:QE X a ta) (hb:QE X b tb):QT X (.Compare a [.NotEq] [b] pos) (bC (q2 yH ta tb)):=kX B8 aR0 ha hb (gK _)
end
end PP
namespace Core
open PySem L2 PP
noncomputable def ac0 (ws:List Int) (ls:List (Int × Int)):List Int->List Int->Bool
 | _,[]=>true
 | B,h :: R=>inB ws.length h && (kin ws ls B h && ac0 ws ls (B ++ [h]) R)
end Core
namespace Raw
open PySem PySem.W PySem.Calls PyProof.Rows
theorem yI {xs:List Nat} (a:xs.Pairwise (· < ·)) {i k:Nat} (hk:k < xs.length) (h:i<=k):xs.getD i 0<=xs.getD k 0:=by
 rcases bl9 i k with z | z
 ·have:=bl4.mp a i k (by omega) hk z
  rw [bi1,bi1,bg3 (by omega),bg3 hk]
  exact bn7 this
 ·rw [Nat.le_antisymm h z]; exact bg9 _
theorem aR2 {xs:Array Nat}{i j:Nat} (h:i < xs.size):xs.getD i j=xs.toList.getD i 0:=by
 rw [bi1,bo7,Array.getD_eq_getD_getElem?,Array.getElem?_eq_getElem h]; rfl
theorem yJ {xs:Array Nat}{j:Nat} (a:xs.toList.Pairwise (· < ·)):∀ (fuel lo hi:Nat),lo<=hi->hi<=xs.size->hi - lo<=fuel->(∀ i,i < lo->xs.toList.getD i 0 < j)->(∀ i,hi<=i->i < xs.size->j<=xs.toList.getD i 0)->
  SetTable.below.go xs j fuel lo hi<=xs.size/\(∀ i,i < SetTable.below.go xs j fuel lo hi->xs.toList.getD i 0 < j)/\∀ i,SetTable.below.go xs j fuel lo hi<=i->i < xs.size->j<=xs.toList.getD i 0
 | 0,lo,hi,h1,h2,h3,h4,h5=>by
  have e:lo=hi:=by omega
  subst e
  exact⟨h2,h4,h5⟩
 | fuel+1,lo,hi,h1,h2,h3,h4,h5=>by
  have sz:xs.toList.length=xs.size:=bl7
  unfold SetTable.below.go
  by_cases lt:lo < hi
  ·rw [if_pos lt]
   dsimp only
   have m1:lo<=(lo+hi) / 2:=by omega
   have m2:(lo+hi) / 2 < hi:=by omega
   rw [aR2 (by omega)]
   by_cases c:xs.toList.getD ((lo+hi) / 2) 0 < j
   ·rw [if_pos c]
    exact yJ a fuel _ _ (by omega) h2 (by omega) (fun i hi'=>Nat.lt_of_le_of_lt (yI a (by omega) (by omega)) c) h5
   ·rw [if_neg c]
    exact yJ a fuel _ _ (by omega) (by omega) (by omega) h4 fun i h6 h7=>bl1 (bs9 c) (yI a (by omega) h6)
  ·rw [if_neg lt]
   have e:lo=hi:=by omega
   subst e
   exact⟨h2,h4,h5⟩
theorem aR3 {xs:Array Nat}{j:Nat} (a:xs.toList.Pairwise (· < ·)):SetTable.below xs j<=xs.size/\(∀ i,i < SetTable.below xs j->xs.toList.getD i 0 < j)/\∀ i,SetTable.below xs j<=i->i < xs.size->j<=xs.toList.getD i 0:=
 yJ a xs.size 0 xs.size (bl0 _) (bg9 _) (by omega) (fun i h=>absurd h (Nat.not_lt_zero _)) fun i h1 h2=>absurd h2 (by omega)
theorem aR4 {α:Type} (xs:Array α) (p:Nat) (x:α):(SetTable.insertAt xs p x).toList=xs.toList.take p ++ x :: xs.toList.drop p:=by
 unfold SetTable.insertAt
 simp
 exact bj3 (by simp)
theorem aR5 {xs:Array Nat}{j:Nat} (a:xs.toList.Pairwise (· < ·)) (ne:xs[SetTable.below xs j]? ≠ some j):(SetTable.insertAt xs (SetTable.below xs j) j).toList.Pairwise (· < ·):=by
 obtain ⟨b1,b2,b3⟩:=aR3 (j:=j) a
 have sz:xs.toList.length=xs.size:=bl7
 rw [aR4]
 refine bl2.mpr ⟨a.sublist (List.take_sublist _ _),bq8.mpr ⟨fun x hx=>?_,a.sublist (List.drop_sublist _ _)⟩,fun x hx y hy=>?_⟩
 ·obtain ⟨i,hi,e⟩:=br5 hx
  rw [bp0] at hi
  rw [List.getElem_drop] at e
  have h1:=b3 (SetTable.below xs j) (bg9 _) (by omega)
  have h2:=yI a (i:=SetTable.below xs j) (k:=SetTable.below xs j+i) (by omega) (by omega)
  have h3:xs.toList.getD (SetTable.below xs j+i) 0=x:=by rw [bi1,bg3 (by omega),e]; rfl
  rcases bl9 j x with z | z
  ·exact z
  ·exfalso
   have h4:xs.toList.getD (SetTable.below xs j) 0=j:=by omega
   rw [bi1,bg3 (by omega)] at h4
   refine ne ?_
   rw [<- bo7,bg3 (by omega)]
   exact congrArg some h4
 ·have hx':x < j:=by
   obtain ⟨i,hi,e⟩:=br5 hx
   rw [bn2] at hi
   rw [List.getElem_take] at e
   have:=b2 i (by omega)
   rw [bi1,bg3 (by omega),e] at this
   exact this
  rcases bg8.mp hy with e | hy
  ·rw [e]; exact hx'
  ·obtain ⟨i,hi,e⟩:=br5 hy
   rw [bp0] at hi
   rw [List.getElem_drop] at e
   have:=b3 (SetTable.below xs j+i) (by omega) (by omega)
   rw [bi1,bg3 (by omega),e] at this
   exact bi2 hx' this
structure j4 (b:Bool) (t:SetTable):Prop where
 asc:t.place.toList.Pairwise (· < ·)
 dm:t.dummies = #[]
 led:t.led=b
theorem ac1 (j:Nat):SetTable.has #[] j=false:=by
 unfold SetTable.has
 simp
theorem ac2 {t:SetTable} (dm:t.dummies = #[]) {h:Int}{j:Nat}{d:Option Nat}:∀ (fuel:Nat) (p:SetTable.Probe),p.dummy=none->SetTable.probe.go t (fun _=>h+1) h fuel p=some (.empty j d)->d=none/\t.slot j = .empty
 | 0,p,_,e=>by cases e
 | fuel+1,p,hp,e=>by
  unfold SetTable.probe.go at e
  have adv:∀ p:SetTable.Probe,p.dummy=none->(t.advance p).dummy=none:=fun p hp=>by
   unfold SetTable.advance
   split <;> exact hp
  cases hs:t.slot p.j with
  | empty=>
   rw [hs] at e
   cases e
   exact⟨hp,hs⟩
  | dummy=>
   exfalso
   unfold SetTable.slot at hs
   dsimp only at hs
   rw [dm,ac1] at hs
   split at hs <;> cases hs
  | live i=>
   rw [hs] at e
   dsimp only at e
   rw [if_neg (by simp; omega)] at e
   exact ac2 dm fuel _ (adv p hp) e
theorem aR6 {t:SetTable} (dm:t.dummies = #[]) {h:Int}{sl:Nat}{d:Bool} (e:t.freeSlot h=some (sl,d)):t.slot sl = .empty:=by
 unfold SetTable.freeSlot at e
 split at e
 ·rename_i j dummy hm
  obtain ⟨e1,e2⟩:=ac2 dm _ _ rfl hm
  subst e1
  cases e
  exact e2
 ·cases e
theorem tK {b:Bool}{t:SetTable} (h:j4 b t) (n:Nat):j4 b (t.standIn n):=⟨by
 show (Array.range n).toList.Pairwise (· < ·)
 rw [Array.toList_range]; exact List.pairwise_lt_range,rfl,h.led⟩
theorem aR7 {b:Bool}{t:SetTable} (h:j4 b t) {j:Nat} (hs:t.slot j = .empty):j4 b (t.put j).1:=by
 refine⟨?_,?_,h.led⟩
 ·refine aR5 h.asc fun e=>?_
  unfold SetTable.slot at hs
  dsimp only at hs
  rw [if_pos (by rw [e]; exact bp9 _)] at hs
  cases hs
 ·show (if SetTable.has t.dummies j then SetTable.eraseAt t.dummies (SetTable.below t.dummies j) else t.dummies) = #[]
  rw [h.dm,ac1]; rfl
theorem aR8 {b:Bool}{t:SetTable} (h:j4 b t) (es:Array (Int × Value)) (k:Int) (x:Value):j4 b (layNew t es k x).2.1:=by
 unfold layNew
 split
 ·rename_i sl wd e
  have p:=aR7 h (aR6 h.dm e)
  show j4 b (SetTable.orStandIn _ _)
  unfold SetTable.orStandIn
  split
  ·exact p
  ·exact tK p _
 ·exact tK h _
theorem aR9 {b:Bool}{t:SetTable} (h:j4 b t) (es:Array (Int × Value)) (n:Nat):j4 b (relayAll t es n).2.1:=by
 unfold relayAll
 split
 ·rename_i t' order e
  dsimp only
  split
  ·show j4 b t'
   unfold SetTable.relaid SetTable.laid at e
   cases hc:SetTable.layClean (SetTable.sizeAbove n - 1) (es.map (·.1)) with
   | none=>rw [hc] at e; cases e
   | some owner=>
    rw [hc] at e
    cases e
    refine⟨?_,rfl,h.led⟩
    show (List.map _ _).Pairwise (· < ·)
    refine bp3.mpr (List.Pairwise.filterMap _ (R:=(· < ·)) ?_ List.pairwise_lt_range)
    intro i i' hlt x hx y hy
    cases ho:owner.getD i none with
    | none=>rw [ho] at hx; cases hx
    | some v=>
     rw [ho] at hx
     cases ho2:owner.getD i' none with
     | none=>rw [ho2] at hy; cases hy
     | some v2=>
      rw [ho2] at hy
      cases hx; cases hy
      exact hlt
  ·exact tK h _
 ·exact tK h _
theorem ac3 {us vs:List Value} (p:us.Perm vs):∀ {ns:List Int},IntsAre vs ns->∃ ms,IntsAre us ms/\ms.Perm ns:=by
 induction p with
 | nil=>intro ns h; exact⟨ns,h,bv5 _⟩
 | cons x _ ih=>
  intro ns h
  cases h with
  | cons n t r=>
   obtain ⟨ms,h1,h2⟩:=ih r
   exact⟨n :: ms,.cons n t h1,h2.cons n⟩
 | swap x y l=>
  intro ns h
  cases h with
  | cons n t r=>
   cases r with
   | cons n' t' r=>
    exact⟨n' :: n :: _,.cons n' t' (.cons n t r),List.Perm.swap _ _ _⟩
 | trans _ _ ih1 ih2=>
  intro ns h
  obtain ⟨ms,h1,h2⟩:=ih2 h
  obtain ⟨ms',h3,h4⟩:=ih1 h1
  exact⟨ms',h3,h4.trans h2⟩
theorem ac4:∀ {us:List Value}{ns:List Int},IntsAre us ns->∀ (k:Int) (t:Nat),IntsAre (us ++ [.int k t]) (ns ++ [k])
 | _,_,.nil,k,t=>.cons k t .nil
 | _,_,.cons n u r,k,t=>.cons n u (ac4 r k t)
theorem tL:∀ {us:List Value}{ns:List Int},IntsAre us ns->∀ k:Int,k ∈ ns ↔ ∃ t,Value.int k t ∈ us
 | _,_,.nil,k=>⟨(fun h=>nomatch h),(fun ⟨_,h⟩=>nomatch h)⟩
 | _,_,.cons n u r,k=>by
  constructor
  ·intro h
   rcases bg8.mp h with e | h
   ·exact⟨u,by rw [e]; exact bg7⟩
   ·obtain ⟨t,ht⟩:=(tL r k).mp h
    exact⟨t,bg6 _ ht⟩
  ·rintro ⟨t,h⟩
   rcases bg8.mp h with e | h
   ·cases e; exact bg7
   ·exact bg6 _ ((tL r k).mpr ⟨t,h⟩)
noncomputable abbrev pX (es:Array (Int × Value)) (ep:Nat) (t:SetTable):Obj:={ cls:=.type "set",dict:=none,data:=.set es ep t,slots:=#[] }
section
variable {prog : Program} {w : World} {A : Around} {E : Value → Shared → Prop} {s : Shared}
noncomputable def aS0 (prog:Program) (w:World) (es:Array (Int × Value)) (t:SetTable) (ms:List Int):Prop:=ElemsOf (intKind prog w) es.toList/\IntsAre (es.toList.map (·.2)) ms/\es.size < scanBound/\t.fits es.size=true/\j4 (!w.params.followText "set-order") t
noncomputable def ac5 (prog:Program) (w:World) (h:Heap) (a:Addr) (ms:List Int):Prop:=∃ es ep t,h.get? a=some (pX es ep t)/\aS0 prog w es t ms
theorem ac6 {h:Heap}{a:Addr}{es es':Array (Int × Value)}{ep:Nat}{t t':SetTable} (ho:h.get? a=some (pX es ep t)):(h.update a (Obj.putSet es' t')).get? a=some (pX es' (ep+1) t'):=by
 have:=Heap.get?_update_self (Obj.putSet es' t') ho (by rw [putSet_of es' t' (rfl:(pX es ep t).data=_)]; rfl)
 rw [putSet_of es' t' (rfl:(pX es ep t).data=_)] at this
 exact this
theorem add_int {a:Addr}{ms:List Int}{k:Int}{u:Nat}{Q:Bool->Shared->Prop} (hS:ac5 prog w s.heap a ms) (room:ms.length+1 < scanBound)
  (h:∀ b h' ms',Heap.SameBut a s.heap h'->ac5 prog w h' a ms'->(k ∈ ms->ms'.Perm ms)->(k ∉ ms->ms'.Perm (ms ++ [k]))->Q b { s with heap:=h' }) :
  wpAny (model prog w) A (setAddHashed a (.int k u) ((intKind prog w).hash k)) Q E s:=by
 obtain ⟨es,ep,t,ho,hel,hi,hb,hf,tk⟩:=hS
 have key:(intKind prog w).is k (.int k u)=true:=intKind_is _ _ _ _
 have ln:ms.length=es.size:=by
  have:=IntsAre.length hi
  rw [bg5,bl7] at this
  exact this.symm
 have isk:∀ v,(intKind prog w).is k v=true->∃ u,v = .int k u:=fun v hv=>Value.isInt_shape hv
 unfold setAddHashed setAddHashedIn
 refine br0 (bg0 (wpAny_setState_of ho rfl hf ?_))
 dsimp only
 rw [byScan_of (knd:=intKind prog w) (x:=.int k u) rfl hb hel,if_pos rfl]
 unfold setAddByScan
 refine bg0 (bg0 (bt0 ?_))
 refine bg0 (wpAny_setScan_of key ho rfl hf hel ?_)
 cases hr:List.findIdx? (fun e=>(intKind prog w).is k e.2) es.toList with
 | some j=>
  dsimp only
  obtain ⟨hj,hp,_⟩:=List.findIdx?_eq_some_iff_getElem.mp hr
  have km:k ∈ ms:=by
   obtain ⟨u',e⟩:=isk _ hp
   exact (tL hi k).mpr ⟨u',by rw [<- e]; exact bi4.mpr ⟨_,br1 hj,rfl⟩⟩
  have e:s={ s with heap:=s.heap }:=by cases s; rfl
  rw [e]
  exact bh3 (bh3 (h _ s.heap ms (Heap.SameBut.refl a s.heap) ⟨es,ep,t,ho,hel,hi,hb,hf,tk⟩ (fun _=>bv5 _) fun n=>absurd km n))
 | none=>
  dsimp only
  have km:k ∉ ms:=fun z=>by
   obtain ⟨u',hm⟩:=(tL hi k).mp z
   obtain ⟨e,he,e2⟩:=bi4.mp hm
   have:=List.findIdx?_eq_none_iff.mp hr e he
   rw [e2,intKind_is _ _ _ _] at this; cases this
  have lp:=layNew_perm t es ((intKind prog w).hash k) (.int k u)
  have lf:=layNew_fits t es ((intKind prog w).hash k) (.int k u)
  have lk:=aR8 tk es ((intKind prog w).hash k) (.int k u)
  generalize hL:layNew t es ((intKind prog w).hash k) (.int k u)=L at lp lf lk ⊢
  obtain ⟨es1,t1,wd,gave⟩:=L
  dsimp only at lp lf lk ⊢
  rw [Array.toList_push] at lp
  have el1:ElemsOf (intKind prog w) es1.toList:=(hel.push key rfl).perm lp
  have sz1:es1.size=es.size+1:=by rw [<- bl7,lp.length_eq,bh6,bl7]; rfl
  obtain ⟨ms1,i1,p1⟩:∃ ms1,IntsAre (es1.toList.map (·.2)) ms1/\ms1.Perm (ms ++ [k]):=ac3 (lp.map (·.2)) (by rw [bi3]; exact ac4 hi k u)
  have hb1:es1.size < scanBound:=by omega
  have gw:∀ (b:Bool) (s₁:Shared) (Q':Unit->Shared->Prop),Q' () s₁->wpAny (model prog w) A (match b with | true=>rule "set.scan.the-table-gave-way" | false=>pure ()) Q' E s₁:=fun b s₁ Q' hq=>by
   cases b
   ·exact bh3 hq
   ·exact bt0 hq
  refine bg0 (gw _ _ _ ?_)
  split <;> (
   show wpAny _ _ (storeSet a es1 t1 >>= _) _ _ _
   simp only [↓reduceIte]
   refine bg0 (wpAny_storeSet_of ho rfl ?_ (fits_of_scanBound hb1))
   have ho1:=ac6 (es':=es1) (t':=t1) ho
   have sb1:=bu1 s.heap a (Obj.putSet es1 t1)
   split
   ·have rp:=relayAll_perm t1 es1 (SetTable.grown es1.size)
    have rf:=relayAll_fits t1 es1 (SetTable.grown es1.size)
    have rk:=aR9 lk es1 (SetTable.grown es1.size)
    generalize relayAll t1 es1 (SetTable.grown es1.size)=L at rp rf rk ⊢
    obtain ⟨es2,t2,gave2⟩:=L
    dsimp only at rp rf rk ⊢
    have sz2:es2.size=es1.size:=by rw [<- bl7,rp.length_eq,bl7]
    obtain ⟨ms2,i2,p2⟩:=ac3 (rp.map (·.2)) i1
    refine bg0 (gw _ _ _ ?_)
    refine bg0 (wpAny_storeSet_of ho1 rfl ?_ (fits_of_scanBound (by omega)))
    exact bh3 (bh3 (h _ _ ms2 (sb1.trans (bu1 _ a _)) ⟨es2,_,t2,ac6 ho1,el1.perm rp,i2,by omega,rf,rk⟩ (fun z=>absurd z km) fun _=>p2.trans p1))
   ·exact bh3 (bh3 (h _ _ ms1 sb1 ⟨es1,_,t1,ho1,el1,i1,hb1,lf,lk⟩ (fun z=>absurd z km) fun _=>p1)))
end
section
variable {prog : Program} {w : World} {A : Around} {E : Value → Shared → Prop} {s : Shared} {r : Addr} {b : Int} {t u v : Tok} {n : Nat}
theorem aS1 {R:Result->Shared->Prop} (hh:A.handled=none) (hr:IsRange s.heap r 0 b 1 t u v) (sm:Builtin.Range.small 0 b 1=true) (hn:Builtin.Range.rangeSize 0 b 1=n) (hl:n<=2 ^ 24)
  (hR:∀ h' tk acc c,(∀ b o,b ≠ s.heap.objs.size->(s.heap.push { cls:=.type "list",data:=.seq ([]:List Value).toArray }).get? b=some o->h'.get? b=some o)->h'.get? s.heap.objs.size=some { cls:=.type "list",dict:=none,data:=.seq acc c,slots:=#[] }->ItemsOf (fun i v=>∃ t,v = .int (0+i * 1) t) acc n->R (.ok (.ret (.ref s.heap.objs.size))) { s with heap:=h',toks:=tk }) :
  codeAny (model prog w) A (.builtin "proto.collect" ⟨[.ref r],[]⟩) R s:=by
 refine codeAny_builtin PySem.F.entry_proto_collect ?_
 rw [Around.under_plainId PySem.F.plain_proto_collect _]
 show wpAny _ A.in1 (newList [] >>= fun l=>again (.builtin "list.__iadd__" ⟨[l,.ref r],[]⟩)) _ _ s
 refine bg0 (bn5 ?_)
 refine bh3 ⟨plainId_quiet PySem.F.plain_list_iadd _,codeAny_builtin PySem.F.entry_list_iadd ?_⟩
 rw [Around.under_plainId PySem.F.plain_list_iadd _]
 show wpAny _ A.in1 (Builtin.List.listExtendWith (.ref s.heap.objs.size) (.ref r) (.ref s.heap.objs.size)) _ _ _
 exact wpAny_extend_range (s:={ s with heap:=s.heap.push { cls:=.type "list",data:=.seq ([]:List Value).toArray } }) (R:=R) hh (bg1 _ hr) sm hn hl s.heap.objs.size _ 0 (bi8 _ rfl) hR
theorem aS2 {Q:List Value->Shared->Prop} (hh:A.handled=none) (hr:IsRange s.heap r 0 b 1 t u v) (sm:Builtin.Range.small 0 b 1=true) (hn:Builtin.Range.rangeSize 0 b 1=n) (hl:n<=2 ^ 24)
  (hQ:∀ h' tk acc,(∀ b o,s.heap.get? b=some o->h'.get? b=some o)->ItemsOf (fun i v=>∃ t,v = .int (0+i * 1) t) acc n->Q acc.toList { s with heap:=h',toks:=tk }):wpAny (model prog w) A (collect (.ref r)) Q E s:=by
 unfold collect
 refine bg0 (wpAny_runValue (aS1 (s:=s) hh hr sm hn hl fun h' tk acc c kp at1 it=>?_))
 show wpAny _ A (load s.heap.objs.size >>= _) _ _ _
 refine bg0 (wpAny_load at1 ?_)
 exact bh3 (hQ h' tk acc (fun b o e=>kp b o (bk6 (bi0 e)) (bg1 _ e)) it)
theorem aS3 (r:Addr) (b:Int) (t u v:Tok) (n:Nat) (sm:Builtin.Range.small 0 b 1=true) (hn:Builtin.Range.rangeSize 0 b 1=n) (hl:n<=2 ^ 24) :
  Meets (Builtin.«tuple.__new__» ⟨[.type "tuple",.ref r],[]⟩) (fun A R s=>A.handled=none/\IsRange s.heap r 0 b 1 t u v/\∀ (h':Heap) tk (acc:Array Value),(∀ b o',s.heap.get? b=some o'->h'.get? b=some o')->ItemsOf (fun i v=>∃ t,v = .int (0+i * 1) t) acc n->R (.ok (.ret (.ref h'.objs.size))) { s with heap:=h'.push { cls:=.type "tuple",data:=.seq acc },toks:=tk }):=
 .of_wp fun prog w A R s h=>by
  obtain ⟨hp,g,d,tk,os⟩:=s
  obtain ⟨hh,ht,h⟩:=h
  have hsub:=sub_tuple_self
  have hinit:=init_tuple_lookup
  have hmh:=madeHere_tuple
  have hT:Shared.TypeIs ⟨hp,g,d,tk,os⟩ (.ref r) "range":=⟨_,ht,rfl⟩
  unfold Builtin.«tuple.__new__»
  generalize pi:collect=CC
  wp_walk using wpAny_loadPart' ht,wpAny_typeOf hT
  subst pi
  refine aS2 (s:=⟨hp,g,d,tk,os⟩) hh ht sm hn hl fun h' tk' acc kp it=>?_
  refine bg0 (bh3 ?_)
  show wpAny _ _ (Builtin.Tuple.tupleExact acc.toList.toArray >>= fun v=>ret v) _ _ _
  unfold Builtin.Tuple.tupleExact
  refine bg0 (bn5 ?_ (by show acc.toList.toArray.size<=sizeLine; rw [bh0,bl7,it.1,sizeLine_eq]; omega))
  refine bh3 ⟨_,rfl,?_⟩
  have e:acc.toList.toArray=acc:=by simp
  rw [e]
  exact h h' tk' acc kp it
theorem aS4 {Q:Value->Shared->Prop} (hh:A.handled=none) (hr:IsRange s.heap r 0 b 1 t u v) (sm:Builtin.Range.small 0 b 1=true) (hn:Builtin.Range.rangeSize 0 b 1=n) (hl:n<=2 ^ 24)
  (h:∀ (h':Heap) tk (acc:Array Value),(∀ b o',s.heap.get? b=some o'->h'.get? b=some o')->ItemsOf (fun i v=>∃ t,v = .int (0+i * 1) t) acc n->Q (.ref h'.objs.size) { s with heap:=h'.push { cls:=.type "tuple",data:=.seq acc },toks:=tk }) :
  wpAny (model prog w) A (call (.type "tuple") [.ref r]) Q E s:=
 callType_new F.called_tuple (by decide) (F.typeCall_tuple_1 _) (F.newCall_tuple_1 _) (fun obj=>F.args_object_init_2 obj _) F.entry_tuple_new (aS3 r b t u v n sm hn hl) ⟨by simp [hh],hr,fun h' tk acc hk it=>⟨⟨_,bi8 _ rfl,rfl⟩,h h' tk acc hk it⟩⟩
end
end Raw
namespace PP
open PySem L2
section
variable {X : Cx} {a b : Expr} {ta tb : aG} {pos pos2 p2 p3 : Pos}
noncomputable abbrev aS5 (ta tb:aG):aG:=q2 (fI fun i j=>.int (Builtin.bitAnd i j)) ta tb
theorem aS6 (ha:QE X a ta) (hb:QE X b tb):QE X (.BinOp a .BitAnd b pos) (q2 (fI fun i j=>.int (Builtin.bitAnd i j)) ta tb):=kU ap6 vS ha hb
theorem aS7 (hc:X.calm=true):dQ X (.type "tuple") (fun xs H Q=>∃ r j,xs = [.ref r]/\H r=some (.rng 0 j)/\0<=j/\j<=1000000/\∀ l,H l=none->Q (.ref l) (upd H l (.tup (i5 0 j.toNat)))):=by
 intro pins s σ H xs us Q I r h
 obtain ⟨p,j,rfl,hq,h0,h1,q⟩:=h
 obtain ⟨u,rfl,rx⟩:=jA r
 cases rx
 obtain ⟨t,u,v,ho⟩:=(show cE X.prog X.w H s.heap p (.rng 0 j) from I.hok p _ hq)
 refine Raw.aS4 (b:=j) (n:=j.toNat) (I.ok.hd hc) ho (small_one (by decide) (by decide) (by omega) (by omega)) (by rw [rangeSize_one]; split <;> omega) (by omega) fun h' tk acc kp it=>?_
 have vv:=X7 it
 have eq:acc.toList.toArray=acc:=by simp
 have I1:a6 X pins σ H { s with heap:=h',toks:=tk }:=I.kept (t':=tk) kp
 have I2:a6 X pins σ (upd H h'.objs.size (.tup (i5 0 j.toNat))) { s with heap:=h'.push { cls:=.type "tuple",data:=.seq acc.toList.toArray },toks:=tk }:=
  I1.laid (t':=tk) (fun b o e=>bg1 _ e) (bg9 _) (show cE X.prog X.w _ _ _ (.tup _) from ⟨by rw [qX]; exact lim (by omega),acc.toList,vv,PyProof.Rows.IsTup.new _ _,j6.new _ _ rfl⟩)
 rw [eq] at I2
 exact⟨.ref h'.objs.size,_,I2,rfl,q _ (I1.hok.fresh (bg9 _))⟩
noncomputable def ac7 (te:aG):aG:=fun ρ Q=>te ρ fun x _=>∃ n:Int,x = .int n/\0<=n/\n<=1000000/\Q (.tup (dW 0 n.toNat)) .fr
theorem aS8 (B:Bt X.mg) (ha:QE X a ta) (hc:X.calm=true:=by rfl) (hg:Gl X "tuple":=by rfl) (hgr:Gl X "range":=by rfl) (hs:starEach [a] X.env = [(false,eval a X.env)]:=by rfl)
  (he:starEach [.Call (.Name "range" p3) [a] [] pos2] X.env=(false,eval (.Call (.Name "range" p3) [a] [] pos2) X.env) :: starEach [] X.env:=by rfl) (hpl:(backTo pos (starEach [] X.env)).any (·.1)=false:=by rfl) :
  QE X (.Call (.Name "tuple" p2) [.Call (.Name "range" p3) [a] [] pos2] [] pos) (ac7 ta):=
 cG (uR (aS7 hc) hg B.tuple PyProof.Rows.boot_tuple (cO (X5 hgr B.range (cO ha dF hs) hs) dF he) (he:=he) (hpl:=hpl)) fun σ H Q' h=>by
  obtain ⟨W,ρ,Q,px,q,k⟩:=h
  refine⟨W,ρ,_,px,q,?_⟩
  rintro v H1 x g s r ⟨n,rfl,h0,h1,q⟩
  cases r
  refine⟨n,rfl,fun r hr=>⟨r,n,rfl,bL,h0,h1,fun l hl=>?_⟩⟩
  have S:aD H (upd (upd H1 r (.rng 0 n)) l (.tup (i5 0 n.toNat))):=(s.trans (bN hr _)).trans (bN hl _)
  exact k _ _ _ .fr S (.tup bL (X8 0 n.toNat)) q
end
end PP
namespace Core
open PySem L2 PP
section
variable {ws : List Int} {ls : List (Int × Int)} {A T : List Int} {m : Nat}
theorem aS9:∀ m,∀ y ∈ A,y ∈ bD ws ls A m:=fun m y hy=>by
 induction m with
 | zero=>exact hy
 | succ m ih=>exact bk3 _ ih
theorem aT0 (en:cY ws ls A m):fU ws ls (bD ws ls A m):=fun h hh=>by
 have:=br2.mp (show (rng ws.length).filter (kin ws ls (bD ws ls A m)) = [] from en.2) h hh
 simpa using this
end
noncomputable def kE:bK:=fun xs Q=>∃ a k:Int,xs = [.int a,.int k]/\0<=k/\k<=1000/\∀ z,0<=z->Q (.int z)
noncomputable def ac8:aR:=(aF (bF 2 (eC (eL (eL (eL (eC (a5 0) (qC (.int 2147483647))) (p5 (p5 (qC (.int 69621)) (a5 1)) (a5 1))) (p5 (qC (.int 40692)) (a5 1))) (qC (.int 1))) (qC (.int 2147483647))))
 (aF (bF 2 (eC (p5 (a5 2) (qC (.int 48271))) (qC (.int 2147483647))))
 (bP (eC (p5 (a5 2) (a5 2)) (qC (.int 2147483647))))))
theorem aT1:cC ac8 ["number","k","turn"] kE:=by
 rintro xs Q ⟨a,k,rfl,k0,k1,q⟩
 have big:(0:Int) < 2147483647:=by decide
 refine⟨_,rfl,_,_,rfl,rfl,big,_,rfl,_,_,rfl,rfl,.inl ⟨by decide,by decide⟩,_,rfl,_,_,rfl,rfl,.inr ⟨by show -(2 ^ 64) < k; omega,by show k < 2 ^ 64; omega⟩,_,_,rfl,rfl,_,rfl,_,_,rfl,rfl,.inl ⟨by decide,by decide⟩,_,_,rfl,rfl,_,_,rfl,rfl,_,_,rfl,rfl,big,trivial,?_⟩
 refine⟨_,rfl,_,_,rfl,rfl,.inr ⟨by decide,by decide⟩,_,_,rfl,rfl,big,trivial,?_⟩
 dsimp only
 have t0:0<=(a % 2147483647+69621 * k * k+40692 * k+1) % 2147483647 * 48271 % 2147483647:=bu0 _ (by decide)
 have t1:(a % 2147483647+69621 * k * k+40692 * k+1) % 2147483647 * 48271 % 2147483647 < 2147483647:=Int.emod_lt_of_pos _ (by decide)
 generalize (a % 2147483647+69621 * k * k+40692 * k+1) % 2147483647 * 48271 % 2147483647=t at t0 t1
 exact⟨_,rfl,_,rfl,_,_,rfl,rfl,.inl ⟨by show -(2 ^ 64) < t; omega,by show t < 2 ^ 64; omega⟩,_,_,rfl,rfl,big,trivial,q _ (bu0 _ (by decide))⟩
noncomputable def tM:bK:=fun xs Q=>∃ (ns:List Int) (most:Int),xs = [.scr ns,.int most]/\0<=most/\∀ z,0<=z->z<=most->Q (.int z)
noncomputable def ac9:aR:=(aF (bF 2 (aC iD (a7 (a5 0) (a7 (qC (.int 0)) a9))))
 (aF (cR (bC (gR (eC (a5 2) (qC (.int 3))) (qC (.int 0)))) (bP (aC oS (a7 (a5 1) (a7 (aC oT (a7 (qC (.int 0)) (a7 (mZ (aC cS (a7 (a5 0) a9)) (qC (.int 4))) a9))) a9)))) cZ)
 (aF (cR (bC (gR (eC (a5 2) (qC (.int 8))) (qC (.int 1)))) (bP (eC (eL (kT (a5 2) (qC (.int 24))) (qC (.int 5))) (eL (a5 1) (qC (.int 1))))) cZ)
 (bP (eC (eL (kT (a5 2) (qC (.int 3))) (qC (.int 2))) (eL (aC oS (a7 (qC (.int 6)) (a7 (a5 1) a9))) (qC (.int 1))))))))
theorem aT2:cC ac9 ["script","most","number"] tM:=by
 rintro xs Q ⟨ns,most,rfl,hm,q⟩
 refine⟨_,rfl,_,ns,0,rfl,.inl rfl,by decide,trivial,?_⟩
 generalize ns.getD (0:Int).toNat 0=c
 refine⟨_,rfl,_,_,rfl,rfl,(by show (0:Int) < 3; decide),.inl ⟨_,_,rfl,rfl,_,rfl,tI ?_ ?_⟩⟩
 ·refine⟨_,rfl,_,rfl,_,_,rfl,rfl,_,_,rfl,rfl,_,_,rfl,_,_,rfl,trivial,q _ ?_ ?_⟩ <;> split <;> split <;> omega
 refine⟨_,rfl,_,_,rfl,rfl,(by show (0:Int) < 8; decide),.inl ⟨_,_,rfl,rfl,_,rfl,tI ?_ ?_⟩⟩
 ·have hp:0 < most+1:=by omega
  refine⟨_,rfl,_,_,rfl,rfl,⟨by decide,by decide⟩,_,_,rfl,rfl,_,rfl,_,_,rfl,rfl,_,_,rfl,rfl,hp,trivial,q _ (bu0 _ (by omega)) ?_⟩
  have:=Int.emod_lt_of_pos (c / 24+5) hp
  omega
 ·have hp:0 < (if most < 6 then most else 6)+1:=by split <;> omega
  refine⟨_,rfl,_,_,rfl,rfl,⟨by decide,by decide⟩,_,_,rfl,rfl,_,rfl,_,_,rfl,_,_,rfl,rfl,_,_,rfl,rfl,hp,trivial,q _ (bu0 _ (by omega)) ?_⟩
  have:=Int.emod_lt_of_pos (c / 3+2) hp
  have hm:(if most < 6 then most else 6)<=most:=by split <;> omega
  omega
theorem kF {ws:List Int}{j:Nat} (h:j < ws.length):L2.atI (intz ws) (j:Int)=some (.int (ws.getD j 0)):=by
 have gw:ws[j]? = some (ws.getD j 0):=by rw [bi1,bg3 h]; rfl
 exact o8 (by rw [bh5,gw]; rfl)
theorem yK {ws:List Int} (h:NN ws) (j:Nat):0<=ws.getD j 0:=by
 rw [bi1]
 cases hj:ws[j]? with
 | none=>exact bq2 0
 | some w=>exact h w (bh9 hj)
theorem vJ (ns:List Int) (lo hi:Option Int):∃ zs:List Int,kS (intz ns) lo hi=intz zs/\zs.length<=ns.length:=by
 refine⟨(ns.drop (HT.b6 (intz ns).length 0 lo)).take (HT.b6 (intz ns).length (intz ns).length hi - HT.b6 (intz ns).length 0 lo),?_,?_⟩
 ·unfold kS intz; rw [List.map_take,List.map_drop]
 ·rw [bn2,bp0]; omega
noncomputable def ad0 (R:List PV->(PV->Prop)->Prop) (m:Nat):Prop:=∀ (ls:List (Int × Int)) (Q:PV->Prop),ls.length<=40 * m->(∀ ls':List (Int × Int),ls'.Perm ls->(ls'.map two).Pairwise (fun u v=>HT.iJ v u=false)->Q (.lst (cH ls')))->(∀ l ∈ ls,0<=l.1/\l.1 < l.2/\l.2 < (m:Int))->ls.Nodup->R [.lst (cH ls)] Q
theorem aT3 {m:Nat} (h:m<=40):ad0 t5 m:=fun ls Q hl q inn nd=>by
 refine⟨ls.map two,by rw [Y5],by rw [bg5]; omega,fun y hy=>by obtain ⟨l,_,rfl⟩:=bi4.mp hy; rfl,fun Z pz so=>?_⟩
 obtain ⟨ls',rfl,pl⟩:=aK7 pz
 have:=q ls' pl so
 rw [Y5] at this
 exact this
end Core
namespace PP
open PySem L2
section
variable {P : Program} {w : World} {K : PySem.W.Frag} {mg : Str → Option Value} {base : Heap} {k : Nat} {f : Addr} {fd : FuncData}
theorem aT4 (F:cP P w K mg base dR k f fd ["web"] sR) (b:jB K fd ["web"] []) (kp:PySem.W.keepIn K (.ref f)=true) (m:mg "_law_beside" = some (.ref f)):Df P w K mg base k "_law_beside" ["web"] Core.gV:=by
 refine⟨f,fd,F.imp fun vs H Q E h=>?_,b,kp,m⟩
 obtain ⟨xs,Qp,r,⟨ws,ls,rfl,wb,q⟩,k⟩:=h
 obtain ⟨v,rfl,r1⟩:=r.one
 have:=wb.few
 have:=wb.most
 refine⟨v,ws,ls,rfl,Y3 r1,by omega,by omega,wb.links,fun t bs H' hb R=>k _ H' _ R.same (.lst R.new R.row ?_) q⟩
 have:=xQ (K:=K) (M:=fun a=>H a=none) (H:=H') (bs:=bs) (ls:=ls) 0 (fun b hb=>(R.news b hb).1) fun k b hk=>by rw [Nat.zero_add]; exact R.rows k b hk
 rw [hb,<- List.range_eq_range'] at this
 exact this
end
end PP
namespace Core
open PySem L2 PP
noncomputable def gY (ws:List Int) (ls:List (Int × Int)) (C:List Int):Bool:=@decide (∀ U:List Int,fU ws ls U->(∀ x ∈ C,x ∈ U)->∀ h ∈ rng ws.length,h ∈ U) (Classical.propDecidable _)
section
variable {ws : List Int} {ls : List (Int × Int)} {C D : List Int}
theorem pY:gY ws ls C=true ↔ ∀ U:List Int,fU ws ls U->(∀ x ∈ C,x ∈ U)->∀ h ∈ rng ws.length,h ∈ U:=
 ⟨fun z=>@bl6 _ (Classical.propDecidable _) z,fun z=>@bg2 _ (Classical.propDecidable _) z⟩
theorem ad1 {T:List Int} (sh:fU ws ls T) (sub:∀ x ∈ C,x ∈ T) (le:∀ U,fU ws ls U->(∀ x ∈ C,x ∈ U)->∀ x ∈ T,x ∈ U):gY ws ls C=true ↔ ∀ h ∈ rng ws.length,h ∈ T:=
 ⟨fun f=>pY.mp f T sh sub,fun a=>pY.mpr fun U sU hU h hh=>le U sU hU h (a h hh)⟩
theorem aT5 {m:Nat} (hs:aW ws.length C=true) (en:cY ws ls C m):gY ws ls C=decide (((bD ws ls C m).length:Int)=(ws.length:Int)):=by
 have st:∀ m,∀ x ∈ bD ws ls C m,x ∈ rng ws.length:=fun m=>by
  induction m with
  | zero=>exact fun x hx=>dL.mpr ((cL hs).2 x hx)
  | succ m ih=>
   intro x hx
   rcases bh4.mp (show x ∈ bD ws ls C m ++ nextOf ws ls (bD ws ls C m) from hx) with hx | hx
   ·exact ih x hx
   ·exact (bh8.mp hx).1
 have nd:=xX (ls:=ls) hs m
 have le:=nd.length_le_of_subset (st m)
 rw [cX] at le
 rw [bl8,bk2,ad1 (aT0 en) (aS9 m) fun U sU hU x hx=>Z6 sU hU m x hx]
 constructor
 ·intro a
  have:=(Z7 ws.length).length_le_of_subset a
  rw [cX] at this
  omega
 ·intro e
  refine fun h hh=>bl5 fun hn=>?_
  have:=(bm6.mpr ⟨hn,nd⟩).length_le_of_subset fun x hx=>(bg8.mp hx).elim (fun e=>by rw [e]; exact hh) (st m x)
  rw [cX,bi9] at this
  omega
end
noncomputable abbrev ad2:bK:=gV
noncomputable def tN:bK:=fun xs Q=>∃ ws ls x ns,xs = [b9 ws ls,x]/\Wb ws ls/\dD x ns/\(∀ x ∈ ns,x ∈ rng ws.length)/\∀ T,fU ws ls T->(∀ x ∈ ns,x ∈ T)->(∀ U,fU ws ls U->(∀ x ∈ ns,x ∈ U)->∀ x ∈ T,x ∈ U)->Q (.lst (fB ws.length T))
noncomputable def ad3:aR:=(aF (bF 2 (aC ad2 (a7 (a5 0) a9)))
 (aF (dA 3 (cU (jW (aC cS (a7 (bI (a5 0) (qC (.int 0))) a9))) [none,some 1] (bR 0) eY (q2 (oX false) (a5 0) (a5 1))))
 (aF (bF 4 (qC (.bl true)))
 (aF (lR (bC (a5 4))
  (aF (bF 4 (qC (.bl false)))
  (eB (jW (aC cS (a7 (bI (a5 0) (qC (.int 0))) a9))) (bR 5)
   (aF (bF 6 (aC cS (a7 (cU (cT (bI (a5 2) (a5 5))) [none,some 3] (bR 0) (jE (bI (a5 1) (a5 0))) (a5 0)) a9)))
   (cR (oO (iP (jE (bI (a5 3) (a5 5)))) (bC (wH (a5 6) (bI (bI (a5 0) (qC (.int 0))) (a5 5))))) (aF (mV 3 (a5 5) (qC (.bl true)))
    (bF 4 (qC (.bl true)))) cZ)))))
 (jV 3)))))
theorem aT6:cC ad3 ["web","seeds","beside","burning","left","hearth","count"] tN:=by
 rintro xs Q ⟨ws,ls,x,ns,rfl,wb,hx,inn,q⟩
 have few:=wb.few
 refine⟨_,rfl,ws,ls,rfl,wb,trivial,?_⟩
 refine⟨_,rfl,_,_,_,rfl,rfl,rfl,_,_,rfl,rfl,_,rfl,by rw [bA]; omega,by rw [bA]; omega,by rw [eW,bA]; omega,fun i acc=>acc=((rng ws.length).take i).map fun i=>PV.bl (decide (i ∈ ns)),rfl,?_,?_⟩
 ·rintro i y acc hy rfl
  obtain ⟨rfl,hi⟩:=k7 hy
  rw [bA] at hi
  have hi:i < ws.length:=by omega
  refine⟨_,rfl,_,rfl,_,ns,rfl,hx.seq,trivial,?_⟩
  have tk:=pM (f:=fun (i:Int)=>PV.bl (decide (i ∈ ns))) (nJ hi)
  show _=List.map _ (List.take (i+1) _)
  rw [tk,Int.zero_add]; rfl
 rintro bu rfl
 rw [eW,bA,bj3 (by rw [cX]; omega)]
 have flb:∀ S,flats (fB ws.length S)=true:=fun S=>by
  rw [xM]
  intro x hx
  unfold fB at hx
  obtain ⟨i,_,rfl⟩:=bi4.mp hx
  rfl
 refine⟨rfl,flb ns,?_⟩
 refine⟨trivial,?_⟩
 refine⟨fun n ρ=>∃ (T:List Int) (g:Bool) (y5 y6:Option Slot),ρ = [some (.sh (flat (b9 ws ls)) (b9 ws ls)),some (.sh (flat x) x),some (.sh true (.lst (cK ws.length ls))),some (.own (.lst (fB ws.length T))),some (.sh true (.bl g)),y5,y6]/\
   (∀ x ∈ ns,x ∈ T)/\(∀ U,fU ws ls U->(∀ x ∈ ns,x ∈ U)->∀ x ∈ T,x ∈ U)/\(g=false->fU ws ls T)/\n=2 * ((rng ws.length).filter fun z=>!decide (z ∈ T)).length+(if g=true then 1 else 0),⟨_,ns,true,none,none,rfl,fun _ h=>h,fun _ _ h=>h,(fun z=>by cases z),rfl⟩,?_⟩
 rintro n ρ ⟨T,g,y5,y6,rfl,sub,le,sh,rfl⟩
 refine⟨_,rfl,_,rfl,?_⟩
 cases g with
 | false=>exact bB ⟨_,rfl,trivial,q T (sh rfl) sub le⟩
 | true=>
  refine bE ⟨trivial,?_⟩
  refine⟨_,rfl,_,_,_,rfl,rfl,rfl,_,_,rfl,rfl,_,rfl,by rw [bA]; omega,by rw [bA]; omega,fun i ρ=>∃ (T2:List Int) (g2:Bool) (y5 y6:Option Slot),ρ = [some (.sh (flat (b9 ws ls)) (b9 ws ls)),some (.sh (flat x) x),some (.sh true (.lst (cK ws.length ls))),some (.own (.lst (fB ws.length T2))),some (.sh true (.bl g2)),y5,y6]/\
   (∀ x ∈ ns,x ∈ T2)/\(∀ U,fU ws ls U->(∀ x ∈ ns,x ∈ U)->∀ x ∈ T2,x ∈ U)/\(g2=false->T2=T/\∀ j:Nat,j < i->kin ws ls T j=false)/\(g2=true->((rng ws.length).filter fun z=>!decide (z ∈ T2)).length < ((rng ws.length).filter fun z=>!decide (z ∈ T)).length),⟨T,false,y5,y6,rfl,sub,le,(fun _=>⟨rfl,fun j hj=>absurd hj (Nat.not_lt_zero _)⟩),fun z=>by cases z⟩,?_,?_⟩
  ·rintro i y ρ hy ⟨T2,g2,y5,y6,rfl,sub2,le2,h0,h1⟩
   obtain ⟨rfl,hi⟩:=k7 hy
   have hi:i < ws.length:=by rw [bA,bj8] at hi; exact hi
   refine l8 ?_
   rw [Int.zero_add]
   have hr:(i:Int) ∈ rng ws.length:=dL.mpr ⟨by omega,by omega⟩
   refine⟨_,rfl,_,rfl,_,_,_,rfl,rfl,pO (by omega) (by omega),_,rfl,(fun z=>by cases z),?_,fun j acc=>acc=intz (((aH ls (i:Int)).take j).filter fun z=>decide (z ∈ T2)),rfl,?_,?_⟩
   ·rw [bA]; have:=lN ls (i:Int); have:=wb.most; omega
   ·rintro j z acc hz rfl
    obtain ⟨o,rfl,ho⟩:=gD hz
    have tk:=k8 (p:=fun z=>decide (z ∈ T2)) ho
    have om:=dL.mp (aN6 wb (bh9 ho))
    refine⟨_,rfl,_,rfl,_,_,_,rfl,rfl,Y6 om.1 om.2,_,rfl,?_⟩
    show if decide (o ∈ T2)=true then _ else _
    cases hm:decide (o ∈ T2) with
    | true=>
     rw [hm] at tk
     refine bE ⟨_,rfl,trivial,?_⟩
     dsimp only
     rw [tk,fS]; rfl
    | false=>
     rw [hm] at tk
     refine bB ?_
     dsimp only
     rw [tk]; exact congrArg intz (bk4 _).symm
   rintro acc rfl
   rw [bA,bn4]
   have ix:L2.atI (intz ws) (i:Int)=some (.int (ws.getD (i:Int).toNat 0)):=sQ (by omega) (by omega)
   refine⟨_,_,rfl,rfl,trivial,?_⟩
   refine⟨_,rfl,_,rfl,_,_,_,rfl,rfl,Y6 (by omega) (by omega),_,rfl,?_⟩
   show if (!decide ((i:Int) ∈ T2))=true then _ else _
   have stay:kin ws ls T2 (i:Int)=false->∃ (T3:List Int) (g3:Bool) (y5 y6':Option Slot),[some (Slot.sh (flat (b9 ws ls)) (b9 ws ls)),some (.sh (flat x) x),some (.sh true (.lst (cK ws.length ls))),some (.own (.lst (fB ws.length T2))),some (.sh true (.bl g2)),si (i:Int),some (.sh true (.int (((aH ls (i:Int)).filter fun z=>decide (z ∈ T2)).length:Nat)))] = [some (.sh (flat (b9 ws ls)) (b9 ws ls)),some (.sh (flat x) x),some (.sh true (.lst (cK ws.length ls))),some (.own (.lst (fB ws.length T3))),some (.sh true (.bl g3)),y5,y6']/\
     (∀ x ∈ ns,x ∈ T3)/\(∀ U,fU ws ls U->(∀ x ∈ ns,x ∈ U)->∀ x ∈ T3,x ∈ U)/\(g3=false->T3=T/\∀ j:Nat,j < i+1->kin ws ls T j=false)/\(g3=true->((rng ws.length).filter fun z=>!decide (z ∈ T3)).length < ((rng ws.length).filter fun z=>!decide (z ∈ T)).length):=fun hk=>by
    refine⟨T2,g2,_,_,rfl,sub2,le2,fun z=>?_,h1⟩
    obtain ⟨e,a⟩:=h0 z
    refine⟨e,fun j hj=>?_⟩
    by_cases je:j=i
    ·rw [je,<- e]; exact hk
    ·exact a j (by omega)
   by_cases hm:(i:Int) ∈ T2
   ·have hk:kin ws ls T2 (i:Int)=false:=by unfold kin; rw [bg2 hm]; rfl
    rw [bg2 hm]
    have:=stay hk
    refine bB (bB ?_)
    dsimp only
    rw [bA]
    exact this
   ·rw [bg4 hm]
    refine bE ⟨_,rfl,_,rfl,_,_,_,rfl,rfl,rfl,_,rfl,_,_,_,rfl,rfl,ix,_,_,rfl,rfl,_,rfl,?_⟩
    have ek:kin ws ls T2 (i:Int)=decide ((((aH ls (i:Int)).filter fun z=>decide (z ∈ T2)).length:Int) >= ws.getD (i:Int).toNat 0):=by unfold kin; rw [bg4 hm]; rfl
    dsimp only
    rw [bA]
    rw [<- ek]
    cases hk:kin ws ls T2 (i:Int) with
    | false=>exact bB (stay hk)
    | true=>
     refine bE ⟨_,rfl,_,rfl,_,i,rfl,?_,trivial,?_⟩
     ·unfold gL
      rw [nL,if_pos (by omega),if_pos (by omega),bj8]
     have bs:=aK9 (n:=ws.length) (S:=T2) (x:=(i:Int)) (by omega) (by omega)
     rw [bj8] at bs
     rw [bs]
     refine⟨trivial,T2 ++ [(i:Int)],true,_,_,rfl,fun x hx=>bk3 _ (sub2 x hx),fun U sU hU x hx=>?_,(fun z=>by cases z),fun _=>?_⟩
     ·rcases bh4.mp hx with hx | hx
      ·exact le2 U sU hU x hx
      ·rw [bh1.mp hx]
       refine bl5 fun hn=>?_
       have:=Z5 hk (le2 U sU hU) hn
       rw [sU (i:Int) hr] at this; cases this
     ·have lt:((rng ws.length).filter fun z=>!decide (z ∈ T2 ++ [(i:Int)])).length < ((rng ws.length).filter fun z=>!decide (z ∈ T2)).length:=by
       have n1:((rng ws.length).filter fun z=>!decide (z ∈ T2 ++ [(i:Int)])).Nodup:=(Z7 _).filter _
       have n2:(i:Int) ∉ (rng ws.length).filter fun z=>!decide (z ∈ T2 ++ [(i:Int)]):=fun z=>by
        have:=(bh8.mp z).2
        rw [bg2 (bj6 _ (List.mem_singleton_self _))] at this; cases this
       have:=(bm6.mpr ⟨n2,n1⟩).length_le_of_subset (l₂:=(rng ws.length).filter fun z=>!decide (z ∈ T2)) fun z hz=>by
        rcases bg8.mp hz with e | hz
        ·rw [e]; exact bh8.mpr ⟨hr,by rw [bg4 hm]; rfl⟩
        ·have h2:=bh8.mp hz
         refine bh8.mpr ⟨h2.1,?_⟩
         rw [bg4 fun w=>?_]; rfl
         rw [bg2 (bk3 _ w)] at h2; exact absurd h2.2 (by decide)
       rw [bi9] at this
       omega
      cases g2 with
      | true=>have:=h1 rfl; omega
      | false=>have e:=(h0 rfl).1; rw [e] at lt ⊢; exact lt
  ·rintro ρ ⟨T2,g2,y5,y6,rfl,sub2,le2,h0,h1⟩
   rw [eW,bA,bj8] at h0
   cases g2 with
   | true=>exact⟨_,by have:=h1 rfl; rw [if_pos rfl]; omega,T2,true,y5,y6,rfl,sub2,le2,(fun z=>by cases z),rfl⟩
   | false=>
    obtain ⟨e,sh2⟩:=h0 rfl
    subst e
    refine⟨_,by rw [if_pos rfl,if_neg (by decide)]; omega,T2,false,y5,y6,rfl,sub2,le2,(fun _ h hh=>?_),rfl⟩
    have hm:=dL.mp hh
    have:=sh2 h.toNat (by omega)
    rwa [show ((h.toNat:Nat):Int)=h by omega] at this
noncomputable def tO:bK:=fun xs Q=>∃ ws ls x ns,xs = [b9 ws ls,x]/\Wb ws ls/\dD x ns/\(∀ x ∈ ns,x ∈ rng ws.length)/\Q (.bl (gY ws ls ns))
noncomputable def ad4:aR:=(bP (gR (aC cS (a7 (cU (cT (aC tN (a7 (a5 0) (a7 (a5 1) a9)))) [none] (bR 0) (iP (jE (a5 0))) (a5 0)) a9)) (qC (.int 0))))
theorem aT7:cC ad4 ["web","seeds"] tO:=by
 rintro xs Q ⟨ws,ls,x,ns,rfl,wb,hx,inn,q⟩
 have few:=wb.few
 refine⟨_,rfl,_,rfl,ws,ls,x,ns,rfl,wb,hx,inn,fun T sh sub le=>?_⟩
 refine⟨_,rfl,(fun z=>by cases z),by rw [nL]; omega,fun i acc=>acc.length=(((rng ws.length).take i).filter fun z=>!decide (z ∈ T)).length,rfl,?_,?_⟩
 ·rintro i y acc hy e
  unfold fB at hy
  rw [bh5] at hy
  cases hz:(rng ws.length)[i]? with
  | none=>rw [hz] at hy; cases hy
  | some z=>
   rw [hz] at hy
   cases hy
   have tk:=k8 (p:=fun z=>!decide (z ∈ T)) hz
   refine⟨_,rfl,_,rfl,?_⟩
   show if (!decide (z ∈ T))=true then _ else _
   cases hm:decide (z ∈ T) with
   | true=>
    rw [hm] at tk
    refine bB ?_
    dsimp only
    rw [tk,e]; exact congrArg List.length (bk4 _).symm
   | false=>
    rw [hm] at tk
    refine bE ⟨_,rfl,trivial,?_⟩
    dsimp only
    rw [tk,bh6,bh6,e]; rfl
 ·intro acc e
  rw [nL,bj3 (by rw [cX]; exact bg9 _)] at e
  refine⟨_,_,rfl,rfl,.inl ⟨_,_,rfl,rfl,trivial,?_⟩⟩
  have ef:gY ws ls ns=decide ((acc.length:Int)=0):=by
   rw [bl8,bk2,ad1 sh sub le,e]
   constructor
   ·intro a
    rw [br2.mpr fun z hz=>by rw [bg2 (a z hz)]; decide]; rfl
   ·intro z h hh
    have nl:(rng ws.length).filter (fun z=>!decide (z ∈ T)) = []:=List.eq_nil_of_length_eq_zero (by omega)
    have:=br2.mp nl h hh
    simpa using this
  rw [ef] at q
  exact q
noncomputable def tP:bK:=fun xs Q=>∃ (c:Int) (n:Nat),xs = [.int c,.int n]/\n<=40/\∀ S,aW n S=true->Q (.tup (intz S))
noncomputable def ad5:aR:=(aF (cR (bC (gR (eC (a5 0) (qC (.int 2))) (qC (.int 1)))) (bP (aC fQ (a7 (cU (jW (a5 1)) [none,some 0] (bR 0) (bC (gR (aS5 (aD9 (a5 1) (eL (a5 0) (qC (.int 1)))) (qC (.int 1))) (qC (.int 1)))) (a5 0)) a9))) cZ)
 (bP (aC fQ (a7 (cU (jW (a5 1)) [none,some 0] (bR 0) (bC (p9 (eC (aC kE (a7 (a5 1) (a7 (eL (a5 0) (qC (.int 90))) a9))) (qC (.int 3))) (qC (.int 0)))) (a5 0)) a9))))
theorem yM {b:Bool}{A B:Prop} (a:A) (c:B):if b=true then A else B:=by
 cases b
 ·exact c
 ·exact a
theorem aT8:cC ad5 ["number","many"] tP:=by
 rintro xs Q ⟨c,n,rfl,hn,q⟩
 have st:∀ (i:Nat) (acc:List PV) (A:List Int),acc=intz A->eO (i:Int) A->∃ A2,acc ++ [PV.int (0+(i:Int))]=intz A2/\eO ((i+1:Nat):Int) A2:=fun i acc A e u=>by
  refine⟨A ++ [(i:Int)],by rw [e,fS,Int.zero_add]; rfl,bl2.mpr ⟨u.up,bj4 _ _,fun x hx y hy=>?_⟩,fun x hx=>?_,?_⟩
  ·rw [bh1.mp hy]; exact (u.inn x hx).2
  ·rcases bh4.mp hx with hx | hx
   ·have:=u.inn x hx; omega
   ·rw [bh1.mp hx]; omega
  ·rw [bh6,bk5]; have:=u.len; omega
 refine⟨_,rfl,_,_,rfl,rfl,(by show (0:Int) < 2; decide),.inl ⟨_,_,rfl,rfl,_,rfl,yM ?_ ?_⟩⟩
 ·refine⟨_,rfl,_,rfl,by omega,by omega,by rw [eW]; omega,fun i acc=>∃ A,acc=intz A/\eO (i:Int) A,⟨[],rfl,eO.nil⟩,?_,?_⟩
  ·rintro i y acc hy ⟨A,e,u⟩
   obtain ⟨rfl,hi⟩:=k7 hy
   refine⟨_,rfl,_,rfl,_,_,rfl,rfl,_,_,rfl,rfl,?_,_,_,rfl,rfl,.inl ⟨_,_,rfl,rfl,_,rfl,yM ⟨_,rfl,trivial,st i acc A e u⟩ ⟨A,e,u.skip⟩⟩⟩
   show (0:Int)<=0+(i:Int)+1
   omega
  ·rintro acc ⟨A,rfl,u⟩
   rw [eW] at u
   have u:eO (n:Int) A:=by rw [bj8] at u; exact u
   exact⟨⟨_,_,rfl,rfl,c6 _,trivial,q A u.set⟩,fun ns z=>by cases z⟩
 ·refine⟨_,rfl,_,rfl,by omega,by omega,by rw [eW]; omega,fun i acc=>∃ A,acc=intz A/\eO (i:Int) A,⟨[],rfl,eO.nil⟩,?_,?_⟩
  ·rintro i y acc hy ⟨A,e,u⟩
   obtain ⟨rfl,hi⟩:=k7 hy
   have hi:i < n:=by rw [bj8] at hi; exact hi
   refine⟨_,rfl,_,rfl,_,_,rfl,rfl,_,_,rfl,?_,?_,fun z z0=>⟨_,_,rfl,rfl,(by show (0:Int) < 3; decide),_,_,rfl,rfl,_,rfl,yM ⟨_,rfl,trivial,st i acc A e u⟩ ⟨A,e,u.skip⟩⟩⟩
   ·show (0:Int)<=0+(i:Int)+90; omega
   ·show 0+(i:Int)+90<=1000; omega
  ·rintro acc ⟨A,rfl,u⟩
   rw [eW] at u
   have u:eO (n:Int) A:=by rw [bj8] at u; exact u
   exact⟨⟨_,_,rfl,rfl,c6 _,trivial,q A u.set⟩,fun ns z=>by cases z⟩
section
variable {ws : List Int} {ls : List (Int × Int)} {ns S : List Int}
noncomputable def dY (S:List Int) (h:Int):List Int:=S.filter fun z=>!decide (z ∈ [h])
theorem m8 {h x:Int}:x ∈ dY S h ↔ x ∈ S/\x ≠ h:=by unfold dY; rw [bh8]; simp
theorem tQ {n:Nat}{h:Int} (hs:aW n S=true):aW n (dY S h)=true:=sV hs _
end
theorem ad6 (n:Nat):aW n (rng n)=true:=yD.set ⟨aa7 n,fun x hx=>dL.mp hx⟩
end Core
namespace L2
open PySem PySem.Spec PyProof.Rows
noncomputable def ad7 (K:PySem.W.Frag) (a:Addr) (n:Nat):It:=
 ⟨fun i H=>(∃ xs,aK K H a xs/\xs.length=n)/\i < n,fun i H x H'=>H'=H/\∀ xs,aK K H a xs->xs[n - 1 - i]? = some x,fun i H=>i=n⟩
theorem aT9 {P:Program}{w:World}{K:PySem.W.Frag}{tg:Expr} (a it:Addr) (n:Nat):iH P w K tg (ad7 K a n) [it] it (fun i h=>h.IsRevIter it a ((n:Int) - 1 - (i:Int))):=by
 refine⟨by simp,fun i h st b hb=>?_,fun i h h' st k=>st.at fun o e=>k it (by simp) o e,?_,?_,fun _ _ _ _ _ st q=>wpAny_pyIter_revIter st q⟩
 ·obtain rfl:b=it:=by simpa using hb
  obtain ⟨o,e,c,d⟩:=st
  exact⟨o,e,fun v z=>by rw [d] at z; cases z⟩
 ·intro X hP hw hK hc i pins s σ H E I hf st hg
  subst hP hw hK
  obtain ⟨⟨xs,hq,hl⟩,hi⟩:=hg
  obtain ⟨its,rv,p,hz⟩:=I.list hq
  have lv:=rv.length
  have hx:xs[n - 1 - i]? = some (xs[n - 1 - i]'(by omega)):=bg3 (by omega)
  obtain ⟨u,hu,ru⟩:=rv.get hx
  obtain ⟨f0,f1,f2,f3,f4,f5⟩:=hf it (by simp)
  have e0:(n:Int) - 1 - (i:Int)=((n - 1 - i:Nat):Int):=by omega
  rw [e0] at st
  refine wpAny_pyNext_rev_item st p.isList (x:=u) (by simpa using hu) fun h' st' sb=>?_
  have I1:a6 X pins σ H { s with heap:=h' }:=I.turned (t':=s.toks) (fun b o hb e=>(sb.2 b hb).trans e) f0 f1 f3 f4 f5
  have e1:((n - 1 - i:Nat):Int) - 1=(n:Int) - 1 - ((i+1:Nat):Int):=by omega
  rw [e1] at st'
  obtain ⟨o,e,c,d⟩:=id st'
  exact⟨u,rfl,qF (s:={ s with heap:=h' }) e c d (by decide) ⟨_,H,I1,ru,⟨rfl,fun ys hy=>by rw [I.list_inj hy hq]; exact hx⟩,st',fun b hb=>(hf b hb).1⟩⟩
 ·intro X hP hw hK hc i pins s σ H E I hf st hg
  subst hP hw hK
  have hg:i=n:=hg
  subst hg
  obtain ⟨f0,f1,f2,f3,f4,f5⟩:=hf it (by simp)
  rw [show (i:Int) - 1 - (i:Int) = -1 by omega] at st
  exact wpAny_pyNext_rev_end (I.ok.hd hc) st fun h' eb=>⟨rfl,I.turned (t':=s.toks) (fun b o hb e=>eb b o hb e) f0 f1 f3 f4 f5⟩
section
variable {X : Cx}
noncomputable def ad8 (K:PySem.W.Frag) (ta:TA):TI:=fun σ H R=>ta σ H fun vs H1=>∃ a xs,vs = [.ref a]/\aK K H1 a xs/\R (ad7 K a xs.length) H1
theorem aU0 {tg:Expr}{a:Expr}{ta:TA}{p pos:Pos} (hg:Gl X "reversed") (hm:X.mg "reversed" = none) (ha:PA X [a] ta) (hs:starEach [a] X.env = [(false,eval a X.env)]:=by rfl) :
  PI X tg (.Call (.Name "reversed" p) [a] [] pos) (ad8 X.K ta):=by
 intro pins s σ H R I h
 refine Call_ (jL I hg hm PyProof.Rows.boot_reversed (bn0 (aN (ha pos pins s σ H _ I h) fun us s1 ⟨vs,H1,I1,r1,q1⟩=>?_) (by rw [hs]; rfl) (by rfl)))
 obtain ⟨a',xs,e,h1,q⟩:=q1
 subst e
 cases r1 with
 | cons r rr=>
  cases rr
  cases r
  obtain ⟨us,rv,p1,_⟩:=I1.list h1
  have lv:=rv.length
  refine call_reversed_list p1.isList ?_
  have st:∀ t:Nat,(s1.heap.push (revObj a' ((us.toArray.size:Int) - 1))).IsRevIter s1.heap.objs.size a' ((xs.length:Int) - 1 - (0:Nat)):=fun _=>by
   rw [bh0,<- lv]
   exact⟨_,bi8 _ rfl,rfl,by rw [show (xs.length:Int) - 1 - (0:Nat)=(xs.length:Int) - 1 by omega]; rfl⟩
  refine wpAny_pyIter_revIter (st 0) ?_
  refine⟨s1.heap.objs.size,[s1.heap.objs.size],_,_,H1,rfl,I1.kept (t':=s1.toks) fun b o e=>bg1 _ e,aT9 a' _ xs.length,st 0,fun c hc=>?_,q⟩
  obtain rfl:c=s1.heap.objs.size:=by simpa using hc
  exact I1.fpOk (bg9 _) (I1.hok.fresh (bg9 _))
end
end L2
namespace PP
open PySem L2
section
variable {X : Cx} {σ : St} {H : Hp} {te : aG} {R : It → Hp → Prop} {a : Expr} {p2 pos : Pos}
noncomputable def yN (te:aG):fJ:=fun ρ Q=>te ρ fun x g=>∃ xs,x = .lst xs/\g ≠ .rd/\Q xs.reverse (rJ g xs)
theorem aU1 (h:LI X (yN te) σ H R):ad8 X.K (iI (LE X te) jM) σ H R:=by
 obtain ⟨W,ρ,Q,px,q,k⟩:=h
 refine⟨W,ρ,_,px,q,?_⟩
 rintro v H1 x g s r ⟨xs,rfl,hg,q⟩
 have px1:=px.mono s
 have tw:∀ a,W a->∃ o,H1 a=some o/\i8 o=true:=fun a z=>(px1.wm a z).2
 obtain ⟨a,us,rfl,m,ea,r⟩:=r.sqL
 have wa : ¬ W a:=by
  cases g with
  | fr=>exact (px.new m).1
  | nw=>exact m.1
  | sh=>exact m
  | rd=>exact absurd rfl hg
 have lr:=r.length
 have ha:∀ W' H',Ev W H1 W' H'->aK X.K H' a us:=fun W' H' e=>aK.of (e _ _ ea wa).1
 have rr:=lT px (fun z=>absurd z hg) r
 refine⟨a,us,rfl,aK.of ea,k _ _ _ _ s ⟨fun W' H' i e hi=>⟨⟨us,ha W' H' e,rfl⟩,?_⟩,fun W' H' i v H2 e y hi=>?_,fun W' H' e=>?_⟩ q⟩
 ·rw [List.length_reverse] at hi; omega
 ·rw [List.length_reverse] at hi
  obtain ⟨rfl,y⟩:=y
  obtain ⟨x,hx,rx⟩:=rr.get (y us (ha W' _ e))
  refine⟨aD.refl _,x,?_,rx.keep (e.keep tw)⟩
  rw [List.getElem?_reverse hi,<- lr]
  exact hx
 ·show xs.reverse.length=us.length
  rw [List.length_reverse]; omega
theorem aU2 {tg:Expr} (hm:X.mg "reversed" = none) (ha:QE X a te) (hg:Gl X "reversed":=by rfl) (hs:starEach [a] X.env = [(false,eval a X.env)]:=by rfl):QI X tg (.Call (.Name "reversed" p2) [a] [] pos) (yN te):=pA (aU0 hg hm (cO ha dF hs) hs) fun _ _ _=>aU1
end
end PP
namespace Core
open PySem L2 PP
noncomputable def K8 (ws:List Int) (ls:List (Int × Int)) (ns R:List Int):Prop:=ac0 ws ls ns R=true/\fU ws ls (ns ++ R)
end Core
namespace L2
open PySem PySem.Spec PyProof.Rows PP
section
variable {prog : Program} {w : World} {A : Around} {R : Result → Shared → Prop} {I S : Addr} {n : Nat} {l : Addr} {its : Array Value} {s0 : Shared} {bt : Nat → Nat → Bool}
noncomputable abbrev at_ (s:Shared) (h:Heap) (k:Nat):Shared:={ s with heap:=h,toks:=k }
noncomputable abbrev aU3 (g h:Heap):Prop:=∀ b o,g.get? b=some o->h.get? b=some o
noncomputable def cB (prog:Program) (w:World) (A:Around) (s0:Shared) (its:Array Value) (bt:Nat->Nat->Bool):Prop:=
 ∀ (i j:Nat) (v u:Value) (h:Heap) (k:Nat) (Q E:Value->Shared->Prop),its[i]? = some v->its[j]? = some u->aU3 s0.heap h->Q (.bool (bt i j)) (at_ s0 h k)->wpAny (model prog w) A (richCompare .Lt v u) Q E (at_ s0 h k)
end
end L2
namespace Core
open PySem L2 PP
noncomputable def FB (L:List (List Int)) (f:List Int->Int) (r:List Int):Prop:=∃ i,L[i]? = some r/\(∀ (j:Nat) (s:List Int),j < i->L[j]? = some s->f s < f r)/\∀ s ∈ L,f s<=f r
noncomputable def fX (n:Nat) (ls:List (Int × Int)):Prop:=(∀ l ∈ ls,0<=l.1/\l.1 < l.2/\l.2 < (n:Int))/\ls.length<=1700/\ls.Pairwise kA
noncomputable def fY (S:List Int) (l:Int × Int):Bool:=decide (l.1 ∈ S) && decide (l.2 ∈ S)
theorem aU4 {ls:List (Int × Int)} (h:ls.Pairwise kA):ls.Nodup:=h.imp fun {a b} z e=>by subst e; unfold kA at z; omega
noncomputable def yO (r c:Int) (l:Int × Int):Bool:=decide (0<=l.1) && (decide (l.1 < r) && (decide (0<=l.2) && decide (l.2 < c)))
noncomputable def aU5 (l:Int × Int):List (Int × Int):=[(l.1 - 1,l.2),(l.1,l.2 - 1),(l.1,l.2+1),(l.1+1,l.2)]
noncomputable def yQ (r c:Int) (l:Int × Int):List (Int × Int):=(aU5 l).filter (yO r c)
theorem gF:∀ {l m:List Int},l.Nodup->(∀ x ∈ l,x ∈ m)->l.length<=m.length
 | [],_,_,_=>bl0 _
 | a :: r,m,nd,h=>by
  have hm:=h a bg7
  have:=gF (l:=r) (m:=m.erase a) (bm6.mp nd).2 fun x hx=>(List.mem_erase_of_ne (show x ≠ a from fun e=>(bm6.mp nd).1 (by rw [<- e]; exact hx))).mpr (h x (bg6 _ hx))
  rw [List.length_erase_of_mem hm] at this
  have:=List.length_pos_of_mem hm
  rw [bi9]; omega
section
variable {ls : List (Int × Int)} {n : Nat} {B : List Int}
noncomputable def ins (ls:List (Int × Int)) (S:List Int) (h:Int):Nat:=((aH ls h).filter fun x=>decide (x ∈ S)).length
noncomputable def Two (ls:List (Int × Int)) (S:List Int):Prop:=∀ h ∈ S,2<=ins ls S h
theorem aU6 {S:List Int}{h:Int} (nd:(aH ls h).Nodup) (t:2<=ins ls S h):∃ a b,a ∈ aH ls h/\b ∈ aH ls h/\a ∈ S/\b ∈ S/\a ≠ b:=by
 unfold ins at t
 have n2:=nd.filter (fun x=>decide (x ∈ S))
 have mem:∀ x ∈ (aH ls h).filter fun x=>decide (x ∈ S),x ∈ aH ls h/\x ∈ S:=fun x hx=>⟨(bh8.mp hx).1,bl6 (bh8.mp hx).2⟩
 cases e:(aH ls h).filter fun x=>decide (x ∈ S) with
 | nil=>rw [e] at t; simp at t
 | cons x r=>
  cases r with
  | nil=>rw [e] at t; simp at t
  | cons y z=>
   rw [e] at n2 mem
   have h1:=mem x bg7
   have h2:=mem y (bg6 _ bg7)
   exact⟨x,y,h1.1,h2.1,h1.2,h2.2,fun z=>(bm6.mp n2).1 (by rw [z]; exact bg7)⟩
end
section
variable {ls : List (Int × Int)} {B : List Int}
structure eG (ls:List (Int × Int)):Prop where
 lt:∀ l ∈ ls,l.1 < l.2
 ord:ls.Pairwise kA
theorem eG.nnd (f:eG ls) (h:Int):(aH ls h).Nodup:=aa6 f.lt f.ord
theorem eG.irr (f:eG ls) (h:Int):h ∉ aH ls h:=fun z=>by
 rcases L2.dU.mp z with z | z <;> exact absurd (f.lt _ z) (Int.lt_irrefl _)
end
noncomputable def tR (d:Int):Int:=if d - 1 > 0 then d - 1 else 0
noncomputable def yR (ls:List (Int × Int)) (S:List Int):Prop:=∀ U,Two ls U->(∀ x ∈ U,x ∈ S)->U = []
theorem fX.fit {n:Nat}{ls:List (Int × Int)} (lk:fX n ls):eG ls:=⟨fun l hl=>(lk.1 l hl).2.1,lk.2.2⟩
noncomputable def nQ (L:List Int) (h:Int) (l:Int × Int):Bool:=decide (h ∈ [l.1,l.2]) && (decide (l.1 ∈ L) && decide (l.2 ∈ L))
theorem ad9 {L:List Int}{h:Int} (hh:h ∈ L):∀ {ls:List (Int × Int)},(∀ l ∈ ls,l.1 ≠ l.2)->(ls.filter (nQ L h)).length=ins ls L h
 | [],_=>rfl
 | l :: r,ne=>by
  have ih:=ad9 hh (ls:=r) fun m hm=>ne m (bg6 _ hm)
  have e:aH (l :: r) h=((if l.1=h then [l.2] else []) ++ (if l.2=h then [l.1] else [])) ++ aH r h:=rfl
  have n0:=ne l bg7
  unfold ins at ih ⊢
  rw [e,List.filter_append,bh6,<- ih]
  by_cases a:l.1=h
  ·have b : ¬ l.2=h:=fun z=>n0 (a.trans z.symm)
   have a1:l.1 ∈ L:=by rw [a]; exact hh
   have a2:h ∈ [l.1,l.2]:=by rw [a]; exact bg7
   rw [if_pos a,if_neg b,bk4]
   by_cases c:l.2 ∈ L
   ·rw [List.filter_cons_of_pos (by unfold nQ; rw [bg2 a2,bg2 a1,bg2 c]; rfl),List.filter_cons_of_pos (by simpa using c),bi9]
    show _=1+_
    omega
   ·rw [bt9 (by unfold nQ; rw [bg4 c,bv2,bv2]; decide),bt9 (by simpa using c)]
    show _=0+_
    omega
  ·by_cases b:l.2=h
   ·have a1:l.2 ∈ L:=by rw [b]; exact hh
    have a2:h ∈ [l.1,l.2]:=by rw [b]; exact bg6 _ bg7
    rw [if_neg a,if_pos b,List.nil_append]
    by_cases c:l.1 ∈ L
    ·rw [List.filter_cons_of_pos (by unfold nQ; rw [bg2 a2,bg2 a1,bg2 c]; rfl),List.filter_cons_of_pos (by simpa using c),bi9]
     show _=1+_
     omega
    ·rw [bt9 (by unfold nQ; rw [bg4 c,Bool.false_and,bv2]; decide),bt9 (by simpa using c)]
     show _=0+_
     omega
   ·have a2:h ∉ [l.1,l.2]:=fun z=>by
     simp only [bg8,bi6,bm1] at z
     rcases z with z | z
     ·exact a z.symm
     ·exact b z.symm
    rw [if_neg a,if_neg b,bt9 (by unfold nQ; rw [bg4 a2,Bool.false_and]; decide)]
    show _=0+_
    omega
end Core
namespace L2
open PySem PySem.Spec PyProof.Rows SO
noncomputable abbrev kk (l:Int × Int):List aB:=[Sum.inl l.1,Sum.inl l.2]
theorem aU7 {α β:Type}{R:α->β->Prop}{xs ys:List α} (h:xs.Perm ys):∀ {ks:List β},Paired R xs ks->∃ ks',ks'.Perm ks/\Paired R ys ks':=by
 induction h with
 | nil=>intro ks r; exact⟨ks,bv5 _,r⟩
 | cons v _ ih=>
  intro ks r
  cases r with
  | cons r t=>
   obtain ⟨xs',p,r'⟩:=ih t
   exact⟨_ :: xs',p.cons _,.cons r r'⟩
 | swap u v l=>
  intro xs r
  cases r with
  | cons r t=>cases t with
   | cons r2 t2=>exact⟨_,List.Perm.swap _ _ _,.cons r2 (.cons r t2)⟩
 | trans _ _ ih1 ih2=>
  intro xs r
  obtain ⟨x1,p1,r1⟩:=ih1 r
  obtain ⟨x2,p2,r2⟩:=ih2 r1
  exact⟨x2,p2.trans p1,r2⟩
theorem aU8 {α β:Type}{R:α->β->Prop}:∀ {xs:List α}{ys:List β},Paired R xs ys->∀ y ∈ ys,∃ x ∈ xs,R x y
 | _,_,.nil,y,h=>nomatch h
 | _,_,.cons r p,y,h=>by
  rcases bg8.mp h with rfl | h
  ·exact⟨_,bg7,r⟩
  ·obtain ⟨x,hx,rx⟩:=aU8 p y h
   exact⟨x,bg6 _ hx,rx⟩
theorem ae0 {α β:Type}{R:α->β->Prop}:∀ {xs:List α}{ys:List β},Paired R xs ys->∀ x ∈ xs,∃ y ∈ ys,R x y
 | _,_,.nil,y,h=>nomatch h
 | _,_,.cons r p,y,h=>by
  rcases bg8.mp h with rfl | h
  ·exact⟨_,bg7,r⟩
  ·obtain ⟨x,hx,rx⟩:=ae0 p y h
   exact⟨x,bg6 _ hx,rx⟩
end L2
namespace Core
open PySem L2 PP
inductive pZ (r c:Int) (S:List (Int × Int)):Int × Int->Prop
 | seed {x:Int × Int}:x ∈ S->pZ r c S x
 | kin {x a b:Int × Int}:yO r c x=true->a ∈ yQ r c x->b ∈ yQ r c x->a ≠ b->pZ r c S a->pZ r c S b->pZ r c S x
noncomputable def nbC (r c:Int) (P:List (Int × Int)) (x:Int × Int):Nat:=(P.filter fun p=>decide (x ∈ yQ r c p)).length
structure Wk (r c:Int) (S K P:List (Int × Int)):Prop where
 nd:K.Nodup
 ndP:P.Nodup
 sub:∀ x ∈ P,x ∈ K
 brn:∀ x ∈ K,pZ r c S x
 sd:∀ x ∈ S,x ∈ K
 bd:∀ x ∈ K,yO r c x=true
 low:∀ x,x ∉ K->nbC r c P x < 2
end Core
namespace L2
open PySem PySem.Spec PyProof.Rows SO
noncomputable abbrev kn (ns:List Int):List aB:=ns.map Sum.inl
end L2
namespace Core
open PySem L2 PP
structure Bx where
 t:Int
 l:Int
 b:Int
 r:Int
deriving DecidableEq
noncomputable def Bx.k (x:Bx):List Int:=[x.t,x.l,x.b,x.r]
noncomputable def okX (x:Bx):Prop:=x.t<=x.b/\x.l<=x.r
noncomputable def inX (x:Bx) (p:Int × Int):Prop:=x.t<=p.1/\p.1<=x.b/\x.l<=p.2/\p.2<=x.r
noncomputable def ae1 (x a:Int × Int):Prop:=(a.1=x.1/\(a.2=x.2 - 1 ∨ a.2=x.2+1)) ∨ (a.2=x.2/\(a.1=x.1 - 1 ∨ a.1=x.1+1))
noncomputable def Clo (B:Bx) (U:Int × Int->Prop):Prop:=∀ x a b,inX B x->ae1 x a->ae1 x b->a ≠ b->U a->U b->U x
section
variable {B : Bx} {U : Int × Int → Prop}
variable {t l b r : Int}
section
variable (cl : Clo B U) {p1 p2 : Int} (u : U (p1, p2)) (ip : inX B (p1, p2))
include cl u ip
end
end
theorem tS {α:Type} (p q:α->Bool):∀ l:List α,(l.filter p).length=(l.filter fun x=>p x && !q x).length+(l.filter fun x=>q x && p x).length
 | []=>rfl
 | a :: r=>by
  have ih:=tS p q r
  rw [bt1,bt1,bt1]
  cases p a <;> cases q a <;> simp <;> omega
section
variable {ls : List (Int × Int)} {n : Nat} {U : List Int} {v : Int}
theorem aU9 (hv:v ∈ U) (ne:∀ l ∈ ls,l.1 ≠ l.2):(ls.filter (fY U)).length=(ls.filter (fY (dY U v))).length+ins ls U v:=by
 rw [<- ad9 hv ne,tS (fY U) (fun l=>decide (v ∈ [l.1,l.2])) ls]
 congr 2
 refine br7 fun l _=>?_
 unfold fY
 rw [bl8]
 simp only [bj9,bw5,bk2,bk9,m8,bg8,bi6,bm1,not_or]
 constructor
 ·rintro ⟨⟨a,b⟩,c,d⟩; exact⟨⟨a,fun z=>c z.symm⟩,b,fun z=>d z.symm⟩
 ·rintro ⟨⟨a,c⟩,b,d⟩; exact⟨⟨a,b⟩,fun z=>c z.symm,fun z=>d z.symm⟩
theorem ae2 {h:Int} (x:Int) (hx:x ∈ comp ls (dY U v) h):x ∈ comp ls U h:=by
 obtain ⟨h1,h2⟩:=fV.mp hx
 exact fV.mpr ⟨(m8.mp h1).1,fun W hW hh=>h2 W (fun a ha b hb bS=>hW a ha b hb (m8.mp bS).1) hh⟩
theorem fC {S:List Int}{h:Int}:h ∈ aZ ls S ↔ h ∈ S/\(comp ls S h).head? = some h:=by
 unfold aZ pW
 rw [bh8]
 exact⟨fun z=>⟨z.1,@bl6 _ _ z.2⟩,fun z=>⟨z.1,@bg2 _ _ z.2⟩⟩
theorem yT (hU:aW n U=true) {h:Int} (hh:h ∈ aZ ls U) (ne:h ≠ v):h ∈ aZ ls (dY U v):=by
 obtain ⟨h1,h2⟩:=fC.mp hh
 have hb:h ∈ dY U v:=m8.mpr ⟨h1,ne⟩
 refine fC.mpr ⟨hb,yG (gE (tQ hU)) (fW hb) fun x hx=>?_⟩
 have:=(jJ (gE hU) h2).2 x (ae2 x hx)
 omega
theorem yU (hU:aW n U=true):(aZ ls U).Nodup:=by
 have:U.Nodup:=(fA (cL hU).1).imp fun h=>bq5 h
 exact this.filter _
theorem aV0 (f:eG ls) (hU:aW n U=true) (hv:v ∈ U):(aZ ls U).length<=(aZ ls (dY U v)).length+(if ins ls U v=0 then 1 else 0):=by
 have nd:=yU (ls:=ls) hU
 by_cases hh:v ∈ aZ ls U
 ·by_cases i0:ins ls U v=0
  ·rw [if_pos i0]
   have:=gF nd (m:=v :: aZ ls (dY U v)) fun x hx=>by
    by_cases e:x=v
    ·rw [e]; exact bg7
    ·exact bg6 _ (yT hU hx e)
   rw [bi9] at this
   exact this
  ·rw [if_neg i0]
   obtain ⟨w,hw⟩:∃ w,w ∈ (aH ls v).filter fun x=>decide (x ∈ U):=by
    cases e:(aH ls v).filter fun x=>decide (x ∈ U) with
    | nil=>exact absurd (show ins ls U v=0 by unfold ins; rw [e]; rfl) i0
    | cons a r=>exact⟨a,bg7⟩
   obtain ⟨w1,w2⟩:=bh8.mp hw
   have w2:w ∈ U:=bl6 w2
   have wv:w ≠ v:=fun e=>f.irr v (e ▸ w1)
   have wb:w ∈ dY U v:=m8.mpr ⟨w2,wv⟩
   have cs:=gE (ls:=ls) (h:=w) (tQ (h:=v) hU)
   obtain ⟨a,ha⟩:∃ a,(comp ls (dY U v) w).head? = some a:=by
    cases e:comp ls (dY U v) w with
    | nil=>have:=fW (ls:=ls) wb; rw [e] at this; cases this
    | cons a r=>exact⟨a,rfl⟩
   have am:=(jJ cs ha).1
   have ab:=nP a am
   have ahd:a ∈ aZ ls (dY U v):=fC.mpr ⟨ab,by rw [jI (tQ hU) am wb]; exact ha⟩
   have wc:w ∈ comp ls U v:=iY v (fW hv) w w1 w2
   have ac:a ∈ comp ls U v:=by rw [<- jI hU wc hv]; exact ae2 a am
   have an:a ∉ aZ ls U:=fun z=>by
    have h1:=(fC.mp z).2
    rw [jI hU ac hv,(fC.mp hh).2] at h1
    exact (m8.mp ab).2 (bj0 h1).symm
   have nd2:(a :: (aZ ls U).erase v).Nodup:=bm6.mpr ⟨fun z=>an (List.mem_of_mem_erase z),nd.erase v⟩
   have:=gF nd2 (m:=aZ ls (dY U v)) fun x hx=>by
    rcases bg8.mp hx with rfl | hx
    ·exact ahd
    ·have h2:=(nd.mem_erase_iff).mp hx
     exact yT hU h2.2 h2.1
   rw [bi9,List.length_erase_of_mem hh] at this
   have:=List.length_pos_of_mem hh
   omega
 ·have:=gF nd (m:=aZ ls (dY U v)) fun x hx=>yT hU hx fun e=>hh (e ▸ hx)
  omega
noncomputable def mu (ls:List (Int × Int)) (U:List Int):Int:=((ls.filter (fY U)).length:Int) - (U.length:Int)+((aZ ls U).length:Int)
theorem ae3 (nd:U.Nodup) (hv:v ∈ U):(dY U v).length+1=U.length:=by
 have e:dY U v=U.erase v:=by
  unfold dY
  rw [nd.erase_eq_filter]
  refine br7 fun x _=>?_
  by_cases h:x=v <;> simp [h]
 rw [e,List.length_erase_of_mem hv]
 have:=List.length_pos_of_mem hv
 omega
theorem aV1 (f:eG ls) (hU:aW n U=true) (hv:v ∈ U):mu ls U<=mu ls (dY U v)+tR (ins ls U v:Int):=by
 have a:=aU9 hv (fun l hl=>bq5 (f.lt l hl))
 have b:=aV0 f hU hv
 have c:=ae3 ((fA (cL hU).1).imp fun h=>bq5 h) hv
 unfold mu tR
 by_cases i0:ins ls U v=0
 ·rw [if_pos i0] at b
  rw [if_neg (by omega)]; omega
 ·rw [if_neg i0] at b
  by_cases i1:(ins ls U v:Int) - 1 > 0
  ·rw [if_pos i1]; omega
  ·rw [if_neg i1]; omega
theorem yV (f:eG ls):∀ (k:Nat) (T:List Int),T.length<=k->aW n T=true->yR ls T->mu ls T<=0
 | 0,T,hl,_,_=>by
  have:T = []:=List.length_eq_zero_iff.mp (by omega)
  subst this
  have:ls.filter (fY []) = []:=br2.mpr fun l _=>by simp [fY]
  unfold mu
  rw [this]
  show (0:Int) - 0+((([]:List Int).filter _).length:Int)<=0
  simp
 | k+1,T,hl,hT,no=>by
  by_cases e:T = []
  ·exact yV f k T (by rw [e]; simp) hT no
  ·obtain ⟨v,hv,hi⟩:∃ v,v ∈ T/\ins ls T v < 2:=bl5 fun z=>e (no T (fun h hh=>bs9 fun q=>z ⟨h,hh,q⟩) fun _ h=>h)
   have nd:T.Nodup:=(fA (cL hT).1).imp fun h=>bq5 h
   have bl:=ae3 nd hv
   have ih:=yV f k (dY T v) (by omega) (tQ hT) fun U hU sub=>no U hU fun x hx=>(m8.mp (sub x hx)).1
   have st:=aV1 f hT hv
   have:tR (ins ls T v:Int)=0:=by unfold tR; rw [if_neg (by omega)]
   omega
end
noncomputable def nR:bK:=fun xs Q=>∃ ws ls,xs = [b9 ws ls]/\Wb ws ls/\Q (.lst (tups (iZ ls (rng ws.length))))
noncomputable def ae4:aR:=(bP (aC (tJ fun _=>False) (a7 (a5 0) (a7 (aC tF (a7 (a5 0) (a7 (iQ a9) a9))) a9))))
theorem aV2:cC ae4 ["web"] nR:=by
 rintro xs Q ⟨ws,ls,rfl,wb,q⟩
 have few:=wb.few
 have e:jH ws.length []=rng ws.length:=bq3.mpr fun x _=>by simp
 have rs:=ad6 ws.length
 refine⟨_,rfl,_,rfl,by show 0<=1000; decide,rfl,ws,ls,_,[],rfl,.inl rfl,by decide,by omega,ws,ls,_,jH ws.length [],rfl,wb,.inl rfl,?_,fun _=>⟨trivial,?_⟩,fun z=>?_⟩
 ·rw [e,cX]; omega
 ·rw [e]; exact q
 ·rw [e,rs] at z; cases z
noncomputable abbrev yW:=List (Int × List Int)
noncomputable def nS (D:yW):List Int:=D.map (·.1)
noncomputable def ae5 (n:Nat) (ls:List (Int × Int)) (h:Int):Prop:=∀ x ∈ comp ls (rng n) h,h<=x
structure aV3 (n:Nat) (ls:List (Int × Int)) (D:yW):Prop where
 nd:(nS D).Nodup
 inn:∀ h ∈ nS D,h ∈ rng n
 up:∀ h w,(h,w) ∈ D->(w = [h]/\ae5 n ls h) ∨ ∃ g u,(g,u) ∈ D/\w=u ++ [h]/\h ∈ aH ls g
section
variable {n : Nat} {ls : List (Int × Int)} {D : yW}
theorem root_of (t:aV3 n ls D) (cl:eR ls (rng n) (nS D)) {i:Nat} (hi:i < n) (lo:∀ k:Nat,k < i->(k:Int) ∈ nS D) (hn:(i:Int) ∉ nS D):ae5 n ls (i:Int):=fun x hx=>by
 have xr:=nP x hx
 have b:=dL.mp xr
 refine bl5 fun lt=>hn ?_
 have xk:x ∈ nS D:=by
  have:=lo x.toNat (by omega)
  rwa [show ((x.toNat:Nat):Int)=x by omega] at this
 have im:(i:Int) ∈ rng n:=dL.mpr ⟨by omega,by omega⟩
 have back:(i:Int) ∈ comp ls (rng n) x:=by rw [jI (ad6 n) hx im]; exact fW im
 exact (fV.mp back).2 _ cl xk
end
section
variable {ls : List (Int × Int)} {l : Int × Int} {n : Nat} {S U : List Int} {h x y : Int}
theorem yX:y ∈ aH (l :: ls) x ↔ y ∈ aH ls x ∨ l=(x,y) ∨ l=(y,x):=by
 rw [L2.dU,L2.dU,bg8,bg8]
 constructor
 ·rintro ((e | e) | (e | e))
  ·exact .inr (.inl e.symm)
  ·exact .inl (.inl e)
  ·exact .inr (.inr e.symm)
  ·exact .inl (.inr e)
 ·rintro ((e | e) | (e | e))
  ·exact .inl (.inr e)
  ·exact .inr (.inr e)
  ·exact .inl (.inl e.symm)
  ·exact .inr (.inl e.symm)
theorem tT (hS:aW n S=true) (hh:h ∈ S) (hU:eR ls S U) (hu:h ∈ U) (le:∀ x ∈ U,x ∈ S->h<=x):h ∈ aZ ls S:=
 fC.mpr ⟨hh,yG (gE hS) (fW hh) fun x hx=>le x ((fV.mp hx).2 U hU hu) (nP x hx)⟩
theorem yY (hS:aW n S=true) (hh:h ∈ aZ ls S) (no:h ∉ aZ (l :: ls) S):fY S l=true/\(l.1 ∈ comp ls S h ∨ l.2 ∈ comp ls S h):=by
 obtain ⟨h1,h2⟩:=fC.mp hh
 have le:=(jJ (gE hS) h2).2
 refine bl5 fun hn=>no (tT hS h1 (U:=comp ls S h) (fun x hx y hy yS=>?_) (fW h1) fun x hx _=>by have:=le x hx; omega)
 rcases yX.mp hy with e | e | e
 ·exact iY x hx y e yS
 ·refine absurd ⟨?_,.inl (by rw [e]; exact hx)⟩ hn
  unfold fY; rw [e,bj9]; exact⟨bg2 (nP x hx),bg2 yS⟩
 ·refine absurd ⟨?_,.inr (by rw [e]; exact hx)⟩ hn
  unfold fY; rw [e,bj9]; exact⟨bg2 yS,bg2 (nP x hx)⟩
theorem yZ (hS:aW n S=true) {a b z:Int} (ha:a ∈ aZ ls S) (hb:b ∈ aZ ls S) (za:z ∈ comp ls S a) (zb:z ∈ comp ls S b):a=b:=by
 obtain ⟨a1,a2⟩:=fC.mp ha
 obtain ⟨b1,b2⟩:=fC.mp hb
 rw [<- jI hS za a1] at a2
 rw [<- jI hS zb b1,a2] at b2
 exact bj0 b2
theorem ae6 (hS:aW n S=true) {a b:Int} (ha:a ∈ aZ ls S) (hb:b ∈ aZ ls S) (la:l.1 ∈ comp ls S a) (lb:l.2 ∈ comp ls S b) (lt:a<=b):a ∈ aZ (l :: ls) S:=by
 obtain ⟨a1,a2⟩:=fC.mp ha
 obtain ⟨b1,b2⟩:=fC.mp hb
 have lea:=(jJ (gE hS) a2).2
 have leb:=(jJ (gE hS) b2).2
 refine tT hS a1 (U:=comp ls S a ++ comp ls S b) (fun x hx y hy yS=>?_) (bh4.mpr (.inl (fW a1))) fun x hx _=>?_
 ·rcases yX.mp hy with e | e | e
  ·rcases bh4.mp hx with z | z
   ·exact bh4.mpr (.inl (iY x z y e yS))
   ·exact bh4.mpr (.inr (iY x z y e yS))
  ·rw [e] at lb; exact bh4.mpr (.inr lb)
  ·rw [e] at la; exact bh4.mpr (.inl la)
 ·rcases bh4.mp hx with z | z
  ·have:=lea x z; omega
  ·have:=leb x z; omega
theorem ae7 (hS:aW n S=true) {a b:Int} (ha:a ∈ aZ ls S) (hb:b ∈ aZ ls S) (la:l.1 ∈ comp ls S a) (lb:l.2 ∈ comp ls S b) (lt:b<=a):b ∈ aZ (l :: ls) S:=by
 obtain ⟨a1,a2⟩:=fC.mp ha
 obtain ⟨b1,b2⟩:=fC.mp hb
 have lea:=(jJ (gE hS) a2).2
 have leb:=(jJ (gE hS) b2).2
 refine tT hS b1 (U:=comp ls S a ++ comp ls S b) (fun x hx y hy yS=>?_) (bh4.mpr (.inr (fW b1))) fun x hx _=>?_
 ·rcases yX.mp hy with e | e | e
  ·rcases bh4.mp hx with z | z
   ·exact bh4.mpr (.inl (iY x z y e yS))
   ·exact bh4.mpr (.inr (iY x z y e yS))
  ·rw [e] at lb; exact bh4.mpr (.inr lb)
  ·rw [e] at la; exact bh4.mpr (.inl la)
 ·rcases bh4.mp hx with z | z
  ·have:=lea x z; omega
  ·have:=leb x z; omega
theorem aV4 (hS:aW n S=true) {a b:Int} (ha:a ∈ aZ ls S) (na:a ∉ aZ (l :: ls) S) (hb:b ∈ aZ ls S) (nb:b ∉ aZ (l :: ls) S):a=b:=by
 rcases (yY hS ha na).2 with la | la <;> rcases (yY hS hb nb).2 with lb | lb
 ·exact yZ hS ha hb la lb
 ·rcases Int.le_total a b with z | z
  ·exact absurd (ae6 hS ha hb la lb z) na
  ·exact absurd (ae7 hS ha hb la lb z) nb
 ·rcases Int.le_total a b with z | z
  ·exact absurd (ae7 hS hb ha lb la z) na
  ·exact absurd (ae6 hS hb ha lb la z) nb
 ·exact yZ hS ha hb la lb
theorem aV5 (hS:aW n S=true):(aZ ls S).length<=(aZ (l :: ls) S).length+(if fY S l=true then 1 else 0):=by
 have nd:=yU (ls:=ls) hS
 by_cases ex:∃ a,a ∈ aZ ls S/\a ∉ aZ (l :: ls) S
 ·obtain ⟨a,ha,na⟩:=ex
  rw [if_pos (yY hS ha na).1]
  have:=gF nd (m:=a :: aZ (l :: ls) S) fun x hx=>by
   by_cases nx:x ∈ aZ (l :: ls) S
   ·exact bg6 _ nx
   ·rw [aV4 hS hx nx ha na]; exact bg7
  rwa [bi9] at this
 ·have:=gF nd (m:=aZ (l :: ls) S) fun x hx=>bl5 fun z=>ex ⟨x,hx,z⟩
  omega
theorem ae8 (hS:aW n S=true):S.Nodup:=(fA (cL hS).1).imp fun h=>bq5 h
theorem z9 (hS:aW n S=true):∀ ls:List (Int × Int),S.length<=(aZ ls S).length+(ls.filter (fY S)).length
 | []=>by
  refine bl1 (gF (ae8 hS) (m:=aZ [] S) fun x hx=>tT hS hx (U:=[x]) (fun a _ b hb _=>?_) bg7 fun y hy _=>?_) (bn3 _ _)
  ·rcases L2.dU.mp hb with e | e <;> cases e
  ·rw [bh1.mp hy]; exact bq2 _
 | l :: ls=>by
  have ih:=z9 hS ls
  have:=aV5 (ls:=ls) (l:=l) hS
  rw [bt1]
  split <;> rename_i e
  ·rw [if_pos e] at this; rw [bi9]; omega
  ·rw [if_neg e] at this; omega
noncomputable def fZ (ls:List (Int × Int)) (l:Int × Int):List (Int × Int):=ls.filter fun m=>!decide (m=l)
theorem nT {m:Int × Int}:m ∈ fZ ls l ↔ m ∈ ls/\m ≠ l:=by
 unfold fZ; rw [bh8,bw5,bk9]
theorem ae9:∀ {ls:List (Int × Int)},l ∈ ls->ls.Nodup->(fZ ls l).length+1<=ls.length
 | m :: r,hl,nd=>by
  unfold fZ
  rw [bt1]
  rcases bg8.mp hl with e | e
  ·subst e
   rw [bg2 rfl]
   have:=bm4 (fun m=>!decide (m=l)) r
   simp only [bi9,Bool.not_true,bj7,bp8]
   omega
  ·have ih:=ae9 e (bm6.mp nd).2
   unfold fZ at ih
   split
   ·rw [bi9,bi9]; omega
   ·rw [bi9]; omega
theorem aV6 (t:l.1 ∈ U ↔ l.2 ∈ U) (c:eR (fZ ls l) S U):eR ls S U:=fun x hx y hy yS=>by
 by_cases e:l=(x,y)
 ·rw [e] at t; exact t.mp hx
 ·by_cases e2:l=(y,x)
  ·rw [e2] at t; exact t.mpr hx
  ·refine c x hx y ?_ yS
   rcases L2.dU.mp hy with z | z
   ·exact L2.dU.mpr (.inl (nT.mpr ⟨z,fun q=>e q.symm⟩))
   ·exact L2.dU.mpr (.inr (nT.mpr ⟨z,fun q=>e2 q.symm⟩))
theorem zA (c:eR ls S U):eR (fZ ls l) S U:=fun x hx y hy yS=>by
 refine c x hx y ?_ yS
 rcases L2.dU.mp hy with z | z
 ·exact L2.dU.mpr (.inl (nT.mp z).1)
 ·exact L2.dU.mpr (.inr (nT.mp z).1)
theorem aV7 (t:∀ U,eR (fZ ls l) S U->(l.1 ∈ U ↔ l.2 ∈ U)):aZ (fZ ls l) S=aZ ls S:=by
 have e:∀ h,comp (fZ ls l) S h=comp ls S h:=fun h=>by
  refine br7 fun x _=>?_
  rw [bl8]
  constructor
  ·intro z; exact @bg2 _ (Classical.propDecidable _) fun U hU hh=>(@bl6 _ (Classical.propDecidable _) z) U (zA hU) hh
  ·intro z; exact @bg2 _ (Classical.propDecidable _) fun U hU hh=>(@bl6 _ (Classical.propDecidable _) z) U (aV6 (t U hU) hU) hh
 unfold aZ pW
 refine br7 fun x _=>?_
 rw [e]
noncomputable def fD (n:Nat) (ls:List (Int × Int)):Prop:=ls.length+(aZ ls (rng n)).length=n
theorem kG (n:Nat):aW n (rng n)=true:=by
 have:=aO4 n fun _=>true
 rwa [bq3.mpr fun _ _=>rfl] at this
theorem aV8 (w:fD n ls) (nd:ls.Nodup) (hl:l ∈ ls) : ¬ ∀ U,eR (fZ ls l) (rng n) U->(l.1 ∈ U ↔ l.2 ∈ U):=fun t=>by
 have h1:=z9 (kG n) (fZ ls l)
 rw [aV7 t,cX] at h1
 have h2:=bm4 (fY (rng n)) (fZ ls l)
 have h3:=ae9 hl nd
 unfold fD at w
 omega
end
noncomputable abbrev g9:=List (Int × Option Int)
noncomputable def bH (ls:List (Int × Int)) (h:Int) (e:Option Int):List Int:=(aH ls h).filter fun x=>!decide (some x=e)
theorem gZ {ls:List (Int × Int)}{h x:Int}{e:Option Int}:x ∈ bH ls h e ↔ x ∈ aH ls h/\some x ≠ e:=by
 unfold bH; rw [bh8,bw5,bk9]
structure gA (n:Nat) (ls:List (Int × Int)) (P:g9) (t:Nat):Prop where
 nd:(P.map (·.1)).Nodup
 inn:∀ p ∈ P,p.1 ∈ rng n
 par:∀ (i:Nat) (h e:Int),P[i]? = some (h,some e)->∃ (j:Nat) (q:Option Int),j < i/\j < t/\P[j]? = some (e,q)/\e ∈ aH ls h
 done:∀ (i:Nat) (h:Int) (e:Option Int),i < t->P[i]? = some (h,e)->∀ x ∈ aH ls h,e=some x ∨ (x,some h) ∈ P
 root:∀ h,(h,none) ∈ P ↔ h ∈ aZ ls (rng n)
structure Rt (n:Nat) (ls:List (Int × Int)) (P:g9):Prop where
 nd:(P.map (·.1)).Nodup
 mem:∀ h,h ∈ P.map (·.1) ↔ h ∈ rng n
 par:∀ (i:Nat) (h e:Int),P[i]? = some (h,some e)->∃ (j:Nat) (q:Option Int),j < i/\P[j]? = some (e,q)/\e ∈ aH ls h
 done:∀ h e,(h,e) ∈ P->∀ x ∈ aH ls h,e=some x ∨ (x,some h) ∈ P
 root:∀ h,(h,none) ∈ P ↔ h ∈ aZ ls (rng n)
theorem kH {P:g9} (nd:(P.map (·.1)).Nodup) {i j:Nat}{h:Int}{e e':Option Int} (hi:P[i]? = some (h,e)) (hj:P[j]? = some (h,e')):i=j/\e=e':=by
 have h1:(P.map (·.1))[i]? = some h:=by rw [bh5,hi]; rfl
 have h2:(P.map (·.1))[j]? = some h:=by rw [bh5,hj]; rfl
 have hl:i < (P.map (·.1)).length:=(bh2.mp h1).1
 have e0:i=j:=(List.getElem?_inj hl nd).mp (h1.trans h2.symm)
 subst e0
 rw [hi] at hj
 exact⟨rfl,by cases hj; rfl⟩
theorem gG {P:g9}{p:Int × Option Int} (h:p ∈ P):∃ i:Nat,P[i]? = some p:=bq4.mp h
theorem m9 {P:g9} (nd:(P.map (·.1)).Nodup) {h:Int}{e e':Option Int} (hi:(h,e) ∈ P) (hj:(h,e') ∈ P):e=e':=by
 obtain ⟨i,hi⟩:=gG hi
 obtain ⟨j,hj⟩:=gG hj
 exact (kH nd hi hj).2
section
variable {n : Nat} {ls : List (Int × Int)} {P : g9} {t : Nat}
theorem gA.root_of (B:gA n ls P t) {l:Int × Int} (lm:∀ (i:Nat) (h e:Int),P[i]? = some (h,some e)->l ≠ (h,e)/\l ≠ (e,h)):∀ (i:Nat) (x:Int) (q:Option Int),P[i]? = some (x,q)->∃ r,r ∈ aZ ls (rng n)/\∀ U,eR (fZ ls l) (rng n) U->(x ∈ U ↔ r ∈ U):=by
 intro i
 induction i using Nat.strongRecOn with
 | ind i ih=>
  intro x q hi
  cases q with
  | none=>exact⟨x,(B.root x).mp (bh9 hi),fun _ _=>Iff.rfl⟩
  | some e=>
   obtain ⟨j,q,ji,_,hj,ee⟩:=B.par i x e hi
   obtain ⟨r,hr,hu⟩:=ih j ji e q hj
   obtain ⟨l1,l2⟩:=lm i x e hi
   have en:e ∈ aH (fZ ls l) x:=by
    rcases L2.dU.mp ee with z | z
    ·exact L2.dU.mpr (.inl (nT.mpr ⟨z,fun q=>l1 q.symm⟩))
    ·exact L2.dU.mpr (.inr (nT.mpr ⟨z,fun q=>l2 q.symm⟩))
   refine⟨r,hr,fun U hU=>(Iff.intro (fun z=>hU x z e en (B.inn _ (bh9 hj))) fun z=>hU e z x (mR en) (B.inn _ (bh9 hi))).trans (hu U hU)⟩
theorem gA.fresh (B:gA n ls P t) (w:fD n ls) (f:eG ls) {h:Int}{e:Option Int} (ht:P[t]? = some (h,e)) {c:Int} (hc:c ∈ bH ls h e):c ∉ P.map (·.1):=by
 intro hin
 obtain ⟨cn,ce⟩:=gZ.mp hc
 obtain ⟨⟨c',q⟩,hm,rfl⟩:=bi4.mp hin
 obtain ⟨i,hi⟩:=gG hm
 have hc':h ∈ aH ls c':=mR cn
 have no1:∀ (i:Nat) (g:Int),P[i]? = some (g,some c')->g ≠ h:=fun i g hg z=>by
  subst z
  exact ce (kH B.nd hg ht).2
 have no2:∀ (i:Nat) (g:Int),P[i]? = some (g,some h)->g ≠ c':=fun i g hg z=>by
  obtain ⟨j,q,_,jt,hj,_⟩:=B.par i g h hg
  have:=(kH B.nd hj ht).1
  omega
 obtain ⟨l,hl,hlc⟩:∃ l,l ∈ ls/\(l=(h,c') ∨ l=(c',h)):=by
  rcases L2.dU.mp cn with z | z
  ·exact⟨_,z,.inl rfl⟩
  ·exact⟨_,z,.inr rfl⟩
 have lm:∀ (i:Nat) (g e:Int),P[i]? = some (g,some e)->l ≠ (g,e)/\l ≠ (e,g):=fun i g e hg=>by
  constructor <;> intro z <;> rcases hlc with y | y <;> rw [z] at y <;> cases y
  ·exact no1 i _ hg rfl
  ·exact no2 i _ hg rfl
  ·exact no2 i _ hg rfl
  ·exact no1 i _ hg rfl
 obtain ⟨r1,hr1,u1⟩:=B.root_of lm i c' q hi
 obtain ⟨r2,hr2,u2⟩:=B.root_of lm t h e ht
 have hS:=kG n
 have hh:h ∈ rng n:=B.inn _ (bh9 ht)
 have cc:c' ∈ comp ls (rng n) h:=iY h (fW hh) c' cn (B.inn _ hm)
 have k1:=(u1 _ (zA iY)).mp cc
 have k2:=(u2 _ (zA (iY (ls:=ls) (S:=rng n) (h:=h)))).mp (fW hh)
 have e1:r1=r2:=by
  have c1:=jI hS k1 hh
  have c2:=jI hS k2 hh
  refine yZ hS hr1 hr2 (z:=r1) (fW (fC.mp hr1).1) ?_
  rw [c2]; exact k1
 refine aV8 w (aU4 f.ord) hl fun U hU=>?_
 have:=(u1 U hU).trans ((by rw [e1]:r1 ∈ U ↔ r2 ∈ U).trans (u2 U hU).symm)
 rcases hlc with y | y <;> rw [y]
 ·exact this.symm
 ·exact this
theorem gA.step (B:gA n ls P t) (w:fD n ls) (f:eG ls) (ir:∀ h x,x ∈ aH ls h->x ∈ rng n) {h:Int}{e:Option Int} (ht:P[t]? = some (h,e)):gA n ls (P ++ (bH ls h e).map fun c=>(c,some h)) (t+1):=by
 have tl:t < P.length:=(bh2.mp ht).1
 have km:∀ p ∈ (bH ls h e).map (fun c=>(c,some h)),∃ c ∈ bH ls h e,p=(c,some h):=fun p hp=>let ⟨c,h1,h2⟩:=bi4.mp hp; ⟨c,h1,h2.symm⟩
 refine⟨?_,fun p hp=>?_,fun i g e' hi=>?_,fun i g e' it hi x hx=>?_,fun g=>?_⟩
 ·rw [bi3,bo8,bo4]
  have e0:(bH ls h e).map ((fun p:Int × Option Int=>p.1) ∘ fun c=>(c,some h))=bH ls h e:=List.map_id'' (fun _=>rfl) _
  rw [e0]
  exact⟨B.nd,(f.nnd h).filter _,fun a ha b hb z=>B.fresh w f ht hb (by rw [<- z]; exact ha)⟩
 ·rcases bh4.mp hp with z | z
  ·exact B.inn p z
  ·obtain ⟨c,hc,rfl⟩:=km p z
   exact ir h c (gZ.mp hc).1
 ·by_cases il:i < P.length
  ·rw [bm8 il] at hi
   obtain ⟨j,q,ji,jt,hj,en⟩:=B.par i g e' hi
   exact⟨j,q,ji,by omega,by rw [bm8 (by omega)]; exact hj,en⟩
  ·rw [bs3 (by omega)] at hi
   obtain ⟨c,hc,z⟩:=km _ (bh9 hi)
   cases z
   exact⟨t,e,by omega,by omega,by rw [bm8 tl]; exact ht,mR (gZ.mp hc).1⟩
 ·rw [bm8 (by omega)] at hi
  by_cases e1:i=t
  ·subst e1
   rw [ht] at hi
   cases hi
   by_cases z:some x=e
   ·exact .inl z.symm
   ·exact .inr (bh4.mpr (.inr (bi4.mpr ⟨x,gZ.mpr ⟨hx,z⟩,rfl⟩)))
  ·exact (B.done i g e' (by omega) hi x hx).imp id fun z=>bh4.mpr (.inl z)
 ·rw [<- B.root g]
  refine⟨fun z=>?_,fun z=>bh4.mpr (.inl z)⟩
  rcases bh4.mp z with z | z
  ·exact z
  ·obtain ⟨c,_,z⟩:=km _ z
   cases z
theorem gA.start:gA n ls ((aZ ls (rng n)).map fun h=>(h,none)) 0:=by
 have hS:=kG n
 refine⟨?_,fun p hp=>?_,fun i g e hi=>?_,fun i g e it=>absurd it (by omega),fun g=>?_⟩
 ·rw [bo8,show (aZ ls (rng n)).map ((fun p:Int × Option Int=>p.1) ∘ fun h=>(h,none))=aZ ls (rng n) from List.map_id'' (fun _=>rfl) _]
  exact yU hS
 ·obtain ⟨h,hh,rfl⟩:=bi4.mp hp
  exact (fC.mp hh).1
 ·obtain ⟨h,_,z⟩:=bi4.mp (bh9 hi)
  cases z
 ·refine⟨fun z=>?_,fun z=>bi4.mpr ⟨g,z,rfl⟩⟩
  obtain ⟨h,hh,z⟩:=bi4.mp z
  cases z
  exact hh
theorem gA.len (B:gA n ls P t):P.length<=n:=by
 have:=gF B.nd (m:=rng n) fun x hx=>by
  obtain ⟨p,hp,rfl⟩:=bi4.mp hx
  exact B.inn p hp
 rwa [bg5,cX] at this
theorem gA.all (B:gA n ls P P.length):Rt n ls P:=by
 have hS:=kG n
 have par:∀ (i:Nat) (h e:Int),P[i]? = some (h,some e)->∃ (j:Nat) (q:Option Int),j < i/\P[j]? = some (e,q)/\e ∈ aH ls h:=fun i h e hi=>let ⟨j,q,a,_,b,c⟩:=B.par i h e hi; ⟨j,q,a,b,c⟩
 have done:∀ (h:Int) (e:Option Int),(h,e) ∈ P->∀ x ∈ aH ls h,e=some x ∨ (x,some h) ∈ P:=fun h e hm=>by
  obtain ⟨i,hi⟩:=gG hm
  exact B.done i h e (bh2.mp hi).1 hi
 refine⟨B.nd,fun h=>⟨fun z=>?_,fun z=>?_⟩,par,done,B.root⟩
 ·obtain ⟨p,hp,rfl⟩:=bi4.mp z
  exact B.inn p hp
 ·have sh:eR ls (rng n) (P.map (·.1)):=fun x hx y hy _=>by
   obtain ⟨⟨x',e⟩,hp,rfl⟩:=bi4.mp hx
   rcases done x' e hp y hy with z | z
   ·subst z
    obtain ⟨i,hi⟩:=gG hp
    obtain ⟨j,q,_,hj,_⟩:=par i x' y hi
    exact bi4.mpr ⟨_,bh9 hj,rfl⟩
   ·exact bi4.mpr ⟨_,z,rfl⟩
  obtain ⟨r,hr⟩:∃ r,(comp ls (rng n) h).head? = some r:=by
   cases e:comp ls (rng n) h with
   | nil=>have:=fW (ls:=ls) z; rw [e] at this; cases this
   | cons a r=>exact⟨a,rfl⟩
  have rm:=(jJ (gE hS) hr).1
  have rs:=jI hS rm z
  have hd:r ∈ aZ ls (rng n):=fC.mpr ⟨nP _ rm,by rw [rs]; exact hr⟩
  have hc:h ∈ comp ls (rng n) r:=by rw [rs]; exact fW z
  exact (fV.mp hc).2 _ sh (bi4.mpr ⟨_,(B.root r).mpr hd,rfl⟩)
end
end Core
namespace L2
open PySem PySem.Spec PyProof.Rows SO
noncomputable def iF (h:Heap) (v:Value) (p:Int):Prop:=∃ b ob t r n,v = .ref b/\h.get? b=some ob/\ob.cls = .type "tuple"/\ob.data = .seq (List.toArray [.int p t,.ref r]) n
noncomputable def nU (h:Heap) (v:Value):Int:=match v with
 | .ref b=>match h.get? b with
  | some ob=>match ob.data with
   | .seq us _=>match us.toList with
    | x :: _=>numOf x
    | _=>0
   | _=>0
  | none=>0
 | _=>0
theorem iF.fst {h:Heap}{v:Value}{p:Int} (z:iF h v p):nU h v=p:=by
 obtain ⟨b,ob,t,r,n,rfl,e2,_,e4⟩:=z
 unfold nU
 dsimp only
 rw [e2]; dsimp only
 rw [e4]; rfl
section
variable {prog : Program} {w : World} {A : Around} {E : Value → Shared → Prop} {s : Shared}
theorem aV9 {r:Addr}{Q:Bool->Shared->Prop} (h:Q true s):wpAny (model prog w) A (eqBool (.ref r) (.ref r)) Q E s:=by
 unfold eqBool
 refine br0 ?_
 rw [if_pos (by simp)]
 exact bg0 (bt0 (bh3 h))
theorem aW0 (vs:List Value) (uq:∀ u ∈ vs,∀ v ∈ vs,∀ p,iF s.heap u p->iF s.heap v p->u=v):SO.cB prog w A E s (tuples' true) (fun x=>x.1 ∈ vs/\∃ p,iF s.heap x.1 p) (fun x=>nU s.heap x.1):=by
 rintro x y ⟨m1,p,z⟩ ⟨m2,q,z'⟩ st Q hk hq
 replace hq:Q (some (decide (p < q))) st:=by
  have e1:=z.fst
  have e2:=z'.fst
  have:decide (nU s.heap x.1 < nU s.heap y.1)=decide (p < q):=by rw [e1,e2]
  rw [<- this]; exact hq
 have same:p=q->x.1=y.1:=fun e=>uq _ m1 _ m2 q (by rw [<- e]; exact z) z'
 obtain ⟨b,ob,t,r,n,e1,e2,e3,e4⟩:=z
 obtain ⟨b',ob',t',r',n',e1',e2',e3',e4'⟩:=z'
 rw [lt'_eq]
 refine bh7 (wpS_get ?_)
 rw [hk,e1,e1']
 refine bh7 (wpS_lift (wpAny_attempt (PySem.W.kat_lt e2 e4 e2' e4' ?_)))
 have key:PySem.W.KatLex prog w A true (decide ([Value.int p t,.ref r].length < [Value.int q t',.ref r'].length)) (fun a s'=>s'=s/\wpS (model prog w) A E s (pure (some a)) Q st) ([Value.int p t,.ref r].zip [Value.int q t',.ref r']) 0 s:=by
  refine PySem.W.kat_cons (wpAny_eqBool_int ?_)
  by_cases e:p=q
  ·have eb:(p == q)=true:=by simpa using e
   rw [eb]
   refine PySem.W.kat_yes ?_
   have:=same e
   rw [e1,e1'] at this
   cases this
   rw [e2] at e2'
   cases e2'
   rw [e4] at e4'
   cases e4'
   refine PySem.W.kat_cons (aV9 ?_)
   refine PySem.W.kat_yes ⟨rfl,bi7 ?_⟩
   rw [bg4 (by omega)] at hq
   exact hq
  ·have eb:(p == q)=false:=by simpa using e
   rw [eb]
   refine PySem.W.kat_no ?_
   exact PySem.W.kat_lt_int ⟨rfl,bi7 hq⟩
 simpa using key
theorem aW1 {h:Heap}:∀ {vs:List Value},(∀ v ∈ vs,∃ p,iF h v p)->∃ fs:List Value,PySem.W.KatTups h vs fs/\fs.length=vs.length/\∀ v ∈ fs,∃ i t,v=Value.int i t:=by
 intro vs
 induction vs with
 | nil=>intro _; exact⟨[],PySem.W.KatTups.nil,rfl,fun _ z=>nomatch z⟩
 | cons v vs ih=>
  intro hh
  obtain ⟨fs,t1,t2,t3⟩:=ih fun y hy=>hh y (bg6 _ hy)
  obtain ⟨p,b,ob,t,r,n,rfl,e2,e3,e4⟩:=hh v bg7
  exact⟨Value.int p t :: fs,PySem.W.KatTups.cons e2 e3 e4 (by simp) t1,by simp [t2],fun v hv=>(bg8.mp hv).elim (fun z=>⟨p,t,z⟩) (t3 v)⟩
theorem aW2 {M:Model}{vs:List Value}{Q:SortKind->Shared->Prop} (hh:∀ v ∈ vs,∃ p,iF s.heap v p) (h2:2<=vs.length) (hQ:Q (tuples' true) s):wpAny M A (keyKind' vs.toArray) Q E s:=by
 obtain ⟨fs,t1,t2,t3⟩:=aW1 hh
 refine PySem.W.kat_kind (T:=.type "int") t1 (by omega) (fun v hv=>?_) (by decide) ?_
 ·obtain ⟨i,t,rfl⟩:=t3 v hv
  exact PySem.W.Looks.now
 ·have eT:(Value.type "int" != Value.type "tuple")=true:=by decide
  rw [eT]; exact hQ
end
noncomputable def af0 (K:PySem.W.Frag):List V->Hp->VK->Prop:=fun xs H Q=>∃ (a:Addr) (ys:List V) (key:V->Int),xs = [.ref a]/\aK K H a ys/\ys.length<=4096/\(∀ y ∈ ys,∃ b c,y = .ref b/\aQ K H b [.int (key y),.ref c])/\(ys.map key).Nodup/\
 ∀ l (zs:List V),H l=none->zs.Perm ys->zs.Pairwise (fun u v=>key u<=key v)->Q (.ref l) (upd H l (.lst zs))
theorem aW3 {X:Cx}:dQ X (.builtin "sorted") (af0 X.K):=by
 intro pins s σ H xs us Q I r h
 obtain ⟨a,ys,key,rfl,hs,hz4,hk,nd,q⟩:=h
 obtain ⟨u,rfl,ru⟩:=jA r
 cases ru
 obtain ⟨its,rv,p,hz⟩:=I.list hs
 have hl:=rv.length
 have hn:s.heap.objs.size<=s.heap.objs.size+1:=Nat.le_succ _
 by_cases h2:its.length < 2
 ·refine K9 p.isList h2 ?_
  obtain ⟨e,he⟩:=sortedAll_at s.heap its its.toArray
  refine⟨.ref (s.heap.objs.size+1),upd H (s.heap.objs.size+1) (.lst ys),I.laid (t':=s.toks) (fun _ _=>sortedAll_old) hn ⟨hz,its,e,rv,he⟩,rfl,q _ ys (I.hok.fresh hn) (bv5 _) ?_⟩
  match ys,hl with
  | [],_=>exact bp2
  | [_],_=>exact bj4 _ _
  | _ :: _ :: _,hl=>simp at hl; omega
 ·have pv:∀ {y:V}{v:Value},aV y v->y ∈ ys->iF (dC (dJ s.heap its) (s.heap.objs.size+1) its) v (key y):=fun {y v} ry hy=>by
   obtain ⟨b,c,rfl,sq⟩:=hk y hy
   cases ry
   obtain ⟨us,ru,⟨ob,e1,c1,n1,d1⟩,_⟩:=I.tuple sq
   cases ru with
   | cons r1 t1=>
    cases t1 with
    | cons r2 t2=>
     cases t2
     cases r2
     obtain ⟨tk,rfl⟩:=r1
     exact⟨b,ob,tk,c,n1,rfl,U6 (bk6 (Nat.lt_succ_of_lt (bi0 e1))) (U5 e1),c1,d1⟩
  have back:∀ {xs:List V}{vs:List Value},aM xs vs->∀ v ∈ vs,∃ y ∈ xs,aV y v:=by
   intro xs vs r
   induction r with
   | nil=>intro v hv; cases hv
   | cons rx rt ih=>
    intro v hv
    rcases bg8.mp hv with z | z
    ·subst z; exact⟨_,bg7,rx⟩
    ·obtain ⟨y,hy,ry⟩:=ih v z
     exact⟨y,bg6 _ hy,ry⟩
  have allp:∀ v ∈ its,∃ p,iF (dC (dJ s.heap its) (s.heap.objs.size+1) its) v p:=fun v hv=>by
   obtain ⟨y,hy,ry⟩:=back rv v hv
   exact⟨_,pv ry hy⟩
  have keyU:∀ y ∈ ys,∀ z ∈ ys,key y=key z->y=z:=fun y hy z hz e=>by
   obtain ⟨i,hi⟩:=bq4.mp hy
   obtain ⟨j,hj⟩:=bq4.mp hz
   have h1:(ys.map key)[i]? = some (key y):=by rw [bh5,hi]; rfl
   have h2:(ys.map key)[j]? = some (key y):=by rw [bh5,hj,e]; rfl
   have:=(List.getElem?_inj (bh2.mp h1).1 nd).mp (h1.trans h2.symm)
   subst this
   rw [hi] at hj
   exact bj0 hj
  have uq:∀ u ∈ its,∀ v ∈ its,∀ p,iF (dC (dJ s.heap its) (s.heap.objs.size+1) its) u p->iF (dC (dJ s.heap its) (s.heap.objs.size+1) its) v p->u=v:=fun u hu v hv p z1 z2=>by
   obtain ⟨y,hy,ry⟩:=back rv u hu
   obtain ⟨y',hy',ry'⟩:=back rv v hv
   have k1:=(pv ry hy).fst
   have k2:=(pv ry' hy').fst
   rw [z1.fst] at k1
   rw [z2.fst] at k2
   have:=keyU y hy y' hy' (k1.symm.trans k2)
   subst this
   obtain ⟨b,c,rfl,_⟩:=hk y hy
   cases ry; cases ry'; rfl
  refine U7 (κ:=tuples' true) (Ok:=fun x=>x.1 ∈ its/\∃ p,iF (dC (dJ s.heap its) (s.heap.objs.size+1) its) x.1 p) (rk:=fun x=>nU (dC (dJ s.heap its) (s.heap.objs.size+1) its) x.1) p.isList (by omega) (by rw [<- hl]; exact hz)
   (fun A E Q hQ=>aW2 (s:={ s with heap:=dC (dJ s.heap its) (s.heap.objs.size+1) its }) allp (by omega) hQ) (fun A E=>aW0 (s:={ s with heap:=dC (dJ s.heap its) (s.heap.objs.size+1) its }) its uq) (fun v hv=>⟨hv,allp v hv⟩) fun out pm so=>?_
  obtain ⟨zs,pz,rz⟩:=U9 pm.symm rv
  obtain ⟨e,he⟩:=sortedAll_at s.heap its out.toArray
  refine⟨.ref (s.heap.objs.size+1),upd H (s.heap.objs.size+1) (.lst zs),I.laid (t':=s.toks) (fun _ _=>sortedAll_old) hn ⟨by rw [pz.length_eq]; exact hz,out,e,rz,he⟩,rfl,q _ zs (I.hok.fresh hn) pz ?_⟩
  have lz:=rz.length
  rw [bl4]
  intro i j hi hj hij
  have s1:=bl4.mp so i j (by omega) (by omega) hij
  have gi:=oJ i hi rz
  have gj:=oJ j hj rz
  simp only [bi1,bg3 hi,bg3 hj,bg3 (show i < out.length by omega),bg3 (show j < out.length by omega),Option.getD_some] at gi gj
  have mi:=pz.mem_iff.mp (br1 hi)
  have mj:=pz.mem_iff.mp (br1 hj)
  dsimp only at s1
  rw [(pv gi mi).fst,(pv gj mj).fst] at s1
  exact s1
end L2
namespace PP
open PySem L2
section
variable {X : Cx} {σ : St} {H : Hp} {Q' : VK} {td tk tx : aG} {e o f : Expr} {tr : dG} {pos p2 apos cpos : Pos}
noncomputable def dM (r:Int × List Int):PV:=.tup [.int r.1,.tup (intz r.2)]
noncomputable def zB:List PV->(PV->Prop)->Prop:=fun xs Q=>∃ rs:List (Int × List Int),xs = [.lst (rs.map dM)]/\rs.length<=4096/\(rs.map (·.1)).Nodup/\∀ qs:List (Int × List Int),qs.Perm rs->qs.Pairwise (fun u v=>u.1 < v.1)->Q (.lst (qs.map dM))
noncomputable def nV (H:Hp):V->Int
 | .ref a=>match H a with
  | some (.tup (.int p :: _))=>p
  | _=>0
 | _=>0
theorem af1 {K:PySem.W.Frag}{M:Addr->Prop}{H:Hp}:∀ {us:List V}{rs:List (Int × List Int)},Reps K M H us (rs.map dM)->Paired (fun u r=>aE K M H u (dM r)) us rs
 | _,[],.nil=>.nil
 | _,r :: rs,.cons h t=>.cons h (af1 t)
theorem af2 {K:PySem.W.Frag}{M:Addr->Prop}{H:Hp}:∀ {us:List V}{rs:List (Int × List Int)},Paired (fun u r=>aE K M H u (dM r)) us rs->Reps K M H us (rs.map dM)
 | _,_,.nil=>.nil
 | _,_,.cons h t=>.cons h (af2 t)
theorem af3 {K:PySem.W.Frag}{M:Addr->Prop}{H:Hp}{u:V}{r:Int × List Int} (h:aE K M H u (dM r)):nV H u=r.1/\∃ b c,u = .ref b/\H b=some (.tup [.int (nV H u),.ref c]):=by
 obtain ⟨a,us,rfl,e,r1⟩:=h.sqT
 cases r1 with
 | cons h1 t1=>
  cases t1 with
  | cons h2 t2=>
   cases t2
   cases h1
   obtain ⟨b,ws,rfl,_,_⟩:=h2.sqT
   have:nV H (.ref a)=r.1:=by unfold nV; dsimp only; rw [e]
   exact⟨this,a,b,rfl,by rw [this]; exact e⟩
theorem zC {K:PySem.W.Frag}{M:Addr->Prop}{H:Hp}:∀ {us:List V}{rs:List (Int × List Int)},Paired (fun u r=>aE K M H u (dM r)) us rs->us.map (nV H)=rs.map (·.1)
 | _,_,.nil=>rfl
 | _,_,.cons h t=>by rw [bl3,bl3,zC t,(af3 h).1]
theorem aW4 (rs:List (Int × List Int)):flats (rs.map dM)=true:=by
 induction rs with
 | nil=>rfl
 | cons r rs ih=>
  show (flat (dM r) && flats (rs.map dM))=true
  rw [ih,bu6]
  show flats [.int r.1,.tup (intz r.2)]=true
  show (true && (flats (intz r.2) && true))=true
  rw [c6]; rfl
theorem aW5:i9 X zB (af0 X.K):=by
 rintro H vs xs Q Q' r ⟨rs,rfl,hl,nd,q⟩ k
 obtain ⟨v,rfl,r1⟩:=r.one
 obtain ⟨a,us,rfl,_,h,r2⟩:=r1.sqL
 have lr:=r2.length
 rw [bg5] at lr
 have pd:=af1 r2
 have hk:=zC pd
 refine⟨a,us,nV H,rfl,aK.of h,by omega,fun y hy=>?_,by rw [hk]; exact nd,fun l zs hl' pm so=>?_⟩
 ·obtain ⟨r,_,hr⟩:=ae0 pd y hy
  obtain ⟨_,b,c,rfl,e⟩:=af3 hr
  exact⟨b,c,rfl,aQ.of e⟩
 ·obtain ⟨qs,pq,pz⟩:=aU7 pm.symm pd
  refine k _ _ _ (bN hl' _) (.lst hl' bL (((af2 pz).flat (aW4 qs)).same (bN hl' _) fun _ z=>z)) (q qs pq ?_)
  have ndq:(qs.map (·.1)).Nodup:=(pq.map _).nodup_iff.mpr nd
  have le:(qs.map (·.1)).Pairwise (· <= ·):=by rw [<- zC pz,bp3]; exact so
  have:=List.Pairwise.and le ndq
  rw [bp3] at this
  exact this.imp fun z=>Int.lt_iff_le_and_ne.mpr ⟨z.1,z.2⟩
theorem aW6 (B:Bt X.mg) (ha:QA X [e] tr) (hg:Gl X "sorted":=by rfl) (he:starEach [e] X.env=(false,eval e X.env) :: starEach [] X.env:=by rfl) (hpl:(backTo pos (starEach [] X.env)).any (·.1)=false:=by rfl):QE X (.Call (.Name "sorted" p2) [e] [] pos) (aC zB tr):=
 l4 aW3 aW5 hg B.sorted PyProof.Rows.boot_sorted ha (he:=he) (hpl:=hpl)
noncomputable def zD (td tk tx:aG):aG:=fun ρ Q=>td ρ fun x _=>∃ ps,x = .dK ps/\tk ρ fun y _=>tx ρ fun z _=>∃ k,y=kP k/\Q ((bM ps k).getD z) .rd
theorem aW7 (h:LE X (zD td tk tx) σ H Q'):J6 (LE X td) (LE X tk) (LE X tx) σ H Q':=by
 obtain ⟨W,ρ,Q,px,q,k⟩:=h
 refine⟨W,ρ,_,px,q,?_⟩
 rintro v H1 x g s r ⟨ps,rfl,q⟩
 have r0:=r
 cases r with
 | @dK a kvs _ m h e rr=>
  refine⟨a,rfl,.inl ⟨kvs,.inl h⟩,W,ρ,_,px.mono s,q,fun w H2 y g' s2 r2 q2=>⟨W,ρ,_,(px.mono s).mono s2,q2,?_⟩⟩
  rintro w3 H3 z gz s3 r3 ⟨kk,rfl,q⟩
  obtain ⟨a',o',ea,dg,h1,h2⟩:=wC (.inl ⟨ps,kk,rfl,rfl,rfl⟩) (r0.same (s2.trans s3) fun _ z=>z) (r2.same s3 fun _ z=>z)
  cases ea
  refine⟨o',dg,?_⟩
  cases hv:bM ps kk with
  | none=>
   rw [hv] at q
   rw [h1 hv]
   exact k _ _ _ .rd ((s.trans s2).trans s3) (r3.same (aD.refl _) fun _ _=>trivial) q
  | some z'=>
   rw [hv] at q
   obtain ⟨u,rfl,ru⟩:=h2 z' hv
   exact k _ _ _ .rd ((s.trans s2).trans s3) (ru.same (aD.refl _) fun _ _=>trivial) q
theorem aW8 (hu:X.A.units+1 < cLine) (ho:QE X o td) (he:QE X e tk) (hf:QE X f tx) (m:M2 X o "get" apos e f cpos:=by exact⟨rfl,rfl,rfl,rfl⟩):QE X (.Call (.Attribute o "get" apos) [e,f] [] cpos) (zD td tk tx):=cG (au9 hu ho he hf m) fun _ _ _=>aW7
end
end PP
namespace Core
open PySem L2 PP
theorem fX.inr {n:Nat}{ls:List (Int × Int)} (lk:fX n ls) (x y:Int) (hy:y ∈ aH ls x):y ∈ rng n:=by
 rcases L2.dU.mp hy with z | z
 ·have:=lk.1 _ z; exact dL.mpr ⟨by dsimp only at this; omega,by dsimp only at this; omega⟩
 ·have:=lk.1 _ z; exact dL.mpr ⟨by dsimp only at this; omega,by dsimp only at this; omega⟩
theorem fX.nlen {n:Nat}{ls:List (Int × Int)} (lk:fX n ls) (x:Int):(aH ls x).length<=n:=by
 have:=gF (lk.fit.nnd x) (m:=rng n) fun y hy=>lk.inr x y hy
 rwa [cX] at this
noncomputable def tU:bK:=fun xs Q=>∃ ws ls,xs = [b9 ws ls]/\Wb ws ls/\(fD ws.length ls->Q (.bl true))/\(¬ fD ws.length ls->Q (.bl false))
noncomputable def af4:aR:=(bP (gR (aC cS (a7 (bI (a5 0) (qC (.int 1))) a9)) (mZ (aC iB (a7 (a5 0) a9)) (aC cS (a7 (aC nR (a7 (a5 0) a9)) a9)))))
theorem aW9:cC af4 ["web"] tU:=by
 rintro xs Q ⟨ws,ls,rfl,wb,q1,q2⟩
 refine⟨_,rfl,_,_,_,rfl,rfl,rfl,_,_,rfl,rfl,_,rfl,ws,ls,rfl,_,rfl,ws,ls,rfl,wb,_,_,rfl,rfl,_,_,rfl,rfl,.inl ⟨_,_,rfl,rfl,trivial,?_⟩⟩
 have a:(cH ls).length=ls.length:=bg5 _
 have b:(tups (iZ ls (rng ws.length))).length=(aZ ls (rng ws.length)).length:=by rw [k9]; unfold iZ; rw [bg5]
 show Q (.bl (decide (((cH ls).length:Int)=(ws.length:Int) - ((tups (iZ ls (rng ws.length))).length:Int))))
 rw [a,b]
 by_cases w:fD ws.length ls
 ·have:=q1 w
  unfold fD at w
  rw [bg2 (by omega)]; exact this
 ·have:=q2 w
  unfold fD at w
  rw [bg4 (by omega)]; exact this
noncomputable def nW:bK:=fun xs Q=>∃ (n:Nat) (ls:List (Int × Int)) (h:Int) (e:Option Int),xs = [.lst (cK n ls),.int h,jG e]/\0<=h/\h < (n:Int)/\(aH ls h).length<=1000/\Q (.lst (intz (bH ls h e)))
noncomputable def af5:aR:=(bP (cU (cT (bI (a5 0) (a5 1))) [none,some 2] (bR 0) (bC (q2 yH (a5 0) (a5 1))) (a5 0)))
theorem aX0:cC af5 ["around","hearth","elder"] nW:=by
 rintro xs Q ⟨n,ls,h,e,rfl,h0,h1,hl,q⟩
 refine⟨_,rfl,_,rfl,_,_,_,rfl,rfl,pO h0 h1,intz (aH ls h),rfl,(fun z=>by cases z),by rw [bA]; omega,fun i acc=>acc=intz (((aH ls h).take i).filter fun x=>!decide (some x=e)),rfl,?_,?_⟩
 ·rintro i y acc hy rfl
  obtain ⟨x,rfl,hx⟩:=gD hy
  have tk:=k8 (p:=fun x=>!decide (some x=e)) hx
  refine⟨_,rfl,_,rfl,x,e,rfl,rfl,_,rfl,?_⟩
  by_cases z:some x=e
  ·rw [bg2 z.symm]
   refine bB ?_
   dsimp only
   rw [tk,bg2 z]; exact (bk4 _).symm ▸ rfl
  ·rw [bg4 fun y=>z y.symm]
   refine bE ⟨_,rfl,trivial,?_⟩
   dsimp only
   rw [tk,bg4 z,fS]; rfl
 ·rintro acc rfl
  rw [bA,bj3 (bg9 _)]
  exact⟨trivial,q⟩
noncomputable def zE (p:Int × Option Int):PV:=.tup [.int p.1,jG p.2]
noncomputable def fE (P:g9):List PV:=P.map zE
theorem mC (P:g9):(fE P).length=P.length:=bg5 _
theorem af6 {P:g9}{i:Nat}{p:Int × Option Int} (h:P[i]? = some p):L2.atI (fE P) (i:Int)=some (zE p):=o8 (by unfold fE; rw [bh5,h]; rfl)
noncomputable def tV:bK:=fun xs Q=>∃ ws ls,xs = [b9 ws ls]/\Wb ws ls/\fX ws.length ls/\fD ws.length ls/\∀ P,Rt ws.length ls P->Q (.lst (fE P))
noncomputable def af7:aR:=(lR (bC (p6 (a5 3) (aC cS (a7 (a5 2) a9))))
  (aF (bF 4 (bI (bI (a5 2) (a5 3)) (qC (.int 0))))
  (aF (rG 2 (cU (cT (aC nW (a7 (a5 1) (a7 (a5 4) (a7 (bI (bI (a5 2) (a5 3)) (qC (.int 1))) a9))))) [none,some 4] (bR 0) eY (iQ (a7 (a5 0) (a7 (a5 1) a9)))))
  (bF 3 (eL (a5 3) (qC (.int 1)))))))
noncomputable def af8:aR:=(aF (cR (iP (bC (aC tU (a7 (a5 0) a9)))) P7 cZ)
 (aF (bF 1 (aC gV (a7 (a5 0) a9)))
 (aF (dA 2 (cU (cT (aC nR (a7 (a5 0) a9))) [none] (bR 0) eY (iQ (a7 (bI (a5 0) (qC (.int 0))) (a7 (qC .non) a9)))))
 (aF (bF 3 (qC (.int 0)))
 (aF af7
 (jV 2))))))
section
variable {ws : List Int} {ls : List (Int × Int)} {E : jU} {s0 : Option Slot} {n : Nat}
theorem af9 (P:g9):flats (fE P)=true:=by
 induction P with
 | nil=>rfl
 | cons p P ih=>
  show (flat (zE p) && flats (fE P))=true
  rw [ih,bu6]
  obtain ⟨h,e⟩:=p
  cases e <;> rfl
theorem aX1 (n40:n<=40) (lk:fX n ls) (w:fD n ls) (k:∀ P y3 y4,Rt n ls P->E.nx [s0,some (.sh true (.lst (cK n ls))),some (.own (.lst (fE P))),y3,y4]) {y4:Option Slot} :
  af7 E [s0,some (.sh true (.lst (cK n ls))),some (.own (.lst (fE ((aZ ls (rng n)).map fun h=>(h,none))))),si 0,y4]:=by
 refine⟨fun m ρ=>∃ (P:g9) (t:Nat) (y4:Option Slot),ρ = [s0,some (.sh true (.lst (cK n ls))),some (.own (.lst (fE P))),si t,y4]/\gA n ls P t/\t<=P.length/\m=n - t,⟨_,_,0,y4,rfl,gA.start,bl0 _,rfl⟩,?_⟩
 rintro m ρ ⟨P,t,y4,rfl,B,tl,rfl⟩
 have pl:=B.len
 refine⟨_,rfl,_,rfl,_,_,rfl,rfl,_,_,rfl,rfl,_,rfl,?_⟩
 rw [mC]
 by_cases lt:t < P.length
 ·rw [bg2 (by omega)]
  obtain ⟨⟨h,e⟩,ht⟩:∃ p,P[t]? = some p:=⟨_,bg3 lt⟩
  have hr:=dL.mp (B.inn _ (bh9 ht))
  dsimp only at hr
  have nl:=lk.nlen h
  refine bE ⟨_,rfl,_,rfl,_,_,_,rfl,rfl,af6 ht,_,_,_,rfl,rfl,rfl,rfl,?_⟩
  refine⟨fE P,rfl,_,rfl,_,rfl,_,rfl,_,rfl,_,_,_,rfl,rfl,af6 ht,_,_,_,rfl,rfl,rfl,n,ls,h,e,rfl,hr.1,hr.2,by omega,intz (bH ls h e),rfl,(fun z=>by cases z),?_,fun i acc=>acc=fE (((bH ls h e).take i).map fun c=>(c,some h)),rfl,?_,?_⟩
  ·rw [bA]; have:=bm4 (fun x=>!decide (some x=e)) (aH ls h); unfold bH; omega
  ·rintro i y acc hy rfl
   obtain ⟨c,rfl,hc⟩:=gD hy
   refine⟨_,rfl,_,rfl,by show 2<=1000; decide,rfl,trivial,?_⟩
   dsimp only
   rw [bn6,hc,bi3]
   unfold fE
   rw [bi3]
   rfl
  ·rintro acc rfl
   rw [bA,bj3 (bg9 _)]
   have kl:(bH ls h e).length<=n:=by have:=bm4 (fun x=>!decide (some x=e)) (aH ls h); unfold bH; omega
   refine⟨_,.inr rfl,.inr (af9 _),by rw [mC,mC,bg5]; omega,_,rfl,_,_,rfl,rfl,trivial,n - (t+1),by omega,P ++ (bH ls h e).map (fun c=>(c,some h)),t+1,si h,?_,B.step w lk.fit (fun h x=>lk.inr h x) ht,by rw [bh6]; omega,rfl⟩
   unfold fE
   rw [<- bi3]
   rfl
 ·rw [bg4 (by omega)]
  have:t=P.length:=by omega
  subst this
  exact bB (k P _ _ B.all)
end
theorem aX2:cC af8 ["web","around","pairs","turn","hearth"] tV:=by
 rintro xs Q ⟨ws,ls,rfl,wb,lk,w,q⟩
 have few:=wb.few
 have hS:=kG ws.length
 refine⟨_,rfl,ws,ls,rfl,wb,fun _=>?_,fun z=>absurd w z⟩
 refine⟨_,rfl,bB ?_⟩
 refine⟨_,rfl,ws,ls,rfl,wb,trivial,?_⟩
 refine⟨_,rfl,ws,ls,rfl,wb,tups (iZ ls (rng ws.length)),rfl,(fun z=>by cases z),?_,fun i acc=>acc=fE (((aZ ls (rng ws.length)).take i).map fun h=>(h,none)),rfl,?_,?_⟩
 ·rw [k9]; unfold iZ; rw [bg5]
  have:=bm4 (pW ls (rng ws.length)) (rng ws.length)
  rw [cX] at this
  unfold aZ; omega
 ·rintro i y acc hy rfl
  unfold tups iZ at hy
  rw [bo8,bh5] at hy
  cases hz:(aZ ls (rng ws.length))[i]? with
  | none=>rw [hz] at hy; cases hy
  | some h=>
   rw [hz] at hy
   cases hy
   obtain ⟨h1,h2⟩:=fC.mp (bh9 hz)
   have h3:L2.atI (intz (comp ls (rng ws.length) h)) 0=some (.int h):=by
    cases e:comp ls (rng ws.length) h with
    | nil=>rw [e] at h2; cases h2
    | cons a r=>rw [e] at h2; cases h2; exact o8 (j:=0) rfl
   refine⟨_,rfl,_,_,_,rfl,rfl,h3,by show 2<=1000; decide,rfl,trivial,?_⟩
   dsimp only
   rw [bn6,hz,bi3]
   unfold fE
   rw [bi3]
   rfl
 ·rintro acc rfl
  rw [show (tups (iZ ls (rng ws.length))).length=(aZ ls (rng ws.length)).length by rw [k9]; unfold iZ; rw [bg5],bj3 (bg9 _)]
  refine⟨rfl,af9 _,trivial,?_⟩
  refine aX1 few lk w fun P y3 y4 R=>?_
  exact⟨_,rfl,trivial,q P R⟩
structure TL (k:Nat) (lks:List (Int × Int)):Prop where
 inn:∀ l ∈ lks,0<=l.1/\l.1 < l.2/\l.2 < (k:Int)
 nd:(lks.map (·.2)).Nodup
 few:lks.length<=k
theorem TL.same {k:Nat}{lks:List (Int × Int)} (h:TL k lks):TL (k+1) lks:=⟨fun l hl=>by have:=h.inn l hl; omega,h.nd,by have:=h.few; omega⟩
theorem TL.app {k:Nat}{lks:List (Int × Int)} (h:TL k lks) {e:Int} (e0:0<=e) (e1:e < (k:Int)):TL (k+1) (lks ++ [(e,(k:Int))]):=by
 refine⟨fun l hl=>?_,?_,by rw [bh6,bk5]; have:=h.few; omega⟩
 ·rcases bh4.mp hl with z | z
  ·have:=h.inn l z; omega
  ·rw [bh1.mp z]; dsimp only; omega
 ·rw [bi3,bo4]
  refine⟨h.nd,bj4 _ _,fun a ha b hb e=>?_⟩
  obtain ⟨l,hl,rfl⟩:=bi4.mp ha
  rw [List.map_singleton,bh1] at hb
  have:=h.inn l hl
  omega
theorem TL.snd {k:Nat}{lks:List (Int × Int)} (h:TL k lks) {a b c:Int} (ha:(a,c) ∈ lks) (hb:(b,c) ∈ lks):a=b:=by
 obtain ⟨i,hi⟩:=bq4.mp ha
 obtain ⟨j,hj⟩:=bq4.mp hb
 have h1:(lks.map (·.2))[i]? = some c:=by rw [bh5,hi]; rfl
 have h2:(lks.map (·.2))[j]? = some c:=by rw [bh5,hj]; rfl
 have:=(List.getElem?_inj (bh2.mp h1).1 h.nd).mp (h1.trans h2.symm)
 subst this
 rw [hi] at hj
 exact (Prod.mk.inj (bj0 hj)).1
theorem TL.ndl {k:Nat}{lks:List (Int × Int)} (h:TL k lks):lks.Nodup:=(bp3.mp h.nd).imp fun z e=>z (by rw [e])
structure Pl (m:Nat) (p:Int->Int):Prop where
 inn:∀ i,0<=i->i < (m:Int)->0<=p i/\p i < (m:Int)
 inj:∀ i j,0<=i->i < (m:Int)->0<=j->j < (m:Int)->p i=p j->i=j
 onto:∀ x,x ∈ rng m->∃ i,0<=i/\i < (m:Int)/\p i=x
noncomputable def fN (p:Int->Int) (l:Int × Int):Int × Int:=(min (p l.1) (p l.2),max (p l.1) (p l.2))
theorem aX3 {m:Nat}{p:Int->Int}{lks:List (Int × Int)} (P:Pl m p) (T:TL m lks):∀ l ∈ lks.map (fN p),0<=l.1/\l.1 < l.2/\l.2 < (m:Int):=by
 intro l0 hl0
 obtain ⟨l,hl,rfl⟩:=bi4.mp hl0
 have h:=T.inn l hl
 have a:=P.inn l.1 (by omega) (by omega)
 have b:=P.inn l.2 (by omega) (by omega)
 have c:p l.1 ≠ p l.2:=fun e=>by have:=P.inj _ _ (by omega) (by omega) (by omega) (by omega) e; omega
 unfold fN
 dsimp only
 omega
theorem zF {p:Int->Int}{l:Int × Int}{x y:Int} (e:fN p l=(x,y) ∨ fN p l=(y,x)):(p l.1=x/\p l.2=y) ∨ (p l.1=y/\p l.2=x):=by
 unfold fN at e
 rcases e with e | e <;> (have e1:=(Prod.mk.inj e).1; have e2:=(Prod.mk.inj e).2; omega)
theorem aX4 {m:Nat}{p:Int->Int}{lks:List (Int × Int)} (P:Pl m p) (T:TL m lks):(lks.map (fN p)).Nodup:=by
 refine bp3.mpr (T.ndl.imp_of_mem fun {a b} ha hb hab e=>hab ?_)
 have h1:=T.inn a ha
 have h2:=T.inn b hb
 rcases zF (x:=(fN p b).1) (y:=(fN p b).2) (.inl e) with ⟨c,d⟩ | ⟨c,d⟩ <;> rcases zF (p:=p) (l:=b) (x:=(fN p b).1) (y:=(fN p b).2) (.inl rfl) with ⟨c',d'⟩ | ⟨c',d'⟩
 ·exact Prod.ext (P.inj _ _ (by omega) (by omega) (by omega) (by omega) (c.trans c'.symm)) (P.inj _ _ (by omega) (by omega) (by omega) (by omega) (d.trans d'.symm))
 ·have e1:=P.inj a.1 b.2 (by omega) (by omega) (by omega) (by omega) (c.trans d'.symm)
  have e2:=P.inj a.2 b.1 (by omega) (by omega) (by omega) (by omega) (d.trans c'.symm)
  omega
 ·have e1:=P.inj a.1 b.2 (by omega) (by omega) (by omega) (by omega) (c.trans d'.symm)
  have e2:=P.inj a.2 b.1 (by omega) (by omega) (by omega) (by omega) (d.trans c'.symm)
  omega
 ·exact Prod.ext (P.inj _ _ (by omega) (by omega) (by omega) (by omega) (c.trans c'.symm)) (P.inj _ _ (by omega) (by omega) (by omega) (by omega) (d.trans d'.symm))
theorem ag0 {f:Int->Int->Prop}:∀ {U:List Int},U ≠ []->(∀ x ∈ U,∃ i,f x i)->∃ x ∈ U,∃ i,f x i/\∀ y ∈ U,∃ j,f y j/\j<=i
 | [x],_,h=>by
  obtain ⟨i,hi⟩:=h x bg7
  exact⟨x,bg7,i,hi,fun y hy=>by rw [bh1.mp hy]; exact⟨i,hi,bq2 _⟩⟩
 | x :: z :: r,_,h=>by
  obtain ⟨i,hi⟩:=h x bg7
  obtain ⟨y,hy,j,hj,m⟩:=ag0 (U:=z :: r) (by simp) fun y hy=>h y (bg6 _ hy)
  by_cases le:i<=j
  ·refine⟨y,bg6 _ hy,j,hj,fun w hw=>?_⟩
   rcases bg8.mp hw with e | e
   ·rw [e]; exact⟨i,hi,le⟩
   ·exact m w e
  ·refine⟨x,bg7,i,hi,fun w hw=>?_⟩
   rcases bg8.mp hw with e | e
   ·rw [e]; exact⟨i,hi,bq2 _⟩
   ·obtain ⟨k,hk,kl⟩:=m w e; exact⟨k,hk,by omega⟩
theorem aX5 {m:Nat}{p:Int->Int}{lks ls:List (Int × Int)} (P:Pl m p) (T:TL m lks) (pm:ls.Perm (lks.map (fN p))) (f:eG ls):yR ls (rng m):=by
 intro U two sub
 refine bl5 fun ne=>?_
 obtain ⟨x,hx,i,⟨i0,i1,hi⟩,mx⟩:=ag0 (f:=fun x i=>0<=i/\i < (m:Int)/\p i=x) ne fun x hx=>P.onto x (sub x hx)
 obtain ⟨a,b,na,nb,ua,ub,ab⟩:=aU6 (f.nnd x) (two x hx)
 have up:∀ y,y ∈ aH ls x->y ∈ U->∃ j,(j,i) ∈ lks/\p j=y:=fun y hy hu=>by
  obtain ⟨j,⟨j0,j1,hj⟩,ji⟩:=mx y hu
  obtain ⟨l,hl,e⟩:∃ l ∈ lks,fN p l=(x,y) ∨ fN p l=(y,x):=by
   rcases L2.dU.mp hy with z | z
   ·obtain ⟨l,hl,e⟩:=bi4.mp (pm.mem_iff.mp z); exact⟨l,hl,.inl e⟩
   ·obtain ⟨l,hl,e⟩:=bi4.mp (pm.mem_iff.mp z); exact⟨l,hl,.inr e⟩
  have h:=T.inn l hl
  rcases zF e with ⟨c,d⟩ | ⟨c,d⟩
  ·have e1:=P.inj l.1 i (by omega) (by omega) i0 i1 (c.trans hi.symm)
   have e2:=P.inj l.2 j (by omega) (by omega) j0 j1 (d.trans hj.symm)
   omega
  ·have e1:=P.inj l.2 i (by omega) (by omega) i0 i1 (d.trans hi.symm)
   exact⟨l.1,by rw [<- e1]; exact hl,c⟩
 obtain ⟨j,hj,ej⟩:=up a na ua
 obtain ⟨k,hk,ek⟩:=up b nb ub
 exact ab (by rw [<- ej,<- ek,T.snd hj hk])
theorem aX6 {n:Nat}{ls:List (Int × Int)} (lk:fX n ls) (no:yR ls (rng n)):fD n ls:=by
 have h1:=yV lk.fit n (rng n) (by rw [cX]; exact bg9 _) (kG n) no
 have h2:=z9 (kG n) ls
 have e:ls.filter (fY (rng n))=ls:=bq3.mpr fun l hl=>by
  have:=lk.1 l hl
  unfold fY
  rw [bg2 (dL.mpr ⟨by omega,by omega⟩),bg2 (dL.mpr ⟨by omega,by omega⟩)]; rfl
 unfold mu at h1
 rw [e,cX] at h1
 rw [e,cX] at h2
 unfold fD
 omega
noncomputable def tW:bK:=fun xs Q=>∃ (ns:List Int) (m:Nat) (dg:Bool),xs = [.scr ns,.int m,.bl dg]/\ns.length<=63/\m<=40/\∀ ps:List Int,ps.Perm (rng m)->Q (.lst (intz ps))
noncomputable def ag1:aR:=(aF (bF 6 (aC kE (a7 (aC iD (a7 (a5 0) (a7 (qC (.int 3)) a9))) (a7 (eL (a5 5) (qC (.int 5))) a9))))
   (aF (cR (jE (a5 2)) (aF (bF 6 (a5 4))
    (bF 4 (kT (a5 4) (eL (a5 5) (qC (.int 1)))))) cZ)
   (sZ 3 (eC (a5 6) (eL (a5 5) (qC (.int 1)))) (a5 5))))
noncomputable def ag2:aR:=(aF (dA 3 (xO (a5 1)))
 (aF (bF 4 (aC iD (a7 (a5 0) (a7 (qC (.int 3)) a9))))
 (aF (cR (bC (gR (eC (kT (aC iD (a7 (a5 0) (a7 (qC (.int 1)) a9))) (qC (.int 3))) (qC (.int 2))) (qC (.int 1)))) (aF (dA 3 (gP a9))
  (eB (jW (a5 1)) (bR 5)
   ag1)) cZ)
 (jV 3))))
theorem aX7 {ns:List Int}{s1 y6:Option Slot}{dg:Bool}{ps:List Int}{nb:Int}{k:Nat}{E:jU} (k40:k < 40) (hp:ps.Perm (rng k))
  (nx:∀ (ps:List Int) (nb:Int) (y6:Option Slot),ps.Perm (rng (k+1))->E.nx [some (.sh true (.scr ns)),s1,some (.sh true (.bl dg)),some (.own (.lst (intz ps))),si nb,si k,y6]) :
  ag1 E [some (.sh true (.scr ns)),s1,some (.sh true (.bl dg)),some (.own (.lst (intz ps))),si nb,si k,y6]:=by
 have pl:=hp.length_eq
 rw [cX] at pl
 have fin:∀ (sp nb:Int),(sZ 3 (eC (a5 6) (eL (a5 5) (qC (.int 1)))) (a5 5)) E [some (.sh true (.scr ns)),s1,some (.sh true (.bl dg)),some (.own (.lst (intz ps))),si nb,si k,si sp]:=fun sp nb=>by
  have h0:=bu0 sp (show (k:Int)+1 ≠ 0 by omega)
  have h1:=Int.emod_lt_of_pos sp (show (0:Int) < (k:Int)+1 by omega)
  refine⟨intz ps,rfl,_,rfl,_,rfl,_,_,rfl,rfl,_,_,rfl,rfl,by show (0:Int) < (k:Int)+1; omega,(sp % ((k:Int)+1)).toNat,by show PV.int (sp % ((k:Int)+1))=_; rw [Int.toNat_of_nonneg h0],by rw [bA]; omega,by rw [bA]; omega,_,rfl,trivial,?_⟩
  have e:(intz ps).take (sp % ((k:Int)+1)).toNat ++ PV.int k :: (intz ps).drop (sp % ((k:Int)+1)).toNat=intz (ps.take (sp % ((k:Int)+1)).toNat ++ (k:Int) :: ps.drop (sp % ((k:Int)+1)).toNat):=by
   unfold intz; rw [bi3,List.map_take,bl3,List.map_drop]
  have:=nx (ps.take (sp % ((k:Int)+1)).toNat ++ (k:Int) :: ps.drop (sp % ((k:Int)+1)).toNat) nb (si sp) (by
   rw [aQ4]
   refine (List.perm_middle).trans ?_
   rw [bk0]
   exact (List.Perm.cons _ hp).trans (List.perm_append_singleton _ _).symm)
  rw [<- e] at this
  exact this
 refine⟨_,rfl,_,ns,3,rfl,.inl rfl,by decide,_,rfl,_,_,rfl,rfl,_,_,rfl,by omega,by omega,fun z _=>⟨trivial,?_⟩⟩
 refine⟨_,rfl,_,rfl,?_⟩
 cases dg with
 | false=>exact bB (fin z nb)
 | true=>exact bE ⟨_,rfl,trivial,_,rfl,_,rfl,_,_,rfl,rfl,_,_,rfl,rfl,⟨by show (0:Int) < (k:Int)+1; omega,by omega⟩,trivial,fin nb _⟩
theorem q0 (n:Nat):dW 0 n=intz (rng n):=by
 refine List.ext_getElem? fun i=>?_
 by_cases h:i < n
 ·rw [w9 h]
  unfold intz
  rw [bh5,nJ h,Int.zero_add]; rfl
 ·rw [bv7 (by rw [eW]; omega),bv7 (by rw [bA,cX]; omega)]
theorem aX8:cC ag2 ["script","many","digits","places","number","k","spot"] tW:=by
 rintro xs Q ⟨ns,m,dg,rfl,hl,m40,q⟩
 refine⟨_,rfl,m,rfl,by omega,by omega,rfl,?_,?_⟩
 ·show flats (dW 0 (m:Int).toNat)=true
  rw [q0]; exact c6 _
 rw [q0,bj8]
 refine⟨_,rfl,_,ns,3,rfl,.inl rfl,by decide,trivial,?_⟩
 dsimp only
 generalize ns.getD (3:Int).toNat 0=nb
 refine⟨_,rfl,_,ns,1,rfl,.inl rfl,by decide,_,_,rfl,rfl,⟨by decide,by decide⟩,_,_,rfl,rfl,(by show (0:Int) < 2; decide),.inl ⟨_,_,rfl,rfl,_,rfl,?_⟩⟩
 generalize (if false=true then _ else _:Bool)=b
 cases b with
 | false=>exact bB ⟨_,rfl,trivial,q _ (bv5 _)⟩
 | true=>
  refine bE ⟨by decide,rfl,rfl,rfl,?_⟩
  refine⟨_,rfl,m,rfl,by omega,by omega,fun k ρ=>∃ (ps:List Int) (nb:Int) (y5 y6:Option Slot),ρ = [some (.sh true (.scr ns)),si m,some (.sh true (.bl dg)),some (.own (.lst (intz ps))),si nb,y5,y6]/\ps.Perm (rng k),⟨[],nb,none,none,rfl,bv5 _⟩,?_,?_⟩
  ·rintro k y ρ hy ⟨ps,nb,y5,y6,rfl,hp⟩
   obtain ⟨rfl,hk⟩:=k7 hy
   have hk:k < m:=by omega
   refine l8 ?_
   rw [Int.zero_add]
   exact aX7 (by omega) hp fun ps nb y6 h=>⟨ps,nb,si k,y6,rfl,h⟩
  ·rintro ρ ⟨ps,nb,y5,y6,rfl,hp⟩
   rw [eW,bj8] at hp
   exact⟨_,rfl,trivial,q ps hp⟩
noncomputable def ag3 (mx:Int):bK:=fun xs Q=>∃ (ns:List Int) (most:Int),xs = [.scr ns,.int most]/\ns.length<=63/\0<=most/\most<=mx/\∀ (n:Nat) ws ls,(n:Int)<=most->WL n ws ls->fX n ls->fD n ls->Q (b9 ws ls)
noncomputable def ag4:aR:=(aF (jD 4 (iQ (a7 (a5 9) (a7 (a5 7) a9))))
   (aF (mV 5 (a5 9) (eL (bI (a5 5) (a5 9)) (qC (.int 1))))
   (mV 5 (a5 7) (eL (bI (a5 5) (a5 7)) (qC (.int 1))))))
noncomputable def ag5:aR:=(cR (bC (p9 (eC (a5 8) (qC (.int 8))) (qC (.int 0)))) (aF (bF 9 (eC (kT (a5 8) (qC (.int 8))) (a5 7)))
   (aF (cR (bC (gR (eC (aC iD (a7 (a5 0) (a7 (qC (.int 1)) a9))) (qC (.int 3))) (qC (.int 1)))) (bF 9 (aC oT (a7 (qC (.int 0)) (a7 (mZ (mZ (a5 7) (qC (.int 1))) (eC (kT (a5 8) (qC (.int 8))) (qC (.int 3)))) a9)))) cZ)
   ag4)) cZ)
noncomputable def ag6:aR:=(aF (bF 8 (aC kE (a7 (bI (a5 6) (a5 7)) (a7 (a5 7) a9))))
  (aF (cR (jE (a5 3)) (bF 8 (kT (bI (a5 6) (a5 7)) (qC (.int 64)))) cZ)
  ag5))
noncomputable def ag7 (R:List PV->(PV->Prop)->Prop):aR:=(aF (oR 4 (bF 12 (cU (cT (a5 4)) [none,none,some 10] (jX 0 1) eY (iQ (a7 (aC oS (a7 (bI (a5 2) (a5 0)) (a7 (bI (a5 2) (a5 1)) a9))) (a7 (aC oT (a7 (bI (a5 2) (a5 0)) (a7 (bI (a5 2) (a5 1)) a9))) a9))))))
 (bP (iQ (a7 (aC fQ (a7 (a5 11) a9)) (a7 (aC fQ (a7 (aC R (a7 (a5 12) a9)) a9)) a9)))))
noncomputable def ag8:aR:=(aF (bF 10 (aC tW (a7 (a5 0) (a7 (a5 2) (a7 (a5 3) a9)))))
 (aF (dA 11 (xW (gP (a7 (qC (.int 0)) a9)) (a5 2)))
 (aF (eB (jW (a5 2)) (bR 7)
  (mV 11 (bI (a5 10) (a5 7)) (eC (bI (a5 6) (a5 7)) (eL (bI (a5 5) (a5 7)) (qC (.int 2))))))
 (ag7 t5))))
noncomputable def ag9:aR:=(aF (bF 2 (aC tM (a7 (a5 0) (a7 (a5 1) a9))))
 (aF (bF 3 (gR (eC (kT (aC iD (a7 (a5 0) (a7 (qC (.int 1)) a9))) (qC (.int 8))) (qC (.int 2))) (qC (.int 1))))
 (aF (dA 4 (gP a9))
 (aF (dA 5 (xW (gP (a7 (qC (.int 0)) a9)) (a5 2)))
 (aF (dA 6 (wG (a5 0) (oZ (qC (.int 4))) (oZ (eL (qC (.int 4)) (a5 2)))))
 (aF (eB (rK (aC cS (a7 (a5 6) a9)) (a5 2)) (bR 7)
  (jD 6 (aC kE (a7 (aC iD (a7 (a5 0) (a7 (qC (.int 1)) a9))) (a7 (a5 7) a9)))))
 (aF (eB (rK (qC (.int 1)) (a5 2)) (bR 7)
  ag6)
 ag8)))))))
section
variable {ns : List Int} {m k : Nat} {dg : Bool} {cs cts : List Int} {lks : List (Int × Int)} {s1 y8 y9 y10 y11 y12 : Option Slot} {E : jU}
theorem ah0 {e nb:Int} (hc:m<=cs.length) (hk:k < m) (m40:m<=40) (T:TL k lks) (cl:cts.length=m) (nn:NN cts) (e0:0<=e) (e1:e < (k:Int)) {s0 s3 s6:Option Slot}
  (nx:∀ (lks':List (Int × Int)) (cts':List Int),TL (k+1) lks'->cts'.length=m->NN cts'->E.nx [s0,s1,si m,s3,some (.own (.lst (cH lks'))),some (.own (.lst (intz cts'))),s6,si k,si nb,si e,y10,y11,y12]) :
  ag4 E [s0,s1,si m,s3,some (.own (.lst (cH lks))),some (.own (.lst (intz cts))),s6,si k,si nb,si e,y10,y11,y12]:=by
 have pl:(cH lks).length=lks.length:=bg5 _
 have fw:=T.few
 obtain ⟨j,rfl⟩:∃ j:Nat,e=j:=⟨e.toNat,by omega⟩
 refine⟨_,rfl,_,rfl,_,rfl,by show 2<=1000; decide,rfl,trivial,by rw [pl]; omega,?_⟩
 have a1:=kF (ws:=cts) (j:=j) (by omega)
 refine⟨_,rfl,_,rfl,_,_,_,rfl,rfl,a1,_,_,rfl,rfl,_,rfl,_,rfl,j,j,rfl,?_,trivial,?_⟩
 ·rw [bA]; unfold gL; rw [if_pos (by omega),if_pos (by omega)]; rfl
 have q1:(intz cts).set j (.int (cts.getD j 0+1))=intz (cts.set j (cts.getD j 0+1)):=(List.map_set ..).symm
 have n1:NN (cts.set j (cts.getD j 0+1)):=nn.set (by have:=yK nn j; omega) _
 dsimp only
 rw [q1]
 have l1:(cts.set j (cts.getD j 0+1)).length=m:=by rw [bm7]; exact cl
 generalize cts.set j (cts.getD j 0+1)=ct2 at n1 l1
 have a2:=kF (ws:=ct2) (j:=k) (by omega)
 refine⟨_,rfl,_,rfl,_,_,_,rfl,rfl,a2,_,_,rfl,rfl,_,rfl,_,rfl,k,k,rfl,?_,trivial,?_⟩
 ·rw [bA]; unfold gL; rw [if_pos (by omega),if_pos (by omega)]; rfl
 have q2:(intz ct2).set k (.int (ct2.getD k 0+1))=intz (ct2.set k (ct2.getD k 0+1)):=(List.map_set ..).symm
 have n2:NN (ct2.set k (ct2.getD k 0+1)):=n1.set (by have:=yK n1 k; omega) _
 dsimp only
 rw [q2]
 have:=nx (lks ++ [((j:Int),(k:Int))]) (ct2.set k (ct2.getD k 0+1)) (T.app e0 e1) (by rw [bm7]; exact l1) n2
 unfold cH at this ⊢
 rw [bi3] at this
 exact this
theorem ah1 {nb:Int} (hc:m<=cs.length) (k1:1<=k) (hk:k < m) (m40:m<=40) (T:TL k lks) (cl:cts.length=m) (nn:NN cts) {s3 s6:Option Slot}
  (nx:∀ (y9:Option Slot) (lks':List (Int × Int)) (cts':List Int),TL (k+1) lks'->cts'.length=m->NN cts'->E.nx [some (.sh true (.scr ns)),s1,si m,s3,some (.own (.lst (cH lks'))),some (.own (.lst (intz cts'))),s6,si k,si nb,y9,y10,y11,y12]) :
  ag5 E [some (.sh true (.scr ns)),s1,si m,s3,some (.own (.lst (cH lks))),some (.own (.lst (intz cts))),s6,si k,si nb,y9,y10,y11,y12]:=by
 refine⟨_,rfl,_,_,rfl,rfl,(by show (0:Int) < 8; decide),_,_,rfl,rfl,_,rfl,tI ?_ (nx y9 lks cts T.same cl nn)⟩
 have e0:=bu0 (nb / 8) (show (k:Int) ≠ 0 by omega)
 have e1:=Int.emod_lt_of_pos (nb / 8) (show (0:Int) < (k:Int) by omega)
 refine⟨_,rfl,_,_,rfl,rfl,⟨by decide,by decide⟩,_,rfl,_,_,rfl,rfl,(by show (0:Int) < (k:Int); omega),trivial,?_⟩
 refine⟨_,rfl,_,ns,1,rfl,.inl rfl,by decide,_,_,rfl,rfl,(by show (0:Int) < 3; decide),.inl ⟨_,_,rfl,rfl,_,rfl,tI ?_ (ah0 hc hk m40 T cl nn e0 e1 fun l c a b d=>nx _ l c a b d)⟩⟩
 refine⟨_,rfl,_,_,rfl,rfl,_,rfl,_,_,rfl,rfl,⟨by decide,by decide⟩,_,_,rfl,rfl,(by show (0:Int) < 3; decide),_,_,rfl,rfl,_,_,rfl,trivial,?_⟩
 have h0:=bu0 (nb / 8) (show (3:Int) ≠ 0 by decide)
 dsimp only
 generalize hz:(if (k:Int) - 1 - nb / 8 % 3 > 0 then (k:Int) - 1 - nb / 8 % 3 else 0)=z
 have z0:0<=z:=by rw [<- hz]; split <;> omega
 have z1:z < (k:Int):=by rw [<- hz]; split <;> omega
 exact ah0 hc hk m40 T cl nn z0 z1 fun l c a b d=>nx _ l c a b d
theorem aX9 (hc:m<=cs.length) (k1:1<=k) (hk:k < m) (m40:m<=40) (T:TL k lks) (cl:cts.length=m) (nn:NN cts)
  (nx:∀ (y8 y9:Option Slot) (lks':List (Int × Int)) (cts':List Int),TL (k+1) lks'->cts'.length=m->NN cts'->E.nx [some (.sh true (.scr ns)),s1,si m,some (.sh true (.bl dg)),some (.own (.lst (cH lks'))),some (.own (.lst (intz cts'))),some (.own (.lst (intz cs))),si k,y8,y9,y10,y11,y12]) :
  ag6 E [some (.sh true (.scr ns)),s1,si m,some (.sh true (.bl dg)),some (.own (.lst (cH lks))),some (.own (.lst (intz cts))),some (.own (.lst (intz cs))),si k,y8,y9,y10,y11,y12]:=by
 have a0:=kF (ws:=cs) (j:=k) (by omega)
 refine⟨_,rfl,_,rfl,_,_,_,rfl,rfl,a0,_,rfl,_,_,rfl,by omega,by omega,fun z _=>⟨trivial,?_⟩⟩
 refine⟨_,rfl,_,rfl,?_⟩
 cases dg with
 | false=>exact bB (ah1 hc k1 hk m40 T cl nn fun y9 l c a b d=>nx _ y9 l c a b d)
 | true=>exact bE ⟨_,rfl,_,rfl,_,_,_,rfl,rfl,a0,_,_,rfl,rfl,⟨by decide,by decide⟩,trivial,ah1 hc k1 hk m40 T cl nn fun y9 l c a b d=>nx _ y9 l c a b d⟩
theorem ah2 {m:Nat}{ps:List Int} (hp:ps.Perm (rng m)):Pl m fun i=>ps.getD i.toNat 0:=by
 have pl:=hp.length_eq
 rw [cX] at pl
 have nd:ps.Nodup:=hp.nodup_iff.mpr (ae8 (kG m))
 have gt:∀ i:Int,0<=i->i < (m:Int)->ps[i.toNat]? = some (ps.getD i.toNat 0):=fun i h0 h1=>by
  rw [bi1,bg3 (by omega)]; rfl
 refine⟨fun i h0 h1=>dL.mp (hp.mem_iff.mp (bh9 (gt i h0 h1))),fun i j h0 h1 g0 g1 e=>?_,fun x hx=>?_⟩
 ·have:=(List.getElem?_inj (bh2.mp (gt i h0 h1)).1 nd).mp ((gt i h0 h1).trans (by rw [gt j g0 g1]; exact congrArg some e))
  omega
 ·obtain ⟨i,hi⟩:=bq4.mp (hp.mem_iff.mpr hx)
  have il:=(bh2.mp hi).1
  refine⟨i,by omega,by omega,?_⟩
  show ps.getD (i:Int).toNat 0=x
  rw [bj8,bi1,hi]; rfl
theorem aY0 {R:List PV->(PV->Prop)->Prop} (hR:ad0 R m) {ps ws:List Int}{s0 s3 s5 s6 y7:Option Slot}{Q:PV->Prop} (m40:m<=40) (T:TL m lks) (hp:ps.Perm (rng m)) (wl:ws.length=m) (wn:NN ws) (q:∀ ls,WL m ws ls->fX m ls->fD m ls->Q (b9 ws ls)) :
  ag7 R { nx:=fun _=>Q .non,rt:=Q } [s0,s1,si m,s3,some (.own (.lst (cH lks))),s5,s6,y7,y8,y9,some (.sh true (.lst (intz ps))),some (.own (.lst (intz ws))),y12]:=by
 have P:=ah2 hp
 have pl:=hp.length_eq
 rw [cX] at pl
 have fw:=T.few
 have pgl:(cH lks).length=lks.length:=bg5 _
 refine⟨_,rfl,_,rfl,cH lks,rfl,(fun z=>by cases z),by rw [pgl]; omega,fun i acc=>acc=cH ((lks.take i).map (fN fun i=>ps.getD i.toNat 0)),rfl,?_,?_⟩
 ·rintro i y acc hy rfl
  unfold cH at hy
  rw [bh5] at hy
  cases hz:lks[i]? with
  | none=>rw [hz] at hy; cases hy
  | some l=>
   rw [hz] at hy
   cases hy
   have h:=T.inn l (bh9 hz)
   obtain ⟨a,ea⟩:∃ a:Nat,l.1=a:=⟨l.1.toNat,by omega⟩
   obtain ⟨b,eb⟩:∃ b:Nat,l.2=b:=⟨l.2.toNat,by omega⟩
   have a1:L2.atI (intz ps) l.1=some (.int (ps.getD l.1.toNat 0)):=by rw [ea,bj8]; exact kF (by omega)
   have a2:L2.atI (intz ps) l.2=some (.int (ps.getD l.2.toNat 0)):=by rw [eb,bj8]; exact kF (by omega)
   refine⟨_,_,rfl,?_⟩
   refine⟨_,rfl,_,rfl,_,_,_,rfl,rfl,a1,_,rfl,_,rfl,_,_,_,rfl,rfl,a2,_,_,rfl,_,rfl,_,rfl,_,_,_,rfl,rfl,a1,_,rfl,_,rfl,_,_,_,rfl,rfl,a2,_,_,rfl,by show 2<=1000; decide,rfl,trivial,?_⟩
   dsimp only
   rw [bn6,hz,bi3]
   unfold cH
   rw [bi3]
   have e1:(if ps.getD l.2.toNat 0 < ps.getD l.1.toNat 0 then ps.getD l.2.toNat 0 else ps.getD l.1.toNat 0)=min (ps.getD l.1.toNat 0) (ps.getD l.2.toNat 0):=by split <;> omega
   have e2:(if ps.getD l.2.toNat 0 > ps.getD l.1.toNat 0 then ps.getD l.2.toNat 0 else ps.getD l.1.toNat 0)=max (ps.getD l.1.toNat 0) (ps.getD l.2.toNat 0):=by split <;> omega
   show _ ++ [PV.tup [.int (if ps.getD l.2.toNat 0 < ps.getD l.1.toNat 0 then ps.getD l.2.toNat 0 else ps.getD l.1.toNat 0),.int (if ps.getD l.2.toNat 0 > ps.getD l.1.toNat 0 then ps.getD l.2.toNat 0 else ps.getD l.1.toNat 0)]]=_
   rw [e1,e2]; rfl
 ·rintro acc rfl
  rw [pgl,bj3 (bg9 _)]
  have inn:=aX3 P T
  have nd:=aX4 P T
  have ml:(lks.map (fN fun i=>ps.getD i.toNat 0)).length=lks.length:=bg5 _
  have fp:∀ ls:List (Int × Int),flats (cH ls)=true:=xH
  refine⟨trivial,?_⟩
  refine⟨_,rfl,⟨_,_,rfl,rfl,c6 _,?_⟩,(fun ns e=>by cases e)⟩
  refine⟨_,rfl,?_⟩
  refine hR (lks.map (fN fun i=>ps.getD i.toNat 0)) _ (by rw [ml]; omega) (fun ls' pm so=>?_) inn nd
  have W:=WL.perm (n:=m) (ws:=ws) (by omega) inn (by rw [ml]; omega) nd wn pm so
  have lk:fX m ls':=⟨fun l hl=>W.inn l hl,W.most,W.ord⟩
  refine⟨⟨_,_,rfl,rfl,fp _,by show 2<=1000; decide,?_,trivial,?_⟩,(fun ns e=>by cases e)⟩
  ·show (flats (intz ws) && (flats (cH ls') && true))=true
   rw [c6,fp]; rfl
  ·exact q ls' W lk (aX6 lk (aX5 P T pm lk.fit))
theorem aY1 {s7:Option Slot}{Q:PV->Prop} (hn:ns.length<=63) (hc:m<=cs.length) (m40:m<=40) (T:TL m lks) (cl:cts.length=m) (nn:NN cts) (q:∀ ws ls,WL m ws ls->fX m ls->fD m ls->Q (b9 ws ls)) :
  ag8 { nx:=fun _=>Q .non,rt:=Q } [some (.sh true (.scr ns)),s1,si m,some (.sh true (.bl dg)),some (.own (.lst (cH lks))),some (.own (.lst (intz cts))),some (.own (.lst (intz cs))),s7,y8,y9,none,none,none]:=by
 refine⟨_,rfl,_,rfl,_,rfl,ns,m,dg,rfl,hn,m40,fun ps hp=>⟨trivial,?_⟩⟩
 have pl:=hp.length_eq
 rw [cX] at pl
 refine⟨by show 1<=1000; decide,rfl,_,rfl,_,_,rfl,rfl,rfl,by omega,by omega,by show 1<=10; decide,rfl,?_,?_⟩
 ·show flats (List.replicate (m:Int).toNat [PV.int 0]).flatten=true
  rw [tH]; exact c6 _
 show (aF _ _) _ [_,_,_,_,_,_,_,_,_,_,_,some (Slot.own (.lst (List.replicate (m:Int).toNat [PV.int 0]).flatten)),_]
 rw [tH,bj8]
 refine⟨_,rfl,m,rfl,by omega,by omega,fun i ρ=>∃ (ws:List Int) (y7:Option Slot),ρ = [some (.sh true (.scr ns)),s1,si m,some (.sh true (.bl dg)),some (.own (.lst (cH lks))),some (.own (.lst (intz cts))),some (.own (.lst (intz cs))),y7,y8,y9,some (.sh true (.lst (intz ps))),some (.own (.lst (intz ws))),none]/\ws.length=m/\NN ws,⟨_,s7,rfl,bv6,fun z hz=>by rw [List.eq_of_mem_replicate hz]; exact bq2 0⟩,?_,?_⟩
 ·rintro i y ρ hy ⟨ws,y7,rfl,wl,wn⟩
  obtain ⟨rfl,hi⟩:=k7 hy
  have hi:i < m:=by omega
  refine l8 ?_
  rw [Int.zero_add]
  have a1:=kF (ws:=cs) (j:=i) (by omega)
  have a2:=kF (ws:=cts) (j:=i) (by omega)
  have a3:=kF (ws:=ps) (j:=i) (by omega)
  have p1:=yK nn i
  have pr:=(ah2 hp).inn i (by omega) (by omega)
  rw [bj8] at pr
  obtain ⟨z,ez⟩:∃ z:Nat,ps.getD i 0=z:=⟨(ps.getD i 0).toNat,by omega⟩
  refine⟨_,rfl,_,rfl,_,_,_,rfl,rfl,a1,_,rfl,_,rfl,_,_,_,rfl,rfl,a2,_,_,rfl,rfl,_,_,rfl,rfl,by show 0 < cts.getD i 0+2; omega,_,rfl,_,rfl,_,rfl,_,_,_,rfl,rfl,a3,_,z,rfl,?_,trivial,ws.set z (cs.getD i 0 % (cts.getD i 0+2)),si i,?_,by rw [bm7]; exact wl,wn.set (bu0 _ (by omega)) _⟩
  ·rw [bA,ez]; unfold gL; rw [if_pos (by omega),if_pos (by omega)]; rfl
  ·show _ = [_,_,_,_,_,_,_,_,_,_,_,some (Slot.own (.lst (intz (ws.set z (cs.getD i 0 % (cts.getD i 0+2)))))),_]
   have:(intz ws).set z (.int (cs.getD i 0 % (cts.getD i 0+2)))=intz (ws.set z (cs.getD i 0 % (cts.getD i 0+2))):=(List.map_set ..).symm
   rw [<- this]; rfl
 ·rintro ρ ⟨ws,y7,rfl,wl,wn⟩
  exact aY0 (aT3 m40) m40 T hp wl wn fun ls a b c=>q ws ls a b c
end
theorem aY2 {mx:Int} (mx40:mx<=40):cC ag9 ["script","most","many","digits","links","counts","cells","k","number","elder","places","wants","pairs"] (ag3 mx):=by
 rintro xs Q ⟨ns,most,rfl,hl,h0,h1,q⟩
 refine⟨_,rfl,_,rfl,ns,most,rfl,h0,fun z z0 z1=>⟨trivial,?_⟩⟩
 obtain ⟨m,rfl⟩:∃ m:Nat,z=m:=⟨z.toNat,by omega⟩
 refine⟨_,rfl,_,ns,1,rfl,.inl rfl,by decide,_,_,rfl,rfl,⟨by decide,by decide⟩,_,_,rfl,rfl,(by show (0:Int) < 2; decide),.inl ⟨_,_,rfl,rfl,trivial,?_⟩⟩
 generalize (if false=true then !decide (ns.getD (1:Int).toNat 0 / 8 % 2=1) else decide (ns.getD (1:Int).toNat 0 / 8 % 2=1))=dg
 refine⟨by decide,rfl,rfl,rfl,?_⟩
 refine⟨by show 1<=1000; decide,rfl,_,rfl,_,_,rfl,rfl,rfl,by omega,by omega,by show 1<=10; decide,rfl,?_,?_⟩
 ·show flats (List.replicate (m:Int).toNat [PV.int 0]).flatten=true
  rw [tH]; exact c6 _
 show (aF _ _) _ [_,_,_,_,_,some (Slot.own (.lst (List.replicate (m:Int).toNat [PV.int 0]).flatten)),_,_,_,_,_,_,_]
 rw [tH,bj8]
 obtain ⟨zs,ez,zl⟩:=vJ ns (some 4) (some (4+(m:Int)))
 refine⟨_,rfl,_,rfl,_,rfl,_,_,rfl,rfl,_,rfl,_,rfl,c6 _,rfl,?_,?_⟩
 ·show flats (kS (intz ns) (some 4) (some (4+(m:Int))))=true
  rw [ez]; exact c6 _
 show (aF _ _) _ [_,_,_,_,_,_,some (Slot.own (.lst (kS (intz ns) (some 4) (some (4+(m:Int)))))),_,_,_,_,_,_]
 rw [ez]
 refine⟨_,rfl,_,_,rfl,rfl,_,rfl,(zs.length:Int),(m:Int),by rw [bA],rfl,⟨by omega,by omega,by omega,by omega⟩,fun i ρ=>∃ (cs:List Int) (y7:Option Slot),ρ = [some (.sh true (.scr ns)),si most,si m,some (.sh true (.bl dg)),some (.own (.lst (cH []))),some (.own (.lst (intz (List.replicate m 0)))),some (.own (.lst (intz cs))),y7,none,none,none,none,none]/\cs.length=zs.length+i,⟨zs,none,rfl,rfl⟩,?_,?_⟩
 ·rintro i y ρ hy ⟨cs,y7,rfl,cl⟩
  obtain ⟨rfl,hi⟩:=k7 hy
  refine l8 ?_
  refine⟨_,rfl,_,rfl,_,ns,1,rfl,.inl rfl,by decide,_,rfl,_,_,rfl,by omega,by omega,fun z _=>⟨trivial,by rw [bA]; omega,cs ++ [z],_,by rw [fS]; rfl,by rw [bh6,cl]; rfl⟩⟩
 rintro ρ ⟨cs,y7,rfl,cl⟩
 rw [eW] at cl
 have hc:m<=cs.length:=by omega
 refine⟨_,rfl,(1:Int),(m:Int),rfl,rfl,⟨by omega,by omega,by omega,by omega⟩,fun i ρ=>∃ (lks:List (Int × Int)) (cts:List Int) (y7 y8 y9:Option Slot),ρ = [some (.sh true (.scr ns)),si most,si m,some (.sh true (.bl dg)),some (.own (.lst (cH lks))),some (.own (.lst (intz cts))),some (.own (.lst (intz cs))),y7,y8,y9,none,none,none]/\TL (i+1) lks/\cts.length=m/\NN cts,⟨[],_,y7,none,none,rfl,⟨(fun l hl=>by cases hl),bp2,bl0 _⟩,bv6,fun z hz=>by rw [List.eq_of_mem_replicate hz]; exact bq2 0⟩,?_,?_⟩
 ·rintro i y ρ hy ⟨lks,cts,y7,y8,y9,rfl,T,cl,nn⟩
  obtain ⟨rfl,hi⟩:=k7 hy
  refine l8 ?_
  rw [show (1:Int)+(i:Int)=((i+1:Nat):Int) by omega]
  exact aX9 hc (by omega) (by omega) (by omega) T cl nn fun y8 y9 l c a b d=>⟨l,c,si ((i+1:Nat):Int),y8,y9,rfl,a,b,d⟩
 ·rintro ρ ⟨lks,cts,y7,y8,y9,rfl,T,cl,nn⟩
  rw [eW] at T
  have T':TL m lks:=by
   by_cases m0:m=0
   ·subst m0
    have e:lks = []:=by
     cases lks with
     | nil=>rfl
     | cons l r=>have:=T.inn l bg7; omega
    subst e
    exact⟨(fun l hl=>by cases hl),bp2,bl0 _⟩
   ·rwa [show ((m:Int) - 1).toNat+1=m by omega] at T
  exact aY1 hl hc (by omega) T' cl nn fun ws ls a b c=>q m ws ls z1 a b c
noncomputable abbrev bX:=List (Int × List Int)
noncomputable def aO (W:bX):List Int:=W.map (·.1)
theorem hG {W:bX}{h:Int}:h ∈ aO W ↔ ∃ B,(h,B) ∈ W:=by
 unfold aO
 rw [bi4]
 exact⟨fun ⟨p,hp,e⟩=>⟨p.2,by rw [<- e]; exact hp⟩,fun ⟨w,hw⟩=>⟨_,hw,rfl⟩⟩
section
variable {ws : List Int} {n : Nat} {ls : List (Int × Int)} {P : g9} {W T : bX} {D B : List Int} {h x y c : Int} {e : Option Int}
theorem Rt.kid (R:Rt n ls P) (f:eG ls) (hp:(h,e) ∈ P):c ∈ bH ls h e ↔ (c,some h) ∈ P:=by
 constructor
 ·intro z
  obtain ⟨z1,z2⟩:=gZ.mp z
  exact (R.done h e hp c z1).resolve_left fun q=>z2 q.symm
 ·intro z
  obtain ⟨i,hi⟩:=gG z
  obtain ⟨j,q,ji,hj,hn⟩:=R.par i c h hi
  refine gZ.mpr ⟨mR hn,fun ec=>?_⟩
  rw [<- ec] at hp
  obtain ⟨i2,hi2⟩:=gG hp
  obtain ⟨j2,q2,ji2,hj2,_⟩:=R.par i2 h c hi2
  have e1:=(kH R.nd hj2 hi).1
  have e2:=(kH R.nd hj hi2).1
  omega
noncomputable def cD (ls:List (Int × Int)) (W:bX) (h:Int) (e:Option Int):Int:=(((bH ls h e).filter fun c=>!decide (c ∈ aO W)).length:Nat)
structure dS (P:g9) (W:bX) (D:List Int) (x:Int) (B:List Int):Prop where
 self:x ∈ B
 nd:B.Nodup
 up:∀ y ∈ B,y=x ∨ (y ∈ aO W/\∃ e,(y,some e) ∈ P/\e ∈ B)
 dn:∀ y ∈ B,∀ c,(c,some y) ∈ P->c ∈ aO W->c ∈ B
 inn:∀ y ∈ B,y ∈ D
structure cM (ws:List Int) (ls:List (Int × Int)) (P:g9) (D:List Int) (W T:bX):Prop where
 wk:∀ h B,(h,B) ∈ W->dS P W D h B/\∃ e,(h,some e) ∈ P/\ws.getD h.toNat 0 - cD ls W h (some e)=1
 tk:∀ h B,(h,B) ∈ T->dS P W D h B/\B.Pairwise (· <= ·)/\h ∉ aO W/\∃ e,(h,e) ∈ P/\0 < ws.getD h.toNat 0 - cD ls W h e/\(ws.getD h.toNat 0 - cD ls W h e=1->e=none)
 rs:∀ h e,(h,e) ∈ P->h ∈ D->h ∉ aO W->h ∉ aO T->ws.getD h.toNat 0 - cD ls W h e<=0
 ndw:(aO W).Nodup
 ndt:(aO T).Nodup
theorem cM.wD (A:cM ws ls P D W T) (hh:h ∈ aO W):h ∈ D:=by
 obtain ⟨B,hB⟩:=hG.mp hh
 have b:=(A.wk h B hB).1
 exact b.inn h b.self
theorem cM.tD (A:cM ws ls P D W T) (hh:h ∈ aO T):h ∈ D:=by
 obtain ⟨B,hB⟩:=hG.mp hh
 have b:=(A.tk h B hB).1
 exact b.inn h b.self
theorem dS.apart (R:Rt n ls P) {B':List Int}{x':Int} (b:dS P W D x B) (b':dS P W D x' B') (ne:x ≠ x') (n1:∀ e,(x,some e) ∈ P->x ∈ aO W->e ∉ B') (n2:∀ e,(x',some e) ∈ P->x' ∈ aO W->e ∉ B) :
  ∀ (i:Nat) (y:Int) (q:Option Int),P[i]? = some (y,q)->y ∈ B->y ∈ B'->False:=by
 intro i
 induction i using Nat.strongRecOn with
 | ind i ih=>
  intro y q hi hy hy'
  rcases b.up y hy with z | ⟨z1,e1,z2,z3⟩
  ·rcases b'.up y hy' with w | ⟨w1,e2,w2,w3⟩
   ·exact ne (z.symm.trans w)
   ·rw [z] at w1 w2; exact n1 e2 w2 w1 w3
  ·rcases b'.up y hy' with w | ⟨w1,e2,w2,w3⟩
   ·rw [w] at z1 z2; exact n2 e1 z2 z1 z3
   ·have ee:=m9 R.nd z2 w2
    cases ee
    obtain ⟨k,hk⟩:=gG z2
    obtain ⟨j,q',ji,hj,_⟩:=R.par k y e1 hk
    have:=(kH R.nd hk hi).1
    exact ih j (by omega) e1 q' hj z3 w3
theorem dS.more (b:dS P W D x B) {W':bX}{D':List Int} (w:∀ y,y ∈ aO W->y ∈ aO W') (d:∀ y ∈ D,y ∈ D') (nw:∀ y ∈ D,∀ c,(c,some y) ∈ P->c ∈ aO W'->c ∈ aO W):dS P W' D' x B:=
 ⟨b.self,b.nd,fun y hy=>(b.up y hy).imp id fun ⟨z1,z2⟩=>⟨w y z1,z2⟩,fun y hy c hc hw=>b.dn y hy c hc (nw y (b.inn y hy) c hc hw),fun y hy=>d y (b.inn y hy)⟩
theorem dS.perm (b:dS P W D x B) {B':List Int} (p:B'.Perm B):dS P W D x B':=
 ⟨p.mem_iff.mpr b.self,p.nodup_iff.mpr b.nd,fun y hy=>(b.up y (p.mem_iff.mp hy)).imp id fun ⟨z1,e,z2,z3⟩=>⟨z1,e,z2,p.mem_iff.mpr z3⟩,fun y hy c hc hw=>p.mem_iff.mpr (b.dn y (p.mem_iff.mp hy) c hc hw),fun y hy=>b.inn y (p.mem_iff.mp hy)⟩
noncomputable def eI (W:bX) (c:Int):List Int:=((W.find? fun p=>decide (p.1=c)).map (·.2)).getD []
theorem nX (nd:(aO W).Nodup) (hB:(c,B) ∈ W):eI W c=B:=by
 unfold eI
 cases e:W.find? fun p=>decide (p.1=c) with
 | none=>have:=List.find?_eq_none.mp e _ hB; simp at this
 | some p=>
  have h1:=List.find?_some e
  have h2:=List.mem_of_find?_eq_some e
  have h3:p.1=c:=by simpa using h1
  obtain ⟨a,b⟩:=p
  dsimp only at h3
  subst h3
  obtain ⟨i,hi⟩:=bq4.mp h2
  obtain ⟨j,hj⟩:=bq4.mp hB
  have k1:(aO W)[i]? = some a:=by unfold aO; rw [bh5,hi]; rfl
  have k2:(aO W)[j]? = some a:=by unfold aO; rw [bh5,hj]; rfl
  have:=(List.getElem?_inj (bh2.mp k1).1 nd).mp (k1.trans k2.symm)
  subst this
  rw [hi] at hj
  cases hj; rfl
theorem qA (hc:c ∉ aO W):eI W c = []:=by
 unfold eI
 rw [List.find?_eq_none.mpr fun p hp=>by simp; exact fun z=>hc (hG.mpr ⟨p.2,by rw [<- z]; exact hp⟩)]; rfl
noncomputable def eS (ls:List (Int × Int)) (W:bX) (h:Int) (e:Option Int):List Int:=h :: (bH ls h e).flatMap (eI W)
theorem tX (R:Rt n ls P) (f:eG ls) (A:cM ws ls P D W T) (hp:(h,e) ∈ P) (hD:h ∉ D) {W':bX} (w:∀ y,y ∈ aO W->y ∈ aO W') (nw:∀ y c,(c,some y) ∈ P->c ∈ aO W'->y=h ∨ y ∈ D->c ∈ aO W) :
  dS P W' (h :: D) h (eS ls W h e):=by
 have inB:∀ y,y ∈ (bH ls h e).flatMap (eI W) ↔ ∃ c B,(c,B) ∈ W/\(c,some h) ∈ P/\y ∈ B:=fun y=>by
  rw [List.mem_flatMap]
  constructor
  ·rintro ⟨c,hc,hy⟩
   by_cases ck:c ∈ aO W
   ·obtain ⟨B,hB⟩:=hG.mp ck
    rw [nX A.ndw hB] at hy
    exact⟨c,B,hB,(R.kid f hp).mp hc,hy⟩
   ·rw [qA ck] at hy; cases hy
  ·rintro ⟨c,B,hB,hc,hy⟩
   exact⟨c,(R.kid f hp).mpr hc,by rw [nX A.ndw hB]; exact hy⟩
 have mB:∀ y,y ∈ eS ls W h e ↔ y=h ∨ ∃ c B,(c,B) ∈ W/\(c,some h) ∈ P/\y ∈ B:=fun y=>by
  unfold eS; rw [bg8,inB]
 refine⟨bg7,?_,fun y hy=>?_,fun y hy c hc hw=>?_,fun y hy=>?_⟩
 ·refine bm6.mpr ⟨fun z=>?_,?_⟩
  ·obtain ⟨c,B,hB,_,hy⟩:=(inB h).mp z
   exact hD ((A.wk c B hB).1.inn h hy)
  ·have kn:(bH ls h e).Nodup:=(f.nnd h).filter _
   refine List.pairwise_flatMap.mpr ⟨fun c hc=>?_,kn.imp_of_mem fun {c c'} hc hc' ne=>?_⟩
   ·by_cases ck:c ∈ aO W
    ·obtain ⟨B,hB⟩:=hG.mp ck
     rw [nX A.ndw hB]
     exact (A.wk c B hB).1.nd
    ·rw [qA ck]; exact bp2
   ·intro y hy y2 hy' ey
    subst ey
    by_cases ck:c ∈ aO W
    ·by_cases ck':c' ∈ aO W
     ·obtain ⟨B,hB⟩:=hG.mp ck
      obtain ⟨B',hB'⟩:=hG.mp ck'
      rw [nX A.ndw hB] at hy
      rw [nX A.ndw hB'] at hy'
      have b:=(A.wk c B hB).1
      have b':=(A.wk c' B' hB').1
      have kc:=(R.kid f hp).mp hc
      have kc':=(R.kid f hp).mp hc'
      have ym:y ∈ P.map (·.1):=by
       rcases b.up y hy with z | ⟨_,e',z,_⟩
       ·rw [z]; exact bi4.mpr ⟨_,kc,rfl⟩
       ·exact bi4.mpr ⟨_,z,rfl⟩
      obtain ⟨⟨y',q⟩,hq,rfl⟩:=bi4.mp ym
      obtain ⟨i,hi⟩:=gG hq
      exact dS.apart R b b' ne (fun e1 z _ ze=>hD (b'.inn _ (by have:=m9 R.nd z kc; cases this; exact ze))) (fun e1 z _ ze=>hD (b.inn _ (by have:=m9 R.nd z kc'; cases this; exact ze))) i y' q hi hy hy'
     ·rw [qA ck'] at hy'; cases hy'
    ·rw [qA ck] at hy; cases hy
 ·rcases (mB y).mp hy with z | ⟨c,B,hB,hc,hb⟩
  ·exact .inl z
  ·have b:=(A.wk c B hB).1
   rcases b.up y hb with z | ⟨z1,e1,z2,z3⟩
   ·rw [z]
    exact .inr ⟨w c (hG.mpr ⟨B,hB⟩),h,hc,(mB h).mpr (.inl rfl)⟩
   ·exact .inr ⟨w y z1,e1,z2,(mB e1).mpr (.inr ⟨c,B,hB,hc,z3⟩)⟩
 ·rcases (mB y).mp hy with z | ⟨c',B,hB,hc',hb⟩
  ·subst z
   obtain ⟨B,hB⟩:=hG.mp (nw y c hc hw (.inl rfl))
   exact (mB c).mpr (.inr ⟨c,B,hB,hc,(A.wk c B hB).1.self⟩)
  ·have b:=(A.wk c' B hB).1
   exact (mB c).mpr (.inr ⟨c',B,hB,hc',b.dn y hb c hc (nw y c hc hw (.inr (b.inn y hb)))⟩)
 ·rcases (mB y).mp hy with z | ⟨c,B,hB,hc,hb⟩
  ·rw [z]; exact bg7
  ·exact bg6 _ ((A.wk c B hB).1.inn y hb)
theorem aY3 {W':bX} (k:∀ c ∈ bH ls h e,(c ∈ aO W' ↔ c ∈ aO W)):cD ls W' h e=cD ls W h e:=by
 unfold cD
 congr 2
 refine br7 fun c hc=>?_
 rw [decide_eq_decide.mpr (k c hc)]
theorem cM.wait (R:Rt n ls P) (f:eG ls) (A:cM ws ls P D W T) {g:Int} (hp:(h,some g) ∈ P) (hD:h ∉ D) (dk:∀ y ∈ D,(h,some y) ∉ P) (lack:ws.getD h.toNat 0 - cD ls W h (some g)=1):cM ws ls P (h :: D) (W ++ [(h,eS ls W h (some g))]) T:=by
 have kw:∀ y,y ∈ aO (W ++ [(h,eS ls W h (some g))]) ↔ y ∈ aO W ∨ y=h:=fun y=>by
  unfold aO; rw [bi3,bh4,List.map_singleton,bh1]
 have hW:h ∉ aO W:=fun z=>hD (A.wD z)
 have hh:(h,some h) ∉ P:=fun z=>by
  have:=(R.kid f hp (c:=h)).mpr z
  exact f.irr h (gZ.mp this).1
 have nw:∀ y c,(c,some y) ∈ P->c ∈ aO (W ++ [(h,eS ls W h (some g))])->y=h ∨ y ∈ D->c ∈ aO W:=fun y c hc hw hy=>by
  rcases (kw c).mp hw with z | z
  ·exact z
  ·subst z
   rcases hy with z | z
   ·subst z; exact absurd hc hh
   ·exact absurd hc (dk y z)
 have same:∀ y e,(y,e) ∈ P->y=h ∨ y ∈ D->cD ls (W ++ [(h,eS ls W h (some g))]) y e=cD ls W y e:=fun y e hy hd=>aY3 fun c hc=>⟨fun z=>nw y c ((R.kid f hy).mp hc) z hd,fun z=>(kw c).mpr (.inl z)⟩
 refine⟨fun x B hB=>?_,fun x B hB=>?_,fun x e hx hd n1 n2=>?_,?_,A.ndt⟩
 ·rcases bh4.mp hB with z | z
  ·obtain ⟨b,e,he,l⟩:=A.wk x B z
   exact⟨b.more (fun y hy=>(kw y).mpr (.inl hy)) (fun y hy=>bg6 _ hy) fun y hy c hc hw=>nw y c hc hw (.inr hy),e,he,by rw [same x _ he (.inr (b.inn x b.self))]; exact l⟩
  ·cases bh1.mp z
   exact⟨tX R f A hp hD (fun y hy=>(kw y).mpr (.inl hy)) nw,g,hp,by rw [same h _ hp (.inl rfl)]; exact lack⟩
 ·obtain ⟨b,so,nk,e,he,l⟩:=A.tk x B hB
  have xD:=b.inn x b.self
  refine⟨b.more (fun y hy=>(kw y).mpr (.inl hy)) (fun y hy=>bg6 _ hy) fun y hy c hc hw=>nw y c hc hw (.inr hy),so,fun z=>?_,e,he,by rw [same x _ he (.inr xD)]; exact l⟩
  rcases (kw x).mp z with z | z
  ·exact nk z
  ·rw [z] at xD; exact hD xD
 ·rcases bg8.mp hd with z | z
  ·exact absurd ((kw x).mpr (.inr z)) n1
  ·rw [same x e hx (.inr z)]
   exact A.rs x e hx z (fun q=>n1 ((kw x).mpr (.inl q))) n2
 ·unfold aO
  rw [bi3,bo4]
  exact⟨A.ndw,bj4 _ _,fun a ha b hb e=>by rw [List.map_singleton,bh1] at hb; exact hW (by have q:a=h:=e.trans hb; rw [<- q]; exact ha)⟩
theorem cM.take (R:Rt n ls P) (f:eG ls) (A:cM ws ls P D W T) (hp:(h,e) ∈ P) (hD:h ∉ D) (lack:0 < ws.getD h.toNat 0 - cD ls W h e) (one:ws.getD h.toNat 0 - cD ls W h e=1->e=none) (pm:B.Perm (eS ls W h e)) (so:B.Pairwise (· <= ·)):cM ws ls P (h :: D) W (T ++ [(h,B)]):=by
 have kt:∀ y,y ∈ aO (T ++ [(h,B)]) ↔ y ∈ aO T ∨ y=h:=fun y=>by
  unfold aO; rw [bi3,bh4,List.map_singleton,bh1]
 have hW:h ∉ aO W:=fun z=>hD (A.wD z)
 have hT:h ∉ aO T:=fun z=>hD (A.tD z)
 refine⟨fun x B hB=>?_,fun x B' hB=>?_,fun x e hx hd n1 n2=>?_,A.ndw,?_⟩
 ·obtain ⟨b,e,he,l⟩:=A.wk x B hB
  exact⟨b.more (fun y hy=>hy) (fun y hy=>bg6 _ hy) fun y hy c hc hw=>hw,e,he,l⟩
 ·rcases bh4.mp hB with z | z
  ·obtain ⟨b,so,nk,e,he,l⟩:=A.tk x B' z
   exact⟨b.more (fun y hy=>hy) (fun y hy=>bg6 _ hy) fun y hy c hc hw=>hw,so,nk,e,he,l⟩
  ·cases bh1.mp z
   exact⟨(tX R f A hp hD (fun y hy=>hy) fun _ _ _ hw _=>hw).perm pm,so,hW,e,hp,lack,one⟩
 ·rcases bg8.mp hd with z | z
  ·exact absurd ((kt x).mpr (.inr z)) n2
  ·exact A.rs x e hx z n1 fun q=>n2 ((kt x).mpr (.inl q))
 ·unfold aO
  rw [bi3,bo4]
  exact⟨A.ndt,bj4 _ _,fun a ha b hb e=>by rw [List.map_singleton,bh1] at hb; exact hT (by have q:a=h:=e.trans hb; rw [<- q]; exact ha)⟩
theorem cM.lit (A:cM ws ls P D W T) (hp:(h,e) ∈ P) (nd:(P.map (·.1)).Nodup) (lack:ws.getD h.toNat 0 - cD ls W h e<=0):cM ws ls P (h :: D) W T:=by
 refine⟨fun x B hB=>?_,fun x B' hB=>?_,fun x e' hx hd n1 n2=>?_,A.ndw,A.ndt⟩
 ·obtain ⟨b,e,he,l⟩:=A.wk x B hB
  exact⟨b.more (fun y hy=>hy) (fun y hy=>bg6 _ hy) fun y hy c hc hw=>hw,e,he,l⟩
 ·obtain ⟨b,so,nk,e,he,l⟩:=A.tk x B' hB
  exact⟨b.more (fun y hy=>hy) (fun y hy=>bg6 _ hy) fun y hy c hc hw=>hw,so,nk,e,he,l⟩
 ·rcases bg8.mp hd with z | z
  ·subst z
   cases m9 nd hx hp
   exact lack
  ·exact A.rs x e' hx z n1 n2
structure gH (ws:List Int) (ls:List (Int × Int)) (qs:bX):Prop where
 seeds:aW ws.length (aO qs)=true
 lit:gY ws ls (aO qs)=true
 sets:∀ q ∈ qs,aW ws.length q.2=true/\q.1 ∈ q.2/\stay ws ls q.2=q.2
 apart:qs.Pairwise fun a b=>∀ x ∈ a.2,x ∉ b.2
theorem zG {S L:List Int} (nd:(aH ls y).Nodup) (sub:∀ z ∈ aH ls y,z ∉ S->z ∈ L):pT (aH ls y) S<=(L.length:Int):=by
 have e:=tS (fun _:Int=>true) (fun z=>decide (z ∈ S)) (aH ls y)
 have a:(aH ls y).filter (fun _=>true)=aH ls y:=bq3.mpr fun _ _=>rfl
 rw [a] at e
 have b:((aH ls y).filter fun x=>true && !decide (x ∈ S)).length<=L.length:=gF (nd.filter _) fun z hz=>by
  obtain ⟨h1,h2⟩:=bh8.mp hz
  refine sub z h1 ?_
  simpa using h2
 have c:((aH ls y).filter fun x=>decide (x ∈ S) && true)=(aH ls y).filter fun x=>decide (x ∈ S):=br7 fun x _=>bu6 _
 rw [c] at e
 unfold pT
 omega
theorem cM.cold (R:Rt n ls P) (f:eG ls) (A:cM ws ls P D W T) (hB:(x,B) ∈ T):stay ws ls B=B:=by
 obtain ⟨b,_,nk,e,he,l,l1⟩:=A.tk x B hB
 unfold stay
 refine bq3.mpr fun y hy=>?_
 unfold l9
 refine bg2 ?_
 rcases b.up y hy with z | ⟨z1,g,z2,z3⟩
 ·subst z
  cases e with
  | none=>
   have:=zG (S:=B) (L:=(bH ls y none).filter fun c=>!decide (c ∈ aO W)) (f.nnd y) fun c hc nc=>by
    have ck:c ∈ bH ls y none:=gZ.mpr ⟨hc,by simp⟩
    refine bh8.mpr ⟨ck,?_⟩
    rw [bg4 fun q=>nc (b.dn y hy c ((R.kid f he).mp ck) q)]; rfl
   unfold cD at l
   omega
  | some g=>
   have:=zG (S:=B) (L:=g :: (bH ls y (some g)).filter fun c=>!decide (c ∈ aO W)) (f.nnd y) fun c hc nc=>by
    by_cases cg:c=g
    ·rw [cg]; exact bg7
    ·have ck:c ∈ bH ls y (some g):=gZ.mpr ⟨hc,fun q=>cg (bj0 q)⟩
     refine bg6 _ (bh8.mpr ⟨ck,?_⟩)
     rw [bg4 fun q=>nc (b.dn y hy c ((R.kid f he).mp ck) q)]; rfl
   have n1:ws.getD y.toNat 0 - cD ls W y (some g) ≠ 1:=fun q=>by cases l1 q
   unfold cD at l n1
   rw [bi9] at this
   omega
 ·obtain ⟨By,hBy⟩:=hG.mp z1
  obtain ⟨_,g',he',l'⟩:=A.wk y By hBy
  cases m9 R.nd z2 he'
  have:=zG (S:=B) (L:=(bH ls y (some g)).filter fun c=>!decide (c ∈ aO W)) (f.nnd y) fun c hc nc=>by
   have ck:c ∈ bH ls y (some g):=gZ.mpr ⟨hc,fun q=>nc (by rw [bj0 q]; exact z3)⟩
   refine bh8.mpr ⟨ck,?_⟩
   rw [bg4 fun q=>nc (b.dn y hy c ((R.kid f z2).mp ck) q)]; rfl
  unfold cD at l'
  omega
theorem ah3 {U L:List Int} (sh:fU ws ls U) (hy:y ∈ rng ws.length) (nd:L.Nodup) (sub:∀ z ∈ L,z ∈ aH ls y/\z ∈ U) (en:ws.getD y.toNat 0<=(L.length:Int)):y ∈ U:=by
 refine bl5 fun no=>?_
 have k:=sh y hy
 unfold kin at k
 rw [bg4 no,Bool.not_false,Bool.true_and,bk9] at k
 have:=gF nd (m:=(aH ls y).filter fun x=>decide (x ∈ U)) fun z hz=>bh8.mpr ⟨(sub z hz).1,bg2 (sub z hz).2⟩
 omega
theorem cM.lights (R:Rt ws.length ls P) (f:eG ls) (A:cM ws ls P D W T) (all:∀ h ∈ rng ws.length,h ∈ D):gY ws ls (aO T)=true:=by
 refine pY.mpr fun U sh sub=>?_
 have inR:∀ {h e},(h,e) ∈ P->h ∈ rng ws.length:=fun {h e} hp=>(R.mem h).mp (bi4.mpr ⟨_,hp,rfl⟩)
 have one:∀ (k i:Nat) (h:Int) (e:Option Int),i+k=P.length->P[i]? = some (h,e)->h ∉ aO W->h ∈ U:=by
  intro k
  induction k using Nat.strongRecOn with
  | ind k ih=>
   intro i h e ik hi hw
   have hp:=bh9 hi
   by_cases ht:h ∈ aO T
   ·exact sub h ht
   ·have l:=A.rs h e hp (all h (inR hp)) hw ht
    refine ah3 sh (inR hp) (L:=(bH ls h e).filter fun c=>!decide (c ∈ aO W)) (((f.nnd h).filter _).filter _) (fun c hc=>?_) (by unfold cD at l; omega)
    obtain ⟨c1,c2⟩:=bh8.mp hc
    have cp:=(R.kid f hp).mp c1
    obtain ⟨j,hj⟩:=gG cp
    obtain ⟨i',q,i'j,hi',_⟩:=R.par j c h hj
    have e1:=(kH R.nd hi' hi).1
    have jl:=(bh2.mp hj).1
    exact⟨(gZ.mp c1).1,ih (P.length - j) (by omega) j c (some h) (by omega) hj (by simpa using c2)⟩
 have two:∀ (i:Nat) (h:Int) (e:Option Int),P[i]? = some (h,e)->h ∈ U:=by
  intro i
  induction i using Nat.strongRecOn with
  | ind i ih=>
   intro h e hi
   have hp:=bh9 hi
   by_cases hw:h ∈ aO W
   ·obtain ⟨B,hB⟩:=hG.mp hw
    obtain ⟨_,g,hg,l⟩:=A.wk h B hB
    cases m9 R.nd hp hg
    obtain ⟨j,q,ji,hj,gn⟩:=R.par i h g hi
    refine ah3 sh (inR hp) (L:=g :: (bH ls h (some g)).filter fun c=>!decide (c ∈ aO W)) (bm6.mpr ⟨fun z=>(gZ.mp (bh8.mp z).1).2 rfl,((f.nnd h).filter _).filter _⟩) (fun c hc=>?_) (by rw [bi9]; unfold cD at l; omega)
    rcases bg8.mp hc with z | z
    ·rw [z]; exact⟨gn,ih j ji g q hj⟩
    ·obtain ⟨c1,c2⟩:=bh8.mp z
     obtain ⟨j',hj'⟩:=gG ((R.kid f hp).mp c1)
     have jl:=(bh2.mp hj').1
     exact⟨(gZ.mp c1).1,one (P.length - j') j' c (some h) (by omega) hj' (by simpa using c2)⟩
   ·have il:=(bh2.mp hi).1
    exact one (P.length - i) i h e (by omega) hi hw
 intro h hh
 obtain ⟨⟨h',e⟩,hp,rfl⟩:=bi4.mp ((R.mem h).mpr hh)
 obtain ⟨i,hi⟩:=gG hp
 exact two i h' e hi
theorem ah4 (nd:B.Nodup) (so:B.Pairwise (· <= ·)) (inn:∀ x ∈ B,x ∈ rng n):aW n B=true:=by
 have up:B.Pairwise (· < ·):=(List.Pairwise.and so nd).imp fun z=>Int.lt_iff_le_and_ne.mpr ⟨z.1,z.2⟩
 unfold aW
 rw [bj9,bq0]
 refine⟨sM up,fun b hb=>?_⟩
 obtain ⟨x,hx,rfl⟩:=bi4.mp hb
 have:=dL.mp (inn x hx)
 show inB n x=true
 unfold inB
 simp only [bj9,bk2]
 omega
theorem cM.paper (R:Rt ws.length ls P) (f:eG ls) (A:cM ws ls P D W T) (all:∀ h,h ∈ D ↔ h ∈ rng ws.length) {qs:bX} (pm:qs.Perm T) (so:qs.Pairwise fun u v=>u.1 < v.1):gH ws ls qs:=by
 have ks:∀ h,h ∈ aO qs ↔ h ∈ aO T:=fun h=>(pm.map _).mem_iff
 refine⟨?_,?_,fun q hq=>?_,?_⟩
 ·have up:(aO qs).Pairwise (· < ·):=bp3.mpr so
  exact ah4 (up.imp fun z=>bq5 z) (up.imp fun z=>bu2 z) fun x hx=>(all x).mp (A.tD ((ks x).mp hx))
 ·have:=A.lights R f fun h hh=>(all h).mpr hh
  rw [pY] at this ⊢
  exact fun U sh sub=>this U sh fun x hx=>sub x ((ks x).mpr hx)
 ·obtain ⟨x,B⟩:=q
  have hB:=pm.mem_iff.mp hq
  obtain ⟨b,so,_⟩:=A.tk x B hB
  exact⟨ah4 b.nd so fun y hy=>(all y).mp (b.inn y hy),b.self,A.cold R f hB⟩
 ·refine so.imp_of_mem fun {u v} hu hv lt y hy hy'=>?_
  obtain ⟨x,B⟩:=u
  obtain ⟨x',B'⟩:=v
  obtain ⟨b,_,n1,_⟩:=A.tk x B (pm.mem_iff.mp hu)
  obtain ⟨b',_,n2,_⟩:=A.tk x' B' (pm.mem_iff.mp hv)
  have ym:y ∈ P.map (·.1):=(R.mem y).mpr ((all y).mp (b.inn y hy))
  obtain ⟨⟨y',q⟩,hq,rfl⟩:=bi4.mp ym
  obtain ⟨i,hi⟩:=gG hq
  exact dS.apart R b b' (fun z=>by dsimp only at lt; omega) (fun _ _ z=>absurd z n1) (fun _ _ z=>absurd z n2) i y' q hi hy hy'
end
noncomputable def dZ (W:bX):List (aB × PV):=W.map fun p=>((Sum.inl p.1:aB),PV.lst (intz p.2))
theorem aY4 (W:bX):(dZ W).map (·.1)=(aO W).map (Sum.inl:Int->aB):=by unfold dZ aO; rw [bo8,bo8]; rfl
theorem aY5 {W:bX}{h:Int}{w:List Int} (hn:h ∉ aO W):dO (dZ W) (Sum.inl h:aB) (.lst (intz w))=dZ (W ++ [(h,w)]):=by
 rw [xY (aY4 W) hn]; unfold dZ; rw [bi3]; rfl
theorem zH:∀ {W:bX}{h:Int}{w:List Int},(aO W).Nodup->(h,w) ∈ W->bM (dZ W) (Sum.inl h:aB)=some (.lst (intz w))
 | [],_,_,_,z=>by cases z
 | p :: D,h,w,nd,z=>by
  obtain ⟨n1,n2⟩:=bm6.mp (show (p.1 :: aO D).Nodup from nd)
  rcases bg8.mp z with rfl | z
  ·exact iW (p:=((Sum.inl h:aB),PV.lst (intz w))) rfl
  ·have ne:p.1 ≠ h:=fun e=>n1 (e ▸ bi4.mpr ⟨(h,w),z,rfl⟩)
   exact (iC (p:=((Sum.inl p.1:aB),PV.lst (intz p.2))) fun e=>ne (Sum.inl.inj e)).trans (zH n2 z)
theorem zI:∀ {W:bX}{h:Int},h ∉ aO W->bM (dZ W) (Sum.inl h:aB)=none
 | [],_,_=>rfl
 | p :: D,h,z=>by
  have ne:p.1 ≠ h:=fun e=>z (by rw [<- e]; exact bg7)
  exact (iC (p:=((Sum.inl p.1:aB),PV.lst (intz p.2))) fun e=>ne (Sum.inl.inj e)).trans (zI fun q=>z (bg6 _ q))
theorem aY6 {W:bX}{h:Int} (nd:(aO W).Nodup):(bM (dZ W) (Sum.inl h:aB)).isSome=decide (h ∈ aO W):=by
 by_cases z:h ∈ aO W
 ·obtain ⟨B,hB⟩:=hG.mp z
  rw [zH nd hB,bg2 z]; rfl
 ·rw [zI z,bg4 z]; rfl
theorem aY7 {W:bX}{h:Int} (nd:(aO W).Nodup):(bM (dZ W) (Sum.inl h:aB)).getD (.lst []) = .lst (intz (eI W h)):=by
 by_cases z:h ∈ aO W
 ·obtain ⟨B,hB⟩:=hG.mp z
  rw [zH nd hB,nX nd hB]; rfl
 ·rw [zI z,qA z]; rfl
noncomputable def mD (qs:bX):PV:=.tup [.tup (intz (aO qs)),.tup (tups (qs.map (·.2)))]
noncomputable def tY:bK:=fun xs Q=>∃ ws ls,xs = [b9 ws ls]/\Wb ws ls/\fX ws.length ls/\fD ws.length ls/\∀ qs,gH ws ls qs->Q (mD qs)
noncomputable def ah5:aR:=(cR (oO (bC (gR (a5 7) (qC (.int 1)))) (bC (aE0 (a5 5) (qC .non)))) (oR 8 (mY 2 (a5 4) (a5 8))) (cR (bC (p9 (a5 7) (qC (.int 0)))) (jD 3 (iQ (a7 (a5 4) (a7 (aC fQ (a7 (aC rH (a7 (a5 8) a9)) a9)) a9)))) cZ))
noncomputable def ah6:aR:=(aF (bF 6 (aC nW (a7 (a5 1) (a7 (a5 4) (a7 (a5 5) a9)))))
  (aF (bF 7 (mZ (bI (bI (a5 0) (qC (.int 0))) (a5 4)) (aC cS (a7 (cU (cT (a5 6)) [none,some 2] (bR 0) (bC (iR true (a5 0) (a5 1))) (a5 0)) a9))))
  (aF (dA 8 (gP (a7 (a5 4) a9)))
  (aF (eB (cT (a5 6)) (bR 9)
   (rG 8 (zD (a5 2) (a5 9) (gP a9))))
  ah5))))
noncomputable def ah7:aR:=(aF (bF 10 (aC zB (a7 (a5 3) a9)))
 (bP (iQ (a7 (aC fQ (a7 (cU (cT (a5 10)) [none,none] (jX 0 1) eY (a5 0)) a9)) (a7 (aC fQ (a7 (cU (cT (a5 10)) [none,none] (jX 0 1) eY (a5 1)) a9)) a9)))))
noncomputable def ah8:aR:=(aF (bF 1 (aC gV (a7 (a5 0) a9)))
 (aF (dA 2 (qC (.dK [])))
 (aF (dA 3 (gP a9))
 (aF (eB (yN (aC tV (a7 (a5 0) a9))) (jX 4 5)
  ah6)
 ah7))))
section
variable {ws : List Int} {n : Nat} {ls : List (Int × Int)} {P : g9} {W T : bX} {D : List Int} {E : jU} {h : Int} {e : Option Int} {s0 s1 y9 y10 : Option Slot}
theorem ah9 (n40:n<=40) (b:dS P W D h (eS ls W h e)) (inn:∀ y ∈ D,y ∈ rng n):(eS ls W h e).length<=n:=by
 have:=gF b.nd (m:=rng n) fun y hy=>inn y (b.inn y hy)
 rwa [cX] at this
theorem aY8 (R:Rt ws.length ls P) (f:eG ls) (n40:ws.length<=40) (A:cM ws ls P D W T) (hp:(h,e) ∈ P) (hD:h ∉ D) (dk:∀ y ∈ D,(h,some y) ∉ P) (inn:∀ y ∈ D,y ∈ rng ws.length) (tl:T.length<=D.length) (wl:W.length<=D.length) (dl:D.length<=40) {s6:Option Slot}
  (nx:∀ (W' T':bX) (y8:Option Slot),cM ws ls P (h :: D) W' T'->T'.length<=D.length+1->W'.length<=D.length+1->E.nx [s0,s1,some (.own (.dK (dZ W'))),some (.own (.lst (T'.map dM))),si h,some (.sh true (jG e)),s6,si (ws.getD h.toNat 0 - cD ls W h e),y8,y9,y10]) :
  ah5 E [s0,s1,some (.own (.dK (dZ W))),some (.own (.lst (T.map dM))),si h,some (.sh true (jG e)),s6,si (ws.getD h.toNat 0 - cD ls W h e),some (.own (.lst (intz (eS ls W h e)))),y9,y10]:=by
 have hr:h ∈ rng ws.length:=(R.mem h).mp (bi4.mpr ⟨_,hp,rfl⟩)
 have b:=tX R f A hp hD (W':=W) (fun y hy=>hy) fun _ _ _ hw _=>hw
 have bl:=ah9 n40 b fun y hy=>(bg8.mp hy).elim (fun z=>z ▸ hr) (inn y)
 have hW:h ∉ aO W:=fun z=>hD (A.wD z)
 have dE:(ws.getD h.toNat 0 - cD ls W h e=1->e=none)->(cR (bC (p9 (a5 7) (qC (.int 0)))) (jD 3 (iQ (a7 (a5 4) (a7 (aC fQ (a7 (aC rH (a7 (a5 8) a9)) a9)) a9)))) cZ) E [s0,s1,some (.own (.dK (dZ W))),some (.own (.lst (T.map dM))),si h,some (.sh true (jG e)),s6,si (ws.getD h.toNat 0 - cD ls W h e),some (.own (.lst (intz (eS ls W h e)))),y9,y10]:=fun one=>by
  refine⟨_,rfl,_,_,rfl,rfl,_,rfl,?_⟩
  by_cases l:0 < ws.getD h.toNat 0 - cD ls W h e
  ·rw [bg2 l]
   refine bE ⟨_,rfl,_,rfl,_,rfl,eS ls W h e,rfl,by omega,fun ms pm so=>?_⟩
   refine⟨⟨_,_,rfl,rfl,c6 _,by show 2<=1000; decide,?_,trivial,?_,?_⟩,fun ns z=>by cases z⟩
   ·show (true && (flats (intz ms) && true))=true
    rw [c6]; rfl
   ·rw [bg5]; omega
   ·have:=nx W (T ++ [(h,ms)]) (some (.own (.lst (intz (eS ls W h e))))) (A.take R f hp hD l one pm so) (by rw [bh6,bk5]; omega) (by omega)
    rw [bi3] at this
    exact this
  ·rw [bg4 l]
   exact bB (nx W T _ (A.lit hp R.nd (by omega)) (by omega) (by omega))
 refine⟨_,rfl,.inl ⟨_,_,rfl,rfl,_,rfl,?_⟩⟩
 show if decide (ws.getD h.toNat 0 - cD ls W h e=1)=true then _ else _
 by_cases l:ws.getD h.toNat 0 - cD ls W h e=1
 ·rw [bg2 l]
  refine bE ?_
  cases e with
  | none=>exact⟨_,rfl,rfl,_,rfl,bB (dE fun _=>rfl)⟩
  | some g=>
   refine⟨_,rfl,rfl,_,rfl,bE ?_⟩
   refine⟨_,rfl,_,rfl,dZ W,rfl,_,rfl,Sum.inl h,rfl,trivial,?_,?_⟩
   ·have:(dZ W).length=W.length:=bg5 _
    omega
   ·have:=nx (W ++ [(h,eS ls W h (some g))]) T (some (.sh true (.lst (intz (eS ls W h (some g)))))) (A.wait R f hp hD dk l) (by omega) (by rw [bh6,bk5]; omega)
    rw [<- aY5 hW] at this
    exact this
 ·rw [bg4 l]
  exact bB (bB (dE fun z=>absurd z l))
theorem aY9 (R:Rt ws.length ls P) (lk:fX ws.length ls) (n40:ws.length<=40) (A:cM ws ls P D W T) (hp:(h,e) ∈ P) (hD:h ∉ D) (dk:∀ y ∈ D,(h,some y) ∉ P) (inn:∀ y ∈ D,y ∈ rng ws.length) (tl:T.length<=D.length) (wl:W.length<=D.length) (dl:D.length<=40) {y6 y7 y8:Option Slot}
  (nx:∀ (W' T':bX) (y6 y7 y8 y9:Option Slot),cM ws ls P (h :: D) W' T'->T'.length<=D.length+1->W'.length<=D.length+1->E.nx [some (.sh true (b9 ws ls)),some (.sh true (.lst (cK ws.length ls))),some (.own (.dK (dZ W'))),some (.own (.lst (T'.map dM))),si h,some (.sh true (jG e)),y6,y7,y8,y9,y10]) :
  ah6 E [some (.sh true (b9 ws ls)),some (.sh true (.lst (cK ws.length ls))),some (.own (.dK (dZ W))),some (.own (.lst (T.map dM))),si h,some (.sh true (jG e)),y6,y7,y8,y9,y10]:=by
 have hr:=(R.mem h).mp (bi4.mpr ⟨_,hp,rfl⟩)
 have hm:=dL.mp hr
 have nl:=lk.nlen h
 have kl:(bH ls h e).length<=ws.length:=by have:=bm4 (fun x=>!decide (some x=e)) (aH ls h); unfold bH; omega
 refine⟨_,rfl,_,rfl,_,rfl,ws.length,ls,h,e,rfl,hm.1,hm.2,by omega,trivial,?_⟩
 have a1:L2.atI (intz ws) h=some (.int (ws.getD h.toNat 0)):=by
  obtain ⟨j,ej⟩:∃ j:Nat,h=j:=⟨h.toNat,by omega⟩
  rw [ej,bj8]; exact kF (by omega)
 refine⟨_,rfl,_,_,_,rfl,rfl,rfl,_,rfl,_,_,_,rfl,rfl,a1,_,rfl,intz (bH ls h e),rfl,(fun z=>by cases z),by rw [bA]; omega,fun i acc=>acc=intz (((bH ls h e).take i).filter fun c=>!decide (c ∈ aO W)),rfl,?_,?_⟩
 ·rintro i y acc hy rfl
  obtain ⟨c,rfl,hc⟩:=gD hy
  have tk:=k8 (p:=fun c=>!decide (c ∈ aO W)) hc
  refine⟨_,rfl,_,rfl,_,.inl ⟨dZ W,Sum.inl c,rfl,rfl,rfl⟩,_,rfl,?_⟩
  rw [aY6 A.ndw]
  by_cases z:c ∈ aO W
  ·rw [bg2 z]
   refine bB ?_
   dsimp only
   rw [tk,bg2 z]; exact (bk4 _).symm ▸ rfl
  ·rw [bg4 z]
   refine bE ⟨_,rfl,trivial,?_⟩
   dsimp only
   rw [tk,bg4 z,fS]; rfl
 rintro acc rfl
 rw [bA,bj3 (bg9 _)]
 refine⟨_,_,rfl,rfl,_,_,rfl,rfl,trivial,?_⟩
 rw [bA]
 refine⟨_,rfl,by show 1<=1000; decide,rfl,rfl,rfl,?_⟩
 refine⟨_,rfl,intz (bH ls h e),rfl,(fun z=>by cases z),fun i ρ=>∃ y9:Option Slot,ρ = [some (.sh true (b9 ws ls)),some (.sh true (.lst (cK ws.length ls))),some (.own (.dK (dZ W))),some (.own (.lst (T.map dM))),si h,some (.sh true (jG e)),some (.sh true (.lst (intz (bH ls h e)))),si (ws.getD h.toNat 0 - cD ls W h e),some (.own (.lst (intz (h :: ((bH ls h e).take i).flatMap (eI W))))),y9,y10],⟨y9,rfl⟩,?_,?_⟩
 ·rintro i y ρ hy ⟨y9,rfl⟩
  obtain ⟨c,rfl,hc⟩:=gD hy
  refine l8 ?_
  have b:=tX R lk.fit A hp hD (W':=W) (fun y hy=>hy) fun _ _ _ hw _=>hw
  have bl:=ah9 n40 b fun y hy=>(bg8.mp hy).elim (fun z=>z ▸ hr) (inn y)
  have l1:((h :: ((bH ls h e).take i).flatMap (eI W)) ++ eI W c).length<=(eS ls W h e).length:=by
   have e0:(bH ls h e)=(bH ls h e).take i ++ c :: (bH ls h e).drop (i+1):=by
    obtain ⟨il,ec⟩:=bh2.mp hc
    rw [<- ec,<- br3 il,bk0]
   unfold eS
   rw [show (bH ls h e).flatMap (eI W)=((bH ls h e).take i).flatMap (eI W) ++ (eI W c ++ ((bH ls h e).drop (i+1)).flatMap (eI W)) by conv=>lhs; rw [e0]; rw [List.flatMap_append,List.flatMap_cons]]
   simp only [bh6,bi9]
   omega
  rw [bh6] at l1
  refine⟨_,rfl,_,rfl,dZ W,rfl,_,rfl,by show 0<=1000; decide,rfl,Sum.inl c,rfl,?_⟩
  rw [show ([]:List (PV × Tg)).map (·.1) = [] from rfl,aY7 A.ndw]
  refine⟨intz (eI W c),.inr rfl,.inr (c6 _),by rw [bA,bA]; omega,si c,?_⟩
  rw [bn6,hc,List.flatMap_append]
  show _ = [_,_,_,_,_,_,_,_,some (Slot.own (.lst (intz (h :: (((bH ls h e).take i).flatMap (eI W) ++ [c].flatMap (eI W)))))),_,_]
  rw [show [c].flatMap (eI W)=eI W c from by simp,<- List.cons_append,fS]
  rfl
 ·rintro ρ ⟨y9,rfl⟩
  rw [bA,bj3 (bg9 _)]
  exact aY8 R lk.fit n40 A hp hD dk inn tl wl dl fun W' T' y8 a b c=>nx W' T' _ _ y8 y9 a b c
theorem ai0 {qs:bX}{i:Nat}{y:PV} (h:(qs.map dM)[i]? = some y):∃ q,qs[i]? = some q/\y = .tup [.int q.1,.tup (intz q.2)]:=by
 rw [bh5] at h
 cases e:qs[i]? with
 | none=>rw [e] at h; cases h
 | some q=>rw [e] at h; exact⟨q,rfl,(bj0 h).symm⟩
theorem aZ0 {Q:PV->Prop}{s0 s1 s2 y4 y5 y6 y7 y8:Option Slot} (tl:T.length<=1000) (nd:(aO T).Nodup) (q:∀ qs:bX,qs.Perm T->qs.Pairwise (fun u v=>u.1 < v.1)->Q (mD qs)) :
  ah7 { nx:=fun _=>Q .non,rt:=Q } [s0,s1,s2,some (.own (.lst (T.map dM))),y4,y5,y6,y7,y8,y9,none]:=by
 refine⟨_,rfl,T,rfl,by omega,nd,fun qs pm so=>⟨trivial,?_⟩⟩
 have ql:=pm.length_eq
 refine⟨_,rfl,qs.map dM,rfl,(fun z=>by cases z),by rw [bg5]; omega,fun i acc=>acc=intz (aO (qs.take i)),rfl,?_,?_⟩
 ·rintro i y acc hy rfl
  obtain ⟨p,hp,rfl⟩:=ai0 hy
  refine⟨_,_,rfl,_,rfl,trivial,?_⟩
  dsimp only
  unfold aO
  rw [bn6,hp,bi3,fS]; rfl
 rintro acc rfl
 rw [bg5,bj3 (bg9 _)]
 refine⟨⟨_,_,rfl,rfl,c6 _,?_⟩,fun ns z=>by cases z⟩
 refine⟨_,rfl,qs.map dM,rfl,(fun z=>by cases z),by rw [bg5]; omega,fun i acc=>acc=tups ((qs.take i).map (·.2)),rfl,?_,?_⟩
 ·rintro i y acc hy rfl
  obtain ⟨p,hp,rfl⟩:=ai0 hy
  refine⟨_,_,rfl,_,rfl,by show Nw (Slot.sh (false || flats (intz p.2)) (.tup (intz p.2))).tag _; rw [c6]; trivial,?_⟩
  dsimp only
  unfold tups
  rw [bn6,hp,bi3,bi3]; rfl
 rintro acc rfl
 rw [bg5,bj3 (bg9 _)]
 refine⟨⟨_,_,rfl,rfl,nK _,by show 2<=1000; decide,?_,trivial,q qs pm so⟩,fun ns z=>by cases z⟩
 show (flats (intz (aO qs)) && (flats (tups (qs.map (·.2))) && true))=true
 rw [c6,nK]; rfl
end
theorem aZ1:cC ah8 ["web","around","waiting","taken","hearth","elder","children","lacking","block","child","pairs"] tY:=by
 rintro xs Q ⟨ws,ls,rfl,wb,lk,w,q⟩
 have few:=wb.few
 refine⟨_,rfl,ws,ls,rfl,wb,trivial,?_⟩
 refine⟨rfl,rfl,?_⟩
 refine⟨by decide,rfl,rfl,rfl,?_⟩
 refine⟨_,rfl,ws,ls,rfl,wb,lk,w,fun P R=>?_⟩
 have pl:P.length<=ws.length:=by
  have:=gF R.nd (m:=rng ws.length) fun x hx=>(R.mem x).mp hx
  rwa [bg5,cX] at this
 have e0:(Slot.sh (flat (b9 ws ls)) (b9 ws ls)) = .sh true (b9 ws ls):=by rw [xI]
 refine⟨fE P,rfl,(fun z=>by cases z),fun i ρ=>∃ (W T:bX) (D:List Int) (y4 y5 y6 y7 y8 y9:Option Slot),ρ = [some (.sh true (b9 ws ls)),some (.sh true (.lst (cK ws.length ls))),some (.own (.dK (dZ W))),some (.own (.lst (T.map dM))),y4,y5,y6,y7,y8,y9,none]/\cM ws ls P D W T/\(∀ y,y ∈ D ↔ ∃ (j:Nat) (q:Option Int),P[j]? = some (y,q)/\P.length<=j+i)/\D.length=i/\T.length<=i/\W.length<=i,?_,?_,?_⟩
 ·refine⟨[],[],[],none,none,none,none,none,none,?_,⟨(fun _ _ z=>by cases z),(fun _ _ z=>by cases z),(fun _ _ _ z=>by cases z),bp2,bp2⟩,fun y=>⟨(fun z=>by cases z),fun ⟨j,q,hj,hl⟩=>?_⟩,rfl,bg9 _,bg9 _⟩
  ·show [some (Slot.sh (flat (b9 ws ls)) (b9 ws ls)),_,_,_,_,_,_,_,_,_,_]=_
   rw [e0]; rfl
  ·have:=(bh2.mp hj).1; omega
 ·rintro i y ρ hy ⟨W,T,D,y4,y5,y6,y7,y8,y9,rfl,A,dm,dl,tl,wl⟩
  have il:i < P.length:=by have:=(bh2.mp hy).1; rwa [List.length_reverse,mC] at this
  rw [List.getElem?_reverse (by rw [mC]; exact il),mC] at hy
  unfold fE at hy
  rw [bh5] at hy
  obtain ⟨⟨h,e⟩,hk⟩:∃ p,P[P.length - 1 - i]? = some p:=⟨_,bg3 (by omega)⟩
  rw [hk] at hy
  cases hy
  have hD:h ∉ D:=fun z=>by
   obtain ⟨j,q,hj,hl⟩:=(dm h).mp z
   have:=(kH R.nd hj hk).1
   omega
  have dk:∀ y ∈ D,(h,some y) ∉ P:=fun y hy z=>by
   obtain ⟨j,q,hj,hl⟩:=(dm y).mp hy
   cases m9 R.nd z (bh9 hk)
   obtain ⟨j',q',jk,hj',_⟩:=R.par _ h y hk
   have:=(kH R.nd hj hj').1
   omega
  have inn:∀ y ∈ D,y ∈ rng ws.length:=fun y hy=>by
   obtain ⟨j,q,hj,hl⟩:=(dm y).mp hy
   exact (R.mem y).mp (bi4.mpr ⟨_,bh9 hj,rfl⟩)
  refine⟨_,_,rfl,?_⟩
  refine aY9 R lk few A (bh9 hk) hD dk inn (by omega) (by omega) (by omega) fun W' T' y6 y7 y8 y9 A' tl' wl'=>⟨W',T',h :: D,si h,some (.sh true (jG e)),y6,y7,y8,y9,rfl,A',fun y=>⟨fun z=>?_,fun ⟨j,q,hj,hl⟩=>?_⟩,by rw [bi9,dl],by omega,by omega⟩
  ·rcases bg8.mp z with z | z
   ·rw [z]; exact⟨_,e,hk,by omega⟩
   ·obtain ⟨j,q,hj,hl⟩:=(dm y).mp z
    exact⟨j,q,hj,by omega⟩
  ·by_cases ej:j=P.length - 1 - i
   ·subst ej
    rw [hk] at hj
    cases hj
    exact bg7
   ·exact bg6 _ ((dm y).mpr ⟨j,q,hj,by omega⟩)
 ·rintro ρ ⟨W,T,D,y4,y5,y6,y7,y8,y9,rfl,A,dm,dl,tl,wl⟩
  rw [List.length_reverse,mC] at dm dl tl wl
  refine aZ0 (by omega) A.ndt fun qs pm so=>q qs (A.paper R lk.fit (fun h=>?_) pm so)
  rw [dm h,<- R.mem h]
  constructor
  ·rintro ⟨j,q,hj,_⟩; exact bi4.mpr ⟨_,bh9 hj,rfl⟩
  ·intro z
   obtain ⟨⟨h',q⟩,hp,rfl⟩:=bi4.mp z
   obtain ⟨j,hj⟩:=gG hp
   exact⟨j,q,hj,by omega⟩
noncomputable def lC (ws:List Int) (ls:List (Int × Int)):List (List Int)->List Int->Bool
 | [],_=>true
 | b :: r,M=>!decide (b = []) && aW ws.length b && decide (stay ws ls b=b) && decide ((b.filter fun x=>decide (x ∈ M)) = []) && lC ws ls r (M ++ b)
noncomputable def tZ:bK:=fun xs Q=>∃ (ws:List Int) (ls:List (Int × Int)) (bs:List (List Int)),xs = [b9 ws ls,.tup (tups bs)]/\Wb ws ls/\bs.length<=1000/\(∀ b ∈ bs,b.length<=1000)/\Q (.bl (lC ws ls bs []))
noncomputable def ai1:aR:=(aF (dA 2 (qC (.dK [])))
 (aF (eB (cT (a5 1)) (bR 3)
  (aF (cR (lQ (bC (gR (aC cS (a7 (a5 3) a9)) (qC (.int 0)))) (lQ (iP (bC (aC l6 (a7 (a5 0) (a7 (a5 3) a9))))) (lQ (iP (bC (aC (t6 fun _=>False) (a7 (a5 0) (a7 (a5 3) a9))))) (bC (p9 (aC l7 (a7 (a5 3) (a7 (a5 2) a9))) (qC (.int 0))))))) (bP (qC (.bl false))) cZ)
  (rN 2 (aC gU (a7 (a5 3) a9)))))
 (bP (qC (.bl true)))))
theorem zJ {bs:List (List Int)}{i:Nat}{y:PV} (h:(tups bs)[i]? = some y):∃ b,bs[i]? = some b/\y = .tup (intz b):=by
 unfold tups at h
 rw [bh5] at h
 cases e:bs[i]? with
 | none=>rw [e] at h; cases h
 | some b=>rw [e] at h; exact⟨b,rfl,(bj0 h).symm⟩
theorem zK {i:Nat}{b:List Int}{g:Bool}{ρ:bO}{Q:bO->Prop} (q:Q (ρ.set i (some (.sh true (.tup (intz b)))))):bR i (.tup (intz b)) g ρ Q:=by
 show Q (ρ.set i (some (.sh (g || flats (intz b)) (.tup (intz b)))))
 rw [c6,Bool.or_true]; exact q
theorem aZ2:cC ai1 ["web","blocks","met","block"] tZ:=by
 rintro xs Q ⟨ws,ls,bs,rfl,wb,bl,bb,q⟩
 have few:=wb.few
 refine⟨rfl,rfl,?_⟩
 refine⟨_,rfl,tups bs,rfl,?_,fun i ρ=>∃ (ps:List (aB × PV)) (M:List Int) (y3:Option Slot),ρ = [some (.sh true (b9 ws ls)),some (.sh true (.tup (tups bs))),some (.own (.dK ps)),y3]/\DS ps M/\M.length<=40 * i/\Q (.bl (lC ws ls (bs.drop i) M)),⟨[],[],none,?_,DS.nil,bl0 _,q⟩,?_,?_⟩
 ·intro z
  show flats (tups bs)=true
  exact nK bs
 ·show [some (Slot.sh (flat (b9 ws ls)) (b9 ws ls)),some (Slot.sh (flats (tups bs)) (.tup (tups bs))),_,_]=_
  rw [xI,nK]
 ·rintro i y ρ hy ⟨ps,M,y3,rfl,ds,ml,q⟩
  obtain ⟨b,hb,rfl⟩:=zJ hy
  have il:=(bh2.mp hb).1
  have hbl:=bb b (bh9 hb)
  refine zK ?_
  have e0:bs.drop i=b :: bs.drop (i+1):=by
   obtain ⟨il,ec⟩:=bh2.mp hb
   rw [<- ec,<- br3 il]
  rw [e0] at q
  unfold lC at q
  refine⟨_,rfl,_,_,rfl,rfl,.inl ⟨_,_,rfl,rfl,_,rfl,?_⟩⟩
  rw [bA]
  show if decide ((b.length:Int)=0)=true then _ else _
  by_cases h1:b = []
  ·rw [bg2 h1] at q
   rw [bg2 (by rw [h1]; rfl)]
   exact bE ⟨trivial,q⟩
  ·have hl0:b.length ≠ 0:=fun z=>h1 (List.length_eq_zero_iff.mp z)
   rw [bg4 (by omega)]
   rw [bg4 h1] at q
   refine bB ⟨_,rfl,_,rfl,ws,ls,_,b,rfl,.inl rfl,hbl,_,rfl,?_⟩
   cases h2:aW ws.length b with
   | false=>
    rw [h2] at q
    exact bE ⟨trivial,q⟩
   | true=>
    rw [h2] at q
    have bn:=iX h2
    refine bB ⟨_,rfl,_,rfl,ws,ls,_,b,rfl,wb,.inl rfl,hbl,fun _=>?_,fun z=>by rw [h2] at z; cases z⟩
    refine⟨_,rfl,?_⟩
    by_cases h3:stay ws ls b=b
    ·rw [bg2 h3] at q ⊢
     refine bB ⟨_,rfl,_,rfl,_,b,ps,M,rfl,.inl rfl,ds,by omega,_,_,rfl,rfl,_,rfl,?_⟩
     by_cases h4:(b.filter fun x=>decide (x ∈ M)) = []
     ·rw [h4]
      rw [bg2 h4] at q
      refine bB ⟨ps,rfl,_,rfl,_,b,rfl,.inl rfl,hbl,fun mp dm=>⟨mp,rfl,.inl rfl,?_,iA ps mp,M ++ b,_,rfl,ds.merge dm,by rw [bh6]; omega,q⟩⟩
      have:=ds.len
      have:=dm.len
      omega
     ·have:(b.filter fun x=>decide (x ∈ M)).length ≠ 0:=fun z=>h4 (List.length_eq_zero_iff.mp z)
      rw [bg2 (by omega)]
      rw [bg4 h4] at q
      exact bE ⟨trivial,by simpa using q⟩
    ·rw [bg4 h3] at q ⊢
     exact bE (bE ⟨trivial,q⟩)
 ·rintro ρ ⟨ps,M,y3,rfl,ds,ml,q⟩
  rw [k9,List.drop_eq_nil_of_le (bg9 _)] at q
  exact⟨trivial,q⟩
noncomputable def qB (ws:List Int) (ls:List (Int × Int)) (ss:List Int) (bs:List (List Int)):Bool:=aW ws.length ss && gY ws ls ss && decide (bs.length=ss.length) && lC ws ls bs []
noncomputable def u5:eQ:=fun Ep xs Q=>∃ (ws:List Int) (ls:List (Int × Int)) (ss:List Int) (bs:List (List Int)),xs = [b9 ws ls,.tup [.tup (intz ss),.tup (tups bs)]]/\Wb ws ls/\ss.length<=1000/\bs.length<=1000/\(∀ b ∈ bs,b.length<=1000)/\(qB ws ls ss bs=true->Q (.int ss.length))/\(qB ws ls ss bs=false->Ep "NoPaper")
noncomputable def zL (Ep:Str->Prop):aR:=(aF (bF 2 (bI (a5 1) (qC (.int 0))))
 (aF (bF 3 (bI (a5 1) (qC (.int 1))))
 (aF (cR (lQ (iP (bC (aC l6 (a7 (a5 0) (a7 (a5 2) a9))))) (iP (bC (kD Ep tE (a7 (a5 0) (a7 (a5 2) a9)))))) (pU Ep "NoPaper" (a7 (qC (.str "the seeds do not light the web")) a9)) cZ)
 (aF (cR (lQ (bC (qNe (aC cS (a7 (a5 3) a9)) (aC cS (a7 (a5 2) a9)))) (iP (bC (aC tZ (a7 (a5 0) (a7 (a5 3) a9)))))) (pU Ep "NoPaper" (a7 (qC (.str "there are not as many cold blocks that stand apart as seeds")) a9)) cZ)
 (bP (aC cS (a7 (a5 2) a9)))))))
theorem aZ3:lA zL ["web","paper","seeds","blocks"] u5:=by
 rintro Ep xs Q ⟨ws,ls,ss,bs,rfl,wb,sl,bl,bb,q,qe⟩
 have few:=wb.few
 have ef:flat (.tup [.tup (intz ss),.tup (tups bs)])=true:=by
  show (flats (intz ss) && (flats (tups bs) && true))=true
  rw [c6,nK]; rfl
 show zL Ep _ [some (.sh (flat (b9 ws ls)) (b9 ws ls)),some (.sh (flat (.tup [.tup (intz ss),.tup (tups bs)])) (.tup [.tup (intz ss),.tup (tups bs)])),none,none]
 rw [xI,ef]
 refine⟨_,rfl,_,_,_,rfl,rfl,rfl,trivial,?_⟩
 refine⟨_,rfl,_,_,_,rfl,rfl,rfl,trivial,?_⟩
 unfold qB at q qe
 refine⟨_,rfl,_,rfl,ws,ls,_,ss,rfl,.inl rfl,sl,_,rfl,?_⟩
 cases h1:aW ws.length ss with
 | false=>
  rw [h1] at qe
  exact bE (bE ⟨by decide,qe rfl⟩)
 | true=>
  rw [h1] at q qe
  refine bB ⟨_,rfl,_,rfl,ws,ls,_,ss,rfl,wb,.inl rfl,sl,fun _ m en=>?_,fun z=>by rw [h1] at z; cases z⟩
  rw [<- aT5 h1 en]
  refine⟨_,rfl,?_⟩
  cases h2:gY ws ls ss with
  | false=>
   rw [h2] at qe
   exact bE ⟨by decide,qe rfl⟩
  | true=>
   rw [h2] at q qe
   refine bB ?_
   refine⟨_,rfl,_,_,rfl,rfl,_,rfl,_,_,rfl,rfl,.inl ⟨_,_,rfl,rfl,_,rfl,?_⟩⟩
   rw [k9,bA]
   show if (!decide ((bs.length:Int)=(ss.length:Int)))=true then _ else _
   by_cases h3:bs.length=ss.length
   ·rw [bg2 h3] at q qe
    rw [bg2 (by omega)]
    refine bB ⟨_,rfl,_,rfl,ws,ls,bs,rfl,wb,bl,bb,_,rfl,?_⟩
    cases h4:lC ws ls bs [] with
    | false=>
     rw [h4] at qe
     exact bE ⟨by decide,qe rfl⟩
    | true=>
     rw [h4] at q
     refine bB ⟨_,rfl,_,_,rfl,rfl,trivial,?_⟩
     rw [bA]
     exact q rfl
   ·rw [bg4 h3] at qe
    rw [bg4 (by omega)]
    exact bE (bE ⟨by decide,qe rfl⟩)
theorem gH.stand {ws:List Int}{ls:List (Int × Int)}:∀ {qs:bX}{M:List Int},(∀ q ∈ qs,aW ws.length q.2=true/\q.1 ∈ q.2/\stay ws ls q.2=q.2)->qs.Pairwise (fun a b=>∀ x ∈ a.2,x ∉ b.2)->(∀ q ∈ qs,∀ x ∈ q.2,x ∉ M)->lC ws ls (qs.map (·.2)) M=true
 | [],_,_,_,_=>rfl
 | q :: qs,M,s,p,m=>by
  obtain ⟨s1,s2,s3⟩:=s q bg7
  obtain ⟨p1,p2⟩:=bq8.mp p
  rw [bl3]
  unfold lC
  rw [bg4 (fun z=>by rw [z] at s2; cases s2),s1,bg2 s3,bg2 (br2.mpr fun x hx=>by rw [bg4 (m q bg7 x hx)]; decide)]
  rw [gH.stand (fun r hr=>s r (bg6 _ hr)) p2 fun r hr x hx z=>?_]
  ·rfl
  ·rcases bh4.mp z with z | z
   ·exact m r (bg6 _ hr) x hx z
   ·exact p1 r hr x z hx
theorem gH.ok {ws:List Int}{ls:List (Int × Int)}{qs:bX} (A:gH ws ls qs):qB ws ls (aO qs) (qs.map (·.2))=true:=by
 unfold qB
 have e:(qs.map (·.2)).length=(aO qs).length:=by unfold aO; rw [bg5,bg5]
 rw [A.seeds,A.lit,gH.stand A.sets A.apart (fun _ _ _ _ z=>by cases z),bg2 e]; rfl
theorem gH.len {ws:List Int}{ls:List (Int × Int)}{qs:bX} (A:gH ws ls qs):qs.length<=ws.length:=by
 have:=iX A.seeds
 unfold aO at this
 rwa [bg5] at this
noncomputable abbrev u6:bK:=ag3 40
noncomputable abbrev ai2:aR:=ag9
theorem aZ4:cC ai2 ["script","most","many","digits","links","counts","cells","k","number","elder","places","wants","pairs"] u6:=aY2 (by decide)
section
variable {ws : List Int} {ls : List (Int × Int)} {B S : List Int} {qs : bX}
theorem aZ5 (st:stay ws ls B=B):fU ws ls (jH ws.length B):=fun h hh=>by
 unfold kin
 by_cases z:h ∈ B
 ·have s1:l9 ws ls B h=true:=by
   have:=bq3.mp st h z
   exact this
  unfold l9 at s1
  have s2:=bl6 s1
  unfold pT at s2
  have e:=tS (fun _:Int=>true) (fun z=>decide (z ∈ B)) (aH ls h)
  rw [bq3.mpr fun _ _=>rfl] at e
  have c:((aH ls h).filter fun x=>decide (x ∈ B) && true)=(aH ls h).filter fun x=>decide (x ∈ B):=br7 fun x _=>bu6 _
  rw [c] at e
  have d:((aH ls h).filter fun x=>decide (x ∈ jH ws.length B)).length<=((aH ls h).filter fun x=>true && !decide (x ∈ B)).length:=by
   refine List.Sublist.length_le ?_
   have:((aH ls h).filter fun x=>decide (x ∈ jH ws.length B))=(((aH ls h).filter fun x=>true && !decide (x ∈ B)).filter fun x=>decide (x ∈ jH ws.length B)):=by
    rw [List.filter_filter]
    refine br7 fun x _=>?_
    unfold jH
    rw [bl8]
    simp only [bk2,bh8,bj9,bw5,bk9,Bool.true_and]
    exact⟨fun z=>⟨z,z.2⟩,fun z=>z.1⟩
   rw [this]
   exact List.filter_sublist
  rw [Bool.and_eq_false_iff]
  exact .inr (bg4 (by omega))
 ·have:h ∈ jH ws.length B:=bh8.mpr ⟨hh,by rw [bg4 z]; rfl⟩
  rw [bg2 this]; rfl
theorem aZ6 (st:stay ws ls B=B) {x:Int} (hx:x ∈ B) (xr:x ∈ rng ws.length) (f:gY ws ls S=true) (sub:∀ s ∈ S,s ∈ rng ws.length):∃ y ∈ B,y ∈ S:=by
 refine bl5 fun no=>?_
 have:=pY.mp f (jH ws.length B) (aZ5 st) (fun s hs=>bh8.mpr ⟨sub s hs,by rw [bg4 fun z=>no ⟨s,z,hs⟩]; rfl⟩) x xr
 have:=(bh8.mp this).2
 rw [bg2 hx] at this
 cases this
theorem ai3:∀ {qs:bX},qs.Pairwise (fun a b=>∀ x ∈ a.2,x ∉ b.2)->(∀ q ∈ qs,∃ y ∈ q.2,y ∈ S)->∃ L:List Int,L.Nodup/\L.length=qs.length/\∀ x ∈ L,x ∈ S/\∃ q ∈ qs,x ∈ q.2
 | [],_,_=>⟨[],bp2,rfl,fun _ z=>by cases z⟩
 | q :: qs,p,m=>by
  obtain ⟨p1,p2⟩:=bq8.mp p
  obtain ⟨L,l1,l2,l3⟩:=ai3 p2 fun r hr=>m r (bg6 _ hr)
  obtain ⟨y,hy,hs⟩:=m q bg7
  refine⟨y :: L,bm6.mpr ⟨fun z=>?_,l1⟩,by rw [bi9,bi9,l2],fun x hx=>?_⟩
  ·obtain ⟨_,r,hr,hx⟩:=l3 y z
   exact p1 r hr y hy hx
  ·rcases bg8.mp hx with z | z
   ·rw [z]; exact⟨hs,q,bg7,hy⟩
   ·obtain ⟨a,r,hr,hx⟩:=l3 x z
    exact⟨a,r,bg6 _ hr,hx⟩
theorem gH.met (A:gH ws ls qs) (hS:aW ws.length S=true) (f:gY ws ls S=true):∀ q ∈ qs,∃ y ∈ q.2,y ∈ S:=fun q hq=>by
 obtain ⟨s1,s2,s3⟩:=A.sets q hq
 exact aZ6 s3 s2 (dL.mpr ((cL s1).2 _ s2)) f fun s hs=>dL.mpr ((cL hS).2 s hs)
theorem gH.few (A:gH ws ls qs) (hS:aW ws.length S=true) (f:gY ws ls S=true):qs.length<=S.length:=by
 obtain ⟨L,l1,l2,l3⟩:=ai3 A.apart (A.met hS f)
 rw [<- l2]
 exact gF l1 fun x hx=>(l3 x hx).1
end
noncomputable def zM:bK:=Y8
noncomputable def ai4:aR:=(cR (bC (aC tO (a7 (a5 1) (a7 (a5 7) a9)))) (aF (cR (bC (p6 (aC cS (a7 (a5 7) a9)) (a5 4))) (bP (qC (.bl false))) cZ)
   (eB (cT (bI (a5 3) (qC (.int 1)))) (bR 8)
    (cR (bC (gR (aC cS (a7 (cU (cT (a5 8)) [none,some 7] (bR 0) (bC (q2 (oX false) (a5 0) (a5 1))) (a5 0)) a9)) (qC (.int 0)))) (bP (qC (.bl false))) cZ))) cZ)
noncomputable def ai5:aR:=(aF (bF 1 (aC u6 (a7 (a5 0) (a7 (qC (.int 30)) a9))))
 (aF (bF 2 (aC cS (a7 (bI (a5 1) (qC (.int 0))) a9)))
 (aF (bF 3 (aC tY (a7 (a5 1) a9)))
 (aF (bF 4 (aC (u5 fun _=>False) (a7 (a5 1) (a7 (a5 3) a9))))
 (aF (dA 5 (gP (a7 (ac7 (a5 2)) a9)))
 (aF (eB (cT (wG (a5 0) (oZ (qC (.int 2))) (oZ (qC (.int 62))))) (bR 6)
  (jD 5 (aC tP (a7 (a5 6) (a7 (a5 2) a9)))))
 (aF (oR 5 (eB (cT (a5 5)) (bR 7)
  ai4))
 (bP (qC (.bl true))))))))))
section
variable {ws : List Int} {ls : List (Int × Int)} {qs : bX} {S : List Int} {E : jU} {s0 s2 s5 s6 y8 : Option Slot}
theorem aZ7 (wb:Wb ws ls) (A:gH ws ls qs) (hS:aW ws.length S=true) (nx:∀ y8,E.nx [s0,some (.sh true (b9 ws ls)),s2,some (.sh true (mD qs)),si qs.length,s5,s6,some (.sh true (.tup (intz S))),y8]) :
  ai4 E [s0,some (.sh true (b9 ws ls)),s2,some (.sh true (mD qs)),si qs.length,s5,s6,some (.sh true (.tup (intz S))),y8]:=by
 have few:=wb.few
 have sl:=iX hS
 refine⟨_,rfl,_,rfl,ws,ls,_,S,rfl,wb,.inl rfl,fun x hx=>dL.mpr ((cL hS).2 x hx),_,rfl,?_⟩
 cases f:gY ws ls S with
 | false=>exact bB (nx _)
 | true=>
  have fw:=A.few hS f
  refine bE ⟨_,rfl,_,_,rfl,rfl,_,rfl,_,_,rfl,rfl,_,rfl,?_⟩
  rw [bA,bg4 (by omega)]
  refine bB ?_
  refine⟨_,rfl,_,_,_,rfl,rfl,rfl,tups (qs.map (·.2)),rfl,(fun z=>by cases z),fun i ρ=>∃ y8,ρ = [s0,some (.sh true (b9 ws ls)),s2,some (.sh true (mD qs)),si qs.length,s5,s6,some (.sh true (.tup (intz S))),y8],⟨_,rfl⟩,?_,?_⟩
  ·rintro i y ρ hy ⟨y8,rfl⟩
   obtain ⟨b,hb,rfl⟩:=zJ hy
   rw [bh5] at hb
   cases hq:qs[i]? with
   | none=>rw [hq] at hb; cases hb
   | some p=>
    rw [hq] at hb
    cases hb
    have pm:=bh9 hq
    obtain ⟨x,xb,xs⟩:=A.met hS f p pm
    have pl:=iX (A.sets p pm).1
    refine zK ?_
    refine⟨_,rfl,intz p.2,rfl,(fun z=>by cases z),by rw [bA]; omega,fun j acc=>acc=intz ((p.2.take j).filter fun x=>decide (x ∈ S)),rfl,?_,?_⟩
    ·rintro j z acc hz rfl
     obtain ⟨n,rfl,hn⟩:=gD hz
     have tk:=k8 (p:=fun z=>decide (z ∈ S)) hn
     refine⟨_,rfl,_,rfl,n,S,rfl,rfl,_,rfl,?_⟩
     show if decide (n ∈ S)=true then _ else _
     cases hm:decide (n ∈ S) with
     | true=>
      rw [hm] at tk
      refine bE ⟨_,rfl,trivial,?_⟩
      dsimp only
      rw [tk,fS]; rfl
     | false=>
      rw [hm] at tk
      refine bB ?_
      dsimp only
      rw [tk]; exact (bk4 _).symm ▸ rfl
    ·rintro acc rfl
     rw [bA,bj3 (bg9 _)]
     refine⟨_,_,rfl,rfl,.inl ⟨_,_,rfl,rfl,_,rfl,?_⟩⟩
     have ne:(p.2.filter fun x=>decide (x ∈ S)).length ≠ 0:=fun z=>by
      have:=List.length_eq_zero_iff.mp z
      have:=br2.mp this x xb
      rw [bg2 xs] at this
      exact this rfl
     rw [bA]
     show if decide (((p.2.filter fun x=>decide (x ∈ S)).length:Int)=0)=true then _ else _
     rw [bg4 (by omega)]
     exact bB ⟨_,rfl⟩
  ·rintro ρ ⟨y8,rfl⟩
   exact nx y8
end
theorem aZ8:cC ai5 ["script","web","many","paper","fewest","tried","cell","seeds","block"] zM:=by
 rintro xs Q ⟨ns,rfl,hl,q⟩
 refine⟨_,rfl,ns,30,rfl,hl,by decide,by decide,fun n ws ls n1 w lk wd=>⟨trivial,?_⟩⟩
 have wl:=w.many
 have wb:Wb ws ls:=w.wb (by omega)
 have en:ws.length=n:=by omega
 subst en
 have few:=wb.few
 refine⟨_,rfl,_,_,_,rfl,rfl,rfl,_,_,rfl,rfl,trivial,?_⟩
 rw [bA]
 refine⟨_,rfl,ws,ls,rfl,wb,lk,wd,fun qs A=>⟨trivial,?_⟩⟩
 have al:=A.len
 have kl:(aO qs).length=qs.length:=by unfold aO; rw [bg5]
 refine⟨_,rfl,_,rfl,ws,ls,aO qs,qs.map (·.2),rfl,wb,by omega,by rw [bg5]; omega,fun b hb=>?_,fun _=>⟨trivial,?_⟩,fun z=>by rw [A.ok] at z; cases z⟩
 ·obtain ⟨p,hp,rfl⟩:=bi4.mp hb
  have:=iX (A.sets p hp).1
  omega
 rw [kl]
 refine⟨_,rfl,ws.length,rfl,by omega,by omega,by show 1<=1000; decide,?_,rfl,?_,?_⟩
 ·show (flats (dW 0 (ws.length:Int).toNat) && true)=true
  rw [q0,c6]; rfl
 ·show (flats (dW 0 (ws.length:Int).toNat) && true)=true
  rw [q0,c6]; rfl
 show (aF _ _) _ [_,_,_,_,_,some (Slot.own (.lst [.tup (dW 0 (ws.length:Int).toNat)])),_,_,_]
 rw [q0,bj8]
 obtain ⟨zs,ez,zl⟩:=vJ ns (some 2) (some 62)
 refine⟨_,rfl,_,rfl,_,rfl,_,rfl,c6 _,intz zs,by show some (kS (intz ns) (some 2) (some 62))=_; rw [ez],(fun z=>by cases z),fun i ρ=>∃ (Ss:List (List Int)) (y6:Option Slot),ρ = [some (.sh true (.scr ns)),some (.sh true (b9 ws ls)),si ws.length,some (.sh true (mD qs)),si qs.length,some (.own (.lst (tups Ss))),y6,none,none]/\(∀ S ∈ Ss,aW ws.length S=true)/\Ss.length<=i+1,⟨[rng ws.length],none,rfl,fun S hS=>by rw [bh1.mp hS]; exact kG _,bg9 _⟩,?_,?_⟩
 ·rintro i y ρ hy ⟨Ss,y6,rfl,ok,sl⟩
  obtain ⟨c,rfl,hc⟩:=gD hy
  have il:=(bh2.mp hc).1
  refine l8 ?_
  refine⟨_,rfl,_,rfl,_,rfl,c,ws.length,rfl,by omega,fun S hS=>⟨trivial,by rw [k9]; omega,Ss ++ [S],si c,?_,fun T hT=>?_,by rw [bh6,bk5]; omega⟩⟩
  ·unfold tups; rw [bi3]; rfl
  ·rcases bh4.mp hT with z | z
   ·exact ok T z
   ·rw [bh1.mp z]; exact hS
 rintro ρ ⟨Ss,y6,rfl,ok,sl⟩
 refine⟨_,rfl,_,rfl,tups Ss,rfl,(fun z=>by cases z),fun i ρ=>∃ (y7 y8:Option Slot),ρ = [some (.sh true (.scr ns)),some (.sh true (b9 ws ls)),si ws.length,some (.sh true (mD qs)),si qs.length,some (.sh true (.lst (tups Ss))),y6,y7,y8],⟨none,none,rfl⟩,?_,?_⟩
 ·rintro i y ρ hy ⟨y7,y8,rfl⟩
  obtain ⟨S,hS,rfl⟩:=zJ hy
  refine zK ?_
  exact aZ7 wb A (ok S (bh9 hS)) fun y8=>⟨_,y8,rfl⟩
 ·rintro ρ ⟨y7,y8,rfl⟩
  exact⟨trivial,q⟩
end Core
namespace K_k51
open PySem PySem.W L2 PP Core
theorem _root_.L2.FnScope.au {N P:List Str}{s:Scope} (a:s.kind=.function:=by rfl) (b:s.isCoroutine=false:=by rfl) (c:s.isGenerator=false:=by rfl) (d:N.Nodup:=by decide +kernel) (e:N.take P.length=P:=by rfl) (f:∀ x∈P,s.names.lookup x=some .local∨s.names.lookup x=some .cell:=by decide +kernel) (g:∀ y∈s.names,y.2≠.free:=by decide +kernel):FnScope N P s:=⟨a,b,c,d,e,f,g⟩
noncomputable def b7 (i:Nat):Stmt:=PySem.Challenge.pw_kindleweb_k51_whole_no_fewer_seeds_in_wo.main.body.getD i (.Pass ⟨0,0,0,0⟩)
structure FK (K:Frag) (n:Str) (i:Nat) (f:Addr) (d:FuncData):Prop where
 a:nsIn K mainGlobals n=some (some (.ref f))
 F:fH K n n (b7 i) f d
structure FM (K:Frag) (mg:Str->Option Value) (n:Str) (i:Nat) (f:Addr) (d:FuncData):Prop where
 F:fH K n n (b7 i) f d
 m:mg n=some (.ref f)
theorem FK.M {K:Frag}{mg:Str->Option Value}{n:Str}{i:Nat}{f:Addr}{d:FuncData}{h:Heap} (z:FK K n i f d) (X:K.In h) (G:h.Ns mainGlobals mg):FM K mg n i f d:=⟨z.F,mg_of X G z.a⟩
noncomputable abbrev Hb (x:Str) (ps:List Str) (i:Nat):Prop:=∀ (kV doc pm:Value) (an:Option Addr) (cdv ct:Value) (us:List Value),us.length=ps.length->bindArgs (fnOf x x (jR (b7 i)) (fG (b7 i)) (aX (b7 i)) .none kV doc pm an cdv ct) ⟨us,[]⟩=pure (ps.zip us)
theorem aZ9 {A:Around}{k:Nat} (hr:cA k A):A.units+3 < cLine:=by have:=hr.units; omega
section
variable {P : Program} {w : World} {K : Frag} {mg : Str → Option Value} {base : Heap} {f : Addr} {fd : FuncData} {k i : Nat} {x : Str} {ps N : List Str}
theorem Df.au {p:bK} (F:FM K mg x i f fd) (S:FnScope N ps (aX (b7 i))) (body:∀ (cdv:Value) (A:Around) (outer:List Env) (s:Shared) (H:Hp) (E:XK),cA k (A.deeper (PyProof.Rows.envOfC x (aX (b7 i)) s.heap.objs.size f cdv))->∃ t,fR (dN dR P w K mg base N x (aX (b7 i)) f cdv A outer s H E).nox (fG (b7 i)) t/\∀ xs Q,p xs Q->t { nx:=fun _=>Q .non,rt:=Q } (gC N xs)) (hb:Hb x ps i:=by intro _ _ _ _ _ _ us hl; first | (obtain ⟨_,rfl⟩:=nO hl; rfl) | (obtain ⟨_,_,rfl⟩:=yB hl; rfl) | (obtain ⟨_,_,_,rfl⟩:=yC hl; rfl) | (obtain ⟨_,_,_,_,rfl⟩:=us4 hl; rfl) | (obtain ⟨_,_,_,_,_,rfl⟩:=us5 hl; rfl)) (len:∀ xs Q,p xs Q->xs.length=ps.length:=by intro xs Q h; repeat (first | (obtain ⟨rfl,_⟩:=h; rfl) | (obtain ⟨_,h⟩:=h))):Df P w K mg base (k+1) x ps p:=
 Df.of F.F F.m S hb len body
theorem bW.au {p:eQ} (F:FM K mg x i f fd) (S:FnScope N ps (aX (b7 i))) (t:(Str->Prop)->aR) (rd:∀ Ep xs Q,p Ep xs Q->t Ep { nx:=fun _=>Q .non,rt:=Q } (gC N xs)) (body:∀ (cdv:Value) (A:Around) (outer:List Env) (s:Shared) (H:Hp) (E:XK) (Ep:Str->Prop),cA k (A.deeper (PyProof.Rows.envOfC x (aX (b7 i)) s.heap.objs.size f cdv))->nI (dN (fM P w) P w K mg base N x (aX (b7 i)) f cdv A outer s H E) (EX K H Ep)->fR (dN (fM P w) P w K mg base N x (aX (b7 i)) f cdv A outer s H E) (fG (b7 i)) (t Ep)) (hb:Hb x ps i:=by intro _ _ _ _ _ _ us hl; first | (obtain ⟨_,rfl⟩:=nO hl; rfl) | (obtain ⟨_,_,rfl⟩:=yB hl; rfl) | (obtain ⟨_,_,_,rfl⟩:=yC hl; rfl) | (obtain ⟨_,_,_,_,rfl⟩:=us4 hl; rfl) | (obtain ⟨_,_,_,_,_,rfl⟩:=us5 hl; rfl)) (len:∀ Ep xs Q,p Ep xs Q->xs.length=ps.length:=by intro Ep xs Q h; repeat (first | (obtain ⟨rfl,_⟩:=h; rfl) | (obtain ⟨_,h⟩:=h))):bW P w K mg base (k+1) x ps p:=
 bW.of F.F F.m S hb t len rd body
end
section
variable {P : Program} {w : World} {K : Frag} {mg : Str → Option Value} {base : Heap} {f : Addr} {fd : FuncData}
theorem nd2:(["ahead","behind"]:List Str).Nodup:=by decide +kernel
noncomputable abbrev ai6:Stmt:=b7 6
theorem scR:FnScope ["things"] ["things"] (aX ai6):=.au
theorem zN {ns:List Int}{i:Nat}{x y:V} (h1:(ns.map V.int)[i]? = some x) (h2:((ns.map V.int).drop 1)[i]? = some y):∃ p q:Int,x = .int p/\y = .int q/\(ns.zip (ns.drop 1))[i]? = some (p,q):=by
 rw [bh5] at h1
 rw [<- List.map_drop,bh5] at h2
 cases e1:ns[i]? with
 | none=>rw [e1] at h1; cases h1
 | some p=>
  cases e2:(ns.drop 1)[i]? with
  | none=>rw [e2] at h2; cases h2
  | some q=>
   rw [e1] at h1; rw [e2] at h2
   exact⟨p,q,(bj0 h1).symm,(bj0 h2).symm,List.getElem?_zip_eq_some.mpr ⟨e1,e2⟩⟩
theorem ba0 (B:Bt mg) (F:fH K "rises" "rises" ai6 f fd):cP P w K mg base dR 1 f fd ["things"] (Y2 K):=by
 refine F.ok scR (fun vs H Q E h=>?_) (fun cdv A outer s H vs Q E hr h=>?_)
 ·obtain ⟨a,ns,rfl,_⟩:=h
  rfl
 obtain ⟨a,ns,rfl,hS,hn,q⟩:=h
 have lz:((ns.map V.int).drop 1).length<=sizeLine:=bn7 (i7 (by rw [bp0,bg5]; omega))
 have lz2:((ns.map V.int).drop 1).length<=(ns.map V.int).length:=by rw [bp0]; omega
 have lz3:(ns.zip (ns.drop 1)).length=((ns.map V.int).drop 1).length:=by rw [List.length_zip,bp0,bp0,bg5]; omega
 rcases hS with hS | hS
 ·refine⟨_,lF (mF (uQ (vN rfl) rfl B.all PyProof.Rows.boot_all (cO (K1 (N:=["ahead","behind"]) (fr:=[none,none]) rfl (cQ.of rfl rfl) (ax7 rfl B.zip (cO (pv 0) (cO (uU M5 (pv 0) (uT lD) E4) dF)))
   ⟨fun _ _ _ _=>show PG _ _ (lI K 2 (gJ (cN 0) (gJ (cN 1) lH))) from mH rfl (hJ (fF (i:=0) nd2 rfl (Or.inl rfl) (.inr rfl)) (hJ (fF (i:=1) nd2 rfl (Or.inl rfl) (.inr rfl)) mG)),fun _ _ _ _=>oH,fun _ _ _ _=>uK qJ (pv 0) (pv 1) (gK _)⟩) dF))),?_⟩
  refine⟨_,rfl,_,rfl,1,rfl,a,_,rfl,hS,fun p hp=>?_,fun e=>?_⟩
  ·have s1:=bN hp (.tup (e9 (ns.map V.int) (some 1) none))
   have hb:aQ K (upd H p (.tup (e9 (ns.map V.int) (some 1) none))) p ((ns.map V.int).drop 1):=aQ.of (by rw [bL,vQ])
   refine⟨a,p,_,_,rfl,s1.tup hS,hb,vP (M4 (s1.tup hS) hb lz2) (fun i acc _=>acc=((ns.zip (ns.drop 1)).take i).map fun (p:Int × Int)=>V.bl (decide (p.1 < p.2))) lz (fun _ _=>rfl) (fun _ _ _ _ _ h=>h) (fun i x acc D H' hi hR c hP=>?_) (fun D acc H' hD sm hDa hlen hP=>?_)⟩
   ·obtain ⟨T,x1,y1,rfl,hT,h1,h2⟩:=hR
    obtain ⟨m,k,rfl,rfl,hz⟩:=zN h1 h2
    refine⟨T,_,rfl,aQ.of hT,rfl,_,_,rfl,_,_,rfl,rfl,((Wk.refl _).set (i:=0) rfl).set (i:=1) rfl,oK ⟨_,rfl,_,rfl,_,_,rfl,rfl,c.yes (aD.refl _) ?_⟩⟩
    rw [pM hz,hP]
   ·refine⟨D,(ns.zip (ns.drop 1)).map fun (p:Int × Int)=>decide (p.1 < p.2),rfl,aK.of ?_,q _ (s1.trans sm)⟩
    rw [hDa,hP,<- lz3,bn4,bo8]; rfl
  ·have hb:aQ K H a ((ns.map V.int).drop 1):=by
    have:(ns.map V.int).drop 1=ns.map V.int:=by rw [<- vQ]; exact e
    rw [this]; exact hS
   refine⟨a,a,_,_,rfl,hS,hb,vP (M4 hS hb lz2) (fun i acc _=>acc=((ns.zip (ns.drop 1)).take i).map fun (p:Int × Int)=>V.bl (decide (p.1 < p.2))) lz (fun _ _=>rfl) (fun _ _ _ _ _ h=>h) (fun i x acc D H' hi hR c hP=>?_) (fun D acc H' hD sm hDa hlen hP=>?_)⟩
   ·obtain ⟨T,x1,y1,rfl,hT,h1,h2⟩:=hR
    obtain ⟨m,k,rfl,rfl,hz⟩:=zN h1 h2
    refine⟨T,_,rfl,aQ.of hT,rfl,_,_,rfl,_,_,rfl,rfl,((Wk.refl _).set (i:=0) rfl).set (i:=1) rfl,oK ⟨_,rfl,_,rfl,_,_,rfl,rfl,c.yes (aD.refl _) ?_⟩⟩
    rw [pM hz,hP]
   ·refine⟨D,(ns.zip (ns.drop 1)).map fun (p:Int × Int)=>decide (p.1 < p.2),rfl,aK.of ?_,q _ sm⟩
    rw [hDa,hP,<- lz3,bn4,bo8]; rfl
 ·refine⟨_,lF (mF (uQ (vN rfl) rfl B.all PyProof.Rows.boot_all (cO (K1 (N:=["ahead","behind"]) (fr:=[none,none]) rfl (cQ.of rfl rfl) (ay3 rfl B.zip (cO (pv 0) (cO (uU F3 (pv 0) (uT lD) E4) dF)))
   ⟨fun _ _ _ _=>show PG _ _ (lI K 2 (gJ (cN 0) (gJ (cN 1) lH))) from mH rfl (hJ (fF (i:=0) nd2 rfl (Or.inl rfl) (.inr rfl)) (hJ (fF (i:=1) nd2 rfl (Or.inl rfl) (.inr rfl)) mG)),fun _ _ _ _=>oH,fun _ _ _ _=>uK qJ (pv 0) (pv 1) (gK _)⟩) dF))),?_⟩
  refine⟨_,rfl,_,rfl,1,rfl,a,_,rfl,hS,fun p hp=>?_⟩
  have s1:=bN hp (.lst (e9 (ns.map V.int) (some 1) none))
  have hb:aK K (upd H p (.lst (e9 (ns.map V.int) (some 1) none))) p ((ns.map V.int).drop 1):=aK.of (by rw [bL,vQ])
  refine⟨a,p,_,_,rfl,s1.seq hS,hb,vP (ay4 (s1.seq hS) hb lz2) (fun i acc _=>acc=((ns.zip (ns.drop 1)).take i).map fun (p:Int × Int)=>V.bl (decide (p.1 < p.2))) lz (fun _ _=>rfl) (fun _ _ _ _ _ h=>h) (fun i x acc D H' hi hR c hP=>?_) (fun D acc H' hD sm hDa hlen hP=>?_)⟩
  ·obtain ⟨T,x1,y1,rfl,hT,h1,h2⟩:=hR
   obtain ⟨m,k,rfl,rfl,hz⟩:=zN h1 h2
   refine⟨T,_,rfl,aQ.of hT,rfl,_,_,rfl,_,_,rfl,rfl,((Wk.refl _).set (i:=0) rfl).set (i:=1) rfl,oK ⟨_,rfl,_,rfl,_,_,rfl,rfl,c.yes (aD.refl _) ?_⟩⟩
   rw [pM hz,hP]
  ·refine⟨D,(ns.zip (ns.drop 1)).map fun (p:Int × Int)=>decide (p.1 < p.2),rfl,aK.of ?_,q _ (s1.trans sm)⟩
   rw [hDa,hP,<- lz3,bn4,bo8]; rfl
noncomputable abbrev ai7:Stmt:=b7 8
theorem u7:FnScope ["web","around","one","other"] ["web"] (aX ai7):=.au
theorem ba1 (F:fH K "near_lists" "near_lists" ai7 f fd):cP P w K mg base dR 1 f fd ["web"] sR:=by
 refine F.ok u7 (fun vs H Q E h=>?_) (fun cdv A outer s H vs Q E hr h=>?_)
 ·obtain ⟨v,ws,ls,rfl,_⟩:=h
  rfl
 obtain ⟨v,ws,ls,rfl,W,hn,hm,hin,q⟩:=h
 refine⟨_,lE (K2 (i:=1) (N:=["want"]) (fr:=[none]) rfl (cQ.of rfl rfl) (qG (jO oA (pv 0) lD (fun _ _=>rfl)))
   ⟨fun _ _ _ _=>fF (i:=0) (bj4 _ _) rfl (Or.inl rfl) (.inr rfl),fun _ _ _ _=>oH,fun _ _ _ _=>uM dF⟩ u7.nd rfl rfl rfl)
  (lE (uE bv9 rfl (qG (jO oA (pv 0) lD (fun _ _=>rfl))) (mH (n:=2) rfl (hJ (fF (i:=2) u7.nd rfl (Or.inl rfl) (.inr rfl)) (hJ (fF (i:=3) u7.nd rfl (Or.inl rfl) (.inr rfl)) mG)) )
   (lE (kJ (lJ bp1 bt4 bt5 mL (jO o9 (pv 1) (pv 2) (fun _ _=>rfl)) (cO (pv 3) dF)))
   (lF (kJ (lJ bp1 bt4 bt5 mL (jO o9 (pv 1) (pv 3) (fun _ _=>rfl)) (cO (pv 2) dF))))))
  (lF (mF (pv 1)))),?_⟩
 obtain ⟨a,p,q',ys,rfl,ha,hp,hq,hL⟩:=W.at_
 have lw:(ws.map V.int).length=ws.length:=bg5 _
 refine⟨_,rfl,a,_,_,_,rfl,rfl,aQ.of ha,rfl,p,rfl,⟨_,aQ.of hp⟩,K7 (K5 (aQ.of hp)) (fun i acc H'=>∃ bs:List Addr,acc=bs.map V.ref/\bs.length=i/\bs.Nodup/\∀ b ∈ bs,H b=none/\H' b=some (.lst [])) (by rw [lw]; exact bn7 (oG hn))
  (fun D hD=>⟨[],rfl,rfl,List.nodup_nil,fun _ z=>nomatch z⟩) (fun i x acc D H' hx c hPv=>?_) (fun D acc H' hD sm hDa hlen hPv=>?_)⟩
 ·obtain ⟨bs,rfl,hbl,nd,hb⟩:=hPv
  refine⟨L5 (n:=none),oK ⟨bl0 _,fun r hr'=>?_⟩⟩
  have hrD:r ≠ D:=fun z=>by rw [z,c.acc] at hr'; cases hr'
  have hrH:H r=none:=c.same.free hr'
  refine c.yes (bN hr' _) ⟨bs ++ [r],by simp,by simp [hbl],?_,fun b hm=>?_⟩
  ·refine bo4.mpr ⟨nd,bj4 _ _,fun b hb1 b' hb2 e=>?_⟩
   rw [bh1.mp hb2] at e
   rw [e] at hb1
   rw [(hb r hb1).2] at hr'; cases hr'
  ·rcases bh4.mp hm with hm | hm
   ·have hbD:b ≠ D:=fun z=>by
     rw [z] at hm
     have:=(hb D hm).2
     rw [c.acc] at this
     have:bs.map V.ref = []:=by injection this with e1; injection e1
     have:bs = []:=List.map_eq_nil_iff.mp this
     rw [this] at hm; simp at hm
    refine⟨(hb b hm).1,?_⟩
    rw [aY hbD,aY (cI (hb b hm).2 hr')]
    exact (hb b hm).2
   ·rw [bh1.mp hm]
    exact⟨hrH,by rw [aY hrD,bL]⟩
 ·obtain ⟨bs,rfl,hbl,nd,hb⟩:=hPv
  rw [lw] at hbl
  have R0:iL H H' D bs (fun k=>aH (ls.take 0) k):=by
   refine⟨hD,fun b hm=>⟨(hb b hm).1,fun z=>?_⟩,nd,hDa,fun k b hk=>(hb b (bh9 hk)).2,sm⟩
   rw [z] at hm
   have:=(hb D hm).2
   rw [hDa] at this
   have:bs.map V.ref = []:=by injection this with e1; injection e1
   have:bs = []:=List.map_eq_nil_iff.mp this
   rw [this] at hm; simp at hm
  have lL:=hL.length
  refine⟨_,rfl,a,_,_,_,rfl,rfl,aQ.of (sm _ _ ha),rfl,q',rfl,⟨_,aQ.of (sm _ _ hq)⟩,B0 (K:=K) (a:=q') (xs:=ys) (fun i σ H2=>∃ x y:Option V,σ = [some (.ref a),some (.ref D),x,y]/\iL H H2 D bs (fun k=>aH (ls.take i) k))
   ⟨none,none,rfl,R0⟩ (fun i σ H2 _ ⟨_,_,_,R⟩=>aQ.of (R.same _ _ hq)) ?_ ?_⟩
  ·rintro i y σ H2 hi ⟨x1,x2,rfl,R⟩
   obtain ⟨l,b,hl,rfl,hbt⟩:=hL.get hi
   have hlm:l ∈ ls:=bh9 hl
   obtain ⟨⟨h1,h2⟩,h3,h4⟩:=hin l hlm
   have k1:l.1.toNat < bs.length:=by omega
   have k2:l.2.toNat < bs.length:=by omega
   have e1:bs[l.1.toNat]? = some (bs[l.1.toNat]):=bg3 k1
   have e2:bs[l.2.toNat]? = some (bs[l.2.toNat]):=bg3 k2
   refine⟨b,_,rfl,aQ.of (R.same _ _ hbt),rfl,_,_,rfl,_,_,rfl,rfl,?_⟩
   refine⟨_,rfl,_,rfl,D,_,_,.ref bs[l.1.toNat],rfl,rfl,aK.of R.row,lO h1 (by rw [bh5,e1]; rfl),kO (aK.of (R.rows _ _ e1)),_,rfl,_,_,_,rfl,rfl,R.rows _ _ e1,?_,?_⟩
   ·rw [bg5]
    have:=lN (ls.take i) (l.1.toNat:Nat)
    rw [bn2] at this
    exact i7 (by omega)
   ·have R1:=R.app e1 l.2
    refine⟨_,rfl,_,rfl,D,_,_,.ref bs[l.2.toNat],rfl,rfl,aK.of R1.row,lO h3 (by rw [bh5,e2]; rfl),kO (aK.of (R1.rows _ _ e2)),_,rfl,_,_,_,rfl,rfl,R1.rows _ _ e2,?_,?_⟩
    ·rw [bg5]
     have:=lN (ls.take i) (l.2.toNat:Nat)
     rw [bn2] at this
     split
     ·rw [bh6,bk5]; exact i7 (by omega)
     ·exact i7 (by omega)
    ·have R2:=R1.app e2 l.1
     refine⟨_,_,rfl,R2.congr fun k hk=>?_⟩
     rw [L7 hl]
     have c1:(k=l.1.toNat) ↔ l.1=(k:Int):=by omega
     have c2:(k=l.2.toNat) ↔ l.2=(k:Int):=by omega
     by_cases d1:k=l.1.toNat
     ·by_cases d2:k=l.2.toNat
      ·rw [if_pos d2,if_pos d1,if_pos (c1.mp d1),if_pos (c2.mp d2)]; simp
      ·rw [if_neg d2,if_pos d1,if_pos (c1.mp d1),if_neg (fun z=>d2 (c2.mpr z))]; simp
     ·by_cases d2:k=l.2.toNat
      ·rw [if_pos d2,if_neg d1,if_neg (fun z=>d1 (c1.mpr z)),if_pos (c2.mp d2)]; simp
      ·rw [if_neg d2,if_neg d1,if_neg (fun z=>d1 (c1.mpr z)),if_neg (fun z=>d2 (c2.mpr z))]; simp
  ·
   rintro σ H2 ⟨x1,x2,rfl,R⟩
   refine⟨_,rfl,q D bs H2 hbl ?_⟩
   rw [lL,bn4] at R
   exact R
noncomputable abbrev ai8:Stmt:=b7 43
theorem u8:FnScope ["web","beside","one","other"] ["web"] (aX ai8):=.au
theorem ba2 (F:fH K "_law_beside" "_law_beside" ai8 f fd):cP P w K mg base dR 1 f fd ["web"] sR:=by
 refine F.ok u8 (fun vs H Q E h=>?_) (fun cdv A outer s H vs Q E hr h=>?_)
 ·obtain ⟨v,ws,ls,rfl,_⟩:=h
  rfl
 obtain ⟨v,ws,ls,rfl,W,hn,hm,hin,q⟩:=h
 refine⟨_,lE (K2 (i:=1) (N:=["hearth"]) (fr:=[none]) rfl (cQ.of rfl rfl) (qG (jO oA (pv 0) lD (fun _ _=>rfl)))
   ⟨fun _ _ _ _=>fF (i:=0) (bj4 _ _) rfl (Or.inl rfl) (.inr rfl),fun _ _ _ _=>oH,fun _ _ _ _=>uM dF⟩ u8.nd rfl rfl rfl)
  (lE (uE bv9 rfl (qG (jO oA (pv 0) lD (fun _ _=>rfl))) (mH (n:=2) rfl (hJ (fF (i:=2) u8.nd rfl (Or.inl rfl) (.inr rfl)) (hJ (fF (i:=3) u8.nd rfl (Or.inl rfl) (.inr rfl)) mG)) )
   (lE (kJ (lJ bp1 bt4 bt5 mL (jO o9 (pv 1) (pv 2) (fun _ _=>rfl)) (cO (pv 3) dF)))
   (lF (kJ (lJ bp1 bt4 bt5 mL (jO o9 (pv 1) (pv 3) (fun _ _=>rfl)) (cO (pv 2) dF))))))
  (lF (mF (pv 1)))),?_⟩
 obtain ⟨a,p,q',ys,rfl,ha,hp,hq,hL⟩:=W.at_
 have lw:(ws.map V.int).length=ws.length:=bg5 _
 refine⟨_,rfl,a,_,_,_,rfl,rfl,aQ.of ha,rfl,p,rfl,⟨_,aQ.of hp⟩,K7 (K5 (aQ.of hp)) (fun i acc H'=>∃ bs:List Addr,acc=bs.map V.ref/\bs.length=i/\bs.Nodup/\∀ b ∈ bs,H b=none/\H' b=some (.lst [])) (by rw [lw]; exact bn7 (oG hn))
  (fun D hD=>⟨[],rfl,rfl,List.nodup_nil,fun _ z=>nomatch z⟩) (fun i x acc D H' hx c hPv=>?_) (fun D acc H' hD sm hDa hlen hPv=>?_)⟩
 ·obtain ⟨bs,rfl,hbl,nd,hb⟩:=hPv
  refine⟨L5 (n:=none),oK ⟨bl0 _,fun r hr'=>?_⟩⟩
  have hrD:r ≠ D:=fun z=>by rw [z,c.acc] at hr'; cases hr'
  have hrH:H r=none:=c.same.free hr'
  refine c.yes (bN hr' _) ⟨bs ++ [r],by simp,by simp [hbl],?_,fun b hm=>?_⟩
  ·refine bo4.mpr ⟨nd,bj4 _ _,fun b hb1 b' hb2 e=>?_⟩
   rw [bh1.mp hb2] at e
   rw [e] at hb1
   rw [(hb r hb1).2] at hr'; cases hr'
  ·rcases bh4.mp hm with hm | hm
   ·have hbD:b ≠ D:=fun z=>by
     rw [z] at hm
     have:=(hb D hm).2
     rw [c.acc] at this
     have:bs.map V.ref = []:=by injection this with e1; injection e1
     have:bs = []:=List.map_eq_nil_iff.mp this
     rw [this] at hm; simp at hm
    refine⟨(hb b hm).1,?_⟩
    rw [aY hbD,aY (cI (hb b hm).2 hr')]
    exact (hb b hm).2
   ·rw [bh1.mp hm]
    exact⟨hrH,by rw [aY hrD,bL]⟩
 ·obtain ⟨bs,rfl,hbl,nd,hb⟩:=hPv
  rw [lw] at hbl
  have R0:iL H H' D bs (fun k=>aH (ls.take 0) k):=by
   refine⟨hD,fun b hm=>⟨(hb b hm).1,fun z=>?_⟩,nd,hDa,fun k b hk=>(hb b (bh9 hk)).2,sm⟩
   rw [z] at hm
   have:=(hb D hm).2
   rw [hDa] at this
   have:bs.map V.ref = []:=by injection this with e1; injection e1
   have:bs = []:=List.map_eq_nil_iff.mp this
   rw [this] at hm; simp at hm
  have lL:=hL.length
  refine⟨_,rfl,a,_,_,_,rfl,rfl,aQ.of (sm _ _ ha),rfl,q',rfl,⟨_,aQ.of (sm _ _ hq)⟩,B0 (K:=K) (a:=q') (xs:=ys) (fun i σ H2=>∃ x y:Option V,σ = [some (.ref a),some (.ref D),x,y]/\iL H H2 D bs (fun k=>aH (ls.take i) k))
   ⟨none,none,rfl,R0⟩ (fun i σ H2 _ ⟨_,_,_,R⟩=>aQ.of (R.same _ _ hq)) ?_ ?_⟩
  ·rintro i y σ H2 hi ⟨x1,x2,rfl,R⟩
   obtain ⟨l,b,hl,rfl,hbt⟩:=hL.get hi
   have hlm:l ∈ ls:=bh9 hl
   obtain ⟨⟨h1,h2⟩,h3,h4⟩:=hin l hlm
   have k1:l.1.toNat < bs.length:=by omega
   have k2:l.2.toNat < bs.length:=by omega
   have e1:bs[l.1.toNat]? = some (bs[l.1.toNat]):=bg3 k1
   have e2:bs[l.2.toNat]? = some (bs[l.2.toNat]):=bg3 k2
   refine⟨b,_,rfl,aQ.of (R.same _ _ hbt),rfl,_,_,rfl,_,_,rfl,rfl,?_⟩
   refine⟨_,rfl,_,rfl,D,_,_,.ref bs[l.1.toNat],rfl,rfl,aK.of R.row,lO h1 (by rw [bh5,e1]; rfl),kO (aK.of (R.rows _ _ e1)),_,rfl,_,_,_,rfl,rfl,R.rows _ _ e1,?_,?_⟩
   ·rw [bg5]
    have:=lN (ls.take i) (l.1.toNat:Nat)
    rw [bn2] at this
    exact i7 (by omega)
   ·have R1:=R.app e1 l.2
    refine⟨_,rfl,_,rfl,D,_,_,.ref bs[l.2.toNat],rfl,rfl,aK.of R1.row,lO h3 (by rw [bh5,e2]; rfl),kO (aK.of (R1.rows _ _ e2)),_,rfl,_,_,_,rfl,rfl,R1.rows _ _ e2,?_,?_⟩
    ·rw [bg5]
     have:=lN (ls.take i) (l.2.toNat:Nat)
     rw [bn2] at this
     split
     ·rw [bh6,bk5]; exact i7 (by omega)
     ·exact i7 (by omega)
    ·have R2:=R1.app e2 l.1
     refine⟨_,_,rfl,R2.congr fun k hk=>?_⟩
     rw [L7 hl]
     have c1:(k=l.1.toNat) ↔ l.1=(k:Int):=by omega
     have c2:(k=l.2.toNat) ↔ l.2=(k:Int):=by omega
     by_cases d1:k=l.1.toNat
     ·by_cases d2:k=l.2.toNat
      ·rw [if_pos d2,if_pos d1,if_pos (c1.mp d1),if_pos (c2.mp d2)]; simp
      ·rw [if_neg d2,if_pos d1,if_pos (c1.mp d1),if_neg (fun z=>d2 (c2.mpr z))]; simp
     ·by_cases d2:k=l.2.toNat
      ·rw [if_pos d2,if_neg d1,if_neg (fun z=>d1 (c1.mpr z)),if_pos (c2.mp d2)]; simp
      ·rw [if_neg d2,if_neg d1,if_neg (fun z=>d1 (c1.mpr z)),if_neg (fun z=>d2 (c2.mpr z))]; simp
  ·
   rintro σ H2 ⟨x1,x2,rfl,R⟩
   refine⟨_,rfl,q D bs H2 hbl ?_⟩
   rw [lL,bn4] at R
   exact R
theorem ba3:FnScope ["web"] ["web"] (aX (b7 7)):=.au
theorem ba4 (B:Bt mg) (F:FM K mg "hearths_in" 7 f fd)  : Df P w K mg base 1 "hearths_in" ["web"] iB:=
 Df.au F ba3 (fun cdv A outer s H E hr=>by
  exact⟨(V8),(aT (bT (dI B (a8 (bJ (qv 0) aJ) aA)))),aJ0⟩)
theorem ai9:FnScope ["hearths","inside","hearth"] ["hearths"] (aX (b7 12)):=.au
theorem ba5 (B:Bt mg) (F:FM K mg "marked" 12 f fd)  : Df P w K mg base 1 "marked" ["hearths"] gU:=
 Df.au F ai9 (fun cdv A outer s H E hr=>by
  have nd:=ai9.nd
  have hu:=lK hr
  exact⟨(X0),(aI (eF (i:=1) nd rR)
   (aI (gT 2 nd (dH (qv 0))
    (aT (rS hu (i:=1) (qv 2) iS)))
   (aT (lV 1)))),aJ5⟩)
theorem ba6:FnScope ["hearths","inside"] ["hearths","inside"] (aX (b7 13)):=.au
theorem ba7 (B:Bt mg) (F:FM K mg "count_inside" 13 f fd)  : Df P w K mg base 1 "count_inside" ["hearths","inside"] l7:=
 Df.au F ba6 (fun cdv A outer s H E hr=>by
  have hu:=lK hr
  exact⟨(X1),(aT (bT (dI B (a8 (iU (N:=["hearth","inside"]) (fr:=[none,some 1]) (dH (qv 0)) (fun _ _ _ _=>(Q4 hu (qv 0) (qv 1))) (fun _ _ _ _=>(qv 0))) aA)))),aJ6⟩)
theorem ba8:FnScope ["around","hearth","elder"] ["around","hearth","elder"] (aX (b7 33)):=.au
theorem ba9 (B:Bt mg) (F:FM K mg "children_of" 33 f fd)  : Df P w K mg base 1 "children_of" ["around","hearth","elder"] nW:=
 Df.au F ba8 (fun cdv A outer s H E hr=>by
  exact⟨(af5),(aT (bT (iU (N:=["other","elder"]) (fr:=[none,some 2]) (dH (bJ (qv 0) (qv 1))) (fun _ _ _ _=>(aR1 (qv 0) (qv 1))) (fun _ _ _ _=>(qv 0))))),aX0⟩)
theorem bb0:FnScope ["script","k"] ["script","k"] (aX (b7 38)):=.au
theorem bb1 (B:Bt mg) (F:FM K mg "_law_cell_at" 38 f fd)  : Df P w K mg base 1 "_law_cell_at" ["script","k"] iD:=
 Df.au F bb0 (fun cdv A outer s H E hr=>by
  exact⟨(X4),(aI (dP (rP (qv 1) (dI B (a8 (qv 0) aA))) (aT (bT (bJ (qv 0) (qv 1)))) dX)
   (aT (bT aJ))),aK1⟩)
theorem aj0:FnScope ["number","k","turn"] ["number","k"] (aX (b7 39)):=.au
theorem bb2 (B:Bt mg) (F:FM K mg "_law_mixed" 39 f fd)  : Df P w K mg base 1 "_law_mixed" ["number","k"] kE:=
 Df.au F aj0 (fun cdv A outer s H E hr=>by
  have nd:=aj0.nd
  exact⟨(ac8),(aI (bG (i:=2) nd (eM (eZ (eZ (eZ (eM (qv 0) aJ) (pB (pB aJ (qv 1)) (qv 1))) (pB aJ (qv 1))) aJ) aJ))
   (aI (bG (i:=2) nd (eM (pB (qv 2) aJ) aJ))
   (aT (bT (eM (pB (qv 2) (qv 2)) aJ))))),aT1⟩)
theorem bb3:FnScope ["web","number"] ["web","number"] (aX (b7 9)):=.au
theorem bb4 (B:Bt mg) (F:FM K mg "is_hearth" 9 f fd) (d_hearths_in:Df P w K mg base 1 "hearths_in" ["web"] iB):Df P w K mg base 2 "is_hearth" ["web","number"] sN:=
 Df.au F bb3 (fun cdv A outer s H E hr=>by
  exact⟨(V9),(aT (bT (wO (Q3 (qv 1) aJ) (wN (aE2 (qv 1) (b8 d_hearths_in hr (a8 (qv 0) aA))))))),aJ1⟩)
theorem bb5:FnScope ["hearths","inside"] ["hearths","inside"] (aX (b7 14)):=.au
theorem bb6 (B:Bt mg) (F:FM K mg "count_outside" 14 f fd) (d_count_inside:Df P w K mg base 1 "count_inside" ["hearths","inside"] l7):Df P w K mg base 2 "count_outside" ["hearths","inside"] sT:=
 Df.au F bb5 (fun cdv A outer s H E hr=>by
  exact⟨(Z8),(aT (bT (nB (dI B (a8 (qv 0) aA)) (b8 d_count_inside hr (a8 (qv 0) (a8 (qv 1) aA)))))),aN3⟩)
theorem aj1:FnScope ["hearths","some","gone"] ["hearths","some"] (aX (b7 15)):=.au
theorem bb7 (B:Bt mg) (F:FM K mg "without" 15 f fd) (d_marked:Df P w K mg base 1 "marked" ["hearths"] gU):Df P w K mg base 2 "without" ["hearths","some"] nN:=
 Df.au F aj1 (fun cdv A outer s H E hr=>by
  have nd:=aj1.nd
  have hu:=lK hr
  exact⟨(Z9),(aI (bG (i:=2) nd (b8 d_marked hr (a8 (qv 1) aA)))
   (aT (bT (gS B (a8 (iU (N:=["hearth","gone"]) (fr:=[none,some 2]) (dH (qv 0)) (fun _ _ _ _=>(wJ hu (qv 0) (qv 1))) (fun _ _ _ _=>(qv 0))) aA))))),aN4⟩)
theorem bb8:FnScope ["web","around","burning","hearth"] ["web","around","burning","hearth"] (aX (b7 20)):=.au
theorem bb9 (B:Bt mg) (F:FM K mg "can_kindle" 20 f fd) (d_count_inside:Df P w K mg base 1 "count_inside" ["hearths","inside"] l7):Df P w K mg base 2 "can_kindle" ["web","around","burning","hearth"] sP:=
 Df.au F bb8 (fun cdv A outer s H E hr=>by
  have hu:=lK hr
  exact⟨(X2),(aT (bT (wO (aE6 hu (qv 3) (qv 2)) (wN (Q3 (b8 d_count_inside hr (a8 (bJ (qv 1) (qv 3)) (a8 (qv 2) aA))) (bJ (bJ (qv 0) aJ) (qv 3))))))),aJ7⟩)
theorem aj2:FnScope ["around","hearths","inside","reached","waiting","hearth","other"] ["around","hearths"] (aX (b7 28)):=.au
theorem bc0 (B:Bt mg) (F:FM K mg "first_piece" 28 f fd) (d_marked:Df P w K mg base 1 "marked" ["hearths"] gU):Df P w K mg base 2 "first_piece" ["around","hearths"] tG:=
 Df.au F aj2 (fun cdv A outer s H E hr=>by
  have nd:=aj2.nd
  have hu:=lK hr
  exact⟨(ab8),(aI (bG (i:=2) nd (b8 d_marked hr (a8 (qv 1) aA)))
   (aI (eF (i:=3) nd (aP8 (bJ (qv 1) aJ)))
   (aI (eF (i:=4) nd (iT (a8 (bJ (qv 1) aJ) aA)))
   (aI (pE bv9 (kY (qv 4))
    (aI (aP9 nd 4 5)
    (aT (gT 6 nd (dH (bJ (qv 0) (qv 5)))
     (aT (dP (nC (wM (Q4 hu (qv 6) (qv 2)) (wK (wJ hu (qv 6) (qv 3))))) (aI (rS hu (i:=3) (qv 6) iS)
      (aT (lW 4 (qv 6)))) dX))))))
   (aT (bT (gS B (a8 (aa2 B rfl (a8 (qv 3) aA)) aA)))))))),aQ3⟩)
theorem aj3:FnScope ["script","most","number"] ["script","most"] (aX (b7 40)):=.au
theorem bc1 (B:Bt mg) (F:FM K mg "_law_hearths" 40 f fd) (d__law_cell_at:Df P w K mg base 1 "_law_cell_at" ["script","k"] iD):Df P w K mg base 2 "_law_hearths" ["script","most"] tM:=
 Df.au F aj3 (fun cdv A outer s H E hr=>by
  have nd:=aj3.nd
  exact⟨(ac9),(aI (bG (i:=2) nd (b8 d__law_cell_at hr (a8 (qv 0) (a8 aJ aA))))
   (aI (dP (jZ (eM (qv 2) aJ) aJ) (aT (bT (wQ B rfl (a8 (qv 1) (a8 (wR B rfl (a8 aJ (a8 (nB (dI B (a8 (qv 0) aA)) aJ) aA))) aA))))) dX)
   (aI (dP (jZ (eM (qv 2) aJ) aJ) (aT (bT (eM (eZ (kW (qv 2) aJ) aJ) (eZ (qv 1) aJ)))) dX)
   (aT (bT (eM (eZ (kW (qv 2) aJ) aJ) (eZ (wQ B rfl (a8 aJ (a8 (qv 1) aA))) aJ))))))),aT2⟩)
theorem aj4:FnScope ["script","many","digits","places","number","k","spot"] ["script","many","digits"] (aX (b7 41)):=.au
theorem bc2 (B:Bt mg) (F:FM K mg "_law_places" 41 f fd) (d__law_cell_at:Df P w K mg base 1 "_law_cell_at" ["script","k"] iD) (d__law_mixed:Df P w K mg base 1 "_law_mixed" ["number","k"] kE):Df P w K mg base 2 "_law_places" ["script","many","digits"] tW:=
 Df.au F aj4 (fun cdv A outer s H E hr=>by
  have nd:=aj4.nd
  exact⟨(ag2),(aI (eF (i:=3) nd (X9 B (qv 1)))
   (aI (bG (i:=4) nd (b8 d__law_cell_at hr (a8 (qv 0) (a8 aJ aA))))
   (aI (dP (jZ (eM (kW (b8 d__law_cell_at hr (a8 (qv 0) (a8 aJ aA))) aJ) aJ) aJ) (aI (eF (i:=3) nd (iT aA))
    (aT (gT 5 nd (lX rfl B.range (qv 1))
     (aI (bG (i:=6) nd (b8 d__law_mixed hr (a8 (b8 d__law_cell_at hr (a8 (qv 0) (a8 aJ aA))) (a8 (eZ (qv 5) aJ) aA))))
     (aI (dP (kY (qv 2)) (aI (bG (i:=6) nd (qv 4))
      (aT (bG (i:=4) nd (kW (qv 4) (eZ (qv 5) aJ))))) dX)
     (aT (aO8 3 (eM (qv 6) (eZ (qv 5) aJ)) (qv 5)))))))) dX)
   (aT (lV 3))))),aX8⟩)
theorem aj5:FnScope ["web","seeds","beside","burning","left","hearth","count"] ["web","seeds"] (aX (b7 44)):=.au
theorem bc3 (B:Bt mg) (F:FM K mg "_law_burning" 44 f fd) (d__law_beside:Df P w K mg base 1 "_law_beside" ["web"] ad2):Df P w K mg base 2 "_law_burning" ["web","seeds"] tN:=
 Df.au F aj5 (fun cdv A outer s H E hr=>by
  have nd:=aj5.nd
  exact⟨(ad3),(aI (bG (i:=2) nd (b8 d__law_beside hr (a8 (qv 0) aA)))
   (aI (eF (i:=3) nd (wV (N:=["hearth","seeds"]) (fr:=[none,some 1]) (lX rfl B.range (dI B (a8 (bJ (qv 0) aJ) aA))) (fun _ _ _ _=>(aF3 (qv 0) (qv 1)))))
   (aI (bG (i:=4) nd iS)
   (aI (pE bv9 (jF (qv 4))
    (aI (bG (i:=4) nd iS)
    (aT (gT 5 nd (lX rfl B.range (dI B (a8 (bJ (qv 0) aJ) aA)))
     (aI (bG (i:=6) nd (dI B (a8 (iU (N:=["other","burning"]) (fr:=[none,some 3]) (dH (bJ (qv 2) (qv 5))) (fun _ _ _ _=>(kY (bJ (qv 1) (qv 0)))) (fun _ _ _ _=>(qv 0))) aA)))
     (aT (dP (nC (wM (k4 (kY (bJ (qv 3) (qv 5)))) (wK (aE3 (qv 6) (bJ (bJ (qv 0) aJ) (qv 5)))))) (aI (rV (i:=3) (qv 5) iS)
      (aT (bG (i:=4) nd iS))) dX)))))))
   (aT (lV 3)))))),aT6⟩)
theorem bc4:FnScope ["number","many"] ["number","many"] (aX (b7 46)):=.au
theorem bc5 (B:Bt mg) (F:FM K mg "_law_seeds" 46 f fd) (d__law_mixed:Df P w K mg base 1 "_law_mixed" ["number","k"] kE):Df P w K mg base 2 "_law_seeds" ["number","many"] tP:=
 Df.au F bc4 (fun cdv A outer s H E hr=>by
  exact⟨(ad5),(aI (dP (jZ (eM (qv 0) aJ) aJ) (aT (bT (gS B (a8 (iU (N:=["hearth","number"]) (fr:=[none,some 0]) (lX rfl B.range (qv 1)) (fun _ _ _ _=>(jZ (aS6 (aE1 (qv 1) (eZ (qv 0) aJ)) aJ) aJ)) (fun _ _ _ _=>(qv 0))) aA)))) dX)
   (aT (bT (gS B (a8 (iU (N:=["hearth","number"]) (fr:=[none,some 0]) (lX rfl B.range (qv 1)) (fun _ _ _ _=>(rQ (eM (b8 d__law_mixed hr (a8 (qv 1) (a8 (eZ (qv 0) aJ) aA))) aJ) aJ)) (fun _ _ _ _=>(qv 0))) aA))))),aT8⟩)
theorem bc6:FnScope ["web","numbers"] ["web","numbers"] (aX (b7 10)):=.au
theorem bc7 (B:Bt mg) (F:FM K mg "is_set" 10 f fd) (d_rises:Df P w K mg base 1 "rises" ["things"] xK) (d_is_hearth:Df P w K mg base 2 "is_hearth" ["web","number"] sN):Df P w K mg base 3 "is_set" ["web","numbers"] l6:=
 Df.au F bc6 (fun cdv A outer s H E hr=>by
  exact⟨(W0),(aT (bT (wO (b8 d_rises hr (a8 (qv 1) aA)) (wN (aF2 B rfl (a8 (wV (N:=["number","web"]) (fr:=[none,some 0]) (dH (qv 1)) (fun _ _ _ _=>(b8 d_is_hearth hr (a8 (qv 1) (a8 (qv 0) aA))))) aA)))))),aJ2⟩)
theorem bc8:FnScope ["web","some"] ["web","some"] (aX (b7 16)):=.au
theorem bc9 (B:Bt mg) (F:FM K mg "all_but" 16 f fd) (d_without:Df P w K mg base 2 "without" ["hearths","some"] nN) (d_hearths_in:Df P w K mg base 1 "hearths_in" ["web"] iB):Df P w K mg base 3 "all_but" ["web","some"] tF:=
 Df.au F bc8 (fun cdv A outer s H E hr=>by
  exact⟨(ab6),(aT (bT (b8 d_without hr (a8 (X9 B (b8 d_hearths_in hr (a8 (qv 0) aA))) (a8 (qv 1) aA))))),aP6⟩)
theorem bd0:FnScope ["web","around","burning"] ["web","around","burning"] (aX (b7 19)):=.au
theorem bd1 (B:Bt mg) (F:FM K mg "kindling" 19 f fd) (d_hearths_in:Df P w K mg base 1 "hearths_in" ["web"] iB) (d_can_kindle:Df P w K mg base 2 "can_kindle" ["web","around","burning","hearth"] sP):Df P w K mg base 3 "kindling" ["web","around","burning"] pP:=
 Df.au F bd0 (fun cdv A outer s H E hr=>by
  exact⟨(X3),(aT (bT (gS B (a8 (iU (N:=["hearth","web","around","burning"]) (fr:=[none,some 0,some 1,some 2]) (lX rfl B.range (b8 d_hearths_in hr (a8 (qv 0) aA))) (fun _ _ _ _=>(jF (b8 d_can_kindle hr (a8 (qv 1) (a8 (qv 2) (a8 (qv 3) (a8 (qv 0) aA))))))) (fun _ _ _ _=>(qv 0))) aA)))),aJ8⟩)
theorem aj6:FnScope ["web","around","block","inside"] ["web","around","block"] (aX (b7 26)):=.au
theorem bd2 (B:Bt mg) (F:FM K mg "staying" 26 f fd) (d_marked:Df P w K mg base 1 "marked" ["hearths"] gU) (d_count_outside:Df P w K mg base 2 "count_outside" ["hearths","inside"] sT):Df P w K mg base 3 "staying" ["web","around","block"] sW:=
 Df.au F aj6 (fun cdv A outer s H E hr=>by
  have nd:=aj6.nd
  exact⟨(aa0),(aI (bG (i:=3) nd (b8 d_marked hr (a8 (qv 2) aA)))
   (aT (bT (gS B (a8 (iU (N:=["hearth","inside","around","web"]) (fr:=[none,some 3,some 1,some 0]) (dH (qv 2)) (fun _ _ _ _=>(rP (b8 d_count_outside hr (a8 (bJ (qv 2) (qv 0)) (a8 (qv 1) aA))) (bJ (bJ (qv 3) aJ) (qv 0)))) (fun _ _ _ _=>(qv 0))) aA))))),aN5⟩)
theorem aj7:FnScope ["script","most","many","digits","links","counts","cells","k","number","elder","places","wants","pairs"] ["script","most"] (aX (b7 42)):=.au
theorem bd3 (B:Bt mg) (F:FM K mg "_law_wood" 42 f fd) (d__law_hearths:Df P w K mg base 2 "_law_hearths" ["script","most"] tM) (d__law_cell_at:Df P w K mg base 1 "_law_cell_at" ["script","k"] iD) (d__law_mixed:Df P w K mg base 1 "_law_mixed" ["number","k"] kE) (d__law_places:Df P w K mg base 2 "_law_places" ["script","many","digits"] tW):Df P w K mg base 3 "_law_wood" ["script","most"] u6:=
 Df.au F aj7 (fun cdv A outer s H E hr=>by
  have nd:=aj7.nd
  exact⟨(ai2),(aI (bG (i:=2) nd (b8 d__law_hearths hr (a8 (qv 0) (a8 (qv 1) aA))))
   (aI (bG (i:=3) nd (rO (eM (kW (b8 d__law_cell_at hr (a8 (qv 0) (a8 aJ aA))) aJ) aJ) aJ))
   (aI (eF (i:=4) nd (iT aA))
   (aI (eF (i:=5) nd (Z4 (iT (a8 aJ aA)) (qv 2)))
   (aI (eF (i:=6) nd (R4 (qv 0) (rT aJ) (rT (eZ aJ (qv 2)))))
   (aI (gT 7 nd (Q5 rfl B.range (dI B (a8 (qv 6) aA)) (qv 2))
    (aT (lW 6 (b8 d__law_mixed hr (a8 (b8 d__law_cell_at hr (a8 (qv 0) (a8 aJ aA))) (a8 (qv 7) aA))))))
   (aI (gT 7 nd (Q5 rfl B.range aJ (qv 2))
    (aI (bG (i:=8) nd (b8 d__law_mixed hr (a8 (bJ (qv 6) (qv 7)) (a8 (qv 7) aA))))
    (aI (dP (kY (qv 3)) (aT (bG (i:=8) nd (kW (bJ (qv 6) (qv 7)) aJ))) dX)
    (aT (dP (rQ (eM (qv 8) aJ) aJ) (aI (bG (i:=9) nd (eM (kW (qv 8) aJ) (qv 7)))
     (aI (dP (jZ (eM (b8 d__law_cell_at hr (a8 (qv 0) (a8 aJ aA))) aJ) aJ) (aT (bG (i:=9) nd (wR B rfl (a8 aJ (a8 (nB (nB (qv 7) aJ) (eM (kW (qv 8) aJ) aJ)) aA))))) dX)
     (aI (lW 4 (kZ (a8 (qv 9) (a8 (qv 7) aA))))
     (aI (rV (i:=5) (qv 9) (eZ (bJ (qv 5) (qv 9)) aJ))
     (aT (rV (i:=5) (qv 7) (eZ (bJ (qv 5) (qv 7)) aJ))))))) dX)))))
   (aI (bG (i:=10) nd (b8 d__law_places hr (a8 (qv 0) (a8 (qv 2) (a8 (qv 3) aA)))))
   (aI (eF (i:=11) nd (Z4 (iT (a8 aJ aA)) (qv 2)))
   (aI (gT 7 nd (lX rfl B.range (qv 2))
    (aT (rV (i:=11) (bJ (qv 10) (qv 7)) (eM (bJ (qv 6) (qv 7)) (eZ (bJ (qv 5) (qv 7)) aJ)))))
   (aI (wP 4 (aM8 (i:=12) nd (N:=["one","other","places"]) (fr:=[none,none,some 10]) (dH (qv 4)) (fun _ _ _ _=>(kZ (a8 (wQ B rfl (a8 (bJ (qv 2) (qv 0)) (a8 (bJ (qv 2) (qv 1)) aA))) (a8 (wR B rfl (a8 (bJ (qv 2) (qv 0)) (a8 (bJ (qv 2) (qv 1)) aA))) aA))))))
   (aT (bT (kZ (a8 (gS B (a8 (qv 11) aA)) (a8 (gS B (a8 (aP0 B (a8 (qv 12) aA)) aA)) aA)))))))))))))))),aZ4⟩)
theorem bd4:FnScope ["web","seeds"] ["web","seeds"] (aX (b7 45)):=.au
theorem bd5 (B:Bt mg) (F:FM K mg "_law_lights" 45 f fd) (d__law_burning:Df P w K mg base 2 "_law_burning" ["web","seeds"] tN):Df P w K mg base 3 "_law_lights" ["web","seeds"] tO:=
 Df.au F bd4 (fun cdv A outer s H E hr=>by
  exact⟨(ad4),(aT (bT (rO (dI B (a8 (iU (N:=["fire"]) (fr:=[none]) (dH (b8 d__law_burning hr (a8 (qv 0) (a8 (qv 1) aA)))) (fun _ _ _ _=>(k4 (kY (qv 0)))) (fun _ _ _ _=>(qv 0))) aA)) aJ))),aT7⟩)
theorem bd6:FnScope ["web","hearths"] ["web","hearths"] (aX (b7 11)):=.au
theorem bd7 (B:Bt mg) (F:FM K mg "made_set" 11 f fd) (d_is_set:Df P w K mg base 3 "is_set" ["web","numbers"] l6) (x_BadSet:Xc K mg base "BadSet"):bW P w K mg base 4 "made_set" ["web","hearths"] lB:=
 bW.au F bd6 ab0 aO6 (fun cdv A outer s H E Ep hr hX=>by
  exact (aI (dP (k4 (jF (b8 d_is_set hr (a8 (qv 0) (a8 (qv 1) aA))))) (aT (yA hX x_BadSet (a8 wI aA))) dX)
   (aT (bT (gS B (a8 (qv 1) aA))))))
theorem aj8:FnScope ["web","seeds","told","burning","around","lit"] ["web","seeds"] (aX (b7 18)):=.au
theorem bd8 (B:Bt mg) (F:FM K mg "rounds" 18 f fd) (d_made_set:bW P w K mg base 4 "made_set" ["web","hearths"] lB) (d_marked:Df P w K mg base 1 "marked" ["hearths"] gU) (d_near_lists:Df P w K mg base 1 "near_lists" ["web"] gV) (d_kindling:Df P w K mg base 3 "kindling" ["web","around","burning"] pP):bW P w K mg base 5 "rounds" ["web","seeds"] t7:=
 bW.au F aj8 ab2 aP2 (fun cdv A outer s H E Ep hr hX=>by
  have nd:=aj8.nd
  exact (aI (eF (i:=2) nd (iT (a8 (m7 hX d_made_set hr (a8 (qv 0) (a8 (qv 1) aA))) aA)))
   (aI (eF (i:=3) nd (b8 d_marked hr (a8 (bJ (qv 2) aJ) aA)))
   (aI (bG (i:=4) nd (b8 d_near_lists hr (a8 (qv 0) aA)))
   (aI (bG (i:=5) nd (b8 d_kindling hr (a8 (qv 0) (a8 (qv 4) (a8 (qv 3) aA)))))
   (aI (pE hX.own (kY (qv 5))
    (aI (lW 2 (qv 5))
    (aI (R7 3 (b8 d_marked hr (a8 (qv 5) aA)))
    (aT (bG (i:=5) nd (b8 d_kindling hr (a8 (qv 0) (a8 (qv 4) (a8 (qv 3) aA)))))))))
   (aT (lV 2))))))))
theorem aj9:FnScope ["web","block","chosen"] ["web","block"] (aX (b7 25)):=.au
theorem bd9 (B:Bt mg) (F:FM K mg "is_cold" 25 f fd) (d_made_set:bW P w K mg base 4 "made_set" ["web","hearths"] lB) (d_staying:Df P w K mg base 3 "staying" ["web","around","block"] sW) (d_near_lists:Df P w K mg base 1 "near_lists" ["web"] gV):bW P w K mg base 5 "is_cold" ["web","block"] t6:=
 bW.au F aj9 ab1 aP1 (fun cdv A outer s H E Ep hr hX=>by
  have nd:=aj9.nd
  have hu3:=aZ9 hr
  exact (aI (bG (i:=2) nd (m7 hX d_made_set hr (a8 (qv 0) (a8 (qv 1) aA))))
   (aT (bT (aF7 hu3 (b8 d_staying hr (a8 (qv 0) (a8 (b8 d_near_lists hr (a8 (qv 0) aA)) (a8 (qv 2) aA)))) (qv 2))))))
theorem ak0:FnScope ["web","block","around","left","pieces","piece"] ["web","block"] (aX (b7 27)):=.au
theorem be0 (B:Bt mg) (F:FM K mg "cold_pieces" 27 f fd) (d_near_lists:Df P w K mg base 1 "near_lists" ["web"] gV) (d_made_set:bW P w K mg base 4 "made_set" ["web","hearths"] lB) (d_first_piece:Df P w K mg base 2 "first_piece" ["around","hearths"] tG) (d_without:Df P w K mg base 2 "without" ["hearths","some"] nN):bW P w K mg base 5 "cold_pieces" ["web","block"] tJ:=
 bW.au F ak0 aQ8 aQ9 (fun cdv A outer s H E Ep hr hX=>by
  have nd:=ak0.nd
  exact (aI (bG (i:=2) nd (b8 d_near_lists hr (a8 (qv 0) aA)))
   (aI (bG (i:=3) nd (m7 hX d_made_set hr (a8 (qv 0) (a8 (qv 1) aA))))
   (aI (eF (i:=4) nd (iT aA))
   (aI (pE hX.own (kY (qv 3))
    (aI (bG (i:=5) nd (b8 d_first_piece hr (a8 (qv 2) (a8 (qv 3) aA))))
    (aI (lW 4 (qv 5))
    (aT (bG (i:=3) nd (b8 d_without hr (a8 (qv 3) (a8 (qv 5) aA))))))))
   (aT (lV 4)))))))
theorem ak1:FnScope ["web","seeds","ranks","rank","lit","hearth"] ["web","seeds"] (aX (b7 21)):=.au
theorem be1 (B:Bt mg) (F:FM K mg "ranks_of" 21 f fd) (d_rounds:bW P w K mg base 5 "rounds" ["web","seeds"] t7):bW P w K mg base 6 "ranks_of" ["web","seeds"] t8:=
 bW.au F ak1 ab3 aP3 (fun cdv A outer s H E Ep hr hX=>by
  have nd:=ak1.nd
  have hu:=lK hr
  exact (aI (eF (i:=2) nd rR)
   (aI (R5 3 4 (hp:=hX.own) nd (aM7 rfl B.enum (m7 hX d_rounds hr (a8 (qv 0) (a8 (qv 1) aA))))
    (aT (gT 5 (hp:=hX.own) nd (dH (qv 4))
     (aT (rS hu (i:=2) (qv 5) (qv 3))))))
   (aT (lV 2)))))
theorem be2:FnScope ["web"] ["web"] (aX (b7 31)):=.au
theorem be3 (B:Bt mg) (F:FM K mg "all_pieces" 31 f fd) (d_cold_pieces:bW P w K mg base 5 "cold_pieces" ["web","block"] tJ) (d_all_but:Df P w K mg base 3 "all_but" ["web","some"] tF):Df P w K mg base 6 "all_pieces" ["web"] nR:=
 Df.au F be2 (fun cdv A outer s H E hr=>by
  exact⟨(ae4),(aT (bT (xZ d_cold_pieces hr (a8 (qv 0) (a8 (b8 d_all_but hr (a8 (qv 0) (a8 (kZ aA) aA))) aA))))),aV2⟩)
theorem ak2:FnScope ["web","blocks","met","block"] ["web","blocks"] (aX (b7 36)):=.au
theorem be4 (B:Bt mg) (F:FM K mg "stand_apart" 36 f fd) (d_is_set:Df P w K mg base 3 "is_set" ["web","numbers"] l6) (d_is_cold:bW P w K mg base 5 "is_cold" ["web","block"] t6) (d_count_inside:Df P w K mg base 1 "count_inside" ["hearths","inside"] l7) (d_marked:Df P w K mg base 1 "marked" ["hearths"] gU):Df P w K mg base 6 "stand_apart" ["web","blocks"] tZ:=
 Df.au F ak2 (fun cdv A outer s H E hr=>by
  have nd:=ak2.nd
  exact⟨(ai1),(aI (eF (i:=2) nd rR)
   (aI (gT 3 nd (dH (qv 1))
    (aI (dP (nC (pD (jZ (dI B (a8 (qv 3) aA)) aJ) (pD (k4 (jF (b8 d_is_set hr (a8 (qv 0) (a8 (qv 3) aA))))) (pD (k4 (jF (xZ d_is_cold hr (a8 (qv 0) (a8 (qv 3) aA))))) (wL (rQ (b8 d_count_inside hr (a8 (qv 3) (a8 (qv 2) aA))) aJ)))))) (aT (bT iS)) dX)
    (aT (R7 2 (b8 d_marked hr (a8 (qv 3) aA))))))
   (aT (bT iS)))),aZ2⟩)
theorem be5:FnScope ["web","seeds"] ["web","seeds"] (aX (b7 22)):=.au
theorem be6 (B:Bt mg) (F:FM K mg "burnt" 22 f fd) (d_ranks_of:bW P w K mg base 6 "ranks_of" ["web","seeds"] t8):bW P w K mg base 7 "burnt" ["web","seeds"] t9:=
 bW.au F be5 ab4 aP4 (fun cdv A outer s H E Ep hr hX=>by
  exact (aT (bT (gS B (a8 (aa2 B rfl (a8 (m7 hX d_ranks_of hr (a8 (qv 0) (a8 (qv 1) aA))) aA)) aA)))))
theorem be7:FnScope ["web"] ["web"] (aX (b7 30)):=.au
theorem be8 (B:Bt mg) (F:FM K mg "is_wood" 30 f fd) (d_hearths_in:Df P w K mg base 1 "hearths_in" ["web"] iB) (d_all_pieces:Df P w K mg base 6 "all_pieces" ["web"] nR):Df P w K mg base 7 "is_wood" ["web"] tU:=
 Df.au F be7 (fun cdv A outer s H E hr=>by
  exact⟨(af4),(aT (bT (rO (dI B (a8 (bJ (qv 0) aJ) aA)) (nB (b8 d_hearths_in hr (a8 (qv 0) aA)) (dI B (a8 (b8 d_all_pieces hr (a8 (qv 0) aA)) aA)))))),aW9⟩)
theorem be9:FnScope ["web","seeds"] ["web","seeds"] (aX (b7 23)):=.au
theorem bf0 (B:Bt mg) (F:FM K mg "lights_all" 23 f fd) (d_burnt:bW P w K mg base 7 "burnt" ["web","seeds"] t9) (d_hearths_in:Df P w K mg base 1 "hearths_in" ["web"] iB):bW P w K mg base 8 "lights_all" ["web","seeds"] tE:=
 bW.au F be9 ab5 aP5 (fun cdv A outer s H E Ep hr hX=>by
  exact (aT (bT (rO (dI B (a8 (m7 hX d_burnt hr (a8 (qv 0) (a8 (qv 1) aA))) aA)) (b8 d_hearths_in hr (a8 (qv 0) aA))))))
theorem ak3:FnScope ["web","around","pairs","turn","hearth"] ["web"] (aX (b7 32)):=.au
theorem bf1 (B:Bt mg) (F:FM K mg "from_roots" 32 f fd) (d_is_wood:Df P w K mg base 7 "is_wood" ["web"] tU) (d_near_lists:Df P w K mg base 1 "near_lists" ["web"] gV) (d_all_pieces:Df P w K mg base 6 "all_pieces" ["web"] nR) (d_children_of:Df P w K mg base 1 "children_of" ["around","hearth","elder"] nW):Df P w K mg base 8 "from_roots" ["web"] tV:=
 Df.au F ak3 (fun cdv A outer s H E hr=>by
  have nd:=ak3.nd
  exact⟨(af8),(aI (dP (k4 (jF (b8 d_is_wood hr (a8 (qv 0) aA)))) (aT aE8) dX)
   (aI (bG (i:=1) nd (b8 d_near_lists hr (a8 (qv 0) aA)))
   (aI (aF8 (i:=2) nd (N:=["piece"]) (fr:=[none]) (dH (b8 d_all_pieces hr (a8 (qv 0) aA))) (fun _ _ _ _=>(kZ (a8 (bJ (qv 0) aJ) (a8 Q2 aA)))))
   (aI (bG (i:=3) nd aJ)
   (aI (pE bv9 (rP (qv 3) (dI B (a8 (qv 2) aA)))
    (aI (bG (i:=4) nd (bJ (bJ (qv 2) (qv 3)) aJ))
    (aI (R6 2 (wV (N:=["child","hearth"]) (fr:=[none,some 4]) (dH (b8 d_children_of hr (a8 (qv 1) (a8 (qv 4) (a8 (bJ (bJ (qv 2) (qv 3)) aJ) aA))))) (fun _ _ _ _=>(kZ (a8 (qv 0) (a8 (qv 1) aA))))))
    (aT (bG (i:=3) nd (eZ (qv 3) aJ))))))
   (aT (lV 2))))))),aX2⟩)
theorem ak4:FnScope ["web","around","waiting","taken","hearth","elder","children","lacking","block","child","pairs"] ["web"] (aX (b7 34)):=.au
theorem bf2 (B:Bt mg) (F:FM K mg "apart_paper" 34 f fd) (d_near_lists:Df P w K mg base 1 "near_lists" ["web"] gV) (d_from_roots:Df P w K mg base 8 "from_roots" ["web"] tV) (d_children_of:Df P w K mg base 1 "children_of" ["around","hearth","elder"] nW) (rv:mg "reversed" = none):Df P w K mg base 9 "apart_paper" ["web"] tY:=
 Df.au F ak4 (fun cdv A outer s H E hr=>by
  have nd:=ak4.nd
  have hu:=lK hr
  exact⟨(ah8),(aI (bG (i:=1) nd (b8 d_near_lists hr (a8 (qv 0) aA)))
   (aI (eF (i:=2) nd rR)
   (aI (eF (i:=3) nd (iT aA))
   (aI (R5 4 5 nd (aU2 rv (b8 d_from_roots hr (a8 (qv 0) aA)))
    (aI (bG (i:=6) nd (b8 d_children_of hr (a8 (qv 1) (a8 (qv 4) (a8 (qv 5) aA)))))
    (aI (bG (i:=7) nd (nB (bJ (bJ (qv 0) aJ) (qv 4)) (dI B (a8 (iU (N:=["child","waiting"]) (fr:=[none,some 2]) (dH (qv 6)) (fun _ _ _ _=>(wJ hu (qv 0) (qv 1))) (fun _ _ _ _=>(qv 0))) aA))))
    (aI (eF (i:=8) nd (iT (a8 (qv 4) aA)))
    (aI (gT 9 nd (dH (qv 6))
     (aT (R6 8 (aW8 hu (qv 2) (qv 9) (iT aA)))))
    (aT (dP (nC (wM (jZ (qv 7) aJ) (wK (aE5 (qv 5) Q2)))) (aT (wP 8 (rS hu (i:=2) (qv 4) (qv 8)))) (aT (dP (rQ (qv 7) aJ) (aT (lW 3 (kZ (a8 (qv 4) (a8 (gS B (a8 (aF1 B (a8 (qv 8) aA)) aA)) aA))))) dX)))))))))
   (aI (bG (i:=10) nd (aW6 B (a8 (qv 3) aA)))
   (aT (bT (kZ (a8 (gS B (a8 (Z2 (N:=["seed","block"]) (fr:=[none,none]) (dH (qv 10)) (fun _ _ _ _=>(qv 0))) aA)) (a8 (gS B (a8 (Z2 (N:=["seed","block"]) (fr:=[none,none]) (dH (qv 10)) (fun _ _ _ _=>(qv 1))) aA)) aA)))))))))),aZ1⟩)
theorem ak5:FnScope ["web","paper","seeds","blocks"] ["web","paper"] (aX (b7 35)):=.au
theorem bf3 (B:Bt mg) (F:FM K mg "judged_apart" 35 f fd) (d_is_set:Df P w K mg base 3 "is_set" ["web","numbers"] l6) (d_lights_all:bW P w K mg base 8 "lights_all" ["web","seeds"] tE) (d_stand_apart:Df P w K mg base 6 "stand_apart" ["web","blocks"] tZ) (x_NoPaper:Xc K mg base "NoPaper"):bW P w K mg base 9 "judged_apart" ["web","paper"] u5:=
 bW.au F ak5 zL aZ3 (fun cdv A outer s H E Ep hr hX=>by
  have nd:=ak5.nd
  exact (aI (bG (i:=2) nd (bJ (qv 1) aJ))
   (aI (bG (i:=3) nd (bJ (qv 1) aJ))
   (aI (dP (nC (pD (k4 (jF (b8 d_is_set hr (a8 (qv 0) (a8 (qv 2) aA))))) (wL (k4 (jF (m7 hX d_lights_all hr (a8 (qv 0) (a8 (qv 2) aA)))))))) (aT (yA hX x_NoPaper (a8 wI aA))) dX)
   (aI (dP (nC (pD (aE4 (dI B (a8 (qv 3) aA)) (dI B (a8 (qv 2) aA))) (wL (k4 (jF (b8 d_stand_apart hr (a8 (qv 0) (a8 (qv 3) aA)))))))) (aT (yA hX x_NoPaper (a8 wI aA))) dX)
   (aT (bT (dI B (a8 (qv 2) aA)))))))))
theorem ak6:FnScope ["script","web","many","paper","fewest","tried","cell","seeds","block"] ["script"] (aX (b7 47)):=.au
theorem bf4 (B:Bt mg) (F:fH K "law" "law" (b7 47) f fd) (d__law_wood:Df P w K mg base 3 "_law_wood" ["script","most"] u6) (d_apart_paper:Df P w K mg base 9 "apart_paper" ["web"] tY) (d_judged_apart:bW P w K mg base 9 "judged_apart" ["web","paper"] u5) (d__law_seeds:Df P w K mg base 2 "_law_seeds" ["number","many"] tP) (d__law_lights:Df P w K mg base 3 "_law_lights" ["web","seeds"] tO):cP P w K mg base dR 10 f fd ["script"] (oU K zM):=
 aL0 F ak6 (fun xs Q h=>by unfold zM at h; repeat (first | (obtain ⟨rfl,_⟩:=h; rfl) | (obtain ⟨_,h⟩:=h))) (fun cdv A outer s H E hr=>by
  have nd:=ak6.nd
  exact⟨(ai5),(aI (bG (i:=1) nd (b8 d__law_wood hr (a8 (qv 0) (a8 aJ aA))))
   (aI (bG (i:=2) nd (dI B (a8 (bJ (qv 1) aJ) aA)))
   (aI (bG (i:=3) nd (b8 d_apart_paper hr (a8 (qv 1) aA)))
   (aI (bG (i:=4) nd (xZ d_judged_apart hr (a8 (qv 1) (a8 (qv 3) aA))))
   (aI (eF (i:=5) nd (iT (a8 (aS8 B (qv 2)) aA)))
   (aI (gT 6 nd (dH (R4 (qv 0) (rT aJ) (rT aJ)))
    (aT (lW 5 (b8 d__law_seeds hr (a8 (qv 6) (a8 (qv 2) aA))))))
   (aI (wP 5 (gT 7 nd (dH (qv 5))
    (aT (dP (jF (b8 d__law_lights hr (a8 (qv 1) (a8 (qv 7) aA)))) (aI (dP (rP (dI B (a8 (qv 7) aA)) (qv 4)) (aT (bT iS)) dX)
     (aT (gT 8 nd (dH (bJ (qv 3) aJ))
      (aT (dP (jZ (dI B (a8 (iU (N:=["hearth","seeds"]) (fr:=[none,some 7]) (dH (qv 8)) (fun _ _ _ _=>(aF4 (qv 0) (qv 1))) (fun _ _ _ _=>(qv 0))) aA)) aJ) (aT (bT iS)) dX))))) dX))))
   (aT (bT iS))))))))),aZ8⟩)
end
set_option autoImplicit true in
theorem bf5 {l:OpenLaw}{w:World}{K:Frag}{h:Heap}{mg:Str->Option Value} (X:K.In h) (G:h.Ns mainGlobals mg) (hfa:mg "law" = some (.ref fa))
  (h0:FK K "rises" 6 f0 d0)
  (h1:FK K "hearths_in" 7 f1 d1)
  (h2:FK K "near_lists" 8 f2 d2)
  (h3:FK K "marked" 12 f3 d3)
  (h4:FK K "count_inside" 13 f4 d4)
  (h5:FK K "children_of" 33 f5 d5)
  (h6:FK K "_law_cell_at" 38 f6 d6)
  (h7:FK K "_law_mixed" 39 f7 d7)
  (h8:FK K "_law_beside" 43 f8 d8)
  (h9:FK K "is_hearth" 9 f9 d9)
  (h10:FK K "count_outside" 14 f10 d10)
  (h11:FK K "without" 15 f11 d11)
  (h12:FK K "can_kindle" 20 f12 d12)
  (h13:FK K "first_piece" 28 f13 d13)
  (h14:FK K "_law_hearths" 40 f14 d14)
  (h15:FK K "_law_places" 41 f15 d15)
  (h16:FK K "_law_burning" 44 f16 d16)
  (h17:FK K "_law_seeds" 46 f17 d17)
  (h18:FK K "is_set" 10 f18 d18)
  (h19:FK K "all_but" 16 f19 d19)
  (h20:FK K "kindling" 19 f20 d20)
  (h21:FK K "staying" 26 f21 d21)
  (h22:FK K "_law_wood" 42 f22 d22)
  (h23:FK K "_law_lights" 45 f23 d23)
  (h24:FK K "made_set" 11 f24 d24)
  (h25:FK K "rounds" 18 f25 d25)
  (h26:FK K "is_cold" 25 f26 d26)
  (h27:FK K "cold_pieces" 27 f27 d27)
  (h28:FK K "ranks_of" 21 f28 d28)
  (h29:FK K "all_pieces" 31 f29 d29)
  (h30:FK K "stand_apart" 36 f30 d30)
  (h31:FK K "burnt" 22 f31 d31)
  (h32:FK K "is_wood" 30 f32 d32)
  (h33:FK K "lights_all" 23 f33 d33)
  (h34:FK K "from_roots" 32 f34 d34)
  (h35:FK K "apart_paper" 34 f35 d35)
  (h36:FK K "judged_apart" 35 f36 d36)
  (a37:nsIn K mainGlobals "law" = some (some (.ref f37))) (l37:K.lookup f37=some ⟨oc37,od37,.func (fnOf "law" "law" (jR (b7 47)) (fG (b7 47)) (aX (b7 47)) .none kV37 dc37 pm37 an37 cd37 ct37),sl37⟩) (c37:codeIn K cd37 "law" = true) (k37:keepIn K (.ref f37)=true)
  (z_len:nsIn K mainGlobals "len" = some none)
  (z_range:nsIn K mainGlobals "range" = some none)
  (z_tuple:nsIn K mainGlobals "tuple" = some none)
  (z_list:nsIn K mainGlobals "list" = some none)
  (z_sorted:nsIn K mainGlobals "sorted" = some none)
  (z_all:nsIn K mainGlobals "all" = some none)
  (z_any:nsIn K mainGlobals "any" = some none)
  (z_zip:nsIn K mainGlobals "zip" = some none)
  (z_min:nsIn K mainGlobals "min" = some none)
  (z_max:nsIn K mainGlobals "max" = some none)
  (z_sum:nsIn K mainGlobals "sum" = some none)
  (z_isinstance:nsIn K mainGlobals "isinstance" = some none)
  (z_int:nsIn K mainGlobals "int" = some none)
  (z_bool:nsIn K mainGlobals "bool" = some none)
  (z_enumerate:nsIn K mainGlobals "enumerate" = some none)
  (z_reversed:nsIn K mainGlobals "reversed" = some none)
  {C_HearthError C_BadSet C_NotWood C_NoPaper:Addr}
  (aX_HE:nsIn K mainGlobals "HearthError" = some (some (.ref C_HearthError)))
  (aX_BS:nsIn K mainGlobals "BadSet" = some (some (.ref C_BadSet)))
  (aX_NW:nsIn K mainGlobals "NotWood" = some (some (.ref C_NotWood)))
  (aX_NP:nsIn K mainGlobals "NoPaper" = some (some (.ref C_NoPaper)))
  (zX_BW:nsIn K mainGlobals "BadWeb" = some none)
  (zX_BO:nsIn K mainGlobals "BadOrder" = some none)
  (zX_BP:nsIn K mainGlobals "BadPrices" = some none)
  (zX_BB:nsIn K mainGlobals "BadBoard" = some none)
  (zX_BD:nsIn K mainGlobals "BadDeed" = some none)
  (zX_NS:nsIn K mainGlobals "NoSuch" = some none)
  (zX_TM:nsIn K mainGlobals "TooMany" = some none)
  (zX_NT:nsIn K mainGlobals "NoText" = some none)
  (zX_OR:nsIn K mainGlobals "OddRound" = some none)
  (y_fg:specialIn K (.builtin "object.__class__") "__get__" = some (some (.builtin "getset_descriptor.__get__")))
  (y_ft:takesIn K (.builtin "object.__class__")=some true)
  (z_VE:nsIn K mainGlobals "ValueError" = some none)
  (y1_HE:isClsIn K C_HearthError=true)
  (y2_HE:typeIn K (.ref C_HearthError)=some (.type "type"))
  (y3_HE:findIn K (.ref C_HearthError) "__getattribute__" = some (some (.builtin "BaseException.__getattribute__")))
  (y4_HE:findIn K (.ref C_HearthError) "__getattr__" = some none)
  (y5_HE:findIn K (.ref C_HearthError) "__class__" = some (some (.builtin "object.__class__")))
  (y6_HE:mroIn K C_HearthError (.type "object")=some true)
  (y7_HE:mroIn K C_HearthError (.type "BaseException")=some true)
  (y1_BS:isClsIn K C_BadSet=true)
  (y2_BS:typeIn K (.ref C_BadSet)=some (.type "type"))
  (y3_BS:findIn K (.ref C_BadSet) "__getattribute__" = some (some (.builtin "BaseException.__getattribute__")))
  (y4_BS:findIn K (.ref C_BadSet) "__getattr__" = some none)
  (y5_BS:findIn K (.ref C_BadSet) "__class__" = some (some (.builtin "object.__class__")))
  (y6_BS:mroIn K C_BadSet (.type "object")=some true)
  (y7_BS:mroIn K C_BadSet (.type "BaseException")=some true)
  (y1_NW:isClsIn K C_NotWood=true)
  (y2_NW:typeIn K (.ref C_NotWood)=some (.type "type"))
  (y3_NW:findIn K (.ref C_NotWood) "__getattribute__" = some (some (.builtin "BaseException.__getattribute__")))
  (y4_NW:findIn K (.ref C_NotWood) "__getattr__" = some none)
  (y5_NW:findIn K (.ref C_NotWood) "__class__" = some (some (.builtin "object.__class__")))
  (y6_NW:mroIn K C_NotWood (.type "object")=some true)
  (y7_NW:mroIn K C_NotWood (.type "BaseException")=some true)
  (y1_NP:isClsIn K C_NoPaper=true)
  (y2_NP:typeIn K (.ref C_NoPaper)=some (.type "type"))
  (y3_NP:findIn K (.ref C_NoPaper) "__getattribute__" = some (some (.builtin "BaseException.__getattribute__")))
  (y4_NP:findIn K (.ref C_NoPaper) "__getattr__" = some none)
  (y5_NP:findIn K (.ref C_NoPaper) "__class__" = some (some (.builtin "object.__class__")))
  (y6_NP:mroIn K C_NoPaper (.type "object")=some true)
  (y7_NP:mroIn K C_NoPaper (.type "BaseException")=some true)
  (q_BS:excIn K C_BadSet [.type "ValueError",.type "Exception",.type "BaseException",.type "object"] "ValueError.__new__" = true)
  (q_NP:excIn K C_NoPaper [.type "ValueError",.type "Exception",.type "BaseException",.type "object"] "ValueError.__new__" = true)
  : ∃ fd:FuncData,(∀ (s:Shared) (v:Value),BindsTo s fd ⟨[v],[]⟩ [("script",v)])/\∀ base:Heap,K.In base->base.Ns mainGlobals mg->cP l.prog w K mg base dR 10 fa fd ["script"] (sS K):=by
 have e:=hfa.symm.trans (mg_of X G a37)
 cases e
 have F37:=av5 (st:=b7 47) l37 c37 k37
 have m37:=mg_of X G a37
 have B:Bt mg:=⟨mg_none_of X G z_len,mg_none_of X G z_range,mg_none_of X G z_tuple,mg_none_of X G z_list,mg_none_of X G z_sorted,mg_none_of X G z_all,mg_none_of X G z_any,mg_none_of X G z_zip,mg_none_of X G z_min,mg_none_of X G z_max,mg_none_of X G z_sum,mg_none_of X G z_isinstance,mg_none_of X G z_int,mg_none_of X G z_bool,mg_none_of X G z_enumerate⟩
 have rv:=mg_none_of X G z_reversed
 refine⟨fnOf "law" "law" (jR (b7 47)) (fG (b7 47)) (aX (b7 47)) .none kV37 dc37 pm37 an37 cd37 ct37,fun s v=>.of_eq rfl,fun base KB _=>?_⟩
 have XK_HearthError:sY K C_HearthError:=⟨y1_HE,y2_HE,y3_HE,y4_HE,y5_HE,y_fg,y_ft,y6_HE,y7_HE⟩
 have XK_BadSet:sY K C_BadSet:=⟨y1_BS,y2_BS,y3_BS,y4_BS,y5_BS,y_fg,y_ft,y6_BS,y7_BS⟩
 have XK_NotWood:sY K C_NotWood:=⟨y1_NW,y2_NW,y3_NW,y4_NW,y5_NW,y_fg,y_ft,y6_NW,y7_NW⟩
 have XK_NoPaper:sY K C_NoPaper:=⟨y1_NP,y2_NP,y3_NP,y4_NP,y5_NP,y_fg,y_ft,y6_NP,y7_NP⟩
 have x_BadSet:Xc K mg base "BadSet":=⟨C_BadSet,_,_,_,_,aa9 KB (mg_of X G aX_BS) q_BS,PySem.F.excBase_ValueError,aX_BS⟩
 have x_NoPaper:Xc K mg base "NoPaper":=⟨C_NoPaper,_,_,_,_,aa9 KB (mg_of X G aX_NP) q_NP,PySem.F.excBase_ValueError,aX_NP⟩
 have D0:=aK4 (ba0 (P:=l.prog) (w:=w) (base:=base) B h0.F) (h0.F.binds (ps:=["things"]) fun _ _ _ _ _ _ us hl=>by obtain ⟨_,rfl⟩:=nO hl; rfl) h0.F.kp (mg_of X G h0.a)
 have D1:=ba4 (P:=l.prog) (w:=w) (base:=base) B (h1.M X G)
 have D2:=aK5 (ba1 (P:=l.prog) (w:=w) (mg:=mg) (base:=base) h2.F) (h2.F.binds (ps:=["web"]) fun _ _ _ _ _ _ us hl=>by obtain ⟨_,rfl⟩:=nO hl; rfl) h2.F.kp (mg_of X G h2.a)
 have D3:=ba5 (P:=l.prog) (w:=w) (base:=base) B (h3.M X G)
 have D4:=ba7 (P:=l.prog) (w:=w) (base:=base) B (h4.M X G)
 have D5:=ba9 (P:=l.prog) (w:=w) (base:=base) B (h5.M X G)
 have D6:=bb1 (P:=l.prog) (w:=w) (base:=base) B (h6.M X G)
 have D7:=bb2 (P:=l.prog) (w:=w) (base:=base) B (h7.M X G)
 have D8:=aT4 (ba2 (P:=l.prog) (w:=w) (mg:=mg) (base:=base) h8.F) (h8.F.binds (ps:=["web"]) fun _ _ _ _ _ _ us hl=>by obtain ⟨_,rfl⟩:=nO hl; rfl) h8.F.kp (mg_of X G h8.a)
 have D9:=bb4 (P:=l.prog) (w:=w) (base:=base) B (h9.M X G) D1
 have D10:=bb6 (P:=l.prog) (w:=w) (base:=base) B (h10.M X G) D4
 have D11:=bb7 (P:=l.prog) (w:=w) (base:=base) B (h11.M X G) D3
 have D12:=bb9 (P:=l.prog) (w:=w) (base:=base) B (h12.M X G) D4
 have D13:=bc0 (P:=l.prog) (w:=w) (base:=base) B (h13.M X G) D3
 have D14:=bc1 (P:=l.prog) (w:=w) (base:=base) B (h14.M X G) D6
 have D15:=bc2 (P:=l.prog) (w:=w) (base:=base) B (h15.M X G) D6 D7
 have D16:=bc3 (P:=l.prog) (w:=w) (base:=base) B (h16.M X G) D8
 have D17:=bc5 (P:=l.prog) (w:=w) (base:=base) B (h17.M X G) D7
 have D18:=bc7 (P:=l.prog) (w:=w) (base:=base) B (h18.M X G) D0 D9
 have D19:=bc9 (P:=l.prog) (w:=w) (base:=base) B (h19.M X G) D11 D1
 have D20:=bd1 (P:=l.prog) (w:=w) (base:=base) B (h20.M X G) D1 D12
 have D21:=bd2 (P:=l.prog) (w:=w) (base:=base) B (h21.M X G) D3 D10
 have D22:=bd3 (P:=l.prog) (w:=w) (base:=base) B (h22.M X G) D14 D6 D7 D15
 have D23:=bd5 (P:=l.prog) (w:=w) (base:=base) B (h23.M X G) D16
 have D24:=bd7 (P:=l.prog) (w:=w) (base:=base) B (h24.M X G) D18 x_BadSet
 have D25:=bd8 (P:=l.prog) (w:=w) (base:=base) B (h25.M X G) D24 D3 D2 D20
 have D26:=bd9 (P:=l.prog) (w:=w) (base:=base) B (h26.M X G) D24 D21 D2
 have D27:=be0 (P:=l.prog) (w:=w) (base:=base) B (h27.M X G) D2 D24 D13 D11
 have D28:=be1 (P:=l.prog) (w:=w) (base:=base) B (h28.M X G) D25
 have D29:=be3 (P:=l.prog) (w:=w) (base:=base) B (h29.M X G) D27 D19
 have D30:=be4 (P:=l.prog) (w:=w) (base:=base) B (h30.M X G) D18 D26 D4 D3
 have D31:=be6 (P:=l.prog) (w:=w) (base:=base) B (h31.M X G) D28
 have D32:=be8 (P:=l.prog) (w:=w) (base:=base) B (h32.M X G) D1 D29
 have D33:=bf0 (P:=l.prog) (w:=w) (base:=base) B (h33.M X G) D31 D1
 have D34:=bf1 (P:=l.prog) (w:=w) (base:=base) B (h34.M X G) D32 D2 D29 D5
 have D35:=bf2 (P:=l.prog) (w:=w) (base:=base) B (h35.M X G) D2 D34 D5 rv
 have D36:=bf3 (P:=l.prog) (w:=w) (base:=base) B (h36.M X G) D18 D33 D30 x_NoPaper
 exact aL1 (bf4 B F37 D22 D35 D36 D17 D23)
theorem bf6 {l:OpenLaw}{q:Program}{loose:List Str}{XP:(Str->Option Value)->Heap->Prop}{YP:World->Heap->Prop}{d:DefRec}{K:Params->Frag} (hn:l.most=some 63) (hdf:d.params.defaults = [])
  (hY:∀ (w:World) (h:Heap),YP w h->(K w.params).In h)
  (F:∀ (w:World) (mg:Str->Option Value) (fa:Addr) (h:Heap),(K w.params).In h->h.Ns mainGlobals mg->mg d.name=some (.ref fa)->
   ∃ fd:FuncData,(∀ (s:Shared) (u:Value),BindsTo s fd ⟨[u],[]⟩ [("script",u)])/\∀ base:Heap,(K w.params).In base->base.Ns mainGlobals mg->cP l.prog w (K w.params) mg base dR 10 fa fd ["script"] (sS (K w.params))) :
  WalkO q loose XP YP l.row.toRowW d [] (fun f vs=>PySem.call f vs):=
 L2.av3 (n:=63) (k:=10) (x:="script") (CX:=fun _=>dR) (sp:=fun w=>sS (K w.params)) hn (by decide) hdf ⟨rfl,by decide,by decide⟩ hY F (fun _ _ a ns hl hO hS=>⟨a,ns,rfl,aL2 hO hS,hl,fun _=>rfl⟩) fun _ _ _ _ _ z=>z
end K_k51
open PySem PySem.W PyProof.Rows
theorem PySem.W.Fast.te13052408679150730464 : True := trivial
theorem PySem.W.Fast.te16555476440528808052 : True := trivial
theorem PySem.W.Fast.te5369427470323729400 : True := trivial
set_option maxRecDepth 100000 in
set_option maxHeartbeats 0 in
theorem PySem.Challenge.cw_kindleweb_k51_whole_no_fewer_seeds_in_wo_holds : PySem.Challenge.rw_kindleweb_k51_whole_no_fewer_seeds_in_wo.Holds := by
 w_on; o_law; k_head; (case hw => w_witness2)
 k_fill
 refine K_k51.bf6 (l := PySem.Challenge.rw_kindleweb_k51_whole_no_fewer_seeds_in_wo) rfl rfl (fun w h Y => PySem.W.kIn_of Y) ?F
 case F =>
  intro w mg fa h KX G hmg
  refine' K_k51.bf5 KX G hmg ?h0 ?h1 ?h2 ?h3 ?h4 ?h5 ?h6 ?h7 ?h8 ?h9 ?h10 ?h11 ?h12 ?h13 ?h14 ?h15 ?h16 ?h17 ?h18 ?h19 ?h20 ?h21 ?h22 ?h23 ?h24 ?h25 ?h26 ?h27 ?h28 ?h29 ?h30 ?h31 ?h32 ?h33 ?h34 ?h35 ?h36 ?a37 ?l37 ?c37 ?k37 ?z_len ?z_range ?z_tuple ?z_list ?z_sorted ?z_all ?z_any ?z_zip ?z_min ?z_max ?z_sum ?z_isinstance ?z_int ?z_bool ?z_enumerate ?z_reversed ?aX_HE ?aX_BS ?aX_NW ?aX_NP ?zX_BW ?zX_BO ?zX_BP ?zX_BB ?zX_BD ?zX_NS ?zX_TM ?zX_NT ?zX_OR ?y_fg ?y_ft ?z_VE ?y1_HE ?y2_HE ?y3_HE ?y4_HE ?y5_HE ?y6_HE ?y7_HE ?y1_BS ?y2_BS ?y3_BS ?y4_BS ?y5_BS ?y6_BS ?y7_BS ?y1_NW ?y2_NW ?y3_NW ?y4_NW ?y5_NW ?y6_NW ?y7_NW ?y1_NP ?y2_NP ?y3_NP ?y4_NP ?y5_NP ?y6_NP ?y7_NP ?q_BS ?q_NP
  (case h0 | h1 | h2 | h3 | h4 | h5 | h6 | h7 | h8 | h9 | h10 | h11 | h12 | h13 | h14 | h15 | h16 | h17 | h18 | h19 | h20 | h21 | h22 | h23 | h24 | h25 | h26 | h27 | h28 | h29 | h30 | h31 | h32 | h33 | h34 | h35 | h36 => exact ⟨by k_is, ⟨⟨_, _, _, _, _, _, _, _, _, rfl, by k_is, by k_is⟩, by k_is⟩⟩)
  (case a37|l37|c37|k37|z_len|z_range|z_tuple|z_list|z_sorted|z_all|z_any|z_zip|z_min|z_max|z_sum|z_isinstance|z_int|z_bool|z_enumerate|z_reversed|aX_HE|aX_BS|aX_NW|aX_NP|zX_BW|zX_BO|zX_BP|zX_BB|zX_BD|zX_NS|zX_TM|zX_NT|zX_OR|y_fg|y_ft|z_VE|y1_HE|y2_HE|y3_HE|y4_HE|y5_HE|y6_HE|y7_HE|y1_BS|y2_BS|y3_BS|y4_BS|y5_BS|y6_BS|y7_BS|y1_NW|y2_NW|y3_NW|y4_NW|y5_NW|y6_NW|y7_NW|y1_NP|y2_NP|y3_NP|y4_NP|y5_NP|y6_NP|y7_NP => k_is)
  (case q_BS|q_NP => k_exc)


