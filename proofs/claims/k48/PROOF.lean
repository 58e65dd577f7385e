import PyProof.Rows.All
import Wide.All
import OpenK.AllK
import Wide.FinOn
import Lean
import PyProof.EqAt
import PyProof.EqKinds
import PyProof.TupleCall
import PyProof.NeKinds
import PyProof.Draws
import PyProof.ZipIter
import PyProof.DictUpdate
import PyProof.AutoSeq1
import PyProof.ListRange
import PyProof.ListMulRoad
import PyProof.FactsAll.tuple_2
import PyProof.Rows.SortShell
import PyProof.EnumFor
import PyProof.EnumMake
import PyProof.EnumStmt
import PyProof.Rows.SortWalk
import KE.KDictList
import PyProof.SumAny
import PyProof.ConsumeWalk
import PyProof.WalksMore
import PyProof.Rows.TupAssign
import PyProof.ExcArgsOwn
import PySem.Challenge.RW_kindleweb_k48_woods_and_elders
set_option Elab.async false
set_option linter.all false
set_option maxRecDepth 100000
set_option maxHeartbeats 4000000
section
open PySem PySem.Spec PyProof.Rows
noncomputable def bg3:=@wpAny_bind
noncomputable def bg4:=@Heap.get?_push_of_some
noncomputable def bg5:=@List.size_toArray
noncomputable def bg6:=@List.mem_singleton
noncomputable def bg7:=@List.getElem?_eq_getElem
noncomputable def bg8:=@decide_eq_true
noncomputable def bg9:=@List.mem_of_getElem?
noncomputable def bh0:=@Nat.le_refl
noncomputable def bh1:=@List.length_map
noncomputable def bh2:=@List.mem_cons_self
noncomputable def bh3:=@List.getElem?_eq_some_iff
noncomputable def bh4:=@wpAny_pure
noncomputable def bh5:=@decide_eq_false
noncomputable def bh6:=@List.mem_append
noncomputable def bh7:=@List.getD_eq_getElem?_getD
noncomputable def bh8:=@List.mem_cons_of_mem
noncomputable def bh9:=@List.getElem?_map
noncomputable def bi0:=@List.mem_cons
noncomputable def bi1:=@wpS_bind
noncomputable def bi2:=@Nat.lt_of_lt_of_le
noncomputable def bi3:=@Bool.false_ne_true
noncomputable def bi4:=@List.length_append
noncomputable def bi5:=@Heap.lt_size
noncomputable def bi6:=@Heap.get?_push_size
noncomputable def bi7:=@wpS_pure
noncomputable def bi8:=@List.mem_map
noncomputable def bi9:=@List.mem_append_right
noncomputable def bj0:=@List.mem_filter
noncomputable def bj2:=@Bool.false_eq_true
noncomputable def bj3:=@List.mem_append_left
noncomputable def bj5:=@List.length_cons
noncomputable def bj7:=@List.getElem?_append_left
noncomputable def bj8:=@List.pairwise_singleton
noncomputable def bj9:=@Option.some.inj
noncomputable def bk1:=@Int.toNat_natCast
noncomputable def bk2:=@List.getElem?_set_ne
noncomputable def bk3:=@List.not_mem_nil
noncomputable def bk4:=@List.map_append
noncomputable def bk5:=@List.append_assoc
noncomputable def bk6:=@Nat.ne_of_lt
noncomputable def bk7:=@Nat.zero_le
noncomputable def bk8:=@List.length_singleton
noncomputable def bk9:=@decide_eq_true_eq
noncomputable def bl1:=@List.length_set
noncomputable def bl3:=@List.take_append_drop
noncomputable def bl4:=@Nat.le_trans
noncomputable def bl5:=@List.take_of_length_le
noncomputable def bl6:=@Bool.and_eq_true
noncomputable def bl7:=@Nat.le_of_lt
noncomputable def bl8:=@Array.getElem_mem
noncomputable def bl9:=@decide_eq_false_iff_not
noncomputable def bm0:=@Nat.lt_irrefl
noncomputable def bm1:=@List.length_filter_le
noncomputable def bm2:=@PySem.mem_of_lookup
noncomputable def bm3:=@Nat.lt_or_ge
noncomputable def bm4:=@List.map_cons
noncomputable def bm5:=@List.pairwise_append
noncomputable def bm6:=@List.append_nil
noncomputable def bn0:=@if_false
noncomputable def bn3:=@List.replicate_succ
noncomputable def bn4:=@Array.toList_append
noncomputable def bn5:=@List.pairwise_iff_getElem
noncomputable def bn7:=@PySem.W.kia_one
noncomputable def bn8:=@wpAny_call_entry
noncomputable def bn9:=@List.lookup_cons
noncomputable def bo0:=@List.getElem?_set_self
noncomputable def bo1:=@of_decide_eq_true
noncomputable def bo2:=@List.take_add_one
noncomputable def bo3:=@PyProof.Rows.callWith_type1
noncomputable def bo4:=@List.nodup_cons
noncomputable def bo6:=@Int.emod_nonneg
noncomputable def bo8:=@wpAny_mono
noncomputable def bo9:=@List.getElem?_append_right
noncomputable def bp0:=@beq_self_eq_true
noncomputable def bp1:=@PySem.F.plainAttrs_list
noncomputable def bp2:=@wpAny_holding
noncomputable def bp3:=@wpAny_newObj_type
noncomputable def bp4:=@List.pairwise_map
noncomputable def bp5:=@List.nodup_append
noncomputable def bp7:=@Classical.byContradiction
noncomputable def bp8:=@wpS_forRange
noncomputable def bp9:=@Bool.eq_iff_iff
noncomputable def bq0:=@List.getElem_mem
noncomputable def bq1:=@Nat.le_add_right
noncomputable def bq3:=@Int.le_refl
noncomputable def bq4:=@List.length_replicate
noncomputable def bq5:=@List.mem_iff_getElem?
noncomputable def bq6:=@List.Pairwise.nil
noncomputable def bq7:=@List.map_map
noncomputable def bq8:=@wpAny_callSpecial?_slot
noncomputable def bq9:=@List.getElem?_cons_succ
noncomputable def br1:=@or_false
noncomputable def br2:=@Int.emod_lt_of_pos
noncomputable def br3:=@Nat.ne_of_gt
noncomputable def br4:=@List.length_take
noncomputable def br5:=@List.all_eq_true
noncomputable def br8:=@wpAny_field
noncomputable def br9:=@Array.getElem?_toList
noncomputable def bs2:=@List.find?_cons
noncomputable def bs4:=@List.length_drop
noncomputable def bs5:=@List.take_length
noncomputable def bs6:=@List.filter_cons_of_neg
noncomputable def bs7:=@wpAny_truthy_bool
noncomputable def bs8:=@List.flatten_cons
noncomputable def bs9:=@Bool.and_false
noncomputable def bt0:=@Bool.eq_false_iff
noncomputable def bt1:=@Int.ne_of_lt
noncomputable def bt3:=@PyProof.Rows.slot_tuple_getitem
noncomputable def bt4:=@Calls.call_function_entry
noncomputable def bt5:=@List.filter_cons
noncomputable def bt6:=@List.all_cons
noncomputable def bt8:=@PySem.F.slot_list_append
noncomputable def bt9:=@PySem.F.type_list_append
noncomputable def bu2:=@List.mem_range
noncomputable def bu5:=@List.mem_of_mem_take
noncomputable def bu7:=@List.mem_singleton_self
noncomputable def bu8:=@List.filter_cons_of_pos
noncomputable def bu9:=@PassesOwn.never
noncomputable def bv2:=@Array.getD_eq_getD_getElem?
noncomputable def bv4:=@Nat.le_of_not_lt
noncomputable def bv5:=@List.mem_filterMap
noncomputable def bv7:=@wpAny_seqItems
noncomputable def bv8:=@wpAny_setField_rec
noncomputable def bv9:=@Nat.eq_or_lt_of_le
noncomputable def bw0:=@List.pairwise_cons
noncomputable def bw1:=@wpAny_execs_nil
noncomputable def bw2:=@wpAny_passesOwn
noncomputable def bw4:=@Int.le_of_lt
noncomputable def bw5:=@wpS_mono
noncomputable def bw6:=@True.intro
noncomputable def bw8:=@wpAny_newList
noncomputable def bx0:=@Heap.size_push
noncomputable def bx2:=@List.drop_take
noncomputable def bx3:=@wpAny_rule
end
namespace L2
open PySem PySem.Spec PyProof.Rows
noncomputable abbrev aI:=Sum Int Str
noncomputable def m9:aI->Value->Bool
 | .inl k,v=>Value.isInt k v
 | .inr x,v=>Value.isStrOf x v
noncomputable def ak8 (w:World):aI->Int
 | .inl k=>hashInt k
 | .inr x=>hashStr w x
theorem iP:∀ {k:aI}{v:Value},m9 k v=true->(∃ i t,k=Sum.inl i/\v=Value.int i t) ∨ (∃ x t,k=Sum.inr x/\v=Value.str x t)
 | .inl i,v,h=>by
  obtain ⟨t,e⟩:=Value.isInt_shape (k:=i) (v:=v) h
  exact .inl ⟨i,t,rfl,e⟩
 | .inr x,v,h=>by
  obtain ⟨t,e⟩:=Value.isStrOf_shape (x:=x) (v:=v) h
  exact .inr ⟨x,t,rfl,e⟩
theorem ak9 (i:Int) (t:Tok):m9 (.inl i) (.int i t)=true:=by simp [m9,Value.isInt]
theorem al0 (x:Str) (t:Tok):m9 (.inr x) (.str x t)=true:=by simp [m9,Value.isStrOf]
theorem al1 (a b:Int):decide ((Sum.inl a:aI)=Sum.inl b)=(a == b):=by
 by_cases e:a=b
 ·subst e; simp
 ·have h : ¬ (Sum.inl a:aI)=Sum.inl b:=fun q=>e (Sum.inl.inj q)
  rw [bh5 h]
  exact (beq_eq_false_iff_ne.mpr e).symm
theorem al2 (a b:Str):decide ((Sum.inr a:aI)=Sum.inr b)=decide (a=b):=by
 by_cases e:a=b
 ·subst e; simp
 ·have h : ¬ (Sum.inr a:aI)=Sum.inr b:=fun q=>e (Sum.inr.inj q)
  rw [bh5 h,bh5 e]
theorem al3 (a:Int) (b:Str):decide ((Sum.inl a:aI)=Sum.inr b)=false:=bh5 (fun q=>nomatch q)
theorem al4 (a:Str) (b:Int):decide ((Sum.inr a:aI)=Sum.inl b)=false:=bh5 (fun q=>nomatch q)
noncomputable def eV (prog:Program) (w:World):PySem.KeyKind prog w aI where
 is:=m9
 hash:=ak8 w
 inj:=fun v a b ha hb=>by
  rcases iP ha with ⟨i,t,rfl,rfl⟩ | ⟨x,t,rfl,rfl⟩
  ·rcases iP hb with ⟨j,u,rfl,e⟩ | ⟨y,u,rfl,e⟩
   ·injection e with e1 _; rw [e1]
   ·exact nomatch e
  ·rcases iP hb with ⟨j,u,rfl,e⟩ | ⟨y,u,rfl,e⟩
   ·exact nomatch e
   ·injection e with e1 _; rw [e1]
 byValue:=fun k v h=>by
  rcases iP h with ⟨i,t,rfl,rfl⟩ | ⟨x,t,rfl,rfl⟩ <;> rfl
 pyHash:=fun hv h=>by
  rcases iP hv with ⟨i,t,rfl,rfl⟩ | ⟨x,t,rfl,rfl⟩
  ·exact wpAny_pyHash_int h
  ·exact wpAny_pyHash_str h
 eqBool:=fun hu hv h=>by
  rcases iP hu with ⟨i,t,rfl,rfl⟩ | ⟨x,t,rfl,rfl⟩
  ·rcases iP hv with ⟨j,u,rfl,rfl⟩ | ⟨y,u,rfl,rfl⟩
   ·rw [al1] at h; exact wpAny_eqBool_int h
   ·rw [al3] at h; exact SeqAt.EqAt.int_str i t y u _ _ _ _ h
  ·rcases iP hv with ⟨j,u,rfl,rfl⟩ | ⟨y,u,rfl,rfl⟩
   ·rw [al4] at h; exact SeqAt.EqAt.str_int x t j u _ _ _ _ h
   ·rw [al2] at h; exact wpAny_eqBool_str h
 «strs»:=fun k x t v h=>by
  rcases iP h with ⟨i,u,rfl,e⟩ | ⟨y,u,rfl,e⟩
  ·exact nomatch e
  ·injection e with e1 _
   subst e1
   cases v <;> rfl
theorem al5 (prog:Program) (w:World) (i:Int) (t:Tok):(eV prog w).is (.inl i) (.int i t)=true:=ak9 i t
theorem al6 (prog:Program) (w:World) (x:Str) (t:Tok):(eV prog w).is (.inr x) (.str x t)=true:=al0 x t
inductive V where
 | non | bl (b:Bool) | int (i:Int) | str (x:Str) | byt (b:Array UInt8) | flt (b:UInt64) | ref (a:Addr) | ty (n:String)
 deriving DecidableEq
noncomputable def aV:V->Value->Prop
 | .non,u=>u=Value.none
 | .bl b,u=>u=Value.bool b
 | .int i,u=>∃ t,u=Value.int i t
 | .str x,u=>∃ t,u=Value.str x t
 | .byt b,u=>∃ t,u=Value.bytes b t
 | .flt b,u=>∃ t,u=Value.float b t
 | .ref a,u=>u=Value.ref a
 | .ty n,u=>u=Value.type n
noncomputable abbrev aM:List V->List Value->Prop:=Paired aV
theorem aM.length {xs:List V}{us:List Value} (r:aM xs us):xs.length=us.length:=Paired.length r
theorem aM.get:∀ {xs:List V}{us:List Value}{i:Nat}{x:V},aM xs us->xs[i]? = some x->∃ u,us[i]? = some u/\aV x u
 | _,_,_,_,.nil,e=>by simp at e
 | _,_,0,_,.cons r _,e=>by simp at e; subst e; exact⟨_,rfl,r⟩
 | _,_,i+1,x,.cons _ t,e=>by
  obtain ⟨u,h1,h2⟩:=aM.get (i:=i) (x:=x) t (by simpa using e)
  exact⟨u,by simpa using h1,h2⟩
theorem aM.set {x:V}{u:Value} (r:aV x u):∀ {xs:List V}{us:List Value} (i:Nat),aM xs us->aM (xs.set i x) (us.set i u)
 | _,_,_,.nil=>.nil
 | _,_,0,.cons _ t=>.cons r t
 | _,_,i+1,.cons q t=>.cons q (aM.set r i t)
theorem aM.append:∀ {xs ys:List V}{us ws:List Value},aM xs us->aM ys ws->aM (xs ++ ys) (us ++ ws)
 | _,_,_,_,.nil,s=>s
 | _,_,_,_,.cons r t,s=>.cons r (aM.append t s)
theorem aM.take:∀ {xs:List V}{us:List Value} (n:Nat),aM xs us->aM (xs.take n) (us.take n)
 | _,_,0,_=>.nil
 | _,_,_+1,.nil=>.nil
 | _,_,n+1,.cons r t=>.cons r (aM.take n t)
theorem aM.drop:∀ {xs:List V}{us:List Value} (n:Nat),aM xs us->aM (xs.drop n) (us.drop n)
 | _,_,0,r=>r
 | _,_,_+1,.nil=>.nil
 | _,_,n+1,.cons _ t=>aM.drop n t
noncomputable def kS:Option V->Option Value->Prop
 | some v,some u=>aV v u
 | none,none=>True
 | _,_=>False
noncomputable def KV {κ:Type}:List (κ × V)->List (κ × Value)->Prop:=Paired fun (p:κ × V) (q:κ × Value)=>p.1=q.1/\aV p.2 q.2
noncomputable def kV:aI->V
 | .inl i=>.int i
 | .inr x=>.str x
inductive HO where
 | lst (xs:List V)
 | tup (xs:List V)
 | dK (kvs:List (aI × V)) | dT (kvs:List (List aI × V))
 | set (S:Int->Bool) (n:Nat)
 | ins (C dx:Addr) (fs:List (Str × V))
 | own (x:Addr)
 | xd (fs:List (Str × V))
 | met (f x:Addr)
 | rng (lo hi:Int)
 | frz (o:Obj) (u:HO)
 | tbl (ps:Array Value)
 | ext (φ:Heap->Prop)
noncomputable abbrev Hp:=Addr->Option HO
noncomputable def upd (H:Hp) (a:Addr) (o:HO):Hp:=fun b=>if b=a then some o else H b
theorem bK {H:Hp}{a:Addr}{o:HO}:upd H a o a=some o:=by unfold upd; rw [if_pos rfl]
theorem aW {H:Hp}{a b:Addr}{o:HO} (h:b ≠ a):upd H a o b=H b:=by unfold upd; rw [if_neg h]
theorem al7 {H:Hp}{a b:Addr}{o u:HO} (h:H a=some o) (h':H b=some u) (d:o ≠ u):a ≠ b:=by
 intro e; subst e; rw [h] at h'; exact d (bj9 h')
theorem dP {H:Hp}{a b:Addr}{o:HO} (h:H a=some o) (h':H b=none):a ≠ b:=by
 intro e; subst e; rw [h] at h'; cases h'
noncomputable def iQ (h:Heap) (a:Addr):Prop:=∀ o,h.get? a=some o->o.dict=none
theorem iQ.new (h:Heap) (o:Obj) (d:o.dict=none) (s:o.isFreed=false:=by rfl):iQ (h.push o) h.objs.size:=fun u e=>by
 rw [bi6 h (o:=o) s] at e
 cases e; exact d
theorem iQ.stay {h h':Heap}{a:Addr}{o:Obj} (n:iQ h a) (e:h.get? a=some o) (e':h'.get? a=some o):iQ h' a:=fun u hu=>by
 rw [e'] at hu; cases hu; exact n _ e
section
variable (P : Program) (w : World)
noncomputable def bT (H:Hp) (h:Heap) (a:Addr):HO->Prop
 | .lst xs=>xs.length<=sizeLine/\∃ (its:List Value) (n:Nat),aM xs its/\h.get? a=some { cls:=.type "list",data:=.seq its.toArray n }
 | .tup xs=>xs.length<=sizeLine/\∃ its:List Value,aM xs its/\IsTup h a its.toArray/\iQ h a
 | .dK kvs=>kvs.length<=sizeLine/\(a == sysModules)=false/\∃ vs,KV kvs vs/\h.DictOf (eV P w) a vs
 | .dT kvs=>kvs.length<=sizeLine/\(a == sysModules)=false/\∃ xs:List (List aI × Addr × Value),
   Paired (fun (p:List aI × V) (q:List aI × Addr × Value)=>p.1=q.1/\H q.2.1=some (.tup (p.1.map kV))/\aV p.2 q.2.2) kvs xs/\
   ∃ o es ep,h.get? a=some o/\o.ExactDict/\o.data = .dict es ep/\es.toList=xs.map (entryOfKey (tupleKind (eV P w)))/\(xs.map (·.1)).Nodup
 | .set S n=>h.SetOf (intKind P w) a S n
 | .ins C dx fs=>H dx=some (.own a)/\fs.length<=1000/\dx ≠ a/\h.get? a=some (PySem.W.instObj C dx)/\
   ∃ mA,h.Ns1 dx mA/\(∀ f,kS (fs.lookup f) (mA f))/\PySem.Within mA (fs.map (·.1))
 | .own _=>∃ o,h.get? a=some o
 | .xd fs=>∃ mA,h.Ns1 a mA/\∀ f,kS (fs.lookup f) (mA f)
 | .rng lo hi=>∃ t u v,h.get? a=some { cls:=.type "range",data:=.fields #[.int lo t,.int hi u,.int 1 v] }
 | .frz o u=>h.get? a=some o/\bT H h a u
 | .tbl ps=>h.get? a=some { cls:=.none,data:=.fields ps }
 | .met f x=>h.get? a=some (PySem.W.methodObj (.ref f) (.ref x))
 | .ext φ=>φ h/\(∃ o,h.get? a=some o)/\∀ h1 h2:Heap,φ h1->(∀ o,h1.get? a=some o->h2.get? a=some o)->φ h2
noncomputable def bV (H:Hp) (h:Heap):Prop:=∀ a o,H a=some o->bT P w H h a o
end
section
variable {P : Program} {w : World} {H H' : Hp} {h h' : Heap} {a : Addr} {o : HO}
theorem bT.lt (x:bT P w H h a o):a < h.objs.size:=by
 cases o with
 | lst xs=>obtain ⟨_,_,_,_,e⟩:=x; exact bi5 e
 | tup xs=>obtain ⟨_,_,_,p,_⟩:=x; exact p.lt
 | dK kvs=>obtain ⟨_,_,_,_,o,_,_,e,_⟩:=x; exact bi5 e
 | dT kvs=>obtain ⟨_,_,_,_,o,_,_,e,_⟩:=x; exact bi5 e
 | set S n=>obtain ⟨o,_,_,_,e,_⟩:=x; exact bi5 e
 | ins C dx fs=>obtain ⟨_,_,_,e,_⟩:=x; exact bi5 e
 | own y=>obtain ⟨_,e⟩:=x; exact bi5 e
 | xd fs=>obtain ⟨_,⟨_,_,_,e,_⟩,_⟩:=x; exact bi5 e
 | rng lo hi=>obtain ⟨_,_,_,e⟩:=x; exact bi5 e
 | frz ob u=>obtain ⟨e,_⟩:=x; exact bi5 e
 | tbl ps=>exact bi5 (show h.get? a=some _ from x)
 | met f y=>exact bi5 (show h.get? a=some _ from x)
 | ext φ=>obtain ⟨_,⟨_,e⟩,_⟩:=x; exact bi5 e
theorem Paired.mapP {α β:Type}{F G:α->β->Prop}:∀ {l₁:List α}{l₂:List β},Paired F l₁ l₂->(∀ a b,F a b->G a b)->Paired G l₁ l₂
 | _,_,.nil,_=>.nil
 | _,_,.cons r t,f=>.cons (f _ _ r) (Paired.mapP t f)
theorem bT.stay (x:bT P w H h a o) (k:∀ b u,(b=a ∨ H b=some (.own a))->h.get? b=some u->h'.get? b=some u)
  (ho:∀ b,H b=some (.own a)->H' b=some (.own a)) (ht:∀ b xs,H b=some (.tup xs)->H' b=some (.tup xs)):bT P w H' h' a o:=by
 induction o with
 | lst xs=>obtain ⟨z,its,n,r,e⟩:=x; exact⟨z,its,n,r,k _ _ (.inl rfl) e⟩
 | tup xs=>obtain ⟨z,its,r,⟨ob,e,c⟩,nd⟩:=x; exact⟨z,its,r,⟨ob,k _ _ (.inl rfl) e,c⟩,nd.stay e (k _ _ (.inl rfl) e)⟩
 | dK kvs=>obtain ⟨z,y,vs,r,ob,es,ep,e,c⟩:=x; exact⟨z,y,vs,r,ob,es,ep,k _ _ (.inl rfl) e,c⟩
 | dT kvs=>
  obtain ⟨z,y,xs,r,ob,es,ep,e,c⟩:=x
  exact⟨z,y,xs,Paired.mapP r fun p q z=>⟨z.1,ht _ _ z.2.1,z.2.2⟩,ob,es,ep,k _ _ (.inl rfl) e,c⟩
 | set S n=>obtain ⟨ob,es,ep,t,e,c⟩:=x; exact⟨ob,es,ep,t,k _ _ (.inl rfl) e,c⟩
 | ins C dx fs=>
  obtain ⟨d,z,ne,e,mA,⟨od,es,ep,e2,c⟩,r⟩:=x
  exact⟨ho _ d,z,ne,k _ _ (.inl rfl) e,mA,⟨od,es,ep,k _ _ (.inr d) e2,c⟩,r⟩
 | own y=>obtain ⟨ob,e⟩:=x; exact⟨ob,k _ _ (.inl rfl) e⟩
 | xd fs=>obtain ⟨mA,⟨od,es,ep,e,c⟩,r⟩:=x; exact⟨mA,⟨od,es,ep,k _ _ (.inl rfl) e,c⟩,r⟩
 | rng lo hi=>obtain ⟨t,u,v,e⟩:=x; exact⟨t,u,v,k _ _ (.inl rfl) e⟩
 | frz ob u ih=>obtain ⟨e,q⟩:=x; exact⟨k _ _ (.inl rfl) e,ih q⟩
 | tbl ps=>
  have e:h.get? a=some { cls:=.none,data:=.fields ps }:=x
  show h'.get? a=some { cls:=.none,data:=.fields ps }
  exact k a _ (.inl rfl) e
 | met f y=>
  have e:h.get? a=some (PySem.W.methodObj (.ref f) (.ref y)):=x
  show h'.get? a=some (PySem.W.methodObj (.ref f) (.ref y))
  exact k a _ (.inl rfl) e
 | ext φ=>obtain ⟨p,⟨o,e⟩,st⟩:=x; exact⟨st _ _ p fun o q=>k _ _ (.inl rfl) q,⟨o,k _ _ (.inl rfl) e⟩,st⟩
theorem bV.lt (x:bV P w H h) (e:H a=some o):a < h.objs.size:=(x a o e).lt
theorem bV.fresh (x:bV P w H h) (e:h.objs.size<=a):H a=none:=by
 cases q:H a with
 | none=>rfl
 | some u=>exact absurd (bi2 (x.lt q) e) (bm0 _)
theorem bV.kept (x:bV P w H h) (k:∀ b u,h.get? b=some u->h'.get? b=some u):bV P w H h':=fun a o e=>
 (x a o e).stay (fun b u _ q=>k b u q) (fun _ q=>q) fun _ _ q=>q
theorem bV.laid (x:bV P w H h) (k:∀ b u,h.get? b=some u->h'.get? b=some u) (hp:h.objs.size<=a) (new:bT P w (upd H a o) h' a o):bV P w (upd H a o) h':=fun b u e=>by
 have hn:=x.fresh hp
 by_cases hb:b=a
 ·subst hb; rw [bK] at e; cases e; exact new
 ·rw [aW hb] at e
  exact (x b u e).stay (fun c v _ q=>k c v q) (fun c q=>by rw [aW (dP q hn)]; exact q) fun c xs q=>by rw [aW (dP q hn)]; exact q
end
noncomputable def Rd (H:Hp) (a:Addr) (u:HO):Prop:=H a=some u ∨ ∃ o,H a=some (.frz o u)
theorem Rd.ok {P:Program}{w:World}{H:Hp}{h:Heap}{a:Addr}{u:HO} (r:Rd H a u) (x:bV P w H h):bT P w H h a u:=by
 rcases r with r | ⟨o,r⟩
 ·exact x a u r
 ·obtain ⟨_,q⟩:=x a _ r
  exact q
noncomputable def nZ:Option HO->Prop
 | some (.lst _)=>True
 | some (.dK _)=>True
 | some (.dT _)=>True
 | some (.set _ _)=>True
 | some (.ins _ _ _)=>True
 | some (.ext _)=>True
 | _=>False
section
variable {P : Program} {w : World} {H : Hp} {h h' : Heap} {x e : Addr} {o' : HO}
theorem bV.write (ok:bV P w H h) (mu:nZ (H x)) (he:e=x ∨ H e=some (.own x)) (k:∀ b u,b ≠ e->h.get? b=some u->h'.get? b=some u) (heo:∃ u,h'.get? e=some u)
  (new:bT P w (upd H x o') h' x o'):bV P w (upd H x o') h':=fun b u q=>by
 have nown:∀ c y,H c=some (.own y)->c ≠ x:=fun c y r z=>by subst z; rw [r] at mu; exact mu
 have ntup:∀ c xs,H c=some (.tup xs)->c ≠ x:=fun c xs r z=>by subst z; rw [r] at mu; exact mu
 by_cases hb:b=x
 ·subst hb; rw [bK] at q; cases q; exact new
 ·rw [aW hb] at q
  by_cases hbe:b=e
  ·have q':H b=some (.own x):=by
    rcases he with z | z
    ·exact absurd (hbe.trans z) hb
    ·rw [hbe]; exact z
   rw [q] at q'; cases q'
   obtain ⟨v,hv⟩:=heo
   exact⟨v,by rw [hbe]; exact hv⟩
  ·refine (ok b u q).stay (fun c v hc r=>k c v ?_ r) (fun c r=>by rw [aW (nown c b r)]; exact r) fun c xs r=>by rw [aW (ntup c xs r)]; exact r
   rcases hc with rfl | hc
   ·exact hbe
   ·rintro rfl
    rcases he with z | z
    ·exact nown c b hc z
    ·rw [hc] at z; cases z; exact hb rfl
end
structure Un (fs ex:List Addr) (H H':Hp) (h h':Heap):Prop where
 keep:∀ b o,h.get? b=some o->H b=none->b ∉ fs->b ∉ ex->h'.get? b=some o
 slot:∀ b o,h.get? b=some o->H b=none->b ∈ fs->b ∉ ex->∃ sl,h'.get? b=some { o with slots:=sl }
 free:∀ b o,h.get? b=some o->H b=none->b ∉ ex->H' b=none
 there:∀ b o,h.get? b=some o->b ∉ ex->∃ o',h'.get? b=some o'
 tups:∀ b xs,H b=some (.tup xs)->H' b=some (.tup xs)
 frzs:∀ b o u,H b=some (.frz o u)->H' b=some (.frz o u)
 tbls:∀ b ps,H b=some (.tbl ps)->∃ more,H' b=some (.tbl (ps ++ more))
section
variable {fs fs' ex ex' : List Addr} {H H1 H2 : Hp} {h h1 h2 h' : Heap} {a x e : Addr} {o : HO}
theorem Un.any (u:Un fs ex H H1 h h1) {b:Addr}{ob:Obj} (q:h.get? b=some ob) (n:H b=none) (hx:b ∉ ex):∃ sl,h1.get? b=some { ob with slots:=sl }:=by
 by_cases hb:b ∈ fs
 ·exact u.slot b ob q n hb hx
 ·exact⟨ob.slots,u.keep b ob q n hb hx⟩
theorem Un.kept (k:∀ b u,h.get? b=some u->h'.get? b=some u):Un fs ex H H h h':=
 ⟨fun b ob q _ _ _=>k b ob q,fun b ob q _ _ _=>⟨ob.slots,k b ob q⟩,fun _ _ _ n _=>n,fun b ob q _=>⟨ob,k b ob q⟩,fun _ _ q=>q,fun _ _ _ q=>q,fun _ ps q=>⟨#[],by rw [q]; simp⟩⟩
theorem Un.refl:Un fs ex H H h h:=Un.kept fun _ _ q=>q
theorem Un.laid (k:∀ b u,h.get? b=some u->h'.get? b=some u) (hp:h.objs.size<=a) (hn:H a=none):Un fs ex H (upd H a o) h h' where
 keep:=fun b u q _ _ _=>k b u q
 slot:=fun b u q _ _ _=>⟨u.slots,k b u q⟩
 free:=fun b u q n _=>by rw [aW (bk6 (bi2 (bi5 q) hp))]; exact n
 there:=fun b u q _=>⟨u,k b u q⟩
 tups:=fun b xs q=>by rw [aW (dP q hn)]; exact q
 frzs:=fun b u xs q=>by rw [aW (dP q hn)]; exact q
 tbls:=fun b ps q=>⟨#[],by rw [aW (dP q hn),q]; simp⟩
theorem Un.write (mu:nZ (H x)) (he:e=x ∨ H e=some (.own x)) (k:∀ b u,b ≠ e->h.get? b=some u->h'.get? b=some u) (heo:∃ u,h'.get? e=some u):Un fs ex H (upd H x o) h h':=by
 have hx:∀ b,H b=none->b ≠ x:=fun b n z=>by subst z; rw [n] at mu; exact mu
 have hb:∀ b,H b=none->b ≠ e:=fun b n z=>by
  subst z
  rcases he with r | r
  ·exact hx b n r
  ·rw [n] at r; cases r
 have hm:∀ b u,H b=some u->¬ nZ (some u)->b ≠ x:=fun b u q nm z=>by subst z; rw [q] at mu; exact nm mu
 refine⟨fun b u q n _ _=>k b u (hb b n) q,fun b u q n _ _=>⟨u.slots,k b u (hb b n) q⟩,fun b u q n _=>by rw [aW (hx b n)]; exact n,fun b u q _=>?_,
  fun b xs q=>by rw [aW (hm b _ q fun z=>z)]; exact q,fun b u xs q=>by rw [aW (hm b _ q fun z=>z)]; exact q,fun b ps q=>⟨#[],by rw [aW (hm b _ q fun z=>z),q]; simp⟩⟩
 by_cases hbe:b=e
 ·subst hbe; exact heo
 ·exact⟨u,k b u hbe q⟩
end
noncomputable def qA (h:Heap) (H:Hp):List Addr:=(List.range h.objs.size).filter fun a=>(H a).isSome
noncomputable def iZ (h:Heap) (H:Hp):Heap:=PySem.W.hideAll h (qA h H)
theorem al8 (h:Heap) (H:Hp):(iZ h H).objs.size=h.objs.size:=PySem.W.hideAll_size _ _
theorem al9 {h:Heap}{H:Hp}{b:Addr}{o:Obj} (e:h.get? b=some o) (n:H b=none):(iZ h H).get? b=some o:=
 PySem.W.hideAll_get _ e fun hm=>by
  have q:(H b).isSome=true:=(bj0.mp hm).2
  rw [n] at q; simp at q
theorem am0 {h:Heap}{H:Hp}{b:Addr}{o:Obj} (e:(iZ h H).get? b=some o):h.get? b=some o/\H b=none:=by
 have e':h.get? b=some o:=PySem.W.of_hideAll (qA h H) e
 refine⟨e',?_⟩
 cases q:H b with
 | none=>rfl
 | some x=>
  have hm:b ∈ qA h H:=bj0.mpr ⟨bu2.mpr (bi5 e'),by simp [q]⟩
  have z:(iZ h H).get? b=none:=PySem.W.hideAll_none (qA h H) hm
  rw [z] at e; cases e
noncomputable def o0 (g h:Heap) (L:Addr):List (Addr × Obj):=(List.range h.objs.size).filterMap fun a=>if a=L ∨ (g.get? a).isSome=true then none else (h.get? a).map fun o=>(a,o)
theorem u8 {g h:Heap}{L a:Addr}{o:Obj} (h1:a ≠ L) (h2:g.get? a=none) (h3:h.get? a=some o):(a,o) ∈ o0 g h L:=
 bv5.mpr ⟨a,bu2.mpr (bi5 h3),by simp [h1,h2,h3]⟩
theorem am1 {g h:Heap}{L:Addr}{p:Addr × Obj} (hp:p ∈ o0 g h L):p.1 ≠ L/\g.get? p.1=none/\h.get? p.1=some p.2:=by
 obtain ⟨b,_,e⟩:=bv5.mp hp
 split at e
 ·cases e
 ·rename_i hn
  cases q:h.get? b with
  | none=>rw [q] at e; simp at e
  | some u=>
   rw [q] at e
   simp only [Option.map_some,Option.some.injEq] at e
   subst e
   refine⟨fun z=>hn (.inl z),?_,q⟩
   show g.get? b=none
   cases r:g.get? b with
   | none=>rfl
   | some v=>exact (hn (.inr (by simp [r]))).elim
noncomputable def cN (g h:Heap) (L d:Addr):List (Addr × Obj):=(o0 g h L).filter fun p=>decide (p.1 ≠ d)
theorem zU {g h:Heap}{L:Addr}:News g L h (o0 g h L):=fun p hp=>let ⟨a,b,c⟩:=am1 hp; ⟨c,a,b⟩
structure Mod (K:PySem.W.Frag) (mg:Str->Option Value) (base:Heap):Prop where
 kin:K.In base
 glob:base.Ns mainGlobals mg
 blt:∃ mb,base.Ns builtinsNs mb/\∀ x:Str,x ≠ "__name__"->mb x=bootBuiltins x
 nolimit:base.NoLimit
structure Cx where
 prog:Program
 w:World
 K:PySem.W.Frag
 mg:Str->Option Value
 base:Heap
 A:Around
 N:List Str
 s₀:Shared
 H₀:Hp
 env:Env
 outer:List Env
 stack:List Env
 ex:List Addr
 fn:Str->Bool
 calm:Bool
 pn:List (Addr × Obj)
 xe:Value->Shared->Prop
noncomputable def bQ (l:List Env):List Addr:=l.filterMap (·.frame)
noncomputable abbrev Cx.fs (X:Cx):List Addr:=bQ X.outer
noncomputable def gG (sc:Scope) (x:Str):Prop:=sc.names.lookup x=some .local ∨ sc.names.lookup x=some .cell ∨ sc.names.lookup x=some .free
noncomputable def gT (sc:Scope) (x:Str):Prop:=sc.names.lookup x=some .local ∨ sc.names.lookup x=some .cell
noncomputable def am2 (env:Env) (h:Heap) (m:Str->Option Value) (x:Str) (u:Value):Prop:=
 (env.kindOf x=some .local/\m x=some u) ∨ ((env.kindOf x=some .cell ∨ env.kindOf x=some .free)/\∃ c,env.cells.lookup x=some c/\h.IsCell c (some u))
structure Cx.Ok (X:Cx):Prop where
 mod:Mod X.K X.mg X.base
 kind:X.env.scope.kind = .function
 glob:X.env.globals=mainGlobals
 blt:X.env.builtins=builtinsNs
 above:X.s₀.heap.objs.size<=X.env.locals
 inj:∀ x y c,X.env.cells.lookup x=some c->X.env.cells.lookup y=some c->x=y
 has:∀ x,(X.env.kindOf x=some .cell ∨ X.env.kindOf x=some .free)->∃ c,X.env.cells.lookup x=some c
 cab:∀ x c,X.fn x=true->X.env.cells.lookup x=some c->X.s₀.heap.objs.size<=c
 hd:X.calm=true->X.A.handled=none
 frames:X.A.frames=some X.stack
 stk:X.stack=X.outer ∨ (X.stack=X.env :: X.outer/\X.env.frame=some X.env.locals)
 exf:∀ b ∈ X.ex,b ≠ X.env.locals/\∀ x c,X.env.cells.lookup x=some c->c ≠ b
 bs:∀ b o,X.base.get? b=some o->X.s₀.heap.get? b=some o/\X.H₀ b=none
 bsz:X.base.objs.size<=X.s₀.heap.objs.size
 noex:∀ b o,X.base.get? b=some o->b ∉ X.ex
 exfs:∀ b ∈ X.ex,b ∉ X.fs
 funs:X.s₀.heap.FunFrames X.base X.outer
 frf:∀ b ∈ X.fs,X.H₀ b=none
structure a6 (X:Cx) (pins:List (Addr × Obj)) (σ:List (Option V)) (H:Hp) (s:Shared):Prop where
 ok:X.Ok
 os:s.os=X.s₀.os
 bare:AllBare s.gens
 base:Un X.fs X.ex X.H₀ H X.s₀.heap s.heap
 loc:∃ m,s.heap.Ns X.env.locals m/\∀ (i:Nat) (x:Str) (v:V),X.N[i]? = some x->σ[i]? = some (some v)->gG X.env.scope x->∃ u,aV v u/\am2 X.env s.heap m x u
 cell:∀ x c,X.env.cells.lookup x=some c->∃ v,s.heap.IsCell c v
 free:H X.env.locals=none
 freeC:∀ x c,X.env.cells.lookup x=some c->H c=none
 pin:∀ p ∈ X.pn ++ pins,s.heap.get? p.1=some p.2/\H p.1=none/\p.1 ≠ X.env.locals/\p.1 ∉ X.fs/\∀ v,p.2.data ≠ .cell v
 hok:bV X.prog X.w H s.heap
 len:σ.length=X.N.length
section
variable {X : Cx} {pins : List (Addr × Obj)} {σ : List (Option V)} {H H' : Hp} {s : Shared} {h' : Heap}
theorem Cx.Ok.nofr (ok:X.Ok) {b:Addr}{o:Obj} (e:X.base.get? b=some o):b ∉ X.fs:=fun hb=>by
 have:=(ok.funs.mem hb).1
 rw [e] at this; cases this
theorem a6.bs (I:a6 X pins σ H s):∀ b o,X.base.get? b=some o->s.heap.get? b=some o/\H b=none:=fun b o e=>
 ⟨I.base.keep b o (I.ok.bs b o e).1 (I.ok.bs b o e).2 (I.ok.nofr e) (I.ok.noex b o e),I.base.free b o (I.ok.bs b o e).1 (I.ok.bs b o e).2 (I.ok.noex b o e)⟩
theorem a6.bk (I:a6 X pins σ H s):∀ b o,X.base.get? b=some o->s.heap.get? b=some o:=fun b o e=>(I.bs b o e).1
theorem a6.mod (I:a6 X pins σ H s):Mod X.K X.mg X.base:=I.ok.mod
theorem a6.kIn (I:a6 X pins σ H s):X.K.In s.heap:=I.ok.mod.kin.keeps I.bk
theorem a6.fr (I:a6 X pins σ H s):∃ m,Fr X.base X.env.locals s.heap m:=
 let ⟨m,hn,_⟩:=I.loc
 ⟨m,hn,I.bk,bl4 I.ok.bsz I.ok.above⟩
theorem a6.lt (I:a6 X pins σ H s):X.env.locals < s.heap.objs.size:=let ⟨_,hn,_⟩:=I.loc; hn.lt
theorem a6.sz (I:a6 X pins σ H s):X.s₀.heap.objs.size<=s.heap.objs.size:=bl4 I.ok.above (bl7 I.lt)
theorem a6.nofs (I:a6 X pins σ H s) {a:Addr} (h:s.heap.objs.size<=a):a ∉ X.fs:=fun hb=>by
 obtain ⟨_,o,ho,_⟩:=I.ok.funs.mem hb
 exact absurd (bi2 (bi5 ho) (bl4 I.sz h)) (bm0 _)
theorem a6.cne (I:a6 X pins σ H s):∀ x c,X.env.cells.lookup x=some c->c ≠ X.env.locals:=fun x c e z=>by
 obtain ⟨v,o,ho,hd⟩:=I.cell x c e
 obtain ⟨m,⟨o',es,ep,ho',hd',_⟩,_⟩:=I.loc
 rw [z,ho'] at ho; cases ho; rw [hd'] at hd; cases hd
theorem a6.funs (I:a6 X pins σ H s):s.heap.FunFrames X.base X.outer:=by
 have all:∀ (l:List Env),(∀ b ∈ bQ l,b ∈ X.fs)->X.s₀.heap.FunFrames X.base l->s.heap.FunFrames X.base l:=by
  intro l
  induction l with
  | nil=>intro _ _; trivial
  | cons env r ih=>
   intro hs hl
   obtain ⟨hk,⟨L,o,hf,hn,ho,hd⟩,hr⟩:=hl
   have hL:L ∈ X.fs:=hs L (by unfold bQ; rw [List.filterMap_cons,hf]; exact bh2)
   obtain ⟨sl,e⟩:=I.base.slot L o ho (I.ok.frf L hL) hL fun z=>I.ok.exfs L z hL
   exact⟨hk,⟨L,_,hf,hn,e,hd⟩,ih (fun b hb=>hs b (by unfold bQ; rw [List.filterMap_cons,hf]; exact bh8 _ hb)) hr⟩
 exact all X.outer (fun _ hb=>hb) I.ok.funs
theorem a6.stack (I:a6 X pins σ H s):s.heap.FunFrames X.base X.stack:=by
 rcases I.ok.stk with e | ⟨e,hf⟩
 ·rw [e]; exact I.funs
 ·rw [e]
  obtain ⟨m,hn,_⟩:=I.loc
  refine .cons (by rw [I.ok.kind]; decide) hf hn ?_ I.funs
  exact Heap.get?_none_of_le (bl4 I.ok.bsz I.ok.above)
theorem a6.stkSub (I:a6 X pins σ H s):∀ b ∈ bQ X.stack,b ∈ X.env.locals :: X.fs:=fun b hb=>by
 rcases I.ok.stk with e | ⟨e,hf⟩
 ·rw [e] at hb; exact bh8 _ hb
 ·rw [e] at hb
  unfold bQ at hb
  rw [List.filterMap_cons,hf] at hb
  exact hb
theorem a6.stkFree (I:a6 X pins σ H s):∀ b ∈ bQ X.stack,H b=none:=fun b hb=>by
 rcases bi0.mp (I.stkSub b hb) with e | hb
 ·rw [e]; exact I.free
 ·obtain ⟨_,o,ho,_⟩:=I.ok.funs.mem hb
  exact I.base.free b o ho (I.ok.frf b hb) fun z=>I.ok.exfs b z hb
theorem a6.step {g':Array GenState}{t':Nat}{d':Drawn}{ch:List Addr} (I:a6 X pins σ H s)
  (hch:∀ b ∈ ch,(b ∈ X.ex ∨ X.s₀.heap.objs.size<=b)/\b ≠ X.env.locals/\(∀ x c,X.env.cells.lookup x=some c->c ≠ b)/\∀ p ∈ X.pn ++ pins,p.1 ≠ b)
  (keep:∀ b o,b ≠ X.env.locals->b ∉ X.fs->b ∉ ch->s.heap.get? b=some o->H b=none->h'.get? b=some o)
  (slot:∀ b o,b ≠ X.env.locals->b ∈ X.fs->b ∉ ch->s.heap.get? b=some o->H b=none->∃ sl,h'.get? b=some { o with slots:=sl }) (free:∀ b o,b ∉ ch->s.heap.get? b=some o->H b=none->H' b=none)
  (there:∀ b o,b ∉ ch->s.heap.get? b=some o->∃ o',h'.get? b=some o')
  (tups:∀ b xs,H b=some (.tup xs)->H' b=some (.tup xs)) (frzs:∀ b o u,H b=some (.frz o u)->H' b=some (.frz o u)) (tbls:∀ b ps,H b=some (.tbl ps)->∃ more,H' b=some (.tbl (ps ++ more)))
  (ns:∀ m,s.heap.Ns X.env.locals m->h'.Ns X.env.locals m) (hok:bV X.prog X.w H' h') (hg:AllBare g') :
  a6 X pins σ H' { s with heap:=h',gens:=g',drawn:=d',toks:=t' }:=by
 have neL:∀ b o,X.s₀.heap.get? b=some o->b ≠ X.env.locals:=fun b o e=>bk6 (bi2 (bi5 e) I.ok.above)
 have neC:∀ b o,X.s₀.heap.get? b=some o->b ∉ X.ex->b ∉ ch:=fun b o e hx hb=>by
  rcases (hch b hb).1 with z | z
  ·exact hx z
  ·exact absurd (bi2 (bi5 e) z) (bm0 _)
 have cellK:∀ x c,X.env.cells.lookup x=some c->∀ v,s.heap.IsCell c v->h'.IsCell c v:=fun x c e v ⟨o,ho,hd⟩=>by
  have nch:c ∉ ch:=fun z=>(hch c z).2.2.1 x c e rfl
  by_cases hc:c ∈ X.fs
  ·obtain ⟨sl,q⟩:=slot c o (I.cne x c e) hc nch ho (I.freeC x c e)
   exact⟨_,q,hd⟩
  ·exact⟨o,keep c o (I.cne x c e) hc nch ho (I.freeC x c e),hd⟩
 refine⟨I.ok,I.os,hg,⟨fun b o e n hb hx=>?_,fun b o e n hb hx=>?_,fun b o e n hx=>?_,fun b o e hx=>?_,fun b xs e=>tups b xs (I.base.tups b xs e),fun b o xs e=>frzs b o xs (I.base.frzs b o xs e),fun b ps e=>?_⟩,?_,fun x c e=>?_,?_,fun x c e=>?_,fun p hp=>?_,hok,I.len⟩
 ·exact keep b o (neL b o e) hb (neC b o e hx) (I.base.keep b o e n hb hx) (I.base.free b o e n hx)
 ·obtain ⟨sl,e1⟩:=I.base.slot b o e n hb hx
  obtain ⟨sl',e2⟩:=slot b _ (neL b o e) hb (neC b o e hx) e1 (I.base.free b o e n hx)
  exact⟨sl',e2⟩
 ·obtain ⟨o',e1⟩:=I.base.there b o e hx
  exact free b o' (neC b o e hx) e1 (I.base.free b o e n hx)
 ·obtain ⟨o',e1⟩:=I.base.there b o e hx
  exact there b o' (neC b o e hx) e1
 ·obtain ⟨m1,e1⟩:=I.base.tbls b ps e
  obtain ⟨m2,e2⟩:=tbls b _ e1
  exact⟨m1 ++ m2,by rw [e2,Array.append_assoc]⟩
 ·obtain ⟨m,hn,hl⟩:=I.loc
  refine⟨m,ns m hn,fun i x v e1 e2 e3=>?_⟩
  obtain ⟨u,r,l⟩:=hl i x v e1 e2 e3
  refine⟨u,r,?_⟩
  rcases l with l | ⟨k,c,e,z⟩
  ·exact .inl l
  ·exact .inr ⟨k,c,e,cellK x c e _ z⟩
 ·obtain ⟨v,z⟩:=I.cell x c e
  exact⟨v,cellK x c e v z⟩
 ·obtain ⟨m,⟨o,_,_,ho,_⟩,_⟩:=I.loc
  exact free _ o (fun z=>(hch _ z).2.1 rfl) ho I.free
 ·obtain ⟨v,o,ho,hd⟩:=I.cell x c e
  exact free c o (fun z=>(hch c z).2.2.1 x c e rfl) ho (I.freeC x c e)
 ·obtain ⟨e,n,ne,nf,d⟩:=I.pin p hp
  have nch:p.1 ∉ ch:=fun z=>(hch p.1 z).2.2.2 p hp rfl
  exact⟨keep p.1 p.2 ne nf nch e n,free p.1 p.2 nch e n,ne,nf,d⟩
theorem a6.un {t':Nat} (I:a6 X pins σ H s) (u:Un X.fs [] H H' s.heap h') (hok:bV X.prog X.w H' h'):a6 X pins σ H' { s with heap:=h',toks:=t' }:=by
 obtain ⟨m,⟨o,es,ep,ho,r⟩,_⟩:=id I.loc
 obtain ⟨sl,hL⟩:=u.any ho I.free (by simp)
 exact I.step (g':=s.gens) (d':=s.drawn) (ch:=[]) (fun _ z=>nomatch z) (fun b o _ hb _ e n=>u.keep b o e n hb (by simp)) (fun b o _ hb _ e n=>u.slot b o e n hb (by simp)) (fun b o _ e n=>u.free b o e n (by simp)) (fun b o _ e=>u.there b o e (by simp)) u.tups u.frzs u.tbls (fun m' hm=>by
  obtain ⟨o',es',ep',ho',r'⟩:=hm
  rw [ho] at ho'; cases ho'
  exact⟨_,es',ep',hL,r'⟩) hok I.bare
theorem a6.call {g':Array GenState}{t':Nat}{d':Drawn}{ch:List Addr} (I:a6 X pins σ H s) (u:Un (bQ X.stack) ch H H' s.heap h') (hok:bV X.prog X.w H' h') (hg:AllBare g')
  (hch:∀ b ∈ ch,(b ∈ X.ex ∨ X.s₀.heap.objs.size<=b)/\b ≠ X.env.locals/\(∀ x c,X.env.cells.lookup x=some c->c ≠ b)/\∀ p ∈ X.pn ++ pins,p.1 ≠ b) :
  a6 X pins σ H' { s with heap:=h',gens:=g',drawn:=d',toks:=t' }:=by
 obtain ⟨m,⟨o,es,ep,ho,r⟩,_⟩:=id I.loc
 obtain ⟨sl,hL⟩:=u.any ho I.free fun z=>(hch _ z).2.1 rfl
 exact I.step (ch:=ch) hch (fun b o hL hb hc e n=>u.keep b o e n (fun z=>(bi0.mp (I.stkSub b z)).elim hL hb) hc) (fun b o _ _ hc e n=>u.any e n hc) (fun b o hc e n=>u.free b o e n hc) (fun b o hc e=>u.there b o e hc) u.tups u.frzs u.tbls (fun m' hm=>by
  obtain ⟨o',es',ep',ho',r'⟩:=hm
  rw [ho] at ho'; cases ho'
  exact⟨_,es',ep',hL,r'⟩) hok hg
theorem a6.turned {t':Nat}{it:Addr} (I:a6 X pins σ H s) (k:∀ b o,b ≠ it->s.heap.get? b=some o->h'.get? b=some o) (hn:H it=none) (hL:it ≠ X.env.locals)
  (h1:it ∈ X.ex ∨ X.s₀.heap.objs.size<=it) (h2:∀ x c,X.env.cells.lookup x=some c->c ≠ it) (h3:∀ p ∈ X.pn ++ pins,p.1 ≠ it):a6 X pins σ H { s with heap:=h',toks:=t' }:=by
 have nit:∀ b u,H b=some u->b ≠ it:=fun b u e z=>by rw [z,hn] at e; cases e
 refine I.step (g':=s.gens) (d':=s.drawn) (ch:=[it]) (fun b hb=>?_) (fun b o _ _ hc e _=>k b o (fun z=>hc (by simp [z])) e) (fun b o _ _ hc e _=>⟨o.slots,k b o (fun z=>hc (by simp [z])) e⟩) (fun _ _ _ _ n=>n)
  (fun b o hc e=>⟨o,k b o (fun z=>hc (by simp [z])) e⟩) (fun _ _ e=>e) (fun _ _ _ e=>e) (fun b ps e=>⟨#[],by rw [e]; simp⟩) (fun m hm=>?_) (fun b u e=>?_) I.bare
 ·have e:b=it:=by simpa using hb
  subst e
  exact⟨h1,hL,h2,h3⟩
 ·obtain ⟨o,es,ep,ho,r⟩:=hm
  exact⟨o,es,ep,k _ o (Ne.symm hL) ho,r⟩
 ·refine (I.hok b u e).stay (fun c v hc q=>k c v ?_ q) (fun _ q=>q) fun _ _ q=>q
  rcases hc with z | z
  ·rw [z]; exact nit b u e
  ·exact nit c _ z
theorem a6.tok (I:a6 X pins σ H s) (t:Nat):a6 X pins σ H { s with toks:=t }:=I.un (h':=s.heap) (t':=t) Un.refl I.hok
theorem a6.kept {t':Nat} (I:a6 X pins σ H s) (k:∀ b u,s.heap.get? b=some u->h'.get? b=some u):a6 X pins σ H { s with heap:=h',toks:=t' }:=I.un (Un.kept k) (I.hok.kept k)
theorem a6.laid {a:Addr}{o:HO}{t':Nat} (I:a6 X pins σ H s) (k:∀ b u,s.heap.get? b=some u->h'.get? b=some u) (hp:s.heap.objs.size<=a) (new:bT X.prog X.w (upd H a o) h' a o) :
  a6 X pins σ (upd H a o) { s with heap:=h',toks:=t' }:=I.un (Un.laid k hp (I.hok.fresh hp)) (I.hok.laid k hp new)
theorem a6.write {x e:Addr}{o:HO}{t':Nat} (I:a6 X pins σ H s) (mu:nZ (H x)) (he:e=x ∨ H e=some (.own x)) (k:∀ b u,b ≠ e->s.heap.get? b=some u->h'.get? b=some u) (heo:∃ u,h'.get? e=some u)
  (new:bT X.prog X.w (upd H x o) h' x o):a6 X pins σ (upd H x o) { s with heap:=h',toks:=t' }:=I.un (Un.write mu he k heo) (I.hok.write mu he k heo new)
theorem a6.weak {σ':List (Option V)} (I:a6 X pins σ H s) (hl:σ'.length=σ.length) (w:∀ (i:Nat) v,σ'[i]? = some (some v)->σ[i]? = some (some v)):a6 X pins σ' H s:=
 ⟨I.ok,I.os,I.bare,I.base,let ⟨m,hn,hl'⟩:=I.loc; ⟨m,hn,fun i x v e1 e2 e3=>hl' i x v e1 (w i v e2) e3⟩,I.cell,I.free,I.freeC,I.pin,I.hok,hl.trans I.len⟩
theorem a6.pins_of {pins':List (Addr × Obj)} (I:a6 X pins σ H s) (h:∀ p ∈ pins',s.heap.get? p.1=some p.2/\H p.1=none/\p.1 ≠ X.env.locals/\p.1 ∉ X.fs/\∀ v,p.2.data ≠ .cell v):a6 X pins' σ H s:=
 ⟨I.ok,I.os,I.bare,I.base,I.loc,I.cell,I.free,I.freeC,fun p hp=>(bh6.mp hp).elim (fun z=>I.pin p (bj3 _ z)) (h p),I.hok,I.len⟩
theorem u9 {N:List Str} (hN:N.Nodup) {i j:Nat}{x:Str} (a:N[i]? = some x) (b:N[j]? = some x):i=j:=by
 obtain ⟨h1,e1⟩:=bh3.mp a
 obtain ⟨h2,e2⟩:=bh3.mp b
 exact (List.getElem_inj hN).mp (e1.trans e2.symm)
theorem uA {M:Model}{A:Around}{E:Value->Shared->Prop}{i:Nat}{x:Str}{v:V}{u:Value}{Q:Unit->Shared->Prop} (I:a6 X pins σ H s) (hN:X.N.Nodup) (hi:X.N[i]? = some x) (hx:gT X.env.scope x) (r:aV v u)
  (h:∀ s',a6 X pins (σ.set i (some v)) H s'->(∃ a,Heap.SameBut a s.heap s'.heap/\(a=X.env.locals ∨ X.env.cells.lookup x=some a))->Q () s') (hf:X.fn x=true ∨ X.env.scope.names.lookup x=some .local:=by first | exact .inl rfl | exact .inr rfl | assumption):wpAny M A (storeName X.env x u) Q E s:=by
 obtain ⟨m,hn,hl⟩:=id I.loc
 have hcls:(X.env.scope.kind == .class || (X.env.scope.kind == .module && X.env.locals != X.env.globals))=false:=by rw [I.ok.kind]; rfl
 have hiσ:i < σ.length:=by rw [I.len]; exact (bh3.mp hi).1
 have cne:=I.cne
 have tracked:∀ {a:Addr}{h':Heap},(∃ o,s.heap.get? a=some o/\H a=none)->Heap.SameBut a s.heap h'->bV X.prog X.w H h':=fun {a h'} ha hs b ob e=>by
  obtain ⟨_,_,hfree⟩:=ha
  refine (I.hok b ob e).stay (fun c w' hc q=>(hs.2 c ?_).trans q) (fun _ q=>q) fun _ _ q=>q
  rintro rfl
  rcases hc with rfl | hc
  ·rw [hfree] at e; cases e
  ·rw [hfree] at hc; cases hc
 rcases hx with hk | hk
 ·refine wpAny_storeName_local hk hn (fun h' hn' hs=>?_) hcls
  obtain ⟨oL,_,_,hoL,_⟩:=id hn
  refine h _ ⟨I.ok,I.os,I.bare,⟨fun b o e n hb hx=>?_,fun b o e n hb hx=>?_,I.base.free,fun b o e hx=>?_,I.base.tups,I.base.frzs,I.base.tbls⟩,⟨_,hn',fun j y v' e1 e2 e3=>?_⟩,fun y c e=>?_,I.free,I.freeC,fun p hp=>?_,tracked ⟨oL,hoL,I.free⟩ hs,by simpa using I.len⟩ ⟨_,hs,.inl rfl⟩
  ·exact (hs.2 b (bk6 (bi2 (bi5 e) I.ok.above))).trans (I.base.keep b o e n hb hx)
  ·obtain ⟨sl,e1⟩:=I.base.slot b o e n hb hx
   exact⟨sl,(hs.2 b (bk6 (bi2 (bi5 e) I.ok.above))).trans e1⟩
  ·obtain ⟨o',e1⟩:=I.base.there b o e hx
   exact⟨o',(hs.2 b (bk6 (bi2 (bi5 e) I.ok.above))).trans e1⟩
  ·by_cases hj:j=i
   ·subst hj
    rw [hi] at e1; cases e1
    rw [bo0 hiσ] at e2
    cases e2
    exact⟨u,r,.inl ⟨hk,by simp⟩⟩
   ·rw [bk2 (Ne.symm hj)] at e2
    obtain ⟨u',r',q⟩:=hl j y v' e1 e2 e3
    refine⟨u',r',?_⟩
    rcases q with ⟨k,e⟩ | ⟨k,c,e,z⟩
    ·refine .inl ⟨k,?_⟩
     have:y ≠ x:=fun e=>hj (u9 hN e1 (e ▸ hi))
     simp [this,e]
    ·exact .inr ⟨k,c,e,z.sameBut hs (cne y c e)⟩
  ·obtain ⟨w',z⟩:=I.cell y c e
   exact⟨w',z.sameBut hs (cne y c e)⟩
  ·obtain ⟨e,n,ne,nf,d⟩:=I.pin p hp
   exact⟨(hs.2 p.1 ne).trans e,n,ne,nf,d⟩
 ·have hfn:X.fn x=true:=by
   rcases hf with z | z
   ·exact z
   ·rw [z] at hk; cases hk
  obtain ⟨c,hc⟩:=I.ok.has x (.inl hk)
  obtain ⟨w',z⟩:=I.cell x c hc
  refine wpAny_storeName_cell I.ok.kind hk hc z (fun h' hc' hs=>?_)
  obtain ⟨oc,hoc,hocd⟩:=id z
  refine h { s with heap:=h' } ⟨I.ok,I.os,I.bare,⟨fun b o e n hb hx=>?_,fun b o e n hb hx=>?_,I.base.free,fun b o e hx=>?_,I.base.tups,I.base.frzs,I.base.tbls⟩,⟨m,hn.sameBut hs (Ne.symm (cne x c hc)),fun j y v' e1 e2 e3=>?_⟩,fun y c' e=>?_,I.free,I.freeC,fun p hp=>?_,tracked ⟨oc,hoc,I.freeC x c hc⟩ hs,by simpa using I.len⟩ ⟨c,hs,.inr hc⟩
  ·exact (hs.2 b (bk6 (bi2 (bi5 e) (I.ok.cab x c hfn hc)))).trans (I.base.keep b o e n hb hx)
  ·obtain ⟨sl,e1⟩:=I.base.slot b o e n hb hx
   exact⟨sl,(hs.2 b (bk6 (bi2 (bi5 e) (I.ok.cab x c hfn hc)))).trans e1⟩
  ·obtain ⟨o',e1⟩:=I.base.there b o e hx
   exact⟨o',(hs.2 b (bk6 (bi2 (bi5 e) (I.ok.cab x c hfn hc)))).trans e1⟩
  ·by_cases hj:j=i
   ·subst hj
    rw [hi] at e1; cases e1
    rw [bo0 hiσ] at e2
    cases e2
    exact⟨u,r,.inr ⟨.inl hk,c,hc,hc'⟩⟩
   ·rw [bk2 (Ne.symm hj)] at e2
    obtain ⟨u',r',q⟩:=hl j y v' e1 e2 e3
    refine⟨u',r',?_⟩
    rcases q with q | ⟨k,c',e,z'⟩
    ·exact .inl q
    ·refine .inr ⟨k,c',e,z'.sameBut hs ?_⟩
     rintro rfl
     exact hj (u9 hN e1 (I.ok.inj _ _ _ e hc ▸ hi))
  ·by_cases hcc:c'=c
   ·subst hcc; exact⟨_,hc'⟩
   ·obtain ⟨w2,z2⟩:=I.cell y c' e
    exact⟨w2,z2.sameBut hs hcc⟩
  ·obtain ⟨e,n,ne,nf,d⟩:=I.pin p hp
   refine⟨(hs.2 p.1 ?_).trans e,n,ne,nf,d⟩
   intro q
   rw [q,hoc] at e
   have q':oc=p.2:=bj9 e
   exact d w' (by rw [<- q']; exact hocd)
theorem uB {M:Model}{A:Around}{E:Value->Shared->Prop}{i:Nat}{x:Str}{v:V}{u:Value}{Q:Unit->Shared->Prop} (I:a6 X pins σ H s) (hN:X.N.Nodup) (hi:X.N[i]? = some x) (hx:gT X.env.scope x) (r:aV v u)
  (h:∀ s',a6 X pins (σ.set i (some v)) H s'->Q () s') (hf:X.fn x=true ∨ X.env.scope.names.lookup x=some .local:=by first | exact .inl rfl | exact .inr rfl | assumption):wpAny M A (storeName X.env x u) Q E s:=
 uA I hN hi hx r (fun s' I' _=>h s' I') hf
theorem a6.call' {s':Shared}{ch:List Addr} (I:a6 X pins σ H s) (ho:s'.os=s.os) (u:Un (bQ X.stack) ch H H' s.heap s'.heap) (hok:bV X.prog X.w H' s'.heap) (hg:AllBare s'.gens)
  (hch:∀ b ∈ ch,(b ∈ X.ex ∨ X.s₀.heap.objs.size<=b)/\b ≠ X.env.locals/\(∀ x c,X.env.cells.lookup x=some c->c ≠ b)/\∀ p ∈ X.pn ++ pins,p.1 ≠ b):a6 X pins σ H' s':=by
 obtain ⟨h',g',d',t',o'⟩:=s'
 have e:o'=s.os:=ho
 subst e
 exact I.call (g':=g') (t':=t') (d':=d') u hok hg hch
end
noncomputable abbrev XK:=Value->Option Addr->Hp->Prop
noncomputable abbrev St:=List (Option V)
noncomputable abbrev VK:=V->Hp->Prop
noncomputable abbrev TE:=St->Hp->VK->Prop
noncomputable abbrev TT:=St->Hp->(Bool->Hp->Prop)->Prop
noncomputable abbrev TA:=St->Hp->(List V->Hp->Prop)->Prop
structure cT where
 nx:St->Hp->Prop
 rt:VK
 bk:St->Hp->Prop:=fun _ _=>False
 ct:St->Hp->Prop:=fun _ _=>False
noncomputable abbrev TS:=cT->St->Hp->Prop
noncomputable def EP (X:Cx) (pins:List (Addr × Obj)) (σ:St) (Q:VK) (u:Value) (s':Shared):Prop:=∃ v H',a6 X pins σ H' s'/\aV v u/\Q v H'
noncomputable def TP (X:Cx) (pins:List (Addr × Obj)) (σ:St) (Q:Bool->Hp->Prop) (b:Bool) (s':Shared):Prop:=∃ H',a6 X pins σ H' s'/\Q b H'
noncomputable def AP (X:Cx) (pins:List (Addr × Obj)) (σ:St) (Q:List V->Hp->Prop) (us:List Value) (s':Shared):Prop:=∃ vs H',a6 X pins σ H' s'/\aM vs us/\Q vs H'
noncomputable def SP (X:Cx) (pins:List (Addr × Obj)) (D:cT) (f:Flow) (s':Shared):Prop:=
 match f with
 | .next=>∃ σ' H',a6 X pins σ' H' s'/\D.nx σ' H'
 | .brk=>∃ σ' H',a6 X pins σ' H' s'/\D.bk σ' H'
 | .cont=>∃ σ' H',a6 X pins σ' H' s'/\D.ct σ' H'
 | .ret u=>∃ v σ' H',a6 X pins σ' H' s'/\aV v u/\D.rt v H'
noncomputable def PE (X:Cx) (e:Expr) (t:TE):Prop:=
 ∀ (pins:List (Addr × Obj)) (s:Shared) (σ:St) (H:Hp) (Q:VK),a6 X pins σ H s->t σ H Q->wpAny (model X.prog X.w) X.A (eval e X.env) (EP X pins σ Q) X.xe s
noncomputable def PT (X:Cx) (e:Expr) (t:TT):Prop:=
 ∀ (pins:List (Addr × Obj)) (s:Shared) (σ:St) (H:Hp) (Q:Bool->Hp->Prop),a6 X pins σ H s->t σ H Q->wpAny (model X.prog X.w) X.A (isTrue e X.env (eval e X.env)) (TP X pins σ Q) X.xe s
noncomputable def PW (X:Cx) (e:Expr) (t:TT):Prop:=
 ∀ (whole:Sem Value) (pins:List (Addr × Obj)) (s:Shared) (σ:St) (H:Hp) (Q:Bool->Hp->Prop),a6 X pins σ H s->t σ H Q->wpAny (model X.prog X.w) X.A (isTrue e X.env whole) (TP X pins σ Q) X.xe s
theorem PW.pt {X:Cx}{e:Expr}{t:TT} (h:PW X e t):PT X e t:=h _
noncomputable def PA (X:Cx) (es:List Expr) (t:TA):Prop:=
 ∀ (pos:Pos) (pins:List (Addr × Obj)) (s:Shared) (σ:St) (H:Hp) (Q:List V->Hp->Prop),a6 X pins σ H s->t σ H Q->wpAny (model X.prog X.w) X.A (spliced (backTo pos (starEach es X.env))) (AP X pins σ Q) X.xe s
noncomputable def PS (X:Cx) (st:Stmt) (t:TS):Prop:=
 ∀ (pins:List (Addr × Obj)) (s:Shared) (σ:St) (H:Hp) (D:cT),a6 X pins σ H s->t D σ H->wpAny (model X.prog X.w) X.A (exec st X.env) (SP X pins D) X.xe s
noncomputable def dW (X:Cx) (st:List Stmt) (t:TS):Prop:=
 ∀ (pins:List (Addr × Obj)) (s:Shared) (σ:St) (H:Hp) (D:cT),a6 X pins σ H s->t D σ H->wpAny (model X.prog X.w) X.A (execs st X.env) (SP X pins D) X.xe s
theorem aO {α:Type}{t:Sem α}{Q Q':α->Shared->Prop}{M:Model}{A:Around}{E:Value->Shared->Prop}{s:Shared} (h:wpAny M A t Q E s) (hQ:∀ a s,Q a s->Q' a s):wpAny M A t Q' E s:=bo8 h hQ fun _ _ x=>x
section
variable {X : Cx}
theorem bin {a b:Expr}{ta tb:TE} (ha:PE X a ta) (hb:PE X b tb) {pins:List (Addr × Obj)}{s:Shared}{σ:St}{H:Hp}{R:V->V->Hp->Prop} (I:a6 X pins σ H s) (h:ta σ H fun x H1=>tb σ H1 fun y H2=>R x y H2)
  {α:Type}{Q:α->Shared->Prop}{f:Value->Value->Sem α}
  (hf:∀ v u s2 x y H2,a6 X pins σ H2 s2->aV x v->aV y u->R x y H2->wpAny (model X.prog X.w) X.A (f v u) Q X.xe s2) :
  wpAny (model X.prog X.w) X.A (eval a X.env) (fun v s₁=>wpAny (model X.prog X.w) X.A (eval b X.env) (fun u s₂=>wpAny (model X.prog X.w) X.A (f v u) Q X.xe s₂) X.xe s₁) X.xe s:=by
 refine aO (ha pins s σ H _ I h) fun v s1 ⟨x,H1,I1,r1,q1⟩=>?_
 refine aO (hb pins s1 σ H1 _ I1 q1) fun u s2 ⟨y,H2,I2,r2,q2⟩=>?_
 exact hf v u s2 x y H2 I2 r1 r2 q2
noncomputable def i8 (i:Nat):TE:=fun σ H Q=>∃ v,σ[i]? = some (some v)/\Q v H
noncomputable def tC (v:V):TE:=fun _ H Q=>Q v H
theorem iR {i:Nat}{x:Str}{pos:Pos} (hN:X.N[i]? = some x) (hv:gG X.env.scope x) (hd:(x == ("__debug__" : Str))=false:=by decide) (hcd:(x == ("__classdict__" : Str))=false:=by decide):PE X (.Name x pos) (i8 i):=by
 intro pins s σ H Q I h
 obtain ⟨v,e,h⟩:=h
 obtain ⟨m,hn,hl⟩:=I.loc
 obtain ⟨u,r,l⟩:=hl i x v hN e hv
 have fin:EP X pins σ Q u s:=⟨v,H,I,r,h⟩
 rcases l with ⟨hk,hm⟩ | ⟨hk,c,hc,hcell⟩
 ·exact wpAny_Name (wpAny_loadName_local I.ok.kind hk hn hm fin) hd
 ·rcases hk with hk | hk
  ·exact wpAny_Name (wpAny_loadName_cell I.ok.kind hk hc hcell fin) hd
  ·exact wpAny_Name (wpAny_loadName_free I.ok.kind hk hc hcell fin hcd) hd
theorem kT {i j pos}:PE X (.Constant (.int i) j pos) (tC (.int i)):=fun _ _ _ H _ I h=>wpAny_Constant_int ⟨.int i,H,I.tok _,⟨_,rfl⟩,h⟩
theorem zV {b j pos}:PE X (.Constant (.bool b) j pos) (tC (.bl b)):=fun _ _ _ H _ I h=>Constant_bool ⟨.bl b,H,I,rfl,h⟩
theorem am3 {j pos}:PE X (.Constant .none j pos) (tC .non):=fun _ _ _ H _ I h=>Constant_none ⟨.non,H,I,rfl,h⟩
theorem am4 {x j pos}:PE X (.Constant (.str x) j pos) (tC (.str x)):=fun _ _ _ H _ I h=>Calls.Constant_str ⟨.str x,H,I.tok _,⟨_,rfl⟩,h⟩
noncomputable def Gl (X:Cx) (x:Str):Prop:=X.env.kindOf x=some .globalImplicit
theorem o4 {E:Value->Shared->Prop}{pins:List (Addr × Obj)}{s:Shared}{σ:St}{H:Hp}{x:Str}{u:Value}{pos:Pos}{Q:Value->Shared->Prop} (I:a6 X pins σ H s) (hg:Gl X x) (hm:X.mg x=some u) (h:Q u s)
  (hd:(x == ("__debug__" : Str))=false:=by decide):wpAny (model X.prog X.w) X.A (eval (.Name x pos) X.env) Q E s:=
 Calls.Name_function_global I.ok.kind hg (Calls.loadGlobal_global (by rw [I.ok.glob]; exact I.mod.glob.keeps I.bk) hm h) hd
theorem j4 {E:Value->Shared->Prop}{pins:List (Addr × Obj)}{s:Shared}{σ:St}{H:Hp}{x:Str}{u:Value}{pos:Pos}{Q:Value->Shared->Prop} (I:a6 X pins σ H s) (hg:Gl X x) (hm:X.mg x=none) (hv:bootBuiltins x=some u) (h:Q u s)
  (hn:x ≠ "__name__":=by decide) (hd:(x == ("__debug__" : Str))=false:=by decide):wpAny (model X.prog X.w) X.A (eval (.Name x pos) X.env) Q E s:=by
 obtain ⟨mb,h1,h2⟩:=I.mod.blt
 exact Calls.Name_function_global I.ok.kind hg (Calls.loadGlobal_builtin (by rw [I.ok.glob]; exact I.mod.glob.keeps I.bk) hm (by rw [I.ok.blt]; exact h1.keeps I.bk) ((h2 x hn).trans hv) h) hd
theorem am5 {x:Str}{v:V}{u:Value}{pos:Pos} (hg:Gl X x) (hm:X.mg x=some u) (r:aV v u) (hd:(x == ("__debug__" : Str))=false:=by decide):PE X (.Name x pos) (tC v):=
 fun _ _ _ H _ I h=>o4 I hg hm ⟨v,H,I,r,h⟩ hd
theorem zW {x:Str}{v:V}{u:Value}{pos:Pos} (hg:Gl X x) (hm:X.mg x=none) (hv:bootBuiltins x=some u) (r:aV v u) (hn:x ≠ "__name__":=by decide) (hd:(x == ("__debug__" : Str))=false:=by decide):PE X (.Name x pos) (tC v):=
 fun _ _ _ H _ I h=>j4 I hg hm hv ⟨v,H,I,r,h⟩ hn hd
variable {a b : Expr} {ta tb : TE} {pos : Pos}
noncomputable def PC (X:Cx) (op:CmpOp) (a b:Expr) (t:TE):Prop:=
 ∀ (pins:List (Addr × Obj)) (s:Shared) (σ:St) (H:Hp) (Q:VK),a6 X pins σ H s->t σ H Q->
  wpAny (model X.prog X.w) X.A (eval a X.env) (fun v s₁=>wpAny (model X.prog X.w) X.A (eval b X.env) (fun u s₂=>wpAny (model X.prog X.w) X.A (compareOp op v u) (EP X pins σ Q) X.xe s₂) X.xe s₁) X.xe s
noncomputable def tB (t:TE):TT:=fun σ H Q=>t σ H fun x H1=>∃ c,x = .bl c/\Q c H1
theorem zX {op:CmpOp}{t:TE} (h:PC X op a b t) (h1:behindInMarks op b=false:=by first | exact nobehind _ (by decide) (by decide) | rfl):PT X (.Compare a [op] [b] pos) (tB t):=by
 intro pins s σ H Q I hw
 refine wpAny_isTrue_Compare1 (aO (h pins s σ H _ I hw) fun v s1 h1=>aO h1 fun u s2 h2=>aO h2 fun c s3 ⟨x,H1,I1,r1,q1⟩=>?_) h1
 obtain ⟨d,rfl,q⟩:=q1
 cases r1
 exact bs7 ⟨H1,I1,q⟩
theorem am6 {e:Expr}{t:TE} (h:PE X e t) (he:∀ whole,isTrue e X.env whole=(do let v <- whole; standAt e.pos; holding [v] (truthy v)):=by intro _; rfl):PT X e (tB t):=by
 intro pins s σ H Q I hw
 refine isTrue_plain (aO (h pins s σ H _ I hw) fun v s1 ⟨x,H1,I1,r1,q1⟩=>?_) (he _)
 obtain ⟨d,rfl,q⟩:=q1
 cases r1
 exact bs7 ⟨H1,I1,q⟩
variable {tA tB' : TT} {cN : List Expr}
noncomputable def zY (t u:TT):TT:=fun σ H Q=>t σ H fun c H1=>if c=true then u σ H1 Q else Q false H1
noncomputable def zZ (t u:TT):TT:=fun σ H Q=>t σ H fun c H1=>if c=true then Q true H1 else u σ H1 Q
noncomputable def A0 (t:TT):TT:=fun σ H Q=>t σ H fun c H1=>Q (!c) H1
theorem am7 (ha:PT X a tA):PW X (.BoolOp .And [a] pos) tA:=by
 intro wh pins s σ H Q I h
 refine isTrue_and (aO (ha pins s σ H Q I h) fun c s1 e=>?_)
 cases c with
 | true=>exact isTrue_and_nil e
 | false=>exact e
theorem am8 (ha:PT X a tA):PW X (.BoolOp .Or [a] pos) tA:=by
 intro wh pins s σ H Q I h
 refine isTrue_or (aO (ha pins s σ H Q I h) fun c s1 e=>?_)
 cases c with
 | false=>exact isTrue_or_nil e
 | true=>exact e
theorem am9 (ha:PT X a tA) (hb:PW X (.BoolOp .And (b :: cN) pos) tB'):PW X (.BoolOp .And (a :: b :: cN) pos) (zY tA tB'):=by
 intro wh pins s σ H Q I h
 refine isTrue_and (aO (ha pins s σ H _ I h) fun c s1 ⟨H1,I1,q1⟩=>?_)
 cases c with
 | true=>exact hb wh pins s1 σ H1 Q I1 q1
 | false=>exact⟨H1,I1,q1⟩
theorem an0 (ha:PT X a tA) (hb:PW X (.BoolOp .Or (b :: cN) pos) tB'):PW X (.BoolOp .Or (a :: b :: cN) pos) (zZ tA tB'):=by
 intro wh pins s σ H Q I h
 refine isTrue_or (aO (ha pins s σ H _ I h) fun c s1 ⟨H1,I1,q1⟩=>?_)
 cases c with
 | true=>exact⟨H1,I1,q1⟩
 | false=>exact hb wh pins s1 σ H1 Q I1 q1
theorem an1 (ha:PT X a tA):PT X (.UnaryOp .Not a pos) (A0 tA):=by
 intro pins s σ H Q I h
 exact isTrue_not (ha pins s σ H (fun c H1=>Q (!c) H1) I h)
noncomputable def A1 (ta tb:TE):TE:=fun σ H Q=>ta σ H fun x H1=>∃ c,x = .bl c/\if c=true then tb σ H1 Q else Q (.bl false) H1
noncomputable def A2 (ta tb:TE):TE:=fun σ H Q=>ta σ H fun x H1=>∃ c,x = .bl c/\if c=true then Q (.bl true) H1 else tb σ H1 Q
noncomputable def A3 (ta:TE):TE:=fun σ H Q=>ta σ H fun x H1=>∃ c,x = .bl c/\Q (.bl (!c)) H1
theorem an2 {op}{t:TE} (h:PE X a t):PE X (.BoolOp op [a] pos) t:=fun pins s σ H Q I hw=>BoolOp_one (h pins s σ H Q I hw)
theorem an3 (ha:PE X a ta) (hb:PE X (.BoolOp .And (b :: cN) pos) tb):PE X (.BoolOp .And (a :: b :: cN) pos) (A1 ta tb):=by
 intro pins s σ H Q I h
 refine BoolOp_and (aO (ha pins s σ H _ I h) fun v s1 ⟨x,H1,I1,r1,q1⟩=>?_)
 obtain ⟨c,rfl,q1⟩:=q1
 cases r1
 refine bs7 ?_
 cases c with
 | true=>exact hb pins s1 σ H1 Q I1 q1
 | false=>exact⟨.bl false,H1,I1,rfl,q1⟩
theorem an4 (ha:PE X a ta) (hb:PE X (.BoolOp .Or (b :: cN) pos) tb):PE X (.BoolOp .Or (a :: b :: cN) pos) (A2 ta tb):=by
 intro pins s σ H Q I h
 refine BoolOp_or (aO (ha pins s σ H _ I h) fun v s1 ⟨x,H1,I1,r1,q1⟩=>?_)
 obtain ⟨c,rfl,q1⟩:=q1
 cases r1
 refine bs7 ?_
 cases c with
 | false=>exact hb pins s1 σ H1 Q I1 q1
 | true=>exact⟨.bl true,H1,I1,rfl,q1⟩
theorem an5 (ha:PE X a ta):PE X (.UnaryOp .Not a pos) (A3 ta):=by
 intro pins s σ H Q I h
 refine UnaryOp_ (aO (ha pins s σ H _ I h) fun v s1 ⟨x,H1,I1,r1,q1⟩=>?_)
 obtain ⟨c,rfl,q1⟩:=q1
 cases r1
 exact not_of (bs7 ⟨.bl (!c),H1,I1,rfl,q1⟩)
noncomputable def A4 (t:TT) (ta tb:TE):TE:=fun σ H Q=>t σ H fun c H1=>if c=true then ta σ H1 Q else tb σ H1 Q
theorem an6 {c:Expr} (hc:PT X c tA) (ha:PE X a ta) (hb:PE X b tb):PE X (.IfExp c a b pos) (A4 tA ta tb):=by
 intro pins s σ H Q I h
 refine wpAny_IfExp (aO (hc pins s σ H _ I h) fun d s1 ⟨H1,I1,q1⟩=>?_)
 cases d with
 | true=>exact ha pins s1 σ H1 Q I1 q1
 | false=>exact hb pins s1 σ H1 Q I1 q1
end
noncomputable def aN (K:PySem.W.Frag) (H:Hp) (a:Addr) (xs:List V):Prop:=
 Rd H a (.lst xs) ∨
  ∃ (o:Obj) (its:Array Value) (n:Nat),K.lookup a=some o/\o.cls = .type "list"/\o.dict=none/\o.data = .seq its n/\its.size<=sizeLine/\aM xs its.toList
noncomputable def aJ (K:PySem.W.Frag) (H:Hp) (a:Addr) (xs:List V):Prop:=
 Rd H a (.tup xs) ∨
  ∃ (o:Obj) (its:Array Value) (n:Nat),K.lookup a=some o/\o.cls = .type "tuple"/\o.data = .seq its n/\its.size<=sizeLine/\aM xs its.toList
noncomputable def an7:Value->Option V
 | .none=>some .non
 | .bool b=>some (.bl b)
 | .int i _=>some (.int i)
 | .str x _=>some (.str x)
 | .bytes b _=>some (.byt b)
 | .float b _=>some (.flt b)
 | .ref a=>some (.ref a)
 | .type n=>some (.ty n)
 | _=>none
theorem aV.abs {x:V}{u:Value} (r:aV x u):an7 u=some x:=by
 cases x with
 | non=>cases r; rfl
 | bl _=>cases r; rfl
 | int _=>obtain ⟨t,rfl⟩:=r; rfl
 | str _=>obtain ⟨t,rfl⟩:=r; rfl
 | byt _=>obtain ⟨t,rfl⟩:=r; rfl
 | flt _=>obtain ⟨t,rfl⟩:=r; rfl
 | ref _=>cases r; rfl
 | ty _=>cases r; rfl
theorem aV.inj {x y:V}{u:Value} (r:aV x u) (q:aV y u):x=y:=bj9 (r.abs.symm.trans q.abs)
theorem aM.inj:∀ {xs ys:List V}{us:List Value},aM xs us->aM ys us->xs=ys
 | _,_,_,.nil,.nil=>rfl
 | _,_,_,.cons r t,.cons r' t'=>by rw [r.inj r',aM.inj t t']
section
variable {X : Cx} {pins : List (Addr × Obj)} {σ : St} {H : Hp} {s : Shared} {a : Addr} {xs ys : List V}
theorem aN.of {K:PySem.W.Frag} (h:H a=some (.lst xs)):aN K H a xs:=.inl (.inl h)
theorem aJ.of {K:PySem.W.Frag} (h:H a=some (.tup xs)):aJ K H a xs:=.inl (.inl h)
theorem a6.list (I:a6 X pins σ H s) (h:aN X.K H a xs):∃ its:List Value,aM xs its/\PlainL s.heap a its.toArray/\xs.length<=sizeLine:=by
 rcases h with h | ⟨o,its,n,hk,hc,hd,hs,hz,r⟩
 ·obtain ⟨z,its,n,r,e⟩:=h.ok I.hok
  exact⟨its,r,⟨_,n,e,rfl,rfl,rfl⟩,z⟩
 ·refine⟨its.toList,r,⟨o,n,I.kIn a o hk,hc,hd,by simpa using hs⟩,?_⟩
  have e:=r.length
  simp only [Array.length_toList] at e
  omega
theorem a6.tuple (I:a6 X pins σ H s) (h:aJ X.K H a xs):∃ its:List Value,aM xs its/\IsTup s.heap a its.toArray/\xs.length<=sizeLine:=by
 rcases h with h | ⟨o,its,n,hk,hc,hs,hz,r⟩
 ·obtain ⟨z,its,r,p,_⟩:=h.ok I.hok
  exact⟨its,r,p,z⟩
 ·refine⟨its.toList,r,⟨o,I.kIn a o hk,hc,n,by simpa using hs⟩,?_⟩
  have e:=r.length
  simp only [Array.length_toList] at e
  omega
theorem a6.list_inj (I:a6 X pins σ H s) (h:aN X.K H a xs) (h':aN X.K H a ys):xs=ys:=by
 obtain ⟨its,r,⟨o,n,e,_,_,d⟩,_⟩:=I.list h
 obtain ⟨its',r',⟨o',n',e',_,_,d'⟩,_⟩:=I.list h'
 rw [e] at e'; cases e'
 rw [d] at d'
 injection d' with d1 _
 have:its=its':=by simpa using congrArg Array.toList d1
 subst this
 exact r.inj r'
theorem a6.tuple_inj (I:a6 X pins σ H s) (h:aJ X.K H a xs) (h':aJ X.K H a ys):xs=ys:=by
 obtain ⟨its,r,⟨o,e,_,n,d⟩,_⟩:=I.tuple h
 obtain ⟨its',r',⟨o',e',_,n',d'⟩,_⟩:=I.tuple h'
 rw [e] at e'; cases e'
 rw [d] at d'
 injection d' with d1 _
 have:its=its':=by simpa using congrArg Array.toList d1
 subst this
 exact r.inj r'
end
noncomputable abbrev Cx.wish (X:Cx) (E:Value->Shared->Prop):Cx:={ X with xe:=E }
noncomputable abbrev Cx.nox (X:Cx):Cx:=X.wish fun _ _=>False
theorem Cx.Ok.wish {X:Cx} (ok:X.Ok) (E:Value->Shared->Prop):(X.wish E).Ok:=
 ⟨ok.mod,ok.kind,ok.glob,ok.blt,ok.above,ok.inj,ok.has,ok.cab,ok.hd,ok.frames,ok.stk,ok.exf,ok.bs,ok.bsz,ok.noex,ok.exfs,ok.funs,ok.frf⟩
theorem Cx.Ok.unwish {X:Cx}{E:Value->Shared->Prop} (ok:(X.wish E).Ok):X.Ok:=
 ⟨ok.mod,ok.kind,ok.glob,ok.blt,ok.above,ok.inj,ok.has,ok.cab,ok.hd,ok.frames,ok.stk,ok.exf,ok.bs,ok.bsz,ok.noex,ok.exfs,ok.funs,ok.frf⟩
section
variable {X : Cx} {pins : List (Addr × Obj)} {σ : St} {H : Hp} {s : Shared} {E : Value → Shared → Prop}
theorem a6.wish (I:a6 X pins σ H s) (E:Value->Shared->Prop):a6 (X.wish E) pins σ H s:=⟨I.ok.wish E,I.os,I.bare,I.base,I.loc,I.cell,I.free,I.freeC,I.pin,I.hok,I.len⟩
theorem a6.unwish (I:a6 (X.wish E) pins σ H s):a6 X pins σ H s:=⟨I.ok.unwish,I.os,I.bare,I.base,I.loc,I.cell,I.free,I.freeC,I.pin,I.hok,I.len⟩
theorem SP.unwish {D:cT}{f:Flow}{s':Shared} (h:SP (X.wish E) pins D f s'):SP X pins D f s':=by
 cases f with
 | next=>obtain ⟨σ',H',I,q⟩:=h; exact⟨σ',H',I.unwish,q⟩
 | brk=>obtain ⟨σ',H',I,q⟩:=h; exact⟨σ',H',I.unwish,q⟩
 | cont=>obtain ⟨σ',H',I,q⟩:=h; exact⟨σ',H',I.unwish,q⟩
 | ret u=>obtain ⟨v,σ',H',I,r,q⟩:=h; exact⟨v,σ',H',I.unwish,r,q⟩
theorem dW.nox {st:List Stmt}{t:TS} (h:dW X.nox st t):dW X st t:=fun pins s σ H D I hw=>
 bo8 (h pins s σ H D (I.wish _) hw) (fun _ _ q=>q.unwish) fun _ _ z=>False.elim z
end
section
variable {X : Cx} {st : Stmt} {cN : List Stmt} {t u : TS} {e : Expr} {te : TE} {pos : Pos}
noncomputable def uC:TS:=fun D σ H=>D.nx σ H
noncomputable def A5 (t u:TS):TS:=fun D σ H=>t { D with nx:=u D } σ H
theorem A6:dW X [] uC:=fun _ _ σ H _ I h=>bw1 ⟨σ,H,I,h⟩
theorem kU (h1:PS X st t) (h2:dW X cN u):dW X (st :: cN) (A5 t u):=by
 intro pins s σ H D I h
 refine wpAny_execs_cons (aO (h1 pins s σ H { D with nx:=u D } I h) fun f s1 q=>?_)
 cases f with
 | next=>
  obtain ⟨σ',H',I',q⟩:=q
  exact h2 pins s1 σ' H' D I' q
 | ret v=>exact q
 | brk=>exact q
 | cont=>exact q
theorem j5 (h1:PS X st t):dW X [st] t:=by
 intro pins s σ H D I h
 refine wpAny_execs_cons (aO (h1 pins s σ H D I h) fun f s1 q=>?_)
 cases f with
 | next=>exact bw1 q
 | ret v=>exact q
 | brk=>exact q
 | cont=>exact q
theorem a6.quiet {pins:List (Addr × Obj)}{σ:St}{H:Hp}{s:Shared} (I:a6 X pins σ H s):interactive X.env=false:=by simp [interactive,I.ok.kind]
noncomputable def qB (te:TE):TS:=fun D σ H=>te σ H fun _ H1=>D.nx σ H1
theorem kW (he:PE X e te) (hs:swapsWith e none pos.line X.env=pure false:=by rfl):PS X (.Expr e pos) (qB te):=by
 intro pins s σ H D I h
 exact wpAny_Expr_any (aO (he pins s σ H _ I h) fun v s1 ⟨x,H1,I1,r1,q1⟩=>⟨σ,H1,I1,q1⟩) I.quiet hs
noncomputable def qD (te:TE):TS:=fun D σ H=>te σ H D.rt
theorem kX (he:PE X e te):PS X (.Return (some e) pos) (qD te):=by
 intro pins s σ H D I h
 exact wpAny_Return_some (aO (he pins s σ H _ I h) fun v s1 ⟨x,H1,I1,r1,q1⟩=>⟨x,σ,H1,I1,r1,q1⟩)
noncomputable def uD (c:TT) (t u:TS):TS:=fun D σ H=>c σ H fun b H1=>if b=true then t D σ H1 else u D σ H1
theorem A7 {c:Expr}{a b:List Stmt}{tc:TT} (hc:PT X c tc) (ha:dW X a t) (hb:dW X b u):PS X (.If c a b pos) (uD tc t u):=by
 intro pins s σ H D I h
 refine wpAny_If (aO (hc pins s σ H _ I h) fun d s1 ⟨H1,I1,q1⟩=>?_)
 cases d with
 | true=>exact ha pins s1 σ H1 D I1 q1
 | false=>exact hb pins s1 σ H1 D I1 q1
noncomputable def an8:TS:=fun _ _ _=>False
theorem an9:PS X st an8:=fun _ _ _ _ _ _ h=>h.elim
end
noncomputable abbrev TG:=V->St->Hp->(St->Hp->Prop)->Prop
noncomputable abbrev kY:=List V->St->Hp->(St->Hp->Prop)->Prop
noncomputable def PG (X:Cx) (target:Expr) (t:TG):Prop:=
 ∀ (pins:List (Addr × Obj)) (s:Shared) (σ:St) (H:Hp) (v:V) (u:Value) (Q:St->Hp->Prop),a6 X pins σ H s->aV v u->t v σ H Q->
  wpAny (model X.prog X.w) X.A (assign target X.env u) (fun _ s'=>∃ σ' H',a6 X pins σ' H' s'/\Q σ' H') X.xe s
noncomputable def qE (X:Cx) (ts:List Expr) (t:kY):Prop:=
 ∀ (pins:List (Addr × Obj)) (s:Shared) (σ:St) (H:Hp) (vs:List V) (us:List Value) (Q:St->Hp->Prop),a6 X pins σ H s->aM vs us->t vs σ H Q->
  wpAny (model X.prog X.w) X.A (assignInOrder ((assignEach ts X.env).map (·.2)) us) (fun _ s'=>∃ σ' H',a6 X pins σ' H' s'/\Q σ' H') X.xe s
noncomputable abbrev uE:=V->V->V->Hp->(Hp->Prop)->Prop
noncomputable def A8 (X:Cx) (t:uE):Prop:=
 ∀ (pins:List (Addr × Obj)) (s:Shared) (σ:St) (H:Hp) (o i v:V) (ov iv u:Value) (Q:Hp->Prop),a6 X pins σ H s->aV o ov->aV i iv->aV v u->t o i v H Q->
  wpAny (model X.prog X.w) X.A (setItem ov iv u) (fun _ s'=>∃ H',a6 X pins σ H' s'/\Q H') X.xe s
section
variable {X : Cx} {pos : Pos}
noncomputable def cU (i:Nat):TG:=fun v σ H Q=>Q (σ.set i (some v)) H
theorem eJ {i:Nat}{x:Str} (hN:X.N.Nodup) (hi:X.N[i]? = some x) (hx:gT X.env.scope x) (hf:X.fn x=true ∨ X.env.scope.names.lookup x=some .local:=by first | exact .inl rfl | exact .inr rfl | assumption):PG X (.Name x pos) (cU i):=by
 intro pins s σ H v u Q I r h
 exact wpAny_assign_Name (uB I hN hi hx r (fun s' I'=>⟨_,H,I',h⟩) hf)
noncomputable def mB:kY:=fun vs σ H Q=>vs = []/\Q σ H
noncomputable def i9 (t:TG) (u:kY):kY:=fun vs σ H Q=>∃ v r,vs=v :: r/\t v σ H fun σ' H'=>u r σ' H' Q
theorem mC:qE X [] mB:=by
 intro pins s σ H vs us Q I r h
 obtain ⟨e,h⟩:=h
 subst e
 cases r
 exact assignInOrder_nil ⟨σ,H,I,h⟩
theorem gU {e:Expr}{es:List Expr}{t:TG}{u:kY} (h1:PG X e t) (h2:qE X es u)
  (hs:(assignEach (e :: es) X.env).map (·.2)=assign e X.env :: (assignEach es X.env).map (·.2):=by rfl):qE X (e :: es) (i9 t u):=by
 intro pins s σ H vs us Q I r h
 obtain ⟨v,vr,e1,h⟩:=h
 subst e1
 cases r with
 | cons r rr=>
  rw [hs]
  refine assignInOrder_cons (aO (h1 pins s σ H _ _ _ I r h) fun _ s1 ⟨σ1,H1,I1,q1⟩=>?_)
  exact h2 pins s1 σ1 H1 _ _ Q I1 rr q1
noncomputable def mD (K:PySem.W.Frag) (n:Nat) (t:kY):TG:=fun v σ H Q=>∃ a xs,v = .ref a/\aJ K H a xs/\xs.length=n/\t xs σ H Q
theorem mE {es:List Expr}{k:Nat}{t:kY}{n:Nat} (hc:X.calm=true) (h:qE X es t)
  (hn:(assignEach es X.env).length=n:=by rfl) (hst:(assignEach es X.env).findIdx? (·.1)=none:=by rfl):PG X (.Tuple es k pos) (mD X.K n t):=by
 intro pins s σ H v u Q I r hw
 obtain ⟨a,xs,e1,hq,hl,hw⟩:=hw
 subst e1
 cases r
 obtain ⟨its,rv,ht,hz⟩:=I.tuple hq
 refine assign_Tuple_tuple (I.ok.hd hc) ht (by simp [hn,<- hl,rv.length]) hst fun h' hx=>?_
 have I1:a6 X pins σ H { s with heap:=h' }:=I.kept (t':=s.toks) fun b o e=>hx b o (bk6 (bi5 e)) e
 exact h pins _ σ H xs _ Q I1 (by simpa using rv) hw
noncomputable def uF (to ti:TE) (t:uE):TG:=fun v σ H Q=>to σ H fun o H1=>ti σ H1 fun i H2=>t o i v H2 fun H3=>Q σ H3
theorem ao0 {o i:Expr}{to ti:TE}{t:uE} (ho:PE X o to) (hi:PE X i ti) (hs:A8 X t)
  (ha:∀ v,assign (.Subscript o i pos) X.env v=(do
   let ov <- holding [v] (eval o X.env)
   let iv <- holding [v,ov] (eval i X.env)
   standAt pos
   holding [v,ov,iv] (setItem ov iv v)
   release [v,ov,iv] []):=by intro _; rfl):PG X (.Subscript o i pos) (uF to ti t):=by
 intro pins s σ H v u Q I r h
 rw [ha]
 refine bg3 (bp2 (aO (ho pins s σ H _ I h) fun ov s1 ⟨x,H1,I1,r1,q1⟩=>?_))
 refine bg3 (bp2 (aO (hi pins s1 σ H1 _ I1 q1) fun iv s2 ⟨y,H2,I2,r2,q2⟩=>?_))
 refine bg3 (wpAny_standAt (bg3 (bp2 (aO (hs pins s2 σ H2 x y v ov iv u _ I2 r1 r2 r q2) fun _ s3 ⟨H3,I3,q3⟩=>?_))))
 exact wpAny_release ⟨σ,H3,I3,q3⟩
noncomputable def jW (te:TE) (g:TG):TS:=fun D σ H=>te σ H fun x H1=>g x σ H1 D.nx
theorem ao1 {tg e:Expr}{te:TE}{g:TG} (he:PE X e te) (hg:PG X tg g) (hs:swapsWithSole [tg] e pos.line X.env=pure false:=by rfl) (hw:swappedStores [tg] e X.env=pure none:=by rfl)
  (h1:(assignEach [tg] X.env).map (·.2) = [assign tg X.env]:=by rfl):PS X (.Assign [tg] e pos) (jW te g):=by
 intro pins s σ H D I h
 refine wpAny_Assign_stores (aO (he pins s σ H _ I h) fun v s1 ⟨x,H1,I1,r1,q1⟩=>?_) hs hw
 rw [h1]
 exact aO (hg pins s1 σ H1 x v _ I1 r1 q1) fun _ s2 q=>q
theorem uG {i:Nat}{x:Str}{e:Expr}{te:TE}{pos':Pos} (hN:X.N.Nodup) (hi:X.N[i]? = some x) (hx:gT X.env.scope x) (he:PE X e te) (hs:swapsWith e (some (.Name x pos')) pos.line X.env=pure false:=by rfl) (hf:X.fn x=true ∨ X.env.scope.names.lookup x=some .local:=by first | exact .inl rfl | exact .inr rfl | assumption) :
  PS X (.Assign [.Name x pos'] e pos) (jW te (cU i)):=by
 intro pins s σ H D I h
 refine wpAny_Assign_Name (aO (he pins s σ H _ I h) fun v s1 ⟨y,H1,I1,r1,q1⟩=>?_) hs
 exact uB I1 hN hi hx r1 (fun s2 I2=>⟨_,H1,I2,q1⟩) hf
end
section
variable {X : Cx} {pos : Pos}
noncomputable def A9 (c:TT) (tb:TS):TS:=fun D σ H=>∃ W:Nat->St->Hp->Prop,(∃ m,W m σ H)/\∀ m σ H,W m σ H->
 c σ H fun b H1=>if b=true then ∃ N:St->Hp->Prop,(∀ σ' H',N σ' H'->∃ m',m' < m/\W m' σ' H')/\tb { D with nx:=N,ct:=N,bk:=D.nx } σ H1 else D.nx σ H1
theorem ao2 {c:Expr}{body:List Stmt}{tc:TT}{tb:TS} (hp:PassesOwn (model X.prog X.w) X.A X.env X.xe) (hc:PT X c tc) (hb:dW X body tb):PS X (.While c body [] pos) (A9 tc tb):=by
 intro pins s σ H D I h
 obtain ⟨W,⟨m0,w0⟩,turn⟩:=h
 refine wpAny_While (codeAny_whileLoop (fun n s'=>∃ σ' H',a6 X pins σ' H' s'/\W n σ' H') ?_ m0 ⟨σ,H,I,w0⟩)
 rintro n s1 ⟨σ1,H1,I1,w1⟩
 refine bw2 hp (aO (hc pins s1 σ1 H1 _ I1 (turn n σ1 H1 w1)) fun b s2 ⟨H2,I2,q2⟩=>?_)
 cases b with
 | true=>
  obtain ⟨N,hN,q2⟩:=q2
  rw [if_pos rfl]
  refine bw2 hp (aO (hb pins s2 σ1 H2 _ I2 q2) fun f s3 q3=>?_)
  cases f with
  | next=>
   obtain ⟨σ3,H3,I3,n3⟩:=q3
   obtain ⟨m',hm,w3⟩:=hN σ3 H3 n3
   exact⟨m',hm,σ3,H3,I3,w3⟩
  | cont=>
   obtain ⟨σ3,H3,I3,n3⟩:=q3
   obtain ⟨m',hm,w3⟩:=hN σ3 H3 n3
   exact⟨m',hm,σ3,H3,I3,w3⟩
  | brk=>exact q3
  | ret v=>exact q3
 | false=>
  rw [if_neg bi3]
  exact bw1 ⟨σ1,H2,I2,q2⟩
end
structure It where
 go:Nat->Hp->Prop
 yld:Nat->Hp->V->Hp->Prop
 stop:Nat->Hp->Prop
noncomputable def gV (X:Cx) (pins:List (Addr × Obj)) (H:Hp) (b:Addr):Prop:=
 H b=none/\b ≠ X.env.locals/\b ∉ X.fs/\(b ∈ X.ex ∨ X.s₀.heap.objs.size<=b)/\(∀ x c,X.env.cells.lookup x=some c->c ≠ b)/\∀ p ∈ X.pn ++ pins,p.1 ≠ b
theorem a6.fpOk {X:Cx}{pins:List (Addr × Obj)}{σ:St}{H H':Hp}{s:Shared}{b:Addr} (I:a6 X pins σ H s) (hb:s.heap.objs.size<=b) (hn:H' b=none):gV X pins H' b:=by
 refine⟨hn,br3 (bi2 I.lt hb),I.nofs hb,.inr (bl4 I.sz hb),fun x c e z=>?_,fun p hp z=>?_⟩
 ·obtain ⟨v,q⟩:=I.cell x c e
  exact absurd (bi2 q.lt (by rw [z]; exact hb)) (bm0 _)
 ·exact absurd (bi2 (bi5 (I.pin p hp).1) (by rw [z]; exact hb)) (bm0 _)
structure j6 (P:Program) (w:World) (K:PySem.W.Frag) (tg:Expr) (J:It) (fp:List Addr) (it:Addr) (tn:Nat->Heap->Prop):Prop where
 mem:it ∈ fp
 obj:∀ i h,tn i h->∀ b ∈ fp,∃ o,h.get? b=some o/\∀ v,o.data ≠ .cell v
 keep:∀ i h h',tn i h->(∀ b ∈ fp,∀ o,h.get? b=some o->h'.get? b=some o)->tn i h'
 item:∀ (X:Cx),X.prog=P->X.w=w->X.K=K->X.calm=true->∀ (i:Nat) (pins:List (Addr × Obj)) (s:Shared) (σ:St) (H:Hp) (E:Value->Shared->Prop),a6 X pins σ H s->(∀ b ∈ fp,gV X pins H b)->tn i s.heap->J.go i H->
  wpAny (model P w) X.A (pyNext (.ref it)) (fun r s1=>∃ u,r=some u/\
   wpAny (model P w) X.A (letOwnedTupleGo tg (.ref it) u) (fun _ s2=>∃ x H',a6 X pins σ H' s2/\aV x u/\J.yld i H x H'/\tn (i+1) s2.heap/\∀ b ∈ fp,H' b=none) E s1) E s
 done:∀ (X:Cx),X.prog=P->X.w=w->X.K=K->X.calm=true->∀ (i:Nat) (pins:List (Addr × Obj)) (s:Shared) (σ:St) (H:Hp) (E:Value->Shared->Prop),a6 X pins σ H s->(∀ b ∈ fp,gV X pins H b)->tn i s.heap->J.stop i H->
  wpAny (model P w) X.A (pyNext (.ref it)) (fun r s1=>r=none/\a6 X pins σ H s1) E s
 self:∀ (A:Around) (i:Nat) (s:Shared) (Q:Value->Shared->Prop) (E:Value->Shared->Prop),tn i s.heap->Q (.ref it) s->wpAny (model P w) A (pyIter (.ref it)) Q E s
noncomputable abbrev TI:=St->Hp->(It->Hp->Prop)->Prop
noncomputable def B0 (X:Cx) (pins:List (Addr × Obj)) (σ:St) (tg:Expr) (R:It->Hp->Prop) (itv:Value) (s2:Shared):Prop:=
 ∃ (it:Addr) (fp:List Addr) (tn:Nat->Heap->Prop) (J:It) (H':Hp),itv = .ref it/\a6 X pins σ H' s2/\j6 X.prog X.w X.K tg J fp it tn/\tn 0 s2.heap/\(∀ b ∈ fp,gV X pins H' b)/\R J H'
noncomputable def PI (X:Cx) (tg iter:Expr) (wi:TI):Prop:=
 ∀ (pins:List (Addr × Obj)) (s:Shared) (σ:St) (H:Hp) (R:It->Hp->Prop),a6 X pins σ H s->wi σ H R->
  wpAny (model X.prog X.w) X.A (eval iter X.env) (fun v s1=>wpAny (model X.prog X.w) X.A (pyIter v) (B0 X pins σ tg R) X.xe s1) X.xe s
theorem qF {M:Model}{A:Around}{E:Value->Shared->Prop}{s:Shared}{tg:Expr}{it:Addr}{u:Value}{o:Obj}{n:String}{vs:Array Value}{Q:Unit->Shared->Prop} (ho:s.heap.get? it=some o) (hc:o.cls = .type n) (hd:o.data = .fields vs)
    (hn : ["enumerate","zip","dict_itemiterator","dict_reverseitemiterator","odict_iterator","itertools.zip_longest","itertools.pairwise"].contains n=false) (hQ:Q () s):wpAny M A (letOwnedTupleGo tg (.ref it) u) Q E s:=by
  unfold letOwnedTupleGo
  cases tg <;> first
    | exact bh4 hQ
    | (cases u <;> first
        | exact bh4 hQ
        | (refine bg3 (wpAny_load ho ?_)
           rw [hc,hd]
           show wpAny M A (if (["enumerate","zip","dict_itemiterator","dict_reverseitemiterator","odict_iterator","itertools.zip_longest","itertools.pairwise"].contains n && vs[0]? == some (rawInt _))=true then _ else _) Q E s
           rw [if_neg (by intro h; rw [hn,Bool.false_and] at h; cases h)]
           exact bh4 hQ))
noncomputable def mF (K:PySem.W.Frag) (a:Addr):It:=
 ⟨fun i H=>∃ xs x,aN K H a xs/\xs[i]? = some x,fun i H x H'=>H'=H/\∀ xs,aN K H a xs->xs[i]? = some x,fun i H=>∃ xs,aN K H a xs/\xs.length<=i⟩
noncomputable def jX (K:PySem.W.Frag) (a:Addr):It:=
 ⟨fun i H=>∃ xs x,aJ K H a xs/\xs[i]? = some x,fun i H x H'=>H'=H/\∀ xs,aJ K H a xs->xs[i]? = some x,fun i H=>∃ xs,aJ K H a xs/\xs.length<=i⟩
noncomputable def o7 (lo:Int) (n:Nat):It:=⟨fun i _=>i < n,fun i H x H'=>H'=H/\x = .int (lo+i),fun i _=>n<=i⟩
theorem ao3 {P:Program}{w:World}{K:PySem.W.Frag}{tg:Expr} (a it:Addr):j6 P w K tg (mF K a) [it] it (fun i h=>h.IsListIter it a i) where
 mem:=by simp
 obj:=fun i h st b hb=>by
  have e:b=it:=by simpa using hb
  subst e
  obtain ⟨o,e,c,d⟩:=st
  exact⟨o,e,fun v z=>by rw [d] at z; cases z⟩
 keep:=fun i h h' st k=>st.at fun o e=>k it (by simp) o e
 item:=by
  intro X hP hw hK hc i pins s σ H E I hf st hg
  subst hP hw hK
  obtain ⟨xs,x,hq,hx⟩:=hg
  obtain ⟨its,rv,p,hz⟩:=I.list hq
  obtain ⟨u,hu,ru⟩:=rv.get hx
  obtain ⟨f0,f1,f2,f3,f4,f5⟩:=hf it (by simp)
  refine wpAny_pyNext_list_item st p.isList (x:=u) (by simpa using hu) fun h' st' sb=>?_
  have I1:a6 X pins σ H { s with heap:=h' }:=I.turned (t':=s.toks) (fun b o hb e=>(sb.2 b hb).trans e) f0 f1 f3 f4 f5
  obtain ⟨o,e,c,d⟩:=id st'
  exact⟨u,rfl,qF (s:={ s with heap:=h' }) e c d (by decide) ⟨x,H,I1,ru,⟨rfl,fun ys hy=>by rw [I.list_inj hy hq]; exact hx⟩,st',fun b hb=>(hf b hb).1⟩⟩
 done:=by
  intro X hP hw hK hc i pins s σ H E I hf st hg
  subst hP hw hK
  obtain ⟨xs,hq,hx⟩:=hg
  obtain ⟨its,rv,p,hz⟩:=I.list hq
  obtain ⟨f0,f1,f2,f3,f4,f5⟩:=hf it (by simp)
  have hl:=rv.length
  exact wpAny_pyNext_list_end (I.ok.hd hc) st p.isList (by simp; omega) fun h' eb=>⟨rfl,I.turned (t':=s.toks) (fun b o hb e=>eb b o hb e) f0 f1 f3 f4 f5⟩
 self:=fun _ _ _ _ _ st h=>wpAny_pyIter_listiter st h
theorem B1 {P:Program}{w:World}{K:PySem.W.Frag}{tg:Expr} (a it:Addr):j6 P w K tg (jX K a) [it] it (fun i h=>h.IsTupleIter it a i) where
 mem:=by simp
 obj:=fun i h st b hb=>by
  have e:b=it:=by simpa using hb
  subst e
  obtain ⟨o,e,c,d⟩:=st
  exact⟨o,e,fun v z=>by rw [d] at z; cases z⟩
 keep:=fun i h h' st k=>st.at fun o e=>k it (by simp) o e
 item:=by
  intro X hP hw hK hc i pins s σ H E I hf st hg
  subst hP hw hK
  obtain ⟨xs,x,hq,hx⟩:=hg
  obtain ⟨its,rv,p,hz⟩:=I.tuple hq
  obtain ⟨u,hu,ru⟩:=rv.get hx
  obtain ⟨f0,f1,f2,f3,f4,f5⟩:=hf it (by simp)
  refine wpAny_pyNext_tuple_item st (show s.heap.IsTuple a its.toArray from p) (x:=u) (by simpa using hu) fun h' st' sb=>?_
  have I1:a6 X pins σ H { s with heap:=h' }:=I.turned (t':=s.toks) (fun b o hb e=>(sb.2 b hb).trans e) f0 f1 f3 f4 f5
  obtain ⟨o,e,c,d⟩:=id st'
  exact⟨u,rfl,qF (s:={ s with heap:=h' }) e c d (by decide) ⟨x,H,I1,ru,⟨rfl,fun ys hy=>by rw [I.tuple_inj hy hq]; exact hx⟩,st',fun b hb=>(hf b hb).1⟩⟩
 done:=by
  intro X hP hw hK hc i pins s σ H E I hf st hg
  subst hP hw hK
  obtain ⟨xs,hq,hx⟩:=hg
  obtain ⟨its,rv,p,hz⟩:=I.tuple hq
  obtain ⟨f0,f1,f2,f3,f4,f5⟩:=hf it (by simp)
  have hl:=rv.length
  exact wpAny_pyNext_tuple_end (I.ok.hd hc) st (show s.heap.IsTuple a its.toArray from p) (by simp; omega) fun h' eb=>⟨rfl,I.turned (t':=s.toks) (fun b o hb e=>eb b o hb e) f0 f1 f3 f4 f5⟩
 self:=fun _ _ _ _ _ st h=>wpAny_pyIter_tupleiter st h
theorem ao4 {P:Program}{w:World}{K:PySem.W.Frag}{tg:Expr} (it:Addr) (lo:Int) (n:Nat):j6 P w K tg (o7 lo n) [it] it (fun i h=>IsRangeIter h it (lo+(i:Nat) * 1) ((n:Int) - (i:Nat)) 1) where
 mem:=by simp
 obj:=fun i h st b hb=>by
  have e:b=it:=by simpa using hb
  subst e
  exact⟨_,st,fun v z=>by
   have z':Data.fields _=Data.cell v:=z
   cases z'⟩
 keep:=fun i h h' st k=>k it (by simp) _ st
 item:=by
  intro X hP hw hK hc i pins s σ H E I hf st hg
  subst hP hw hK
  obtain ⟨f0,f1,f2,f3,f4,f5⟩:=hf it (by simp)
  have W:=Walks.range (prog:=X.prog) (w:=X.w) (I.ok.hd hc) it lo 1 n
  refine W.item i s _ _ hg st fun v h' tk hv st' kk=>?_
  obtain ⟨t,rfl⟩:=hv
  have I1:a6 X pins σ H { s with heap:=h',toks:=tk }:=I.turned (fun b o hb e=>kk b o (by simpa using hb) e) f0 f1 f3 f4 f5
  refine⟨_,rfl,qF (s:={ s with heap:=h',toks:=tk }) (n:="range_iterator") st' rfl rfl (by decide) ⟨.int (lo+i),H,I1,⟨t,?_⟩,⟨rfl,rfl⟩,st',fun b hb=>(hf b hb).1⟩⟩
  rw [Int.mul_one]
 done:=by
  intro X hP hw hK hc i pins s σ H E I hf st hg
  subst hP hw hK
  obtain ⟨f0,f1,f2,f3,f4,f5⟩:=hf it (by simp)
  exact wpAny_pyNext_range_end (I.ok.hd hc) st (by have:n<=i:=hg; omega) fun h' eb=>⟨rfl,I.turned (t':=s.toks) (fun b o hb e=>eb b o hb e) f0 f1 f3 f4 f5⟩
 self:=fun _ _ _ _ _ st h=>wpAny_pyIter_rangeiter st h
section
variable {X : Cx} {tg : Expr}
noncomputable def ao5 (K:PySem.W.Frag) (tl:TE):TI:=fun σ H R=>tl σ H fun x H1=>∃ a,x = .ref a/\(∃ xs,aJ K H1 a xs)/\R (jX K a) H1
theorem qG {l:Expr}{tl:TE} (hl:PE X l tl):PI X tg l (ao5 X.K tl):=by
 intro pins s σ H R I h
 refine aO (hl pins s σ H _ I h) fun v s1 ⟨x,H1,I1,r1,q1⟩=>?_
 obtain ⟨a,e,⟨xs,hq⟩,q⟩:=q1
 subst e
 cases r1
 obtain ⟨its,rv,p,hz⟩:=I1.tuple hq
 refine wpAny_pyIter_tuple (show s1.heap.IsTuple a its.toArray from p) ?_
 refine⟨s1.heap.objs.size,[s1.heap.objs.size],_,_,H1,rfl,I1.kept (t':=s1.toks) fun b o e=>bg4 _ e,B1 a _,⟨_,bi6 _ rfl,rfl,rfl⟩,fun b hb=>?_,q⟩
 have e:b=s1.heap.objs.size:=by simpa using hb
 subst e
 exact I1.fpOk (bh0 _) (I1.hok.fresh (bh0 _))
theorem B2 {pins:List (Addr × Obj)}{σ:St}{H:Hp}{s:Shared}{R:It->Hp->Prop}{E:Value->Shared->Prop}{lo hi:Int}{t u v:Tok}{tk:Nat} (I:a6 X pins σ H s) (h1 : -(2 ^ 62)<=lo) (h2:lo < 2 ^ 62) (h3 : -(2 ^ 62)<=hi) (h4:hi < 2 ^ 62)
  (q:R (o7 lo (hi - lo).toNat) H):wpAny (model X.prog X.w) X.A (pyIter (.ref s.heap.objs.size)) (B0 X pins σ tg R) E { s with heap:=s.heap.push { cls:=.type "range",data:=.fields #[.int lo t,.int hi u,.int 1 v] },toks:=tk }:=by
 refine wpAny_pyIter_range (IsRange.new ..) (small_one h1 h2 h3 h4) ?_
 have I1:a6 X pins σ H { s with heap:=s.heap.push { cls:=.type "range",data:=.fields #[.int lo t,.int hi u,.int 1 v] },toks:=tk }:=I.kept fun b o e=>bg4 _ e
 refine⟨(s.heap.push { cls:=.type "range",data:=.fields #[.int lo t,.int hi u,.int 1 v] }).objs.size,[(s.heap.push { cls:=.type "range",data:=.fields #[.int lo t,.int hi u,.int 1 v] }).objs.size],_,_,H,rfl,
  I1.kept (t':=tk) fun b o e=>bg4 _ e,ao4 _ lo (hi - lo).toNat,?_,fun b hb=>?_,q⟩
 ·have e1:lo+((0:Nat):Int) * 1=lo:=by simp
  have e2:(((hi - lo).toNat:Nat):Int) - ((0:Nat):Int)=Builtin.Range.rangeSize lo hi 1:=by rw [rangeSize_one]; split <;> omega
  show IsRangeIter _ _ (lo+((0:Nat):Int) * 1) ((((hi - lo).toNat:Nat):Int) - ((0:Nat):Int)) 1
  rw [e1,e2]
  exact bi6 _ rfl
 ·have e:b=(s.heap.push { cls:=.type "range",data:=.fields #[.int lo t,.int hi u,.int 1 v] }).objs.size:=by simpa using hb
  subst e
  exact I1.fpOk (bh0 _) (I1.hok.fresh (bh0 _))
noncomputable def B3 (ta:TA):TI:=fun σ H R=>ta σ H fun vs H1=>∃ j:Int,vs = [.int j]/\-(2 ^ 62)<=j/\j < 2 ^ 62/\R (o7 0 j.toNat) H1
noncomputable def B4 (ta:TA):TI:=fun σ H R=>ta σ H fun vs H1=>∃ i j:Int,vs = [.int i,.int j]/\(-(2 ^ 62)<=i/\i < 2 ^ 62/\-(2 ^ 62)<=j/\j < 2 ^ 62)/\R (o7 i (j - i).toNat) H1
theorem ao6 {a:Expr}{ta:TA}{p pos:Pos} (hg:Gl X "range") (hm:X.mg "range" = none) (ha:PA X [a] ta) (hs:starEach [a] X.env = [(false,eval a X.env)]:=by rfl):PI X tg (.Call (.Name "range" p) [a] [] pos) (B3 ta):=by
 intro pins s σ H R I h
 refine Call_ (j4 I hg hm boot_range (bo3 (aO (ha pos pins s σ H _ I h) fun us s1 ⟨vs,H1,I1,r1,q1⟩=>?_) hs rfl))
 obtain ⟨j,e,q1,q2,q⟩:=q1
 subst e
 cases r1 with
 | cons r rr=>
  cases rr
  obtain ⟨t,rfl⟩:=r
  exact call_range_1 (B2 I1 (by omega) (by omega) q1 q2 (by simpa using q))
theorem ao7 {a b:Expr}{ta:TA}{p pos:Pos} (hg:Gl X "range") (hm:X.mg "range" = none) (ha:PA X [a,b] ta) (hs:starEach [a,b] X.env = [(false,eval a X.env),(false,eval b X.env)]:=by rfl) (hs2:starEach [b] X.env = [(false,eval b X.env)]:=by rfl) :
  PI X tg (.Call (.Name "range" p) [a,b] [] pos) (B4 ta):=by
 intro pins s σ H R I h
 refine Call_ (j4 I hg hm boot_range (bo3 (aO (ha pos pins s σ H _ I h) fun us s1 ⟨vs,H1,I1,r1,q1⟩=>?_) (by rw [hs,hs2]) (by rw [hs2]; rfl)))
 obtain ⟨i,j,e,⟨q1,q2,q3,q4⟩,q⟩:=q1
 subst e
 cases r1 with
 | cons r rr=>
  cases rr with
  | cons r' rr=>
   cases rr
   obtain ⟨t,rfl⟩:=r
   obtain ⟨t',rfl⟩:=r'
   exact call_range_2 (B2 I1 q1 q2 q3 q4 q)
noncomputable def uH (wi:TI) (g:TG) (tb:TS):TS:=fun D σ H=>wi σ H fun J H1=>∃ W:Nat->Nat->St->Hp->Prop,(∃ m,W 0 m σ H1)/\∀ i m σ H,W i m σ H->
 (J.stop i H/\D.nx σ H) ∨ (J.go i H/\∃ N:St->Hp->Prop,(∀ σ' H',N σ' H'->∃ m',m' < m/\W (i+1) m' σ' H')/\∀ x H',J.yld i H x H'->g x σ H' fun σ2 H2=>tb { D with nx:=N,ct:=N,bk:=D.nx } σ2 H2)
noncomputable def o8 (fp:List Addr) (h:Heap):List (Addr × Obj):=fp.filterMap fun b=>(h.get? b).map fun o=>(b,o)
theorem qH {fp:List Addr}{h:Heap}{b:Addr}{o:Obj} (hb:b ∈ fp) (e:h.get? b=some o):(b,o) ∈ o8 fp h:=bv5.mpr ⟨b,hb,by rw [e]; rfl⟩
theorem ao8 {fp:List Addr}{h:Heap}{p:Addr × Obj} (hp:p ∈ o8 fp h):p.1 ∈ fp/\h.get? p.1=some p.2:=by
 obtain ⟨b,hb,e⟩:=bv5.mp hp
 cases q:h.get? b with
 | none=>rw [q] at e; cases e
 | some o=>
  rw [q] at e
  have e':(b,o)=p:=bj9 e
  subst e'
  exact⟨hb,q⟩
theorem a6.pinned {pins:List (Addr × Obj)}{σ:St}{H:Hp}{s:Shared}{fp:List Addr} (I:a6 X pins σ H s) (hf:∀ b ∈ fp,gV X pins H b) (ho:∀ b ∈ fp,∃ o,s.heap.get? b=some o/\∀ v,o.data ≠ .cell v):a6 X (pins ++ o8 fp s.heap) σ H s:=
 I.pins_of fun p hp=>(bh6.mp hp).elim (fun z=>I.pin p (bi9 _ z)) fun z=>by
  obtain ⟨hb,e⟩:=ao8 z
  obtain ⟨f0,f1,f2,_⟩:=hf p.1 hb
  obtain ⟨o,e',d⟩:=ho p.1 hb
  rw [e] at e'; cases e'
  exact⟨e,f0,f1,f2,d⟩
theorem a6.unpinned {pins pl:List (Addr × Obj)}{σ:St}{H:Hp}{s:Shared} (I:a6 X (pins ++ pl) σ H s):a6 X pins σ H s:=I.pins_of fun p hp=>I.pin p (bi9 _ (bj3 _ hp))
theorem qI {iter:Expr}{body:List Stmt}{wi:TI}{g:TG}{tb:TS}{pos:Pos} (hp:PassesOwn (model X.prog X.w) X.A X.env X.xe) (hc:X.calm=true) (hi:PI X tg iter wi) (hg:PG X tg g) (hb:dW X body tb)
  (hs:∀ x,foldedSetIterable iter X.env x=pure x:=by intro _; rfl):PS X (.For tg iter body [] pos) (uH wi g tb):=by
 intro pins s σ H D I h
 refine wpAny_For (aO (hi pins s σ H _ I h) fun v s1 h1=>aO h1 fun itv s2 h2=>?_) hs
 obtain ⟨it,fp,tn,J,H2,e,I2,T,st2,f2,W,⟨m0,w0⟩,turn⟩:=h2
 subst e
 have stat:∀ {H':Hp},(∀ b ∈ fp,H' b=none)->∀ b ∈ fp,gV X pins H' b:=fun hn b hb=>⟨hn b hb,(f2 b hb).2⟩
 refine codeAny_forLoop_any (fun n s'=>∃ i σ' H',a6 X pins σ' H' s'/\tn i s'.heap/\(∀ b ∈ fp,H' b=none)/\W i n σ' H') ?_ m0 ⟨0,σ,H2,I2,st2,fun b hb=>(f2 b hb).1,w0⟩
 rintro n s3 ⟨i,σ3,H3,I3,st3,fr3,w3⟩
 rcases turn i n σ3 H3 w3 with ⟨stop,qn⟩ | ⟨go,N,hN,step⟩
 ·refine bw2 hp (aO (T.done X rfl rfl rfl hc i pins s3 σ3 H3 X.xe I3 (stat fr3) st3 stop) fun r s4 ⟨hr,I4⟩=>?_)
  subst hr
  exact bw1 ⟨σ3,H3,I4,qn⟩
 ·refine bw2 hp (aO (T.item X rfl rfl rfl hc i pins s3 σ3 H3 X.xe I3 (stat fr3) st3 go) fun r s4 ⟨u,hr,h4⟩=>?_)
  subst hr
  refine bw2 hp (aO h4 fun _ s5 ⟨x,H5,I5,r5,y5,st5,fr5⟩=>?_)
  have I5':=I5.pinned (stat fr5) (T.obj _ _ st5)
  refine bw2 hp (aO (hg _ s5 σ3 H5 x u _ I5' r5 (step x H5 y5)) fun _ s6 ⟨σ6,H6,I6,q6⟩=>?_)
  refine bw2 hp (aO (hb _ s6 σ6 H6 _ I6 q6) fun f s7 q7=>?_)
  have again:∀ {σ7:St}{H7:Hp},a6 X (pins ++ o8 fp s5.heap) σ7 H7 s7->N σ7 H7->∃ m,m < n/\∃ i σ' H',a6 X pins σ' H' s7/\tn i s7.heap/\(∀ b ∈ fp,H' b=none)/\W i m σ' H':=fun {σ7 H7} I7 n7=>by
   obtain ⟨m',hm,w7⟩:=hN σ7 H7 n7
   refine⟨m',hm,i+1,σ7,H7,I7.unpinned,T.keep _ _ _ st5 fun b hb o e=>(I7.pin (b,o) (bi9 _ (bi9 _ (qH hb e)))).1,fun b hb=>?_,w7⟩
   obtain ⟨o,e,d⟩:=T.obj _ _ st5 b hb
   exact (I7.pin (b,o) (bi9 _ (bi9 _ (qH hb e)))).2.1
  cases f with
  | next=>obtain ⟨σ7,H7,I7,n7⟩:=q7; exact again I7 n7
  | cont=>obtain ⟨σ7,H7,I7,n7⟩:=q7; exact again I7 n7
  | brk=>obtain ⟨σ7,H7,I7,q7⟩:=q7; exact⟨σ7,H7,I7.unpinned,q7⟩
  | ret v=>obtain ⟨x7,σ7,H7,I7,r7,q7⟩:=q7; exact⟨x7,σ7,H7,I7.unpinned,r7,q7⟩
end
theorem bf8 {K:PySem.W.Frag}{a:Addr}{xs:List V}{g:TG}{tb:TS}{D:cT}{σ:St}{H:Hp} (Pv:Nat->St->Hp->Prop) (h0:Pv 0 σ H) (hl:∀ i σ H,i<=xs.length->Pv i σ H->aN K H a xs)
  (hs:∀ i x σ H,xs[i]? = some x->Pv i σ H->g x σ H fun σ2 H2=>tb { D with nx:=Pv (i+1),ct:=Pv (i+1),bk:=D.nx } σ2 H2) (hd:∀ σ H,Pv xs.length σ H->D.nx σ H) :
  ∃ W:Nat->Nat->St->Hp->Prop,(∃ m,W 0 m σ H)/\∀ i m σ H,W i m σ H->
   ((mF K a).stop i H/\D.nx σ H) ∨ ((mF K a).go i H/\∃ N:St->Hp->Prop,(∀ σ' H',N σ' H'->∃ m',m' < m/\W (i+1) m' σ' H')/\∀ x H',(mF K a).yld i H x H'->g x σ H' fun σ2 H2=>tb { D with nx:=N,ct:=N,bk:=D.nx } σ2 H2):=by
 refine⟨fun i m σ H=>m=xs.length - i/\i<=xs.length/\Pv i σ H,⟨xs.length,by simp,bk7 _,h0⟩,?_⟩
 rintro i m σ H ⟨rfl,hi,p⟩
 have q:=hl i σ H hi p
 by_cases hlt:i < xs.length
 ·refine .inr ⟨⟨xs,xs[i],q,by simp [hlt]⟩,Pv (i+1),fun σ' H' p'=>⟨xs.length - (i+1),by omega,rfl,hlt,p'⟩,fun x H' y=>?_⟩
  obtain ⟨e,y⟩:=y
  subst e
  exact hs i x σ _ (y xs q) p
 ·have e:i=xs.length:=by omega
  subst e
  exact .inl ⟨⟨xs,q,bh0 _⟩,hd σ H p⟩
theorem B5 {K:PySem.W.Frag}{a:Addr}{xs:List V}{g:TG}{tb:TS}{D:cT}{σ:St}{H:Hp} (Pv:Nat->St->Hp->Prop) (h0:Pv 0 σ H) (hl:∀ i σ H,i<=xs.length->Pv i σ H->aJ K H a xs)
  (hs:∀ i x σ H,xs[i]? = some x->Pv i σ H->g x σ H fun σ2 H2=>tb { D with nx:=Pv (i+1),ct:=Pv (i+1),bk:=D.nx } σ2 H2) (hd:∀ σ H,Pv xs.length σ H->D.nx σ H) :
  ∃ W:Nat->Nat->St->Hp->Prop,(∃ m,W 0 m σ H)/\∀ i m σ H,W i m σ H->
   ((jX K a).stop i H/\D.nx σ H) ∨ ((jX K a).go i H/\∃ N:St->Hp->Prop,(∀ σ' H',N σ' H'->∃ m',m' < m/\W (i+1) m' σ' H')/\∀ x H',(jX K a).yld i H x H'->g x σ H' fun σ2 H2=>tb { D with nx:=N,ct:=N,bk:=D.nx } σ2 H2):=by
 refine⟨fun i m σ H=>m=xs.length - i/\i<=xs.length/\Pv i σ H,⟨xs.length,by simp,bk7 _,h0⟩,?_⟩
 rintro i m σ H ⟨rfl,hi,p⟩
 have q:=hl i σ H hi p
 by_cases hlt:i < xs.length
 ·refine .inr ⟨⟨xs,xs[i],q,by simp [hlt]⟩,Pv (i+1),fun σ' H' p'=>⟨xs.length - (i+1),by omega,rfl,hlt,p'⟩,fun x H' y=>?_⟩
  obtain ⟨e,y⟩:=y
  subst e
  exact hs i x σ _ (y xs q) p
 ·have e:i=xs.length:=by omega
  subst e
  exact .inl ⟨⟨xs,q,bh0 _⟩,hd σ H p⟩
noncomputable abbrev R2:=V->V->Hp->VK->Prop
noncomputable def cI (X:Cx) (f:Value->Value->Sem Value) (r:R2):Prop:=
 ∀ (pins:List (Addr × Obj)) (s:Shared) (σ:St) (H:Hp) (x y:V) (v u:Value) (Q:VK),a6 X pins σ H s->aV x v->aV y u->r x y H Q->
  wpAny (model X.prog X.w) X.A (f v u) (EP X pins σ Q) X.xe s
noncomputable def dI (X:Cx) (f:Value) (r:List V->Hp->VK->Prop):Prop:=
 ∀ (pins:List (Addr × Obj)) (s:Shared) (σ:St) (H:Hp) (xs:List V) (us:List Value) (Q:VK),a6 X pins σ H s->aM xs us->r xs H Q->
  wpAny (model X.prog X.w) X.A (call f us) (EP X pins σ Q) X.xe s
noncomputable def ao9 (X:Cx) (r:V->Hp->(Bool->Hp->Prop)->Prop):Prop:=
 ∀ (pins:List (Addr × Obj)) (s:Shared) (σ:St) (H:Hp) (x:V) (v:Value) (Q:Bool->Hp->Prop),a6 X pins σ H s->aV x v->r x H Q->
  wpAny (model X.prog X.w) X.A (truthy v) (TP X pins σ Q) X.xe s
noncomputable def o9 (r:R2) (ta tb:TE):TE:=fun σ H Q=>ta σ H fun x H1=>tb σ H1 fun y H2=>r x y H2 Q
noncomputable def rI (C:Int->Int->Prop) (g:Int->Int->V):R2:=fun x y H Q=>∃ i j,x = .int i/\y = .int j/\C i j/\Q (g i j) H
noncomputable def j7 (g:Int->Int->V):R2:=fun x y H Q=>∃ i j,x = .int i/\y = .int j/\Q (g i j) H
section
variable {X : Cx} {a b c : Expr} {ta tb tc : TE} {pos : Pos}
theorem uI (ha:PE X a ta) (hb:PE X b tb) {pins:List (Addr × Obj)}{s:Shared}{σ:St}{H:Hp}{R:V->V->Hp->Prop} (I:a6 X pins σ H s)
  (h:ta σ H fun x H1=>tb σ H1 fun y H2=>R x y H2) {Q:Value->Shared->Prop}{f:Value->Value->Sem Value}
  (hf:∀ v u s2 x y H2,a6 X pins σ H2 s2->aV x v->aV y u->R x y H2->wpAny (model X.prog X.w) X.A (f v u) Q X.xe s2) :
  wpAny (model X.prog X.w) X.A (eval a X.env) (fun v s₁=>wpAny (model X.prog X.w) X.A (eval b X.env) (fun u s₂=>wpAny (model X.prog X.w) X.A (f v u) Q X.xe s₂) X.xe s₁) X.xe s:=by
 refine aO (ha pins s σ H _ I h) fun v s1 ⟨x,H1,I1,r1,q1⟩=>?_
 refine aO (hb pins s1 σ H1 _ I1 q1) fun u s2 ⟨y,H2,I2,r2,q2⟩=>?_
 exact hf v u s2 x y H2 I2 r1 r2 q2
theorem ap0 {op:Operator}{r:R2} (ho:cI X (binaryOp op) r) (ha:PE X a ta) (hb:PE X b tb):PE X (.BinOp a op b pos) (o9 r ta tb):=by
 intro pins s σ H Q I h
 exact wpAny_BinOp (uI ha hb I h fun v u s2 x y H2 I2 rx ry q=>ho pins s2 σ H2 x y v u Q I2 rx ry q)
theorem uJ {f:Value->Value->Sem Value}{C:Int->Int->Prop}{g:Int->Int->Int}
  (rule:∀ (i j:Int) (t u:Tok) (s:Shared) (Q:Value->Shared->Prop) (E:Value->Shared->Prop),C i j->Q (.int (g i j) s.toks) { s with toks:=s.toks+1 }->wpAny (model X.prog X.w) X.A (f (.int i t) (.int j u)) Q E s) :
  cI X f (rI C fun i j=>.int (g i j)):=by
 intro pins s σ H x y v u Q I rx ry h
 obtain ⟨i,j,rfl,rfl,hc,q⟩:=h
 obtain ⟨t,rfl⟩:=rx
 obtain ⟨t',rfl⟩:=ry
 exact rule i j t t' s _ _ hc ⟨.int (g i j),H,I.tok _,⟨_,rfl⟩,q⟩
theorem B6 {f:Value->Value->Sem Value}{g:Int->Int->Int}
  (rule:∀ (i j:Int) (t u:Tok) (s:Shared) (Q:Value->Shared->Prop) (E:Value->Shared->Prop),Q (.int (g i j) s.toks) { s with toks:=s.toks+1 }->wpAny (model X.prog X.w) X.A (f (.int i t) (.int j u)) Q E s) :
  cI X f (j7 fun i j=>.int (g i j)):=by
 intro pins s σ H x y v u Q I rx ry h
 obtain ⟨i,j,rfl,rfl,q⟩:=h
 obtain ⟨t,rfl⟩:=rx
 obtain ⟨t',rfl⟩:=ry
 exact rule i j t t' s _ _ ⟨.int (g i j),H,I.tok _,⟨_,rfl⟩,q⟩
theorem uK {f:Value->Value->Sem Value}{g:Int->Int->Bool}
  (rule:∀ (i j:Int) (t u:Tok) (s:Shared) (Q:Value->Shared->Prop) (E:Value->Shared->Prop),Q (.bool (g i j)) s->wpAny (model X.prog X.w) X.A (f (.int i t) (.int j u)) Q E s) :
  cI X f (j7 fun i j=>.bl (g i j)):=by
 intro pins s σ H x y v u Q I rx ry h
 obtain ⟨i,j,rfl,rfl,q⟩:=h
 obtain ⟨t,rfl⟩:=rx
 obtain ⟨t',rfl⟩:=ry
 exact rule i j t t' s _ _ ⟨.bl (g i j),H,I,rfl,q⟩
noncomputable def uL (i j:Int):Prop:=0 < j/\j < 1073741824
noncomputable def oA (i j:Int):Prop:=(-(2 ^ 64) < i/\i < 2 ^ 64) ∨ (-(2 ^ 64) < j/\j < 2 ^ 64)
theorem oA.ok {i j:Int} (h:oA i j):IntMulOk i j:=by
 rcases h with ⟨h1,h2⟩ | ⟨h1,h2⟩
 ·exact .of_left (intBits_le_64 h1 h2)
 ·exact .of_right (intBits_le_64 h1 h2)
theorem ap1:cI X (binaryOp .Add) (j7 fun i j=>.int (i+j)):=B6 fun _ _ _ _ _ _ _ q=>add_int q
theorem ap2:cI X (binaryOp .Sub) (j7 fun i j=>.int (i - j)):=B6 fun _ _ _ _ _ _ _ q=>sub_int q
theorem ap3:cI X (binaryOp .Mult) (rI oA fun i j=>.int (i * j)):=uJ fun _ _ _ _ _ _ _ hc q=>mul_int q hc.ok
theorem ap4:cI X (binaryOp .FloorDiv) (rI uL fun i j=>.int (i / j)):=uJ fun i j _ _ _ _ _ hc q=>by
 have h1:(0:Int) < j:=hc.1
 have h2:j < 1073741824:=hc.2
 exact floordiv_int (by omega) (by rw [Int.fdiv_eq_ediv_of_nonneg i (by omega)]; exact q) (.inl (PyProof.noPylong_small (by omega)))
theorem ap5:cI X (binaryOp .Mod) (rI (fun _ j=>0 < j) fun i j=>.int (i % j)):=uJ fun i j _ _ _ _ _ hc q=>by
 have h1:(0:Int) < j:=hc
 exact mod_int' (by omega) (by rw [Int.fmod_eq_emod_of_nonneg i (by omega)]; exact q)
end
noncomputable def B7:V->V->Bool
 | .non,.non=>true | .non,.int _=>true | .int _,.non=>true | .non,.bl _=>true | .bl _,.non=>true | .non,.str _=>true | .str _,.non=>true
 | .int _,.int _=>true | .bl _,.bl _=>true | .str _,.str _=>true | .byt _,.byt _=>true
 | .int _,.str _=>true | .str _,.int _=>true | .bl _,.str _=>true | .str _,.bl _=>true
 | _,_=>false
noncomputable def B8:R2:=fun x y H Q=>B7 x y=true/\Q (.bl (decide (x=y))) H
noncomputable def uM:R2:=fun x y H Q=>B7 x y=true/\Q (.bl (!decide (x=y))) H
theorem B9 {i j:Int}:decide (V.int i=V.int j)=(i == j):=by
 rw [bp9]
 simp
theorem C0 {i j:Bool}:decide (V.bl i=V.bl j)=(i == j):=by
 rw [bp9]
 simp
theorem C1 {i j:Str}:decide (V.str i=V.str j)=(i == j):=by
 rw [bp9]
 simp
theorem C2 {i j:Array UInt8}:decide (V.byt i=V.byt j)=(i.toList == j.toList):=by
 rw [bp9]
 cases i
 cases j
 simp
section
variable {X : Cx} {a b c : Expr} {ta tb tc : TE} {pos : Pos}
theorem bY {pins:List (Addr × Obj)}{σ:St}{H:Hp}{s:Shared}{Q:VK}{k k':Bool} (I:a6 X pins σ H s) (q:Q (.bl k) H) (e:k=k'):EP X pins σ Q (.bool k') s:=by
 subst e
 exact⟨.bl k,H,I,rfl,q⟩
theorem C3:cI X (compareOp .Eq) B8:=by
 intro pins s σ H x y v u Q I rx ry h
 obtain ⟨hs,q⟩:=h
 cases x with
 | non=>
  cases rx
  cases y with
  | non=>cases ry; exact PySem.EqNone.eq_none_none (bY I q (by simp))
  | bl j=>cases ry; exact PySem.EqNone.eq_none_bool (bY I q (by simp))
  | int j=>obtain ⟨t',rfl⟩:=ry; exact PySem.EqNone.eq_none_int (bY I q (by simp))
  | str j=>obtain ⟨t',rfl⟩:=ry; exact PySem.EqNone.eq_none_str (bY I q (by simp))
  | _=>exact absurd (show false=true from hs) bi3
 | bl i=>
  cases rx
  cases y with
  | non=>cases ry; exact PySem.EqNone.eq_bool_none (bY I q (by simp))
  | bl j=>cases ry; exact eq_bool (bY I q C0)
  | str j=>obtain ⟨t',rfl⟩:=ry; exact PySem.EqMixed.eq_bool_str (bY I q (by simp))
  | _=>exact absurd (show false=true from hs) bi3
 | int i=>
  obtain ⟨t,rfl⟩:=rx
  cases y with
  | non=>cases ry; exact PySem.EqNone.eq_int_none (bY I q (by simp))
  | int j=>obtain ⟨t',rfl⟩:=ry; exact eq_int (bY I q B9)
  | str j=>obtain ⟨t',rfl⟩:=ry; exact PySem.EqMixed.eq_int_str (bY I q (by simp))
  | _=>exact absurd (show false=true from hs) bi3
 | str i=>
  obtain ⟨t,rfl⟩:=rx
  cases y with
  | non=>cases ry; exact PySem.EqNone.eq_str_none (bY I q (by simp))
  | bl j=>cases ry; exact PySem.EqMixed.eq_str_bool (bY I q (by simp))
  | int j=>obtain ⟨t',rfl⟩:=ry; exact PySem.EqMixed.eq_str_int (bY I q (by simp))
  | str j=>obtain ⟨t',rfl⟩:=ry; exact eq_str (bY I q C1)
  | _=>exact absurd (show false=true from hs) bi3
 | byt i=>
  obtain ⟨t,rfl⟩:=rx
  cases y with
  | byt j=>obtain ⟨t',rfl⟩:=ry; exact PySem.W.eq_bytes (bY I q C2)
  | _=>exact absurd (show false=true from hs) bi3
 | _=>cases y <;> exact absurd (show false=true from hs) bi3
theorem C4:cI X (compareOp .NotEq) uM:=by
 intro pins s σ H x y v u Q I rx ry h
 obtain ⟨hs,q⟩:=h
 cases x with
 | non=>
  cases rx
  cases y with
  | non=>cases ry; exact PySem.EqNone.ne_none_none (bY I q (by simp))
  | bl j=>cases ry; exact PySem.EqNone.ne_none_bool (bY I q (by simp))
  | int j=>obtain ⟨t',rfl⟩:=ry; exact PySem.EqNone.ne_none_int (bY I q (by simp))
  | str j=>obtain ⟨t',rfl⟩:=ry; exact PySem.EqNone.ne_none_str (bY I q (by simp))
  | _=>exact absurd (show false=true from hs) bi3
 | bl i=>
  cases rx
  cases y with
  | non=>cases ry; exact PySem.EqNone.ne_bool_none (bY I q (by simp))
  | bl j=>cases ry; exact ne_bool (bY I q (congrArg not C0))
  | str j=>obtain ⟨t',rfl⟩:=ry; exact PySem.EqMixed.ne_bool_str (bY I q (by simp))
  | _=>exact absurd (show false=true from hs) bi3
 | int i=>
  obtain ⟨t,rfl⟩:=rx
  cases y with
  | non=>cases ry; exact PySem.EqNone.ne_int_none (bY I q (by simp))
  | int j=>obtain ⟨t',rfl⟩:=ry; exact ne_int (bY I q (congrArg not B9))
  | str j=>obtain ⟨t',rfl⟩:=ry; exact PySem.EqMixed.ne_int_str (bY I q (by simp))
  | _=>exact absurd (show false=true from hs) bi3
 | str i=>
  obtain ⟨t,rfl⟩:=rx
  cases y with
  | non=>cases ry; exact PySem.EqNone.ne_str_none (bY I q (by simp))
  | bl j=>cases ry; exact PySem.EqMixed.ne_str_bool (bY I q (by simp))
  | int j=>obtain ⟨t',rfl⟩:=ry; exact PySem.EqMixed.ne_str_int (bY I q (by simp))
  | str j=>obtain ⟨t',rfl⟩:=ry; exact ne_str (bY I q (congrArg not C1))
  | _=>exact absurd (show false=true from hs) bi3
 | byt i=>
  obtain ⟨t,rfl⟩:=rx
  cases y with
  | byt j=>obtain ⟨t',rfl⟩:=ry; exact PySem.W.ne_bytes (bY I q (congrArg not C2))
  | _=>exact absurd (show false=true from hs) bi3
 | _=>cases y <;> exact absurd (show false=true from hs) bi3
theorem qJ:cI X (compareOp .Lt) (j7 fun i j=>.bl (decide (i < j))):=uK fun _ _ _ _ _ _ _ q=>lt_int q
theorem ap6:cI X (compareOp .Gt) (j7 fun i j=>.bl (decide (j < i))):=uK fun _ _ _ _ _ _ _ q=>gt_int q
theorem ap7:cI X (compareOp .GtE) (j7 fun i j=>.bl (decide (j<=i))):=uK fun _ _ _ _ _ _ _ q=>ge_int q
theorem ap8:cI X (compareOp .IsNot) (fun x y H Q=>y = .non/\Q (.bl (!decide (x = .non))) H):=by
 intro pins s σ H x y v u Q I rx ry h
 obtain ⟨rfl,q⟩:=h
 cases ry
 refine isnot_none_gen (bY I q ?_)
 cases x <;> first
  | (cases rx; rfl)
  | (obtain ⟨t,rfl⟩:=rx; rfl)
theorem gH (b:Expr) {op:CmpOp} (h:op ≠ .In:=by decide) (h2:op ≠ .NotIn:=by decide):behindInMarks op b=false:=by
 have e1:(op == CmpOp.In)=false:=by cases op <;> first | rfl | exact absurd rfl h
 have e2:(op == CmpOp.NotIn)=false:=by cases op <;> first | rfl | exact absurd rfl h2
 cases b <;> simp [behindInMarks,e1,e2]
theorem uN {op:CmpOp}{r:R2} (ho:cI X (compareOp op) r) (ha:PE X a ta) (hb:PE X b tb) (hm:behindInMarks op b=false):PE X (.Compare a [op] [b] pos) (o9 r ta tb):=by
 intro pins s σ H Q I h
 exact wpAny_Compare1 (uI ha hb I h fun v u s2 x y H2 I2 rx ry q=>ho pins s2 σ H2 x y v u Q I2 rx ry q) hm
noncomputable def ap9 (t:TE):TT:=fun σ H Q=>t σ H fun x H'=>∃ k,x = .bl k/\Q k H'
theorem aq0 {op:CmpOp}{r:R2} (ho:cI X (compareOp op) r) (ha:PE X a ta) (hb:PE X b tb) (hm:behindInMarks op b=false):PT X (.Compare a [op] [b] pos) (ap9 (o9 r ta tb)):=by
 intro pins s σ H Q I h
 refine wpAny_isTrue_Compare1 (aO (ha pins s σ H _ I h) fun v s1 ⟨x,H1,I1,r1,q1⟩=>aO (hb pins s1 σ H1 _ I1 q1) fun u s2 ⟨y,H2,I2,r2,q2⟩=>
  aO (ho pins s2 σ H2 x y v u _ I2 r1 r2 q2) fun c s3 ⟨z,H3,I3,r3,k,e,q3⟩=>?_) hm
 subst e
 cases r3
 exact bs7 ⟨H3,I3,q3⟩
noncomputable def uO (K:PySem.W.Frag) (x:V) (H:Hp) (k:Bool):Prop:=
 match x with
 | .non=>k=false
 | .bl b=>k=b
 | .int i=>k=(i != 0)
 | .str y=>y.length<=sizeLine/\k=((y.length:Int) != 0)
 | .byt y=>y.size<=sizeLine/\k=((y.size:Int) != 0)
 | .ref p=>(∃ xs,aN K H p xs/\k = !xs.isEmpty) ∨ (∃ xs,aJ K H p xs/\k = !xs.isEmpty) ∨ ∃ kvs,H p=some (.dK kvs)/\k = !kvs.isEmpty
 | _=>False
theorem aq1 {κ:Type}{kvs:List (κ × V)}{vs:List (κ × Value)} (r:KV kvs vs):(!vs.isEmpty) = !kvs.isEmpty:=by
 cases r <;> rfl
theorem C5 {xs:List V}{its:List Value} (r:aM xs its):(!its.toArray.isEmpty) = !xs.isEmpty:=by
 cases r <;> simp
theorem mG:(sizeLine:Nat) < 2 ^ 63:=by rw [sizeLine_eq]; decide
theorem aq2:ao9 X (fun x H Q=>∃ k,uO X.K x H k/\Q k H):=by
 intro pins s σ H x v Q I rx h
 obtain ⟨k,e,q⟩:=h
 have hl:=mG
 have hs:sizeLine=16777216:=sizeLine_eq
 cases x with
 | non=>
  cases rx
  have e':k=false:=e
  subst e'
  exact truthy_none ⟨H,I,q⟩
 | bl b=>
  cases rx
  have e':k=b:=e
  subst e'
  exact bs7 ⟨H,I,q⟩
 | int i=>
  obtain ⟨t,rfl⟩:=rx
  have e':k=(i != 0):=e
  subst e'
  exact PySem.P.truthy_int ⟨H,I,q⟩
 | str y=>
  obtain ⟨t,rfl⟩:=rx
  obtain ⟨hy,e'⟩:y.length<=sizeLine/\k=((y.length:Int) != 0):=e
  subst e'
  exact PySem.P.truthy_str (by omega) ⟨H,I.tok _,q⟩
 | byt y=>
  obtain ⟨t,rfl⟩:=rx
  obtain ⟨hy,e'⟩:y.size<=sizeLine/\k=((y.size:Int) != 0):=e
  subst e'
  exact PySem.W.truthy_bytes (by omega) ⟨H,I.tok _,q⟩
 | ref p=>
  cases rx
  have e':(∃ xs,aN X.K H p xs/\k = !xs.isEmpty) ∨ (∃ xs,aJ X.K H p xs/\k = !xs.isEmpty) ∨ ∃ kvs,H p=some (.dK kvs)/\k = !kvs.isEmpty:=e
  rcases e' with ⟨xs,hx,e'⟩ | ⟨xs,hx,e'⟩ | ⟨kvs,hx,e'⟩
  ·subst e'
   obtain ⟨its,r,pl,hz⟩:=I.list hx
   have hlen:=r.length
   exact wpAny_truthy_list pl.isList (by simp only [bg5]; omega) ⟨H,I.tok _,by rw [C5 r]; exact q⟩
  ·subst e'
   obtain ⟨its,r,pl,hz⟩:=I.tuple hx
   have hlen:=r.length
   exact truthy_tuple pl (by simp only [bg5]; omega) ⟨H,I.tok _,by rw [C5 r]; exact q⟩
  ·subst e'
   obtain ⟨hz,hS,vs,r,m⟩:kvs.length<=sizeLine/\(p == sysModules)=false/\∃ vs,KV kvs vs/\s.heap.DictOf (eV X.prog X.w) p vs:=I.hok p _ hx
   have hlen:kvs.length=vs.length:=Paired.length r
   exact wpAny_truthy_dict hS m (by omega) ⟨H,I.tok _,by rw [aq1 r]; exact q⟩
 | _=>exact (show False from e).elim
theorem aq3 (ha:PE X a ta) (he:∀ whole,isTrue a X.env whole=(do let v <- whole; standAt a.pos; holding [v] (truthy v))) :
  PT X a (fun σ H Q=>ta σ H fun x H'=>∃ k,uO X.K x H' k/\Q k H'):=by
 intro pins s σ H Q I h
 exact isTrue_plain (aO (ha pins s σ H _ I h) fun v s1 ⟨x,H1,I1,r1,q1⟩=>aq2 pins s1 σ H1 x v Q I1 r1 q1) (he _)
theorem j8 {x:V}{us:List Value} (r:aM [x] us):∃ u,us = [u]/\aV x u:=by
 cases r with
 | cons r1 r2=>cases r2; exact⟨_,rfl,r1⟩
theorem oB {x y:V}{us:List Value} (r:aM [x,y] us):∃ u w',us = [u,w']/\aV x u/\aV y w':=by
 cases r with
 | cons r1 r2=>
  cases r2 with
  | cons r3 r4=>cases r4; exact⟨_,_,rfl,r1,r3⟩
theorem aq4 (hc:X.calm=true):dI X (.builtin "max") (fun xs H Q=>∃ i j,xs = [.int i,.int j]/\Q (.int (if j > i then j else i)) H):=by
 intro pins s σ H xs us Q I r h
 obtain ⟨i,j,rfl,q⟩:=h
 obtain ⟨u,w',rfl,⟨t,rfl⟩,⟨t',rfl⟩⟩:=oB r
 refine max_two_ints (I.ok.hd hc) fun h' tk k=>⟨_,H,I.kept k,?_,q⟩
 by_cases hj:j > i
 ·rw [if_pos hj,if_pos hj]; exact⟨_,rfl⟩
 ·rw [if_neg hj,if_neg hj]; exact⟨_,rfl⟩
theorem aq5 (hc:X.calm=true):dI X (.builtin "min") (fun xs H Q=>∃ i j,xs = [.int i,.int j]/\Q (.int (if j < i then j else i)) H):=by
 intro pins s σ H xs us Q I r h
 obtain ⟨i,j,rfl,q⟩:=h
 obtain ⟨u,w',rfl,⟨t,rfl⟩,⟨t',rfl⟩⟩:=oB r
 refine min_two_ints (I.ok.hd hc) fun h' tk k=>⟨_,H,I.kept k,?_,q⟩
 by_cases hj:j < i
 ·rw [if_pos hj,if_pos hj]; exact⟨_,rfl⟩
 ·rw [if_neg hj,if_neg hj]; exact⟨_,rfl⟩
end
structure uP (h:Heap) (x dx C:Addr) (mA:Str->Option Value):Prop where
 obj:h.get? x=some (PySem.W.instObj C dx)
 ns:h.Ns1 dx mA
 ne:dx ≠ x
theorem aq6 {h:Heap}{dx:Addr}{mA:Str->Option Value} (n:h.Ns1 dx mA):∃ od,h.get? dx=some od/\∀ name,PySem.W.lookIn name od=some (mA name):=by
 obtain ⟨o,es,ep,ho,hd,hk,_,hm⟩:=n
 refine⟨o,ho,fun name=>?_⟩
 have e:=hm name
 unfold nsFind findBy at e
 rw [<- Array.find?_toList] at e
 unfold PySem.W.lookIn
 rw [hd]
 dsimp only
 split
 ·rename_i y q
  rw [q] at e
  exact congrArg some e
 ·rename_i q
  rw [q] at e
  have a:es.toList.any (·.refKey)=false:=by
   rw [List.any_eq_false]
   intro y hy
   obtain ⟨z,t,hkey⟩:=hk y (Array.mem_toList_iff.mp hy)
   simp [DictEntry.refKey,hkey]
  have a' : ¬ es.toList.any (·.refKey)=true:=by rw [a]; exact bi3
  rw [if_neg a']
  exact congrArg some e
theorem uP.look {h:Heap}{x dx C:Addr}{mA:Str->Option Value} (I:uP h x dx C mA):∃ od,PySem.W.InstAt h x (PySem.W.instObj C dx) C (some od)/\∀ name,PySem.W.lookIn name od=some (mA name):=
 let ⟨od,ho,hl⟩:=aq6 I.ns
 ⟨od,⟨I.obj,rfl,rfl,ho⟩,hl⟩
section
variable {P : Program} {w : World} {H H' : Hp} {h h' : Heap} {a C dx : Addr} {fs fs' : List (Str × V)}
theorem aq7 (hok:bV P w H h) (e:H a=some (.ins C dx fs)):∃ mA,uP h a dx C mA/\(∀ f,kS (fs.lookup f) (mA f))/\PySem.Within mA (fs.map (·.1))/\fs.length<=1000/\H dx=some (.own a):=by
 obtain ⟨d,z,ne,ob,mA,n,r,q⟩:=(show bT P w H h a (.ins C dx fs) from hok a _ e)
 exact⟨mA,⟨ob,n,ne⟩,r,q,z,d⟩
end
structure uQ (K:PySem.W.Frag) (C:Addr):Prop where
 pg:PySem.W.plainGet K C Str.empty=true
 hd:PySem.W.hasDictIn K C=true
 po:PySem.W.plainOver K C=true
 sa:PySem.W.findIn K (.ref C) "__setattr__" = some (some (.builtin "object.__setattr__"))
theorem uQ.get {K:PySem.W.Frag}{C:Addr} (c:uQ K C) (f:Str):PySem.W.plainGet K C f=true:=c.pg
section
variable {X : Cx} {pins : List (Addr × Obj)} {σ : St} {H : Hp} {s : Shared} {A : Around} {E : Value → Shared → Prop} {Q : Value → Shared → Prop} {c : Value} {b : Bool}
inductive fX (K:PySem.W.Frag) (H:Hp):V->Value->Prop where
 | non:fX K H .non (.type "NoneType")
 | bl (x:Bool):fX K H (.bl x) (.type "bool")
 | int (i:Int):fX K H (.int i) (.type "int")
 | str (x:Str):fX K H (.str x) (.type "str")
 | flt (x:UInt64):fX K H (.flt x) (.type "float")
 | lst {a:Addr}{xs:List V} (e:H a=some (.lst xs)):fX K H (.ref a) (.type "list")
 | frz {a:Addr}{o:Obj}{xs:List V} (e:H a=some (.frz o (.lst xs))):fX K H (.ref a) (.type "list")
 | tup {a:Addr}{xs:List V} (e:H a=some (.tup xs)):fX K H (.ref a) (.type "tuple")
 | dK {a:Addr}{kvs:List (aI × V)} (e:H a=some (.dK kvs)):fX K H (.ref a) (.type "dict")
 | dT {a:Addr}{kvs:List (List aI × V)} (e:H a=some (.dT kvs)):fX K H (.ref a) (.type "dict")
 | ins {a C dx:Addr}{fs:List (Str × V)} (e:H a=some (.ins C dx fs)) (cl:uQ K C) (ha:PySem.W.findIn K (.ref C) "__class__" = some (some (.builtin "object.__class__")))
   (hn:PySem.W.specialIn K (.builtin "object.__class__") "__get__" = some (some (.builtin "getset_descriptor.__get__"))) (htk:PySem.W.takesIn K (.builtin "object.__class__")=some true)
   (hm:PySem.W.mroIn K C (.type "object")=some true):fX K H (.ref a) (.ref C)
theorem aq8 {x:V}{u t:Value} (I:a6 X pins σ H s) (rx:aV x u) (ty:fX X.K H x t) (e:PySem.W.kitOne X.K t c=some b) (h:∀ tk,Q (.bool b) { s with toks:=tk }) :
  wpAny (model X.prog X.w) A (call (.builtin "isinstance") [u,c]) Q E s:=by
 cases ty with
 | non=>cases (show u=Value.none from rx); exact bn7 PySem.W.kitx_none I.kIn bw6 e (fun z=>nomatch z) h
 | bl y=>cases (show u=Value.bool y from rx); exact bn7 PySem.W.kitx_bool I.kIn bw6 e (fun z=>nomatch z) h
 | int i=>obtain ⟨t,q⟩:=(show ∃ t,u=Value.int i t from rx); cases q; exact bn7 PySem.W.kitx_int I.kIn bw6 e (fun z=>nomatch z) h
 | str y=>obtain ⟨t,q⟩:=(show ∃ t,u=Value.str y t from rx); cases q; exact bn7 PySem.W.kitx_str I.kIn bw6 e (fun z=>nomatch z) h
 | flt y=>obtain ⟨t,q⟩:=(show ∃ t,u=Value.float y t from rx); cases q; exact bn7 PySem.W.kitx_float I.kIn bw6 e (fun z=>nomatch z) h
 | @lst a xs ea=>
  cases (show u=Value.ref a from rx)
  obtain ⟨_,_,n,_,h1⟩:=(show bT X.prog X.w H s.heap a (.lst xs) from I.hok a _ ea)
  exact bn7 PySem.W.kitx_list I.kIn ⟨_,h1,rfl⟩ e (fun z=>nomatch z) h
 | @frz a ob xs ea=>
  cases (show u=Value.ref a from rx)
  obtain ⟨_,_,_,n,_,h1⟩:=(show bT X.prog X.w H s.heap a (.frz ob (.lst xs)) from I.hok a _ ea)
  exact bn7 PySem.W.kitx_list I.kIn ⟨_,h1,rfl⟩ e (fun z=>nomatch z) h
 | @tup a xs ea=>
  cases (show u=Value.ref a from rx)
  obtain ⟨_,_,_,p,_⟩:=(show bT X.prog X.w H s.heap a (.tup xs) from I.hok a _ ea)
  obtain ⟨o,h1,h2,_⟩:=p
  exact bn7 PySem.W.kitx_tuple I.kIn ⟨o,h1,h2⟩ e (fun z=>nomatch z) h
 | @dK a kvs ea=>
  cases (show u=Value.ref a from rx)
  obtain ⟨_,_,vs,_,p⟩:=(show bT X.prog X.w H s.heap a (.dK kvs) from I.hok a _ ea)
  obtain ⟨o,es,ep,h1,h2,_⟩:=p
  exact bn7 PySem.W.kitx_dict I.kIn ⟨o,h1,h2.1⟩ e (fun z=>nomatch z) h
 | @dT a kvs ea=>
  cases (show u=Value.ref a from rx)
  obtain ⟨_,_,xs,_,o,es,ep,h1,h2,_⟩:=(show bT X.prog X.w H s.heap a (.dT kvs) from I.hok a _ ea)
  exact bn7 PySem.W.kitx_dict I.kIn ⟨o,h1,h2.1⟩ e (fun z=>nomatch z) h
 | @ins a C dx fs ea cl ha hn htk hm=>
  cases (show u=Value.ref a from rx)
  obtain ⟨mA,O,_⟩:=aq7 I.hok ea
  obtain ⟨od,J,_⟩:=O.look
  exact bn7 (PySem.W.kitx_own (cl.get _) cl.hd ha hn htk hm) I.kIn J e (fun z=>nomatch z) h
end
structure cA (k:Nat) (A:Around):Prop where
 hd:A.handled=none
 dp:A.depth+3 * k+5 < recursionLimit
 un:A.units+16 * k+200 < cLine
theorem cA.mono {j k:Nat}{A:Around} (r:cA k A) (h:j<=k):cA j A:=⟨r.hd,by have:=r.dp; omega,by have:=r.un; omega⟩
theorem cA.deeper {k:Nat}{A:Around} (r:cA (k+1) A) (env:Env):cA k (A.deeper env):=
 ⟨r.hd,by have:=r.dp; show A.depth+1+3 * k+5 < _; omega,by have:=r.un; show A.units+3+16 * k+200 < _; omega⟩
theorem cA.depth {k:Nat}{A:Around} (r:cA k A):A.depth < recursionLimit:=by have:=r.dp; omega
theorem cA.units {k:Nat}{A:Around} (r:cA k A):A.units+64 < cLine:=by have:=r.un; omega
noncomputable def jY:TA:=fun _ H Q=>Q [] H
noncomputable def iS (ta:TE) (tr:TA):TA:=fun σ H Q=>ta σ H fun x H1=>tr σ H1 fun xs H2=>Q (x :: xs) H2
section
variable {X : Cx} {e : Expr} {es : List Expr} {te : TE} {t : TA} {pos : Pos}
theorem dL:PA X [] jY:=fun _ _ _ _ H Q I h=>Calls.spliced_nil ⟨[],H,I,.nil,h⟩
theorem cO (ha:PE X e te) (hr:PA X es t) (hs:starEach (e :: es) X.env=(false,eval e X.env) :: starEach es X.env:=by rfl):PA X (e :: es) (iS te t):=by
 intro pos pins s σ H Q I h
 rw [hs]
 show wpAny _ _ (spliced ((false,eval e X.env) :: backTo pos (starEach es X.env))) _ _ s
 refine Calls.spliced_cons (aO (ha pins s σ H _ I h) fun u s1 ⟨x,H1,I1,r1,q1⟩=>?_)
 exact aO (hr pos pins s1 σ H1 _ I1 q1) fun us s2 ⟨xs,H2,I2,r2,q2⟩=>⟨x :: xs,H2,I2,.cons r1 r2,q2⟩
noncomputable def uR (t:TA):TE:=fun σ H Q=>t σ H fun xs H1=>xs.length<=sizeLine/\∀ p,H1 p=none->Q (.ref p) (upd H1 p (.tup xs))
noncomputable def C6 (t:TA):TE:=fun σ H Q=>t σ H fun xs H1=>xs.length<=sizeLine/\∀ p,H1 p=none->Q (.ref p) (upd H1 p (.lst xs))
theorem C7 {x1} (h:PA X es t):PE X (.Tuple es x1 pos) (uR t):=by
 intro pins s σ H Q I hq
 refine wpAny_Tuple_spliced (aO (h pos pins s σ H _ I hq) fun us s1 ⟨xs,H1,I1,r,z,q⟩=>⟨by rw [<- r.length]; exact z,?_⟩)
 have hf:H1 s1.heap.objs.size=none:=I1.hok.fresh (bh0 _)
 refine⟨.ref s1.heap.objs.size,upd H1 s1.heap.objs.size (.tup xs),I1.laid (t':=s1.toks) (fun b u e=>bg4 _ e) (bh0 _) ?_,rfl,q _ hf⟩
 exact⟨z,us,r,⟨_,bi6 _ rfl,rfl,_,rfl⟩,iQ.new _ _ rfl⟩
theorem uS (h:PA X es t):PE X (.List es pos) (C6 t):=by
 intro pins s σ H Q I hq
 refine wpAny_List_spliced (aO (h pos pins s σ H _ I hq) fun us s1 ⟨xs,H1,I1,r,z,q⟩=>⟨by rw [<- r.length]; exact z,?_⟩)
 have hf:H1 s1.heap.objs.size=none:=I1.hok.fresh (bh0 _)
 refine⟨.ref s1.heap.objs.size,upd H1 s1.heap.objs.size (.lst xs),I1.laid (t':=s1.toks) (fun b u e=>bg4 _ e) (bh0 _) ?_,rfl,q _ hf⟩
 exact⟨z,us,0,r,bi6 _ rfl⟩
end
noncomputable abbrev Sp:=List V->Hp->VK->XK->Prop
noncomputable abbrev gW:=List Env->Hp->Shared->XK->Value->Shared->Prop
structure qK (P:Program) (w:World) (K:PySem.W.Frag) (mg:Str->Option Value) (base:Heap) (A:Around) (outer:List Env) (s:Shared) (H:Hp):Prop where
 frames:A.frames=some outer
 mod:Mod K mg base
 bs:∀ b o,base.get? b=some o->s.heap.get? b=some o/\H b=none
 bsz:base.objs.size<=s.heap.objs.size
 funs:s.heap.FunFrames base outer
 frf:∀ b ∈ bQ outer,H b=none
 hok:bV P w H s.heap
 bare:AllBare s.gens
noncomputable def CE (outer:List Env) (P:Program) (w:World) (H:Hp) (s:Shared) (Q:VK) (u:Value) (s':Shared):Prop:=
 ∃ v H',s'.os=s.os/\AllBare s'.gens/\Un (bQ outer) [] H H' s.heap s'.heap/\bV P w H' s'.heap/\aV v u/\Q v H'
noncomputable def CR (CX:gW) (outer:List Env) (P:Program) (w:World) (H:Hp) (s:Shared) (Q:VK) (E:XK) (r:Result) (s':Shared):Prop:=
 match r with
 | .ok (.ret u)=>CE outer P w H s Q u s'
 | .ok _=>False
 | .error e=>CX outer H s E e s'
structure cP (P:Program) (w:World) (K:PySem.W.Frag) (mg:Str->Option Value) (base:Heap) (CX:gW) (k:Nat) (f:Addr) (fd:FuncData) (ps:List Str) (sp:Sp):Prop where
 len:∀ vs H Q E,sp vs H Q E->vs.length=ps.length
 run:∀ (A:Around) (outer:List Env) (s:Shared) (H:Hp) (args:Args) (us:List Value) (vs:List V) (Q:VK) (E:XK),cA k A->qK P w K mg base A outer s H->BindsTo s fd args (ps.zip us)->aM vs us->sp vs H Q E->
  codeAny (model P w) A (.call (.ref f) args) (CR CX outer P w H s Q E) s
theorem cP.imp {P:Program}{w:World}{K:PySem.W.Frag}{mg:Str->Option Value}{base:Heap}{CX:gW}{k:Nat}{f:Addr}{fd:FuncData}{ps:List Str}{sp sp':Sp} (F:cP P w K mg base CX k f fd ps sp)
  (h:∀ vs H Q E,sp' vs H Q E->sp vs H Q E):cP P w K mg base CX k f fd ps sp':=
 ⟨fun vs H Q E q=>F.len vs H Q E (h _ _ _ _ q),fun A outer s H args us vs Q E hr he hb hv hs=>F.run A outer s H args us vs Q E hr he hb hv (h _ _ _ _ hs)⟩
section
variable {X : Cx} {pins : List (Addr × Obj)} {σ : St} {H : Hp} {s s' : Shared}
theorem a6.env0 (I:a6 X pins σ H s):qK X.prog X.w X.K X.mg X.base X.A X.stack s H:=
 ⟨I.ok.frames,I.ok.mod,I.bs,bl4 I.ok.bsz I.sz,I.stack,I.stkFree,I.hok,I.bare⟩
theorem a6.after {Q:VK}{u:Value} (I:a6 X pins σ H s) (h:CE X.stack X.prog X.w H s Q u s'):EP X pins σ Q u s':=by
 obtain ⟨v,H',os,bare,un,hok,r,q⟩:=h
 obtain ⟨hh,g,d,t,os'⟩:=s'
 obtain rfl:os'=s.os:=os
 exact⟨v,H',I.call (h':=hh) (g':=g) (d':=d) (t':=t) (ch:=[]) un hok bare (fun b z=>absurd z (by simp)),r,q⟩
end
noncomputable def uT (sp:Sp) (dvs:List V) (E:XK) (t:TA):TE:=fun σ H Q=>t σ H fun vs H1=>sp (vs ++ dvs) H1 Q E
noncomputable def iA (K:PySem.W.Frag) (fd:FuncData) (ps:List Str) (ds:List Value):Prop:=
 ∀ (s:Shared) (us:List Value),K.In s.heap->(us ++ ds).length=ps.length->BindsTo s fd ⟨us,[]⟩ (ps.zip (us ++ ds))
theorem iA.all {K:PySem.W.Frag}{fd:FuncData}{ps:List Str} (h:∀ us:List Value,us.length=ps.length->bindArgs fd ⟨us,[]⟩=pure (ps.zip us)):iA K fd ps []:=fun s us _ hl=>by
 rw [bm6] at hl ⊢
 exact .of_eq (h us hl)
noncomputable def oC (CX:gW) (X:Cx) (E:XK):Prop:=∀ (pins:List (Addr × Obj)) (σ:St) (H:Hp) (s:Shared) (e:Value) (s':Shared),a6 X pins σ H s->CX X.stack H s E e s'->X.xe e s'
section
variable {X : Cx} {CX : gW} {k : Nat} {f C : Addr} {fd : FuncData} {ps : List Str} {sp : Sp} {dvs : List V} {ds : List Value} {E : XK} {x m : Str} {p pos apos : Pos} {e o : Expr} {es : List Expr} {ta : TE} {t : TA}
theorem aq9 {pins:List (Addr × Obj)}{σ:St}{H:Hp}{s:Shared}{Q:VK}{us:List Value}{vs:List V} (F:cP X.prog X.w X.K X.mg X.base CX k f fd ps sp) (hr:cA k X.A) (hb:iA X.K fd ps ds) (hd:aM dvs ds) (hx:oC CX X E)
  (I:a6 X pins σ H s) (r:aM vs us) (h:sp (vs ++ dvs) H Q E):wpAny (model X.prog X.w) X.A (call (.ref f) us) (EP X pins σ Q) X.xe s:=by
 have r2:aM (vs ++ dvs) (us ++ ds):=r.append hd
 have hl:(us ++ ds).length=ps.length:=by rw [<- r2.length]; exact F.len _ _ _ _ h
 refine wpAny_call (codeAny_mono (F.run X.A X.stack s H ⟨us,[]⟩ (us ++ ds) (vs ++ dvs) Q E hr I.env0 (hb s us I.kIn hl) r2 h) fun r s' hq=>?_)
 cases r with
 | error e=>exact hx pins σ H s e s' I hq
 | ok fl=>
  cases fl with
  | ret u=>exact I.after hq
  | next=>exact False.elim hq
  | brk=>exact False.elim hq
  | cont=>exact False.elim hq
theorem uU (F:cP X.prog X.w X.K X.mg X.base CX k f fd ps sp) (hr:cA k X.A) (hg:Gl X x) (hm:X.mg x=some (.ref f)) (hk:PySem.W.keepIn X.K (.ref f)=true) (hb:iA X.K fd ps ds) (hd:aM dvs ds) (hx:oC CX X E)
  (ha:PA X (e :: es) t) (hdb:(x == ("__debug__" : Str))=false:=by decide) (he:starEach (e :: es) X.env=(false,eval e X.env) :: starEach es X.env:=by rfl) (hpl:(backTo pos (starEach es X.env)).any (·.1)=false:=by rfl) :
  PE X (.Call (.Name x p) (e :: es) [] pos) (uT sp dvs E t):=by
 intro pins s σ H Q I h
 refine wpAny_Call_Name_kw (o4 I hg hm ?_ hdb)
 refine PySem.W.callWith_K (h₀:=X.base) I.ok.mod.kin hk (aO (ha pos pins s σ H _ I h) fun us s1 ⟨vs,H1,I1,r,q⟩=>⟨I1.kIn,?_⟩) he hpl
 exact aq9 F hr hb hd hx I1 r q
end
noncomputable def PK (X:Cx) (kws:List Keyword) (t:TA):Prop:=
 ∀ (pos:Pos) (pins:List (Addr × Obj)) (s:Shared) (σ:St) (H:Hp) (Q:List V->Hp->Prop),a6 X pins σ H s->t σ H Q->wpAny (model X.prog X.w) X.A (evalAll ((backToKw pos (keywordEach kws X.env)).map (·.2))) (AP X pins σ Q) X.xe s
structure FnScope (N P:List Str) (sc:Scope):Prop where
 kind:sc.kind = .function
 co:sc.isCoroutine=false
 gen:sc.isGenerator=false
 nd:N.Nodup
 pre:N.take P.length=P
 par:∀ x ∈ P,sc.names.lookup x=some .local ∨ sc.names.lookup x=some .cell
 nofree:∀ y ∈ sc.names,y.2 ≠ .free
theorem C8 {kindOf:Str->Option NameKind}{x:Str}:∀ {binds:List (Str × Value)}{m:Str->Option Value},(∀ v,(x,v) ∉ binds)->bindL kindOf binds m x=m x
 | [],_,_=>rfl
 | (n,v) :: r,m,h=>by
  unfold bindL
  rw [C8 fun w hw=>h w (bh8 _ hw)]
  split
  ·have:x ≠ n:=by rintro rfl; exact h v bh2
   simp [this]
  ·rfl
theorem C9 {kindOf:Str->Option NameKind}{x:Str}:∀ {binds:List (Str × Value)}{m:Str->Option Value},(∀ v,(x,v) ∉ binds)->bindC kindOf binds m x=m x
 | [],_,_=>rfl
 | (n,v) :: r,m,h=>by
  unfold bindC
  rw [C9 fun w hw=>h w (bh8 _ hw)]
  split
  ·rfl
  ·have:x ≠ n:=by rintro rfl; exact h v bh2
   simp [this]
theorem E1 {kindOf:Str->Option NameKind}{x:Str}{v:Value}:∀ {P:List Str}{vs:List Value}{i:Nat}{m:Str->Option Value},P.Nodup->P[i]? = some x->vs[i]? = some v->kindOf x=some .local->
  bindL kindOf (P.zip vs) m x=some v
 | [],_,_,_,_,h,_,_=>by simp at h
 | _ :: _,[],_,_,_,_,h,_=>by simp at h
 | p :: P,w :: vs,0,m,nd,h1,h2,hk=>by
  simp at h1 h2; subst h1; subst h2
  show bindL kindOf ((p,w) :: P.zip vs) m p=_
  unfold bindL
  rw [C8 fun v hv=>(bo4.mp nd).1 (List.of_mem_zip hv).1,if_pos hk]
  simp
 | p :: P,w :: vs,i+1,m,nd,h1,h2,hk=>by
  show bindL kindOf ((p,w) :: P.zip vs) m x=_
  unfold bindL
  exact E1 (i:=i) (bo4.mp nd).2 (by simpa using h1) (by simpa using h2) hk
theorem E2 {kindOf:Str->Option NameKind}{x:Str}{v:Value}:∀ {P:List Str}{vs:List Value}{i:Nat}{m:Str->Option Value},P.Nodup->P[i]? = some x->vs[i]? = some v->kindOf x ≠ some .local->
  bindC kindOf (P.zip vs) m x=some v
 | [],_,_,_,_,h,_,_=>by simp at h
 | _ :: _,[],_,_,_,_,h,_=>by simp at h
 | p :: P,w :: vs,0,m,nd,h1,h2,hk=>by
  simp at h1 h2; subst h1; subst h2
  show bindC kindOf ((p,w) :: P.zip vs) m p=_
  unfold bindC
  rw [C9 fun v hv=>(bo4.mp nd).1 (List.of_mem_zip hv).1,if_neg hk]
  simp
 | p :: P,w :: vs,i+1,m,nd,h1,h2,hk=>by
  show bindC kindOf ((p,w) :: P.zip vs) m x=_
  unfold bindC
  exact E2 (i:=i) (bo4.mp nd).2 (by simpa using h1) (by simpa using h2) hk
noncomputable def start (N:List Str) (vs:List V):St:=vs.map some ++ List.replicate (N.length - vs.length) none
noncomputable def dM (CX:gW) (P:Program) (w:World) (K:PySem.W.Frag) (mg:Str->Option Value) (base:Heap) (N:List Str) (qual:Str) (scope:Scope) (f:Addr) (cd:Value) (A:Around) (outer:List Env) (s:Shared) (H:Hp) (E:XK):Cx where
 prog:=P
 w:=w
 K:=K
 mg:=mg
 base:=base
 A:=A.deeper (envOfC qual scope s.heap.objs.size f cd)
 N:=N
 s₀:=s
 H₀:=H
 env:=envOfC qual scope s.heap.objs.size f cd
 outer:=outer
 stack:=envOfC qual scope s.heap.objs.size f cd :: outer
 ex:=[]
 calm:=true
 fn:=fun _=>true
 pn:=[]
 xe:=fun e s'=>wpAny (model P w) (A.deeper (envOfC qual scope s.heap.objs.size f cd)) (leaving (envOfC qual scope s.heap.objs.size f cd) e) (fun _ s''=>CX outer H s E e s'') (fun e' s''=>CX outer H s E e' s'') s'
theorem E3 {sc:Scope}{n:Nat}{x:Str} (h:sc.names.lookup x=some .cell):∃ c,(cellsFrom n sc.names []).lookup x=some c:=by
 have q:=PySem.W.cellsFrom_some sc.names n [] (.inl h)
 exact Option.isSome_iff_exists.mp q
theorem ar0 {CX:gW}{P:Program}{w:World}{K:PySem.W.Frag}{mg:Str->Option Value}{base:Heap}{N ps:List Str}{qual:Str}{scope:Scope}{f:Addr}{cd:Value}{A:Around}{outer:List Env}{s s1:Shared}{H:Hp}{E:XK}{us:List Value}{vs:List V}
  (S:FnScope N ps scope) (hd:A.handled=none) (e0:qK P w K mg base A outer s H) (hl:vs.length=ps.length) (r:aM vs us)
  (x:InCallC s s.heap.objs.size (bindL (envOfC qual scope s.heap.objs.size f cd).kindOf (ps.zip us) fun _=>none) (cellsFrom (s.heap.objs.size+1) scope.names []) (bindC (envOfC qual scope s.heap.objs.size f cd).kindOf (ps.zip us) fun _=>none) s1) :
  a6 (dM CX P w K mg base N qual scope f cd A outer s H E) [] (start N vs) H s1:=by
 have hpl:ps.length<=N.length:=by have:=congrArg List.length S.pre; rw [br4] at this; omega
 obtain ⟨h1,tk,rfl,hk⟩:=x.done
 have noA:∀ b:Addr,b ∉ (dM CX P w K mg base N qual scope f cd A outer s H E).ex:=fun b z=>absurd (show b ∈ ([]:List Addr) from z) (by simp)
 refine⟨⟨e0.mod,S.kind,rfl,rfl,bh0 _,fun y z c h1 h2=>?_,fun y hy=>?_,fun y c _ h=>?_,fun _=>hd,Around.frames_deeper e0.frames,.inr ⟨rfl,rfl⟩,fun b z=>absurd z (noA b),e0.bs,e0.bsz,fun b _ _=>noA b,fun b z=>absurd z (noA b),e0.funs,e0.frf⟩,
  rfl,e0.bare,Un.kept hk,⟨_,x.toInCall.ns,fun i y v h1 h2 h3=>?_⟩,fun y c h=>⟨_,x.cell y c h⟩,e0.hok.fresh (bh0 _),fun y c h=>?_,fun p hp=>absurd (show p ∈ ([]:List (Addr × Obj)) from hp) (by simp),e0.hok.kept hk,?_⟩
 ·exact name_of_addr x.apart (bm2 h1) (bm2 h2)
 ·have hy:scope.names.lookup y=some .cell ∨ scope.names.lookup y=some .free:=hy
  rcases hy with hy | hy
  ·exact E3 hy
  ·exact absurd rfl (S.nofree _ (bm2 hy))
 ·exact bl7 (x.above y c (bm2 h))
 ·have hi:i < vs.length:=by
   unfold start at h2
   by_cases hi:i < vs.length
   ·exact hi
   ·rw [bo9 (by simpa using hi)] at h2
    rw [List.getElem?_replicate] at h2
    split at h2 <;> cases h2
  have ha:vs[i]? = some v:=by
   unfold start at h2
   rw [bj7 (by simpa using hi),bh9] at h2
   cases e:vs[i]? with
   | none=>rw [e] at h2; cases h2
   | some a=>rw [e] at h2; cases h2; rfl
  obtain ⟨u,hu,rv⟩:=r.get ha
  have hp:ps[i]? = some y:=by
   rw [<- S.pre,List.getElem?_take_of_lt (by omega)]; exact h1
  have ndP:ps.Nodup:=by rw [<- S.pre]; exact S.nd.sublist (List.take_sublist _ _)
  refine⟨u,rv,?_⟩
  rcases S.par y (bg9 hp) with k | k
  ·exact .inl ⟨k,E1 ndP hp hu k⟩
  ·obtain ⟨c,e⟩:=E3 (n:=s.heap.objs.size+1) k
   refine .inr ⟨.inl k,c,e,?_⟩
   have q:=x.cell y c e
   rw [E2 ndP hp hu (by show scope.names.lookup y ≠ _; rw [k]; decide)] at q
   exact q
 ·exact e0.hok.fresh (bl7 (x.above y c (bm2 h)))
 ·unfold start
  show _=N.length
  rw [bi4,bh1,bq4]
  omega
theorem E4 {CX:gW}{P:Program}{w:World}{K:PySem.W.Frag}{mg:Str->Option Value}{base:Heap}{k:Nat}{f:Addr}{name qual:Str}{params:Arguments}{body:List Stmt}{scope:Scope}{dV kV doc pm cdv ct oc:Value}{an od:Option Addr}
  {osl:Array (Option Value)}{N ps:List Str}{sp:Sp} (lk:K.lookup f=some ⟨oc,od,.func (PySem.W.fnOf name qual params body scope dV kV doc pm an cdv ct),osl⟩) (hcd:PySem.W.codeIn K cdv qual=true) (S:FnScope N ps scope)
  (len:∀ vs H Q E,sp vs H Q E->vs.length=ps.length)
  (hbody:∀ (A:Around) (outer:List Env) (s:Shared) (H:Hp) (vs:List V) (Q:VK) (E:XK),cA k (A.deeper (envOfC qual scope s.heap.objs.size f cdv))->sp vs H Q E->
   ∃ t,dW (dM CX P w K mg base N qual scope f cdv A outer s H E) body t/\t { nx:=fun _ H'=>Q .non H',rt:=Q } (start N vs) H) :
  cP P w K mg base CX (k+1) f (PySem.W.fnOf name qual params body scope dV kV doc pm an cdv ct) ps sp:=by
 refine⟨len,fun A outer s H args us vs Q E hr e0 hb r hsp=>?_⟩
 have hl:=len _ _ _ _ hsp
 have KX:K.In s.heap:=e0.mod.kin.keeps fun b o e=>(e0.bs b o e).1
 have lim:s.heap.NoLimit:=e0.mod.nolimit.keeps fun b o e=>(e0.bs b o e).1
 have hkind:∀ y ∈ ps.zip us,scope.names.lookup y.1=some .local ∨ (scope.names.lookup y.1=some .cell/\((cellsFrom (s.heap.objs.size+1) scope.names []).lookup y.1).isSome=true):=fun ⟨n,v⟩ hy=>by
  rcases S.par n (List.of_mem_zip hy).1 with q | q
  ·exact .inl q
  ·exact .inr ⟨q,PySem.W.cellsFrom_some _ _ _ (.inl q)⟩
 refine codeAny_call_function hr.depth (KX _ _ lk) rfl S.co S.gen rfl (PySem.W.codeRec_of KX hcd) (hb _ _ _ _ ?_)
 refine wpAny_newFunctionEnv_cells S.kind hkind fun env he s1 x=>?_
 subst he
 refine⟨lim.keeps x.toInCall.keep,codeAny_func ?_⟩
 obtain ⟨t,ht,hq⟩:=hbody A outer s H vs Q E (hr.deeper _) hsp
 have I:a6 (dM CX P w K mg base N qual scope f cdv A outer s H E) [] (start N vs) H s1:=ar0 S hr.hd e0 hl r x
 refine bo8 (ht [] s1 (start N vs) H _ I hq) (fun fl s' hs=>?_) fun e s' hs=>hs
 have fin:∀ {σ':St}{H':Hp}{v:V}{u:Value},a6 (dM CX P w K mg base N qual scope f cdv A outer s H E) [] σ' H' s'->aV v u->Q v H'->CE outer P w H s Q u s':=
  fun {σ' H' v u} J rv q=>⟨v,H',J.os,J.bare,J.base,J.hok,rv,q⟩
 cases fl with
 | ret u=>
  obtain ⟨v,σ',H',J,rv,q⟩:=hs
  exact fin J rv q
 | next=>
  obtain ⟨σ',H',J,q⟩:=hs
  exact fin (v:=V.non) (u:=Value.none) J rfl q
 | brk=>
  obtain ⟨_,_,_,q⟩:=hs
  exact False.elim q
 | cont=>
  obtain ⟨_,_,_,q⟩:=hs
  exact False.elim q
section
variable {X : Cx} {x : Str} {p pos : Pos} {e : Expr} {es : List Expr} {t : TA} {id T : String} {r : List V → Hp → VK → Prop}
noncomputable def uV (r:List V->Hp->VK->Prop) (t:TA):TE:=fun σ H Q=>t σ H fun vs H1=>r vs H1 Q
theorem oD (hc:dI X (.builtin id) r) (hg:Gl X x) (hm:X.mg x=none) (hv:bootBuiltins x=some (.builtin id)) (ha:PA X (e :: es) t) (hn:x ≠ "__name__":=by decide) (hdb:(x == ("__debug__" : Str))=false:=by decide)
  (he:starEach (e :: es) X.env=(false,eval e X.env) :: starEach es X.env:=by rfl) (hpl:(backTo pos (starEach es X.env)).any (·.1)=false:=by rfl):PE X (.Call (.Name x p) (e :: es) [] pos) (uV r t):=by
 intro pins s σ H Q I h
 refine wpAny_Call_Name_kw (j4 I hg hm hv ?_ hn hdb)
 exact PyProof.Rows.callWith_builtin1 (aO (ha pos pins s σ H _ I h) fun us s1 ⟨vs,H1,I1,r1,q1⟩=>hc pins s1 σ H1 vs us Q I1 r1 q1) he hpl
theorem E5 (hc:dI X (.type T) r) (hg:Gl X x) (hm:X.mg x=none) (hv:bootBuiltins x=some (.type T)) (ha:PA X (e :: es) t) (hn:x ≠ "__name__":=by decide) (hdb:(x == ("__debug__" : Str))=false:=by decide)
  (he:starEach (e :: es) X.env=(false,eval e X.env) :: starEach es X.env:=by rfl) (hpl:(backTo pos (starEach es X.env)).any (·.1)=false:=by rfl):PE X (.Call (.Name x p) (e :: es) [] pos) (uV r t):=by
 intro pins s σ H Q I h
 refine wpAny_Call_Name_kw (j4 I hg hm hv ?_ hn hdb)
 exact bo3 (aO (ha pos pins s σ H _ I h) fun us s1 ⟨vs,H1,I1,r1,q1⟩=>hc pins s1 σ H1 vs us Q I1 r1 q1) he hpl
end
end L2
namespace HT
open PySem PyProof.Rows
noncomputable def dA:List Int->List Int->Bool
 | [],[]=>false
 | [],_ :: _=>true
 | _ :: _,[]=>false
 | x :: xs,y :: ys=>if x=y then dA xs ys else decide (x < y)
theorem kZ (x y:Int) (xs ys:List Int):dA (x :: xs) (y :: ys)=if x=y then dA xs ys else decide (x < y):=rfl
theorem ar1:dA [] []=false:=rfl
section
variable {prog : Program} {w : World} {A : Around} {E : Value → Shared → Prop} {s : Shared}
theorem ar2 {t b:Addr}{vs ws:List Value}{Q:Value->Shared->Prop} (ht:IsTup s.heap t vs.toArray) (hb:IsTup s.heap b ws.toArray) (hv:vs ≠ [])
  (h1:ws = []->Q (.ref t) s) (h2:ws ≠ []->Q (.ref s.heap.objs.size) { s with heap:=s.heap.push { cls:=.type "tuple",data:=.seq (vs ++ ws).toArray } })
  (hsz:vs.length+ws.length<=sizeLine):wpAny (model prog w) A (binaryOp .Add (.ref t) (.ref b)) Q E s:=by
 obtain ⟨⟨cls,dd,data,sl⟩,ho,hc,n,hd⟩:=id ht
 obtain ⟨⟨cls2,dd2,data2,sl2⟩,ho2,hc2,n2,hd2⟩:=id hb
 simp only at hc hd hc2 hd2
 subst hc hd hc2 hd2
 have e:vs.toArray ++ ws.toArray=(vs ++ ws).toArray:=by simp
 by_cases hw:ws = []
 ·exact concat_meets ⟨_,ho,rfl⟩ ⟨_,ho2,rfl⟩ noFill_tuple_add seq_tuple_add PySem.F.slot_tuple_add PySem.F.entry_tuple_add (PySem.F.args_tuple_add_2 _ _)
   (tuple_addW1 t b vs.toArray ws.toArray n n2 dd dd2 sl sl2 (by simpa using hv) (by simp [hw])) ⟨ho,ho2,h1 hw⟩
 ·refine concat_meets ⟨_,ho,rfl⟩ ⟨_,ho2,rfl⟩ noFill_tuple_add seq_tuple_add PySem.F.slot_tuple_add PySem.F.entry_tuple_add (PySem.F.args_tuple_add_2 _ _)
   (tuple_addW2 t b vs.toArray ws.toArray n n2 dd dd2 sl sl2 (by simpa using hv) (by simpa using hw) (by rw [bg5,bg5]; exact hsz)) ⟨ho,ho2,?_⟩
  rw [e]
  exact h2 hw
noncomputable def aX (n d:Nat):Option Int->Nat
 | none=>d
 | some v=>if v < 0 then (v+(n:Int)).toNat else min v.toNat n
theorem ar3 (n d k:Nat):aX n d (some (k:Int))=min k n:=by
 show (if (k:Int) < 0 then ((k:Int)+(n:Int)).toNat else min (k:Int).toNat n)=min k n
 rw [if_neg (by omega),bk1]
theorem ar4 (n d:Nat) (hd:d<=n) (o:Option Int):aX n d o<=n:=by
 cases o with
 | none=>exact hd
 | some v=>
  show (if v < 0 then (v+(n:Int)).toNat else min v.toNat n)<=n
  by_cases hv:v < 0
  ·rw [if_pos hv]; omega
  ·rw [if_neg hv]; exact Nat.min_le_right _ _
theorem E6 (v:Int) (n d:Nat):(if v < 0 then max (v+(n:Int)) 0 else min v (n:Int))=((aX n d (some v):Nat):Int):=by
 show (if v < 0 then max (v+(n:Int)) 0 else min v (n:Int))=(((if v < 0 then (v+(n:Int)).toNat else min v.toNat n):Nat):Int)
 by_cases hv:v < 0
 ·simp only [if_pos hv]; omega
 ·simp only [if_neg hv]; omega
theorem ar5 (lo hi:Option Int) (n:Nat):Builtin.Slice.sliceAdjust lo hi 1 (n:Int)=(((aX n 0 lo:Nat):Int),((aX n n hi:Nat):Int)):=by
 have h1 : ¬ ((1:Int) < 0):=by omega
 unfold Builtin.Slice.sliceAdjust
 simp only [h1,bn0]
 refine Prod.ext ?_ ?_
 ·cases lo with
  | none=>rfl
  | some v=>exact E6 v n 0
 ·cases hi with
  | none=>rfl
  | some v=>exact E6 v n n
theorem ar6 (i j:Nat):Builtin.Slice.slicePlaces (i:Int) (j:Int) 1=j - i:=by
 unfold Builtin.Slice.slicePlaces
 have h1:(1:Int) > 0:=by omega
 simp only [h1,if_true,Int.ediv_one]
 split <;> omega
theorem E7 {v:Value}{o:Option Int}{Q:Option Int->Shared->Prop} (p:IsPart v o) (h:Q o s):wpAny (model prog w) A (Builtin.Slice.slicePartIndex v) Q E s:=by
 cases p with
 | none=>exact slicePart_none h
 | int i t=>exact slicePart_int h
theorem E8 {sl:Addr}{vl vu:Value}{lo hi:Option Int}{n:Nat}{Q:Int × Int × Nat->Shared->Prop} (hs:s.heap.IsSliceOf sl vl vu .none) (pl:IsPart vl lo) (pu:IsPart vu hi)
  (h:Q (((aX n 0 lo:Nat):Int),1,aX n n hi - aX n 0 lo) s):wpAny (model prog w) A (Builtin.Slice.sliceApplied (.ref sl) (pure (n:Int))) Q E s:=by
 obtain ⟨os,hos,hcs,hds⟩:=id hs
 unfold Builtin.Slice.sliceApplied Builtin.Slice.sliceFields
 refine bg3 (bg3 (br8 hos hds (x:=vl) rfl (bg3 (br8 hos hds (x:=vu) rfl (bg3 (br8 hos hds (x:=.none) rfl (bh4 ?_)))))))
 refine bg3 (slicePart_none ?_)
 show wpAny _ _ (if ((1:Int) == 0)=true then _ else _) _ _ s
 rw [if_neg (by decide)]
 refine bg3 (E7 pl (bg3 (E7 pu (bg3 (bh4 ?_)))))
 show wpAny _ _ (match Builtin.Slice.sliceAdjust lo hi 1 (n:Int) with | (lo,hi)=>pure (lo,(1:Int),Builtin.Slice.slicePlaces lo hi 1)) _ _ s
 rw [ar5 lo hi n]
 show wpAny _ _ (pure (((aX n 0 lo:Nat):Int),(1:Int),Builtin.Slice.slicePlaces ((aX n 0 lo:Nat):Int) ((aX n n hi:Nat):Int) 1)) _ _ s
 rw [ar6]
 exact bh4 h
theorem ar7 (xs:Array Value) (i k:Nat):((List.range k).filterMap fun (m:Nat)=>xs[((i:Int)+(m:Int) * 1).toNat]?).toArray=((xs.toList.drop i).take k).toArray:=by
 have e:(fun (m:Nat)=>xs[((i:Int)+(m:Int) * 1).toNat]?)=fun m=>xs[i+m]?:=by
  funext m
  have:((i:Int)+(m:Int) * 1).toNat=i+m:=by omega
  rw [this]
 rw [e]
 have:=pick_run xs i k
 rw [List.filterMap_map] at this
 have e2:((fun x=>xs[x]?) ∘ fun x=>i+x)=fun m=>xs[i+m]?:=rfl
 rw [e2] at this
 rw [this]
theorem ar8 {t sl:Addr}{items:Array Value}{vl vu:Value}{lo hi:Option Int}{Q:Value->Shared->Prop} (ht:IsTup s.heap t items) (hs:s.heap.IsSliceOf sl vl vu .none) (pl:IsPart vl lo) (pu:IsPart vu hi)
  (hw : ¬ (aX items.size 0 lo=0/\aX items.size items.size hi=items.size))
  (h:Q (.ref s.heap.objs.size) { s with heap:=s.heap.push { cls:=.type "tuple",data:=.seq ((items.toList.drop (aX items.size 0 lo)).take (aX items.size items.size hi - aX items.size 0 lo)).toArray } })
  (hsz:items.size<=sizeLine):wpAny (model prog w) A (getItem (.ref t) (.ref sl)) Q E s:=by
 have htake:sizeOk (.seq ((items.toList.drop (aX items.size 0 lo)).take (aX items.size items.size hi - aX items.size 0 lo)).toArray):=by
  show ((items.toList.drop (aX items.size 0 lo)).take (aX items.size items.size hi - aX items.size 0 lo)).toArray.size<=sizeLine
  rw [bg5,br4,bs4,Array.length_toList]
  omega
 have hj:aX items.size items.size hi<=items.size:=ar4 _ _ (bh0 _) hi
 obtain ⟨os,hos,hcs,hds⟩:=id hs
 have hTs:s.TypeIs (.ref sl) "slice":=⟨os,hos,hcs⟩
 unfold getItem
 try with_reducible refine bp2 ?_
 first | refine bg3 (bh4 ?_) | skip
 refine bg3 (wpAny_sequenceKey ht.typeIs (by decide) ?_)
 refine bg3 (bq8 (name:=Str.ofString "__getitem__") ht.typeIs bt3
  (bn8 bt3 ht.typeIs entry_tuple_getitem ?_ (args_tuple_getitem _ _)))
 show wpAny _ _ (Builtin.Tuple.tupleItemsOf (.ref t) >>= _) _ _ s
 refine bg3 (tupleItemsOf_ ht ?_)
 refine bg3 (wpAny_typeOf hTs ?_)
 rw [if_pos (by decide)]
 refine bg3 (E8 hs pl pu ?_)
 have hno : ¬ ((((aX items.size 0 lo:Nat):Int) == 0 && (1:Int) == 1 && (aX items.size items.size hi - aX items.size 0 lo) == items.size)=true):=by
  intro q
  rw [bl6,bl6] at q
  have q1:((aX items.size 0 lo:Nat):Int)=0:=eq_of_beq q.1.1
  have q2:aX items.size items.size hi - aX items.size 0 lo=items.size:=eq_of_beq q.2
  exact hw ⟨by omega,by omega⟩
 show wpAny _ _ (if (((aX items.size 0 lo:Nat):Int) == 0 && (1:Int) == 1 && (aX items.size items.size hi - aX items.size 0 lo) == items.size)=true then _ else _) _ _ s
 rw [if_neg hno,ar7]
 first
  | exact bg3 (m:=Builtin.Tuple.tupleExact _) (bp3 (bh4 ⟨_,rfl,bh4 h⟩) htake)
  | exact bg3 (m:=Builtin.Tuple.tupleExact _) (bp3 (bg3 (bh4 (bh4 ⟨_,rfl,bh4 h⟩))) htake)
  | exact bg3 (bg3 (m:=Builtin.Tuple.tupleExact _) (bp3 (bh4 (bh4 ⟨_,rfl,bh4 h⟩)) htake))
  | exact bg3 (bg3 (m:=Builtin.Tuple.tupleExact _) (bp3 (bh4 ⟨_,rfl,bh4 h⟩) htake))
end
end HT
namespace L2
open PySem PySem.Spec PyProof.Rows
noncomputable abbrev TO:=St->Hp->(Option Int->Hp->Prop)->Prop
noncomputable def PO (X:Cx) (e:Option Expr) (t:TO):Prop:=
 ∀ (pins:List (Addr × Obj)) (s:Shared) (σ:St) (H:Hp) (Q:Option Int->Hp->Prop),a6 X pins σ H s->t σ H Q->
  wpAny (model X.prog X.w) X.A (evalPart e X.env) (fun u s'=>∃ o H',a6 X pins σ H' s'/\IsPart u o/\Q o H') X.xe s
noncomputable def ar9:TO:=fun _ H Q=>Q none H
noncomputable def as0 (t:TE):TO:=fun σ H Q=>t σ H fun x H1=>∃ i,x = .int i/\Q (some i) H1
theorem mH {ns:List Int}:∀ {us:List Value},aM (ns.map V.int) us->IntsAre us ns:=by
 induction ns with
 | nil=>intro us r; rw [List.map_nil] at r; cases r; exact .nil
 | cons n ns ih=>
  intro us r
  rw [bm4] at r
  cases r with
  | cons r1 r2=>
   obtain ⟨t,e⟩:=r1
   subst e
   exact .cons n t (ih r2)
section
variable {X : Cx} {e : Expr} {te : TE} {lo hi : Option Expr} {tl th : TO} {pos p2 : Pos}
theorem E9:PO X none ar9:=by
 intro pins s σ H Q I h
 rw [evalPart_none]
 exact bh4 ⟨none,H,I,.none,h⟩
theorem uW (h:PE X e te):PO X (some e) (as0 te):=by
 intro pins s σ H Q I hw
 rw [evalPart_some]
 refine aO (h pins s σ H _ I hw) fun u s1 ⟨x,H1,I1,r1,q1⟩=>?_
 obtain ⟨i,rfl,q⟩:=q1
 obtain ⟨t,rfl⟩:=r1
 exact⟨some i,H1,I1,.int i t,q⟩
noncomputable def jZ (X:Cx) (r:V->Option Int->Option Int->Hp->VK->Prop):Prop:=
 ∀ (pins:List (Addr × Obj)) (s:Shared) (σ:St) (H:Hp) (x:V) (v vl vu:Value) (lo hi:Option Int) (sl:Addr) (Q:VK),a6 X pins σ H s->aV x v->s.heap.IsSliceOf sl vl vu .none->IsPart vl lo->IsPart vu hi->r x lo hi H Q->
  ∃ T id,typeLookup (.type T) "__getitem__" = pure (some (.builtin id))/\s.TypeIs v T/\wpAny (model X.prog X.w) X.A (getItem v (.ref sl)) (EP X pins σ Q) X.xe s
theorem jZ.or {r r':V->Option Int->Option Int->Hp->VK->Prop} (h:jZ X r) (h':jZ X r'):jZ X (fun x lo hi H Q=>r x lo hi H Q ∨ r' x lo hi H Q):=by
 intro pins s σ H x v vl vu lo hi sl Q I rx hs pl pu q
 rcases q with q | q
 ·exact h pins s σ H x v vl vu lo hi sl Q I rx hs pl pu q
 ·exact h' pins s σ H x v vl vu lo hi sl Q I rx hs pl pu q
noncomputable def tSl (r:V->Option Int->Option Int->Hp->VK->Prop) (te:TE) (tl th:TO):TE:=fun σ H Q=>te σ H fun x H1=>tl σ H1 fun l H2=>th σ H2 fun u H3=>r x l u H3 Q
theorem uX {r:V->Option Int->Option Int->Hp->VK->Prop} (hr:jZ X r) (he:PE X e te) (hl:PO X lo tl) (hu:PO X hi th):PE X (.Subscript e (.Slice lo hi none p2) pos) (tSl r te tl th):=by
 intro pins s σ H Q I h
 refine Subscript_ (aO (he pins s σ H _ I h) fun v s1 ⟨x,H1,I1,r1,q1⟩=>?_)
 refine wpAny_Slice (aO (hl pins s1 σ H1 _ I1 q1) fun vl s2 ⟨l,H2,I2,pl,q2⟩=>aO (hu pins s2 σ H2 _ I2 q2) fun vu s3 ⟨u,H3,I3,pu,q3⟩=>?_)
 rw [evalPart_none]
 refine bh4 ?_
 have I4:a6 X pins σ H3 { s3 with heap:=s3.heap.push { cls:=.type "slice",data:=.fields #[vl,vu,.none] } }:=I3.kept (t':=s3.toks) fun b ob q=>bg4 _ q
 obtain ⟨T,id,hT,ht,hg⟩:=hr pins { s3 with heap:=s3.heap.push { cls:=.type "slice",data:=.fields #[vl,vu,.none] } } σ H3 x v vl vu l u s3.heap.objs.size Q I4 r1 (Heap.IsSliceOf.new ..) pl pu q3
 show wpAny (model X.prog X.w) X.A (subscriptTail e (.Slice lo hi none p2) v (.ref s3.heap.objs.size)) (EP X pins σ Q) X.xe { s3 with heap:=s3.heap.push { cls:=.type "slice",data:=.fields #[vl,vu,.none] } }
 exact tail_any (ops:=[.ref s3.heap.objs.size,v]) ht hT hg (by with_unfolding_all rfl)
noncomputable def eL (xs:List V) (lo hi:Option Int):List V:=(xs.drop (HT.aX xs.length 0 lo)).take (HT.aX xs.length xs.length hi - HT.aX xs.length 0 lo)
theorem F0 (xs:List V) (lo hi:Option Int):(eL xs lo hi).length<=xs.length:=by
 unfold eL
 rw [br4,bs4]
 omega
noncomputable def as1 (K:PySem.W.Frag):V->Option Int->Option Int->Hp->VK->Prop:=fun x lo hi H Q=>∃ a xs,x = .ref a/\aJ K H a xs/\
 ¬ (HT.aX xs.length 0 lo=0/\HT.aX xs.length xs.length hi=xs.length)/\∀ p,H p=none->Q (.ref p) (upd H p (.tup (eL xs lo hi)))
theorem as2:jZ X (as1 X.K):=by
 intro pins s σ H x v vl vu lo hi sl Q I rx hs pl pu h
 obtain ⟨a,xs,rfl,hx,hw,q⟩:=h
 cases rx
 obtain ⟨its,r,ht,hz⟩:=I.tuple hx
 have hlen:its.toArray.size=xs.length:=by rw [bg5]; exact r.length.symm
 refine⟨"tuple",_,PyProof.Rows.slot_tuple_getitem.lookup,ht.typeIs,?_⟩
 refine HT.ar8 ht hs pl pu (by rw [hlen]; exact hw) ?_ (by rw [hlen]; exact hz)
 rw [hlen]
 refine⟨.ref s.heap.objs.size,_,I.laid (t':=s.toks) (o:=.tup (eL xs lo hi)) (fun b ob q=>bg4 _ q) (bh0 _) ?_,rfl,q _ (I.hok.fresh (bh0 _))⟩
 exact⟨bl4 (F0 xs lo hi) hz,_,(r.drop (HT.aX xs.length 0 lo)).take (HT.aX xs.length xs.length hi - HT.aX xs.length 0 lo),IsTup.new _ _,iQ.new _ _ rfl⟩
noncomputable def as3 (K:PySem.W.Frag):R2:=fun x y H Q=>∃ a b xs ys,x = .ref a/\y = .ref b/\aJ K H a xs/\aJ K H b ys/\xs ≠ []/\xs.length+ys.length<=sizeLine/\
 (ys = []->Q (.ref a) H)/\(ys ≠ []->∀ p,H p=none->Q (.ref p) (upd H p (.tup (xs ++ ys))))
theorem aM.nil_iff {xs:List V}{us:List Value} (r:aM xs us):us = [] ↔ xs = []:=by
 cases r with
 | nil=>simp
 | cons _ _=>simp
theorem as4:cI X (binaryOp .Add) (as3 X.K):=by
 intro pins s σ H x y v u Q I rx ry h
 obtain ⟨a,b,xs,ys,rfl,rfl,ha,hb,hx,hz,q1,q2⟩:=h
 cases rx
 cases ry
 obtain ⟨its,r1,p1,_⟩:=I.tuple ha
 obtain ⟨its2,r2,p2,_⟩:=I.tuple hb
 refine HT.ar2 p1 p2 (fun z=>hx (r1.nil_iff.mp z)) (fun z=>⟨.ref a,H,I,rfl,q1 (r2.nil_iff.mp z)⟩) (fun z=>?_) (by rw [<- r1.length,<- r2.length]; exact hz)
 refine⟨.ref s.heap.objs.size,_,I.laid (t':=s.toks) (o:=.tup (xs ++ ys)) (fun b ob q=>bg4 _ q) (bh0 _) ?_,rfl,q2 (fun w=>z (r2.nil_iff.mpr w)) _ (I.hok.fresh (bh0 _))⟩
 exact⟨by rw [bi4]; exact hz,_,r1.append r2,IsTup.new _ _,iQ.new _ _ rfl⟩
end
noncomputable def eW (n:Nat) (i:Int):Option Nat:=if 0<=i then (if i < n then some i.toNat else none) else if -(n:Int)<=i then some (i+n).toNat else none
noncomputable def atI {α:Type} (xs:List α) (i:Int):Option α:=(eW xs.length i).bind fun j=>xs[j]?
theorem F1 {n:Nat}{i:Int}{j:Nat} (h:eW n i=some j):seqIndex? i n=some j/\j < n/\-(n:Int)<=i/\i < n:=by
 unfold eW at h
 by_cases h0:0<=i
 ·rw [if_pos h0] at h
  by_cases h1:i < n
  ·rw [if_pos h1] at h
   have e:i.toNat=j:=bj9 h
   exact⟨by rw [seqIndex_of h0 h1,e],by omega,by omega,h1⟩
  ·rw [if_neg h1] at h; cases h
 ·rw [if_neg h0] at h
  by_cases h1 : -(n:Int)<=i
  ·rw [if_pos h1] at h
   have e:(i+n).toNat=j:=bj9 h
   exact⟨by rw [seqIndex_neg (by omega) h1,e],by omega,h1,by omega⟩
  ·rw [if_neg h1] at h; cases h
theorem uY {α:Type}{xs:List α}{i:Int}{v:α} (h:atI xs i=some v):∃ j,seqIndex? i xs.length=some j/\xs[j]? = some v/\j < xs.length/\-(xs.length:Int)<=i/\i < xs.length:=by
 unfold atI at h
 cases e:eW xs.length i with
 | none=>rw [e] at h; cases h
 | some j=>
  rw [e] at h
  obtain ⟨h1,h2,h3,h4⟩:=F1 e
  exact⟨j,h1,h,h2,h3,h4⟩
theorem l8 {α:Type}{xs:List α}{j:Nat}{v:α} (h:xs[j]? = some v):atI xs (j:Int)=some v:=by
 have hj:j < xs.length:=(bh3.mp h).1
 have e:eW xs.length (j:Int)=some j:=by
  unfold eW
  rw [if_pos (by omega),if_pos (by omega)]; simp
 unfold atI; rw [e]; exact h
noncomputable def F3 (b:Expr):Prop:=∀ o i,subscripted b false o i=operate [o,i] (getItem o i)
noncomputable def j9 (X:Cx) (r:R2):Prop:=
 ∀ (value slice:Expr) (pins:List (Addr × Obj)) (s:Shared) (σ:St) (H:Hp) (x y:V) (v u:Value) (Q:VK),a6 X pins σ H s->aV x v->aV y u->r x y H Q->
  subscripted slice false v u=operate [v,u] (getItem v u)->wpAny (model X.prog X.w) X.A (subscriptTail value slice v u) (EP X pins σ Q) X.xe s
noncomputable def F4 (X:Cx) (id:String) (r:V->List V->Hp->VK->Prop):Prop:=
 ∀ (pins:List (Addr × Obj)) (s:Shared) (σ:St) (H:Hp) (x:V) (xs:List V) (v:Value) (us:List Value) (Q:VK),a6 X pins σ H s->aV x v->aM xs us->r x xs H Q->
  wpAny (model X.prog X.w) X.A (call (.builtin id) (v :: us)) (EP X pins σ Q) X.xe s
section
variable {X : Cx} {a b : Expr} {ta tb : TE} {pos : Pos}
theorem j9.or {r r':R2} (h:j9 X r) (h':j9 X r'):j9 X (fun x y H Q=>r x y H Q ∨ r' x y H Q):=by
 intro value slice pins s σ H x y v u Q I rx ry q hs
 rcases q with q | q
 ·exact h value slice pins s σ H x y v u Q I rx ry q hs
 ·exact h' value slice pins s σ H x y v u Q I rx ry q hs
theorem jA {r:R2} (hr:j9 X r) (ha:PE X a ta) (hb:PE X b tb) (hs:F3 b):PE X (.Subscript a b pos) (o9 r ta tb):=by
 intro pins s σ H Q I h
 exact Subscript_ (uI ha hb I h fun v u s2 x y H2 I2 rx ry q=>hr a b pins s2 σ H2 x y v u Q I2 rx ry q (hs _ _))
noncomputable def F5 (K:PySem.W.Frag):R2:=fun x y H Q=>∃ p xs i v,x = .ref p/\y = .int i/\aN K H p xs/\atI xs i=some v/\Q v H
noncomputable def F6 (K:PySem.W.Frag):R2:=fun x y H Q=>∃ p xs i v,x = .ref p/\y = .int i/\aJ K H p xs/\atI xs i=some v/\Q v H
noncomputable def F7:R2:=fun x y H Q=>∃ z i c,x = .str z/\y = .int i/\z.length<=sizeLine/\atI z.cps.toList i=some c/\Q (.str ⟨#[c]⟩) H
theorem oE:j9 X (F5 X.K):=by
 intro value slice pins s σ H x y v u Q I rx ry h hs
 obtain ⟨p,xs,i,z,rfl,rfl,hq,he,q⟩:=h
 cases rx
 obtain ⟨t,rfl⟩:=ry
 obtain ⟨its,r,pl,hz⟩:=I.list hq
 obtain ⟨j,h1,h2,h3,h4,h5⟩:=uY he
 obtain ⟨w,ew,rw'⟩:=r.get h2
 have hl:=r.length
 have hn:=mG
 have fin:EP X pins σ Q w s:=⟨z,H,I,rw',q⟩
 by_cases h0:0<=i
 ·have hj:i.toNat=j:=by
   rw [seqIndex_of h0 h5] at h1
   exact bj9 h1
  exact item_listR pl.isList h0 (by omega) (by rw [hj]; simpa using ew) fin hs
 ·have hj:(i+(its.toArray.size:Int)).toNat=j:=by
   rw [seqIndex_neg (by omega) h4] at h1
   rw [bg5,<- hl]
   exact bj9 h1
  exact subscriptTail_builtinR (x:=w) pl.isList.typeIs slot_list_getitem.lookup
   (wpAny_getItem_list_neg (Q:=fun r s'=>r=w/\EP X pins σ Q r s') pl.isList (by omega) (by rw [bg5] <;> omega) (by omega) (by rw [hj]; simpa using ew) ⟨rfl,fin⟩) hs
theorem oF:j9 X (F6 X.K):=by
 intro value slice pins s σ H x y v u Q I rx ry h hs
 obtain ⟨p,xs,i,z,rfl,rfl,hq,he,q⟩:=h
 cases rx
 obtain ⟨t,rfl⟩:=ry
 obtain ⟨its,r,pl,hz⟩:=I.tuple hq
 obtain ⟨j,h1,h2,h3,h4,h5⟩:=uY he
 obtain ⟨w,ew,rw'⟩:=r.get h2
 have hl:=r.length
 have hn:=mG
 have fin:EP X pins σ Q w s:=⟨z,H,I,rw',q⟩
 exact subscriptTail_builtinR (x:=w) pl.typeIs slot_tuple_getitem.lookup
  (getItem_tuple (j:=j) (Q:=fun r s'=>r=w/\EP X pins σ Q r s') pl (by omega) (by omega) (by rw [bg5,<- hl]; exact h1) (by simpa using ew) ⟨rfl,fin⟩) hs
theorem as5:j9 X F7:=by
 intro value slice pins s σ H x y v u Q I rx ry h hs
 obtain ⟨z,i,c,rfl,rfl,hz,he,q⟩:=h
 obtain ⟨t,rfl⟩:=rx
 obtain ⟨t',rfl⟩:=ry
 obtain ⟨j,h1,h2,h3,h4,h5⟩:=uY he
 have hl:z.cps.toList.length=z.length:=by simp [Str.length]
 rw [hl] at h1 h4 h5
 have hn:=mG
 exact tail_any (typeIs_str s z t) slot_str_getitem.lookup (getItem_str (c:=c) (by
  have e1:decide (i < -(2 ^ 63:Int))=false:=bh5 (by omega)
  have e2:decide (i >= 2 ^ 63)=false:=bh5 (by omega)
  rw [e1,e2,Bool.or_false]) (by rw [h1]; simpa using h2) ⟨.str ⟨#[c]⟩,H,I.tok _,⟨_,rfl⟩,q⟩) hs
noncomputable def F8 (K:PySem.W.Frag):R2:=fun x y H Q=>F5 K x y H Q ∨ F6 K x y H Q ∨ F7 x y H Q
theorem as6:j9 X (F8 X.K):=oE.or (oF.or as5)
theorem as7 (its:List Value) (n j:Nat) (u:Value):Obj.mapSeq (·.setIfInBounds j u) { cls:=.type "list",data:=.seq its.toArray n }={ cls:=.type "list",data:=.seq (its.set j u).toArray n }:=by
 simp [Obj.mapSeq]
theorem a6.lst {pins:List (Addr × Obj)}{σ:St}{H:Hp}{s:Shared}{p:Addr}{xs:List V} (I:a6 X pins σ H s) (h:H p=some (.lst xs)) :
  ∃ (its:List Value) (n:Nat),aM xs its/\s.heap.get? p=some { cls:=.type "list",data:=.seq its.toArray n }/\xs.length<=sizeLine:=by
 obtain ⟨z,its,n,r,e⟩:=I.hok p _ h
 exact⟨its,n,r,e,z⟩
theorem a6.lstUpd {pins:List (Addr × Obj)}{σ:St}{H:Hp}{s:Shared}{p:Addr}{xs ys:List V}{its its':List Value}{n n':Nat}{f:Obj->Obj} (I:a6 X pins σ H s) (h:H p=some (.lst xs))
  (ho:s.heap.get? p=some { cls:=.type "list",data:=.seq its.toArray n }) (hf:f { cls:=.type "list",data:=.seq its.toArray n }={ cls:=.type "list",data:=.seq its'.toArray n' }) (r:aM ys its') (hz:ys.length<=sizeLine) (t:Nat) :
  a6 X pins σ (upd H p (.lst ys)) { s with heap:=s.heap.update p f,toks:=t }:=by
 have e:(s.heap.update p f).get? p=some { cls:=.type "list",data:=.seq its'.toArray n' }:=by
  rw [Heap.get?_update_self f ho (by rw [hf] <;> rfl),hf]
 refine I.write (x:=p) (e:=p) (by rw [h]; trivial) (.inl rfl) (fun b u hb q=>(Heap.get?_update_other _ _ (Ne.symm hb)).trans q) ⟨_,e⟩ ?_
 exact⟨hz,its',n',r,e⟩
noncomputable def uZ:V->V->V->Hp->(Hp->Prop)->Prop:=fun o i v H Q=>∃ p xs k j,o = .ref p/\i = .int k/\H p=some (.lst xs)/\eW xs.length k=some j/\Q (upd H p (.lst (xs.set j v)))
theorem as8:A8 X uZ:=by
 intro pins s σ H o i v ov iv u Q I ro ri rv h
 obtain ⟨p,xs,k,j,rfl,rfl,hp,hj,q⟩:=h
 cases ro
 obtain ⟨t,rfl⟩:=ri
 obtain ⟨its,n,r,ho,hz⟩:=I.lst hp
 obtain ⟨h1,h2,h3,h4⟩:=F1 hj
 have hl:=r.length
 have hn:=mG
 have I':a6 X pins σ (upd H p (.lst (xs.set j v))) { s with heap:=s.heap.update p (Obj.mapSeq (·.setIfInBounds j u)) }:=
  I.lstUpd hp ho (as7 its n j u) (r.set rv j) (by rw [bl1]; exact hz) s.toks
 by_cases h0:0<=k
 ·have hk:k.toNat=j:=by
   rw [seqIndex_of h0 h4] at h1
   exact bj9 h1
  exact PySem.W.ki_setAt ho h0 (by omega) (by rw [bg5,<- hl]; exact h4) (by rw [hk]; exact⟨_,I',q⟩)
 ·have hk:(k+(its.toArray.size:Int)).toNat=j:=by
   rw [seqIndex_neg (by omega) h3] at h1
   rw [bg5,<- hl]
   exact bj9 h1
  exact PySem.W.ki_setBack ho (by omega) (by rw [bg5,<- hl]; exact h3) (by omega) (by rw [hk]; exact⟨_,I',q⟩)
theorem as9 (lo hi:Option Int) (n:Nat):(sliceBounds lo hi none n).1=((HT.aX n 0 lo:Nat):Int)/\(sliceBounds lo hi none n).2.1=((HT.aX n n hi:Nat):Int)/\(sliceBounds lo hi none n).2.2=1:=by
 refine⟨?_,?_,rfl⟩
 ·cases lo with
  | none=>simp [sliceBounds,HT.aX]
  | some i=>
   simp only [sliceBounds,HT.aX,Option.getD_none,show (1:Int) > 0 by decide,if_true]
   by_cases h:i < 0
   ·simp only [h,if_true] <;> omega
   ·simp only [h,bn0] <;> omega
 ·cases hi with
  | none=>simp [sliceBounds,HT.aX]
  | some i=>
   simp only [sliceBounds,HT.aX,Option.getD_none,show (1:Int) > 0 by decide,if_true]
   by_cases h:i < 0
   ·simp only [h,if_true] <;> omega
   ·simp only [h,bn0] <;> omega
theorem at0 (its:List Value) (lo hi:Option Int):slicePick its.toArray lo hi none=((its.drop (HT.aX its.length 0 lo)).take (HT.aX its.length its.length hi - HT.aX its.length 0 lo)).toArray:=by
 obtain ⟨h1,h2,h3⟩:=as9 lo hi its.toArray.size
 unfold slicePick
 rw [h1,h2,h3]
 simp only [sliceRange_one,pick_run,bg5] <;> rfl
noncomputable def at2 (K:PySem.W.Frag):V->Option Int->Option Int->Hp->VK->Prop:=fun x lo hi H Q=>∃ a xs,x = .ref a/\aN K H a xs/\∀ p,H p=none->Q (.ref p) (upd H p (.lst (eL xs lo hi)))
theorem F9:jZ X (at2 X.K):=by
 intro pins s σ H x v vl vu lo hi sl Q I rx hs pl pu h
 obtain ⟨a,xs,rfl,hx,q⟩:=h
 cases rx
 obtain ⟨its,r,ht,hz⟩:=I.list hx
 have hlen:=r.length
 refine⟨"list",_,slot_list_getitem.lookup,ht.isList.typeIs,?_⟩
 refine wpAny_getItem_list_slice ht.isList hs pl pu .none (by simp) ?_ (by rw [bg5] <;> omega)
 rw [at0,<- hlen]
 refine⟨.ref s.heap.objs.size,_,I.laid (t':=s.toks) (o:=.lst (eL xs lo hi)) (fun b ob q=>bg4 _ q) (bh0 _) ?_,rfl,q _ (I.hok.fresh (bh0 _))⟩
 exact⟨bl4 (F0 xs lo hi) hz,_,0,(r.drop (HT.aX xs.length 0 lo)).take (HT.aX xs.length xs.length hi - HT.aX xs.length 0 lo),bi6 _ rfl⟩
noncomputable def jB:V->Bool
 | .non=>true
 | .bl _=>true
 | .int _=>true
 | .str _=>true
 | _=>false
noncomputable def iB:V->V->Bool
 | .non,.non=>true
 | .bl a,.bl b=>a == b
 | .bl a,.int b=>(if a then 1 else 0) == b
 | .int a,.bl b=>a == (if b then 1 else 0)
 | .int a,.int b=>a == b
 | .str a,.str b=>a == b
 | _,_=>false
theorem at3 {A:Around}{s:Shared}{y x:V}{u v:Value} (ry:aV y u) (rx:aV x v) (fy:jB y=true) (fx:jB x=true):SeqAt.EqAt A s u v (iB y x):=by
 cases y with
 | non=>
  cases ry
  cases x with
  | non=>cases rx; exact SeqAt.EqAt.same _
  | bl b=>cases rx; exact SeqAt.EqAt.none_bool b
  | int b=>obtain ⟨t,rfl⟩:=rx; exact SeqAt.EqAt.none_int b t
  | str b=>obtain ⟨t,rfl⟩:=rx; exact SeqAt.EqAt.none_str b t
  | _=>exact absurd (show false=true from fx) bi3
 | bl a=>
  cases ry
  cases x with
  | non=>cases rx; exact SeqAt.EqAt.bool_none a
  | bl b=>cases rx; exact SeqAt.EqAt.bool_bool a b
  | int b=>obtain ⟨t,rfl⟩:=rx; exact SeqAt.EqAt.bool_int a b t
  | str b=>obtain ⟨t,rfl⟩:=rx; exact SeqAt.EqAt.bool_str a b t
  | _=>exact absurd (show false=true from fx) bi3
 | int a=>
  obtain ⟨t',rfl⟩:=ry
  cases x with
  | non=>cases rx; exact SeqAt.EqAt.int_none a t'
  | bl b=>cases rx; exact SeqAt.EqAt.int_bool a t' b
  | int b=>obtain ⟨t,rfl⟩:=rx; exact SeqAt.EqAt.int_int a t' b t
  | str b=>obtain ⟨t,rfl⟩:=rx; exact SeqAt.EqAt.int_str a t' b t
  | _=>exact absurd (show false=true from fx) bi3
 | str a=>
  obtain ⟨t',rfl⟩:=ry
  cases x with
  | non=>cases rx; exact SeqAt.EqAt.str_none a t'
  | bl b=>cases rx; exact SeqAt.EqAt.str_bool a t' b
  | int b=>obtain ⟨t,rfl⟩:=rx; exact SeqAt.EqAt.str_int a t' b t
  | str b=>obtain ⟨t,rfl⟩:=rx; exact SeqAt.EqAt.str_str a t' b t
  | _=>exact absurd (show false=true from fx) bi3
 | _=>exact absurd (show false=true from fy) bi3
noncomputable def jC (x:V) (u:Value):Bool:=match u with
 | .none=>iB .non x
 | .bool b=>iB (.bl b) x
 | .int i _=>iB (.int i) x
 | .str z _=>iB (.str z) x
 | _=>false
theorem G0 {x y:V}{u:Value} (r:aV y u) (f:jB y=true):jC x u=iB y x:=by
 cases y with
 | non=>cases r; rfl
 | bl b=>cases r; rfl
 | int i=>obtain ⟨t,rfl⟩:=r; rfl
 | str z=>obtain ⟨t,rfl⟩:=r; rfl
 | _=>exact absurd (show false=true from f) bi3
theorem v0 {x:V}:∀ {xs:List V}{us:List Value},aM xs us->xs.all jB=true->us.any (jC x)=xs.any fun y=>iB y x
 | _,_,.nil,_=>rfl
 | y :: xs,u :: us,.cons r t,f=>by
  rw [bt6,bl6] at f
  rw [List.any_cons,List.any_cons,G0 r f.1,v0 t f.2]
theorem v3 {A:Around}{s:Shared}{x:V}{v:Value} (rx:aV x v) (fx:jB x=true):∀ {xs:List V}{us:List Value},aM xs us->xs.all jB=true->∀ u ∈ us,SeqAt.EqAt A s u v (jC x u)
 | _,_,.nil,_=>fun u hu=>by cases hu
 | y :: xs,u :: us,.cons r t,f=>fun u' hu=>by
  rw [bt6,bl6] at f
  rcases bi0.mp hu with rfl | hu
  ·rw [G0 r f.1]; exact at3 r rx f.1 fx
  ·exact v3 rx fx t f.2 u' hu
noncomputable def oG (x:V) (xs:List V):Bool:=xs.any fun y=>iB y x
noncomputable def G1 (K:PySem.W.Frag) (neg:Bool):R2:=fun x y H Q=>∃ p xs,y = .ref p/\(aN K H p xs ∨ aJ K H p xs)/\jB x=true/\xs.all jB=true/\Q (.bl (if neg then !oG x xs else oG x xs)) H
theorem at4:cI X (compareOp .NotIn) (G1 X.K true):=by
 intro pins s σ H x y v u Q I rx ry h
 obtain ⟨p,xs,rfl,hq,fx,fs,q⟩:=h
 cases ry
 rcases hq with hq | hq
 ·obtain ⟨its,r,pl,hz⟩:=I.list hq
  refine SeqAt.notIn_listAt (jC x) pl.isList (fun w hw=>v3 rx fx r fs w (by simpa using hw)) ⟨.bl _,H,I,rfl,?_⟩
  rw [show its.toArray.any (jC x)=its.any (jC x) by simp,v0 r fs]
  exact q
 ·obtain ⟨its,r,pl,hz⟩:=I.tuple hq
  refine SeqAt.notIn_tupleAt (jC x) pl (fun w hw=>v3 rx fx r fs w (by simpa using hw)) ⟨.bl _,H,I,rfl,?_⟩
  rw [show its.toArray.any (jC x)=its.any (jC x) by simp,v0 r fs]
  exact q
theorem at5:dI X (.builtin "len") (fun xs H Q=>∃ p ys,xs = [.ref p]/\(aN X.K H p ys ∨ aJ X.K H p ys)/\Q (.int ys.length) H):=by
 intro pins s σ H xs us Q I r h
 obtain ⟨p,ys,rfl,hq,q⟩:=h
 obtain ⟨u,rfl,rx⟩:=j8 r
 cases rx
 have hn:=mG
 rcases hq with hq | hq
 ·obtain ⟨its,r',pl,hz⟩:=I.list hq
  have hlen:=r'.length
  exact Calls.call_len_list pl.isList (by simp only [bg5] <;> omega) ⟨.int ys.length,H,I.tok _,⟨s.toks+1,by rw [bg5,hlen]⟩,q⟩
 ·obtain ⟨its,r',pl,hz⟩:=I.tuple hq
  have hlen:=r'.length
  exact len_tuple pl (by simp only [bg5] <;> omega) ⟨.int ys.length,H,I.tok _,⟨s.toks+1,by rw [bg5,hlen]⟩,q⟩
theorem dI.or {f:Value}{r r':List V->Hp->VK->Prop} (h:dI X f r) (h':dI X f r'):dI X f (fun xs H Q=>r xs H Q ∨ r' xs H Q):=by
 intro pins s σ H xs us Q I rs q
 rcases q with q | q
 ·exact h pins s σ H xs us Q I rs q
 ·exact h' pins s σ H xs us Q I rs q
theorem at6:dI X (.type "tuple") (fun xs H Q=>∃ p ys,xs = [.ref p]/\((aN X.K H p ys/\∀ l,H l=none->Q (.ref l) (upd H l (.tup ys))) ∨ (aJ X.K H p ys/\Q (.ref p) H))):=by
 intro pins s σ H xs us Q I r h
 obtain ⟨p,ys,rfl,h⟩:=h
 obtain ⟨u,rfl,rx⟩:=j8 r
 cases rx
 rcases h with ⟨hq,q⟩ | ⟨hq,q⟩
 ·obtain ⟨its,r',pl,hz⟩:=I.list hq
  have hlen:=r'.length
  refine call_tuple_list pl.isList (fun h' kp=>?_) (by simp only [bg5] <;> omega)
  have I1:a6 X pins σ H { s with heap:=h' }:=I.kept (t':=s.toks) kp
  have I2:a6 X pins σ (upd H h'.objs.size (.tup ys)) { s with heap:=h'.push { cls:=.type "tuple",data:=.seq its.toArray } }:=
   I1.laid (t':=s.toks) (fun b o e=>bg4 _ e) (bh0 _) (show bT X.prog X.w _ _ _ (.tup ys) from ⟨hz,its,r',IsTup.new _ _,iQ.new _ _ rfl⟩)
  exact⟨.ref h'.objs.size,_,I2,rfl,q _ (I1.hok.fresh (bh0 _))⟩
 ·obtain ⟨its,r',pl,hz⟩:=I.tuple hq
  exact call_tuple_same pl ⟨.ref p,H,I,rfl,q⟩
noncomputable def gX (K:PySem.W.Frag) (T:String) (x:V) (H:Hp):Prop:=match x with
 | .str _=>T="str"
 | .int _=>T="int"
 | .ref p=>(T="list"/\∃ xs,aN K H p xs) ∨ (T="tuple"/\∃ o,K.lookup p=some o/\o.cls = .type "tuple"/\o.dict=none) ∨
   (T="dict"/\((∃ kvs,H p=some (.dK kvs)) ∨ ∃ kvs,H p=some (.dT kvs))) ∨ (T="set"/\∃ S n,H p=some (.set S n))
 | _=>False
theorem G2 {pins:List (Addr × Obj)}{σ:St}{H:Hp}{s:Shared}{T:String}{x:V}{v:Value} (I:a6 X pins σ H s) (r:aV x v) (ty:gX X.K T x H) :
  s.TypeIs v T/\∀ a,v = .ref a->∃ ob,s.heap.get? a=some ob/\ob.dict=none:=by
 cases x with
 | str z=>
  obtain ⟨t,rfl⟩:=r
  cases (show T="str" from ty)
  exact⟨typeIs_str s z t,fun _ e=>nomatch e⟩
 | int i=>
  obtain ⟨t,rfl⟩:=r
  cases (show T="int" from ty)
  exact⟨typeIs_int s i t,fun _ e=>nomatch e⟩
 | ref p=>
  cases r
  rcases ty with ⟨rfl,xs,hq⟩ | ⟨rfl,o,hk,hc,hd⟩ | ⟨rfl,hk⟩ | ⟨rfl,S,n,hk⟩
  ·obtain ⟨its,_,pl,_⟩:=I.list hq
   refine⟨pl.isList.typeIs,fun a e=>?_⟩
   cases e
   obtain ⟨o,n,e,c,hd,_⟩:=pl
   exact⟨o,e,hd⟩
  ·refine⟨⟨o,I.kIn p o hk,hc⟩,fun a e=>?_⟩
   cases e
   exact⟨o,I.kIn _ o hk,hd⟩
  ·have z:∃ o,s.heap.get? p=some o/\o.ExactDict:=by
    rcases hk with ⟨kvs,hk⟩ | ⟨kvs,hk⟩
    ·obtain ⟨_,_,_,_,o,_,_,e,ex,_⟩:=I.hok p _ hk
     exact⟨o,e,ex⟩
    ·obtain ⟨_,_,_,_,o,_,_,e,ex,_⟩:=I.hok p _ hk
     exact⟨o,e,ex⟩
   obtain ⟨o,e,ex⟩:=z
   refine⟨⟨o,e,ex.1⟩,fun a e2=>?_⟩
   cases e2
   exact⟨o,e,ex.2.1⟩
  ·obtain ⟨o,_,_,_,e,ex,_⟩:=I.hok p _ hk
   refine⟨⟨o,e,ex.1⟩,fun a e2=>?_⟩
   cases e2
   exact⟨o,e,ex.2.1⟩
 | _=>exact False.elim ty
noncomputable def G3 (K:PySem.W.Frag) (T:String) (r:V->List V->Hp->VK->Prop) (to:TE):TE:=fun σ H Q=>to σ H fun x H1=>gX K T x H1/\r x [] H1 Q
noncomputable def qL (K:PySem.W.Frag) (T:String) (r:V->List V->Hp->VK->Prop) (to:TE) (t:TA):TE:=fun σ H Q=>to σ H fun x H1=>gX K T x H1/\t σ H1 fun xs H2=>r x xs H2 Q
variable {o e : Expr} {es : List Expr} {to : TE} {t : TA} {name : Str} {apos cpos : Pos} {T id : String} {r : V → List V → Hp → VK → Prop}
theorem at7 (pa:PlainAttrs T) (slot:Slot T name id) (hty:typeOf (.builtin id)=pure (.type "method_descriptor")) (hm:F4 X id r) (ho:PE X o to)
  (hbase:attributeBase o name X.env (eval o X.env)=eval o X.env:=by rfl) (hline:(apos.endLine == cpos.line)=true:=by rfl):PE X (.Call (.Attribute o name apos) [] [] cpos) (G3 X.K T r to):=by
 intro pins s σ H Q I h
 refine wpAny_Call_method0_late hbase hline (aO (ho pins s σ H _ I h) fun v s1 ⟨x,H1,I1,r1,ty,q1⟩=>?_)
 obtain ⟨h1,h2⟩:=G2 I1 r1 ty
 exact⟨T,id,pa,slot,hty,h1,h2,Calls.callWith_builtin rfl (PySem.evalArgs_none (hm pins s1 σ H1 x [] v [] Q I1 r1 .nil q1))⟩
theorem l9 (pa:PlainAttrs T) (slot:Slot T name id) (hty:typeOf (.builtin id)=pure (.type "method_descriptor")) (hm:F4 X id r) (ho:PE X o to) (ha:PA X (e :: es) t)
  (hbase:attributeBase o name X.env (eval o X.env)=eval o X.env:=by rfl)
  (hfew:((backTo cpos (starEach (e :: es) X.env)).all (fun x=>!x.1) && (backToKw cpos (keywordEach [] X.env)).all (fun x=>x.1.isSome)
   && decide ((e :: es).length+([]:List Keyword).length+(if ([]:List Keyword).isEmpty then 0 else 1) < 30))=true:=by rfl)
  (hline:(apos.endLine == cpos.line)=true:=by rfl) (hs:starEach (e :: es) X.env=(false,eval e X.env) :: starEach es X.env:=by rfl) (hplain:(backTo cpos (starEach es X.env)).any (·.1)=false:=by rfl) :
  PE X (.Call (.Attribute o name apos) (e :: es) [] cpos) (qL X.K T r to t):=by
 intro pins s σ H Q I h
 refine wpAny_Call_method_late hbase hfew hline rfl (aO (ho pins s σ H _ I h) fun v s1 ⟨x,H1,I1,r1,ty,q1⟩=>?_)
 obtain ⟨h1,h2⟩:=G2 I1 r1 ty
 refine⟨T,id,pa,slot,hty,h1,h2,?_⟩
 have hA:=ha cpos pins s1 σ H1 _ I1 q1
 rw [hs] at hA ⊢
 refine Calls.callWith_builtin (by show (false || (backTo cpos (starEach es X.env)).any (·.1))=false; rw [hplain] <;> rfl) (Calls.evalArgs_plain ?_)
 exact aO hA fun us s2 ⟨vs,H2,I2,r2,q2⟩=>hm pins s2 σ H2 x vs v us Q I2 r1 r2 q2
end
noncomputable def mI (X:Cx) (id:String) (r:V->List V->Hp->VK->Prop):Prop:=
 ∀ (pins:List (Addr × Obj)) (s:Shared) (σ:St) (H:Hp) (x:V) (xs:List V) (v:Value) (us:List Value) (Q:VK),a6 X pins σ H s->aV x v->aM xs us->r x xs H Q->
  wpAny (model X.prog X.w) X.A (call (.builtin id) (v :: us)) (EP X pins σ Q) X.xe s
theorem aM.one {x:V}{us:List Value} (h:aM [x] us):∃ u,us = [u]/\aV x u:=by
 cases h with
 | cons r t=>
  cases t
  exact⟨_,rfl,r⟩
theorem aM.two {x y:V}{us:List Value} (h:aM [x,y] us):∃ u v,us = [u,v]/\aV x u/\aV y v:=by
 cases h with
 | cons r t=>
  cases t with
  | cons q t=>
   cases t
   exact⟨_,_,rfl,r,q⟩
theorem aM.zero:∀ {us:List Value},aM [] us->us = []
 | _,.nil=>rfl
theorem aM.dropLast {xs:List V}{us:List Value} (h:aM xs us):aM xs.dropLast us.dropLast:=by
 induction h with
 | nil=>exact .nil
 | cons r t ih=>
  cases t with
  | nil=>exact .nil
  | cons q t'=>exact .cons r ih
theorem aM.rep {xs:List V}{us:List Value} (h:aM xs us):∀ k:Nat,aM (List.replicate k xs).flatten (List.replicate k us).flatten
 | 0=>.nil
 | k+1=>by
  rw [bn3,bn3,bs8,bs8]
  exact aM.append h (aM.rep h k)
theorem at8 {α:Type} (l:List α):l.eraseIdx (l.length - 1)=l.dropLast:=by
 induction l with
 | nil=>rfl
 | cons a r ih=>
  cases r with
  | nil=>rfl
  | cons b r=>
   have e:(a :: b :: r).length - 1=((b :: r).length - 1)+1:=by
    have h1:(a :: b :: r).length=r.length+2:=rfl
    have h2:(b :: r).length=r.length+1:=rfl
    omega
   rw [e,List.eraseIdx_cons_succ,ih]
   all_goals rfl
theorem G4 (its:List Value):∀ (k:Nat) (acc:List Value),
  List.foldl (fun x1 x2=>x1 ++ x2) acc.toArray (List.replicate k its.toArray)=(acc ++ (List.replicate k its).flatten).toArray
 | 0,acc=>by simp
 | k+1,acc=>by
  have e:acc.toArray ++ its.toArray=(acc ++ its).toArray:=by simp
  have e2:(acc ++ its) ++ (List.replicate k its).flatten=acc ++ (List.replicate (k+1) its).flatten:=by
   rw [bn3,bs8,bk5]
  rw [<- e2,<- G4 its k (acc ++ its),<- e,bn3,List.foldl_cons]
section
variable {X : Cx} {pins : List (Addr × Obj)} {σ : St} {H : Hp} {s : Shared} {l b : Addr} {xs ys zs : List V}
theorem a6.lset {its its':List Value}{n:Nat}{f:Array Value->Array Value}{t':Nat} (I:a6 X pins σ H s) (hH:H l=some (.lst xs))
  (e:s.heap.get? l=some { cls:=.type "list",data:=.seq its.toArray n }) (hf:f its.toArray=its'.toArray) (hv:aM ys its') (hz:ys.length<=sizeLine) :
  a6 X pins σ (upd H l (.lst ys)) { s with heap:=s.heap.update l (Obj.mapSeq f),toks:=t' }:=by
 have q:=PySem.IsL.update e f
 rw [hf] at q
 refine I.write (x:=l) (e:=l) (by rw [hH]; exact trivial) (.inl rfl) (fun b' u hb hu=>(Heap.get?_update_other s.heap (Obj.mapSeq f) (Ne.symm hb)).trans hu) ⟨_,q⟩ ?_
 exact⟨hz,its',_,hv,q⟩
theorem a6.lnew {its:List Value}{t':Nat} (I:a6 X pins σ H s) (hv:aM ys its) (hz:ys.length<=sizeLine) :
  a6 X pins σ (upd H s.heap.objs.size (.lst ys)) { s with heap:=s.heap.push { cls:=.type "list",data:=.seq its.toArray },toks:=t' }:=
 I.laid (fun _ _ q=>bg4 _ q) (bh0 _) ⟨hz,its,0,hv,bi6 _ rfl⟩
theorem a6.fresh (I:a6 X pins σ H s):H s.heap.objs.size=none:=I.hok.fresh (bh0 _)
theorem a6.lstM (I:a6 X pins σ H s) (hH:H l=some (.lst xs)):xs.length<=sizeLine/\∃ (its:List Value) (n:Nat),aM xs its/\xs.length=its.length/\s.heap.get? l=some { cls:=.type "list",data:=.seq its.toArray n }:=by
 obtain ⟨z,its,n,r,e⟩:=I.hok l _ hH
 exact⟨z,its,n,r,r.length,e⟩
theorem v4 {n:Nat} (h:n<=sizeLine):Builtin.List.listTooLong n=false:=by
 unfold Builtin.List.listTooLong
 exact bh5 (by omega)
end
section
variable {X : Cx}
noncomputable def G5:V->List V->Hp->VK->Prop:=fun x vs H Q=>∃ l xs y,x = .ref l/\vs = [y]/\H l=some (.lst xs)/\xs.length < sizeLine/\Q .non (upd H l (.lst (xs ++ [y])))
theorem mJ:mI X "list.append" G5:=by
 intro pins s σ H x vs v us Q I rx rv h
 obtain ⟨l,xs,y,rfl,rfl,hH,hz,q⟩:=h
 cases rx
 obtain ⟨u,rfl,ru⟩:=rv.one
 obtain ⟨z,its,n,r,hl,e⟩:=I.lstM hH
 refine call_meets F.slot_list_append ⟨_,e,rfl⟩ F.entry_list_append (F.args_list_append_2 _ _) (PySem.list_append l its.toArray n u (by rw [bg5]; omega)) ⟨e,?_⟩
 refine⟨.non,_,I.lset (its':=its ++ [u]) hH e (by simp) (r.append (.cons ru .nil)) ?_,rfl,q⟩
 rw [bi4,bk8]
 omega
noncomputable def G6:V->List V->Hp->VK->Prop:=fun x vs H Q=>∃ l b xs zs,x = .ref l/\vs = [.ref b]/\H l=some (.lst xs)/\H b=some (.lst zs)/\xs.length+zs.length<=sizeLine/\Q .non (upd H l (.lst (xs ++ zs)))
theorem at9:mI X "list.extend" G6:=by
 intro pins s σ H x vs v us Q I rx rv h
 obtain ⟨l,b,xs,zs,rfl,rfl,hH,hB,hz,q⟩:=h
 cases rx
 obtain ⟨u,rfl,ru⟩:=rv.one
 cases ru
 obtain ⟨z,its,n,r,hl,e⟩:=I.lstM hH
 obtain ⟨z2,its2,n2,r2,hl2,e2⟩:=I.lstM hB
 have hsz:its.toArray.size+its2.toArray.size<=sizeLine:=by rw [bg5,bg5]; omega
 have hlong : ¬ (!its.toArray.isEmpty && Builtin.List.listTooLong (its.toArray.size+its2.toArray.size))=true:=by
  rw [v4 hsz,bs9]
  exact bi3
 refine call_meets F.slot_list_extend ⟨_,e,rfl⟩ F.entry_list_extend (F.args_list_extend_2 _ _)
  (AutoSeq1.list_extend_list_list_0 l its.toArray n b its2.toArray n2 hlong (by rw [bg5]; omega) (by omega)) ⟨e,e2,?_⟩
 refine⟨.non,_,I.lset (its':=its ++ its2) hH e (by simp) (r.append r2) ?_,rfl,q⟩
 rw [bi4]
 omega
noncomputable def G7:V->List V->Hp->VK->Prop:=fun x vs H Q=>∃ l xs y,x = .ref l/\vs = []/\H l=some (.lst xs)/\xs[xs.length - 1]? = some y/\Q y (upd H l (.lst xs.dropLast))
theorem au0:mI X "list.pop" G7:=by
 intro pins s σ H x vs v us Q I rx rv h
 obtain ⟨l,xs,y,rfl,rfl,hH,hy,q⟩:=h
 cases rx
 have hus:=rv.zero
 subst hus
 obtain ⟨z,its,n,r,hl,e⟩:=I.lstM hH
 obtain ⟨u,hu,ru⟩:=r.get hy
 have hy':its.toArray[its.toArray.size - 1]? = some u:=by
  show its.toArray[its.length - 1]? = some u
  rw [<- br9,<- hl]
  exact hu
 refine call_meets F.slot_list_pop ⟨_,e,rfl⟩ F.entry_list_pop (F.args_list_pop_1 _) (MeetsSeq.list_pop_last l its.toArray n u hy' (by rw [bg5]; omega)) ⟨e,?_⟩
 refine⟨y,_,I.lset (its':=its.dropLast) hH e ?_ r.dropLast ?_,ru,q⟩
 ·show its.toArray.eraseIdxIfInBounds (its.toArray.size - 1)=its.dropLast.toArray
  rw [bg5,List.eraseIdxIfInBounds_toArray,at8]
 ·rw [List.length_dropLast]
  omega
noncomputable def G8:R2:=fun x y H Q=>∃ l k xs,x = .ref l/\y = .int k/\H l=some (.lst xs)/\-(2 ^ 63)<=k/\k < 2 ^ 63/\xs.length * k.toNat<=sizeLine/\
 ∀ p,H p=none->Q (.ref p) (upd H p (.lst (List.replicate k.toNat xs).flatten))
theorem au1 {α:Type} (xs:List α) (k:Nat):(List.replicate k xs).flatten.length=k * xs.length:=by
 induction k with
 | zero=>simp
 | succ k ih=>rw [bn3,bs8,bi4,ih,Nat.succ_mul,Nat.add_comm]
theorem au2:cI X (binaryOp .Mult) G8:=by
 intro pins s σ H x y v u Q I rx ry h
 obtain ⟨l,k,xs,rfl,rfl,hH,h1,h2,hz,q⟩:=h
 cases rx
 obtain ⟨t,rfl⟩:=ry
 obtain ⟨z,its,n,r,hl,e⟩:=I.lstM hH
 have hlen:its.toArray.size * k.toNat<=sizeLine:=by rw [bg5,<- hl]; exact hz
 have hcap : ¬ its.toArray.size * k.toNat > (2 ^ 63 - 1) / 8:=by
  have:(sizeLine:Nat)<=(2 ^ 63 - 1) / 8:=by decide
  omega
 have hfit : ¬ (!Builtin.List.listFitsIndex k)=true:=by
  rw [fitsIndex_both h1 h2]
  exact bi3
 have hlong : ¬ Builtin.List.listTooLong (its.toArray.size * k.toNat)=true:=by
  rw [v4 hlen]
  exact bi3
 have hnew:List.foldl (fun x1 x2=>x1 ++ x2) #[] (List.replicate (if its.toArray.isEmpty=true then 0 else k.toNat) its.toArray)=(List.replicate k.toNat its).flatten.toArray:=by
  have f0:∀ m:Nat,List.foldl (fun x1 x2=>x1 ++ x2) #[] (List.replicate m its.toArray)=(List.replicate m its).flatten.toArray:=fun m=>by
   have:=G4 its m []
   rw [List.nil_append] at this
   exact this
  rw [f0]
  cases its with
  | nil=>simp
  | cons a r'=>rw [if_neg (by simp)]
 refine wpAny_binaryOp_repeat_ref (T:="list") (U:="int") (by decide) ⟨_,e,rfl⟩ (fun s'=>typeIs_int s' k t) noFill_list_mul F.fills_int_mul F.slot_int_rmul repeat_list F.slot_int_index.lookup
  (call_meets F.slot_int_rmul (typeIs_int s k t) F.entry_int_rmul (F.args_int_rmul_2 _ _) (int___rmul___int_list k t l its.toArray n)
   ⟨e,rfl,⟨_,e,rfl⟩,call_meets F.slot_list_mul ⟨_,e,rfl⟩ F.entry_list_mul (F.args_list_mul_2 _ _) (AutoListH.list___mul___list_int_3 l its.toArray n k t hfit hcap hlong) ⟨e,?_⟩⟩)
 rw [hnew]
 exact⟨.ref _,_,I.lnew (t':=s.toks) (r.rep k.toNat) (by rw [au1,Nat.mul_comm]; exact hz),rfl,q _ I.fresh⟩
end
section
variable {κ : Type} [DecidableEq κ]
noncomputable def fH (kvs:List (κ × V)) (k:κ):Option V:=(kvs.find? fun kv=>decide (kv.1=k)).map (·.2)
noncomputable def e8 (kvs:List (κ × V)) (k:κ) (v:V):List (κ × V):=
 if (kvs.any fun kv=>decide (kv.1=k))=true then kvs.map (fun kv=>if kv.1=k then (kv.1,v) else kv) else kvs ++ [(k,v)]
theorem v7 {p:κ × V}{r:List (κ × V)}{k:κ} (e:p.1=k):fH (p :: r) k=some p.2:=by simp [fH,bs2,e]
theorem v8 {p:κ × V}{r:List (κ × V)}{k:κ} (e : ¬ p.1=k):fH (p :: r) k=fH r k:=by simp [fH,bs2,e]
theorem G9 (k:κ):∀ kvs:List (κ × V),(kvs.any fun kv=>decide (kv.1=k))=(fH kvs k).isSome
 | []=>rfl
 | p :: r=>by
  rw [List.any_cons]
  by_cases e:p.1=k
  ·simp only [v7 e,bg8 e,Bool.true_or,Option.isSome_some]
  ·rw [v8 e,bh5 e,Bool.false_or]; exact G9 k r
theorem v9 (kvs:List (κ × V)) (k:κ) (v:V):(e8 kvs k v).length<=kvs.length+1:=by
 unfold e8
 split
 ·rw [bh1]; omega
 ·rw [bi4,bj5,List.length_nil]; omega
theorem kS.isSome_eq {o:Option V}{u:Option Value} (r:kS o u):o.isSome=u.isSome:=by
 cases o with
 | none=>cases u with
  | none=>rfl
  | some _=>exact (show False from r).elim
 | some _=>cases u with
  | none=>exact (show False from r).elim
  | some _=>rfl
theorem KV.val {kvs:List (κ × V)}{vs:List (κ × Value)} (r:KV kvs vs) (k:κ):kS (fH kvs k) (valueAt vs k):=by
 unfold KV at r
 induction r with
 | nil=>exact bw6
 | @cons p q ps qs h t ih=>
  obtain ⟨h1,h2⟩:=h
  by_cases e:p.1=k
  ·have e':q.1=k:=h1.symm.trans e
   have b:valueAt (q :: qs) k=some q.2:=by simp [valueAt,bs2,e']
   rw [v7 e,b]; exact h2
  ·have e' : ¬ q.1=k:=fun z=>e (h1.trans z)
   have b:valueAt (q :: qs) k=valueAt qs k:=by simp [valueAt,bs2,e']
   rw [v8 e,b]; exact ih
theorem KV.any {kvs:List (κ × V)}{vs:List (κ × Value)} (r:KV kvs vs) (k:κ):(kvs.any fun kv=>decide (kv.1=k))=vs.any fun kv=>decide (kv.1=k):=by
 unfold KV at r
 induction r with
 | nil=>rfl
 | cons h t ih=>rw [List.any_cons,List.any_cons,ih,h.1]
theorem KV.repl {kvs:List (κ × V)}{vs:List (κ × Value)} (r:KV kvs vs) (k:κ) {y:V}{u:Value} (ry:aV y u) :
  KV (kvs.map fun kv=>if kv.1=k then (kv.1,y) else kv) (vs.map fun kv=>if kv.1=k then (kv.1,u) else kv):=by
 unfold KV at r ⊢
 induction r with
 | nil=>exact .nil
 | @cons p q ps qs h t ih=>
  rw [bm4,bm4]
  refine .cons ?_ ih
  obtain ⟨h1,h2⟩:=h
  by_cases e:p.1=k
  ·rw [if_pos e,if_pos (h1.symm.trans e)]; exact⟨h1,ry⟩
  ·rw [if_neg e,if_neg (fun z=>e (h1.trans z))]; exact⟨h1,h2⟩
theorem KV.put {kvs:List (κ × V)}{vs:List (κ × Value)} (r:KV kvs vs) (k:κ) {y:V}{u:Value} (ry:aV y u):KV (e8 kvs k y) (stored vs k u):=by
 unfold e8 stored
 rw [r.any k]
 by_cases e:(vs.any fun kv=>decide (kv.1=k))=true
 ·rw [if_pos e,if_pos e]; exact r.repl k ry
 ·rw [if_neg e,if_neg e]; exact Paired.snoc r ⟨rfl,ry⟩
theorem KV.length {kvs:List (κ × V)}{vs:List (κ × Value)} (r:KV kvs vs):kvs.length=vs.length:=Paired.length r
end
theorem oH {P:Program}{w:World}{k:aI}{u:Value} (r:aV (kV k) u):(eV P w).is k u=true:=by
 cases k with
 | inl i=>obtain ⟨t,e⟩:=(show ∃ t,u=Value.int i t from r); subst e; exact al5 P w i t
 | inr x=>obtain ⟨t,e⟩:=(show ∃ t,u=Value.str x t from r); subst e; exact al6 P w x t
theorem J0 {P:Program}{w:World}:∀ {ks:List aI}{us:List Value},aM (ks.map kV) us->ItemsAre (eV P w) ks us
 | [],_,r=>by rw [List.map_nil] at r; cases r; exact .nil
 | k :: ks,_,r=>by
  rw [bm4] at r
  cases r with
  | cons h t=>exact .cons (oH h) (J0 t)
noncomputable abbrev KT (H:Hp):List (List aI × V)->List (List aI × Addr × Value)->Prop:=Paired fun p q=>p.1=q.1/\H q.2.1=some (.tup (p.1.map kV))/\aV p.2 q.2.2
theorem KT.val {H:Hp}{kvs:List (List aI × V)}{xs:List (List aI × Addr × Value)} (r:KT H kvs xs) (k:List aI):kS (fH kvs k) ((atKey xs k).map (·.2)):=by
 induction r with
 | nil=>exact bw6
 | @cons p q ps qs h t ih=>
  obtain ⟨h1,_,h2⟩:=h
  by_cases e:p.1=k
  ·have e':q.1=k:=h1.symm.trans e
   have b:atKey (q :: qs) k=some q.2:=by simp [atKey,bs2,e']
   rw [v7 e,b]; exact h2
  ·have e' : ¬ q.1=k:=fun z=>e (h1.trans z)
   have b:atKey (q :: qs) k=atKey qs k:=by simp [atKey,bs2,e']
   rw [v8 e,b]; exact ih
theorem KT.repl {H:Hp}{kvs:List (List aI × V)}{xs:List (List aI × Addr × Value)} (r:KT H kvs xs) (k:List aI) {y:V}{u:Value} (ry:aV y u) :
  KT H (kvs.map fun kv=>if kv.1=k then (kv.1,y) else kv) (xs.map (putAt k u)):=by
 induction r with
 | nil=>exact .nil
 | @cons p q ps qs h t ih=>
  rw [bm4,bm4]
  refine .cons ?_ ih
  obtain ⟨h1,h2,h3⟩:=h
  unfold putAt
  by_cases e:p.1=k
  ·rw [if_pos e,if_pos (h1.symm.trans e)]; exact⟨h1,h2,ry⟩
  ·rw [if_neg e,if_neg (fun z=>e (h1.trans z))]; exact⟨h1,h2,h3⟩
theorem KT.put {H:Hp}{kvs:List (List aI × V)}{xs:List (List aI × Addr × Value)} (r:KT H kvs xs) (k:List aI) {b:Addr}{y:V}{u:Value} (hb:H b=some (.tup (k.map kV))) (ry:aV y u) :
  KT H (e8 kvs k y) (storedH xs k b u):=by
 have e:(kvs.any fun kv=>decide (kv.1=k))=(atKey xs k).isSome:=by
  rw [G9,(r.val k).isSome_eq,Option.isSome_map]
 unfold e8 storedH
 rw [e]
 by_cases q:(atKey xs k).isSome=true
 ·rw [if_pos q,if_pos q]; exact r.repl k ry
 ·rw [if_neg q,if_neg q]; exact Paired.snoc r ⟨rfl,hb,ry⟩
theorem KT.keeps {H H':Hp}{kvs:List (List aI × V)}{xs:List (List aI × Addr × Value)} (r:KT H kvs xs) (ht:∀ b ys,H b=some (.tup ys)->H' b=some (.tup ys)):KT H' kvs xs:=
 Paired.mapP r fun _ _ z=>⟨z.1,ht _ _ z.2.1,z.2.2⟩
section
variable {P : Program} {w : World} {H : Hp} {h : Heap} {a : Addr}
theorem J1 {u:HO} (ok:bV P w H h) (e:Rd H a u):bT P w H h a u:=e.ok ok
theorem qM {kvs:List (aI × V)} (ok:bV P w H h) (e:Rd H a (.dK kvs)):kvs.length<=sizeLine/\(a == sysModules)=false/\∃ vs,KV kvs vs/\h.DictOf (eV P w) a vs:=
 show bT P w H h a (.dK kvs) from J1 ok e
theorem J2 {kvs:List (aI × V)} (ok:bV P w H h) (e:H a=some (.dK kvs)):kvs.length<=sizeLine/\(a == sysModules)=false/\∃ vs,KV kvs vs/\h.DictOf (eV P w) a vs:=qM ok (.inl e)
theorem qN {ks:List aI} (ok:bV P w H h) (e:H a=some (.tup (ks.map kV))):(tupleKind (eV P w)).is h ks a:=by
 obtain ⟨_,its,r,⟨o,h1,h2,n,h3⟩,_⟩:=(show bT P w H h a (.tup (ks.map kV)) from ok a _ e)
 exact⟨o,its.toArray,n,h1,h2,h3,by simpa using J0 r⟩
theorem vA {kvs:List (List aI × V)} (ok:bV P w H h) (e:Rd H a (.dT kvs)):kvs.length<=sizeLine/\(a == sysModules)=false/\
  ∃ xs,KT H kvs xs/\h.DictOfH (tupleKind (eV P w)) a xs:=by
 obtain ⟨z,y,xs,r,o,es,ep,h1,h2,h3,h4,h5⟩:=(show bT P w H h a (.dT kvs) from J1 ok e)
 refine⟨z,y,xs,r,o,es,ep,h1,h2,h3,h4,fun x hx=>?_,h5⟩
 have all:∀ {l:List (List aI × V)}{m:List (List aI × Addr × Value)},KT H l m->∀ x ∈ m,(tupleKind (eV P w)).is h x.1 x.2.1:=by
  intro l m q
  induction q with
  | nil=>intro x hx; exact nomatch hx
  | @cons p q ps qs hq t ih=>
   intro x hx
   rcases bi0.mp hx with e | hx
   ·subst e
    exact qN ok (by rw [<- hq.1]; exact hq.2.1)
   ·exact ih x hx
 exact all r x hx
theorem au3 {kvs:List (List aI × V)} (ok:bV P w H h) (e:H a=some (.dT kvs)):kvs.length<=sizeLine/\(a == sysModules)=false/\
  ∃ xs,KT H kvs xs/\h.DictOfH (tupleKind (eV P w)) a xs:=vA ok (.inl e)
end
noncomputable def iC (H:Hp) (a:Addr) (y:V) (r:Option V):Prop:=
 (∃ kvs k,Rd H a (.dK kvs)/\y=kV k/\r=fH kvs k) ∨ ∃ kvs k b,Rd H a (.dT kvs)/\y = .ref b/\H b=some (.tup (k.map kV))/\r=fH kvs k
noncomputable def oI (H:Hp) (a:Addr) (y v:V) (H':Hp):Prop:=
 (∃ kvs k,H a=some (.dK kvs)/\y=kV k/\kvs.length < sizeLine/\H'=upd H a (.dK (e8 kvs k v))) ∨
 ∃ kvs k b,H a=some (.dT kvs)/\y = .ref b/\H b=some (.tup (k.map kV))/\kvs.length < sizeLine/\H'=upd H a (.dT (e8 kvs k v))
theorem iC.k {H:Hp}{a:Addr}{kvs:List (aI × V)}{k:aI} (e:H a=some (.dK kvs)):iC H a (kV k) (fH kvs k):=.inl ⟨kvs,k,.inl e,rfl,rfl⟩
theorem iC.t {H:Hp}{a b:Addr}{kvs:List (List aI × V)}{k:List aI} (e:H a=some (.dT kvs)) (eb:H b=some (.tup (k.map kV))):iC H a (.ref b) (fH kvs k):=.inr ⟨kvs,k,b,.inl e,rfl,eb,rfl⟩
theorem oI.k {H:Hp}{a:Addr}{kvs:List (aI × V)}{k:aI}{v:V} (e:H a=some (.dK kvs)) (hl:kvs.length < sizeLine):oI H a (kV k) v (upd H a (.dK (e8 kvs k v))):=.inl ⟨kvs,k,e,rfl,hl,rfl⟩
section
variable {X : Cx} {pins : List (Addr × Obj)} {σ : St} {H : Hp} {s : Shared} {a : Addr} {y v : V} {u r : Value} {o : Option V} {A : Around} {E : Value → Shared → Prop}
theorem a6.big (I:a6 X pins σ H s):sysModules < s.heap.objs.size:=by
 have h:mainGlobals < s.heap.objs.size:=(I.mod.glob.keeps I.bk).lt
 exact Nat.lt_trans (by decide) h
theorem au4 {Q:Value->Shared->Prop} (hu:A.units+1 < cLine) (I:a6 X pins σ H s) (g:iC H a y o) (ry:aV y u) (h:∀ s',a6 X pins σ H s'->Q (.bool o.isSome) s') :
  wpAny (model X.prog X.w) A (compareOp .In u (.ref a)) Q E s:=by
 rcases g with ⟨kvs,k,e,ey,l⟩ | ⟨kvs,k,b,e,ey,eb,l⟩
 ·subst ey
  obtain ⟨z,hd,vs,rel,dd⟩:=qM I.hok e
  refine wpAny_in_of (oH ry) hd dd.mapOf ?_
  rw [<- (rel.val k).isSome_eq,<- l]
  exact h _ (I.tok _)
 ·subst ey
  cases (show u=Value.ref b from ry)
  obtain ⟨z,hd,xs,rel,dd⟩:=vA I.hok e
  refine wpAny_in_heap (tupleKind_room_in1 hu) (qN I.hok eb) hd dd ?_
  have q:=(rel.val k).isSome_eq
  rw [Option.isSome_map] at q
  rw [<- q,<- l]
  exact h _ (I.tok _)
theorem au5 {Q:Value->Shared->Prop} (hu:A.units+1 < cLine) (I:a6 X pins σ H s) (g:iC H a y o) (ry:aV y u) (h:∀ s',a6 X pins σ H s'->Q (.bool (!o.isSome)) s') :
  wpAny (model X.prog X.w) A (compareOp .NotIn u (.ref a)) Q E s:=by
 rcases g with ⟨kvs,k,e,ey,l⟩ | ⟨kvs,k,b,e,ey,eb,l⟩
 ·subst ey
  obtain ⟨z,hd,vs,rel,dd⟩:=qM I.hok e
  refine wpAny_notIn_of (oH ry) hd dd.mapOf ?_
  rw [<- (rel.val k).isSome_eq,<- l]
  exact h _ (I.tok _)
 ·subst ey
  cases (show u=Value.ref b from ry)
  obtain ⟨z,hd,xs,rel,dd⟩:=vA I.hok e
  refine wpAny_notIn_heap (tupleKind_room_in1 hu) (qN I.hok eb) hd dd ?_
  have q:=(rel.val k).isSome_eq
  rw [Option.isSome_map] at q
  rw [<- q,<- l]
  exact h _ (I.tok _)
theorem vB {h':Heap}{t':Nat}{ob:HO} (I:a6 X pins σ H s) (mu:nZ (H a)) (hs:Heap.SameBut a s.heap h') (he:∃ q,h'.get? a=some q) (new:bT X.prog X.w (upd H a ob) h' a ob) :
  a6 X pins σ (upd H a ob) { s with heap:=h',toks:=t' }:=
 I.write (x:=a) (e:=a) mu (.inl rfl) (fun b q hb z=>(hs.2 b hb).trans z) he new
theorem J3 {P:Program}{w:World}{H':Hp}{h':Heap}{kvs:List (aI × V)}{vs:List (aI × Value)} (z:kvs.length<=sizeLine) (hd:(a == sysModules)=false) (rel:KV kvs vs) (dd:h'.DictOf (eV P w) a vs) :
  bT P w H' h' a (.dK kvs):=⟨z,hd,vs,rel,dd⟩
theorem au6 {H':Hp}{Q:Unit->Shared->Prop} (hu:A.units+1 < cLine) (I:a6 X pins σ H s) (g:oI H a y v H') (ry:aV y u) (rv:aV v r) (h:∀ s',a6 X pins σ H' s'->Q () s') :
  wpAny (model X.prog X.w) A (setItem (.ref a) u r) Q E s:=by
 rcases g with ⟨kvs,k,e,ey,l,eH⟩ | ⟨kvs,k,b,e,ey,eb,l,eH⟩
 ·subst ey eH
  obtain ⟨z,hd,vs,rel,dd⟩:=J2 I.hok e
  have hz:vs.length<=sizeLine:=by rw [<- rel.length]; exact z
  have hl:(e8 kvs k v).length<=sizeLine:=by have:=v9 kvs k v; omega
  refine wpAny_setItem_pairs (hsz:=hz) (oH ry) dd fun h' dd' hs=>h _ ?_
  have he:∃ q,h'.get? a=some q:=let ⟨q,_,_,hq,_⟩:=dd'; ⟨q,hq⟩
  exact vB I (by rw [e]; exact bw6) hs he (J3 hl hd (rel.put k rv) dd')
 ·subst ey eH
  cases (show u=Value.ref b from ry)
  obtain ⟨z,hd,xs,rel,dd⟩:=au3 I.hok e
  have hz:xs.length<=sizeLine:=by rw [<- Paired.length rel]; exact z
  have hl:(e8 kvs k v).length<=sizeLine:=by have:=v9 kvs k v; omega
  refine wpAny_setItem_heap (hsz:=hz) (tupleKind_room_in1 hu) (qN I.hok eb) dd fun h' dd' hs=>h _ ?_
  obtain ⟨q,es,ep,hq,h2,h3,h4,_,h5⟩:=dd'
  refine vB I (by rw [e]; exact bw6) hs ⟨q,hq⟩ ⟨hl,hd,_,(rel.put k eb rv).keeps fun c ys ec=>?_,q,es,ep,hq,h2,h3,h4,h5⟩
  rw [aW (al7 ec e (fun z=>nomatch z))]
  exact ec
end
section
variable {X : Cx} {pins : List (Addr × Obj)} {σ : St} {H : Hp} {s : Shared} {a : Addr} {kvs : List (aI × V)} {k : aI} {u : Value} {A : Around} {E : Value → Shared → Prop}
theorem au7 {Q:Value->Shared->Prop} (I:a6 X pins σ H s) (e:Rd H a (.dK kvs)) (h:∀ t s',a6 X pins σ H s'->Q (.int kvs.length t) s'):wpAny (model X.prog X.w) A (call (.builtin "len") [.ref a]) Q E s:=by
 obtain ⟨z,hd,vs,rel,dd⟩:=qM I.hok e
 refine call_len_dict hd dd (by rw [<- rel.length]; rw [sizeLine_eq] at z; omega) ?_
 rw [<- rel.length]
 exact h _ _ (I.tok _)
end
noncomputable def J4 (ty td:TE):TE:=fun σ H Q=>ty σ H fun y H1=>td σ H1 fun x H2=>∃ a o,x = .ref a/\iC H2 a y o/\Q (.bl o.isSome) H2
noncomputable def J5 (ty td:TE):TE:=fun σ H Q=>ty σ H fun y H1=>td σ H1 fun x H2=>∃ a o,x = .ref a/\iC H2 a y o/\Q (.bl (!o.isSome)) H2
noncomputable def J6 (td ty tv:TE):TS:=fun D σ H=>tv σ H fun v H1=>td σ H1 fun x H2=>ty σ H2 fun y H3=>∃ a H4,x = .ref a/\oI H3 a y v H4/\D.nx σ H4
section
variable {X : Cx} {o i e value : Expr} {pos pos' tpos : Pos} {td ty tv : TE}
theorem au8 (hu:X.A.units+1 < cLine) (hi:PE X i ty) (ho:PE X o td):PC X .In i o (J4 ty td):=by
 intro pins s σ H Q I h
 refine aO (hi pins s σ H _ I h) fun iv s1 ⟨y,H1,I1,ry,q1⟩=>aO (ho pins s1 σ H1 _ I1 q1) fun u s2 ⟨x,H2,I2,rx,a,ov,ex,g,q2⟩=>?_
 subst ex
 obtain rfl:u=Value.ref a:=rx
 exact au4 hu I2 g ry fun s3 I3=>⟨.bl ov.isSome,H2,I3,rfl,q2⟩
theorem au9 (hu:X.A.units+1 < cLine) (hi:PE X i ty) (ho:PE X o td):PC X .NotIn i o (J5 ty td):=by
 intro pins s σ H Q I h
 refine aO (hi pins s σ H _ I h) fun iv s1 ⟨y,H1,I1,ry,q1⟩=>aO (ho pins s1 σ H1 _ I1 q1) fun u s2 ⟨x,H2,I2,rx,a,ov,ex,g,q2⟩=>?_
 subst ex
 obtain rfl:u=Value.ref a:=rx
 exact au5 hu I2 g ry fun s3 I3=>⟨.bl (!ov.isSome),H2,I3,rfl,q2⟩
theorem av0 (hu:X.A.units+1 < cLine) (ho:PE X o td) (hi:PE X i ty) (hv:PE X value tv) (hs:swapsWith value (some (.Subscript o i pos')) pos.line X.env=pure false) :
  PS X (.Assign [.Subscript o i pos'] value pos) (J6 td ty tv):=by
 intro pins s σ H D I h
 refine wpAny_Assign_Subscript (aO (hv pins s σ H _ I h) fun r s1 ⟨v,H1,I1,rv,q1⟩=>aO (ho pins s1 σ H1 _ I1 q1) fun u s2 ⟨x,H2,I2,rx,q2⟩=>aO (hi pins s2 σ H2 _ I2 q2) fun iv s3 ⟨y,H3,I3,ry,a,H4,ex,g,q3⟩=>?_) hs
 subst ex
 obtain rfl:u=Value.ref a:=rx
 exact au6 hu I3 g ry rv fun s4 I4=>⟨σ,H4,I4,q3⟩
end
theorem J7 {P:Program}{w:World}{H:Hp} (h:Heap) (hb:sysModules < h.objs.size):bT P w H (h.push { cls:=.type "dict",data:=.dict #[] }) h.objs.size (.dK []):=
 ⟨bk7 _,beq_eq_false_iff_ne.mpr (Ne.symm (bk6 hb)),[],.nil,Heap.DictOf.new h⟩
noncomputable def J8:TE:=fun _ H Q=>∀ p,H p=none->Q (.ref p) (upd H p (.dK []))
section
variable {X : Cx} {pos : Pos}
theorem av1:PE X (.Dict [] [] pos) J8:=fun pins s σ H Q I h=>
 wpAny_Dict_empty ⟨.ref s.heap.objs.size,_,I.laid (a:=s.heap.objs.size) (o:=.dK []) (t':=s.toks) (fun _ _ q=>bg4 _ q) (bh0 _) (J7 s.heap I.big),rfl,h _ (I.hok.fresh (bh0 _))⟩
end
noncomputable def vC:List (TE × TE)->St->Hp->(List (V × V)->Hp->Prop)->Prop
 | [],_,H,Q=>Q [] H
 | (tk,tv) :: r,σ,H,Q=>tk σ H fun x H1=>tv σ H1 fun y H2=>vC r σ H2 fun ps H3=>Q ((x,y) :: ps) H3
noncomputable abbrev VV:List (V × V)->List (Value × Value)->Prop:=Paired fun p q=>aV p.1 q.1/\aV p.2 q.2
noncomputable def qO (X:Cx) (pos:Pos) (keys:List (Option Expr)) (values:List Expr) (trs:List (TE × TE)):Prop:=
 ∀ (pins:List (Addr × Obj)) (s:Shared) (σ:St) (H:Hp) (Q:List (V × V)->Hp->Prop),a6 X pins σ H s->vC trs σ H Q->
  wpAny (model X.prog X.w) X.A (evalPairs (pairTrees keys values X.env pos)) (fun vs s'=>∃ ps H',a6 X pins σ H' s'/\VV ps vs/\Q ps H') X.xe s
theorem av2 {X:Cx}{pos:Pos}:qO X pos [] [] []:=fun pins s σ H Q I h=>pairTrees_nil_walk ⟨[],H,I,.nil,h⟩
theorem av3 {X:Cx}{pos:Pos}{k v:Expr}{ks:List (Option Expr)}{vs:List Expr}{tk tv:TE}{trs:List (TE × TE)} (hk:PE X k tk) (hv:PE X v tv) (hr:qO X pos ks vs trs) :
  qO X pos (some k :: ks) (v :: vs) ((tk,tv) :: trs):=fun pins s σ H Q I h=>
 pairTrees_cons_walk (aO (hk pins s σ H _ I h) fun u s1 ⟨x,H1,I1,rx,q1⟩=>aO (hv pins s1 σ H1 _ I1 q1) fun w2 s2 ⟨y,H2,I2,ry,q2⟩=>
  aO (hr pins s2 σ H2 _ I2 q2) fun ws s3 ⟨ps,H3,I3,rel,q3⟩=>⟨(x,y) :: ps,H3,I3,.cons ⟨rx,ry⟩ rel,q3⟩)
noncomputable def mK (kvs more:List (aI × V)):List (aI × V):=more.foldl (fun acc kv=>e8 acc kv.1 kv.2) kvs
theorem KV.merge:∀ {more:List (aI × V)}{rs:List (aI × Value)}{kvs:List (aI × V)}{vs:List (aI × Value)},KV more rs->KV kvs vs->KV (mK kvs more) (merged vs rs):=by
 intro more rs kvs vs r
 unfold KV at r
 induction r generalizing kvs vs with
 | nil=>intro q; exact q
 | @cons p q ps qs h t ih=>
  intro r0
  have e:KV (e8 kvs p.1 p.2) (stored vs q.1 q.2):=by
   have:=r0.put p.1 h.2
   rw [<- h.1]; exact this
  exact ih e
theorem K0:∀ (more kvs:List (aI × V)),(mK kvs more).length<=kvs.length+more.length
 | [],kvs=>by show kvs.length<=kvs.length+0; omega
 | p :: r,kvs=>by
  have h1:=K0 r (e8 kvs p.1 p.2)
  have h2:=v9 kvs p.1 p.2
  show (mK (e8 kvs p.1 p.2) r).length<=_
  rw [bj5]; omega
theorem K1 {P:Program}{w:World}:∀ {kvs:List (aI × V)}{ws:List (Value × Value)},VV (kvs.map fun kv=>(kV kv.1,kv.2)) ws->∃ rs,Carries (eV P w) ws rs/\KV kvs rs
 | [],_,r=>by rw [List.map_nil] at r; cases r; exact⟨[],bw6,.nil⟩
 | p :: kvs,_,r=>by
  rw [bm4] at r
  cases r with
  | @cons a b as bs h t=>
   obtain ⟨rs,c,q⟩:=K1 (P:=P) (w:=w) t
   obtain ⟨b1,b2⟩:=b
   exact⟨(p.1,b2) :: rs,⟨oH h.1,rfl,c⟩,.cons ⟨rfl,h.2⟩ q⟩
noncomputable def K2 (trs:List (TE × TE)):TE:=fun σ H Q=>∀ p,H p=none->vC trs σ (upd H p (.dK [])) fun ps H2=>H2 p=some (.dK [])/\∃ kvs:List (aI × V),ps=kvs.map (fun kv=>(kV kv.1,kv.2))/\kvs.length<=15/\Q (.ref p) (upd H2 p (.dK (mK [] kvs)))
theorem av4 {X:Cx}{pos:Pos}{keys:List (Option Expr)}{values:List Expr}{trs:List (TE × TE)} (h:qO X pos keys values trs) (hall:keys.all (·.isSome)=true) (hl:keys.length=values.length) (h0:keys ≠ [])
  (h15:keys.length<=15):PE X (.Dict keys values pos) (K2 trs):=by
 intro pins s σ H Q I q
 have hn:=I.hok.fresh (bh0 s.heap.objs.size)
 have I1:=I.laid (a:=s.heap.objs.size) (o:=.dK []) (h':=s.heap.push { cls:=.type "dict",data:=.dict #[] }) (t':=s.toks) (fun _ _ q=>bg4 _ q) (bh0 _) (J7 s.heap I.big)
 refine wpAny_Dict_walk (knd:=eV X.prog X.w) hall hl h0 h15 (aO (h pins _ σ _ _ I1 (q _ hn)) fun ws s2 ⟨ps,H2,I2,rel,e,kvs,ep,lk,q2⟩=>?_)
 subst ep
 obtain ⟨rs,c,rk⟩:=K1 (P:=X.prog) (w:=X.w) rel
 obtain ⟨z,hd,vs0,r0,dd⟩:=J2 I2.hok e
 cases r0
 refine⟨rs,c,dd,fun h' dd' hs=>⟨.ref s.heap.objs.size,_,?_,rfl,q2⟩⟩
 have hz:(mK [] kvs).length<=sizeLine:=by
  have h1:=K0 kvs []
  rw [List.length_nil] at h1
  rw [sizeLine_eq]; omega
 have he:∃ q,h'.get? s.heap.objs.size=some q:=let ⟨q,_,_,hq,_⟩:=dd'; ⟨q,hq⟩
 exact vB I2 (by rw [e]; exact bw6) hs he (J3 hz hd (rk.merge .nil) dd')
structure M2 (X:Cx) (o:Expr) (m:Str) (apos:Pos) (e f:Expr) (cpos:Pos):Prop where
 base:attributeBase o m X.env (eval o X.env)=eval o X.env
 few:((backTo cpos (starEach [e,f] X.env)).all (fun x=>!x.1) && (backToKw cpos (keywordEach [] X.env)).all (fun x=>x.1.isSome)
  && decide (([e,f]:List Expr).length+([]:List Keyword).length+(if ([]:List Keyword).isEmpty then 0 else 1) < 30))=true
 line:(apos.endLine == cpos.line)=true
 trees:backTo cpos (starEach [e,f] X.env) = [(false,eval e X.env),(false,eval f X.env)]
end L2
namespace Att
open PySem PySem.W PySem.Calls PyProof.Rows
theorem av5 {P:Params}{h:Heap}:∀ (ns:List Int) (vs:List Value),WellAll P h vs (ns.map WData.int)->IntsAre vs ns:=by
 intro ns
 induction ns with
 | nil=>
  intro vs w
  rw [List.map_nil] at w
  cases w
  exact .nil
 | cons n ns ih=>
  intro vs w
  rw [bm4] at w
  cases w with
  | cons a b=>
   cases a
   exact .cons _ _ (ih _ b)
theorem K3 {l:OpenLaw}{n:Nat} (hn:l.most=some n) {P:Params}{h:Heap}{args:List WData}{vals:List Value}
  (hpre:l.row.toRowW.claim.pre args=true) (hwl:WellAll P h vals args) :
  ∃ a vs ns,vals = [Value.ref a]/\args = [WData.list (ns.map WData.int)]/\h.get? a=some { cls:=.type "list",data:=.seq vs.toArray }/\IntsAre vs ns/\ns.length<=n:=by
 have hsh:WShape.hasAll [] args [.list .int]=true:=(pre_splitW hpre).1
 have hc:l.pre.holds [] { args:=args }=true:=(pre_splitW hpre).2
 obtain ⟨d,r,rfl,h1,h2⟩:=hasAllW_cons hsh
 obtain rfl:=hasAllW_nil h2
 obtain ⟨xs,rfl,h3⟩:=hasW_list h1
 obtain ⟨ns,rfl⟩:=items_int h3
 have hlen:ns.length<=n:=by
  unfold OpenLaw.pre at hc
  have h4:(WTm.not (.lt (.lit (.int (n:Int))) (.len (.arg 0)))).holds [] { args:=[.list (ns.map .int)] }=true:=by
   have h4:=(holds_andW hc).1
   rw [hn] at h4
   exact h4
  have h5:=condW_of h4 (w_not (w_lt w_lit (w_len_list (w_arg rfl))))
  rw [bh1] at h5
  refine bv4 fun q=>?_
  have q':(n:Int) < ((ns.length:Nat):Int):=by omega
  first
   | (rw [bg8 q'] at h5; exact absurd h5 (by decide))
   | (simp at h5; omega)
 cases hwl with
 | cons w1 w2=>
  cases w2
  cases w1 with
  | list ho hall=>exact⟨_,_,ns,rfl,rfl,ho,av5 ns _ hall,hlen⟩
theorem K4 (l:OpenLaw) (args:List WData):l.row.toRowW.claim.post args (.bool true) args=true:=
 postW_of (r:=l.row.toRowW) (X:=(true == true))
  (show WShape.has [] (.bool true) .bool=true by first | rfl | decide | simp [WShape.has,WShape.arms,WShape.armsAll])
  (show (WTm.eq .res (.lit (.bool true))).value [] { args:=args,res:=some (.bool true),after:=args }=some (.bool (true == true)) from w_eq_bool (w_res rfl) w_lit) rfl
theorem bf9 {l:OpenLaw}{n:Nat}{q:Program}{loose:List Str}{XP:(Str->Option Value)->Heap->Prop}{YP:World->Heap->Prop}{d:DefRec}{x:Str}
  (hn:l.most=some n) (hdf:d.params.defaults = [])
  (hbind:∀ pm cd doc v:Value,bindArgs (docDef d.name d.params d.body d.scope pm cd doc) ⟨[v],[]⟩=pure [(x,v)])
  (hx:d.scope.names.lookup x=some .local ∨ d.scope.names.lookup x=some .cell)
  (hk:d.scope.kind = .function) (hco:d.scope.isCoroutine=false) (hgen:d.scope.isGenerator=false)
  (body:∀ (w:World) (s₀ s₁ s:Shared) (mg mb:Str->Option Value) (fa:Addr) (o:Obj) (pm cd doc:Value) (a:Addr) (vs:List Value) (ns:List Int),
   Ground q loose [] XP w s₀ mg mb s₁.heap->YP w s₁.heap->
   s₁.heap.get? fa=some o->o.data = .func (docDef d.name d.params d.body d.scope pm cd doc)->s₁.heap.CodeRec cd d.name->mg d.name=some (.ref fa)->
   s₁.heap.get? a=some { cls:=.type "list",data:=.seq vs.toArray }->IntsAre vs ns->ns.length<=n->
   s.gens = #[]->s.os=s₁.os->
   Fr s₁.heap s₁.heap.objs.size s.heap (bindL (envOfC d.name d.scope s₁.heap.objs.size fa cd).kindOf [(x,.ref a)] fun _=>none)->
   Cl s₁.heap.objs.size (cellsFrom (s₁.heap.objs.size+1) d.scope.names []) s.heap (bindC (envOfC d.name d.scope s₁.heap.objs.size fa cd).kindOf [(x,.ref a)] fun _=>none)->
   wpAny (model l.prog w) (callerA.deeper (envOfC d.name d.scope s₁.heap.objs.size fa cd)) (execs d.body (envOfC d.name d.scope s₁.heap.objs.size fa cd))
    (fun f s'=>f = .ret (.bool true)/\OldK s₁.heap s'.heap/\s'.os=s₁.os/\AllBare s'.gens) (fun _ _=>False) s) :
  WalkO q loose XP YP l.row.toRowW d [] (fun f vs=>PySem.call f vs):=by
 intro w s₀ s₁ mg mb G Y fa o pm cd doc dV kV ho hd hcd hD hmg hg args vals as hpre hlay hrd hwl hlo
 obtain rfl:dV = .none:=Dflts.none hD hdf
 obtain rfl:kV = .none:=Dflts.noKw hD
 obtain ⟨a,vs,ns,rfl,rfl,hobj,hints,hlen⟩:=K3 hn hpre hwl
 refine enter_call ?_
 refine call_cells_ret (o:=o) (by rw [depth_caller]; decide) ho (fd_plain hd) G.T.nolimit hcd (hbind pm cd doc (.ref a)) (fun y hy=>?_) (fun h₁ tk F X=>?_) hco hgen hk
 ·obtain rfl:y=(x,Value.ref a):=bg6.mp hy
  rcases hx with e | e
  ·exact .inl e
  ·exact .inr ⟨e,cellsFrom_some _ _ _ (.inl e)⟩
 ·refine bo8 (body w s₀ s₁ { s₁ with heap:=h₁,toks:=tk } mg mb fa o pm cd doc a vs ns G Y ho (fd_plain hd) hcd hmg hobj hints hlen hg rfl F X) (fun f s' hq=>?_) (fun _ _ hq=>hq)
  obtain ⟨rfl,h2,h3,h4⟩:=hq
  exact⟨.inl ⟨.bool true,.bool true,[],rfl,fun _=>rfl,.bool true,K4 l _,fun _=>⟨bq6,fun _ hm=>(nomatch hm)⟩⟩,h2,h3,h4⟩
theorem av6 {l:OpenLaw}{n:Nat}{q:Program}{loose:List Str}{XP:(Str->Option Value)->Heap->Prop}{YP:World->Heap->Prop}{d:DefRec}
  (hn:l.most=some n) (hdf:d.params.defaults = [])
  (call:∀ (w:World) (s₀ s₁:Shared) (mg mb:Str->Option Value) (fa:Addr) (o:Obj) (pm cd doc:Value) (a:Addr) (vs:List Value) (ns:List Int),
   Ground q loose [] XP w s₀ mg mb s₁.heap->YP w s₁.heap->
   s₁.heap.get? fa=some o->o.data = .func (docDef d.name d.params d.body d.scope pm cd doc)->s₁.heap.CodeRec cd d.name->mg d.name=some (.ref fa)->
   s₁.heap.get? a=some { cls:=.type "list",data:=.seq vs.toArray }->IntsAre vs ns->ns.length<=n->s₁.gens = #[]->
   codeAny (model l.prog w) callerA (.call (.ref fa) ⟨[.ref a],[]⟩) (fun r s'=>r = .ok (.ret (.bool true))/\OldK s₁.heap s'.heap/\s'.os=s₁.os/\AllBare s'.gens) s₁) :
  WalkO q loose XP YP l.row.toRowW d [] (fun f vs=>PySem.call f vs):=by
 intro w s₀ s₁ mg mb G Y fa o pm cd doc dV kV ho hd hcd hD hmg hg args vals as hpre hlay hrd hwl hlo
 obtain rfl:dV = .none:=Dflts.none hD hdf
 obtain rfl:kV = .none:=Dflts.noKw hD
 obtain ⟨a,vs,ns,rfl,rfl,hobj,hints,hlen⟩:=K3 hn hpre hwl
 refine enter_call (codeAny_mono (call w s₀ s₁ mg mb fa o pm cd doc a vs ns G Y ho (fd_plain hd) hcd hmg hobj hints hlen hg) fun r s' hq=>?_)
 obtain ⟨rfl,h2,h3,h4⟩:=hq
 exact⟨.inl ⟨.bool true,.bool true,[],rfl,fun _=>rfl,.bool true,K4 l _,fun _=>⟨bq6,fun _ hm=>(nomatch hm)⟩⟩,h2,h3,h4⟩
end Att
namespace L2
open PySem PySem.Spec PyProof.Rows
theorem vD:∀ {vs:List Value}{ns:List Int},IntsAre vs ns->aM (ns.map V.int) vs
 | _,_,.nil=>.nil
 | _,_,.cons n t h=>.cons ⟨t,rfl⟩ (vD h)
noncomputable def qP (H:Hp):Prop:=∀ b,H b=none ∨ ∃ o xs,H b=some (.frz o (.lst xs))
theorem av7 {P:Program}{w:World}{K:PySem.W.Frag}{mg mb:Str->Option Value}{CX:gW}{k:Nat}{fa a:Addr}{fd:FuncData}{x:Str}{sp:Sp}{s₁:Shared}{vs:List Value}{ns:List Int}
  (KX:K.In s₁.heap) (hns:s₁.heap.Ns mainGlobals mg) (hb:s₁.heap.Ns builtinsNs mb) (hbb:∀ x:Str,x ≠ "__name__"->mb x=bootBuiltins x) (hlim:s₁.heap.NoLimit) (hg:s₁.gens = #[])
  (ha:s₁.heap.get? a=some { cls:=.type "list",data:=.seq vs.toArray }) (hi:IntsAre vs ns) (hl:ns.length<=sizeLine) (hr:cA k callerA)
  (F:∀ base:Heap,K.In base->base.Ns mainGlobals mg->cP P w K mg base CX k fa fd [x] sp) (hbind:∀ (s:Shared) (u:Value),BindsTo s fd ⟨[u],[]⟩ [(x,u)])
  (hsp:∀ H:Hp,qP H->aN K H a (ns.map V.int)->sp [.ref a] H (fun v _=>v = .bl true) fun _ _ _=>False)
  (hCX:∀ H e s',CX [] H s₁ (fun _ _ _=>False) e s'->False) :
  codeAny (model P w) callerA (.call (.ref fa) ⟨[.ref a],[]⟩) (fun r s'=>r = .ok (.ret (.bool true))/\OldK s₁.heap s'.heap/\s'.os=s₁.os/\AllBare s'.gens) s₁:=by
 have rv:=vD hi
 have lenV:=hi.length
 have core:∀ H:Hp,qP H->aN K H a (ns.map V.int)->bV P w H s₁.heap->(∀ b,H b ≠ none->b=a)->(H a ≠ none->K.lookup a=none)->
   codeAny (model P w) callerA (.call (.ref fa) ⟨[.ref a],[]⟩) (fun r s'=>r = .ok (.ret (.bool true))/\OldK s₁.heap s'.heap/\s'.os=s₁.os/\AllBare s'.gens) s₁:=by
  intro H hO hS hok hA hK
  have base_of:∀ {b:Addr}{o:Obj},s₁.heap.get? b=some o->H b=none->(iZ s₁.heap H).get? b=some o:=fun e n=>al9 e n
  have noA:∀ {b:Addr}{o:Obj}{es:Array DictEntry}{ep:Nat},s₁.heap.get? b=some o->o.data = .dict es ep->H b=none:=fun {b o es ep} e d=>by
   cases q:H b with
   | none=>rfl
   | some u=>
    have e':b=a:=hA b (by rw [q]; simp)
    subst e'
    rw [ha] at e; cases e
    have d':Data.seq vs.toArray _=Data.dict es ep:=d
    cases d'
  have nsK:∀ {b:Addr}{m:Str->Option Value},s₁.heap.Ns b m->(iZ s₁.heap H).Ns b m:=fun {b m} ⟨o,es,ep,e,d,r⟩=>⟨o,es,ep,base_of e (noA e d),d,r⟩
  have hKb:K.In (iZ s₁.heap H):=fun b o e=>base_of (KX b o e) (by
   cases q:H b with
   | none=>rfl
   | some u=>
    have e':b=a:=hA b (by rw [q]; simp)
    subst e'
    rw [hK (by rw [q]; simp)] at e; cases e)
  have hM:Mod K mg (iZ s₁.heap H):=⟨hKb,nsK hns,⟨mb,nsK hb,hbb⟩,let ⟨mc,h1,h2⟩:=hlim; ⟨mc,nsK h1,h2⟩⟩
  have e0:qK P w K mg (iZ s₁.heap H) callerA [] s₁ H:=⟨rfl,hM,fun b o e=>am0 e,Nat.le_of_eq (al8 _ _),trivial,fun b hb=>absurd (show b ∈ ([]:List Addr) from hb) (by simp),hok,.of_eq hg⟩
  refine codeAny_mono ((F _ hKb (nsK hns)).run callerA [] s₁ H ⟨[.ref a],[]⟩ [.ref a] [.ref a] _ _ hr e0 (hbind s₁ (.ref a)) (.cons rfl .nil) (hsp H hO hS)) fun r s' h=>?_
  cases r with
  | error e=>exact (hCX H e s' h).elim
  | ok fl=>
   cases fl with
   | next=>exact False.elim h
   | brk=>exact False.elim h
   | cont=>exact False.elim h
   | ret u=>
    obtain ⟨v,H',os,bare,un,hok',r',q⟩:=h
    have q':v = .bl true:=q
    subst q'
    obtain rfl:u=Value.bool true:=r'
    refine⟨rfl,OldK.of_keep fun b o e=>?_,os,bare⟩
    cases q:H b with
    | none=>exact un.keep b o e q (by intro z; exact absurd (show b ∈ ([]:List Addr) from z) (by simp)) (by simp)
    | some u=>
     rcases hO b with z | ⟨ob,xs,z⟩
     ·rw [q] at z; cases z
     ·have z2:=un.frzs b ob _ z
      obtain ⟨e1,_⟩:=hok b _ z
      obtain ⟨e2,_⟩:=hok' b _ z2
      rw [e] at e1; cases e1
      exact e2
 cases hk:K.lookup a with
 | some o=>
  have e:=KX a o hk
  rw [ha] at e
  cases e
  refine core (fun _=>none) (fun _=>.inl rfl) (.inr ⟨_,vs.toArray,_,hk,rfl,rfl,rfl,by rw [bg5,lenV]; exact hl,by simpa using rv⟩) (fun b u z=>by have z':(none:Option HO)=some u:=z; cases z') (fun b z=>absurd rfl z) fun z=>absurd rfl z
 | none=>
  refine core (fun b=>if b=a then some (.frz { cls:=.type "list",data:=.seq vs.toArray } (.lst (ns.map V.int))) else none) (fun b=>?_) (.inl (.inr ⟨{ cls:=.type "list",data:=.seq vs.toArray },if_pos rfl⟩)) (fun b u z=>?_) (fun b z=>?_) fun _=>hk
  ·by_cases hb:b=a
   ·exact .inr ⟨_,_,if_pos hb⟩
   ·exact .inl (if_neg hb)
  ·by_cases hb:b=a
   ·have z':=(if_pos hb).symm.trans z
    cases z'
    subst hb
    exact⟨ha,by rw [bh1]; exact hl,vs,_,rv,ha⟩
   ·have z':=(if_neg hb).symm.trans z
    cases z'
  ·by_cases hb:b=a
   ·exact hb
   ·exact absurd (if_neg hb) z
theorem av8 {l:PySem.W.OpenLaw}{n k:Nat}{q:Program}{loose:List Str}{XP:(Str->Option Value)->Heap->Prop}{YP:World->Heap->Prop}{d:DefRec}{K:Params->PySem.W.Frag}{CX:World->gW}{sp:World->Sp}{x:Str}
  (hn:l.most=some n) (hn2:n<=sizeLine) (hdf:d.params.defaults = []) (hr:cA k callerA)
  (hY:∀ (w:World) (h:Heap),YP w h->(K w.params).In h)
  (F:∀ (w:World) (mg:Str->Option Value) (fa:Addr) (h:Heap),(K w.params).In h->h.Ns mainGlobals mg->mg d.name=some (.ref fa)->
   ∃ fd:FuncData,(∀ (s:Shared) (u:Value),BindsTo s fd ⟨[u],[]⟩ [(x,u)])/\
    ∀ base:Heap,(K w.params).In base->base.Ns mainGlobals mg->cP l.prog w (K w.params) mg base (CX w) k fa fd [x] (sp w))
  (hsp:∀ (w:World) (H:Hp) (a:Addr) (ns:List Int),ns.length<=n->qP H->aN (K w.params) H a (ns.map V.int)->sp w [.ref a] H (fun v _=>v = .bl true) fun _ _ _=>False)
  (hCX:∀ (w:World) (H:Hp) (s:Shared) (e:Value) (s':Shared),CX w [] H s (fun _ _ _=>False) e s'->False) :
  PySem.W.WalkO q loose XP YP l.row.toRowW d [] (fun f vs=>PySem.call f vs):=by
 refine Att.av6 hn hdf fun w s₀ s₁ mg mb fa o pm cd doc a vs ns G Y ho hd hcd hmg hobj hints hlen hg=>?_
 have KX:=hY w _ Y
 obtain ⟨fd,hb,hF⟩:=F w mg fa _ KX G.T.g hmg
 exact av7 KX G.T.g G.T.b G.T.builtins G.T.nolimit hg hobj hints (bl4 hlen hn2) hr hF hb (fun H hO hS=>hsp w H a ns hlen hO hS) fun H e s'=>hCX w H s₁ e s'
noncomputable def jD (s:Stmt):Arguments:=match s with
 | .FunctionDef _ a _ _ _ _ _ _ _ _=>a
 | _=>{ posonlyargs:=[],args:=[],vararg:=none,kwonlyargs:=[],kw_defaults:=[],kwarg:=none,defaults:=[] }
noncomputable def eY (s:Stmt):List Stmt:=match s with
 | .FunctionDef _ _ b _ _ _ _ _ _ _=>b
 | _=>[]
noncomputable def aY (s:Stmt):Scope:=match s with
 | .FunctionDef _ _ _ _ _ _ sc _ _ _=>sc
 | _=>{ kind:=.function,names:=[],isGenerator:=false,isCoroutine:=false }
noncomputable abbrev dQ:gW:=fun _ _ _ _ _ _=>False
noncomputable abbrev E0:XK:=fun _ _ _=>False
theorem av9 {X:Cx}:oC dQ X E0:=fun _ _ _ _ _ _ _ h=>h.elim
structure eZ (K:PySem.W.Frag) (x qual:Str) (st:Stmt) (f:Addr) (fd:FuncData):Prop where
 ex:∃ (oc:Value) (od:Option Addr) (kV doc pm:Value) (an:Option Addr) (cdv ct:Value) (osl:Array (Option Value)),
  fd=PySem.W.fnOf x qual (jD st) (eY st) (aY st) .none kV doc pm an cdv ct/\K.lookup f=some ⟨oc,od,.func fd,osl⟩/\PySem.W.codeIn K cdv qual=true
 kp:PySem.W.keepIn K (.ref f)=true
section
variable {P : Program} {w : World} {K : PySem.W.Frag} {mg : Str → Option Value} {base : Heap}
theorem eZ.ok {x qual:Str}{st:Stmt}{f:Addr}{fd:FuncData}{N ps:List Str}{k:Nat}{sp:Sp} (F:eZ K x qual st f fd) (S:FnScope N ps (aY st)) (len:∀ vs H Q E,sp vs H Q E->vs.length=ps.length)
  (hbody:∀ (cdv:Value) (A:Around) (outer:List Env) (s:Shared) (H:Hp) (vs:List V) (Q:VK) (E:XK),cA k (A.deeper (envOfC qual (aY st) s.heap.objs.size f cdv))->sp vs H Q E->
   ∃ t,dW (dM dQ P w K mg base N qual (aY st) f cdv A outer s H E).nox (eY st) t/\t { nx:=fun _ H'=>Q .non H',rt:=Q } (start N vs) H):cP P w K mg base dQ (k+1) f fd ps sp:=by
 obtain ⟨oc,od,kV,doc,pm,an,cdv,ct,osl,rfl,lk,hcd⟩:=F.ex
 refine E4 lk hcd S len fun A outer s H vs Q E hr hsp=>?_
 obtain ⟨t,h,q⟩:=hbody cdv A outer s H vs Q E hr hsp
 exact⟨t,h.nox,q⟩
theorem eZ.binds {x qual:Str}{st:Stmt}{f:Addr}{fd:FuncData}{ps:List Str} (F:eZ K x qual st f fd)
  (h:∀ (kV doc pm:Value) (an:Option Addr) (cdv ct:Value) (us:List Value),us.length=ps.length->bindArgs (PySem.W.fnOf x qual (jD st) (eY st) (aY st) .none kV doc pm an cdv ct) ⟨us,[]⟩=pure (ps.zip us)):iA K fd ps []:=by
 obtain ⟨oc,od,kV,doc,pm,an,cdv,ct,osl,rfl,lk,hcd⟩:=F.ex
 exact .all (h kV doc pm an cdv ct)
theorem aw0 {x qual:Str}{st:Stmt}{f:Addr}{oc:Value}{od an:Option Addr}{osl:Array (Option Value)}{kV doc pm cdv ct:Value} (l:K.lookup f=some ⟨oc,od,.func (PySem.W.fnOf x qual (jD st) (eY st) (aY st) .none kV doc pm an cdv ct),osl⟩)
  (c:PySem.W.codeIn K cdv qual=true) (k:PySem.W.keepIn K (.ref f)=true):eZ K x qual st f (PySem.W.fnOf x qual (jD st) (eY st) (aY st) .none kV doc pm an cdv ct):=⟨⟨oc,od,kV,doc,pm,an,cdv,ct,osl,rfl,l,c⟩,k⟩
end
theorem vE {A:Around}{k:Nat} (hr:cA k A):A.units+1 < cLine:=Nat.lt_of_le_of_lt (Nat.add_le_add_left (by decide:1<=64) _) hr.units
theorem qQ {n:Nat} (h:n<=1000):n < sizeLine:=Nat.lt_of_le_of_lt h (by decide)
section
variable {X : Cx}
theorem pv (i:Nat) {x:Str}{pos:Pos} (hN:X.N[i]? = some x:=by rfl) (hv:gG X.env.scope x:=by first | exact Or.inl rfl | exact Or.inr (Or.inl rfl) | exact Or.inr (Or.inr rfl)) (hd:(x == ("__debug__" : Str))=false:=by decide)
  (hcd:(x == ("__classdict__" : Str))=false:=by decide):PE X (.Name x pos) (i8 i):=iR hN hv hd hcd
theorem aw1:dI X (.builtin "len") (fun xs H Q=>∃ a kvs,xs = [V.ref a]/\H a=some (.dK kvs)/\Q (.int kvs.length) H):=by
 intro pins s σ H xs us Q I r h
 obtain ⟨a,kvs,rfl,ha,q⟩:=h
 obtain ⟨u,rfl,ru⟩:=j8 r
 cases ru
 exact au7 I (.inl ha) fun t s' I'=>⟨.int kvs.length,H,I',⟨t,rfl⟩,q⟩
end
theorem bD {A B:Prop} (h:B):if false=true then A else B:=by
 rw [if_neg bi3]
 exact h
theorem bH {A B:Prop} (h:A):if true=true then A else B:=by
 rw [if_pos rfl]
 exact h
noncomputable def aA (H H':Hp):Prop:=∀ b o,H b=some o->H' b=some o
theorem aA.refl (H:Hp):aA H H:=fun _ _ h=>h
theorem aA.trans {H H1 H2:Hp} (a:aA H H1) (b:aA H1 H2):aA H H2:=fun c o h=>b c o (a c o h)
theorem aA.free {H H':Hp} (e:aA H H') {l:Addr} (h:H' l=Option.none):H l=Option.none:=by
 cases q:H l with
 | none=>rfl
 | some o=>
  rw [e l o q] at h
  cases h
theorem aA.seq {K:PySem.W.Frag}{H H':Hp}{a:Addr}{xs:List V} (e:aA H H') (h:aN K H a xs):aN K H' a xs:=by
 rcases h with (h | ⟨o,h⟩) | h
 ·exact .inl (.inl (e _ _ h))
 ·exact .inl (.inr ⟨o,e _ _ h⟩)
 ·exact .inr h
noncomputable def eM (cells:List (Str × Addr)):List (Str × NameKind)->List (Str × Addr)->List (Str × Addr)
 | [],cs=>cs
 | (n,k) :: r,cs=>eM cells r (if k == .free then (n,(cells.lookup n).getD 0) :: cs else cs)
theorem vF {env:Env}:∀ (ns:List (Str × NameKind)) (cs:List (Str × Addr)),(∀ x ∈ ns,x.2 = .free->∃ c,env.cells.lookup x.1=some c)->
  (forIn ns cs (fun (x:Str × NameKind) r=>(match x with
   | (name,kind)=>if (kind == .free)=true then (do let y <- cellOf env name; pure (ForInStep.yield ((name,y) :: r))) else pure (ForInStep.yield r)):_->_->Sem _))=(pure (eM env.cells ns cs):Sem (List (Str × Addr)))
 | [],cs,_=>by rw [List.forIn_nil]; rfl
 | (n,k) :: r,cs,h=>by
  rw [List.forIn_cons]
  have hr:∀ x ∈ r,x.2 = .free->∃ c,env.cells.lookup x.1=some c:=fun x hx=>h x (bh8 _ hx)
  cases hk:(k == NameKind.free) with
  | true=>
   have e:k = .free:=by simpa using hk
   obtain ⟨c,hc⟩:=h (n,k) bh2 e
   simp only [hk,if_true]
   have e1:cellOf env n=pure c:=by unfold cellOf; rw [hc]
   rw [e1]
   show ((pure c >>= fun y=>pure (ForInStep.yield ((n,y) :: cs))) >>= _:Sem _)=_
   rw [pure_bind,pure_bind]
   have:=vF (env:=env) r ((n,c) :: cs) hr
   refine this.trans ?_
   unfold eM
   simp only [hk,if_true,hc,Option.getD_some]
   cases r <;> rfl
  | false=>
   simp only [hk,bj2,bn0]
   rw [pure_bind]
   have:=vF (env:=env) r cs hr
   refine this.trans ?_
   conv=>rhs; unfold eM
   simp only [hk,bj2,bn0]
theorem qR {scope:Scope}{env:Env} (h:∀ x ∈ scope.names,x.2 = .free->∃ c,env.cells.lookup x.1=some c):closureFor scope env=pure (eM env.cells scope.names []):=by
 have e:=vF (env:=env) scope.names [] h
 unfold closureFor
 rw [show (pure (eM env.cells scope.names []):Sem (List (Str × Addr)))=(pure (eM env.cells scope.names []) >>= pure) by rw [pure_bind]]
 rw [<- e]
theorem qS {cells:List (Str × Addr)}:∀ (ns:List (Str × NameKind)) (cs:List (Str × Addr)) {x:Str}{c:Addr},(∀ y ∈ ns,y.2 = .free->∃ c,cells.lookup y.1=some c)->
  (∀ x c,cs.lookup x=some c->cells.lookup x=some c)->(eM cells ns cs).lookup x=some c->cells.lookup x=some c
 | [],cs,x,c,_,hc,h=>hc x c h
 | (n,k) :: r,cs,x,c,hn,hc,h=>by
  unfold eM at h
  have hr:∀ y ∈ r,y.2 = .free->∃ c,cells.lookup y.1=some c:=fun y hy=>hn y (bh8 _ hy)
  cases hk:(k == NameKind.free) with
  | false=>
   simp only [hk,bj2,bn0] at h
   exact qS r cs hr hc h
  | true=>
   simp only [hk,if_true] at h
   refine qS r _ hr (fun y d e=>?_) h
   obtain ⟨c0,h0⟩:=hn (n,k) bh2 (by simpa using hk)
   have h0:cells.lookup n=some c0:=h0
   rw [h0] at e
   rw [bn9] at e
   by_cases hyn:y=n
   ·subst hyn
    simp only [bp0,Option.getD_some] at e
    rw [h0]; exact e
   ·have:(y == n)=false:=beq_eq_false_iff_ne.mpr hyn
    simp only [this] at e
    exact hc y d e
theorem vG {cells:List (Str × Addr)}:∀ (ns:List (Str × NameKind)) (cs:List (Str × Addr)) {x:Str},((x,NameKind.free) ∈ ns ∨ ∃ c,cs.lookup x=some c)->∃ c,(eM cells ns cs).lookup x=some c
 | [],cs,x,h=>by
  rcases h with h | h
  ·simp at h
  ·exact h
 | (n,k) :: r,cs,x,h=>by
  unfold eM
  refine vG r _ ?_
  rcases h with h | ⟨c,h⟩
  ·rcases bi0.mp h with e | e
   ·cases e
    exact .inr ⟨_,by simp [bn9]; rfl⟩
   ·exact .inl e
  ·right
   cases hk:(k == NameKind.free) with
   | false=>exact⟨c,by simpa [hk] using h⟩
   | true=>
    simp only [if_true]
    rw [bn9]
    by_cases hxn:(x == n)=true
    ·simp only [hxn]; exact⟨_,rfl⟩
    ·simp only [bt0.mpr hxn]; exact⟨c,h⟩
theorem qT {env:Env}:∀ {names:List (Str × NameKind)}{x:Str}{k:NameKind},(names.map fun (n,k)=>if (k == NameKind.free && env.scope.kind == .function && env.kindOf n == some .cell) then (n,NameKind.cell) else (n,k)).lookup x=some k->
  names.lookup x=some k ∨ (names.lookup x=some .free/\k = .cell)
 | [],_,_,h=>by simp at h
 | (n,q) :: r,x,k,h=>by
  have ih:=@qT env r x k
  rw [bm4] at h
  by_cases hx:(x == n)=true
  ·have e:x=n:=by simpa using hx
   subst e
   by_cases hc:(q == NameKind.free && env.scope.kind == .function && env.kindOf x == some .cell)=true
   ·simp only [hc,if_true,bn9,bp0] at h
    have hq:q = .free:=by simp at hc; exact hc.1.1
    exact .inr ⟨by simp [bn9,hq],(bj9 h).symm⟩
   ·simp only [hc,bj2,bn0,bn9,bp0] at h
    exact .inl (by simp [bn9]; exact bj9 h)
  ·have hx':(x == n)=false:=bt0.mpr hx
   have h':(r.map fun (n,k)=>if (k == NameKind.free && env.scope.kind == .function && env.kindOf n == some .cell) then (n,NameKind.cell) else (n,k)).lookup x=some k:=by
    by_cases hc:(q == NameKind.free && env.scope.kind == .function && env.kindOf n == some .cell)=true
    ·simp only [hc,if_true,bn9,hx'] at h; exact h
    ·simp only [hc,bj2,bn0,bn9,hx'] at h; exact h
   simp only [bn9,hx']
   exact ih h'
noncomputable def fY (fr:List (Option Nat)) (σ:St):St:=fr.map fun o=>o.bind fun j=>(σ[j]?).join
noncomputable def Wk (σ₁ σ₂:St):Prop:=σ₁.length=σ₂.length/\∀ (i:Nat) v,σ₁[i]? = some (some v)->σ₂[i]? = some (some v)
theorem Wk.refl (σ:St):Wk σ σ:=⟨rfl,fun _ _ h=>h⟩
theorem Wk.set {σ τ:St}{i:Nat}{v:V} (h:Wk σ τ) (hi:σ[i]? = some none):Wk σ (τ.set i (some v)):=by
 refine⟨by rw [bl1]; exact h.1,fun j w e=>?_⟩
 by_cases hj:j=i
 ·subst hj; rw [hi] at e; cases e
 ·rw [bk2 (Ne.symm hj)]; exact h.2 j w e
theorem jE:∀ (ns:List (Str × NameKind)) (n:Nat) (cs:List (Str × Addr)),cellsFrom n ns cs=cellsFrom n ns [] ++ cs
 | [],_,_=>rfl
 | (x,k) :: r,n,cs=>by
  unfold cellsFrom
  split
  ·rw [jE r (n+1) ((x,n) :: cs),jE r (n+1) [(x,n)]]; simp
  ·exact jE r n cs
theorem vH:∀ (ns:List (Str × NameKind)) (n:Nat) {x:Str}{c:Addr},(x,c) ∈ cellsFrom n ns []->(x,NameKind.cell) ∈ ns
 | [],_,_,_,h=>by simp [cellsFrom] at h
 | (y,k) :: r,n,x,c,h=>by
  unfold cellsFrom at h
  split at h
  ·rename_i hk
   rw [jE] at h
   rcases bh6.mp h with z | z
   ·exact bh8 _ (vH r _ z)
   ·rw [bg6] at z
    cases z
    have:k = .cell:=by simpa using hk
    rw [this]; exact bh2
  ·exact bh8 _ (vH r _ h)
theorem qU:∀ (ns:List (Str × NameKind)) (n:Nat) {x:Str},(x,NameKind.cell) ∈ ns->∃ c,(x,c) ∈ cellsFrom n ns []
 | (y,k) :: r,n,x,h=>by
  unfold cellsFrom
  rcases bi0.mp h with z | z
  ·cases z
   rw [if_pos (by rfl),jE]
   exact⟨n,bi9 _ (by simp)⟩
  ·split
   ·obtain ⟨c,hc⟩:=qU r (n+1) z
    rw [jE]
    exact⟨c,bj3 _ hc⟩
   ·exact qU r n z
theorem vI {α:Type}:∀ {l:List (Str × α)}{x:Str}{c:α},(x,c) ∈ l->∃ d,l.lookup x=some d
 | (y,v) :: r,x,c,h=>by
  rw [bn9]
  cases hb:x == y with
  | true=>exact⟨v,rfl⟩
  | false=>
   rcases bi0.mp h with z | z
   ·cases z; simp at hb
   ·exact vI z
theorem qV {α:Type}{x:Str}:∀ (l r:List (Str × α)),(l ++ r).lookup x=(match l.lookup x with | some v=>some v | none=>r.lookup x)
 | [],_=>rfl
 | (y,v) :: l,r=>by
  rw [List.cons_append,bn9,bn9]
  cases hb:x == y with
  | true=>rfl
  | false=>exact qV l r
noncomputable def gY (X:Cx) (scope:Scope) (C:Addr):List (Str × Addr):=cellsFrom (C+1) scope.names (eM X.env.cells scope.names [])
theorem lA {X:Cx}{scope:Scope}{C:Addr}{x:Str}{c:Addr} (h:(gY X scope C).lookup x=some c) :
  (x,c) ∈ cellsFrom (C+1) scope.names [] ∨ ((∀ d,(x,d) ∉ cellsFrom (C+1) scope.names [])/\(eM X.env.cells scope.names []).lookup x=some c):=by
 unfold gY at h
 rw [jE,qV] at h
 cases e:(cellsFrom (C+1) scope.names []).lookup x with
 | some v=>rw [e] at h; cases h; exact .inl (bm2 e)
 | none=>
  rw [e] at h
  refine .inr ⟨fun d hd=>?_,h⟩
  obtain ⟨d',z⟩:=vI hd
  rw [e] at z; cases z
theorem aw2 {X:Cx}{scope:Scope}{C:Addr}{x:Str}{c:Addr} (hn:(x,NameKind.cell) ∉ scope.names) (h:(eM X.env.cells scope.names []).lookup x=some c):(gY X scope C).lookup x=some c:=by
 unfold gY
 rw [jE,qV]
 cases e:(cellsFrom (C+1) scope.names []).lookup x with
 | some v=>exact absurd (vH _ _ (bm2 e)) hn
 | none=>exact h
theorem K5 {X:Cx}{scope:Scope}{C:Addr}{x:Str} (h:(x,NameKind.cell) ∈ scope.names ∨ ∃ c,(eM X.env.cells scope.names []).lookup x=some c):∃ c,(gY X scope C).lookup x=some c:=by
 unfold gY
 rw [jE,qV]
 cases e:(cellsFrom (C+1) scope.names []).lookup x with
 | some v=>exact⟨v,rfl⟩
 | none=>
  rcases h with h | h
  ·obtain ⟨c,hc⟩:=qU scope.names (C+1) h
   obtain ⟨d,hd⟩:=vI hc
   rw [e] at hd; cases hd
  ·exact h
noncomputable def bW (X:Cx) (scope:Scope) (N:List Str) (s:Shared) (H:Hp) (C:Addr) (fp:List Addr) (E:Value->Shared->Prop):Cx:=
 { X with N:=N,s₀:=s,H₀:=H,env:=compEnvC scope (gY X scope C) C X.env,outer:=X.stack,ex:=fp,fn:=fun x=>scope.names.lookup x == some .cell,pn:=[],xe:=E }
structure cV (X:Cx) (scope:Scope) (N:List Str) (fr:List (Option Nat)):Prop where
 kind:scope.kind = .function
 own:∀ y ∈ scope.names,y.2 = .cell->scope.names.lookup y.1=some .cell
 names:∀ y ∈ scope.names,y.2 = .local->scope.names.lookup y.1=some .local
 free:∀ y ∈ scope.names,y.2 = .free->X.env.scope.names.lookup y.1=some .cell ∨ X.env.scope.names.lookup y.1=some .free
 len:fr.length=N.length
 from_:∀ (i j:Nat),fr[i]? = some (some j)->∃ x,N[i]? = some x/\X.N[j]? = some x/\scope.names.lookup x=some .free
section
variable {X : Cx} {pins : List (Addr × Obj)} {σ : St} {H : Hp} {s : Shared} {scope : Scope} {N : List Str} {fr : List (Option Nat)}
theorem cV.cells (S:cV X scope N fr) (I:a6 X pins σ H s):∀ y ∈ scope.names,y.2 = .free->∃ c,X.env.cells.lookup y.1=some c:=fun y hy hk=>I.ok.has y.1 (S.free y hy hk)
theorem aw3 {C D:Addr}{fp:List Addr}{E:Value->Shared->Prop}{h1:Heap}{tk:Nat}{m:Str->Option Value} (S:cV X scope N fr) (I:a6 X pins σ H s)
  (hf:∀ b ∈ fp,gV X pins H b) (hfl:∀ b ∈ fp,b < s.heap.objs.size) (hD:s.heap.objs.size<=D) (hC:s.heap.objs.size<=C) (hDC:D < C)
  (old:∀ b o,s.heap.get? b=some o->h1.get? b=some o) (hns:h1.Ns C m) (hacc:h1.get? D=some { cls:=.type "list",data:=.seq #[] 0 }) (hco:CellsOk h1 (C+1) (cellsFrom (C+1) scope.names [])) :
  a6 (bW X scope N s H C fp E) [] (fY fr σ) (upd H D (.lst [])) { s with heap:=h1,toks:=tk }:=by
 have hHD:H D=none:=I.hok.fresh hD
 have cl:=S.cells I
 have cs:∀ {x:Str}{c:Addr},(eM X.env.cells scope.names []).lookup x=some c->X.env.cells.lookup x=some c:=fun {x c} h=>qS scope.names [] cl (fun _ _ z=>by simp at z) h
 have clt:∀ {x:Str}{c:Addr},X.env.cells.lookup x=some c->c < s.heap.objs.size:=fun {x c} h=>by obtain ⟨v,z⟩:=I.cell x c h; exact z.lt
 have nge:∀ {x:Str}{c:Addr},(x,c) ∈ cellsFrom (C+1) scope.names []->C < c:=fun {x c} h=>(hco.empty x c h).2
 refine⟨⟨I.ok.mod,?_,I.ok.glob,I.ok.blt,hC,?_,?_,?_,I.ok.hd,I.ok.frames,.inl rfl,?_,I.bs,bl4 I.ok.bsz I.sz,?_,?_,I.stack,I.stkFree⟩,rfl,I.bare,Un.laid old hD hHD,⟨m,hns,?_⟩,?_,?_,?_,fun p hp=>absurd (show p ∈ ([]:List (Addr × Obj)) from hp) (by simp),?_,?_⟩
 ·exact S.kind
 ·intro x y c h1 h2
  rcases lA h1 with a | ⟨_,a⟩ <;> rcases lA h2 with b | ⟨_,b⟩
  ·exact name_of_addr hco.apart a b
  ·exact absurd (bi2 (Nat.lt_trans (nge a) (clt (cs b))) hC) (bm0 _)
  ·exact absurd (bi2 (Nat.lt_trans (nge b) (clt (cs a))) hC) (bm0 _)
  ·exact I.ok.inj x y c (cs a) (cs b)
 ·intro x hx
  have hx:(relabel scope X.env).names.lookup x=some .cell ∨ (relabel scope X.env).names.lookup x=some .free:=hx
  have fin:(x,NameKind.free) ∈ scope.names->∃ c,(gY X scope C).lookup x=some c:=fun z=>K5 (.inr (vG scope.names [] (.inl z)))
  rcases hx with hx | hx
  ·rcases qT hx with z | z
   ·exact K5 (.inl (bm2 z))
   ·exact fin (bm2 z.1)
  ·rcases qT hx with z | z
   ·exact fin (bm2 z)
   ·exact absurd z.2 (by decide)
 ·intro x c hx h
  have hx:(scope.names.lookup x == some NameKind.cell)=true:=hx
  have hx:scope.names.lookup x=some .cell:=by simpa using hx
  rcases lA h with a | ⟨a,_⟩
  ·exact bl4 hC (bl7 (nge a))
  ·obtain ⟨d,hd⟩:=qU scope.names (C+1) (bm2 hx)
   exact absurd hd (a d)
 ·intro b hb
  refine⟨bk6 (bi2 (hfl b hb) hC),fun x c e=>?_⟩
  rcases lA e with a | ⟨_,a⟩
  ·exact br3 (Nat.lt_trans (bi2 (hfl b hb) hC) (nge a))
  ·exact (hf b hb).2.2.2.2.1 x c (cs a)
 ·intro b o e hb
  rcases (hf b hb).2.2.2.1 with z | z
  ·exact I.ok.noex b o e z
  ·exact absurd (bi2 (bi5 e) (bl4 I.ok.bsz z)) (bm0 _)
 ·intro b hb z
  rcases bi0.mp (I.stkSub b z) with e | e
  ·exact (hf b hb).2.1 e
  ·exact (hf b hb).2.2.1 e
 ·intro i x v e1 e2 e3
  have e2:(fr.map fun o=>o.bind fun j=>(σ[j]?).join)[i]? = some (some v):=e2
  rw [bh9] at e2
  cases ef:fr[i]? with
  | none=>rw [ef] at e2; cases e2
  | some o=>
   rw [ef] at e2
   cases o with
   | none=>cases e2
   | some j=>
    have e2:some ((σ[j]?).join)=some (some v):=e2
    have ej:σ[j]? = some (some v):=by
     cases q:σ[j]? with
     | none=>rw [q] at e2; cases e2
     | some w=>rw [q] at e2; cases w with
      | none=>cases e2
      | some w=>cases e2; rfl
    obtain ⟨y,a1,a2,a4⟩:=S.from_ i j ef
    have e1:N[i]? = some x:=e1
    rw [e1] at a1
    cases a1
    have a3:(x,NameKind.free) ∈ scope.names:=bm2 a4
    have vis:gG X.env.scope x:=(S.free _ a3 rfl).elim (fun z=>.inr (.inl z)) fun z=>.inr (.inr z)
    obtain ⟨m0,hn0,hl0⟩:=I.loc
    obtain ⟨u,r,l⟩:=hl0 j x v a2 ej vis
    refine⟨u,r,.inr ⟨?_,?_⟩⟩
    ·have e3:(relabel scope X.env).names.lookup x=some .local ∨ (relabel scope X.env).names.lookup x=some .cell ∨ (relabel scope X.env).names.lookup x=some .free:=e3
     rcases e3 with z | z | z
     ·rcases qT z with y | y
      ·rw [a4] at y; cases y
      ·exact absurd y.2 (by decide)
     ·exact .inl z
     ·exact .inr z
    ·obtain ⟨c,hc⟩:=vG (cells:=X.env.cells) scope.names [] (x:=x) (.inl a3)
     refine⟨c,aw2 (fun z=>by have:=S.own _ z rfl; rw [a4] at this; cases this) hc,?_⟩
     have hc':=cs hc
     have S1:=S.free (x,.free) a3 rfl
     rcases l with ⟨k,_⟩ | ⟨_,c2,hc2,z⟩
     ·have k:X.env.scope.names.lookup x=some .local:=k
      rcases S1 with q | q <;> (have q:X.env.scope.names.lookup x=_:=q; rw [k] at q; cases q)
     ·rw [hc'] at hc2; cases hc2
      obtain ⟨oc,ho,hd⟩:=z
      exact⟨oc,old c oc ho,hd⟩
 ·intro x c e
  rcases lA e with a | ⟨_,a⟩
  ·exact⟨_,(hco.empty x c a).1⟩
  ·obtain ⟨v,oc,ho,hd⟩:=I.cell x c (cs a)
   exact⟨v,oc,old c oc ho,hd⟩
 ·show upd H D (.lst []) C=none
  rw [aW (br3 hDC)]; exact I.hok.fresh hC
 ·intro x c e
  show upd H D (.lst []) c=none
  rcases lA e with a | ⟨_,a⟩
  ·rw [aW (br3 (Nat.lt_trans hDC (nge a)))]; exact I.hok.fresh (bl4 hC (bl7 (nge a)))
  ·have q:=cs a
   rw [aW (bk6 (bi2 (clt q) hD))]
   exact I.freeC x c q
 ·exact I.hok.laid old hD ⟨bk7 _,[],0,.nil,hacc⟩
 ·show (fY fr σ).length=N.length
  unfold fY; rw [bh1]; exact S.len
end
noncomputable def k6 (X:Cx) (ifs:List Expr) (t:TT):Prop:=
 ∀ (pins:List (Addr × Obj)) (s:Shared) (σ:St) (H:Hp) (Q:Bool->Hp->Prop),a6 X pins σ H s->t σ H Q->
  wpAny (model X.prog X.w) X.A (forIn ifs true fun c r=>if r=true then do let ok <- isTrue c X.env (eval c X.env); pure (ForInStep.yield ok) else pure (ForInStep.yield r)) (TP X pins σ Q) X.xe s
noncomputable def vJ:TT:=fun _ H Q=>Q true H
theorem oJ {X:Cx}:k6 X [] vJ:=fun _ _ _ H _ I h=>wpAny_tests_nil ⟨H,I,h⟩
theorem aw4 {X:Cx}{c:Expr}{t:TT} (h:PT X c t):k6 X [c] t:=fun pins s σ H Q I hq=>wpAny_tests_one (h pins s σ H Q I hq)
section
variable {prog : Program} {w : World} {A : Around}
noncomputable def vK (prog:Program) (w:World) (A:Around) (elt tg:Expr) (ifs:List Expr) (it acc:Value) (env:Env) (lost:Value->Shared->Prop) (stop next:Shared->Prop) (s:Shared):Prop:=
 let M:=model prog w
 let tests:Sem Bool:=forIn ifs true fun c r=>if r=true then do let ok <- isTrue c env (eval c env); pure (ForInStep.yield ok) else pure (ForInStep.yield r)
 let put:Shared->Prop:=wpAny M A (eval elt env) (fun x=>wpAny M A (call (.builtin "list.append") [acc,x]) (fun _=>next) lost) lost
 let taken:Value->Shared->Prop:=fun v=>wpAny M A (letOwnedTupleGo tg it v) (fun _=>wpAny M A (assign tg env v) (fun _=>wpAny M A tests (fun ok s'=>if ok=true then put s' else next s') lost) lost) lost
 wpAny M A (pyNext it) (fun r s'=>match r with
  | none=>stop s'
  | some v=>taken v s') lost s
theorem aw5 {R:Result->Shared->Prop}{s:Shared}{elt tg iter:Expr}{ifs:List Expr}{scope:Scope}{pos:Pos}{it acc:Value}{env:Env} (I:Nat->Shared->Prop)
  (turn:∀ n s,I n s->vK prog w A elt tg ifs it acc env (notedBy (model prog w) A env fun e=>R (.error e)) (R (.ok .next)) (fun s'=>∃ m,m < n/\I m s') s) (n:Nat) (h:I n s) :
  codeAny (model prog w) A (.compLoop (.ListComp elt [⟨tg,iter,ifs,0⟩] scope pos) 0 it acc env) R s:=by
 apply codeAny_loop rfl I _ n h
 intro k s1 h1
 change wpAny _ A ((compTurn _ 0 it acc env).onRaise (fun x=>do noteFrame x env; theTreesLotGoes x)) _ _ s1
 apply wpAny_noted
 rw [compTurn_list]
 have t:=turn k s1 h1
 unfold vK at t
 apply bg3
 apply wpAny_standAt
 apply bg3
 refine bo8 t (fun r s2 h2=>?_) fun _ _ z=>z
 cases r with
 | none=>exact bh4 h2
 | some v=>
  apply bg3
  refine bo8 h2 (fun _ s3 h3=>?_) fun _ _ z=>z
  apply bg3
  refine bo8 h3 (fun _ s4 h4=>?_) fun _ _ z=>z
  apply bg3
  refine bo8 h4 (fun ok s5 h5=>?_) fun _ _ z=>z
  cases ok with
  | false=>exact bh4 ⟨rfl,h5⟩
  | true=>
   apply bg3
   apply bg3
   refine bo8 h5 (fun x s6 h6=>?_) fun _ _ z=>z
   apply bg3
   exact bo8 h6 (fun _ s7 h7=>bh4 (bh4 ⟨rfl,h7⟩)) fun _ _ z=>z
end
noncomputable def oK (g:TG) (tc:TT) (te:TE) (σ0:St) (J:It) (D:Addr) (Q:VK) (W:Nat->Nat->List V->Hp->Prop):Prop:=
 ∀ i m acc H',W i m acc H'->H' D=some (.lst acc)/\((J.stop i H'/\Q (.ref D) H') ∨ (J.go i H'/\∀ x H2,J.yld i H' x H2->g x σ0 H2 fun σ2 H3=>Wk σ0 σ2/\tc σ2 H3 fun b H4=>
  if b=true then te σ2 H4 fun v H5=>H5 D=some (.lst acc)/\acc.length < sizeLine/\∃ m',m' < m/\W (i+1) m' (acc ++ [v]) (upd H5 D (.lst (acc ++ [v]))) else ∃ m',m' < m/\W (i+1) m' acc H4))
noncomputable def K6 (wi:TI) (fr:List (Option Nat)) (g:TG) (tc:TT) (te:TE):TE:=fun σ H Q=>wi σ H fun J H1=>∀ D,H1 D=none->
 ∃ W:Nat->Nat->List V->Hp->Prop,(∃ m,W 0 m [] (upd H1 D (.lst [])))/\oK g tc te (fY fr σ) J D Q W
section
variable {M : Model} {A : Around} {E : Value → Shared → Prop} {s : Shared}
theorem aw6 {scope:Scope}{globals:Addr}{cl:List (Str × Addr)}{qual:Str}{func:Option Addr}{code:Value}{builtins:Addr}{outer:Env}{Q:Env->Shared->Prop}
  (hQ:∀ h',h'.Ns s.heap.objs.size (fun _=>none)->(∀ b o,s.heap.get? b=some o->h'.get? b=some o)->CellsOk h' (s.heap.objs.size+1) (cellsFrom (s.heap.objs.size+1) scope.names [])->
   Q (newEnv scope s.heap.objs.size globals (cellsFrom (s.heap.objs.size+1) scope.names cl) qual func code (some outer) builtins) { s with heap:=h' }) :
  wpAny M A (newFunctionEnv scope globals cl [] qual func code (some outer) builtins) Q E s:=by
 simp only [newFunctionEnv,Option.isSome_some,if_true]
 refine bg3 (wpAny_alloc ?_)
 refine bg3 (wpAny_layCells _ (fun name kind cells=>by cases hkc:kind == NameKind.cell <;> simp [hkc]) _ _ _ _ ?_)
 have ok:=cellsFrom_ok scope.names (s.heap.push { cls:=.type "dict",data:=.dict #[] }) (s.heap.objs.size+1) [] ⟨fun _ _ hm=>(nomatch hm),bq6⟩ (by rw [bx0]; exact bh0 _)
 rw [bx0] at ok
 rw [show ({ s with heap:=s.heap.push { cls:=.type "dict",data:=.dict #[] } }:Shared).heap.objs.size=s.heap.objs.size+1 from bx0 ..]
 rw [List.forIn_nil]
 refine bg3 (bh4 (bh4 (hQ _ ((Heap.Ns.new s.heap (.type "dict")).keeps (pushCells_keeps _ _)) (fun b o e=>pushCells_keeps _ _ b o (bg4 _ e)) ok)))
end
section
variable {X : Cx} {pins : List (Addr × Obj)} {σ : St} {H : Hp} {s : Shared} {scope : Scope} {N : List Str} {fr : List (Option Nat)} {tg iter elt : Expr} {ifs : List Expr} {pos : Pos} {wi : TI} {g : TG} {tc : TT} {te : TE}
structure mL (X:Cx) (scope:Scope) (N:List Str) (tg:Expr) (ifs:List Expr) (elt:Expr) (s:Shared) (H:Hp) (g:TG) (tc:TT) (te:TE):Prop where
 tg:∀ (C:Addr) (fp:List Addr),PG (bW X scope N s H C fp fun _ _=>False) tg g
 ifs:∀ (C:Addr) (fp:List Addr),k6 (bW X scope N s H C fp fun _ _=>False) ifs tc
 elt:∀ (C:Addr) (fp:List Addr),PE (bW X scope N s H C fp fun _ _=>False) elt te
structure oM (X:Cx) (scope:Scope) (N:List Str) (tg:Expr) (ifs:List Expr) (elt:Expr) (g:TG) (tc:TT) (te:TE):Prop where
 tg:∀ (s:Shared) (H:Hp) (C:Addr) (fp:List Addr),PG (bW X scope N s H C fp fun _ _=>False) tg g
 ifs:∀ (s:Shared) (H:Hp) (C:Addr) (fp:List Addr),k6 (bW X scope N s H C fp fun _ _=>False) ifs tc
 elt:∀ (s:Shared) (H:Hp) (C:Addr) (fp:List Addr),PE (bW X scope N s H C fp fun _ _=>False) elt te
theorem oM.at (B:oM X scope N tg ifs elt g tc te) (s:Shared) (H:Hp):mL X scope N tg ifs elt s H g tc te:=⟨B.tg s H,B.ifs s H,B.elt s H⟩
theorem aw7 {C:Addr}{fp:List Addr}{E:Value->Shared->Prop}{pins':List (Addr × Obj)}{σ':St}{H':Hp}{s':Shared} (I:a6 X pins σ H s) (hf:∀ b ∈ fp,gV X pins H b) (I':a6 (bW X scope N s H C fp E) pins' σ' H' s'):a6 X pins σ H' s':=
 I.call' (ch:=fp) I'.os I'.base I'.hok I'.bare fun b hb=>⟨(hf b hb).2.2.2.1,(hf b hb).2.1,(hf b hb).2.2.2.2.1,(hf b hb).2.2.2.2.2⟩
theorem qW {Rr:Value->Addr->Result->Shared->Prop}{J:It}{fp:List Addr}{it:Addr}{tn:Nat->Heap->Prop}{Q:VK}
  (hc:X.calm=true) (S:cV X scope N fr) (B:mL X scope N tg ifs elt s H g tc te) (I:a6 X pins σ H s) (T:j6 X.prog X.w X.K tg J fp it tn) (hst:tn 0 s.heap) (hf:∀ b ∈ fp,gV X pins H b)
  (h:∀ D,H D=none->∃ W:Nat->Nat->List V->Hp->Prop,(∃ m,W 0 m [] (upd H D (.lst [])))/\oK g tc te (fY fr σ) J D Q W)
  (hend:∀ (D C:Addr) (s':Shared) (H':Hp) (m:Str->Option Value),s.heap.objs.size<=C->s.heap.objs.size<=D->a6 X pins σ H' s'->s'.heap.Ns C m->H' C=none->Q (.ref D) H'->Rr (.ref D) C (.ok .next) s') :
  wpAny (model X.prog X.w) X.A (newList []) (fun acc s₃=>wpAny (model X.prog X.w) X.A (newFunctionEnv scope X.env.globals (eM X.env.cells scope.names []) [] X.env.qual none .none (some X.env)) (fun cenv s₄=>
   codeAny (model X.prog X.w) X.A (.compStart (.ListComp elt [⟨tg,iter,ifs,0⟩] scope pos) 0 (.ref it) acc { cenv with scope:=relabel scope X.env }) (Rr acc cenv.locals) s₄) X.xe s₃) X.xe s:=by
 refine bp3 (aw6 (fun h₁ hns₁ keep₁ hco₁=>?_))
 dsimp only at hns₁ keep₁ hco₁ ⊢
 generalize hH2:s.heap.push { cls:=.type "list",dict:=none,data:=.seq ([]:List Value).toArray }=H2 at hns₁ keep₁ hco₁ ⊢
 have hC:H2.objs.size=s.heap.objs.size+1:=by rw [<- hH2,bx0]
 have hDC:s.heap.objs.size < H2.objs.size:=by rw [hC]; exact Nat.lt_succ_self _
 have hCle:s.heap.objs.size<=H2.objs.size:=by rw [hC]; exact Nat.le_succ _
 have old:∀ b o,s.heap.get? b=some o->h₁.get? b=some o:=fun b o e=>keep₁ b o (hH2 ▸ bg4 _ e)
 have hacc:h₁.get? s.heap.objs.size=some { cls:=.type "list",data:=.seq #[] 0 }:=keep₁ _ _ (hH2 ▸ bi6 _ rfl)
 have hfl:∀ b ∈ fp,b < s.heap.objs.size:=fun b hb=>by obtain ⟨o,e,_⟩:=T.obj _ _ hst b hb; exact bi5 e
 obtain ⟨W,⟨m0,w0⟩,turn⟩:=h s.heap.objs.size (I.hok.fresh (bh0 _))
 have st1:tn 0 h₁:=T.keep _ _ _ hst fun b _ o e=>old b o e
 have fr0:∀ b ∈ fp,upd H s.heap.objs.size (.lst []) b=none:=fun b hb=>by rw [aW (bk6 (hfl b hb))]; exact (hf b hb).1
 have stat:∀ {H':Hp},(∀ b ∈ fp,H' b=none)->∀ b ∈ fp,gV (bW X scope N s H H2.objs.size fp fun _ _=>False) [] H' b:=fun {H'} hn b hb=>by
  have f:=hf b hb
  refine⟨hn b hb,bk6 (bi2 (hfl b hb) hCle),fun z=>?_,.inl hb,fun x c e=>(lA e).elim (fun z=>br3 (Nat.lt_trans (bi2 (hfl b hb) hCle) (hco₁.empty x c z).2)) fun z=>f.2.2.2.2.1 x c (qS scope.names [] (S.cells I) (fun _ _ z=>by simp at z) z.2),fun p hp=>absurd (show p ∈ ([]:List (Addr × Obj)) from hp) (by simp)⟩
  rcases bi0.mp (I.stkSub b z) with e | e
  ·exact f.2.1 e
  ·exact f.2.2.1 e
 generalize hX:bW X scope N s H H2.objs.size fp (fun _ _=>False)=Y at stat
 have I0:a6 Y [] (fY fr σ) (upd H s.heap.objs.size (.lst [])) { s with heap:=h₁ }:=hX ▸ aw3 S I hf hfl (bh0 _) hCle hDC old hns₁ hacc hco₁
 have bt:PG Y tg g:=hX ▸ B.tg H2.objs.size fp
 have bi:k6 Y ifs tc:=hX ▸ B.ifs H2.objs.size fp
 have be:PE Y elt te:=hX ▸ B.elt H2.objs.size fp
 have eP:Y.prog=X.prog:=by rw [<- hX]; rfl
 have ew:Y.w=X.w:=by rw [<- hX]; rfl
 have eK:Y.K=X.K:=by rw [<- hX]; rfl
 have eA:Y.A=X.A:=by rw [<- hX]; rfl
 have eE:Y.env=compEnvC scope (gY X scope H2.objs.size) H2.objs.size X.env:=by rw [<- hX]; rfl
 have eX:Y.xe=fun _ _=>False:=by rw [<- hX]; rfl
 have ec:Y.calm=true:=by rw [<- hX]; exact hc
 have never:∀ {E:Value->Shared->Prop} (e:Value) (s':Shared),Y.xe e s'->E e s':=fun {E} e s' z=>by rw [eX] at z; exact z.elim
 have out:∀ {pins' σ' H' s'},a6 Y pins' σ' H' s'->a6 X pins σ H' s':=fun {_ _ _ _} I'=>aw7 (C:=H2.objs.size) (E:=fun _ _=>False) (scope:=scope) (N:=N) I hf (hX ▸ I')
 have loop:codeAny (model X.prog X.w) X.A (.compLoop (.ListComp elt [⟨tg,iter,ifs,0⟩] scope pos) 0 (.ref it) (.ref s.heap.objs.size) (compEnvC scope (gY X scope H2.objs.size) H2.objs.size X.env))
   (Rr (.ref s.heap.objs.size) H2.objs.size) { s with heap:=h₁ }:=by
  refine aw5 (fun n s'=>∃ i acc H',a6 Y [] (fY fr σ) H' s'/\tn i s'.heap/\(∀ b ∈ fp,H' b=none)/\W i n acc H') ?_ m0 ⟨0,[],_,I0,st1,fr0,w0⟩
  rintro n s3 ⟨i,acc,H3,I3,st3,fr3,w3⟩
  unfold vK
  dsimp only
  obtain ⟨hD3,step⟩:=turn i n acc H3 w3
  rcases step with ⟨stop,qn⟩ | ⟨go,step⟩
  ·have z:=T.done Y eP ew eK ec i [] s3 _ H3 (notedBy (model X.prog X.w) X.A (compEnvC scope (gY X scope H2.objs.size) H2.objs.size X.env) fun e s'=>Rr (.ref s.heap.objs.size) H2.objs.size (.error e) s') I3 (stat fr3) st3 stop
   rw [eA] at z
   refine aO z fun r s4 ⟨hr,I4⟩=>?_
   subst hr
   obtain ⟨m4,hn4,_⟩:=I4.loc
   rw [eE] at hn4
   have f4:=I4.free
   rw [eE] at f4
   exact hend _ _ s4 H3 m4 hCle (bh0 _) (out I4) hn4 f4 qn
  ·have z:=T.item Y eP ew eK ec i [] s3 _ H3 (notedBy (model X.prog X.w) X.A (compEnvC scope (gY X scope H2.objs.size) H2.objs.size X.env) fun e s'=>Rr (.ref s.heap.objs.size) H2.objs.size (.error e) s') I3 (stat fr3) st3 go
   rw [eA] at z
   refine aO z fun r s4 ⟨u,hr,h4⟩=>?_
   subst hr
   refine aO h4 fun _ s5 ⟨x,H5,I5,r5,y5,st5,fr5⟩=>?_
   have I5':=I5.pinned (stat fr5) (T.obj _ _ st5)
   have q1:=bt _ s5 _ H5 x u _ I5' r5 (step x H5 y5)
   rw [eP,ew,eA,eE] at q1
   refine bo8 q1 (fun _ s6 ⟨σ6,H6,I6,wk,q6⟩=>?_) never
   have q2:=bi _ s6 σ6 H6 _ I6 q6
   rw [eP,ew,eA,eE] at q2
   refine bo8 q2 (fun b s7 ⟨H7,I7,q7⟩=>?_) never
   have again:∀ {H8:Hp}{s8:Shared}{acc':List V},a6 Y ([] ++ o8 fp s5.heap) σ6 H8 s8->(∃ m',m' < n/\W (i+1) m' acc' H8)->∃ m,m < n/\∃ i acc H',a6 Y [] (fY fr σ) H' s8/\tn i s8.heap/\(∀ b ∈ fp,H' b=none)/\W i m acc H':=fun {H8 s8 acc'} I8 n8=>by
    obtain ⟨m',hm,w8⟩:=n8
    refine⟨m',hm,i+1,acc',H8,(I8.unpinned).weak wk.1 wk.2,T.keep _ _ _ st5 fun b hb o e=>(I8.pin (b,o) (bi9 _ (bi9 _ (qH hb e)))).1,fun b hb=>?_,w8⟩
    obtain ⟨o,e,d⟩:=T.obj _ _ st5 b hb
    exact (I8.pin (b,o) (bi9 _ (bi9 _ (qH hb e)))).2.1
   cases b with
   | false=>
    rw [if_neg bi3] at q7 ⊢
    exact again I7 q7
   | true=>
    rw [if_pos rfl] at q7 ⊢
    have q3:=be _ s7 σ6 H7 _ I7 q7
    rw [eP,ew,eA,eE] at q3
    refine bo8 q3 (fun v s8 ⟨y,H8,I8,r8,hD8,hz8,q8⟩=>?_) never
    have q4:=mJ _ s8 σ6 H8 (.ref s.heap.objs.size) [y] (.ref s.heap.objs.size) [v] (fun _ H9=>∃ m',m' < n/\W (i+1) m' (acc ++ [y]) H9) I8 rfl (.cons r8 .nil) ⟨_,_,_,rfl,rfl,hD8,hz8,q8⟩
    rw [eP,ew,eA] at q4
    exact bo8 q4 (fun _ s9 ⟨_,H9,I9,_,q9⟩=>again I9 q9) never
 exact codeAny_compStart_list loop (T.self _ 0 _ _ _ st1 loop)
end
section
variable {X : Cx} {scope : Scope} {N : List Str} {fr : List (Option Nat)} {tg iter elt : Expr} {ifs : List Expr} {pos : Pos} {wi : TI} {g : TG} {tc : TT} {te : TE}
theorem a6.drop {pins:List (Addr × Obj)}{σ:St}{H H':Hp}{s s':Shared}{C:Addr}{h':Heap} (I0:a6 X pins σ H s) (hC:s.heap.objs.size<=C) {σ':St} (I:a6 X pins σ' H' s') (hn:H' C=none) (sb:Heap.SameBut C s'.heap h'):a6 X pins σ' H' { s' with heap:=h' }:=by
 refine I.turned (t':=s'.toks) (it:=C) (fun b o hb e=>(sb.2 b hb).trans e) hn (br3 (bi2 I0.lt hC)) (.inr (bl4 I0.sz hC)) (fun x c e z=>?_) fun p hp z=>?_
 ·obtain ⟨v,q⟩:=I0.cell x c e
  exact absurd (bi2 q.lt (by rw [z]; exact hC)) (bm0 _)
 ·exact absurd (bi2 (bi5 (I0.pin p hp).1) (by rw [z]; exact hC)) (bm0 _)
theorem K7 (hc:X.calm=true) (S:cV X scope N fr) (hi:PI X tg iter wi) (B:oM X scope N tg ifs elt g tc te)
  (hs:∀ x,foldedSetIterable iter X.env x=pure x:=by intro _; rfl):PE X (.ListComp elt [⟨tg,iter,ifs,0⟩] scope pos) (K6 wi fr g tc te):=by
 intro pins s σ H Q I h
 rw [eval_ListComp]
 refine wpAny_comprehension_free (use:=none) rfl hs (qR (S.cells I)) S.kind S.names (aO (hi pins s σ H _ I h) fun v s1 h1=>aO h1 fun itv s2 h2=>?_)
 obtain ⟨it,fp,tn,J,H2,e,I2,T,st2,f2,hW⟩:=h2
 subst e
 refine qW (Rr:=fun acc C=>compPost (model X.prog X.w) X.A X.xe none (EP X pins σ Q) acc C) hc S (B.at _ _) I2 T st2 f2 hW ?_
 intro D C s' H' m hC hD I' hns hHC q
 exact⟨m,hns,fun h' sb=>⟨.ref D,H',I2.drop hC I' hHC sb,rfl,q⟩⟩
theorem K8 {i:Nat}{x:Str}{px spos:Pos} (hc:X.calm=true) (S:cV X scope N fr) (hi:PI X tg iter wi) (B:oM X scope N tg ifs elt g tc te) (hN:X.N.Nodup) (hix:X.N[i]? = some x) (hx:X.env.scope.names.lookup x=some .local)
  (hsw:swapsWith (.ListComp elt [⟨tg,iter,ifs,0⟩] scope pos) (some (.Name x px)) spos.line X.env=pure true) (hs:∀ x,foldedSetIterable iter X.env x=pure x:=by intro _; rfl) :
  PS X (.Assign [.Name x px] (.ListComp elt [⟨tg,iter,ifs,0⟩] scope pos) spos) (jW (K6 wi fr g tc te) (cU i)):=by
 intro pins s σ H D I h
 rw [exec_Assign_Name_used _ _ _ _ hsw]
 refine bg3 (wpAny_standAt (bg3 ?_))
 show wpAny _ _ (do let _ <- comprehension (.ListComp elt [⟨tg,iter,ifs,0⟩] scope pos) scope X.env _ (newList []) false (eval iter X.env) (some (assign (.Name x px) X.env))) _ _ s
 refine bg3 (bo8 (wpAny_comprehension_free (Q:=fun _ s'=>SP X pins D .next s') (use:=some (assign (.Name x px) X.env)) rfl hs (qR (S.cells I)) S.kind S.names (aO (hi pins s σ H _ I h) fun v s1 h1=>aO h1 fun itv s2 h2=>?_))
  (fun _ s' hq=>bh4 (bh4 hq)) fun _ _ e=>e)
 obtain ⟨it,fp,tn,J,H2,e,I2,T,st2,f2,hW⟩:=h2
 subst e
 refine qW (Rr:=fun acc C=>compPost (model X.prog X.w) X.A X.xe (some (assign (.Name x px) X.env)) (fun _ s'=>SP X pins D .next s') acc C) hc S (B.at _ _) I2 T st2 f2 hW ?_
 intro D' C s' H' m hC hD I' hns hHC q
 refine wpAny_assign_Name (uA I' hN hix (.inl hx) (v:=.ref D') rfl (fun s'' I'' sb=>?_) (.inr hx))
 obtain ⟨a,sb,ha⟩:=sb
 have hCa:C ≠ a:=by
  rcases ha with z | z
  ·rw [z]; exact br3 (bi2 I2.lt hC)
  ·intro e; subst e
   obtain ⟨v,q⟩:=I2.cell x _ z
   exact absurd (bi2 q.lt hC) (bm0 _)
 exact⟨m,hns.sameBut sb hCa,fun h' sb'=>⟨_,H',I2.drop hC I'' hHC sb',q⟩⟩
variable {gh : Hp → TG} {tch : Hp → TT} {teh : Hp → TE}
noncomputable def vL (wi:TI) (fr:List (Option Nat)) (gh:Hp->TG) (tch:Hp->TT) (teh:Hp->TE):TE:=fun σ H Q=>wi σ H fun J H1=>∀ D,H1 D=none->
 ∃ W:Nat->Nat->List V->Hp->Prop,(∃ m,W 0 m [] (upd H1 D (.lst [])))/\oK (gh H1) (tch H1) (teh H1) (fY fr σ) J D Q W
theorem K9 (hc:X.calm=true) (S:cV X scope N fr) (hi:PI X tg iter wi) (B:∀ (s:Shared) (H:Hp),mL X scope N tg ifs elt s H (gh H) (tch H) (teh H))
  (hs:∀ x,foldedSetIterable iter X.env x=pure x:=by intro _; rfl):PE X (.ListComp elt [⟨tg,iter,ifs,0⟩] scope pos) (vL wi fr gh tch teh):=by
 intro pins s σ H Q I h
 rw [eval_ListComp]
 refine wpAny_comprehension_free (use:=none) rfl hs (qR (S.cells I)) S.kind S.names (aO (hi pins s σ H _ I h) fun v s1 h1=>aO h1 fun itv s2 h2=>?_)
 obtain ⟨it,fp,tn,J,H2,e,I2,T,st2,f2,hW⟩:=h2
 subst e
 refine qW (Rr:=fun acc C=>compPost (model X.prog X.w) X.A X.xe none (EP X pins σ Q) acc C) hc S (B _ _) I2 T st2 f2 hW ?_
 intro D C s' H' m hC hD I' hns hHC q
 exact⟨m,hns,fun h' sb=>⟨.ref D,H',I2.drop hC I' hHC sb,rfl,q⟩⟩
theorem vM {i:Nat}{x:Str}{px spos:Pos} (hc:X.calm=true) (S:cV X scope N fr) (hi:PI X tg iter wi) (B:∀ (s:Shared) (H:Hp),mL X scope N tg ifs elt s H (gh H) (tch H) (teh H)) (hN:X.N.Nodup) (hix:X.N[i]? = some x) (hx:X.env.scope.names.lookup x=some .local)
  (hsw:swapsWith (.ListComp elt [⟨tg,iter,ifs,0⟩] scope pos) (some (.Name x px)) spos.line X.env=pure true) (hs:∀ x,foldedSetIterable iter X.env x=pure x:=by intro _; rfl) :
  PS X (.Assign [.Name x px] (.ListComp elt [⟨tg,iter,ifs,0⟩] scope pos) spos) (jW (vL wi fr gh tch teh) (cU i)):=by
 intro pins s σ H D I h
 rw [exec_Assign_Name_used _ _ _ _ hsw]
 refine bg3 (wpAny_standAt (bg3 ?_))
 show wpAny _ _ (do let _ <- comprehension (.ListComp elt [⟨tg,iter,ifs,0⟩] scope pos) scope X.env _ (newList []) false (eval iter X.env) (some (assign (.Name x px) X.env))) _ _ s
 refine bg3 (bo8 (wpAny_comprehension_free (Q:=fun _ s'=>SP X pins D .next s') (use:=some (assign (.Name x px) X.env)) rfl hs (qR (S.cells I)) S.kind S.names (aO (hi pins s σ H _ I h) fun v s1 h1=>aO h1 fun itv s2 h2=>?_))
  (fun _ s' hq=>bh4 (bh4 hq)) fun _ _ e=>e)
 obtain ⟨it,fp,tn,J,H2,e,I2,T,st2,f2,hW⟩:=h2
 subst e
 refine qW (Rr:=fun acc C=>compPost (model X.prog X.w) X.A X.xe (some (assign (.Name x px) X.env)) (fun _ s'=>SP X pins D .next s') acc C) hc S (B _ _) I2 T st2 f2 hW ?_
 intro D' C s' H' m hC hD I' hns hHC q
 refine wpAny_assign_Name (uA I' hN hix (.inl hx) (v:=.ref D') rfl (fun s'' I'' sb=>?_) (.inr hx))
 obtain ⟨a,sb,ha⟩:=sb
 have hCa:C ≠ a:=by
  rcases ha with z | z
  ·rw [z]; exact br3 (bi2 I2.lt hC)
  ·intro e; subst e
   obtain ⟨v,q⟩:=I2.cell x _ z
   exact absurd (bi2 q.lt hC) (bm0 _)
 exact⟨m,hns.sameBut sb hCa,fun h' sb'=>⟨_,H',I2.drop hC I'' hHC sb',q⟩⟩
end
theorem bI {H:Hp}{p:Addr} (h:H p=none) (o:HO):aA H (upd H p o):=fun b u q=>by rw [aW (dP q h)]; exact q
theorem aA.tup {K:PySem.W.Frag}{H H':Hp}{a:Addr}{xs:List V} (e:aA H H') (h:aJ K H a xs):aJ K H' a xs:=by
 rcases h with (h | ⟨o,h⟩) | h
 ·exact .inl (.inl (e _ _ h))
 ·exact .inl (.inr ⟨o,e _ _ h⟩)
 ·exact .inr h
structure L4 (H:Hp) (J:It) (xs:List V):Prop where
 go:∀ i H',aA H H'->i < xs.length->J.go i H'
 yld:∀ i H' x H2,aA H H'->J.yld i H' x H2->i < xs.length->xs[i]? = some x/\H2=H'
 stop:∀ H',aA H H'->J.stop xs.length H'
theorem L5 {K:PySem.W.Frag}{H:Hp}{a:Addr}{xs:List V} (h:aJ K H a xs):L4 H (jX K a) xs:=
 ⟨fun i H' e hi=>⟨xs,xs[i],e.tup h,by simp [hi]⟩,fun i H' x H2 e y hi=>⟨y.2 xs (e.tup h),y.1⟩,fun H' e=>⟨xs,e.tup h,bh0 _⟩⟩
noncomputable def jF (lo:Int) (n:Nat):List V:=(List.range n).map fun (i:Nat)=>V.int (lo+(i:Int))
theorem vN (lo:Int) (n:Nat):(jF lo n).length=n:=by unfold jF; rw [bh1,List.length_range]
noncomputable def CW (H1:Hp) (D:Addr) (n:Nat) (Pv:Nat->List V->Hp->Prop):Nat->Nat->List V->Hp->Prop:=fun i m acc H'=>m=n - i/\i<=n/\acc.length<=i/\aA H1 H'/\H' D=some (.lst acc)/\Pv i acc H'
noncomputable def vO (H1:Hp) (D:Addr) (n:Nat) (Pv:Nat->List V->Hp->Prop) (i:Nat) (acc:List V) (v:V) (H5:Hp):Prop:=H5 D=some (.lst acc)/\acc.length < sizeLine/\∃ m',m' < n - i/\CW H1 D n Pv (i+1) m' (acc ++ [v]) (upd H5 D (.lst (acc ++ [v])))
noncomputable def L6 (H1:Hp) (D:Addr) (n:Nat) (Pv:Nat->List V->Hp->Prop) (i:Nat) (acc:List V) (H4:Hp):Prop:=∃ m',m' < n - i/\CW H1 D n Pv (i+1) m' acc H4
structure qX (H1:Hp) (D:Addr) (n i:Nat) (acc:List V) (H':Hp):Prop where
 lt:i < n
 few:acc.length<=i
 sz:n<=sizeLine
 same:aA H1 H'
 new:H1 D=none
 acc:H' D=some (.lst acc)
theorem qX.yes {H1:Hp}{D:Addr}{n i:Nat}{acc:List V}{H' H5:Hp}{Pv:Nat->List V->Hp->Prop}{v:V} (c:qX H1 D n i acc H') (s:aA H' H5) (p:Pv (i+1) (acc ++ [v]) (upd H5 D (.lst (acc ++ [v])))):vO H1 D n Pv i acc v H5:=by
 refine⟨s _ _ c.acc,Nat.lt_of_le_of_lt c.few (bi2 c.lt c.sz),_,?_,rfl,c.lt,?_,fun b o e=>?_,bK,p⟩
 ·have:=c.lt; omega
 ·rw [bi4,bk8]; exact Nat.succ_le_succ c.few
 ·rw [aW (dP e c.new)]; exact s _ _ (c.same _ _ e)
theorem L7 {H1:Hp}{J:It}{xs:List V}{g:TG}{tc:TT}{te:TE}{σ0:St}{Q:VK} (O:L4 H1 J xs) (Pv:Nat->List V->Hp->Prop) (hn:xs.length<=sizeLine)
  (h0:∀ D,H1 D=none->Pv 0 [] (upd H1 D (.lst [])))
  (hs:∀ i x acc D H',xs[i]? = some x->qX H1 D xs.length i acc H'->Pv i acc H'->g x σ0 H' fun σ2 H3=>Wk σ0 σ2/\tc σ2 H3 fun b H4=>
   if b=true then te σ2 H4 fun v H5=>vO H1 D xs.length Pv i acc v H5 else L6 H1 D xs.length Pv i acc H4)
  (hd:∀ D acc H',H1 D=none->aA H1 H'->H' D=some (.lst acc)->acc.length<=xs.length->Pv xs.length acc H'->Q (.ref D) H') :
  ∀ D,H1 D=none->∃ W:Nat->Nat->List V->Hp->Prop,(∃ m,W 0 m [] (upd H1 D (.lst [])))/\oK g tc te σ0 J D Q W:=by
 intro D hD
 refine⟨CW H1 D xs.length Pv,⟨xs.length,rfl,bk7 _,bh0 _,bI hD _,bK,h0 D hD⟩,?_⟩
 rintro i m acc H' ⟨rfl,hi,ha,sm,hDa,p⟩
 refine⟨hDa,?_⟩
 by_cases hlt:i < xs.length
 ·refine .inr ⟨O.go i H' sm hlt,fun x H2 y=>?_⟩
  obtain ⟨hx,e⟩:=O.yld i H' x H2 sm y hlt
  subst e
  exact hs i x acc D H2 hx ⟨hlt,ha,hn,sm,hD,hDa⟩ p
 ·have e:i=xs.length:=by omega
  subst e
  exact .inl ⟨O.stop H' sm,hd D acc H' hD sm hDa ha p⟩
end L2
namespace Srt
open PySem PySem.W PyProof.Rows
noncomputable abbrev G (p:Array Nat) (i:Nat):Nat:=p.getD i 0
theorem oN {p q:Array Nat}{i j:Nat} (h:p[i]? = q[j]?):G p i=G q j:=by
 unfold G; rw [bv2,bv2,h]
theorem vP {p:Array Nat}{i j:Nat} (hj:j<=p.size) (k:Nat):G (kas_rev p i j) k=if i<=k/\k < j then G p (i+j - 1 - k) else G p k:=by
 have e:=getElem?_mirror_all (i:=i) hj k
 unfold kas_rev
 by_cases h1:i<=k/\k < j
 ·rw [if_pos h1] at e ⊢; exact oN e
 ·rw [if_neg h1] at e ⊢; exact oN e
theorem aw8 {p:Array Nat}{src d:Nat} (hs:src < p.size) (hd:d<=src) (k:Nat):G (bubble p src d) k=if k=src - d then G p src else if src - d < k/\k<=src then G p (k - 1) else G p k:=by
 have e:=getElem?_bubble hs d hd k
 by_cases h1:k=src - d
 ·rw [if_pos h1] at e ⊢; exact oN e
 ·rw [if_neg h1] at e ⊢
  by_cases h2:src - d < k/\k<=src
  ·rw [if_pos h2] at e ⊢; exact oN e
  ·rw [if_neg h2] at e ⊢; exact oN e
noncomputable def PP (n:Nat) (p:Array Nat):Prop:=p.toList.Perm (List.range n)
theorem PP.size {n:Nat}{p:Array Nat} (h:PP n p):p.size=n:=by
 have:=h.length_eq
 rw [List.length_range] at this
 simpa using this
theorem PP.lt {n:Nat}{p:Array Nat} (h:PP n p) {k:Nat} (hk:k < n):G p k < n:=by
 have hs:=h.size
 have hk':k < p.toList.length:=by simpa [hs] using hk
 have e:G p k=p.toList[k]:=by
  unfold G; rw [bv2]; simp [hs,hk]
 have m:p.toList[k] ∈ p.toList:=bq0 hk'
 rw [e]
 exact bu2.mp (h.mem_iff.mp m)
theorem PP.of {n:Nat}{p q:Array Nat} (h:PP n p) (e:q.Perm p):PP n q:=(Array.perm_iff_toList_perm.mp e).trans h
theorem PP.rev {n:Nat}{p:Array Nat} (h:PP n p) (i j:Nat):PP n (kas_rev p i j):=h.of (mirror_perm _ _ _ _)
theorem PP.bub {n:Nat}{p:Array Nat} (h:PP n p) (i j:Nat):PP n (bubble p i j):=h.of (bubble_perm _ _ _)
structure qY (c:Nat->Nat->Bool):Prop where
 asym:∀ {i j},c i j=true->c j i=false
 ntr:∀ {i j k},c i j=false->c j k=false->c i k=false
section
variable {c : Nat → Nat → Bool} (O : qY c)
noncomputable def Le (c:Nat->Nat->Bool) (i j:Nat):Prop:=c j i=false
include O
theorem le_refl (i:Nat):Le c i i:=by
 unfold Le
 cases h:c i i with
 | false=>rfl
 | true=>have:=O.asym h; rw [h] at this; exact this
theorem le_trans {i j k:Nat} (h1:Le c i j) (h2:Le c j k):Le c i k:=O.ntr h2 h1
theorem qZ {i j:Nat} (h:c i j=true):Le c i j:=O.asym h
omit O
noncomputable def fZ (c:Nat->Nat->Bool) (p:Array Nat) (n:Nat):Prop:=∀ a b,a<=b->b < n->Le c (G p a) (G p b)
noncomputable def k7 (c:Nat->Nat->Bool) (p:Array Nat) (n:Nat):Prop:=∀ a b,a<=b->b < n->Le c (G p b) (G p a)
include O
theorem aw9 {p:Array Nat}{n:Nat} (h:fZ c p n) (h1:1<=n) (hl:Le c (G p (n - 1)) (G p n)):fZ c p (n+1):=fun a b hab hb=>by
 by_cases hbn:b < n
 ·exact h a b hab hbn
 ·have e:b=n:=by omega
  subst e
  by_cases han:a=b
  ·subst han; exact le_refl O _
  ·exact le_trans O (h a (b - 1) (by omega) (by omega)) hl
theorem r6 {p:Array Nat}{n:Nat} (h:k7 c p n) (h1:1<=n) (hl:Le c (G p n) (G p (n - 1))):k7 c p (n+1):=fun a b hab hb=>by
 by_cases hbn:b < n
 ·exact h a b hab hbn
 ·have e:b=n:=by omega
  subst e
  by_cases han:a=b
  ·subst han; exact le_refl O _
  ·exact le_trans O hl (h a (b - 1) (by omega) (by omega))
omit O
noncomputable def bZ {α:Type} (n:Nat) (c:Nat->Nat->Bool) (R:α->Prop):KasT α->Prop
 | .ret a=>R a
 | .ask i j k=>i < n/\j < n/\bZ n c R (k (c i j))
theorem bZ.mono {α:Type}{n:Nat}{R R':α->Prop} (h:∀ a,R a->R' a):∀ (t:KasT α),bZ n c R t->bZ n c R' t
 | .ret a,q=>h a q
 | .ask i j k,q=>⟨q.1,q.2.1,bZ.mono h (k (c i j)) q.2.2⟩
theorem bZ.bind {α β:Type}{n:Nat}{R:α->Prop}{R':β->Prop}{f:α->KasT β} (h:∀ a,R a->bZ n c R' (f a)):∀ (t:KasT α),bZ n c R t->bZ n c R' (t.bind f)
 | .ret a,q=>h a q
 | .ask i j k,q=>⟨q.1,q.2.1,bZ.bind h (k (c i j)) q.2.2⟩
theorem bZ.run {α:Type}{n:Nat}{R:α->Prop}{I:Shared->Prop}{cmp:Nat->Nat->(Bool->Shared->Prop)->Shared->Prop}{Q:α->Shared->Prop}
  (hc:∀ i j C s,i < n->j < n->I s->(∀ s',I s'->C (c i j) s')->cmp i j C s) (hQ:∀ a s,R a->I s->Q a s):∀ (t:KasT α) (s:Shared),I s->bZ n c R t->t.kasWp cmp Q s
 | .ret a,s,hI,q=>hQ a s q hI
 | .ask i j k,s,hI,q=>hc i j _ s q.1 q.2.1 hI fun s' hI'=>bZ.run hc hQ (k (c i j)) s' hI' q.2.2
include O
theorem vQ {n:Nat}{p:Array Nat} (hp:PP n p):∀ (f m:Nat),1<=m->m+f<=n->fZ c p m->bZ n c (fun r=>m<=r/\r<=m+f/\fZ c p r/\(r < m+f->c (G p r) (G p (r - 1))=true)) (kas_asc p f m)
 | 0,m,_,_,h=>⟨bh0 _,bh0 _,h,fun z=>absurd z (bm0 _)⟩
 | f+1,m,h1,h2,h=>by
  refine⟨hp.lt (by omega),hp.lt (by omega),?_⟩
  by_cases hc:c (p.getD m 0) (p.getD (m - 1) 0)=true
  ·simp only [hc,if_true]
   exact⟨bh0 _,by omega,h,fun _=>hc⟩
  ·have hc':c (p.getD m 0) (p.getD (m - 1) 0)=false:=bt0.mpr hc
   simp only [hc',bj2,bn0]
   refine bZ.mono (fun r q=>⟨by omega,by omega,q.2.2.1,fun z=>q.2.2.2 (by omega)⟩) _ (vQ hp f (m+1) (by omega) (by omega) (aw9 O h h1 hc'))
omit O
noncomputable def lB (c:Nat->Nat->Bool) (i j:Nat):Prop:=Le c i j/\Le c j i
include O
theorem vR {p q:Array Nat}{n:Nat} (h:k7 c p n) (e:∀ k,k < n->lB c (G q k) (G p k)):k7 c q n:=fun a b hab hb=>
 le_trans O (e b hb).1 (le_trans O (h a b hab hb) (e a (by omega)).2)
theorem L8 {n m i:Nat}{p:Array Nat} (hp:PP n p) (hm:m<=n) (h:∀ a,i<=a->a < m->lB c (G p a) (G p (m - 1))):∀ k,lB c (G (kas_rev p i m) k) (G p k):=fun k=>by
 rw [vP (by rw [hp.size]; exact hm)]
 by_cases hk:i<=k/\k < m
 ·rw [if_pos hk]
  have h1:=h (i+m - 1 - k) (by omega) (by omega)
  have h2:=h k hk.1 hk.2
  exact⟨le_trans O h1.1 h2.2,le_trans O h2.1 h1.2⟩
 ·rw [if_neg hk]; exact⟨le_refl O _,le_refl O _⟩
omit O
noncomputable def DI (c:Nat->Nat->Bool) (n:Nat) (p:Array Nat) (m q:Nat):Prop:=PP n p/\1<=m/\m<=n/\k7 c p m/\q+1<=m/\∀ a,m - (q+1)<=a->a < m->lB c (G p a) (G p (m - 1))
include O
theorem L9 {n m q:Nat}{p:Array Nat} (h:DI c n p m q):PP n (kas_rev p (m - (q+1)) m)/\∀ k,lB c (G (kas_rev p (m - (q+1)) m) k) (G p k):=
 ⟨h.1.rev _ _,L8 O h.1 h.2.2.1 h.2.2.2.2.2⟩
theorem r9 {n:Nat}:∀ (f:Nat) (p:Array Nat) (m q:Nat),m+f<=n->DI c n p m q->bZ n c (fun r=>DI c n r.1 r.2.1 r.2.2) (kas_desc f p m q)
 | 0,p,m,q,_,h=>h
 | f+1,p,m,q,hf,h=>by
  have hp:=h.1
  have h1:=h.2.1
  refine⟨hp.lt (by omega),hp.lt (by omega),?_⟩
  by_cases hc:c (p.getD m 0) (p.getD (m - 1) 0)=true
  ·simp only [hc,if_true]
   have dn:k7 c p (m+1):=r6 O h.2.2.2.1 h1 (qZ O hc)
   by_cases hq:q > 0
   ·simp only [hq,if_true]
    obtain ⟨pr,er⟩:=L9 O h
    refine r9 f _ (m+1) 0 (by omega) ⟨pr,by omega,by omega,vR O dn fun k _=>er k,by omega,fun a h1 h2=>?_⟩
    have e:a=m+1 - 1:=by omega
    rw [e]; exact⟨le_refl O _,le_refl O _⟩
   ·simp only [hq,bn0]
    refine r9 f p (m+1) 0 (by omega) ⟨hp,by omega,by omega,dn,by omega,fun a h1 h2=>?_⟩
    have e:a=m+1 - 1:=by omega
    rw [e]; exact⟨le_refl O _,le_refl O _⟩
  ·have hc':c (p.getD m 0) (p.getD (m - 1) 0)=false:=bt0.mpr hc
   simp only [hc',bj2,bn0]
   refine⟨hp.lt (by omega),hp.lt (by omega),?_⟩
   by_cases hd:c (p.getD (m - 1) 0) (p.getD m 0)=true
   ·simp only [hd,if_true]
    exact h
   ·have hd':c (p.getD (m - 1) 0) (p.getD m 0)=false:=bt0.mpr hd
    simp only [hd',bj2,bn0]
    have ee:lB c (G p (m - 1)) (G p m):=⟨hc',hd'⟩
    refine r9 f p (m+1) (q+1) (by omega) ⟨hp,by omega,by omega,r6 O h.2.2.2.1 h1 ee.2,by have:=h.2.2.2.2.1; omega,fun a h1 h2=>?_⟩
    rw [Nat.add_sub_cancel]
    by_cases ha:a=m
    ·rw [ha]; exact⟨le_refl O _,le_refl O _⟩
    ·have z:=h.2.2.2.2.2 a (by omega) (by omega)
     exact⟨le_trans O z.1 ee.1,le_trans O ee.2 z.2⟩
omit O
noncomputable def CI (c:Nat->Nat->Bool) (n:Nat) (r:Nat × Array Nat):Prop:=PP n r.2/\1<=r.1/\r.1<=n/\fZ c r.2 r.1
include O
theorem M0 {n m:Nat}{p:Array Nat} (hp:PP n p) (h1:1<=m) (hm:m<=n) (h:k7 c p m):bZ n c (CI c n) (kas_tail3 m n p):=by
 have ha:fZ c (kas_rev p 0 m) m:=fun a b hab hb=>by
  rw [vP (by rw [hp.size]; exact hm),vP (by rw [hp.size]; exact hm),if_pos ⟨bk7 _,by omega⟩,if_pos ⟨bk7 _,hb⟩]
  exact h _ _ (by omega) (by omega)
 refine bZ.bind (R:=fun r=>m<=r/\r<=m+(n - m)/\fZ c (kas_rev p 0 m) r/\_) (fun r q=>?_) _ (vQ O (hp.rev 0 m) (n - m) m h1 (by omega) ha)
 exact⟨hp.rev _ _,by have:=q.1; omega,by have:=q.2.1; omega,q.2.2.1⟩
theorem M1 {n m:Nat}{p:Array Nat} (hp:PP n p) (h1:1<=m) (hm:m+1<=n) (h:k7 c p (m+1)):bZ n c (CI c n) (kas_descPart m n p):=by
 refine bZ.bind (R:=fun r=>DI c n r.1 r.2.1 r.2.2) (fun r q=>?_) _ (r9 O (n - (m+1)) p (m+1) 0 (by omega) ⟨hp,by omega,hm,h,by omega,fun a h1 h2=>?_⟩)
 ·by_cases hq:r.2.2 > 0
  ·rw [if_pos hq]
   obtain ⟨pr,er⟩:=L9 O q
   exact M0 O pr q.2.1 q.2.2.1 (vR O q.2.2.2.1 fun k _=>er k)
  ·rw [if_neg hq]
   exact M0 O q.1 q.2.1 q.2.2.1 q.2.2.2.1
 ·have e:a=m+1 - 1:=by omega
  rw [e]; exact⟨le_refl O _,le_refl O _⟩
theorem ax0 {n:Nat}{p:Array Nat} (hp:PP n p) (hn:1<=n):bZ n c (CI c n) (kas_count n p):=by
 have a1:fZ c p 1:=fun a b hab hb=>by
  have e1:a=0:=by omega
  have e2:b=0:=by omega
  rw [e1,e2]; exact le_refl O _
 refine bZ.bind (R:=fun r=>1<=r/\r<=1+(n - 1)/\fZ c p r/\(r < 1+(n - 1)->c (G p r) (G p (r - 1))=true)) (fun m q=>?_) _ (vQ O hp (n - 1) 1 (bh0 _) (by omega) a1)
 obtain ⟨q1,q2,q3,q4⟩:=q
 by_cases hm:(m == n)=true
 ·rw [if_pos hm]
  exact⟨hp,q1,by omega,q3⟩
 ·rw [if_neg hm]
  have hne:m ≠ n:=by simpa using hm
  have hc:=q4 (by omega)
  by_cases h1:m > 1
  ·rw [if_pos h1]
   refine⟨hp.lt (by omega),hp.lt (by omega),?_⟩
   by_cases hd:c (p.getD 0 0) (p.getD (m - 1) 0)=true
   ·simp only [hd,if_true]
    exact⟨hp,q1,by omega,q3⟩
   ·have hd':c (p.getD 0 0) (p.getD (m - 1) 0)=false:=bt0.mpr hd
    simp only [hd',bj2,bn0]
    have eq:∀ a,0<=a->a < m->lB c (G p a) (G p (m - 1)):=fun a _ ha=>⟨q3 a (m - 1) (by omega) (by omega),le_trans O hd' (q3 0 a (bk7 _) ha)⟩
    have er:=L8 O hp (by omega:m<=n) eq
    refine M1 O (hp.rev 0 m) q1 (by omega) (vR O (p:=p) ?_ fun k _=>er k)
    refine r6 O (fun a b hab hb=>?_) q1 (qZ O hc)
    exact le_trans O (eq b (bk7 _) hb).1 (eq a (bk7 _) (by omega)).2
  ·rw [if_neg h1]
   have e:m=1:=by omega
   subst e
   refine M1 O hp (bh0 _) (by omega) (r6 O (fun a b hab hb=>?_) (bh0 _) (qZ O hc))
   have e1:a=0:=by omega
   have e2:b=0:=by omega
   rw [e1,e2]; exact le_refl O _
theorem vS {n k:Nat}{p:Array Nat} (hp:PP n p) (hk:k < n) (ha:fZ c p k):∀ (f l r:Nat),l<=r->r<=k->r - l<=f->(∀ a,a < l->Le c (G p a) (G p k))->(∀ a,r<=a->a < k->Le c (G p k) (G p a))->
  bZ n c (fun l=>l<=k/\(∀ a,a < l->Le c (G p a) (G p k))/\∀ a,l<=a->a < k->Le c (G p k) (G p a)) (kas_place p k f l r)
 | 0,l,r,h1,h2,h3,hl,hr=>⟨by omega,hl,fun a h4 h5=>hr a (by omega) h5⟩
 | f+1,l,r,h1,h2,h3,hl,hr=>by
  unfold kas_place
  by_cases hlr:l >= r
  ·rw [if_pos hlr]
   exact⟨by omega,hl,fun a h4 h5=>hr a (by omega) h5⟩
  ·rw [if_neg hlr]
   refine⟨hp.lt hk,hp.lt (by omega),?_⟩
   by_cases hc:c (p.getD k 0) (p.getD ((l+r) / 2) 0)=true
   ·simp only [hc,if_true]
    exact vS hp hk ha f l ((l+r) / 2) (by omega) (by omega) (by omega) hl fun a h4 h5=>le_trans O (qZ O hc) (ha _ _ h4 h5)
   ·have hc':c (p.getD k 0) (p.getD ((l+r) / 2) 0)=false:=bt0.mpr hc
    simp only [hc',bj2,bn0]
    exact vS hp hk ha f ((l+r) / 2+1) r (by omega) h2 (by omega) (fun a h4=>le_trans O (ha a ((l+r) / 2) (by omega) (by omega)) hc') hr
theorem M3 {n:Nat}:∀ (f:Nat) (p:Array Nat) (k:Nat),PP n p->k+f<=n->fZ c p k->bZ n c (fun q=>PP n q/\fZ c q (k+f)) (kas_bin f p k)
 | 0,p,k,hp,_,h=>⟨hp,h⟩
 | f+1,p,k,hp,hk,h=>by
  refine bZ.bind (R:=fun l=>l<=k/\(∀ a,a < l->Le c (G p a) (G p k))/\∀ a,l<=a->a < k->Le c (G p k) (G p a)) (fun l q=>?_) _ (vS O hp (by omega) h k 0 k (bk7 _) (bh0 _) (by omega) (fun a z=>absurd z (Nat.not_lt_zero _)) fun a h1 h2=>absurd h2 (by omega))
  obtain ⟨q1,q2,q3⟩:=q
  have e:∀ a,G (bubble p k (k - l)) a=if a=l then G p k else if l < a/\a<=k then G p (a - 1) else G p a:=fun a=>by
   rw [aw8 (by rw [hp.size]; omega) (by omega),show k - (k - l)=l by omega]
  refine bZ.mono (fun r z=>⟨z.1,by rw [show k+(f+1)=k+1+f by omega]; exact z.2⟩) _ (M3 f _ (k+1) (hp.bub _ _) (by omega) fun a b hab hb=>?_)
  rw [e,e]
  by_cases ha:a=l
  ·rw [if_pos ha]
   by_cases hb':b=l
   ·rw [if_pos hb']; exact le_refl O _
   ·rw [if_neg hb',if_pos (by omega)]; exact q3 _ (by omega) (by omega)
  ·rw [if_neg ha]
   by_cases ha2:l < a/\a<=k
   ·rw [if_pos ha2,if_neg (by omega),if_pos (by omega)]
    exact h _ _ (by omega) (by omega)
   ·rw [if_neg ha2]
    by_cases hb':b=l
    ·rw [if_pos hb']; exact q2 a (by omega)
    ·rw [if_neg hb']
     by_cases hb2:l < b/\b<=k
     ·rw [if_pos hb2]; exact h _ _ (by omega) (by omega)
     ·rw [if_neg hb2]; exact h _ _ hab (by omega)
theorem M4 {n:Nat} (hn:1<=n):bZ n c (fun q=>PP n q/\fZ c q n) (kas_sort n):=by
 have hp:PP n (List.toArray (List.range n)):=by unfold PP; simp
 refine bZ.bind (R:=CI c n) (fun r q=>?_) _ (ax0 O hp hn)
 obtain ⟨q1,q2,q3,q4⟩:=q
 by_cases h:r.1 < n
 ·rw [if_pos h]
  have e:max r.1 1=r.1:=by omega
  rw [e]
  exact bZ.mono (fun p z=>⟨z.1,by rw [show r.1+(n - r.1)=n by omega] at z; exact z.2⟩) _ (M3 O (n - r.1) r.2 r.1 q1 (by omega) q4)
 ·rw [if_neg h]
  have e:r.1=n:=by omega
  exact⟨q1,by rw [e] at q4; exact q4⟩
end
end Srt
namespace L2
open PySem PySem.Spec PyProof.Rows
theorem bT.there {P:Program}{w:World}{H:Hp}{h:Heap}{a:Addr}{o:HO} (x:bT P w H h a o):∃ u,h.get? a=some u:=by
 cases o with
 | lst xs=>obtain ⟨_,_,_,_,e⟩:=x; exact⟨_,e⟩
 | tup xs=>obtain ⟨_,_,_,⟨o,e,_⟩,_⟩:=x; exact⟨_,e⟩
 | dK kvs=>obtain ⟨_,_,_,_,o,_,_,e,_⟩:=x; exact⟨_,e⟩
 | dT kvs=>obtain ⟨_,_,_,_,o,_,_,e,_⟩:=x; exact⟨_,e⟩
 | set S n=>obtain ⟨o,_,_,_,e,_⟩:=x; exact⟨_,e⟩
 | ins C dx fs=>obtain ⟨_,_,_,e,_⟩:=x; exact⟨_,e⟩
 | own y=>exact x
 | xd fs=>obtain ⟨_,⟨_,_,_,e,_⟩,_⟩:=x; exact⟨_,e⟩
 | rng lo hi=>obtain ⟨_,_,_,e⟩:=x; exact⟨_,e⟩
 | frz ob u=>obtain ⟨e,_⟩:=x; exact⟨_,e⟩
 | tbl ps=>exact⟨_,(show h.get? a=some _ from x)⟩
 | met f y=>exact⟨_,(show h.get? a=some _ from x)⟩
 | ext φ=>obtain ⟨_,z,_⟩:=x; exact z
section
variable {X : Cx} {pins : List (Addr × Obj)} {σ : St} {H : Hp} {s : Shared} {h' : Heap} {a : Addr} {o : HO} {t' : Nat}
theorem a6.laidF (I:a6 X pins σ H s) (hn:s.heap.get? a=none) (k:∀ b u,b ≠ X.env.locals->s.heap.get? b=some u->h'.get? b=some u) (ns:∀ m,s.heap.Ns X.env.locals m->h'.Ns X.env.locals m)
  (new:bT X.prog X.w (upd H a o) h' a o):H a=none/\a6 X pins σ (upd H a o) { s with heap:=h',toks:=t' }:=by
 have hHn:H a=none:=by
  cases q:H a with
  | none=>rfl
  | some u=>obtain ⟨z,e⟩:=(I.hok a u q).there; rw [hn] at e; cases e
 have ne:∀ b u,s.heap.get? b=some u->b ≠ a:=fun b u e z=>by rw [z,hn] at e; cases e
 have hL:=I.free
 refine⟨hHn,I.step (g':=s.gens) (d':=s.drawn) (ch:=[]) (fun _ z=>nomatch z) (fun b o' h1 _ _ e _=>k b o' h1 e) (fun b o' h1 _ _ e _=>⟨o'.slots,k b o' h1 e⟩) (fun b o' _ e n=>by rw [aW (ne b o' e)]; exact n) (fun b o' _ e=>?_)
  (fun b xs q=>by rw [aW (dP q hHn)]; exact q) (fun b u xs q=>by rw [aW (dP q hHn)]; exact q) (fun b ps q=>⟨#[],by rw [aW (dP q hHn),q]; simp⟩) ns (fun b u q=>?_) I.bare⟩
 ·by_cases hb:b=X.env.locals
  ·obtain ⟨m,hm,_⟩:=I.loc
   obtain ⟨o2,_,_,e2,_⟩:=ns m hm
   exact⟨o2,by rw [hb]; exact e2⟩
  ·exact⟨o',k b o' hb e⟩
 ·by_cases hb:b=a
  ·subst hb; rw [bK] at q; cases q; exact new
  ·rw [aW hb] at q
   refine (I.hok b u q).stay (fun c v hc e=>k c v ?_ e) (fun c e=>by rw [aW (dP e hHn)]; exact e) fun c xs e=>by rw [aW (dP e hHn)]; exact e
   rcases hc with z | z
   ·rw [z]; intro y; rw [y,hL] at q; cases q
   ·intro y; rw [y,hL] at z; cases z
theorem a6.newsAll (I:a6 X pins σ H s) {news:List (Addr × Obj)}{m:Str->Option Value} (hs:∀ p ∈ o0 X.base s.heap X.env.locals,p ∈ news) (F:Fr X.base X.env.locals h' m) (N:News X.base X.env.locals h' news) :
  ∀ b o,b ≠ X.env.locals->s.heap.get? b=some o->h'.get? b=some o:=fun b o h1 e=>by
 cases q:X.base.get? b with
 | some u=>
  have:=I.bk b u q
  rw [e] at this; cases this
  exact F.keep b _ q
 | none=>exact (N (b,o) (hs _ (u8 h1 q e))).1
end
theorem M5 {α:Type}{d:α} (l:List α) {p:List Nat} (h:p.Perm (List.range l.length)):(p.map fun i=>l.getD i d).Perm l:=by
 have e:(List.range l.length).map (fun i=>l.getD i d)=l:=by
  apply List.ext_getElem
  ·simp
  ·intro i h1 h2
   simp at h1
   simp [h1]
 have:=h.map fun i=>l.getD i d
 rw [e] at this
 exact this
theorem mM:∀ {xs:List V}{us:List Value} (i:Nat),i < xs.length->aM xs us->aV (xs.getD i .non) (us.getD i Value.none)
 | _,_,_,h,.nil=>by simp at h
 | _,_,0,_,.cons r _=>by simpa using r
 | _,_,i+1,h,.cons _ t=>by
  have:=mM i (by simpa using h) t
  simpa using this
theorem vT {xs:List V}{us:List Value} (r:aM xs us):∀ {p:List Nat},(∀ i ∈ p,i < xs.length)->aM (p.map fun i=>xs.getD i .non) (p.map fun i=>us.getD i Value.none)
 | [],_=>.nil
 | i :: p,h=>.cons (mM i (h i bh2) r) (vT r fun j hj=>h j (bh8 _ hj))
theorem vU {α:Type}:∀ l:List α,(l.zip l).map (·.2)=l
 | []=>rfl
 | a :: l=>by
  show a :: ((l.zip l).map (·.2))=a :: l
  rw [vU l]
theorem M6 {prog:Program}{w:World}{A:Around}{E:Value->Shared->Prop}{s:Shared}{a:Addr}{vs:List Value}{n:Nat}{P:PySem.Fin->Shared->Prop} (e:s.heap.get? a=some (seqObj "list" vs.toArray n)) (few:vs.length < 2)
  (q:P (.done (.ret .none)) { s with heap:=sortedHeap s.heap a vs vs.toArray }):wpAny (model prog w) A (Builtin.«list.sort» ⟨[.ref a],[]⟩) P E s:=by
 have big:vs.length<=sizeLine:=bl4 (bl7 few) (by decide)
 have la:=bi5 e
 have c:vs.toArray.size < 2:=by simpa using few
 have same:(arrOf (SortSt.mk' general' (vs.toArray.zip vs.toArray) #[] 7 none)).map (·.2)=vs.toArray:=by
  change (vs.toArray.zip vs.toArray).map (·.2)=vs.toArray
  apply Array.ext'
  simpa using vU vs
 obtain ⟨k,ek⟩:∃ k,(s.heap.update a (Obj.mapSeq fun _=>#[])).get? a=some (seqObj "list" #[] k):=⟨_,get?_update_seq e fun _=>#[]⟩
 have there:(((s.heap.update a (Obj.mapSeq fun _=>#[])).push (seqObj "tuple" vs.toArray 0)).push (seqObj "list" #[] 0)).get? a=some (seqObj "list" #[] k):=
  bg4 _ (bg4 _ ek)
 rw [list_sort_plain]
 apply bg3
 apply listItems_at e rfl
 apply bg3
 refine listUpdate_at e rfl ?_ (by simpa using big) (bk7 _)
 apply bg3
 apply seqEpoch_at ek rfl
 apply bg3
 refine wpAny_newTuple ?_ big
 apply bg3
 refine bw8 ?_ (bk7 _)
 apply bp2
 simp only [c,if_true,StateT.run_pure]
 apply bg3
 apply bh4
 apply bg3
 apply bh4
 apply bg3
 apply seqEpoch_at there rfl
 apply bg3
 refine listUpdate_at there rfl ?_ (bk7 _) (by rw [same,bg5]; exact Nat.le_succ_of_le big)
 rw [same]
 simp only [bne_self_eq_false,bj2,bn0]
 exact bh4 q
theorem M7 {prog:Program}{w:World}{A:Around}{E:Value->Shared->Prop}{s:Shared}{l:Addr}{vs:List Value}{Q:Value->Shared->Prop} (hl:s.heap.IsList l vs.toArray) (few:vs.length < 2)
  (q:Q (.ref (s.heap.objs.size+1)) { s with heap:=sortedAll s.heap vs vs.toArray }):wpAny (model prog w) A (call (.builtin "sorted") [.ref l]) Q E s:=by
 have big:vs.length<=sizeLine:=bl4 (bl7 few) (by decide)
 apply bt4 kind_sorted plain_sorted entry_sorted (args_sorted1 _)
 simp only [Builtin.«sorted»]
 apply bg3 (m:=checkCount "sorted" 1 1 _)
 apply bh4
 apply bg3
 refine collect_list hl ?_ big
 apply bg3
 refine bw8 ?_ big
 have one:((s.heap.push (seqObj "list" #[] 0)).update s.heap.objs.size (Obj.mapSeq (· ++ vs.toArray))).objs.size=s.heap.objs.size+1:=(Heap.size_update _ _ _).trans (size_push' _ _)
 have at1:(((s.heap.push (seqObj "list" #[] 0)).update s.heap.objs.size (Obj.mapSeq (· ++ vs.toArray))).push (seqObj "list" vs.toArray 0)).get? (s.heap.objs.size+1)=some (seqObj "list" vs.toArray 0):=one ▸ bi6 _ rfl
 change wpAny _ _ _ _ _ { s with heap:=((s.heap.push (seqObj "list" #[] 0)).update s.heap.objs.size (Obj.mapSeq (· ++ vs.toArray))).push (seqObj "list" vs.toArray 0) }
 rw [one]
 apply bg3
 apply bp2
 refine bn8 slot_list_sort ⟨_,at1,rfl⟩ entry_list_sort ?_ (args_list_sort _)
 refine M6 at1 few ⟨_,rfl,?_⟩
 exact bh4 ⟨_,rfl,q⟩
theorem vV:∀ {a b:List Int},HT.dA a b=true->HT.dA b a=false
 | [],[],h=>by cases h
 | [],_ :: _,_=>rfl
 | _ :: _,[],h=>by cases h
 | x :: xs,y :: ys,h=>by
  rw [HT.kZ] at h ⊢
  by_cases e:x=y
  ·rw [if_pos e] at h; rw [if_pos e.symm]; exact vV h
  ·rw [if_neg e] at h; rw [if_neg (Ne.symm e)]
   have:=bo1 h
   exact bh5 (by omega)
theorem vW:∀ {a b c:List Int},HT.dA a b=false->HT.dA b c=false->HT.dA a c=false
 | [],[],c,_,h=>h
 | [],_ :: _,_,h,_=>by cases h
 | _ :: _,[],[],_,_=>rfl
 | _ :: _,[],_ :: _,_,h=>by cases h
 | _ :: _,_ :: _,[],_,_=>rfl
 | x :: xs,y :: ys,z :: zs,h1,h2=>by
  rw [HT.kZ] at h1 h2 ⊢
  by_cases e1:x=y
  ·rw [if_pos e1] at h1
   by_cases e2:y=z
   ·rw [if_pos e2] at h2; rw [if_pos (e1.trans e2)]; exact vW h1 h2
   ·rw [if_neg e2] at h2; rw [if_neg (by rw [e1]; exact e2)]; rw [e1]; exact h2
  ·rw [if_neg e1] at h1
   have k1:=of_decide_eq_false h1
   by_cases e2:y=z
   ·rw [<- e2,if_neg e1]; exact h1
   ·rw [if_neg e2] at h2
    have k2:=of_decide_eq_false h2
    rw [if_neg (by omega)]
    exact bh5 (by omega)
section
variable {prog : Program} {w : World} {A : Around} {s : Shared} {Q : Bool → Shared → Prop}
theorem rA:∀ {us ws:List Value}{xs ys:List Int} (i:Nat),IntsAre us xs->IntsAre ws ys->Q (HT.dA xs ys) s->PySem.W.KatLex prog w A true (decide (us.length < ws.length)) Q (us.zip ws) i s
 | _,_,_,_,_,.nil,.nil,h=>h
 | _,_,_,_,_,.nil,.cons _ _ _,h=>h
 | _,_,_,_,_,.cons _ _ _,.nil,h=>h
 | _,_,_,_,i,.cons (vs:=us) x t hx,.cons (vs:=ws) y u hy,h=>by
  refine PySem.W.kat_cons (wpAny_eqBool_int ?_)
  rw [HT.kZ] at h
  by_cases e:x=y
  ·rw [if_pos e] at h
   have eb:(x == y)=true:=by simpa using e
   rw [eb]
   refine PySem.W.kat_yes ?_
   have e2:decide ((Value.int x t :: us).length < (Value.int y u :: ws).length)=decide (us.length < ws.length):=by simp
   rw [e2]
   exact rA (i+1) hx hy h
  ·rw [if_neg e] at h
   have eb:(x == y)=false:=by simpa using e
   rw [eb]
   refine PySem.W.kat_no ?_
   cases hi:(true && i == 0) with
   | true=>exact PySem.W.kat_lt_int h
   | false=>exact PySem.W.kat_one _ _ (lt_int h)
end
noncomputable def M8 (K:PySem.W.Frag):List V->Hp->VK->Prop:=fun xs H Q=>∃ (a:Addr) (ys:List V) (key:V->List Int),xs = [.ref a]/\aN K H a ys/\ys.length < 64/\(∀ y ∈ ys,∃ b,y = .ref b/\aJ K H b ((key y).map V.int)/\key y ≠ [])/\
 ∀ l (zs:List V),H l=none->zs.Perm ys->zs.Pairwise (fun u v=>HT.dA (key v) (key u)=false)->Q (.ref l) (upd H l (.lst zs))
theorem M9 {c:Nat->Nat->Bool}{R:V->V->Prop}{ys:List V}{p:Array Nat}{n:Nat} (hp:Srt.PP n p) (ha:Srt.fZ c p n) (hR:∀ i j,Srt.Le c i j->R (ys.getD i .non) (ys.getD j .non)) :
  (p.toList.map fun i=>ys.getD i .non).Pairwise R:=by
 rw [bp4,bn5]
 intro i j hi hj hij
 have hs:=hp.size
 have h1:i < n:=by rw [<- hs]; simpa using hi
 have h2:j < n:=by rw [<- hs]; simpa using hj
 have q:=ha i j (bl7 hij) h2
 have e:∀ k (hk:k < p.toList.length),Srt.G p k=p.toList[k]:=fun k hk=>by
  have hk':k < p.size:=by simpa using hk
  unfold Srt.G; rw [bv2]; simp [hk']
 rw [e i hi,e j hj] at q
 exact hR _ _ q
theorem ax1 {X:Cx}:dI X (.builtin "sorted") (M8 X.K):=by
 intro pins s σ H xs us Q I r h
 obtain ⟨a,ys,key,rfl,hs,h64,hk,q⟩:=h
 obtain ⟨u,rfl,ru⟩:=j8 r
 cases ru
 obtain ⟨its,rv,p,hz⟩:=I.list hs
 have hl:=rv.length
 by_cases h2:its.length < 2
 ·
  refine M7 p.isList h2 ?_
  obtain ⟨e,he⟩:=sortedAll_at s.heap its its.toArray
  have hn:s.heap.objs.size<=s.heap.objs.size+1:=Nat.le_succ _
  refine⟨.ref (s.heap.objs.size+1),upd H (s.heap.objs.size+1) (.lst ys),I.laid (t':=s.toks) (fun _ _=>sortedAll_old) hn ⟨hz,its,e,rv,he⟩,rfl,q _ ys (I.hok.fresh hn) (List.Perm.refl _) ?_⟩
  match ys,hl with
  | [],_=>exact bq6
  | [_],_=>exact bj8 _ _
  | _ :: _ :: _,hl=>simp at hl; omega
 ·obtain ⟨m,F⟩:=I.fr
  have hL:∀ {b:Addr}{k:List Int},aJ X.K H b (k.map V.int)->b ≠ X.env.locals:=fun {b k} z e=>by
   obtain ⟨its',_,⟨ob,e1,c1,_⟩,_⟩:=I.tuple z
   obtain ⟨m',⟨o',es',ep',e2,d2,_⟩,_⟩:=I.loc
   rcases z with (z | ⟨_,z⟩) | ⟨o3,its3,n3,z3,zc,zd,_⟩
   ·rw [e,I.free] at z; cases z
   ·rw [e,I.free] at z; cases z
   ·have:=I.kIn b o3 z3
    rw [e,e2] at this
    cases this
    rw [d2] at zd; cases zd
  refine PySem.W.kat_sorted F (zU (g:=X.base) (h:=s.heap) (L:=X.env.locals)) p.isList (by omega) (by omega) fun D e1 h' F' N' hD=>?_
  have keep:=I.newsAll (fun p hp=>bh8 _ hp) F' N'
  have look:∀ i,i < ys.length->∃ (b:Addr) (ob:Obj) (us:List Value) (n:Nat),its.getD i Value.none = .ref b/\h'.get? b=some ob/\ob.cls = .type "tuple"/\ob.data = .seq us.toArray n/\IntsAre us (key (ys.getD i .non))/\key (ys.getD i .non) ≠ []:=fun i hi=>by
   have hy:ys.getD i .non ∈ ys:=by
    rw [bh7,bg7 hi]; exact bq0 hi
   obtain ⟨b,eb,sq,ne⟩:=hk _ hy
   have rr:=mM i hi rv
   rw [eb] at rr
   have rr:its.getD i Value.none = .ref b:=rr
   obtain ⟨us,ru,⟨ob,e1,c1,n1,d1⟩,_⟩:=I.tuple sq
   exact⟨b,ob,us,n1,rr,keep b ob (hL sq) e1,c1,d1,mH ru,ne⟩
  have firsts:∀ {xs:List V}{vs:List Value},aM xs vs->(∀ y ∈ xs,∃ b,y = .ref b/\aJ X.K H b ((key y).map V.int)/\key y ≠ [])->∃ fs:List Value,PySem.W.KatTups h' vs fs/\fs.length=vs.length/\∀ v ∈ fs,∃ i t,v=Value.int i t:=by
   intro xs vs r
   induction r with
   | nil=>intro _; exact⟨[],PySem.W.KatTups.nil,rfl,fun _ z=>nomatch z⟩
   | @cons x v xs vs rx rt ih=>
    intro hh
    obtain ⟨fs,t1,t2,t3⟩:=ih fun y hy=>hh y (bh8 _ hy)
    obtain ⟨b,eb,sq,ne⟩:=hh x bh2
    subst eb
    cases rx
    obtain ⟨us,ru,⟨ob,e1,c1,n1,d1⟩,_⟩:=I.tuple sq
    have ia:=mH ru
    generalize key (V.ref b)=kk at ia ne
    cases ia with
    | nil=>exact absurd rfl ne
    | @cons n t vs0 ns0 ht=>
     exact⟨Value.int n t :: fs,PySem.W.KatTups.cons (keep b ob (hL sq) e1) c1 d1 (by simp) t1,by simp [t2],fun v hv=>(bi0.mp hv).elim (fun z=>⟨n,t,z⟩) (t3 v)⟩
  obtain ⟨fs,t1,t2,t3⟩:=firsts rv hk
  refine PySem.W.kat_kind (T:=.type "int") t1 (by omega) (fun v hv=>?_) (by decide) ?_
  ·obtain ⟨i,t,rfl⟩:=t3 v hv
   exact PySem.W.Looks.now
  let c:Nat->Nat->Bool:=fun i j=>HT.dA (key (ys.getD i .non)) (key (ys.getD j .non))
  have O:Srt.qY c:=⟨fun h=>vV h,fun h1 h2=>vW h1 h2⟩
  have ok:=Srt.M4 (n:=its.length) O (by omega)
  refine Srt.bZ.run (I:=fun s'=>s'={ s with heap:=h' }) (fun i j C s' hi hj hI hC=>?_) (fun pa s' hR hI=>?_) _ _ rfl ok
  ·subst hI
   obtain ⟨b1,o1,u1,n1,g1,g2,_,g4,g5,_⟩:=look i (by omega)
   obtain ⟨b2,o2,u2,n2,k1,k2,_,k4,k5,_⟩:=look j (by omega)
   show wpAny _ _ (keyLt' (tuples' (Value.type "int" != Value.type "tuple")) (its.getD i Value.none) (its.getD j Value.none)) _ _ _
   rw [g1,k1]
   have eT:(Value.type "int" != Value.type "tuple")=true:=by decide
   rw [eT]
   refine PySem.W.kat_lt g2 g4 k2 k4 ?_
   have:=rA (prog:=X.prog) (w:=X.w) (A:=X.A.in1.in1) (s:={ s with heap:=h' }) (Q:=C) 0 g5 k5 (hC _ rfl)
   simpa using this
  ·subst hI
   obtain ⟨hp,hasc⟩:=hR
   refine PySem.W.KasFin.intro F' N' (PySem.W.UpdF.head fun p hp=>bk6 (hD p hp)) fun h2 cc F2 N2=>?_
   have keep2:=I.newsAll (fun p hp=>bh8 _ hp) F2 N2
   have hDn:s.heap.get? D=none:=by
    cases z:s.heap.get? D with
    | none=>rfl
    | some o=>
     obtain ⟨_,n1,n2⟩:=N2 (D,_) bh2
     exact absurd (hD _ (u8 n1 n2 z)) (bm0 _)
   have hpl:∀ i ∈ pa.toList,i < ys.length:=fun i hi=>by
    have:=bu2.mp (hp.mem_iff.mp hi); omega
   have hp':pa.toList.Perm (List.range ys.length):=by rw [hl]; exact hp
   have pm:=M5 (d:=V.non) ys hp'
   obtain ⟨hDo,hDL,hDb⟩:=N2 (D,_) bh2
   obtain ⟨hHD,I2⟩:=I.laidF (t':=s.toks) (a:=D) (o:=.lst (pa.toList.map fun i=>ys.getD i .non)) hDn keep2 (fun m' hm'=>by
     have e:m'=m:=funext fun nm=>Heap.Ns.agree hm' F.ns nm
     rw [e]; exact F2.ns) ⟨by rw [pm.length_eq]; exact hz,_,cc,vT rv hpl,hDo⟩
   exact⟨.ref D,_,I2,rfl,q D _ hHD pm (M9 hp hasc fun i j hle=>hle)⟩
end L2
namespace Raw
open PySem PySem.W PySem.Calls PyProof.Rows
noncomputable def gZ (h:Heap) (d:Addr) (es:Array DictEntry) (ep:Nat):Prop:=∃ o,h.get? d=some o/\o.ExactDict/\o.data = .dict es ep
theorem gZ.ty {s:Shared}{d:Addr}{es:Array DictEntry}{ep:Nat} (x:gZ s.heap d es ep):s.TypeIs (.ref d) "dict":=x.elim fun o y=>⟨o,y.1,y.2.1.1⟩
theorem gZ.lt {h:Heap}{d:Addr}{es:Array DictEntry}{ep:Nat} (x:gZ h d es ep):d < h.objs.size:=x.elim fun _ y=>bi5 y.1
theorem gZ.keep {h h':Heap}{d:Addr}{es:Array DictEntry}{ep:Nat} (x:gZ h d es ep) (k:∀ o,h.get? d=some o->h'.get? d=some o):gZ h' d es ep:=x.elim fun o y=>⟨o,k o y.1,y.2⟩
section
variable {prog : Program} {w : World} {A : Around} {E : Value → Shared → Prop} {s : Shared} {d it : Addr} {es : Array DictEntry} {ep i : Nat}
theorem made (far:(d == sysModules)=false) (x:gZ s.heap d es ep) {Q:Value->Shared->Prop}
  (q:Q (.ref s.heap.objs.size) { s with heap:=s.heap.push { cls:=.type "dict_keyiterator",data:=.fields #[.ref d,.int 0 0,.int es.size 0,.int ep 0] } }):wpAny (model prog w) A (pyIter (.ref d)) Q E s:=by
 have T:=x.ty
 obtain ⟨o,e1,e2,e3⟩:=x
 apply wpAny_pyIter_slot T PySem.F.slot_dict_iter
 apply bn8 PySem.F.slot_dict_iter T PySem.F.entry_dict_iter _ (PySem.F.args_dict_iter_1 _)
 simp only [Builtin.«dict.__iter__»,Builtin.Dict.dictSlotNone]
 apply bg3
 apply bg3
 apply wpAny_notOrdered_dict T
 apply bh4
 change wpAny _ _ (Builtin.Dict.showsAll d >>= _) _ _ s
 have far':Builtin.Dict.showsAll d=pure ():=by
  unfold Builtin.Dict.showsAll
  simp only [far,bj2,bn0]
 rw [far',pure_bind]
 apply bg3
 apply wpAny_dictEntries e1 e3
 apply bg3
 apply wpAny_dictEpoch e1 e3
 apply bg3
 refine bp3 (bh4 ?_)
 refine⟨.ref s.heap.objs.size,rfl,"dict_keyiterator",_,⟨_,bi6 _ rfl,rfl⟩,PySem.F.slot_dict_keyiterator_next.lookup,?_⟩
 simpa only [rawInt] using q
theorem turn (hh:A.handled=none) (hi:s.heap.IsKeyIter it d i es.size ep) (x:gZ s.heap d es ep) {Q:Option Value->Shared->Prop}
  (yes:∀ (lt:i < es.size) h',h'.IsKeyIter it d (i+1) es.size ep->Heap.SameBut it s.heap h'->Q (some es[i].key) { s with heap:=h' })
  (no:es.size<=i->∀ h',Heap.ExtBut it s.heap h'->Q none { s with heap:=h' }):wpAny (model prog w) A (pyNext (.ref it)) Q E s:=by
 have T:=hi.typeIs
 obtain ⟨oi,f1,f2,f3⟩:=hi
 obtain ⟨o,e1,e2,e3⟩:=x
 have slot:=PySem.F.slot_dict_keyiterator_next
 have plain:Builtin.Dict_items.ownsTuple "dict_keyiterator" = false:=by decide
 have isref:(Value.ref d == Value.none)=false:=rfl
 have nn : ¬ (i:Int) < 0:=by omega
 unfold pyNext
 apply bg3
 apply wpAny_attempt
 apply bq8 (name:=Str.ofString "__next__") T slot
 apply bn8 slot T PySem.F.entry_dict_keyiterator_next _ (PySem.F.args_dict_keyiterator_next_1 _)
 apply bg3
 apply bh4
 apply bg3
 apply bg3
 apply bg3
 first
  | apply wpAny_typeNameOfWhole_keyiter T
  | apply wpAny_typeNameOf_keyiter T
 apply bh4
 apply bg3
 apply wpAny_fieldsOf f1 f3
 simp only [plain,bj2,bn0]
 change wpAny _ _ (if (Value.ref d == Value.none)=true then _ else _) _ _ s
 have adr:Builtin.Dict_items.addrOf (Value.ref d)=pure d:=rfl
 simp only [isref,bj2,bn0,adr,pure_bind]
 apply bg3
 apply wpAny_dictEntries e1 e3
 simp only [bne_self_eq_false,bj2,bn0]
 apply bg3
 apply wpAny_dictEpoch e1 e3
 simp only [bne_self_eq_false,bj2,bn0]
 apply bh4
 simp only [nn,bn0,bk1]
 by_cases lt:i < es.size
 ·simp only [Array.getElem?_eq_getElem lt]
  apply bg3
  apply bg3
  first
   | apply wpAny_typeNameOfWhole_keyiter T
   | apply wpAny_typeNameOf_keyiter T
  apply bh4
  apply bg3
  apply wpAny_isOneOf_keyiter T
  change wpAny _ _ (setField (.ref it) 1 (rawInt ((i:Int)+1)) >>= _) _ _ s
  apply bg3
  refine wpAny_setField f1 f3 (by simp) ?_
  have again:(s.heap.update it (Obj.mapFields (·.setIfInBounds 1 (rawInt ((i:Int)+1))))).IsKeyIter it d (i+1) es.size ep:=by
   refine⟨_,Heap.get?_update_self _ f1 (Obj.isFreed_of_fields (Obj.data_mapFields f3 _)),?_,?_⟩
   ·rw [Obj.cls_mapFields]; exact f2
   ·rw [Obj.data_mapFields f3]; simp [rawInt]
  apply bg3
  apply bp2
  apply bg3
  refine wpAny_isOneOf_keyiter (s:={ s with heap:=s.heap.update it (Obj.mapFields (·.setIfInBounds 1 (rawInt ((i:Int)+1)))) }) again.typeIs ?_
  change wpAny _ _ (pure es[i].key) _ _ _
  apply bh4
  apply bh4
  exact⟨es[i].key,rfl,bh4 (yes lt _ again (Heap.SameBut.update ..))⟩
 ·have ge:es.size<=i:=bv4 lt
  simp only [Array.getElem?_eq_none ge]
  apply bg3
  apply bg3
  first
   | apply wpAny_typeNameOfWhole_keyiter T
   | apply wpAny_typeNameOf_keyiter T
  apply bh4
  change wpAny _ _ (setField (.ref it) 0 .none >>= _) _ _ s
  apply bg3
  refine wpAny_setField f1 f3 (by simp) ?_
  apply bg3
  simp only [newExc,newTuple]
  apply bg3
  refine bp3 ?_ (by size_fits)
  apply bg3
  refine wpAny_of_eq (a:=Value.none) (by first | rfl | (simp only [firstArgMember]; rfl)) ?_
  refine bp3 ?_ (by size_fits)
  unfold raiseNew
  apply bg3
  apply wpAny_handled
  have quiet:A.in1.handled=none:=hh
  rw [quiet]
  refine wpAny_throw ?_
  apply bg3
  refine wpAny_isInstance (T:="StopIteration") (b:=true) ⟨_,bi6 _ rfl,rfl⟩ isSubtype_stop ?_
  exact bh4 (no ge _ (((Heap.SameBut.update ..).extBut.push _).push _))
theorem ax2 (hh:A.handled=none) (ne:d ≠ it):Walks prog w A it [it,d] [it] es.size (fun i v=>∃ lt:i < es.size,es[i].key=v) (fun i h=>h.IsKeyIter it d i es.size ep/\gZ h d es ep) where
 sub:=by intro b hb; rw [bg6.mp hb]; exact bh2
 frame:=by
  intro i h h' st hk
  exact⟨st.1.at (hk it bh2),st.2.keep (hk d (bh8 _ bh2))⟩
 item:=by
  intro i s Q E lt st hQ
  refine turn hh st.1 st.2 (fun lt' h' again sb=>?_) fun ge=>absurd lt (Nat.not_lt.mpr ge)
  exact hQ _ h' s.toks ⟨lt',rfl⟩ ⟨again,st.2.keep fun o e=>sb.extBut d o ne e⟩ fun b o hb e=>sb.extBut b o (fun z=>hb (bg6.mpr z)) e
 done:=by
  intro s Q E st hQ
  refine turn hh st.1 st.2 (fun lt=>absurd lt (bm0 _)) fun _ h' eb=>?_
  exact hQ h' s.toks fun b o hb e=>eb b o (fun z=>hb (bg6.mpr z)) e
 self:=by intro i s Q E st hQ; exact wpAny_pyIter_keyiter st.1 hQ
theorem ax3 (far:(d == sysModules)=false):KdlSrc prog w "dict" d d es.size (fun i v=>∃ lt:i < es.size,es[i].key=v) (fun h=>gZ h d es ep) where
 type:=fun _ x=>x.ty
 there:=fun _ x=>⟨x.lt,x.lt⟩
 keep:=fun _ _ x k=>x.keep (k d (.inl rfl))
 notList:=by decide
 notTuple:=by decide
 hint:=fun _ _ _ _ x q=>kdl_hint_dict x.ty q
 iter:=fun _ _ hh x=>⟨_,_,fun _ _ q=>made far x q,ax2 hh (bk6 x.lt),⟨_,bi6 _ rfl,rfl,rfl⟩,x.keep fun o e=>bg4 _ e⟩
end
end Raw
namespace L2
open PySem PySem.Spec PyProof.Rows
section
variable {X : Cx} {pins : List (Addr × Obj)} {σ : St} {H : Hp} {s : Shared} {a : Addr}
theorem ax4 {kvs:List (aI × V)} (I:a6 X pins σ H s) (h:H a=some (.dK kvs)):∃ es ep,Raw.gZ s.heap a es ep/\(a == sysModules)=false/\aM (kvs.map fun p=>kV p.1) (es.toList.map (·.key))/\kvs.length<=sizeLine:=by
 obtain ⟨z,far,vs,rel,o,es,ep,e1,e2,e3,kk,pr,nd⟩:=(show bT X.prog X.w H s.heap a (.dK kvs) from I.hok a _ h)
 refine⟨es,ep,⟨o,e1,e2,e3⟩,far,?_,z⟩
 clear z far e1 e2 e3 kk nd h
 generalize es.toList=l at pr
 induction pr generalizing kvs with
 | nil=>cases rel; exact .nil
 | @cons e k es' kvs' h1 h2 _ ih=>
  cases rel with
  | @cons p q ps qs r rs=>
   refine .cons ?_ (ih rs)
   obtain ⟨r1,_⟩:=r
   show aV (kV p.1) e.key
   rw [r1]
   rcases iP h1 with ⟨n,t,e4,e5⟩ | ⟨x,t,e4,e5⟩
   ·rw [e4,e5]; exact⟨t,rfl⟩
   ·rw [e4,e5]; exact⟨t,rfl⟩
theorem ax5 {es:Array DictEntry}{acc:Array Value} (h:ItemsOf (fun i v=>∃ lt:i < es.size,es[i].key=v) acc es.size):acc.toList=es.toList.map (·.key):=by
 apply List.ext_getElem?
 intro j
 have h1:=h.1
 by_cases hj:j < es.size
 ·have hj':j < acc.size:=by rw [h1]; exact hj
  obtain ⟨_,e⟩:=h.2 j acc[j] (by simp [hj'])
  rw [bh9]
  simp [hj,hj',e]
 ·have hj' : ¬ j < acc.size:=by rw [h1]; exact hj
  rw [bh9]
  simp [bv4 hj,bv4 hj']
end
section
variable {X : Cx}
theorem ax6:dI X (.builtin "isinstance") (fun xs H Q=>∃ x t n b,xs = [x,.ty n]/\fX X.K H x t/\PySem.W.kitOne X.K t (.type n)=some b/\Q (.bl b) H):=by
 intro pins s σ H xs us Q I r h
 obtain ⟨x,t,n,b,rfl,ty,e,q⟩:=h
 obtain ⟨u,u',rfl,ru,ru'⟩:=oB r
 cases ru'
 exact aq8 I ru ty e fun tk=>⟨.bl b,H,I.tok tk,rfl,q⟩
end
noncomputable def N0 (outer:List (Str × NameKind)) (XN:List Str) (names:List (Str × NameKind)) (N:List Str) (fr:List (Option Nat)):Bool:=
 names.all (fun y=>!(y.2 == .cell) || names.lookup y.1 == some .cell) && names.all (fun y=>!(y.2 == .local) || names.lookup y.1 == some .local) &&
 names.all (fun y=>!(y.2 == .free) || (outer.lookup y.1 == some .cell || outer.lookup y.1 == some .free)) && fr.length == N.length &&
 (fr.zip N).all (fun p=>match p.1 with
  | none=>true
  | some j=>XN[j]? == some p.2 && names.lookup p.2 == some .free)
theorem cV.of {X:Cx}{scope:Scope}{N:List Str}{fr:List (Option Nat)} (hk:scope.kind = .function) (h:N0 X.env.scope.names X.N scope.names N fr=true):cV X scope N fr:=by
 unfold N0 at h
 simp only [bl6] at h
 obtain ⟨⟨⟨⟨h1,h2⟩,h3⟩,h4⟩,h5⟩:=h
 refine⟨hk,fun y hy e=>?_,fun y hy e=>?_,fun y hy e=>?_,by simpa using h4,fun i j e=>?_⟩
 ·have:=br5.mp h1 y hy
  rw [e] at this; simpa using this
 ·have:=br5.mp h2 y hy
  rw [e] at this; simpa using this
 ·have:=br5.mp h3 y hy
  rw [e] at this; simpa using this
 ·have hl:fr.length=N.length:=by simpa using h4
  have hi:i < fr.length:=(bh3.mp e).1
  have m:(some j,N[i]'(by omega)) ∈ fr.zip N:=by
   have:(fr.zip N)[i]? = some (some j,N[i]'(by omega)):=by
    rw [List.getElem?_zip_eq_some]
    exact⟨e,by simp⟩
   exact bg9 this
  have:=br5.mp h5 _ m
  simp only [bl6,beq_iff_eq] at this
  exact⟨N[i]'(by omega),by simp,this.1,this.2⟩
theorem N1 {n:Option V}{r:St}{v:V}:Wk (none :: r) (some v :: r):=(Wk.refl (none :: r)).set (i:=0) rfl
noncomputable def oO (H:Hp) (ys:List V) (ls:List (Int × Int)):Prop:=Paired (fun y l=>∃ b,y = .ref b/\H b=some (.tup [.int l.1,.int l.2])) ys ls
structure N3 (H:Hp) (v:V) (ws:List Int) (ls:List (Int × Int)):Prop where
 at_:∃ a p q ys,v = .ref a/\H a=some (.tup [.ref p,.ref q])/\H p=some (.tup (ws.map V.int))/\H q=some (.tup ys)/\oO H ys ls
theorem oO.get {H:Hp}:∀ {ys:List V}{ls:List (Int × Int)}{i:Nat}{y:V},oO H ys ls->ys[i]? = some y->∃ l b,ls[i]? = some l/\y = .ref b/\H b=some (.tup [.int l.1,.int l.2])
 | _,_,_,_,.nil,e=>by simp at e
 | _,_,0,_,.cons (b:=l) ⟨b,h1,h2⟩ _,e=>by simp at e; subst e; exact⟨l,b,rfl,h1,h2⟩
 | _,_,i+1,_,.cons _ t,e=>by
  obtain ⟨l,b,h1,h2⟩:=oO.get (i:=i) t (by simpa using e)
  exact⟨l,b,by simpa using h1,h2⟩
noncomputable def aR (ls:List (Int × Int)) (k:Int):List Int:=ls.flatMap fun l=>(if l.1=k then [l.2] else []) ++ (if l.2=k then [l.1] else [])
theorem ax7 (ls:List (Int × Int)) (l:Int × Int) (k:Int):aR (ls ++ [l]) k=aR ls k ++ ((if l.1=k then [l.2] else []) ++ (if l.2=k then [l.1] else [])):=by
 unfold aR; rw [List.flatMap_append]; simp
theorem N4 {ls:List (Int × Int)}{i:Nat}{l:Int × Int} (h:ls[i]? = some l) (k:Int):aR (ls.take (i+1)) k=aR (ls.take i) k ++ ((if l.1=k then [l.2] else []) ++ (if l.2=k then [l.1] else [])):=by
 rw [bo2,h]; exact ax7 _ _ _
structure iD (H H':Hp) (r:Addr) (bs:List Addr) (f:Nat->List Int):Prop where
 new:H r=none
 news:∀ b ∈ bs,H b=none/\b ≠ r
 nd:bs.Nodup
 row:H' r=some (.lst (bs.map V.ref))
 rows:∀ (k:Nat) (b:Addr),bs[k]? = some b->H' b=some (.lst ((f k).map V.int))
 same:aA H H'
theorem iD.congr {H H':Hp}{r:Addr}{bs:List Addr}{f g:Nat->List Int} (h:iD H H' r bs f) (e:∀ k,k < bs.length->f k=g k):iD H H' r bs g:=
 ⟨h.new,h.news,h.nd,h.row,fun k b hb=>by rw [<- e k (bh3.mp hb).1]; exact h.rows k b hb,h.same⟩
theorem iD.app {H H':Hp}{r:Addr}{bs:List Addr}{f:Nat->List Int} (h:iD H H' r bs f) {k:Nat}{b:Addr} (hb:bs[k]? = some b) (x:Int) :
  iD H (upd H' b (.lst ((f k).map V.int ++ [V.int x]))) r bs (fun j=>if j=k then f j ++ [x] else f j):=by
 have hm:b ∈ bs:=bg9 hb
 refine⟨h.new,h.news,h.nd,by rw [aW (Ne.symm (h.news b hm).2)]; exact h.row,fun j c hc=>?_,fun c o e=>by rw [aW (dP e (h.news b hm).1)]; exact h.same c o e⟩
 by_cases hj:j=k
 ·subst hj
  rw [hb] at hc; cases hc
  rw [bK,if_pos rfl]; simp
 ·rw [if_neg hj]
  have ne:c ≠ b:=fun z=>by
   subst z
   obtain ⟨i1,e1⟩:=bh3.mp hb
   obtain ⟨i2,e2⟩:=bh3.mp hc
   refine hj (Nat.le_antisymm (bv4 fun z=>?_) (bv4 fun z=>?_))
   ·exact bn5.mp h.nd _ _ i1 i2 z (e1.trans e2.symm)
   ·exact bn5.mp h.nd _ _ i2 i1 z (e2.trans e1.symm)
  rw [aW ne]; exact h.rows j c hc
theorem rB (ls:List (Int × Int)) (k:Int):(aR ls k).length<=2 * ls.length:=by
 induction ls with
 | nil=>exact bh0 _
 | cons l r ih=>
  have e:aR (l :: r) k=((if l.1=k then [l.2] else []) ++ (if l.2=k then [l.1] else [])) ++ aR r k:=rfl
  rw [e,bi4,bi4,bj5]
  have h1:(if l.1=k then [l.2] else []).length<=1:=by split <;> simp
  have h2:(if l.2=k then [l.1] else []).length<=1:=by split <;> simp
  omega
theorem mO {α:Type}{xs:List α}{i:Int}{v:α} (h0:0<=i) (h:xs[i.toNat]? = some v):atI xs i=some v:=by
 have:=l8 h
 rwa [show ((i.toNat:Nat):Int)=i by omega] at this
theorem hG {n:Nat} (h:n<=16000000):n < sizeLine:=by rw [sizeLine_eq]; omega
theorem oP {σ:St}{H:Hp}{A B:Hp->Prop} (h:A H):vJ σ H fun b H4=>if b=true then A H4 else B H4:=by
 show if true=true then A H else B H
 rw [if_pos rfl]; exact h
theorem k8 {K:PySem.W.Frag}{H:Hp}{p:Addr}{xs:List V} (h:aN K H p xs):gX K "list" (.ref p) H:=.inl ⟨rfl,xs,h⟩
theorem vX {l:Int × Int}{k x:Int}:x ∈ (if l.1=k then [l.2] else []) ++ (if l.2=k then [l.1] else []) ↔ (l.1=k/\x=l.2) ∨ (l.2=k/\x=l.1):=by
 rw [bh6]
 by_cases h1:l.1=k <;> by_cases h2:l.2=k <;> simp [h1,h2]
theorem cJ {ls:List (Int × Int)}{k x:Int}:x ∈ aR ls k ↔ (k,x) ∈ ls ∨ (x,k) ∈ ls:=by
 unfold aR
 rw [List.mem_flatMap]
 constructor
 ·rintro ⟨l,hl,hx⟩
  rcases vX.mp hx with ⟨h1,h2⟩ | ⟨h1,h2⟩
  ·left; rw [<- h1,h2]; exact hl
  ·right; rw [<- h1,h2]; exact hl
 ·rintro (h | h)
  ·exact⟨_,h,vX.mpr (.inl ⟨rfl,rfl⟩)⟩
  ·exact⟨_,h,vX.mpr (.inr ⟨rfl,rfl⟩)⟩
theorem jG {ls:List (Int × Int)}{k x:Int} (h:x ∈ aR ls k):k ∈ aR ls x:=cJ.mpr (cJ.mp h).symm
end L2
namespace Zp
open PySem PyProof.Rows
section
variable {prog : Program} {w : World} {A : Around} {E : Value → Shared → Prop} {s : Shared}
theorem ax8 {it t:Addr}{i:Nat}{items:Array Value}{x:Value}{Q:Value->Shared->Prop} (hi:s.heap.IsTupleIter it t i) (ht:s.heap.IsTuple t items) (hx:items[i]? = some x)
  (q:∀ h',h'.IsTupleIter it t (i+1)->Heap.SameBut it s.heap h'->Q x { s with heap:=h' }):wpAny (model prog w) A (Builtin.SmallTypes.nextOf (.ref it)) Q E s:=by
 have T:=hi.typeIs
 obtain ⟨o,e1,e2,e3⟩:=hi
 obtain ⟨u,f1,_,k,f3⟩:=ht
 have slot:=PySem.F.slot_tuple_iterator_next
 have isref:(Value.ref t == Value.none)=false:=rfl
 unfold Builtin.SmallTypes.nextOf
 apply bg3
 apply bq8 (name:=Str.ofString "__next__") T slot
 apply bn8 slot T PySem.F.entry_tuple_iterator_next _ (PySem.F.args_tuple_iterator_next_1 _)
 change wpAny _ _ (field (.ref it) 0 >>= _) _ _ s
 apply bg3
 refine br8 e1 e3 (x:=.ref t) rfl ?_
 change wpAny _ _ (if (Value.ref t == Value.none)=true then _ else _) _ _ s
 simp only [isref,bj2,bn0]
 change wpAny _ _ (field (.ref it) 1 >>= _) _ _ s
 apply bg3
 refine br8 e1 e3 (x:=.int i 0) rfl ?_
 change wpAny _ _ (seqItems? (.ref t) >>= _) _ _ s
 apply bg3
 apply bv7 f1 f3
 simp only [bk1,hx]
 apply bg3
 refine wpAny_setField e1 e3 (by simp) ?_
 apply bh4
 refine⟨x,rfl,bh4 (q _ ⟨_,Heap.get?_update_self _ e1 (Obj.isFreed_of_fields (Obj.data_mapFields e3 _)),?_,?_⟩ (Heap.SameBut.update ..))⟩
 ·rw [Obj.cls_mapFields]; exact e2
 ·rw [Obj.data_mapFields e3]; simp [rawInt]
theorem ax9 {it t:Addr}{i:Nat}{items:Array Value}{Q:Value->Shared->Prop} (hh:A.handled=none) (hi:s.heap.IsTupleIter it t i) (ht:s.heap.IsTuple t items) (hx:items[i]? = none)
  (q:∀ h' e,Heap.ExtBut it s.heap h'->(∃ o,h'.get? e=some o/\o.cls = .type "StopIteration")->E (.ref e) { s with heap:=h' }):wpAny (model prog w) A (Builtin.SmallTypes.nextOf (.ref it)) Q E s:=by
 have T:=hi.typeIs
 obtain ⟨o,e1,e2,e3⟩:=hi
 obtain ⟨u,f1,_,k,f3⟩:=ht
 have slot:=PySem.F.slot_tuple_iterator_next
 have isref:(Value.ref t == Value.none)=false:=rfl
 unfold Builtin.SmallTypes.nextOf
 apply bg3
 apply bq8 (name:=Str.ofString "__next__") T slot
 apply bn8 slot T PySem.F.entry_tuple_iterator_next _ (PySem.F.args_tuple_iterator_next_1 _)
 change wpAny _ _ (field (.ref it) 0 >>= _) _ _ s
 apply bg3
 refine br8 e1 e3 (x:=.ref t) rfl ?_
 change wpAny _ _ (if (Value.ref t == Value.none)=true then _ else _) _ _ s
 simp only [isref,bj2,bn0]
 change wpAny _ _ (field (.ref it) 1 >>= _) _ _ s
 apply bg3
 refine br8 e1 e3 (x:=.int i 0) rfl ?_
 change wpAny _ _ (seqItems? (.ref t) >>= _) _ _ s
 apply bg3
 apply bv7 f1 f3
 simp only [bk1,hx]
 apply bg3
 apply bx3
 apply bg3
 refine wpAny_setField e1 e3 (by simp) ?_
 apply bg3
 simp only [newExc,newTuple]
 apply bg3
 refine bp3 ?_ (by size_fits)
 apply bg3
 refine wpAny_of_eq (a:=Value.none) (by first | rfl | (simp only [firstArgMember]; rfl)) ?_
 refine bp3 ?_ (by size_fits)
 unfold raiseNew
 apply bg3
 apply wpAny_handled
 have quiet:A.in1.handled=none:=hh
 rw [quiet]
 refine wpAny_throw ?_
 exact q _ _ (((Heap.SameBut.update ..).extBut.push _).push _) ⟨_,bi6 _ rfl,rfl⟩
theorem ay0 (hh:A.handled=none) (it t:Addr) (ne:t ≠ it) (items:Array Value):Draws prog w A it [it,t] items.size (fun i v=>items[i]? = some v) (fun i h=>h.IsTupleIter it t i/\h.IsTuple t items) where
 live:=fun _ _ st=>st.1.elim fun o y=>⟨o,y.1⟩
 frame:=fun _ _ _ st k=>⟨st.1.at fun o e=>k it bh2 o e,st.2.elim fun o y=>⟨o,k t (bh8 _ bh2) o y.1,y.2⟩⟩
 item:=fun i s Q E lt st q=>ax8 st.1 st.2 (Array.getElem?_eq_getElem lt) fun h' again sb=>q _ h' s.toks (Array.getElem?_eq_getElem lt) ⟨again,st.2.elim fun o y=>⟨o,sb.extBut t o ne y.1,y.2⟩⟩ sb
 done:=fun s Q E st q=>ax9 hh st.1 st.2 (Array.getElem?_eq_none (bh0 _)) q
end
structure Ap (z TI TO i1 i2:Addr) (fp1 fp2:List Addr):Prop where
 TIz:TI ≠ z
 TOz:TO ≠ z
 TITO:TI ≠ TO
 z1:z ∉ fp1
 z2:z ∉ fp2
 o1:TO ∉ fp1
 o2:TO ∉ fp2
 t1:TI ∉ fp1
 t2:TI ∉ fp2
 m1:i1 ∈ fp1
 m2:i2 ∈ fp2
 n1:i1 ∉ fp2
 n2:i2 ∉ fp1
structure vY (z TI TO i1 i2:Addr) (St1 St2:Nat->Heap->Prop) (f0:Value) (i j:Nat) (h:Heap):Prop where
 zz:IsZip h z TI TO f0
 ti:IsPair h TI (.ref i1) (.ref i2)
 to_:∃ a b,IsPair h TO a b
 s1:St1 i h
 s2:St2 j h
section
variable {prog : Program} {w : World} {A : Around} {E : Value → Shared → Prop} {s : Shared} {z TI TO i1 i2 : Addr} {fp1 fp2 : List Addr} {n1 n2 : Nat} {P1 P2 : Nat → Value → Prop} {St1 St2 : Nat → Heap → Prop}
theorem mP (ap:Ap z TI TO i1 i2 fp1 fp2) {b:Addr} (h:b ∉ fp1):b ≠ i1:=fun e=>h (e ▸ ap.m1)
theorem rC (ap:Ap z TI TO i1 i2 fp1 fp2) {b:Addr} (h:b ∉ fp2):b ≠ i2:=fun e=>h (e ▸ ap.m2)
theorem item (D1:Draws prog w A.in1 i1 fp1 n1 P1 St1) (D2:Draws prog w A.in1 i2 fp2 n2 P2 St2) (ap:Ap z TI TO i1 i2 fp1 fp2) {i:Nat} (l1:i < n1) (l2:i < n2) (st:vY z TI TO i1 i2 St1 St2 .none i i s.heap) {Q:Option Value->Shared->Prop}
  (q:∀ x y h' tk,P1 i x->P2 i y->vY z TI TO i1 i2 St1 St2 (rawInt s.heap.objs.size) (i+1) (i+1) h'->IsPair h' s.heap.objs.size x y->(∀ c o,c ≠ z->c ≠ TO->c ≠ i1->c ≠ i2->s.heap.get? c=some o->h'.get? c=some o)->
   h'.objs.size=s.heap.objs.size+1->Q (some (.ref s.heap.objs.size)) { s with heap:=h',toks:=tk }):wpAny (model prog w) A (pyNext (.ref z)) Q E s:=by
 obtain ⟨hz,hti,⟨a,b,hto⟩,h1,h2⟩:=st
 have T:s.TypeIs (.ref z) "zip":=⟨_,hz,rfl⟩
 have slot:=PySem.F.slot_zip_next
 unfold pyNext
 apply bg3
 apply wpAny_attempt
 apply bq8 (name:=Str.ofString "__next__") T slot
 apply bn8 slot T PySem.F.entry_zip_next _ (PySem.F.args_zip_next_1 _)
 change wpAny _ _ (field (.ref z) 2 >>= _) _ _ _
 apply bg3
 refine br8 hz rfl (x:=.bool false) rfl ?_
 change wpAny _ _ (field (.ref z) 3 >>= _) _ _ _
 apply bg3
 refine br8 hz rfl (x:=.ref TI) rfl ?_
 apply bg3
 apply bv7 hti rfl
 change wpAny _ _ (Builtin.SmallTypes.ownedTupleIsFree (.ref z) >>= _) _ _ _
 apply bg3
 unfold Builtin.SmallTypes.ownedTupleIsFree
 apply bg3
 refine br8 hz rfl (x:=.none) rfl (bh4 ?_)
 simp only [if_true]
 apply bg3
 apply bx3
 apply bg3
 refine br8 hz rfl (x:=.ref TO) rfl ?_
 apply bg3
 refine bv8 hz (by simp) fun g1 hz1 sb1=>?_
 have k1:∀ c o,c ≠ z->s.heap.get? c=some o->g1.get? c=some o:=fun c o c1 e=>sb1.extBut c o c1 e
 apply bg3
 simp only [List.zipIdx_cons,List.zipIdx_nil,List.forIn_cons,List.forIn_nil]
 apply bg3
 apply bg3
 apply wpAny_onRaise
 change wpAny _ _ (Builtin.SmallTypes.nextOf (.ref i1) >>= _) _ _ _
 apply bg3
 refine D1.item i { s with heap:=g1 } _ _ l1 (D1.frame _ _ _ h1 fun c hc o e=>k1 c o (fun y=>ap.z1 (y ▸ hc)) e) fun x g2 tk2 px st1 sb2=>bh4 ?_
 have k2:∀ c o,c ≠ z->c ≠ i1->s.heap.get? c=some o->g2.get? c=some o:=fun c o c1 c2 e=>sb2.extBut c o c2 (k1 c o c1 e)
 have to2:IsPair g2 TO a b:=k2 _ _ ap.TOz (mP ap ap.o1) hto
 apply bg3
 apply bv7 to2 rfl
 apply bg3
 refine wpAny_updateSeq_pair to2 fun g3 to3 sb3=>?_
 have to3:IsPair g3 TO x b:=to3
 apply bg3
 apply wpAny_letGo
 apply bh4
 apply bg3
 apply bg3
 apply wpAny_onRaise
 change wpAny _ _ (Builtin.SmallTypes.nextOf (.ref i2) >>= _) _ _ _
 apply bg3
 have k3:∀ c o,c ≠ z->c ≠ i1->c ≠ TO->s.heap.get? c=some o->g3.get? c=some o:=fun c o c1 c2 c3 e=>sb3.extBut c o c3 (k2 c o c1 c2 e)
 refine D2.item i { s with heap:=g3,toks:=tk2 } _ _ l2 (D2.frame _ _ _ h2 fun c hc o e=>k3 c o (fun y=>ap.z2 (y ▸ hc)) (fun y=>ap.n1 (y ▸ hc)) (fun y=>ap.o2 (y ▸ hc)) e) fun y g4 tk4 py st2 sb4=>bh4 ?_
 have to4:IsPair g4 TO x b:=sb4.extBut _ _ (rC ap ap.o2) to3
 apply bg3
 apply bv7 to4 rfl
 apply bg3
 refine wpAny_updateSeq_pair to4 fun g5 to5 sb5=>?_
 have to5:IsPair g5 TO x y:=to5
 apply bg3
 apply wpAny_letGo
 apply bh4
 apply bh4
 apply bg3
 apply bv7 to5 rfl
 apply bg3
 refine wpAny_newTuple ?_ (by show 2<=sizeLine; decide)
 have size:g5.objs.size=s.heap.objs.size:=by rw [sb5.1,sb4.1,sb3.1,sb2.1,sb1.1]
 have k5:∀ c o,c ≠ z->c ≠ TO->c ≠ i1->c ≠ i2->s.heap.get? c=some o->g5.get? c=some o:=fun c o c1 c2 c3 c4 e=>sb5.extBut c o c2 (sb4.extBut c o c4 (k3 c o c1 c3 c2 e))
 have z5:IsZip g5 z TI TO .ellipsis:=sb5.extBut _ _ (Ne.symm ap.TOz) (sb4.extBut _ _ (rC ap ap.z2) (sb3.extBut _ _ (Ne.symm ap.TOz) (sb2.extBut _ _ (mP ap ap.z1) hz1)))
 change wpAny _ _ (Builtin.SmallTypes.ownedTupleHandOut (.ref z) (.ref g5.objs.size) >>= _) _ _ _
 apply bg3
 unfold Builtin.SmallTypes.ownedTupleHandOut
 apply bg3
 have z6:IsZip (g5.push { cls:=.type "tuple",data:=.seq #[x,y] }) z TI TO .ellipsis:=bg4 _ z5
 refine bv8 z6 (by simp) fun g7 z7 sb7=>?_
 have z7:IsZip g7 z TI TO (rawInt g5.objs.size):=z7
 refine bv8 z7 (by simp) fun g8 z8 sb8=>?_
 have z8:IsZip g8 z TI TO (rawInt g5.objs.size):=z8
 have zlt:z < g5.objs.size:=bi5 z5
 have up:∀ c o,c ≠ z->g5.get? c=some o->g8.get? c=some o:=fun c o c1 e=>sb8.extBut c o c1 (sb7.extBut c o c1 (bg4 _ e))
 have p8:IsPair g8 g5.objs.size x y:=sb8.extBut _ _ (br3 zlt) (sb7.extBut _ _ (br3 zlt) (bi6 _ rfl))
 have s8:g8.objs.size=g5.objs.size+1:=by rw [sb8.1,sb7.1,bx0]
 have f1:St1 (i+1) g8:=D1.frame _ _ _ st1 fun c hc o e=>up c o (fun y=>ap.z1 (y ▸ hc)) (sb5.extBut c o (fun y=>ap.o1 (y ▸ hc)) (sb4.extBut c o (fun y=>ap.n2 (y ▸ hc)) (sb3.extBut c o (fun y=>ap.o1 (y ▸ hc)) e)))
 have f2:St2 (i+1) g8:=D2.frame _ _ _ st2 fun c hc o e=>up c o (fun y=>ap.z2 (y ▸ hc)) (sb5.extBut c o (fun y=>ap.o2 (y ▸ hc)) e)
 have ti8:IsPair g8 TI (.ref i1) (.ref i2):=up _ _ ap.TIz (k5 _ _ ap.TIz ap.TITO (mP ap ap.t1) (rC ap ap.t2) hti)
 rw [size] at z8 p8 s8
 apply bh4
 refine⟨_,rfl,bh4 ?_⟩
 change Q (some (.ref g5.objs.size)) _
 rw [size]
 exact q x y g8 tk4 px py ⟨z8,ti8,⟨x,y,up _ _ ap.TOz to5⟩,f1,f2⟩ p8 (fun c o c1 c2 c3 c4 e=>up c o c1 (k5 c o c1 c2 c3 c4 e)) s8
theorem fin (D1:Draws prog w A.in1 i1 fp1 n1 P1 St1) (D2:Draws prog w A.in1 i2 fp2 n2 P2 St2) (ap:Ap z TI TO i1 i2 fp1 fp2) {i:Nat} (le:i=n1 ∨ (i < n1/\i=n2)) (st:vY z TI TO i1 i2 St1 St2 .none i i s.heap) {Q:Option Value->Shared->Prop}
  (q:∀ h' tk,(∀ c o,c ≠ z->c ≠ TO->c ≠ i1->c ≠ i2->s.heap.get? c=some o->h'.get? c=some o)->Q none { s with heap:=h',toks:=tk }):wpAny (model prog w) A (pyNext (.ref z)) Q E s:=by
 obtain ⟨hz,hti,⟨a,b,hto⟩,h1,h2⟩:=st
 have T:s.TypeIs (.ref z) "zip":=⟨_,hz,rfl⟩
 have slot:=PySem.F.slot_zip_next
 unfold pyNext
 apply bg3
 apply wpAny_attempt
 apply bq8 (name:=Str.ofString "__next__") T slot
 apply bn8 slot T PySem.F.entry_zip_next _ (PySem.F.args_zip_next_1 _)
 change wpAny _ _ (field (.ref z) 2 >>= _) _ _ _
 apply bg3
 refine br8 hz rfl (x:=.bool false) rfl ?_
 change wpAny _ _ (field (.ref z) 3 >>= _) _ _ _
 apply bg3
 refine br8 hz rfl (x:=.ref TI) rfl ?_
 apply bg3
 apply bv7 hti rfl
 change wpAny _ _ (Builtin.SmallTypes.ownedTupleIsFree (.ref z) >>= _) _ _ _
 apply bg3
 unfold Builtin.SmallTypes.ownedTupleIsFree
 apply bg3
 refine br8 hz rfl (x:=.none) rfl (bh4 ?_)
 simp only [if_true]
 apply bg3
 apply bx3
 apply bg3
 refine br8 hz rfl (x:=.ref TO) rfl ?_
 apply bg3
 refine bv8 hz (by simp) fun g1 hz1 sb1=>?_
 have k1:∀ c o,c ≠ z->s.heap.get? c=some o->g1.get? c=some o:=fun c o c1 e=>sb1.extBut c o c1 e
 apply bg3
 simp only [List.zipIdx_cons,List.zipIdx_nil,List.forIn_cons,List.forIn_nil]
 apply bg3
 apply bg3
 apply wpAny_onRaise
 change wpAny _ _ (Builtin.SmallTypes.nextOf (.ref i1) >>= _) _ _ _
 apply bg3
 have z1:IsZip g1 z TI TO .ellipsis:=hz1
 rcases le with rfl | ⟨lt,rfl⟩
 ·refine D1.done { s with heap:=g1 } _ _ (D1.frame _ _ _ h1 fun c hc o e=>k1 c o (fun y=>ap.z1 (y ▸ hc)) e) fun g2 e eb ex=>?_
  have z2:IsZip g2 z TI TO .ellipsis:=eb _ _ (mP ap ap.z1) z1
  refine bv8 z2 (by simp) fun g3 z3 sb3=>?_
  obtain ⟨oe,eo,co⟩:=ex
  have ne:e ≠ z:=fun y=>by
   rw [y,z2] at eo
   have:=bj9 eo
   rw [<- this] at co; exact absurd (show Value.type "zip" = Value.type "StopIteration" from co) (by decide)
  apply bg3
  refine wpAny_isInstance (T:="StopIteration") (b:=true) ⟨oe,sb3.extBut _ _ ne eo,co⟩ isSubtype_stop ?_
  exact bh4 (q g3 s.toks fun c o c1 _ c3 _ e=>sb3.extBut c o c1 (eb c o c3 (k1 c o c1 e)))
 ·refine D1.item i { s with heap:=g1 } _ _ lt (D1.frame _ _ _ h1 fun c hc o e=>k1 c o (fun y=>ap.z1 (y ▸ hc)) e) fun x g2 tk2 px st1 sb2=>bh4 ?_
  have k2:∀ c o,c ≠ z->c ≠ i1->s.heap.get? c=some o->g2.get? c=some o:=fun c o c1 c2 e=>sb2.extBut c o c2 (k1 c o c1 e)
  have to2:IsPair g2 TO a b:=k2 _ _ ap.TOz (mP ap ap.o1) hto
  apply bg3
  apply bv7 to2 rfl
  apply bg3
  refine wpAny_updateSeq_pair to2 fun g3 to3 sb3=>?_
  apply bg3
  apply wpAny_letGo
  apply bh4
  apply bg3
  apply bg3
  apply wpAny_onRaise
  change wpAny _ _ (Builtin.SmallTypes.nextOf (.ref i2) >>= _) _ _ _
  apply bg3
  have k3:∀ c o,c ≠ z->c ≠ i1->c ≠ TO->s.heap.get? c=some o->g3.get? c=some o:=fun c o c1 c2 c3 e=>sb3.extBut c o c3 (k2 c o c1 c2 e)
  refine D2.done { s with heap:=g3,toks:=tk2 } _ _ (D2.frame _ _ _ h2 fun c hc o e=>k3 c o (fun y=>ap.z2 (y ▸ hc)) (fun y=>ap.n1 (y ▸ hc)) (fun y=>ap.o2 (y ▸ hc)) e) fun g4 e eb ex=>?_
  have z4:IsZip g4 z TI TO .ellipsis:=eb _ _ (rC ap ap.z2) (sb3.extBut _ _ (Ne.symm ap.TOz) (sb2.extBut _ _ (mP ap ap.z1) z1))
  refine bv8 z4 (by simp) fun g5 z5 sb5=>?_
  obtain ⟨oe,eo,co⟩:=ex
  have ne:e ≠ z:=fun y=>by
   rw [y,z4] at eo
   have:=bj9 eo
   rw [<- this] at co; exact absurd (show Value.type "zip" = Value.type "StopIteration" from co) (by decide)
  apply bg3
  refine wpAny_isInstance (T:="StopIteration") (b:=true) ⟨oe,sb5.extBut _ _ ne eo,co⟩ isSubtype_stop ?_
  exact bh4 (q g5 tk2 fun c o c1 c2 c3 c4 e=>sb5.extBut c o c1 (eb c o c4 (k3 c o c1 c3 c2 e)))
end
noncomputable def gI (h:Heap) (t u:Addr):Heap:=
 ((((h.push { cls:=.type "tuple_iterator",data:=.fields #[.ref t,.int 0 0] }).push { cls:=.type "tuple_iterator",data:=.fields #[.ref u,.int 0 0] }).push { cls:=.type "tuple",data:=.seq #[.ref h.objs.size,.ref (h.objs.size+1)] }).push
  { cls:=.type "tuple",data:=.seq #[.none,.none] }).push { cls:=.type "zip",data:=.fields #[.none,.bool false,.bool false,.ref (h.objs.size+2),.ref (h.objs.size+3)] }
theorem ay1 (t u:Addr) (xs ys:Array Value):Meets (Builtin.«zip.__new__» ⟨[.type "zip",.ref t,.ref u],[]⟩) (fun _ R s=>s.heap.IsTuple t xs/\s.heap.IsTuple u ys/\R (.ok (.ret (.ref (s.heap.objs.size+4)))) { s with heap:=gI s.heap t u }):=
 .of_wp fun prog w A R s h=>by
  obtain ⟨hp,g,d,tk,os⟩:=s
  obtain ⟨ht,hu,h⟩:=h
  have sub:=sub_zip
  have a1:Heap.IsTuple (Shared.heap ⟨hp,g,d,tk,os⟩) t xs:=ht
  have a2:Heap.IsTuple (Shared.heap ⟨hp.push { cls:=.type "tuple_iterator",data:=.fields #[.ref t,.int 0 0] },g,d,tk,os⟩) u ys:=hu.elim fun o y=>⟨o,bg4 _ y.1,y.2⟩
  wp_walk using wpAny_pyIter_tuple a1,wpAny_pyIter_tuple a2
  have e:∀ (o:Obj) (k:Heap),(k.push o).objs.size=k.objs.size+1:=fun o k=>bx0 ..
  refine⟨_,rfl,?_⟩
  simp only [gI,e] at h ⊢
  exact h
section
variable {prog : Program} {w : World} {A : Around} {E : Value → Shared → Prop} {s : Shared}
theorem ay2 {t u:Addr}{xs ys:Array Value}{Q:Value->Shared->Prop} (ht:s.heap.IsTuple t xs) (hu:s.heap.IsTuple u ys)
  (q:∀ h',IsZip h' (s.heap.objs.size+4) (s.heap.objs.size+2) (s.heap.objs.size+3) .none->IsPair h' (s.heap.objs.size+2) (.ref s.heap.objs.size) (.ref (s.heap.objs.size+1))->
   IsPair h' (s.heap.objs.size+3) .none .none->h'.IsTupleIter s.heap.objs.size t 0->h'.IsTupleIter (s.heap.objs.size+1) u 0->(∀ c o,s.heap.get? c=some o->h'.get? c=some o)->Q (.ref (s.heap.objs.size+4)) { s with heap:=h' }) :
  wpAny (model prog w) A (call (.type "zip") [.ref t,.ref u]) Q E s:=by
 refine callType_new PySem.F.called_zip (by decide) (PySem.F.typeCall_zip_2 _ _) (PySem.F.newCall_zip_2 _ _) (fun obj=>PySem.F.args_object_init_3 obj _ _) PySem.F.entry_zip_new (ay1 t u xs ys) ⟨ht,hu,?_⟩
 have e:∀ (o:Obj) (k:Heap),(k.push o).objs.size=k.objs.size+1:=fun o k=>bx0 ..
 have p0:∀ (k:Heap) (o:Obj) (m:Nat),o.isFreed=false->m=k.objs.size->(k.push o).get? m=some o:=fun k o m f z=>by rw [z]; exact bi6 _ f
 have g0:(gI s.heap t u).get? s.heap.objs.size=some { cls:=.type "tuple_iterator",data:=.fields #[.ref t,.int 0 0] }:=by
  unfold gI
  exact bg4 _ (bg4 _ (bg4 _ (bg4 _ (p0 _ _ _ rfl rfl))))
 have g1:(gI s.heap t u).get? (s.heap.objs.size+1)=some { cls:=.type "tuple_iterator",data:=.fields #[.ref u,.int 0 0] }:=by
  unfold gI
  exact bg4 _ (bg4 _ (bg4 _ (p0 _ _ _ rfl (by simp only [e]))))
 have g2:(gI s.heap t u).get? (s.heap.objs.size+2)=some { cls:=.type "tuple",data:=.seq #[.ref s.heap.objs.size,.ref (s.heap.objs.size+1)] }:=by
  unfold gI
  exact bg4 _ (bg4 _ (p0 _ _ _ rfl (by simp only [e])))
 have g3:(gI s.heap t u).get? (s.heap.objs.size+3)=some { cls:=.type "tuple",data:=.seq #[.none,.none] }:=by
  unfold gI
  exact bg4 _ (p0 _ _ _ rfl (by simp only [e]))
 have g4:(gI s.heap t u).get? (s.heap.objs.size+4)=some { cls:=.type "zip",data:=.fields #[.none,.bool false,.bool false,.ref (s.heap.objs.size+2),.ref (s.heap.objs.size+3)] }:=by
  unfold gI
  exact p0 _ _ _ rfl (by simp only [e])
 refine⟨⟨_,g4,rfl⟩,q _ g4 g2 g3 ⟨_,g0,rfl,rfl⟩ ⟨_,g1,rfl,rfl⟩ fun c o z=>?_⟩
 unfold gI
 exact bg4 _ (bg4 _ (bg4 _ (bg4 _ (bg4 _ z))))
end
end Zp
namespace L2
open PySem PySem.Spec PyProof.Rows
noncomputable def vZ (K:PySem.W.Frag) (a b:Addr):It:=
  ⟨fun i H=>∃ xs ys x y,aJ K H a xs/\aJ K H b ys/\xs[i]? = some x/\ys[i]? = some y,
   fun i H v H'=>∃ T x y,H T=none/\v = .ref T/\H'=upd H T (.tup [x,y])/\∀ xs ys,aJ K H a xs->aJ K H b ys->xs[i]? = some x/\ys[i]? = some y,
   fun i H=>∃ xs ys,aJ K H a xs/\aJ K H b ys/\(i=xs.length ∨ (i < xs.length/\i=ys.length))⟩
noncomputable def Sq (t:Bool) (K:PySem.W.Frag) (H:Hp) (a:Addr) (xs:List V):Prop:=match t with
 | true=>aJ K H a xs
 | false=>aN K H a xs
noncomputable def gJ (t:Bool) (h:Heap) (i a:Addr) (n:Nat):Prop:=match t with
 | true=>h.IsTupleIter i a n
 | false=>h.IsListIter i a n
noncomputable def N5 (t:Bool) (h:Heap) (a:Addr) (xs:Array Value):Prop:=match t with
 | true=>h.IsTuple a xs
 | false=>h.IsList a xs
theorem gJ.at {h h':Heap}{i a:Addr}{n:Nat}:∀ {t:Bool},gJ t h i a n->(∀ o,h.get? i=some o->h'.get? i=some o)->gJ t h' i a n
 | true,x,k=>Heap.IsTupleIter.at x k
 | false,x,k=>Heap.IsListIter.at x k
theorem gJ.ob {h:Heap}{i a:Addr}{n:Nat}:∀ {t:Bool},gJ t h i a n->∃ o,h.get? i=some o/\∀ v,o.data ≠ .cell v
 | true,⟨o,f,_,d⟩=>⟨o,f,fun v q=>by rw [d] at q; cases q⟩
 | false,⟨o,f,_,d⟩=>⟨o,f,fun v q=>by rw [d] at q; cases q⟩
theorem gJ.draws {prog:Program}{w:World}{A:Around}:∀ (t:Bool) (hh:A.handled=none) (it a:Addr) (ne:a ≠ it) (items:Array Value),Draws prog w A it [it,a] items.size (fun i v=>items[i]? = some v) (fun i h=>gJ t h it a i/\N5 t h a items)
 | true,hh,it,a,ne,items=>Zp.ay0 hh it a ne items
 | false,hh,it,a,ne,items=>Draws.list hh it a ne items
section
variable {X : Cx} {pins : List (Addr × Obj)} {σ : St} {H : Hp} {s : Shared} {a : Addr} {xs ys : List V}
theorem Sq.get (I:a6 X pins σ H s):∀ {t:Bool},Sq t X.K H a xs->∃ us,aM xs us/\N5 t s.heap a us.toArray
 | true,h=>by obtain ⟨us,r,p,_⟩:=I.tuple h; exact⟨us,r,p⟩
 | false,h=>by obtain ⟨us,r,p,_⟩:=I.list h; exact⟨us,r,p.isList⟩
theorem Sq.inj (I:a6 X pins σ H s):∀ {t:Bool},Sq t X.K H a xs->Sq t X.K H a ys->xs=ys
 | true,h,g=>I.tuple_inj h g
 | false,h,g=>I.list_inj h g
theorem Sq.off (I:a6 X pins σ H s) (he:H a=none) (hb:X.base.get? a=none):∀ {t:Bool},Sq t X.K H a xs->False
 | true,h=>by
  rcases h with (h | ⟨_,h⟩) | ⟨o,_,_,h,_⟩
  ·rw [he] at h; cases h
  ·rw [he] at h; cases h
  ·have:=I.ok.mod.kin a o h
   rw [hb] at this; cases this
 | false,h=>by
  rcases h with (h | ⟨_,h⟩) | ⟨o,_,_,h,_⟩
  ·rw [he] at h; cases h
  ·rw [he] at h; cases h
  ·have:=I.ok.mod.kin a o h
   rw [hb] at this; cases this
end
noncomputable def ay3 (t1 t2:Bool) (K:PySem.W.Frag) (a b:Addr):It:=
  ⟨fun i H=>∃ xs ys x y,Sq t1 K H a xs/\Sq t2 K H b ys/\xs[i]? = some x/\ys[i]? = some y,
   fun i H v H'=>∃ T x y,H T=none/\v = .ref T/\H'=upd H T (.tup [x,y])/\∀ xs ys,Sq t1 K H a xs->Sq t2 K H b ys->xs[i]? = some x/\ys[i]? = some y,
   fun i H=>∃ xs ys,Sq t1 K H a xs/\Sq t2 K H b ys/\(i=xs.length ∨ (i < xs.length/\i=ys.length))⟩
structure w4 (t1 t2:Bool) (z TI TO i1 i2 a b:Addr) (i:Nat) (h:Heap):Prop where
 zz:IsZip h z TI TO .none
 ti:IsPair h TI (.ref i1) (.ref i2)
 to_:∃ x y,IsPair h TO x y
 s1:gJ t1 h i1 a i
 s2:gJ t2 h i2 b i
theorem N6 (t1 t2:Bool) {P:Program}{w:World}{K:PySem.W.Frag}{elts:List Expr}{k:Nat}{pos:Pos} (a b z TI TO i1 i2:Addr) (d : [z,TI,TO,i1,i2].Nodup) :
  j6 P w K (.Tuple elts k pos) (ay3 t1 t2 K a b) [z,TI,TO,i1,i2] z (w4 t1 t2 z TI TO i1 i2 a b):=by
 have nd:z ≠ TI/\z ≠ TO/\z ≠ i1/\z ≠ i2/\TI ≠ TO/\TI ≠ i1/\TI ≠ i2/\TO ≠ i1/\TO ≠ i2/\i1 ≠ i2:=by
  simp only [bo4,bi0,bk3,br1,not_or] at d
  obtain ⟨⟨a1,a2,a3,a4⟩,⟨b1,b2,b3⟩,⟨c1,c2⟩,e1,_⟩:=d
  exact⟨a1,a2,a3,a4,b1,b2,b3,c1,c2,e1⟩
 obtain ⟨n1,n2,n3,n4,n5,n6,n7,n8,n9,n10⟩:=nd
 have offBase:∀ {X:Cx}{pins:List (Addr × Obj)}{σ:St}{H:Hp}{s:Shared},a6 X pins σ H s->(∀ c ∈ [z,TI,TO,i1,i2],gV X pins H c)->∀ c ∈ [z,TI,TO,i1,i2],X.base.get? c=none:=by
  intro X pins σ H s I hf c hc
  cases q:X.base.get? c with
  | none=>rfl
  | some o=>
   rcases (hf c hc).2.2.2.1 with h | h
   ·exact absurd h (I.ok.noex c o q)
   ·exact absurd (bi2 (bi5 q) (bl4 I.ok.bsz h)) (bm0 _)
 have off:∀ {t:Bool}{X:Cx}{pins:List (Addr × Obj)}{σ:St}{H:Hp}{s:Shared}{c:Addr}{zs:List V},a6 X pins σ H s->(∀ c ∈ [z,TI,TO,i1,i2],gV X pins H c)->Sq t X.K H c zs->c ∉ [z,TI,TO,i1,i2]:=by
  intro t X pins σ H s c zs I hf hc hm
  exact Sq.off I (hf c hm).1 (offBase I hf c hm) hc
 have ap:∀ {c e:Addr},c ∉ [z,TI,TO,i1,i2]->e ∉ [z,TI,TO,i1,i2]->Zp.Ap z TI TO i1 i2 [i1,c] [i2,e]:=fun {c e} hc he=>by
  simp only [bi0,bk3,br1,not_or] at hc he
  obtain ⟨c1,c2,c3,c4,c5⟩:=hc
  obtain ⟨e1,e2,e3,e4,e5⟩:=he
  have two:∀ {q u v:Addr},q ≠ u->q ≠ v->q ∉ [u,v]:=fun {q u v} h1 h2 hm=>by
   simp only [bi0,bk3,br1] at hm
   exact hm.elim h1 h2
  exact⟨n1.symm,n2.symm,n5,two n3 (Ne.symm c1),two n4 (Ne.symm e1),two n8 (Ne.symm c3),two n9 (Ne.symm e3),two n6 (Ne.symm c2),two n7 (Ne.symm e2),bh2,bh2,two n10 (Ne.symm e4),two n10.symm (Ne.symm c5)⟩
 refine⟨by simp,fun i h st c hc=>?_,fun i h h' st kp=>?_,?_,?_,fun A i s Q E st q=>wpAny_pyIter_zip st.zz q⟩
 ·simp only [bi0,bk3,br1] at hc
  obtain ⟨x,y,to⟩:=st.to_
  rcases hc with rfl | rfl | rfl | rfl | rfl
  ·exact⟨_,st.zz,fun v q=>by cases q⟩
  ·exact⟨_,st.ti,fun v q=>by cases q⟩
  ·exact⟨_,to,fun v q=>by cases q⟩
  ·exact st.s1.ob
  ·exact st.s2.ob
 ·obtain ⟨x,y,to⟩:=st.to_
  exact⟨kp z (by simp) _ st.zz,kp TI (by simp) _ st.ti,⟨x,y,kp TO (by simp) _ to⟩,st.s1.at fun o e=>kp i1 (by simp) o e,st.s2.at fun o e=>kp i2 (by simp) o e⟩
 ·
  intro X hP hw hK hc i pins s σ H E I hf st hg
  subst hP hw hK
  obtain ⟨xs,ys,x,y,ha,hb,hx,hy⟩:=hg
  obtain ⟨us,ru,pu⟩:=Sq.get I ha
  obtain ⟨vs,rv,pv'⟩:=Sq.get I hb
  obtain ⟨ux,eux,rux⟩:=ru.get hx
  obtain ⟨vy,evy,rvy⟩:=rv.get hy
  have fa:=off I hf ha
  have fb:=off I hf hb
  have hh:X.A.in1.handled=none:=I.ok.hd hc
  have l1:i < us.toArray.size:=by simpa using (bh3.mp eux).1
  have l2:i < vs.toArray.size:=by simpa using (bh3.mp evy).1
  have fa':a ≠ i1:=fun q=>fa (by rw [q]; simp)
  have fb':b ≠ i2:=fun q=>fb (by rw [q]; simp)
  have D1:=gJ.draws t1 (prog:=X.prog) (w:=X.w) hh i1 a fa' us.toArray
  have D2:=gJ.draws t2 (prog:=X.prog) (w:=X.w) hh i2 b fb' vs.toArray
  refine Zp.item D1 D2 (ap fa fb) l1 l2 ⟨st.zz,st.ti,st.to_,⟨st.s1,pu⟩,⟨st.s2,pv'⟩⟩ fun p q h' tk hp hq st' pr kp sz=>⟨_,rfl,?_⟩
  obtain rfl:p=ux:=by
   have:us.toArray[i]? = some ux:=by simpa using eux
   rw [this] at hp; exact (bj9 hp).symm
  obtain rfl:q=vy:=by
   have:vs.toArray[i]? = some vy:=by simpa using evy
   rw [this] at hq; exact (bj9 hq).symm
  refine wpAny_letOwnedTupleGo_zip (s:={ s with heap:=h',toks:=tk }) st'.zz fun g zz sb=>?_
  have hzl:z < s.heap.objs.size:=bi5 st.zz
  have up:∀ c o,c ≠ z->c ≠ TO->c ≠ i1->c ≠ i2->s.heap.get? c=some o->g.get? c=some o:=fun c o c1 c2 c3 c4 e=>sb.extBut c o c1 (kp c o c1 c2 c3 c4 e)
  have hT:H s.heap.objs.size=none:=I.hok.fresh (bh0 _)
  have prG:IsPair g s.heap.objs.size p q:=sb.extBut _ _ (br3 hzl) pr
  have fpn:∀ c u,H c=some u->c ∉ [z,TI,TO,i1,i2]:=fun c u e hm=>by rw [(hf c hm).1] at e; cases e
  have upH:∀ c o u,H c=some u->s.heap.get? c=some o->g.get? c=some o:=fun c o u e z=>by
   have:=fpn c u e
   simp only [bi0,bk3,br1,not_or] at this
   exact up c o this.1 this.2.2.1 this.2.2.2.1 this.2.2.2.2 z
  have ns:∀ m,s.heap.Ns X.env.locals m->g.Ns X.env.locals m:=fun m hm=>by
   obtain ⟨o,es,ep,e1,e2⟩:=hm
   exact⟨o,es,ep,up _ o (Ne.symm (hf z (by simp)).2.1) (Ne.symm (hf TO (by simp)).2.1) (Ne.symm (hf i1 (by simp)).2.1) (Ne.symm (hf i2 (by simp)).2.1) e1,e2⟩
  have I2:a6 X pins σ (upd H s.heap.objs.size (.tup [x,y])) { s with heap:=g,toks:=tk }:=by
   refine I.step (g':=s.gens) (d':=s.drawn) (ch:=[z,TO,i1,i2]) (fun c hc'=>?_) (fun c o _ _ hc' e _=>?_) (fun c o _ _ hc' e _=>⟨o.slots,?_⟩) (fun c o _ e n=>?_) (fun c o hc' e=>⟨o,?_⟩)
    (fun c zs e=>by rw [aW (dP e hT)]; exact e) (fun c u zs e=>by rw [aW (dP e hT)]; exact e) (fun c ps e=>⟨#[],by rw [aW (dP e hT),e]; simp⟩) ns (fun c u e=>?_) I.bare
   ·have hm:c ∈ [z,TI,TO,i1,i2]:=by
     simp only [bi0,bk3,br1] at hc' ⊢
     rcases hc' with h | h | h | h <;> simp [h]
    exact⟨(hf c hm).2.2.2.1,(hf c hm).2.1,(hf c hm).2.2.2.2.1,(hf c hm).2.2.2.2.2⟩
   ·simp only [bi0,bk3,br1,not_or] at hc'
    exact up c o hc'.1 hc'.2.1 hc'.2.2.1 hc'.2.2.2 e
   ·simp only [bi0,bk3,br1,not_or] at hc'
    exact up c o hc'.1 hc'.2.1 hc'.2.2.1 hc'.2.2.2 e
   ·rw [aW (bk6 (bi5 e))]; exact n
   ·simp only [bi0,bk3,br1,not_or] at hc'
    exact up c o hc'.1 hc'.2.1 hc'.2.2.1 hc'.2.2.2 e
   ·by_cases hcT:c=s.heap.objs.size
    ·subst hcT
     rw [bK] at e; cases e
     exact⟨by show 2<=sizeLine; decide,[p,q],.cons rux (.cons rvy .nil),⟨_,prG,rfl,_,rfl⟩,fun u e=>by rw [prG] at e; cases e; rfl⟩
    ·rw [aW hcT] at e
     refine (I.hok c u e).stay (fun c' o' hc2 q'=>?_) (fun c' q'=>by rw [aW (dP q' hT)]; exact q') fun c' zs q'=>by rw [aW (dP q' hT)]; exact q'
     rcases hc2 with rfl | hc2
     ·exact upH _ _ _ e q'
     ·exact upH _ _ _ hc2 q'
  obtain ⟨x',y',to'⟩:=st'.to_
  refine⟨.ref s.heap.objs.size,_,I2,rfl,⟨_,x,y,hT,rfl,rfl,fun xs' ys' ha' hb'=>?_⟩,⟨zz,sb.extBut _ _ n1.symm st'.ti,⟨x',y',sb.extBut _ _ n2.symm to'⟩,st'.s1.1.at fun o e=>sb.extBut _ o n3.symm e,st'.s2.1.at fun o e=>sb.extBut _ o n4.symm e⟩,fun c hc'=>?_⟩
  ·rw [Sq.inj I ha' ha,Sq.inj I hb' hb]; exact⟨hx,hy⟩
  ·obtain ⟨o,e,_⟩:∃ o,s.heap.get? c=some o/\True:=by
    simp only [bi0,bk3,br1] at hc'
    obtain ⟨x2,y2,to2⟩:=st.to_
    obtain ⟨o1,f1,_⟩:=st.s1.ob
    obtain ⟨o2,f2,_⟩:=st.s2.ob
    rcases hc' with rfl | rfl | rfl | rfl | rfl
    ·exact⟨_,st.zz,trivial⟩
    ·exact⟨_,st.ti,trivial⟩
    ·exact⟨_,to2,trivial⟩
    ·exact⟨_,f1,trivial⟩
    ·exact⟨_,f2,trivial⟩
   rw [aW (bk6 (bi5 e))]; exact (hf c hc').1
 ·
  intro X hP hw hK hc i pins s σ H E I hf st hg
  subst hP hw hK
  obtain ⟨xs,ys,ha,hb,hi⟩:=hg
  obtain ⟨us,ru,pu⟩:=Sq.get I ha
  obtain ⟨vs,rv,pv'⟩:=Sq.get I hb
  have fa:=off I hf ha
  have fb:=off I hf hb
  have hh:X.A.in1.handled=none:=I.ok.hd hc
  have fa':a ≠ i1:=fun q=>fa (by rw [q]; simp)
  have fb':b ≠ i2:=fun q=>fb (by rw [q]; simp)
  have D1:=gJ.draws t1 (prog:=X.prog) (w:=X.w) hh i1 a fa' us.toArray
  have D2:=gJ.draws t2 (prog:=X.prog) (w:=X.w) hh i2 b fb' vs.toArray
  have e1:=ru.length
  have e2:=rv.length
  refine Zp.fin D1 D2 (ap fa fb) (by simp only [bg5]; omega) ⟨st.zz,st.ti,st.to_,⟨st.s1,pu⟩,⟨st.s2,pv'⟩⟩ fun g tk kp=>⟨rfl,?_⟩
  have fpn:∀ c u,H c=some u->c ∉ [z,TI,TO,i1,i2]:=fun c u e hm=>by rw [(hf c hm).1] at e; cases e
  have upH:∀ c o u,H c=some u->s.heap.get? c=some o->g.get? c=some o:=fun c o u e z=>by
   have:=fpn c u e
   simp only [bi0,bk3,br1,not_or] at this
   exact kp c o this.1 this.2.2.1 this.2.2.2.1 this.2.2.2.2 z
  have ns:∀ m,s.heap.Ns X.env.locals m->g.Ns X.env.locals m:=fun m hm=>by
   obtain ⟨o,es,ep,e1,e2⟩:=hm
   exact⟨o,es,ep,kp _ o (Ne.symm (hf z (by simp)).2.1) (Ne.symm (hf TO (by simp)).2.1) (Ne.symm (hf i1 (by simp)).2.1) (Ne.symm (hf i2 (by simp)).2.1) e1,e2⟩
  refine I.step (g':=s.gens) (d':=s.drawn) (ch:=[z,TO,i1,i2]) (fun c hc'=>?_) (fun c o _ _ hc' e _=>?_) (fun c o _ _ hc' e _=>⟨o.slots,?_⟩) (fun c o _ e n=>n) (fun c o hc' e=>⟨o,?_⟩)
   (fun c zs e=>e) (fun c u zs e=>e) (fun c ps e=>⟨#[],by rw [e]; simp⟩) ns (fun c u e=>?_) I.bare
  ·have hm:c ∈ [z,TI,TO,i1,i2]:=by
    simp only [bi0,bk3,br1] at hc' ⊢
    rcases hc' with h | h | h | h <;> simp [h]
   exact⟨(hf c hm).2.2.2.1,(hf c hm).2.1,(hf c hm).2.2.2.2.1,(hf c hm).2.2.2.2.2⟩
  ·simp only [bi0,bk3,br1,not_or] at hc'
   exact kp c o hc'.1 hc'.2.1 hc'.2.2.1 hc'.2.2.2 e
  ·simp only [bi0,bk3,br1,not_or] at hc'
   exact kp c o hc'.1 hc'.2.1 hc'.2.2.1 hc'.2.2.2 e
  ·simp only [bi0,bk3,br1,not_or] at hc'
   exact kp c o hc'.1 hc'.2.1 hc'.2.2.1 hc'.2.2.2 e
  ·refine (I.hok c u e).stay (fun c' o' hc2 q'=>?_) (fun _ q'=>q') fun _ _ q'=>q'
   rcases hc2 with rfl | hc2
   ·exact upH _ _ _ e q'
   ·exact upH _ _ _ hc2 q'
noncomputable abbrev ay4:=w4 true true
theorem ay5 {P:Program}{w:World}{K:PySem.W.Frag}{elts:List Expr}{k:Nat}{pos:Pos} (a b z TI TO i1 i2:Addr) (d : [z,TI,TO,i1,i2].Nodup) :
  j6 P w K (.Tuple elts k pos) (vZ K a b) [z,TI,TO,i1,i2] z (ay4 z TI TO i1 i2 a b):=N6 true true a b z TI TO i1 i2 d
section
variable {X : Cx}
noncomputable def ay6 (K:PySem.W.Frag) (ta:TA):TI:=fun σ H R=>ta σ H fun vs H1=>∃ a b xs ys,vs = [.ref a,.ref b]/\aJ K H1 a xs/\aJ K H1 b ys/\R (vZ K a b) H1
theorem ay7 {elts:List Expr}{kt:Nat}{pt:Pos}{a b:Expr}{ta:TA}{p pos:Pos} (hg:Gl X "zip") (hm:X.mg "zip" = none) (ha:PA X [a,b] ta) (hs:starEach [a,b] X.env = [(false,eval a X.env),(false,eval b X.env)]:=by rfl) (hs2:starEach [b] X.env = [(false,eval b X.env)]:=by rfl) :
  PI X (.Tuple elts kt pt) (.Call (.Name "zip" p) [a,b] [] pos) (ay6 X.K ta):=by
 intro pins s σ H R I h
 refine Call_ (j4 I hg hm PyProof.Rows.boot_zip (bo3 (aO (ha pos pins s σ H _ I h) fun us s1 ⟨vs,H1,I1,r1,q1⟩=>?_) (by rw [hs,hs2]) (by rw [hs2]; rfl)))
 obtain ⟨a',b',xs,ys,e,h1,h2,q⟩:=q1
 subst e
 cases r1 with
 | cons r rr=>
  cases rr with
  | cons r' rr=>
   cases rr
   cases r
   cases r'
   obtain ⟨us,_,p1,_⟩:=I1.tuple h1
   obtain ⟨ws,_,p2,_⟩:=I1.tuple h2
   refine Zp.ay2 p1 p2 fun h' z ti to s1' s2' kp=>wpAny_pyIter_zip z ?_
   have fresh:∀ k,H1 (s1.heap.objs.size+k)=none:=fun k=>I1.hok.fresh (bq1 _ _)
   refine⟨s1.heap.objs.size+4,[s1.heap.objs.size+4,s1.heap.objs.size+2,s1.heap.objs.size+3,s1.heap.objs.size,s1.heap.objs.size+1],_,_,H1,rfl,I1.kept (t':=s1.toks) kp,
    ay5 a' b' _ _ _ _ _ (by simp),⟨z,ti,⟨_,_,to⟩,s1',s2'⟩,fun c hc=>?_,q⟩
   simp only [bi0,bk3,br1] at hc
   rcases hc with rfl | rfl | rfl | rfl | rfl
   ·exact I1.fpOk (bq1 _ _) (fresh 4)
   ·exact I1.fpOk (bq1 _ _) (fresh 2)
   ·exact I1.fpOk (bq1 _ _) (fresh 3)
   ·exact I1.fpOk (bh0 _) (fresh 0)
   ·exact I1.fpOk (bq1 _ _) (fresh 1)
theorem w5 (hc:X.calm=true):dI X (.builtin "all") (fun xs H Q=>∃ (a:Addr) (bs:List Bool),xs = [.ref a]/\aN X.K H a (bs.map V.bl)/\Q (.bl (bs.all id)) H):=by
 intro pins s σ H xs us Q I r h
 obtain ⟨a,bs,rfl,hq,q⟩:=h
 obtain ⟨u,rfl,ru⟩:=j8 r
 cases ru
 obtain ⟨its,rv,p,hz⟩:=I.list hq
 have hl:=rv.length
 rw [bh1] at hl
 have hlt:a < s.heap.objs.size:=by obtain ⟨o,e,_⟩:=p.isList; exact bi5 e
 refine call_all_walk (wpAny_pyIter_list p.isList ?_)
 have hh:X.A.in1.handled=none:=I.ok.hd hc
 refine⟨s.heap.objs.size,_,_,_,_,_,fun i=>bs.getD i false,rfl,Walks.list hh s.heap.objs.size a (bk6 hlt) its.toArray,⟨⟨_,bi6 _ rfl,rfl,rfl⟩,p.isList.push _⟩,?_,fun h' tk kp=>?_⟩
 ·intro i v s' Q' E' hP hQ'
  have hi:its[i]? = some v:=by simpa using hP
  have hil:i < bs.length:=by rw [hl]; exact (bh3.mp hi).1
  obtain ⟨u,e1,e2⟩:=rv.get (i:=i) (x:=.bl bs[i]) (by simp [hil])
  rw [hi] at e1; cases e1
  cases e2
  have:bs.getD i false=bs[i]:=by rw [bh7,bg7 hil]; rfl
  have hQ2:Q' (bs.getD i false) s':=hQ'
  rw [this] at hQ2
  exact bs7 hQ2
 ·have all_eq:(List.range its.toArray.size).all (fun i=>bs.getD i false)=bs.all id:=by
   rw [bg5,<- hl]
   clear q rv hz hl hq hlt p hh kp
   induction bs with
   | nil=>rfl
   | cons b r ih=>
    rw [bj5,List.range_succ_eq_map,bt6,List.all_map,bt6,<- ih]
    rfl
  rw [all_eq]
  refine⟨.bl (bs.all id),H,I.kept (t':=tk) (h':=h') fun b o e=>kp b o (fun z=>?_) (bg4 _ e),rfl,q⟩
  rw [bg6.mp z] at e
  exact absurd (bi5 e) (bm0 _)
end
structure w6 (H:Hp) (J:It) (n:Nat) (R:Nat->V->Hp->Prop):Prop where
 go:∀ i H',aA H H'->i < n->J.go i H'
 yld:∀ i H' x H2,aA H H'->J.yld i H' x H2->i < n->aA H' H2/\R i x H2
 stop:∀ H',aA H H'->J.stop n H'
theorem w9 {H1:Hp}{J:It}{n:Nat}{R:Nat->V->Hp->Prop}{g:TG}{tc:TT}{te:TE}{σ0:St}{Q:VK} (O:w6 H1 J n R) (Pv:Nat->List V->Hp->Prop) (hn:n<=sizeLine)
  (h0:∀ D,H1 D=none->Pv 0 [] (upd H1 D (.lst [])))
  (mono:∀ i acc H' H2,aA H' H2->Pv i acc H'->Pv i acc H2)
  (hs:∀ i x acc D H',i < n->R i x H'->qX H1 D n i acc H'->Pv i acc H'->g x σ0 H' fun σ2 H3=>Wk σ0 σ2/\tc σ2 H3 fun b H4=>
   if b=true then te σ2 H4 fun v H5=>vO H1 D n Pv i acc v H5 else L6 H1 D n Pv i acc H4)
  (hd:∀ D acc H',H1 D=none->aA H1 H'->H' D=some (.lst acc)->acc.length<=n->Pv n acc H'->Q (.ref D) H') :
  ∀ D,H1 D=none->∃ W:Nat->Nat->List V->Hp->Prop,(∃ m,W 0 m [] (upd H1 D (.lst [])))/\oK g tc te σ0 J D Q W:=by
 intro D hD
 refine⟨CW H1 D n Pv,⟨n,rfl,bk7 _,bh0 _,bI hD _,bK,h0 D hD⟩,?_⟩
 rintro i m acc H' ⟨rfl,hi,ha,sm,hDa,p⟩
 refine⟨hDa,?_⟩
 by_cases hlt:i < n
 ·refine .inr ⟨O.go i H' sm hlt,fun x H2 y=>?_⟩
  obtain ⟨s2,r2⟩:=O.yld i H' x H2 sm y hlt
  exact hs i x acc D H2 hlt r2 ⟨hlt,ha,hn,sm.trans s2,hD,s2 _ _ hDa⟩ (mono i acc H' H2 s2 p)
 ·have e:i=n:=by omega
  subst e
  exact .inl ⟨O.stop H' sm,hd D acc H' hD sm hDa ha p⟩
theorem N7 {K:PySem.W.Frag}{H:Hp}{a b:Addr}{xs ys:List V} (ha:aJ K H a xs) (hb:aJ K H b ys) (hl:ys.length<=xs.length) :
  w6 H (vZ K a b) ys.length (fun i v H2=>∃ T x y,v = .ref T/\H2 T=some (.tup [x,y])/\xs[i]? = some x/\ys[i]? = some y):=by
 refine⟨fun i H' sm hi=>⟨xs,ys,xs[i]'(by omega),ys[i],sm.tup ha,sm.tup hb,by simp,by simp⟩,fun i H' v H2 sm y hi=>?_,fun H' sm=>⟨xs,ys,sm.tup ha,sm.tup hb,by omega⟩⟩
 obtain ⟨T,x,y',hT,hv,e,hxy⟩:=y
 subst e
 obtain ⟨h1,h2⟩:=hxy xs ys (sm.tup ha) (sm.tup hb)
 exact⟨bI hT _,T,x,y',hv,bK,h1,h2⟩
end L2
namespace HT
open PySem PyProof.Rows
section
variable {prog : Program} {w : World} {A : Around} {E : Value → Shared → Prop} {s : Shared}
theorem ay8 {t sl:Addr}{items:Array Value}{vl vu:Value}{lo hi:Option Int}{Q:Value->Shared->Prop} (ht:IsTup s.heap t items) (hs:s.heap.IsSliceOf sl vl vu .none) (pl:IsPart vl lo) (pu:IsPart vu hi)
  (h1:aX items.size 0 lo=0) (h2:aX items.size items.size hi=items.size) (h:Q (.ref t) s):wpAny (model prog w) A (getItem (.ref t) (.ref sl)) Q E s:=by
 obtain ⟨o,e1,e2,e3⟩:=id hs
 have T:s.TypeIs (.ref sl) "slice":=⟨o,e1,e2⟩
 unfold getItem
 try with_reducible refine bp2 ?_
 first | refine bg3 (bh4 ?_) | skip
 apply bg3
 apply wpAny_sequenceKey ht.typeIs (by decide)
 apply bg3
 apply bq8 (name:=Str.ofString "__getitem__") ht.typeIs bt3
 apply bn8 bt3 ht.typeIs entry_tuple_getitem _ (args_tuple_getitem _ _)
 change wpAny _ _ (Builtin.Tuple.tupleItemsOf (.ref t) >>= _) _ _ s
 apply bg3
 apply tupleItemsOf_ ht
 apply bg3
 apply wpAny_typeOf T
 rw [if_pos (by decide)]
 apply bg3
 apply E8 hs pl pu
 rw [h1,h2]
 have yes:((((0:Nat):Int) == 0 && (1:Int) == 1 && (items.size - 0) == items.size)=true):=by simp
 change wpAny _ _ (if ((((0:Nat):Int) == 0 && (1:Int) == 1 && (items.size - 0) == items.size)=true) then _ else _) _ _ s
 rw [if_pos yes]
 apply bg3
 unfold Builtin.Tuple.tupleIsExact
 apply bg3
 apply wpAny_typeOf ht.typeIs
 apply bh4
 change wpAny _ _ (rule "tuple.getitem.whole" >>= fun _=>ret (Value.ref t)) _ _ s
 apply bg3
 apply bx3
 exact bh4 ⟨_,rfl,bh4 h⟩
end
end HT
namespace L2
open PySem PySem.Spec PyProof.Rows
section
variable {X : Cx}
noncomputable def ay9 (K:PySem.W.Frag):V->Option Int->Option Int->Hp->VK->Prop:=fun x lo hi H Q=>∃ a xs,x = .ref a/\aJ K H a xs/\(∀ p,H p=none->Q (.ref p) (upd H p (.tup (eL xs lo hi))))/\(eL xs lo hi=xs->Q (.ref a) H)
theorem N8:jZ X (ay9 X.K):=by
 intro pins s σ H x v vl vu lo hi sl Q I rx hs pl pu h
 obtain ⟨a,xs,ex,hx,q1,q2⟩:=h
 by_cases hw:HT.aX xs.length 0 lo=0/\HT.aX xs.length xs.length hi=xs.length
 ·subst ex
  cases rx
  obtain ⟨its,r,ht,hz⟩:=I.tuple hx
  have hlen:its.toArray.size=xs.length:=by rw [bg5]; exact r.length.symm
  refine⟨"tuple",_,PyProof.Rows.slot_tuple_getitem.lookup,ht.typeIs,?_⟩
  refine HT.ay8 ht hs pl pu (by rw [hlen]; exact hw.1) (by rw [hlen]; exact hw.2) ⟨.ref a,H,I,rfl,q2 ?_⟩
  unfold eL
  rw [hw.1,hw.2]
  simp
 ·exact as2 pins s σ H x v vl vu lo hi sl Q I rx hs pl pu ⟨a,xs,ex,hx,hw,q1⟩
end
theorem wA (xs:List V):eL xs (some 1) none=xs.drop 1:=by
 unfold eL
 have e1:HT.aX xs.length 0 (some 1)=min 1 xs.length:=HT.ar3 xs.length 0 1
 have e2:HT.aX xs.length xs.length none=xs.length:=rfl
 rw [e1,e2]
 cases xs with
 | nil=>rfl
 | cons x r=>
  have:min 1 (x :: r).length=1:=by simp
  rw [this]
  simp
noncomputable def wB (K:PySem.W.Frag) (a b:Addr):It:=
  ⟨fun i H=>∃ xs ys x y,aN K H a xs/\aN K H b ys/\xs[i]? = some x/\ys[i]? = some y,
   fun i H v H'=>∃ T x y,H T=none/\v = .ref T/\H'=upd H T (.tup [x,y])/\∀ xs ys,aN K H a xs->aN K H b ys->xs[i]? = some x/\ys[i]? = some y,
   fun i H=>∃ xs ys,aN K H a xs/\aN K H b ys/\(i=xs.length ∨ (i < xs.length/\i=ys.length))⟩
noncomputable abbrev az0:=w4 false false
theorem az1 {P:Program}{w:World}{K:PySem.W.Frag}{elts:List Expr}{k:Nat}{pos:Pos} (a b z TI TO i1 i2:Addr) (d : [z,TI,TO,i1,i2].Nodup) :
  j6 P w K (.Tuple elts k pos) (wB K a b) [z,TI,TO,i1,i2] z (az0 z TI TO i1 i2 a b):=N6 false false a b z TI TO i1 i2 d
section
variable {X : Cx}
noncomputable def az2 (K:PySem.W.Frag) (ta:TA):TI:=fun σ H R=>ta σ H fun vs H1=>∃ a b xs ys,vs = [.ref a,.ref b]/\aN K H1 a xs/\aN K H1 b ys/\R (wB K a b) H1
theorem az3 {elts:List Expr}{kt:Nat}{pt:Pos}{a b:Expr}{ta:TA}{p pos:Pos} (hg:Gl X "zip") (hm:X.mg "zip" = none) (ha:PA X [a,b] ta) (hs:starEach [a,b] X.env = [(false,eval a X.env),(false,eval b X.env)]:=by rfl) (hs2:starEach [b] X.env = [(false,eval b X.env)]:=by rfl) :
  PI X (.Tuple elts kt pt) (.Call (.Name "zip" p) [a,b] [] pos) (az2 X.K ta):=by
 intro pins s σ H R I h
 refine Call_ (j4 I hg hm PyProof.Rows.boot_zip (bo3 (aO (ha pos pins s σ H _ I h) fun us s1 ⟨vs,H1,I1,r1,q1⟩=>?_) (by rw [hs,hs2]) (by rw [hs2]; rfl)))
 obtain ⟨a',b',xs,ys,e,h1,h2,q⟩:=q1
 subst e
 cases r1 with
 | cons r rr=>
  cases rr with
  | cons r' rr=>
   cases rr
   cases r
   cases r'
   obtain ⟨us,_,p1,_⟩:=I1.list h1
   obtain ⟨ws,_,p2,_⟩:=I1.list h2
   refine call_zip_2 p1.isList p2.isList fun h' z ti to s1' s2' _ kp=>wpAny_pyIter_zip z ?_
   have fresh:∀ k,H1 (s1.heap.objs.size+k)=none:=fun k=>I1.hok.fresh (bq1 _ _)
   refine⟨s1.heap.objs.size+4,[s1.heap.objs.size+4,s1.heap.objs.size+2,s1.heap.objs.size+3,s1.heap.objs.size,s1.heap.objs.size+1],_,_,H1,rfl,I1.kept (t':=s1.toks) kp,
    az1 a' b' _ _ _ _ _ (by simp),⟨z,ti,⟨_,_,to⟩,s1',s2'⟩,fun c hc=>?_,q⟩
   simp only [bi0,bk3,br1] at hc
   rcases hc with rfl | rfl | rfl | rfl | rfl
   ·exact I1.fpOk (bq1 _ _) (fresh 4)
   ·exact I1.fpOk (bq1 _ _) (fresh 2)
   ·exact I1.fpOk (bq1 _ _) (fresh 3)
   ·exact I1.fpOk (bh0 _) (fresh 0)
   ·exact I1.fpOk (bq1 _ _) (fresh 1)
end
theorem az4 {K:PySem.W.Frag}{H:Hp}{a b:Addr}{xs ys:List V} (ha:aN K H a xs) (hb:aN K H b ys) (hl:ys.length<=xs.length) :
  w6 H (wB K a b) ys.length (fun i v H2=>∃ T x y,v = .ref T/\H2 T=some (.tup [x,y])/\xs[i]? = some x/\ys[i]? = some y):=by
 refine⟨fun i H' sm hi=>⟨xs,ys,xs[i]'(by omega),ys[i],sm.seq ha,sm.seq hb,by simp,by simp⟩,fun i H' v H2 sm y hi=>?_,fun H' sm=>⟨xs,ys,sm.seq ha,sm.seq hb,by omega⟩⟩
 obtain ⟨T,x,y',hT,hv,e,hxy⟩:=y
 subst e
 obtain ⟨h1,h2⟩:=hxy xs ys (sm.seq ha) (sm.seq hb)
 exact⟨bI hT _,T,x,y',hv,bK,h1,h2⟩
theorem az5 (l:Addr) (items:Array Value) (n:Nat) (b:Addr) (items2:Array Value) (n2:Nat) (dd:Option Addr) (ss:Array (Option Value)) (h0 : ¬(!items.isEmpty && Builtin.List.listTooLong (items.size+items2.size))=true) (h1:items.size<=sizeLine) (h2:items.size+items2.size<=sizeLine+1) :
  Meets (Builtin.«list.extend» ⟨[.ref l,.ref b],[]⟩) (fun _ R s=>s.heap.get? l=some { cls:=.type "list",dict:=none,data:=.seq items n,slots:=#[] }/\s.heap.get? b=some { cls:=.type "tuple",dict:=dd,data:=.seq items2 n2,slots:=ss }/\R (.ok (.ret Value.none)) { s with heap:=s.heap.update l (Obj.mapSeq fun x=>x ++ items2),toks:=s.toks }):=
 .of_wp fun prog w A R s h=>by
  obtain ⟨hp,g,d,tk,os⟩:=s; obtain ⟨hl,hb,h⟩:=h; have f2:=AutoSeq1.sub_tuple_tuple; have f3:=AutoSeq1.sub_list_list; have f4:=AutoSeq1.sub_tuple_list; have f5:=AutoSeq1.sub_list_tuple
  have hz':(items ++ items2).size<=sizeLine+1:=by rw [Array.size_append]; exact h2
  wp_walk using (wpAny_updateSeq hl rfl (hz:=h1) (_hz':=hz')),AutoSeq1.wpAny_loadPart' hl,AutoSeq1.wpAny_loadPart' hb
  exact⟨_,rfl,h⟩
noncomputable def N9 (K:PySem.W.Frag):V->List V->Hp->VK->Prop:=fun x vs H Q=>∃ (l b:Addr) (xs zs:List V),x = .ref l/\vs = [.ref b]/\H l=some (.lst xs)/\aJ K H b zs/\xs.length+zs.length<=sizeLine/\Q .non (upd H l (.lst (xs ++ zs)))
theorem az6 {X:Cx}:mI X "list.extend" (N9 X.K):=by
 intro pins s σ H x vs v us Q I rx rv h
 obtain ⟨l,b,xs,zs,rfl,rfl,hH,hB,hz,q⟩:=h
 cases rx
 obtain ⟨u,rfl,ru⟩:=rv.one
 cases ru
 obtain ⟨z,its,n,r,hl,e⟩:=I.lstM hH
 obtain ⟨its2,r2,⟨⟨cls,dd,data,ss⟩,e2,hc,n2,hd⟩,z2⟩:=I.tuple hB
 cases hc
 cases hd
 have hl2:=r2.length
 have hsz:its.toArray.size+its2.toArray.size<=sizeLine:=by rw [bg5,bg5]; omega
 have hlong : ¬ (!its.toArray.isEmpty && Builtin.List.listTooLong (its.toArray.size+its2.toArray.size))=true:=by
  rw [v4 hsz,bs9]
  exact bi3
 refine call_meets F.slot_list_extend ⟨_,e,rfl⟩ F.entry_list_extend (F.args_list_extend_2 _ _)
  (az5 l its.toArray n b its2.toArray n2 dd ss hlong (by rw [bg5]; omega) (by omega)) ⟨e,e2,?_⟩
 refine⟨.non,_,I.lset (its':=its ++ its2) hH e (by simp) (r.append r2) ?_,rfl,q⟩
 rw [bi4]
 omega
end L2
namespace PP
open PySem L2
inductive PV where
 | non | bl (b:Bool) | int (i:Int) | str (x:Str) | tup (xs:List PV) | lst (xs:List PV)
 | dK (kvs:List (aI × PV)) | dT (kvs:List (List aI × PV)) | scr (ns:List Int) | kt (xs:List PV) | exc (c:Str) | fK (kvs:List (aI × PV)) | fT (kvs:List (List aI × PV))
mutual
noncomputable def flat:PV->Bool
 | .tup xs=>flats xs
 | .lst _=>false
 | .dK _=>false
 | .dT _=>false
 | .non=>true
 | .bl _=>true
 | .int _=>true
 | .str _=>true
 | .scr _=>true
 | .kt xs=>flats xs
 | .exc _=>true
 | .fK _=>false
 | .fT _=>false
noncomputable def flats:List PV->Bool
 | []=>true
 | x :: r=>flat x && flats r
end
noncomputable def jH (K:PySem.W.Frag) (H:Hp) (a:Addr) (ns:List Int):Prop:=(∃ o,H a=some (.frz o (.lst (ns.map V.int)))) ∨
  ∃ (o:Obj) (its:Array Value) (n:Nat),K.lookup a=some o/\o.cls = .type "list"/\o.dict=none/\o.data = .seq its n/\its.size<=sizeLine/\aM (ns.map V.int) its.toList
noncomputable def mQ (K:PySem.W.Frag) (a:Addr) (us:List V):Prop:=∃ (o:Obj) (its:Array Value) (n:Nat),K.lookup a=some o/\o.cls = .type "tuple"/\o.data = .seq its n/\its.size<=sizeLine/\aM us its.toList
mutual
inductive aH (K:PySem.W.Frag) (M:Addr->Prop) (H:Hp):V->PV->Prop
 | non:aH K M H .non .non
 | bl (b:Bool):aH K M H (.bl b) (.bl b)
 | int (i:Int):aH K M H (.int i) (.int i)
 | str (x:Str):aH K M H (.str x) (.str x)
 | tup {a:Addr}{us:List V}{xs:List PV}:H a=some (.tup us)->Reps K M H us xs->aH K M H (.ref a) (.tup xs)
 | lst {a:Addr}{us:List V}{xs:List PV}:M a->H a=some (.lst us)->Reps K M H us xs->aH K M H (.ref a) (.lst xs)
 | dK {a:Addr}{kvs:List (aI × V)}{ps:List (aI × PV)}:M a->H a=some (.dK kvs)->kvs.map (·.1)=ps.map (·.1)->Reps K M H (kvs.map (·.2)) (ps.map (·.2))->aH K M H (.ref a) (.dK ps)
 | dT {a:Addr}{kvs:List (List aI × V)}{ps:List (List aI × PV)}:M a->H a=some (.dT kvs)->kvs.map (·.1)=ps.map (·.1)->Reps K M H (kvs.map (·.2)) (ps.map (·.2))->aH K M H (.ref a) (.dT ps)
 | scr {a:Addr}{ns:List Int}:jH K H a ns->aH K M H (.ref a) (.scr ns)
 | kt {a:Addr}{us:List V}{xs:List PV}:mQ K a us->Reps K M H us xs->aH K M H (.ref a) (.kt xs)
 | exc {a C:Addr}{o:Obj}{c:Str}:H a=some (.frz o (.own a))->PySem.W.nsIn K mainGlobals c=some (some (.ref C))->o.cls = .ref C->aH K M H (.ref a) (.exc c)
 | fK {a:Addr}{o:Obj}{kvs:List (aI × V)}{ps:List (aI × PV)}:H a=some (.frz o (.dK kvs))->kvs.map (·.1)=ps.map (·.1)->Reps K M H (kvs.map (·.2)) (ps.map (·.2))->aH K M H (.ref a) (.fK ps)
 | fT {a:Addr}{o:Obj}{kvs:List (List aI × V)}{ps:List (List aI × PV)}:H a=some (.frz o (.dT kvs))->kvs.map (·.1)=ps.map (·.1)->Reps K M H (kvs.map (·.2)) (ps.map (·.2))->aH K M H (.ref a) (.fT ps)
inductive Reps (K:PySem.W.Frag) (M:Addr->Prop) (H:Hp):List V->List PV->Prop
 | nil:Reps K M H [] []
 | cons {v:V}{x:PV}{vs:List V}{xs:List PV}:aH K M H v x->Reps K M H vs xs->Reps K M H (v :: vs) (x :: xs)
end
structure iE (M M':Addr->Prop) (H H':Hp):Prop where
 lst:∀ a us,M a->H a=some (.lst us)->M' a/\H' a=some (.lst us)
 dK:∀ a kvs,M a->H a=some (.dK kvs)->M' a/\H' a=some (.dK kvs)
 dT:∀ a kvs,M a->H a=some (.dT kvs)->M' a/\H' a=some (.dT kvs)
 tup:∀ a us,H a=some (.tup us)->H' a=some (.tup us)
 frz:∀ a o u,H a=some (.frz o u)->H' a=some (.frz o u)
theorem jH.keep {K:PySem.W.Frag}{H H':Hp}{a:Addr}{ns:List Int} (k:∀ a o u,H a=some (.frz o u)->H' a=some (.frz o u)) (h:jH K H a ns):jH K H' a ns:=
 h.elim (fun ⟨o,e⟩=>.inl ⟨o,k _ _ _ e⟩) .inr
mutual
theorem aH.keep {K:PySem.W.Frag}{M M':Addr->Prop}{H H':Hp} (k:iE M M' H H'):∀ {v:V}{x:PV},aH K M H v x->aH K M' H' v x
 | _,_,.non=>.non
 | _,_,.bl b=>.bl b
 | _,_,.int i=>.int i
 | _,_,.str x=>.str x
 | _,_,.tup h r=>.tup (k.tup _ _ h) (Reps.keep k r)
 | _,_,.lst m h r=>.lst (k.lst _ _ m h).1 (k.lst _ _ m h).2 (Reps.keep k r)
 | _,_,.dK m h e r=>.dK (k.dK _ _ m h).1 (k.dK _ _ m h).2 e (Reps.keep k r)
 | _,_,.dT m h e r=>.dT (k.dT _ _ m h).1 (k.dT _ _ m h).2 e (Reps.keep k r)
 | _,_,.scr h=>.scr (h.keep k.frz)
 | _,_,.kt h r=>.kt h (Reps.keep k r)
 | _,_,.exc h e c=>.exc (k.frz _ _ _ h) e c
 | _,_,.fK h e r=>.fK (k.frz _ _ _ h) e (Reps.keep k r)
 | _,_,.fT h e r=>.fT (k.frz _ _ _ h) e (Reps.keep k r)
theorem Reps.keep {K:PySem.W.Frag}{M M':Addr->Prop}{H H':Hp} (k:iE M M' H H'):∀ {vs:List V}{xs:List PV},Reps K M H vs xs->Reps K M' H' vs xs
 | _,_,.nil=>.nil
 | _,_,.cons r t=>.cons (aH.keep k r) (Reps.keep k t)
end
mutual
theorem aH.flat {K:PySem.W.Frag}{M M':Addr->Prop}{H:Hp}{v:V}{x:PV} (f:flat x=true) (r:aH K M H v x):aH K M' H v x:=by
 cases r with
 | non=>exact .non
 | bl b=>exact .bl b
 | int i=>exact .int i
 | str x=>exact .str x
 | tup h r=>exact .tup h (Reps.flat (by unfold PP.flat at f; exact f) r)
 | lst m h r=>unfold PP.flat at f; cases f
 | dK m h e r=>unfold PP.flat at f; cases f
 | dT m h e r=>unfold PP.flat at f; cases f
 | scr h=>exact .scr h
 | kt h r=>exact .kt h (Reps.flat (by unfold PP.flat at f; exact f) r)
 | exc h e c=>exact .exc h e c
 | fK h e r=>unfold PP.flat at f; cases f
 | fT h e r=>unfold PP.flat at f; cases f
theorem Reps.flat {K:PySem.W.Frag}{M M':Addr->Prop}{H:Hp}{vs:List V}{xs:List PV} (f:flats xs=true) (r:Reps K M H vs xs):Reps K M' H vs xs:=by
 cases r with
 | nil=>exact .nil
 | cons r t=>
  unfold PP.flats at f
  rw [bl6] at f
  exact .cons (aH.flat f.1 r) (Reps.flat f.2 t)
end
theorem iE.same {M M':Addr->Prop}{H H':Hp} (s:aA H H') (m:∀ a,M a->M' a):iE M M' H H':=
 ⟨fun a _ h e=>⟨m a h,s _ _ e⟩,fun a _ h e=>⟨m a h,s _ _ e⟩,fun a _ h e=>⟨m a h,s _ _ e⟩,fun _ _ e=>s _ _ e,fun _ _ _ e=>s _ _ e⟩
theorem aH.same {K:PySem.W.Frag}{M M':Addr->Prop}{H H':Hp}{v:V}{x:PV} (r:aH K M H v x) (s:aA H H') (m:∀ a,M a->M' a):aH K M' H' v x:=r.keep (.same s m)
theorem Reps.same {K:PySem.W.Frag}{M M':Addr->Prop}{H H':Hp}{v:List V}{x:List PV} (r:Reps K M H v x) (s:aA H H') (m:∀ a,M a->M' a):Reps K M' H' v x:=r.keep (.same s m)
noncomputable def jI:HO->Bool
 | .lst _=>true
 | .dK _=>true
 | .dT _=>true
 | _=>false
theorem iE.upd {M M':Addr->Prop}{H:Hp}{a:Addr}{o o':HO} (h:H a=some o') (mu:jI o'=true) (m:∀ b,M b->b ≠ a/\M' b):iE M M' H (upd H a o):=
 ⟨fun b _ hb e=>⟨(m b hb).2,by rw [aW (m b hb).1]; exact e⟩,fun b _ hb e=>⟨(m b hb).2,by rw [aW (m b hb).1]; exact e⟩,fun b _ hb e=>⟨(m b hb).2,by rw [aW (m b hb).1]; exact e⟩,
  fun b _ e=>by rw [aW (fun z=>by rw [z,h] at e; cases e; cases mu)]; exact e,
  fun b _ _ e=>by rw [aW (fun z=>by rw [z,h] at e; cases e; cases mu)]; exact e⟩
theorem Reps.length {K:PySem.W.Frag}{M:Addr->Prop}{H:Hp}:∀ {vs:List V}{xs:List PV},Reps K M H vs xs->vs.length=xs.length
 | _,_,.nil=>rfl
 | _,_,.cons _ t=>congrArg (· + 1) t.length
theorem Reps.get {K:PySem.W.Frag}{M:Addr->Prop}{H:Hp}:∀ {vs:List V}{xs:List PV}{i:Nat}{v:V},Reps K M H vs xs->vs[i]? = some v->∃ x,xs[i]? = some x/\aH K M H v x
 | _,_,_,_,.nil,e=>by simp at e
 | _,_,0,_,.cons r _,e=>by simp at e; subst e; exact⟨_,rfl,r⟩
 | _,_,i+1,v,.cons _ t,e=>by
  rw [bq9] at e
  obtain ⟨x,h1,h2⟩:=t.get e
  exact⟨x,by rw [bq9]; exact h1,h2⟩
theorem Reps.at {K:PySem.W.Frag}{M:Addr->Prop}{H:Hp}:∀ {vs:List V}{xs:List PV}{i:Nat}{x:PV},Reps K M H vs xs->xs[i]? = some x->∃ v,vs[i]? = some v/\aH K M H v x
 | _,_,_,_,.nil,e=>by simp at e
 | _,_,0,_,.cons r _,e=>by simp at e; subst e; exact⟨_,rfl,r⟩
 | _,_,i+1,v,.cons _ t,e=>by
  rw [bq9] at e
  obtain ⟨x,h1,h2⟩:=t.at e
  exact⟨x,by rw [bq9]; exact h1,h2⟩
theorem Reps.append {K:PySem.W.Frag}{M:Addr->Prop}{H:Hp}:∀ {vs:List V}{xs:List PV}{us:List V}{ys:List PV},Reps K M H vs xs->Reps K M H us ys->Reps K M H (vs ++ us) (xs ++ ys)
 | _,_,_,_,.nil,s=>s
 | _,_,_,_,.cons r t,s=>.cons r (t.append s)
theorem Reps.set {K:PySem.W.Frag}{M:Addr->Prop}{H:Hp}{v:V}{x:PV} (q:aH K M H v x):∀ (i:Nat) {vs:List V}{xs:List PV},Reps K M H vs xs->Reps K M H (vs.set i v) (xs.set i x)
 | _,_,_,.nil=>.nil
 | 0,_,_,.cons r t=>.cons q t
 | i+1,_,_,.cons r t=>.cons r (Reps.set q i t)
theorem Reps.take {K:PySem.W.Frag}{M:Addr->Prop}{H:Hp}:∀ (n:Nat) {vs:List V}{xs:List PV},Reps K M H vs xs->Reps K M H (vs.take n) (xs.take n)
 | 0,_,_,_=>by simp; exact .nil
 | _+1,_,_,.nil=>.nil
 | n+1,_,_,.cons r t=>.cons r (Reps.take n t)
theorem Reps.drop {K:PySem.W.Frag}{M:Addr->Prop}{H:Hp}:∀ (n:Nat) {vs:List V}{xs:List PV},Reps K M H vs xs->Reps K M H (vs.drop n) (xs.drop n)
 | 0,_,_,r=>r
 | _+1,_,_,.nil=>.nil
 | n+1,_,_,.cons _ t=>Reps.drop n t
noncomputable abbrev intz (ns:List Int):List PV:=ns.map PV.int
theorem Reps.intz {K:PySem.W.Frag}{M:Addr->Prop}{H:Hp}:∀ (ns:List Int),Reps K M H (ns.map V.int) (intz ns)
 | []=>.nil
 | n :: r=>.cons (.int n) (Reps.intz r)
theorem Reps.ofInts {K:PySem.W.Frag}{M:Addr->Prop}{H:Hp}:∀ {ns:List Int}{us:List V},Reps K M H us (PP.intz ns)->us=ns.map V.int
 | [],_,.nil=>rfl
 | n :: r,_,.cons q t=>by
  cases q
  rw [Reps.ofInts t]; rfl
theorem dX:∀ (ns:List Int),flats (intz ns)=true
 | []=>rfl
 | n :: r=>by show (flat (.int n) && flats (intz r))=true; rw [dX r]; rfl
inductive Tg | rd | sh | nw | fr
inductive Slot | sh (g:Bool) (x:PV) | own (x:PV)
noncomputable def Slot.val:Slot->PV
 | .sh _ x=>x
 | .own x=>x
noncomputable def Slot.tag:Slot->Tg
 | .sh true _=>.nw
 | .sh false _=>.sh
 | .own _=>.rd
noncomputable abbrev bJ:=List (Option Slot)
noncomputable def Ms (H0:Hp) (W:Addr->Prop):Bool->Addr->Prop
 | false,a=>¬ W a
 | true,a=>¬ W a/\H0 a=none
noncomputable def Mg (H0:Hp) (W:Addr->Prop) (Hs:Hp):Tg->Addr->Prop
 | .rd,_=>True
 | .sh,a=>¬ W a
 | .nw,a=>¬ W a/\H0 a=none
 | .fr,a=>Hs a=none
noncomputable def iF (K:PySem.W.Frag) (M:Addr->Prop) (H:Hp) (a:Addr):PV->Prop
 | .lst xs=>∃ us,H a=some (.lst us)/\Reps K M H us xs
 | .dK ps=>∃ kvs,H a=some (.dK kvs)/\kvs.map (·.1)=ps.map (·.1)/\Reps K M H (kvs.map (·.2)) (ps.map (·.2))
 | .dT ps=>∃ kvs,H a=some (.dT kvs)/\kvs.map (·.1)=ps.map (·.1)/\Reps K M H (kvs.map (·.2)) (ps.map (·.2))
 | _=>False
noncomputable def O0 (K:PySem.W.Frag) (H0:Hp) (W:Addr->Prop) (H:Hp) (v:V):Slot->Prop
 | .sh g x=>aH K (Ms H0 W g) H v x
 | .own x=>∃ a,v = .ref a/\W a/\iF K (Ms H0 W true) H a x
structure PX (K:PySem.W.Frag) (H0:Hp) (W:Addr->Prop) (σ:St) (ρ:bJ) (H:Hp):Prop where
 len:ρ.length=σ.length
 same:aA H0 H
 wm:∀ a,W a->H0 a=none/\∃ o,H a=some o/\jI o=true
 sl:∀ (i:Nat) (m:Slot),ρ[i]? = some (some m)->∃ v,σ[i]? = some (some v)/\O0 K H0 W H v m
 dis:∀ (i j:Nat) (x y:PV) (a:Addr),ρ[i]? = some (some (.own x))->ρ[j]? = some (some (.own y))->σ[i]? = some (some (.ref a))->σ[j]? = some (some (.ref a))->i=j
theorem iF.keep {K:PySem.W.Frag}{M M':Addr->Prop}{H H':Hp}{a:Addr} (k:iE M M' H H') (ha:∀ o,H a=some o->H' a=some o):∀ {x:PV},iF K M H a x->iF K M' H' a x
 | .lst _,⟨us,e,r⟩=>⟨us,ha _ e,r.keep k⟩
 | .dK _,⟨us,e,q,r⟩=>⟨us,ha _ e,q,r.keep k⟩
 | .dT _,⟨us,e,q,r⟩=>⟨us,ha _ e,q,r.keep k⟩
theorem iF.at {K:PySem.W.Frag}{M:Addr->Prop}{H:Hp}{a:Addr}:∀ {x:PV},iF K M H a x->∃ o,H a=some o/\jI o=true
 | .lst _,⟨us,e,r⟩=>⟨_,e,rfl⟩
 | .dK _,⟨us,e,q,r⟩=>⟨_,e,rfl⟩
 | .dT _,⟨us,e,q,r⟩=>⟨_,e,rfl⟩
theorem iF.rep {K:PySem.W.Frag}{M M':Addr->Prop}{H:Hp}{a:Addr} (m:∀ b,M b->M' b) (ha:M' a):∀ {x:PV},iF K M H a x->aH K M' H (.ref a) x
 | .lst _,⟨us,e,r⟩=>.lst ha e (r.same (aA.refl _) m)
 | .dK _,⟨us,e,q,r⟩=>.dK ha e q (r.same (aA.refl _) m)
 | .dT _,⟨us,e,q,r⟩=>.dT ha e q (r.same (aA.refl _) m)
section
variable {K : PySem.W.Frag} {H0 : Hp} {W W' : Addr → Prop} {σ : St} {ρ : bJ} {H H' : Hp}
theorem PX.mono (p:PX K H0 W σ ρ H) (s:aA H H'):PX K H0 W σ ρ H':=by
 refine⟨p.len,p.same.trans s,fun a h=>⟨(p.wm a h).1,let ⟨o,e,m⟩:=(p.wm a h).2; ⟨o,s _ _ e,m⟩⟩,fun i m h=>?_,p.dis⟩
 obtain ⟨v,e,r⟩:=p.sl i m h
 refine⟨v,e,?_⟩
 cases m with
 | sh g x=>exact aH.same r s fun _ z=>z
 | own x=>
  obtain ⟨a,e1,e2,r⟩:=r
  exact⟨a,e1,e2,r.keep (.same s fun _ z=>z) fun _ z=>s _ _ z⟩
theorem PX.new (p:PX K H0 W σ ρ H) {a:Addr} (h:H a=none) : ¬ W a/\H0 a=none:=
 ⟨fun z=>(by obtain ⟨_,o,e,_⟩:=p.wm a z; rw [h] at e; cases e),p.same.free h⟩
theorem Mg.back {g:Tg}{H1:Hp} (s:aA H H1) {a:Addr} (h:Mg H0 W H1 g a):Mg H0 W H g a:=by
 cases g with
 | fr=>exact s.free h
 | rd=>exact h
 | sh=>exact h
 | nw=>exact h
end
noncomputable abbrev PK:=PV->Tg->Prop
noncomputable abbrev aF:=bJ->PK->Prop
noncomputable abbrev c7:=bJ->(Bool->Prop)->Prop
noncomputable abbrev cW:=bJ->(List (PV × Tg)->Prop)->Prop
inductive hJ (K:PySem.W.Frag) (H0:Hp) (W:Addr->Prop) (Hs H:Hp):List V->List (PV × Tg)->Prop
 | nil:hJ K H0 W Hs H [] []
 | cons {v:V}{x:PV}{g:Tg}{vs:List V}{xs:List (PV × Tg)}:aH K (Mg H0 W Hs g) H v x->hJ K H0 W Hs H vs xs->hJ K H0 W Hs H (v :: vs) ((x,g) :: xs)
noncomputable def rD (K:PySem.W.Frag) (H0:Hp) (W:Addr->Prop) (H:Hp) (Q:PK) (Q':VK):Prop:=∀ v H' x g,aA H H'->aH K (Mg H0 W H g) H' v x->Q x g->Q' v H'
noncomputable def LE (X:Cx) (t:aF):TE:=fun σ H Q'=>∃ (W:Addr->Prop) (ρ:bJ) (Q:PK),PX X.K X.H₀ W σ ρ H/\t ρ Q/\rD X.K X.H₀ W H Q Q'
noncomputable def LT (X:Cx) (t:c7):TT:=fun σ H Q'=>∃ (W:Addr->Prop) (ρ:bJ) (Q:Bool->Prop),PX X.K X.H₀ W σ ρ H/\t ρ Q/\∀ b H',aA H H'->Q b->Q' b H'
noncomputable def LA (X:Cx) (t:cW):TA:=fun σ H Q'=>∃ (W:Addr->Prop) (ρ:bJ) (Q:List (PV × Tg)->Prop),PX X.K X.H₀ W σ ρ H/\t ρ Q/\∀ vs H' xs,aA H H'->hJ X.K X.H₀ W H H' vs xs->Q xs->Q' vs H'
theorem hJ.same {K:PySem.W.Frag}{H0:Hp}{W:Addr->Prop}{Hs Hs' H H':Hp} (s:aA H H') (b:aA Hs' Hs):∀ {vs:List V}{xs:List (PV × Tg)},hJ K H0 W Hs H vs xs->hJ K H0 W Hs' H' vs xs
 | _,_,.nil=>.nil
 | _,_,.cons r t=>.cons (r.same s fun _ z=>Mg.back b z) (t.same s b)
theorem hJ.any {K:PySem.W.Frag}{H0:Hp}{W:Addr->Prop}{Hs H:Hp}:∀ {vs:List V}{xs:List (PV × Tg)},hJ K H0 W Hs H vs xs->Reps K (fun _=>True) H vs (xs.map (·.1))
 | _,_,.nil=>.nil
 | _,_,.cons r t=>.cons (r.same (aA.refl _) fun _ _=>trivial) t.any
noncomputable def Nw:Tg->PV->Prop
 | .fr,_=>True
 | .nw,_=>True
 | _,x=>flat x=true
noncomputable def mR (xs:List (PV × Tg)):Prop:=∀ p ∈ xs,Nw p.2 p.1
section
variable {K : PySem.W.Frag} {H0 Hs H : Hp} {W : Addr → Prop} {σ : St} {ρ : bJ}
theorem Nw.rep {g:Tg}{x:PV}{v:V} (px:PX K H0 W σ ρ Hs) (n:Nw g x) (r:aH K (Mg H0 W Hs g) H v x):aH K (Ms H0 W true) H v x:=by
 cases g with
 | fr=>exact r.same (aA.refl _) fun a z=>px.new z
 | nw=>exact r.same (aA.refl _) fun a z=>z
 | sh=>exact r.flat n
 | rd=>exact r.flat n
theorem mR.reps {vs:List V}:∀ {xs:List (PV × Tg)}{vs:List V},PX K H0 W σ ρ Hs->mR xs->hJ K H0 W Hs H vs xs->Reps K (Ms H0 W true) H vs (xs.map (·.1))
 | _,_,px,n,.nil=>.nil
 | _,_,px,n,.cons r t=>.cons (Nw.rep px (n _ bh2) r) (mR.reps (vs:=vs) px (fun p hp=>n p (bh8 _ hp)) t)
theorem O1 {v:V}{m:Slot} (r:O0 K H0 W H v m):aH K (Mg H0 W Hs m.tag) H v m.val:=by
 cases m with
 | sh g x=>
  cases g with
  | true=>exact aH.same r (aA.refl _) fun _ z=>z
  | false=>exact aH.same r (aA.refl _) fun _ z=>z
 | own x=>
  obtain ⟨a,rfl,_,r⟩:=r
  exact r.rep (fun _ _=>trivial) trivial
end
section
variable {X : Cx} {σ : St} {H : Hp} {Q' : VK} {ta tb : aF}
noncomputable def a5 (i:Nat):aF:=fun ρ Q=>∃ m,ρ[i]? = some (some m)/\Q m.val m.tag
noncomputable def qC (x:PV):aF:=fun _ Q=>Q x .fr
theorem az7 {i:Nat} (h:LE X (a5 i) σ H Q'):i8 i σ H Q':=by
 obtain ⟨W,ρ,Q,px,⟨m,e,q⟩,k⟩:=h
 obtain ⟨v,ev,r⟩:=px.sl i m e
 exact⟨v,ev,k v H _ _ (aA.refl _) (O1 r) q⟩
theorem rE {x:PV}{v:V} (hr:∀ M,aH X.K M H v x) (h:LE X (qC x) σ H Q'):tC v σ H Q':=by
 obtain ⟨W,ρ,Q,px,q,k⟩:=h
 exact k v H _ _ (aA.refl _) (hr _) q
noncomputable def eN (X:Cx) (R:PV->Tg->PV->Tg->PK->Prop) (r:R2):Prop:=∀ (W:Addr->Prop) (Hs H:Hp) (u v:V) (x y:PV) (g g':Tg) (Q:PK) (Q':VK),aA Hs H->
 (∀ a,Hs a=none->¬ W a/\X.H₀ a=none)->aH X.K (Mg X.H₀ W Hs g) H u x->aH X.K (Mg X.H₀ W Hs g') H v y->R x g y g' Q->(∀ w H' z gz,aA H H'->aH X.K (Mg X.H₀ W Hs gz) H' w z->Q z gz->Q' w H')->r u v H Q'
noncomputable def q2 (R:PV->Tg->PV->Tg->PK->Prop) (ta tb:aF):aF:=fun ρ Q=>ta ρ fun x g=>tb ρ fun y g'=>R x g y g' Q
theorem rF {R:PV->Tg->PV->Tg->PK->Prop}{r:R2} (c:eN X R r) (h:LE X (q2 R ta tb) σ H Q'):o9 r (LE X ta) (LE X tb) σ H Q':=by
 obtain ⟨W,ρ,Q,px,q,k⟩:=h
 refine⟨W,ρ,_,px,q,fun u H1 x g s1 r1 q1=>⟨W,ρ,_,px.mono s1,q1,fun v H2 y g' s2 r2 q2=>?_⟩⟩
 exact c W H H2 u v x y g g' Q Q' (s1.trans s2) (fun a z=>px.new z) (r1.same s2 fun _ z=>z) (r2.same (aA.refl _) fun _ z=>Mg.back s1 z) q2 fun w H' z gz s3 r3 q3=>k w H' z gz ((s1.trans s2).trans s3) r3 q3
noncomputable def RI (C:Int->Int->Prop) (f:Int->Int->PV):PV->Tg->PV->Tg->PK->Prop:=fun x _ y _ Q=>∃ i j,x = .int i/\y = .int j/\C i j/\Q (f i j) .fr
noncomputable def gK (f:Int->Int->PV):PV->Tg->PV->Tg->PK->Prop:=fun x _ y _ Q=>∃ i j,x = .int i/\y = .int j/\Q (f i j) .fr
theorem wC {C:Int->Int->Prop}{f:Int->Int->Int}:eN X (RI C fun i j=>.int (f i j)) (rI C fun i j=>.int (f i j)):=by
 rintro W Hs H u v x y g g' Q Q' s n r1 r2 ⟨i,j,rfl,rfl,c,q⟩ k
 cases r1; cases r2
 exact⟨i,j,rfl,rfl,c,k _ _ _ _ (aA.refl _) (.int _) q⟩
theorem O3 {f:Int->Int->Int}:eN X (gK fun i j=>.int (f i j)) (j7 fun i j=>.int (f i j)):=by
 rintro W Hs H u v x y g g' Q Q' s n r1 r2 ⟨i,j,rfl,rfl,q⟩ k
 cases r1; cases r2
 exact⟨i,j,rfl,rfl,k _ _ _ _ (aA.refl _) (.int _) q⟩
theorem rG {f:Int->Int->Bool}:eN X (gK fun i j=>.bl (f i j)) (j7 fun i j=>.bl (f i j)):=by
 rintro W Hs H u v x y g g' Q Q' s n r1 r2 ⟨i,j,rfl,rfl,q⟩ k
 cases r1; cases r2
 exact⟨i,j,rfl,rfl,k _ _ _ _ (aA.refl _) (.bl _) q⟩
noncomputable def lC (neg:Bool):PV->Tg->PV->Tg->PK->Prop:=fun x _ y _ Q=>(∃ i j,x = .int i/\y = .int j/\Q (.bl (if neg=true then !decide (i=j) else decide (i=j))) .fr) ∨ (∃ i j,x = .bl i/\y = .bl j/\Q (.bl (if neg=true then !decide (i=j) else decide (i=j))) .fr)
theorem O4 (i j:Int):decide (V.int i=V.int j)=decide (i=j):=by
 rw [bp9,bk9,bk9]; exact⟨fun z=>V.int.inj z,fun z=>congrArg V.int z⟩
theorem O5 (i j:Bool):decide (V.bl i=V.bl j)=decide (i=j):=by
 rw [bp9,bk9,bk9]; exact⟨fun z=>V.bl.inj z,fun z=>congrArg V.bl z⟩
theorem O6:eN X (lC false) B8:=by
 rintro W Hs H u v x y g g' Q Q' s n r1 r2 (⟨i,j,rfl,rfl,q⟩ | ⟨i,j,rfl,rfl,q⟩) k
 ·cases r1; cases r2
  exact⟨rfl,by rw [O4]; exact k _ _ _ _ (aA.refl _) (.bl _) q⟩
 ·cases r1; cases r2
  exact⟨rfl,by rw [O5]; exact k _ _ _ _ (aA.refl _) (.bl _) q⟩
theorem az8:eN X (lC true) uM:=by
 rintro W Hs H u v x y g g' Q Q' s n r1 r2 (⟨i,j,rfl,rfl,q⟩ | ⟨i,j,rfl,rfl,q⟩) k
 ·cases r1; cases r2
  exact⟨rfl,by rw [O4]; exact k _ _ _ _ (aA.refl _) (.bl _) q⟩
 ·cases r1; cases r2
  exact⟨rfl,by rw [O5]; exact k _ _ _ _ (aA.refl _) (.bl _) q⟩
noncomputable def aZ (t:aF):c7:=fun ρ Q=>t ρ fun x _=>∃ b,x = .bl b/\Q b
theorem rH {t:aF}{Q':Bool->Hp->Prop} (h:LT X (aZ t) σ H Q'):LE X t σ H fun x H'=>∃ k,x = .bl k/\Q' k H':=by
 obtain ⟨W,ρ,Q,px,q,k⟩:=h
 refine⟨W,ρ,_,px,q,?_⟩
 rintro v H1 x g s r ⟨b,rfl,q⟩
 cases r
 exact⟨b,rfl,k _ _ s q⟩
noncomputable def k9 (t u:c7):c7:=fun ρ Q=>t ρ fun c=>if c=true then u ρ Q else Q false
noncomputable def kA (t u:c7):c7:=fun ρ Q=>t ρ fun c=>if c=true then Q true else u ρ Q
noncomputable def gL (t:c7):c7:=fun ρ Q=>t ρ fun c=>Q (!c)
variable {t u : c7} {Qb : Bool → Hp → Prop}
theorem az9 (h:LT X (k9 t u) σ H Qb):zY (LT X t) (LT X u) σ H Qb:=by
 obtain ⟨W,ρ,Q,px,q,k⟩:=h
 refine⟨W,ρ,_,px,q,fun b H1 s1 q1=>?_⟩
 cases b with
 | true=>exact bH ⟨W,ρ,Q,px.mono s1,by simpa using q1,fun b H2 s2 q2=>k _ _ (s1.trans s2) q2⟩
 | false=>exact bD (k _ _ s1 (by simpa using q1))
theorem aA0 (h:LT X (kA t u) σ H Qb):zZ (LT X t) (LT X u) σ H Qb:=by
 obtain ⟨W,ρ,Q,px,q,k⟩:=h
 refine⟨W,ρ,_,px,q,fun b H1 s1 q1=>?_⟩
 cases b with
 | false=>exact bD ⟨W,ρ,Q,px.mono s1,by simpa using q1,fun b H2 s2 q2=>k _ _ (s1.trans s2) q2⟩
 | true=>exact bH (k _ _ s1 (by simpa using q1))
theorem aA1 (h:LT X (gL t) σ H Qb):A0 (LT X t) σ H Qb:=by
 obtain ⟨W,ρ,Q,px,q,k⟩:=h
 exact⟨W,ρ,_,px,q,fun b H1 s1 q1=>k _ _ s1 q1⟩
noncomputable def lD (ta tb:aF):aF:=fun ρ Q=>ta ρ fun x _=>∃ c,x = .bl c/\if c=true then tb ρ Q else Q (.bl false) .fr
noncomputable def rJ (ta tb:aF):aF:=fun ρ Q=>ta ρ fun x _=>∃ c,x = .bl c/\if c=true then Q (.bl true) .fr else tb ρ Q
noncomputable def rK (ta:aF):aF:=fun ρ Q=>ta ρ fun x _=>∃ c,x = .bl c/\Q (.bl (!c)) .fr
theorem rD.back {K:PySem.W.Frag}{H0:Hp}{W:Addr->Prop}{H H1:Hp}{Q:PK} (k:rD K H0 W H Q Q') (s:aA H H1):rD K H0 W H1 Q Q':=fun v H' x g s' r q=>k v H' x g (s.trans s') (r.same (aA.refl _) fun _ z=>Mg.back s z) q
theorem aA2 (h:LE X (lD ta tb) σ H Q'):A1 (LE X ta) (LE X tb) σ H Q':=by
 obtain ⟨W,ρ,Q,px,q,k⟩:=h
 refine⟨W,ρ,_,px,q,?_⟩
 rintro v H1 x g s1 r ⟨c,rfl,q⟩
 cases r
 refine⟨c,rfl,?_⟩
 cases c with
 | true=>exact bH ⟨W,ρ,Q,px.mono s1,by simpa using q,k.back s1⟩
 | false=>exact bD (k _ _ _ _ s1 (.bl _) (by simpa using q))
theorem aA3 (h:LE X (rJ ta tb) σ H Q'):A2 (LE X ta) (LE X tb) σ H Q':=by
 obtain ⟨W,ρ,Q,px,q,k⟩:=h
 refine⟨W,ρ,_,px,q,?_⟩
 rintro v H1 x g s1 r ⟨c,rfl,q⟩
 cases r
 refine⟨c,rfl,?_⟩
 cases c with
 | false=>exact bD ⟨W,ρ,Q,px.mono s1,by simpa using q,k.back s1⟩
 | true=>exact bH (k _ _ _ _ s1 (.bl _) (by simpa using q))
theorem aA4 (h:LE X (rK ta) σ H Q'):A3 (LE X ta) σ H Q':=by
 obtain ⟨W,ρ,Q,px,q,k⟩:=h
 refine⟨W,ρ,_,px,q,?_⟩
 rintro v H1 x g s1 r ⟨c,rfl,q⟩
 cases r
 exact⟨c,rfl,k _ _ _ _ s1 (.bl _) q⟩
noncomputable def a9:cW:=fun _ Q=>Q []
noncomputable def a7 (te:aF) (tr:cW):cW:=fun ρ Q=>te ρ fun x g=>tr ρ fun xs=>Q ((x,g) :: xs)
variable {Qa : List V → Hp → Prop} {tr : cW}
theorem aA5 (h:LA X a9 σ H Qa):jY σ H Qa:=by
 obtain ⟨W,ρ,Q,px,q,k⟩:=h
 exact k _ _ _ (aA.refl _) .nil q
theorem aA6 (h:LA X (a7 ta tr) σ H Qa):iS (LE X ta) (LA X tr) σ H Qa:=by
 obtain ⟨W,ρ,Q,px,q,k⟩:=h
 refine⟨W,ρ,_,px,q,fun v H1 x g s1 r1 q1=>⟨W,ρ,_,px.mono s1,q1,fun vs H2 xs s2 r2 q2=>?_⟩⟩
 exact k _ _ _ (s1.trans s2) (.cons (r1.same s2 fun _ z=>z) (r2.same (aA.refl _) s1)) q2
noncomputable def wD (t:cW):aF:=fun ρ Q=>t ρ fun xs=>xs.length<=1000/\mR xs/\Q (.tup (xs.map (·.1))) .nw
noncomputable def g6 (t:cW):aF:=fun ρ Q=>t ρ fun xs=>xs.length<=1000/\flats (xs.map (·.1))=true/\Q (.tup (xs.map (·.1))) .fr
noncomputable def eO (t:cW):aF:=fun ρ Q=>t ρ fun xs=>xs.length<=1000/\flats (xs.map (·.1))=true/\Q (.lst (xs.map (·.1))) .fr
theorem hJ.length {K:PySem.W.Frag}{H0:Hp}{W:Addr->Prop}{Hs H:Hp}:∀ {vs:List V}{xs:List (PV × Tg)},hJ K H0 W Hs H vs xs->vs.length=xs.length
 | _,_,.nil=>rfl
 | _,_,.cons _ t=>congrArg (· + 1) t.length
theorem rL {n:Nat} (h:n<=1000):n<=sizeLine:=bl7 (qQ h)
theorem aA7 (h:LE X (wD tr) σ H Q'):uR (LA X tr) σ H Q':=by
 obtain ⟨W,ρ,Q,px,q,k⟩:=h
 refine⟨W,ρ,_,px,q,?_⟩
 rintro vs H1 xs s1 r ⟨hl,n,q⟩
 refine⟨by rw [r.length]; exact rL hl,fun p hp=>k _ _ _ .nw (s1.trans (bI hp _)) (.tup bK ?_) q⟩
 exact (mR.reps (vs:=vs) px n r).same (bI hp _) fun _ z=>z
theorem aA8 (h:LE X (g6 tr) σ H Q'):uR (LA X tr) σ H Q':=by
 obtain ⟨W,ρ,Q,px,q,k⟩:=h
 refine⟨W,ρ,_,px,q,?_⟩
 rintro vs H1 xs s1 r ⟨hl,n,q⟩
 refine⟨by rw [r.length]; exact rL hl,fun p hp=>k _ _ _ .fr (s1.trans (bI hp _)) (.tup bK ?_) q⟩
 exact (r.any.flat n).same (bI hp _) fun _ z=>z
theorem aA9 (h:LE X (eO tr) σ H Q'):C6 (LA X tr) σ H Q':=by
 obtain ⟨W,ρ,Q,px,q,k⟩:=h
 refine⟨W,ρ,_,px,q,?_⟩
 rintro vs H1 xs s1 r ⟨hl,n,q⟩
 refine⟨by rw [r.length]; exact rL hl,fun p hp=>k _ _ _ .fr (s1.trans (bI hp _)) (.lst (s1.free hp) bK ?_) q⟩
 exact (r.any.flat n).same (bI hp _) fun _ z=>z
noncomputable def hV (X:Cx) (R:List PV->(PV->Prop)->Prop) (r:List V->Hp->VK->Prop):Prop:=∀ (H:Hp) (vs:List V) (xs:List PV) (Q:PV->Prop) (Q':VK),Reps X.K (fun _=>True) H vs xs->R xs Q->
 (∀ w H' z,aA H H'->aH X.K (fun a=>H a=none) H' w z->Q z->Q' w H')->r vs H Q'
noncomputable def aD (R:List PV->(PV->Prop)->Prop) (t:cW):aF:=fun ρ Q=>t ρ fun xs=>R (xs.map (·.1)) fun z=>Q z .fr
theorem O7 {R:List PV->(PV->Prop)->Prop}{r:List V->Hp->VK->Prop} (c:hV X R r) (h:LE X (aD R tr) σ H Q'):uV r (LA X tr) σ H Q':=by
 obtain ⟨W,ρ,Q,px,q,k⟩:=h
 refine⟨W,ρ,_,px,q,fun vs H1 xs s1 r1 q1=>c H1 vs _ _ Q' r1.any q1 fun w H' z s2 r2 q2=>k w H' z .fr (s1.trans s2) (r2.same (aA.refl _) fun _ z=>s1.free z) q2⟩
end
structure gM where
 nx:bJ->Prop
 rt:PV->Prop
 bk:bJ->Prop:=fun _=>False
 ct:bJ->Prop:=fun _=>False
noncomputable abbrev aK:=gM->bJ->Prop
noncomputable def Ev (W:Addr->Prop) (H:Hp) (W':Addr->Prop) (H':Hp):Prop:=∀ b o,H b=some o->¬ W b->H' b=some o/\¬ W' b
theorem Ev.trans {W W1 W2:Addr->Prop}{H H1 H2:Hp} (a:Ev W H W1 H1) (b:Ev W1 H1 W2 H2):Ev W H W2 H2:=fun c o h n=>let ⟨h1,n1⟩:=a c o h n; b c o h1 n1
theorem Ev.same {W:Addr->Prop}{H H':Hp} (s:aA H H'):Ev W H W H':=fun c o h n=>⟨s _ _ h,n⟩
theorem Ev.refl (W:Addr->Prop) (H:Hp):Ev W H W H:=Ev.same (aA.refl _)
structure oQ (X:Cx) (W:Addr->Prop) (H:Hp) (D':gM) (D:cT):Prop where
 nx:∀ W' σ' H' ρ',Ev W H W' H'->PX X.K X.H₀ W' σ' ρ' H'->D'.nx ρ'->D.nx σ' H'
 rt:∀ v H' x,aA X.H₀ H'->aH X.K (fun a=>X.H₀ a=none) H' v x->D'.rt x->D.rt v H'
 bk:∀ W' σ' H' ρ',Ev W H W' H'->PX X.K X.H₀ W' σ' ρ' H'->D'.bk ρ'->D.bk σ' H'
 ct:∀ W' σ' H' ρ',Ev W H W' H'->PX X.K X.H₀ W' σ' ρ' H'->D'.ct ρ'->D.ct σ' H'
theorem oQ.step {X:Cx}{W W1:Addr->Prop}{H H1:Hp}{D':gM}{D:cT} (k:oQ X W H D' D) (e:Ev W H W1 H1):oQ X W1 H1 D' D:=
 ⟨fun W' σ' H' ρ' e'=>k.nx W' σ' H' ρ' (e.trans e'),k.rt,fun W' σ' H' ρ' e'=>k.bk W' σ' H' ρ' (e.trans e'),fun W' σ' H' ρ' e'=>k.ct W' σ' H' ρ' (e.trans e')⟩
noncomputable def LS (X:Cx) (t:aK):TS:=fun D σ H=>∃ (W:Addr->Prop) (ρ:bJ) (D':gM),PX X.K X.H₀ W σ ρ H/\t D' ρ/\oQ X W H D' D
theorem fA {α:Type}{l:List α}{i j:Nat}{a b:α} (h:(l.set i a)[j]? = some b):(j=i/\i < l.length/\b=a) ∨ (j ≠ i/\l[j]? = some b):=by
 by_cases e:j=i
 ·subst e
  have hl:j < (l.set j a).length:=(bh3.mp h).1
  rw [bl1] at hl
  rw [bo0 hl] at h
  exact .inl ⟨rfl,hl,(bj9 h).symm⟩
 ·rw [bk2 (Ne.symm e)] at h
  exact .inr ⟨e,h⟩
section
variable {K : PySem.W.Frag} {H0 : Hp} {W W' : Addr → Prop} {σ : St} {ρ : bJ} {H H' Hs : Hp}
theorem PX.setSh {i:Nat}{v:V}{g:Bool}{x:PV} (p:PX K H0 W σ ρ H) (r:aH K (Ms H0 W g) H v x):PX K H0 W (σ.set i (some v)) (ρ.set i (some (.sh g x))) H:=by
 refine⟨by rw [bl1,bl1]; exact p.len,p.same,p.wm,fun j m h=>?_,fun j k y z a h1 h2 h3 h4=>?_⟩
 ·rcases fA h with ⟨rfl,hl,e⟩ | ⟨hne,h⟩
  ·cases e
   rw [p.len] at hl
   exact⟨v,bo0 hl,r⟩
  ·obtain ⟨u,e,q⟩:=p.sl j m h
   exact⟨u,by rw [bk2 (Ne.symm hne)]; exact e,q⟩
 ·rcases fA h1 with ⟨_,_,e⟩ | ⟨n1,h1⟩
  ·cases e
  ·rcases fA h2 with ⟨_,_,e⟩ | ⟨n2,h2⟩
   ·cases e
   ·rw [bk2 (Ne.symm n1)] at h3
    rw [bk2 (Ne.symm n2)] at h4
    exact p.dis j k y z a h1 h2 h3 h4
theorem PX.setNone {i:Nat}{o:Option V} (p:PX K H0 W σ ρ H):PX K H0 W (σ.set i o) (ρ.set i none) H:=by
 refine⟨by rw [bl1,bl1]; exact p.len,p.same,p.wm,fun j m h=>?_,fun j k y z a h1 h2 h3 h4=>?_⟩
 ·rcases fA h with ⟨rfl,hl,e⟩ | ⟨hne,h⟩
  ·cases e
  ·obtain ⟨u,e,q⟩:=p.sl j m h
   exact⟨u,by rw [bk2 (Ne.symm hne)]; exact e,q⟩
 ·rcases fA h1 with ⟨_,_,e⟩ | ⟨n1,h1⟩
  ·cases e
  ·rcases fA h2 with ⟨_,_,e⟩ | ⟨n2,h2⟩
   ·cases e
   ·rw [bk2 (Ne.symm n1)] at h3
    rw [bk2 (Ne.symm n2)] at h4
    exact p.dis j k y z a h1 h2 h3 h4
noncomputable def mS (W:Addr->Prop) (a:Addr):Addr->Prop:=fun b=>W b ∨ b=a
theorem wE {g:Bool}{a b:Addr} (n:b ≠ a) (h:Ms H0 W g b):Ms H0 (mS W a) g b:=by
 cases g with
 | true=>exact⟨fun z=>z.elim h.1 n,h.2⟩
 | false=>exact fun z=>z.elim h n
theorem PX.setOwn {i:Nat}{a:Addr}{x:PV} (p:PX K H0 W σ ρ Hs) (s:aA Hs H) (ha:Hs a=none) (r:iF K (Ms H0 (mS W a) true) H a x):PX K H0 (mS W a) (σ.set i (some (.ref a))) (ρ.set i (some (.own x))) H:=by
 have old:∀ b o,Hs b=some o->b ≠ a:=fun b o e z=>by rw [z,ha] at e; cases e
 have kp:∀ g,iE (Ms H0 W g) (Ms H0 (mS W a) g) Hs H:=fun g=>⟨fun b _ m e=>⟨wE (old _ _ e) m,s _ _ e⟩,fun b _ m e=>⟨wE (old _ _ e) m,s _ _ e⟩,fun b _ m e=>⟨wE (old _ _ e) m,s _ _ e⟩,fun _ _ e=>s _ _ e,fun _ _ _ e=>s _ _ e⟩
 have wa : ¬ W a:=(p.new ha).1
 refine⟨by rw [bl1,bl1]; exact p.len,p.same.trans s,fun b z=>?_,fun j m h=>?_,fun j k y z b h1 h2 h3 h4=>?_⟩
 ·rcases z with z | rfl
  ·obtain ⟨h1,o,h2,h3⟩:=p.wm b z
   exact⟨h1,o,s _ _ h2,h3⟩
  ·exact⟨(p.new ha).2,r.at⟩
 ·rcases fA h with ⟨rfl,hl,e⟩ | ⟨hne,h⟩
  ·cases e
   rw [p.len] at hl
   exact⟨_,bo0 hl,a,rfl,.inr rfl,r⟩
  ·obtain ⟨u,e,q⟩:=p.sl j m h
   refine⟨u,by rw [bk2 (Ne.symm hne)]; exact e,?_⟩
   cases m with
   | sh g y=>exact aH.keep (kp g) q
   | own y=>
    obtain ⟨b,e1,e2,q⟩:=q
    exact⟨b,e1,.inl e2,q.keep (kp true) fun o z=>s _ _ z⟩
 ·have ne:∀ {j:Nat}{y:PV},ρ[j]? = some (some (.own y))->σ[j]? ≠ some (some (.ref a)):=fun {j y} h1 h2=>by
   obtain ⟨u,e,c,e1,e2,_⟩:=p.sl j _ h1
   rw [h2] at e
   cases e
   cases e1
   exact wa e2
  rcases fA h1 with ⟨e1,l1,_⟩ | ⟨n1,h1⟩
  ·rcases fA h2 with ⟨e2,_,_⟩ | ⟨n2,h2⟩
   ·rw [e1,e2]
   ·rw [e1,bo0 (by rw [<- p.len]; exact l1)] at h3
    rw [bk2 (Ne.symm n2)] at h4
    cases h3
    exact absurd h4 (ne h2)
  ·rw [bk2 (Ne.symm n1)] at h3
   rcases fA h2 with ⟨e2,l2,_⟩ | ⟨n2,h2⟩
   ·rw [e2,bo0 (by rw [<- p.len]; exact l2)] at h4
    cases h4
    exact absurd h3 (ne h1)
   ·rw [bk2 (Ne.symm n2)] at h4
    exact p.dis j k y z b h1 h2 h3 h4
theorem Ev.own {a:Addr} (s:aA Hs H) (ha:Hs a=none):Ev W Hs (mS W a) H:=fun b o e n=>⟨s _ _ e,fun z=>z.elim n fun z=>by rw [z,ha] at e; cases e⟩
theorem lE {g:Bool}{a b:Addr} (wa:W a) (h:Ms H0 W g b):b ≠ a:=by
 cases g with
 | true=>exact fun z=>h.1 (by rw [z]; exact wa)
 | false=>exact fun z=>h (by rw [z]; exact wa)
theorem PX.updOwn {i:Nat}{a:Addr}{x y:PV}{o:HO} (p:PX K H0 W σ ρ H) (hi:ρ[i]? = some (some (.own x))) (ha:σ[i]? = some (some (.ref a))) (wa:W a) (mu:jI o=true) (r:iF K (Ms H0 W true) (upd H a o) a y) :
  PX K H0 W σ (ρ.set i (some (.own y))) (upd H a o):=by
 obtain ⟨w0,o',e',mu'⟩:=p.wm a wa
 have kp:∀ g,iE (Ms H0 W g) (Ms H0 W g) H (upd H a o):=fun g=>.upd e' mu' fun b m=>⟨lE wa m,m⟩
 refine⟨by rw [bl1]; exact p.len,fun b u e=>by rw [aW (fun z=>by rw [z,w0] at e; cases e)]; exact p.same _ _ e,fun b z=>?_,fun j m h=>?_,fun j k y' z b h1 h2 h3 h4=>?_⟩
 ·by_cases e:b=a
  ·subst e; exact⟨w0,o,bK,mu⟩
  ·obtain ⟨h1,o2,h2,h3⟩:=p.wm b z
   exact⟨h1,o2,by rw [aW e]; exact h2,h3⟩
 ·rcases fA h with ⟨rfl,hl,e⟩ | ⟨hne,h⟩
  ·cases e
   exact⟨_,ha,a,rfl,wa,r⟩
  ·obtain ⟨u,e,q⟩:=p.sl j m h
   refine⟨u,e,?_⟩
   cases m with
   | sh g y=>exact aH.keep (kp g) q
   | own y=>
    obtain ⟨b,e1,e2,q⟩:=q
    have hb:b ≠ a:=fun z=>by
     subst e1
     rw [z] at e
     exact hne (p.dis j i _ _ a h hi e ha)
    exact⟨b,e1,e2,q.keep (kp true) fun o z=>by rw [aW hb]; exact z⟩
 ·have g1:∃ y,ρ[j]? = some (some (.own y)):=by
   rcases fA h1 with ⟨e,_,_⟩ | ⟨_,h⟩
   ·exact⟨x,by rw [e]; exact hi⟩
   ·exact⟨_,h⟩
  have g2:∃ y,ρ[k]? = some (some (.own y)):=by
   rcases fA h2 with ⟨e,_,_⟩ | ⟨_,h⟩
   ·exact⟨x,by rw [e]; exact hi⟩
   ·exact⟨_,h⟩
  obtain ⟨y1,g1⟩:=g1
  obtain ⟨y2,g2⟩:=g2
  exact p.dis j k y1 y2 b g1 g2 h3 h4
theorem Ev.upd {a:Addr}{o:HO} (wa:W a):Ev W H W (upd H a o):=fun b u e n=>⟨by rw [aW (fun z=>n (by rw [z]; exact wa))]; exact e,n⟩
noncomputable def oR (W:Addr->Prop) (a:Addr):Addr->Prop:=fun b=>W b/\b ≠ a
theorem wF {g:Bool}{a b:Addr} (h:Ms H0 W g b):Ms H0 (oR W a) g b:=by
 cases g with
 | true=>exact⟨fun z=>h.1 z.1,h.2⟩
 | false=>exact fun z=>h z.1
theorem PX.freeze {i:Nat}{a:Addr}{x:PV} (p:PX K H0 W σ ρ H) (hi:ρ[i]? = some (some (.own x))) (ha:σ[i]? = some (some (.ref a))):PX K H0 (oR W a) σ (ρ.set i (some (.sh true x))) H:=by
 obtain ⟨v,ev,a',e1,wa,r⟩:=p.sl i _ hi
 rw [ha] at ev
 cases ev
 cases e1
 refine⟨by rw [bl1]; exact p.len,p.same,fun b z=>p.wm b z.1,fun j m h=>?_,fun j k y' z b h1 h2 h3 h4=>?_⟩
 ·rcases fA h with ⟨rfl,hl,e⟩ | ⟨hne,h⟩
  ·cases e
   exact⟨_,ha,r.rep (M':=Ms H0 (oR W a) true) (fun b m=>wF (g:=true) m) (show Ms H0 (oR W a) true a from ⟨fun z=>z.2 rfl,(p.wm a wa).1⟩)⟩
  ·obtain ⟨u,e,q⟩:=p.sl j m h
   refine⟨u,e,?_⟩
   cases m with
   | sh g y=>exact aH.same q (aA.refl _) fun _ m=>wF m
   | own y=>
    obtain ⟨b,e1,e2,q⟩:=q
    have hb:b ≠ a:=fun z=>by
     subst e1
     rw [z] at e
     exact hne (p.dis j i _ _ a h hi e ha)
    exact⟨b,e1,⟨e2,hb⟩,q.keep (.same (aA.refl _) fun _ m=>wF m) fun _ z=>z⟩
 ·rcases fA h1 with ⟨_,_,e⟩ | ⟨_,h1⟩
  ·cases e
  ·rcases fA h2 with ⟨_,_,e⟩ | ⟨_,h2⟩
   ·cases e
   ·exact p.dis j k _ _ b h1 h2 h3 h4
theorem Ev.off {a:Addr}:Ev W H (oR W a) H:=fun b u e n=>⟨e,fun z=>n z.1⟩
end
section
variable {X : Cx} {σ : St} {H : Hp} {D : cT} {te : aF} {t u : aK}
noncomputable def cF:aK:=fun D ρ=>D.nx ρ
noncomputable def aB (t u:aK):aK:=fun D ρ=>t { D with nx:=u D } ρ
theorem aB0 (h:LS X cF D σ H):uC D σ H:=by
 obtain ⟨W,ρ,D',px,q,k⟩:=h
 exact k.nx W σ H ρ (Ev.refl _ _) px q
theorem aB1 (h:LS X (aB t u) D σ H):A5 (LS X t) (LS X u) D σ H:=by
 obtain ⟨W,ρ,D',px,q,k⟩:=h
 exact⟨W,ρ,_,px,q,fun W' σ' H' ρ' e px' q'=>⟨W',ρ',D',px',q',k.step e⟩,k.rt,k.bk,k.ct⟩
noncomputable def O8:Tg->PV->Bool
 | .fr,_=>true
 | .nw,_=>true
 | _,x=>flat x
noncomputable def O9:Tg->PV->Prop
 | .rd,x=>flat x=true
 | _,_=>True
theorem aB2 {K:PySem.W.Frag}{H0 Hs H:Hp}{W:Addr->Prop}{σ:St}{ρ:bJ}{g:Tg}{x:PV}{v:V} (px:PX K H0 W σ ρ Hs) (n:O9 g x) (r:aH K (Mg H0 W Hs g) H v x):aH K (Ms H0 W (O8 g x)) H v x:=by
 cases g with
 | fr=>exact Nw.rep (g:=.fr) px trivial r
 | nw=>exact Nw.rep (g:=.nw) px trivial r
 | sh=>
  show aH K (Ms H0 W (flat x)) H v x
  cases e:flat x with
  | true=>exact r.flat e
  | false=>exact r.same (aA.refl _) fun _ z=>z
 | rd=>exact r.flat n
noncomputable def b6 (i:Nat) (te:aF):aK:=fun D ρ=>te ρ fun x g=>O9 g x/\D.nx (ρ.set i (some (.sh (O8 g x) x)))
theorem wG {i:Nat} (h:LS X (b6 i te) D σ H):jW (LE X te) (cU i) D σ H:=by
 obtain ⟨W,ρ,D',px,q,k⟩:=h
 refine⟨W,ρ,_,px,q,?_⟩
 rintro v H1 x g s r ⟨n,q⟩
 exact k.nx W _ H1 _ (Ev.same s) ((px.mono s).setSh (aB2 px n r)) q
noncomputable def P0:PV->Bool
 | .lst xs=>flats xs
 | .dK ps=>flats (ps.map (·.2))
 | .dT ps=>flats (ps.map (·.2))
 | _=>false
theorem aB3 {K:PySem.W.Frag}{M:Addr->Prop}{H:Hp}{v:V}{x:PV} (r:aH K M H v x) (o:P0 x=true):∃ a,v = .ref a/\M a/\∀ M',iF K M' H a x:=by
 cases r with
 | lst m e r=>exact⟨_,rfl,m,fun _=>⟨_,e,r.flat o⟩⟩
 | dK m e q r=>exact⟨_,rfl,m,fun _=>⟨_,e,q,r.flat o⟩⟩
 | dT m e q r=>exact⟨_,rfl,m,fun _=>⟨_,e,q,r.flat o⟩⟩
 | _=>cases o
noncomputable def dB (i:Nat) (te:aF):aK:=fun D ρ=>te ρ fun x g=>g = .fr/\P0 x=true/\D.nx (ρ.set i (some (.own x)))
theorem P3 {i:Nat} (h:LS X (dB i te) D σ H):jW (LE X te) (cU i) D σ H:=by
 obtain ⟨W,ρ,D',px,q,k⟩:=h
 refine⟨W,ρ,_,px,q,?_⟩
 rintro v H1 x g s r ⟨rfl,o,q⟩
 obtain ⟨a,rfl,m,w⟩:=aB3 r o
 exact k.nx _ _ H1 _ (Ev.own s m) (px.setOwn s m (w _)) q
noncomputable def oS (i:Nat) (t:aK):aK:=fun D ρ=>∃ x,ρ[i]? = some (some (.own x))/\t D (ρ.set i (some (.sh true x)))
theorem aB4 {i:Nat} (h:LS X (oS i t) D σ H):LS X t D σ H:=by
 obtain ⟨W,ρ,D',px,⟨x,hi,q⟩,k⟩:=h
 obtain ⟨v,ev,a,rfl,wa,r⟩:=px.sl i _ hi
 exact⟨_,_,D',px.freeze hi ev,q,k.step Ev.off⟩
noncomputable def bN (te:aF):aK:=fun D ρ=>te ρ fun x g=>Nw g x/\D.rt x
theorem aB5 (h:LS X (bN te) D σ H):qD (LE X te) D σ H:=by
 obtain ⟨W,ρ,D',px,q,k⟩:=h
 refine⟨W,ρ,_,px,q,?_⟩
 rintro v H1 x g s r ⟨n,q⟩
 exact k.rt v H1 x (px.same.trans s) ((Nw.rep px n r).same (aA.refl _) fun _ z=>z.2) q
noncomputable def Slot.nw:Slot->Prop
 | .own _=>True
 | .sh true _=>True
 | .sh false x=>flat x=true
noncomputable def kB (i:Nat):aK:=fun D ρ=>∃ m,ρ[i]? = some (some m)/\m.nw/\D.rt m.val
theorem aB6 {i:Nat} (h:LS X (kB i) D σ H):qD (i8 i) D σ H:=by
 obtain ⟨W,ρ,D',px,⟨m,hi,n,q⟩,k⟩:=h
 obtain ⟨v,ev,r⟩:=px.sl i _ hi
 refine⟨v,ev,k.rt v H _ px.same ?_ q⟩
 cases m with
 | own x=>
  obtain ⟨a,rfl,wa,r⟩:=r
  exact r.rep (fun _ z=>z.2) (px.wm a wa).1
 | sh g x=>
  cases g with
  | true=>exact aH.same r (aA.refl _) fun _ z=>z.2
  | false=>exact aH.flat n r
noncomputable def bX (c:c7) (t u:aK):aK:=fun D ρ=>c ρ fun b=>if b=true then t D ρ else u D ρ
theorem aB7 {c:c7} (h:LS X (bX c t u) D σ H):uD (LT X c) (LS X t) (LS X u) D σ H:=by
 obtain ⟨W,ρ,D',px,q,k⟩:=h
 refine⟨W,ρ,_,px,q,fun b H1 s q1=>?_⟩
 cases b with
 | true=>exact bH ⟨W,ρ,D',px.mono s,by simpa using q1,k.step (Ev.same s)⟩
 | false=>exact bD ⟨W,ρ,D',px.mono s,by simpa using q1,k.step (Ev.same s)⟩
noncomputable def lF (c:c7) (tb:aK):aK:=fun D ρ=>∃ I:Nat->bJ->Prop,(∃ m,I m ρ)/\∀ m ρ',I m ρ'->c ρ' fun b=>if b=true then tb { D with nx:=fun ρ2=>∃ m',m' < m/\I m' ρ2,ct:=fun ρ2=>∃ m',m' < m/\I m' ρ2,bk:=D.nx } ρ' else D.nx ρ'
theorem aB8 {c:c7}{tb:aK} (h:LS X (lF c tb) D σ H):A9 (LT X c) (LS X tb) D σ H:=by
 obtain ⟨W,ρ,D',px,⟨I,⟨m0,i0⟩,turn⟩,k⟩:=h
 refine⟨fun m σ2 H2=>∃ W2 ρ2,PX X.K X.H₀ W2 σ2 ρ2 H2/\Ev W H W2 H2/\I m ρ2,⟨m0,W,ρ,px,Ev.refl _ _,i0⟩,?_⟩
 rintro m σ2 H2 ⟨W2,ρ2,px2,e2,i2⟩
 refine⟨W2,ρ2,_,px2,turn m ρ2 i2,fun b H3 s3 q3=>?_⟩
 cases b with
 | true=>
  refine bH ⟨fun σ4 H4=>∃ W4 ρ4,PX X.K X.H₀ W4 σ4 ρ4 H4/\Ev W H W4 H4/\∃ m',m' < m/\I m' ρ4,fun σ4 H4 ⟨W4,ρ4,a,b,m',c,d⟩=>⟨m',c,W4,ρ4,a,b,d⟩,W2,ρ2,_,px2.mono s3,by simpa using q3,?_⟩
  have e3:Ev W H W2 H3:=e2.trans (Ev.same s3)
  exact⟨fun W' σ' H' ρ' e p q=>⟨W',ρ',p,e3.trans e,q⟩,k.rt,fun W' σ' H' ρ' e p q=>k.nx W' σ' H' ρ' (e3.trans e) p q,fun W' σ' H' ρ' e p q=>⟨W',ρ',p,e3.trans e,q⟩⟩
 | false=>exact bD (k.nx W2 σ2 H3 ρ2 (e2.trans (Ev.same s3)) (px2.mono s3) (by simpa using q3))
end
theorem lim {n:Nat} (h:n<=16000000):n<=sizeLine:=bl7 (hG h)
theorem aH.sqT {K:PySem.W.Frag}{M:Addr->Prop}{H:Hp}{v:V}{xs:List PV} (r:aH K M H v (.tup xs)):∃ a us,v = .ref a/\H a=some (.tup us)/\Reps K M H us xs:=by
 cases r with
 | tup e r=>exact⟨_,_,rfl,e,r⟩
theorem aH.sqL {K:PySem.W.Frag}{M:Addr->Prop}{H:Hp}{v:V}{xs:List PV} (r:aH K M H v (.lst xs)):∃ a us,v = .ref a/\M a/\H a=some (.lst us)/\Reps K M H us xs:=by
 cases r with
 | lst m e r=>exact⟨_,_,rfl,m,e,r⟩
theorem jH.sqL {K:PySem.W.Frag}{H:Hp}{a:Addr}{ns:List Int} (h:jH K H a ns):aN K H a (ns.map V.int):=h.elim (fun z=>.inl (.inr z)) .inr
noncomputable def lG:PV->Option (List PV)
 | .tup xs=>some xs
 | .lst xs=>some xs
 | .scr ns=>some (intz ns)
 | .kt xs=>some xs
 | _=>none
theorem aH.seq {K:PySem.W.Frag}{M:Addr->Prop}{H:Hp}{v:V}{x:PV}{xs:List PV} (r:aH K M H v x) (e:lG x=some xs):∃ a us,v = .ref a/\(aN K H a us ∨ aJ K H a us)/\Reps K M H us xs:=by
 cases r with
 | tup h r=>cases e; exact⟨_,_,rfl,.inr (aJ.of h),r⟩
 | lst m h r=>cases e; exact⟨_,_,rfl,.inl (aN.of h),r⟩
 | scr h=>cases e; exact⟨_,_,rfl,.inl h.sqL,Reps.intz _⟩
 | kt h r=>cases e; exact⟨_,_,rfl,.inr (.inr h),r⟩
 | _=>cases e
section
variable {X : Cx} {σ : St} {H : Hp} {D : cT} {te ti to : aF} {t u : aK} {Q' : VK}
theorem _root_.PP.PX.updL {K:PySem.W.Frag}{H0:Hp}{W:Addr->Prop}{σ:St}{ρ:bJ}{H:Hp}{i:Nat}{a:Addr}{x:PV}{us:List V}{ys:List PV} (p:PX K H0 W σ ρ H) (hi:ρ[i]? = some (some (.own x))) (ha:σ[i]? = some (some (.ref a))) (wa:W a) (r:Reps K (Ms H0 W true) (upd H a (.lst us)) us ys) :
  PX K H0 W σ (ρ.set i (some (.own (.lst ys)))) (upd H a (.lst us)):=p.updOwn hi ha wa rfl (y:=.lst ys) ⟨us,bK,r⟩
noncomputable def gN (i:Nat) (te:aF):aK:=fun D ρ=>∃ xs,ρ[i]? = some (some (.own (.lst xs)))/\te ρ fun x g=>Nw g x/\xs.length < 16000000/\D.nx (ρ.set i (some (.own (.lst (xs ++ [x])))))
theorem aB9 {i:Nat} (h:LS X (gN i te) D σ H):qB (qL X.K "list" G5 (i8 i) (iS (LE X te) jY)) D σ H:=by
 obtain ⟨W,ρ,D',px,⟨xs,hi,q⟩,k⟩:=h
 obtain ⟨v,ev,a,rfl,wa,us,ea,r⟩:=px.sl i _ hi
 refine⟨_,ev,k8 (aN.of ea),W,ρ,_,px,q,?_⟩
 rintro w H1 x g s rx ⟨n,hl,q⟩
 have ea1:=s _ _ ea
 refine⟨a,us,w,rfl,rfl,ea1,hG (by rw [r.length]; omega),?_⟩
 refine k.nx W σ _ _ ((Ev.same s).trans (Ev.upd wa)) ((px.mono s).updL hi ev wa ?_) q
 exact ((r.same s fun _ z=>z).append (.cons (Nw.rep px n rx) .nil)).keep (.upd ea1 rfl fun b m=>⟨lE wa m,m⟩)
noncomputable def P4 (K:PySem.W.Frag):V->List V->Hp->VK->Prop:=fun x vs H Q=>G6 x vs H Q ∨ N9 K x vs H Q
noncomputable def wH (i:Nat) (te:aF):aK:=fun D ρ=>∃ xs,ρ[i]? = some (some (.own (.lst xs)))/\te ρ fun y g=>∃ ys,(y = .tup ys ∨ y = .lst ys)/\(Nw g y ∨ flats ys=true)/\xs.length+ys.length<=16000000/\D.nx (ρ.set i (some (.own (.lst (xs ++ ys)))))
theorem aC0 {i:Nat} (h:LS X (wH i te) D σ H):qB (qL X.K "list" (P4 X.K) (i8 i) (iS (LE X te) jY)) D σ H:=by
 obtain ⟨W,ρ,D',px,⟨xs,hi,q⟩,k⟩:=h
 obtain ⟨v,ev,a,rfl,wa,us,ea,r⟩:=px.sl i _ hi
 refine⟨_,ev,k8 (aN.of ea),W,ρ,_,px,q,?_⟩
 rintro w H1 y g s ry ⟨ys,hy,n,hl,q⟩
 have ea1:=s _ _ ea
 have key:∀ (zs:List V),Reps X.K (Ms X.H₀ W true) H1 zs ys->D.nx σ (upd H1 a (.lst (us ++ zs))):=fun zs rz=>by
  refine k.nx W σ _ _ ((Ev.same s).trans (Ev.upd wa)) ((px.mono s).updL hi ev wa ?_) q
  exact ((r.same s fun _ z=>z).append rz).keep (.upd ea1 rfl fun b m=>⟨lE wa m,m⟩)
 have lr:=r.length
 rcases hy with rfl | rfl
 ·obtain ⟨b,zs,rfl,eb,rz⟩:=ry.sqT
  have lz:=rz.length
  refine .inr ⟨a,b,us,zs,rfl,rfl,ea1,aJ.of eb,lim (by omega),key zs ?_⟩
  rcases n with n | n
  ·obtain ⟨b',zs',e1,e2,rz'⟩:=(Nw.rep px n ry).sqT
   cases e1; rw [eb] at e2; cases e2; exact rz'
  ·exact rz.flat n
 ·obtain ⟨b,zs,rfl,_,eb,rz⟩:=ry.sqL
  have lz:=rz.length
  refine .inl ⟨a,b,us,zs,rfl,rfl,ea1,eb,lim (by omega),key zs ?_⟩
  rcases n with n | n
  ·obtain ⟨b',zs',e1,_,e2,rz'⟩:=(Nw.rep px n ry).sqL
   cases e1; rw [eb] at e2; cases e2; exact rz'
  ·exact rz.flat n
noncomputable def iG (i:Nat) (tk te:aF):aK:=fun D ρ=>te ρ fun x g=>∃ xs,ρ[i]? = some (some (.own (.lst xs)))/\tk ρ fun y _=>∃ n j,y = .int n/\eW xs.length n=some j/\Nw g x/\D.nx (ρ.set i (some (.own (.lst (xs.set j x)))))
theorem aC1 {i:Nat}{tk:aF} (h:LS X (iG i tk te) D σ H):jW (LE X te) (uF (i8 i) (LE X tk) uZ) D σ H:=by
 obtain ⟨W,ρ,D',px,q,k⟩:=h
 refine⟨W,ρ,_,px,q,?_⟩
 rintro w H1 x g s rx ⟨xs,hi,q1⟩
 obtain ⟨v,ev,a,rfl,wa,us,ea,r⟩:=(px.mono s).sl i _ hi
 refine⟨_,ev,W,ρ,_,px.mono s,q1,?_⟩
 rintro kv H2 y gy s2 ry ⟨n,j,rfl,hj,nw,q2⟩
 cases ry
 have ea2:=s2 _ _ ea
 refine⟨a,us,n,j,rfl,rfl,ea2,by rw [r.length]; exact hj,?_⟩
 refine k.nx W σ _ _ ((Ev.same (s.trans s2)).trans (Ev.upd wa)) ((px.mono (s.trans s2)).updL hi ev wa ?_) q2
 exact (Reps.set ((Nw.rep px nw rx).same s2 fun _ z=>z) j (r.same s2 fun _ z=>z)).keep (.upd ea2 rfl fun b m=>⟨lE wa m,m⟩)
noncomputable def wI (i j:Nat):aK:=fun D ρ=>∃ xs y,ρ[i]? = some (some (.own (.lst (xs ++ [y]))))/\D.nx ((ρ.set i (some (.own (.lst xs)))).set j (some (.sh true y)))
theorem Reps.snoc_inv {K:PySem.W.Frag}{M:Addr->Prop}{H:Hp}{us:List V}{xs:List PV}{y:PV} (r:Reps K M H us (xs ++ [y])):∃ vs v,us=vs ++ [v]/\Reps K M H vs xs/\aH K M H v y:=by
 have l:=r.length
 have h1:=r.take xs.length
 have h2:=r.drop xs.length
 rw [List.take_left] at h1
 rw [List.drop_left] at h2
 generalize hd:us.drop xs.length=ds at h2
 cases h2 with
 | cons q t=>
  cases t
  exact⟨_,_,by rw [<- hd,bl3],h1,q⟩
theorem aC2 {i j:Nat} (h:LS X (wI i j) D σ H):jW (G3 X.K "list" G7 (i8 i)) (cU j) D σ H:=by
 obtain ⟨W,ρ,D',px,⟨xs,y,hi,q⟩,k⟩:=h
 obtain ⟨v,ev,a,rfl,wa,us,ea,r⟩:=px.sl i _ hi
 obtain ⟨vs,w,rfl,r1,ry⟩:=r.snoc_inv
 refine⟨_,ev,k8 (aN.of ea),a,_,w,rfl,rfl,ea,by simp,?_⟩
 rw [List.dropLast_concat]
 have kp:iE (Ms X.H₀ W true) (Ms X.H₀ W true) H (upd H a (.lst vs)):=.upd ea rfl fun b m=>⟨lE wa m,m⟩
 exact k.nx W _ _ _ (Ev.upd wa) ((px.updL hi ev wa (r1.keep kp)).setSh (ry.keep kp)) q
end
theorem Reps.atI {K:PySem.W.Frag}{M:Addr->Prop}{H:Hp}{us:List V}{xs:List PV}{i:Int}{z:PV} (r:Reps K M H us xs) (h:L2.atI xs i=some z):∃ v,L2.atI us i=some v/\aH K M H v z:=by
 unfold L2.atI at h ⊢
 rw [r.length]
 cases e:eW xs.length i with
 | none=>rw [e] at h; cases h
 | some j=>rw [e] at h; exact r.at h
section
variable {X : Cx} {σ : St} {H : Hp} {Q' : VK} {ta tb te : aF} {tr : cW}
noncomputable def wJ:PV->Tg->PV->Tg->PK->Prop:=fun x g y _ Q=>∃ xs i z,lG x=some xs/\y = .int i/\L2.atI xs i=some z/\Q z g
theorem aC3:eN X wJ (F8 X.K):=by
 rintro W Hs H u v x y g g' Q Q' s n r1 r2 ⟨xs,i,z,e,rfl,hz,q⟩ k
 cases r2
 obtain ⟨a,us,rfl,hs,r⟩:=r1.seq e
 obtain ⟨v,hv,rv⟩:=r.atI hz
 rcases hs with hs | hs
 ·exact .inl ⟨a,us,i,v,rfl,rfl,hs,hv,k v H z g (aA.refl _) rv q⟩
 ·exact .inr (.inl ⟨a,us,i,v,rfl,rfl,hs,hv,k v H z g (aA.refl _) rv q⟩)
noncomputable def P5:PV->Option Nat
 | .tup xs=>some xs.length
 | .lst xs=>some xs.length
 | .scr ns=>some ns.length
 | .dK ps=>some ps.length
 | .kt xs=>some xs.length
 | _=>none
noncomputable def dJ:List PV->(PV->Prop)->Prop:=fun xs Q=>∃ x n,xs = [x]/\P5 x=some n/\Q (.int n)
theorem Reps.one {K:PySem.W.Frag}{M:Addr->Prop}{H:Hp}{vs:List V}{x:PV} (r:Reps K M H vs [x]):∃ v,vs = [v]/\aH K M H v x:=by
 cases r with
 | cons r t=>cases t; exact⟨_,rfl,r⟩
theorem Reps.two {K:PySem.W.Frag}{M:Addr->Prop}{H:Hp}{vs:List V}{x y:PV} (r:Reps K M H vs [x,y]):∃ v w,vs = [v,w]/\aH K M H v x/\aH K M H w y:=by
 cases r with
 | cons r t=>
  obtain ⟨w,rfl,q⟩:=t.one
  exact⟨_,_,rfl,r,q⟩
theorem aC4:hV X dJ (fun xs H Q=>(∃ p ys,xs = [.ref p]/\(aN X.K H p ys ∨ aJ X.K H p ys)/\Q (.int ys.length) H) ∨ ∃ a kvs,xs = [V.ref a]/\H a=some (.dK kvs)/\Q (.int kvs.length) H):=by
 rintro H vs xs Q Q' r ⟨x,n,rfl,e,q⟩ k
 obtain ⟨v,rfl,r1⟩:=r.one
 have fin:∀ {m:Nat},m=n->Q' (.int m) H:=fun {m} z=>by rw [z]; exact k _ _ _ (aA.refl _) (.int _) q
 cases r1 with
 | tup h r2=>cases e; exact .inl ⟨_,_,rfl,.inr (aJ.of h),fin r2.length⟩
 | lst m h r2=>cases e; exact .inl ⟨_,_,rfl,.inl (aN.of h),fin r2.length⟩
 | scr h=>cases e; exact .inl ⟨_,_,rfl,.inl h.sqL,fin (by rw [bh1])⟩
 | kt h r2=>cases e; exact .inl ⟨_,_,rfl,.inr (.inr h),fin r2.length⟩
 | dK m h e' r=>
  cases e
  refine .inr ⟨_,_,rfl,h,fin ?_⟩
  have:=congrArg List.length e'
  rw [bh1,bh1] at this
  exact this
 | _=>cases e
noncomputable def seqT:PV->Option (List PV)
 | .kt _=>none
 | x=>lG x
noncomputable def P6:List PV->(PV->Prop)->Prop:=fun xs Q=>∃ x ys,xs = [x]/\seqT x=some ys/\flats ys=true/\Q (.tup ys)
theorem aC5:hV X (fun xs Q=>P6 xs Q/\∀ ns,xs ≠ [.scr ns]) (fun xs H Q=>∃ p ys,xs = [.ref p]/\((aN X.K H p ys/\∀ l,H l=none->Q (.ref l) (upd H l (.tup ys))) ∨ (aJ X.K H p ys/\Q (.ref p) H))):=by
 rintro H vs xs Q Q' r ⟨⟨x,ys,rfl,e,f,q⟩,nsc⟩ k
 obtain ⟨v,rfl,r1⟩:=r.one
 cases r1 with
 | tup h r2=>cases e; exact⟨_,_,rfl,.inr ⟨aJ.of h,k _ _ _ (aA.refl _) (.tup h (r2.flat f)) q⟩⟩
 | lst m h r2=>cases e; exact⟨_,_,rfl,.inl ⟨aN.of h,fun l hl=>k _ _ _ (bI hl _) (.tup bK ((r2.flat f).same (bI hl _) fun _ z=>z)) q⟩⟩
 | scr h=>exact absurd rfl (nsc _)
 | _=>cases e
noncomputable def wK:List PV->(PV->Prop)->Prop:=fun xs Q=>∃ bs:List Bool,xs = [.lst (bs.map PV.bl)]/\Q (.bl (bs.all id))
theorem Reps.ofBls {K:PySem.W.Frag}{M:Addr->Prop}{H:Hp}:∀ {ns:List Bool}{us:List V},Reps K M H us (ns.map PV.bl)->us=ns.map V.bl
 | [],_,.nil=>rfl
 | n :: r,_,.cons q t=>by
  cases q
  rw [Reps.ofBls t]; rfl
theorem aC6:hV X wK (fun xs H Q=>∃ (a:Addr) (bs:List Bool),xs = [.ref a]/\aN X.K H a (bs.map V.bl)/\Q (.bl (bs.all id)) H):=by
 rintro H vs xs Q Q' r ⟨bs,rfl,q⟩ k
 obtain ⟨v,rfl,r1⟩:=r.one
 obtain ⟨a,us,rfl,_,h,r2⟩:=r1.sqL
 obtain rfl:=r2.ofBls
 exact⟨a,bs,rfl,aN.of h,k _ _ _ (aA.refl _) (.bl _) q⟩
noncomputable def mT:List PV->(PV->Prop)->Prop:=fun xs Q=>∃ i j,xs = [.int i,.int j]/\Q (.int (if j < i then j else i))
noncomputable def mU:List PV->(PV->Prop)->Prop:=fun xs Q=>∃ i j,xs = [.int i,.int j]/\Q (.int (if j > i then j else i))
theorem aC7:hV X mT (fun xs H Q=>∃ i j,xs = [.int i,.int j]/\Q (.int (if j < i then j else i)) H):=by
 rintro H vs xs Q Q' r ⟨i,j,rfl,q⟩ k
 obtain ⟨v,w,rfl,r1,r2⟩:=r.two
 cases r1; cases r2
 exact⟨i,j,rfl,k _ _ _ (aA.refl _) (.int _) q⟩
theorem aC8:hV X mU (fun xs H Q=>∃ i j,xs = [.int i,.int j]/\Q (.int (if j > i then j else i)) H):=by
 rintro H vs xs Q Q' r ⟨i,j,rfl,q⟩ k
 obtain ⟨v,w,rfl,r1,r2⟩:=r.two
 cases r1; cases r2
 exact⟨i,j,rfl,k _ _ _ (aA.refl _) (.int _) q⟩
noncomputable abbrev bL:=List PV->(PV->Prop)->Prop
noncomputable def oT (K:PySem.W.Frag) (p:bL):Sp:=fun vs H Q _=>∃ xs Qp,Reps K (fun _=>True) H vs xs/\p xs Qp/\∀ v H' x,aA H H'->aH K (fun a=>H a=none) H' v x->Qp x->Q v H'
theorem aC9 {p:bL}{E:XK} (h:LE X (aD p tr) σ H Q'):uT (oT X.K p) [] E (LA X tr) σ H Q':=by
 obtain ⟨W,ρ,Q,px,q,k⟩:=h
 refine⟨W,ρ,_,px,q,fun vs H1 xs s1 r1 q1=>⟨_,_,by rw [bm6]; exact r1.any,q1,fun v H' x s2 r2 q2=>k v H' x .fr (s1.trans s2) (r2.same (aA.refl _) fun _ z=>s1.free z) q2⟩⟩
noncomputable def aD0:PV->Option Bool
 | .non=>some false
 | .bl b=>some b
 | .int i=>some (i != 0)
 | .tup xs=>some (!xs.isEmpty)
 | .lst xs=>some (!xs.isEmpty)
 | .dK ps=>some (!ps.isEmpty)
 | _=>none
noncomputable def lH (t:aF):c7:=fun ρ Q=>t ρ fun x _=>∃ b,aD0 x=some b/\Q b
theorem wL {α β:Type}:∀ {l:List α}{m:List β},l.length=m.length->l.isEmpty=m.isEmpty
 | [],[],_=>rfl
 | _ :: _,_ :: _,_=>rfl
theorem aD1 {t:aF}{Qb:Bool->Hp->Prop} (h:LT X (lH t) σ H Qb):LE X t σ H fun x H'=>∃ k,uO X.K x H' k/\Qb k H':=by
 obtain ⟨W,ρ,Q,px,q,k⟩:=h
 refine⟨W,ρ,_,px,q,?_⟩
 rintro v H1 x g s r ⟨b,e,q⟩
 refine⟨b,?_,k _ _ s q⟩
 cases r with
 | non=>cases e; rfl
 | bl b=>cases e; rfl
 | int i=>cases e; rfl
 | str x=>cases e
 | tup h r=>cases e; exact .inr (.inl ⟨_,aJ.of h,by rw [wL r.length]⟩)
 | lst m h r=>cases e; exact .inl ⟨_,aN.of h,by rw [wL r.length]⟩
 | dK m h e' r=>
  cases e
  refine .inr (.inr ⟨_,h,?_⟩)
  have:=congrArg List.length e'
  rw [bh1,bh1] at this
  rw [wL this]
 | dT m h e' r=>cases e
 | scr h=>cases e
 | kt h r=>cases e
 | exc h e' c=>cases e
 | fK h e' r=>cases e
 | fT h e' r=>cases e
noncomputable def wM:PV->Bool
 | .non=>true
 | _=>false
noncomputable def wN (neg:Bool):PV->Tg->PV->Tg->PK->Prop:=fun x _ y _ Q=>y = .non/\Q (.bl (if neg=true then !wM x else wM x)) .fr
theorem aD2 {K:PySem.W.Frag}{M:Addr->Prop}{H:Hp}{v:V}{x:PV} (r:aH K M H v x):decide (v = .non)=wM x:=by
 cases r <;> rfl
theorem aD3:eN X (wN true) (fun x y H Q=>y = .non/\Q (.bl (!decide (x = .non))) H):=by
 rintro W Hs H u v x y g g' Q Q' s n r1 r2 ⟨rfl,q⟩ k
 cases r2
 exact⟨rfl,by rw [aD2 r1]; exact k _ _ _ _ (aA.refl _) (.bl _) q⟩
end
structure rM (K:PySem.W.Frag) (H0:Hp) (W:Addr->Prop) (g:Bool) (H1:Hp) (J:It) (xs:List PV):Prop where
 go:∀ W' H' i,Ev W H1 W' H'->i < xs.length->J.go i H'
 yld:∀ W' H' i v H2,Ev W H1 W' H'->J.yld i H' v H2->i < xs.length->aA H' H2/\∃ x,xs[i]? = some x/\aH K (Ms H0 W' g) H2 v x
 stop:∀ W' H',Ev W H1 W' H'->J.stop xs.length H'
noncomputable abbrev fI:=bJ->(List PV->Bool->Prop)->Prop
noncomputable def LI (X:Cx) (t:fI):TI:=fun σ H R=>∃ (W:Addr->Prop) (ρ:bJ) (Q:List PV->Bool->Prop),PX X.K X.H₀ W σ ρ H/\t ρ Q/\∀ J H1 xs g,aA H H1->rM X.K X.H₀ W g H1 J xs->Q xs g->R J H1
theorem Ev.keep {H0:Hp}{W W':Addr->Prop}{H H':Hp}{g:Bool} (e:Ev W H W' H') (tw:∀ a,W a->∃ o,H a=some o/\jI o=true):iE (Ms H0 W g) (Ms H0 W' g) H H':=by
 have m:∀ {a:Addr}{o:HO},Ms H0 W g a->H a=some o->Ms H0 W' g a/\H' a=some o:=fun {a o} z h=>by
  cases g with
  | true=>
   obtain ⟨h1,h2⟩:=e a _ h z.1
   exact⟨⟨h2,z.2⟩,h1⟩
  | false=>
   obtain ⟨h1,h2⟩:=e a _ h z
   exact⟨h2,h1⟩
 refine⟨fun a _ z h=>m z h,fun a _ z h=>m z h,fun a _ z h=>m z h,fun a _ h=>(e a _ h fun z=>?_).1,fun a _ _ h=>(e a _ h fun z=>?_).1⟩
 ·obtain ⟨o,h',mu⟩:=tw a z; rw [h] at h'; cases h'; cases mu
 ·obtain ⟨o,h',mu⟩:=tw a z; rw [h] at h'; cases h'; cases mu
section
variable {X : Cx} {σ : St} {H : Hp} {te : aF} {tr : cW} {R : It → Hp → Prop}
noncomputable def wO (K:PySem.W.Frag) (tl:TE):TI:=fun σ H R=>tl σ H fun x H1=>∃ a,x = .ref a/\((∃ xs,aN K H1 a xs/\R (mF K a) H1) ∨ (∃ xs,aJ K H1 a xs/\R (jX K a) H1))
noncomputable def wP:Tg->List PV->Bool
 | .fr,_=>true
 | .nw,_=>true
 | _,xs=>flats xs
noncomputable def fJ (te:aF):fI:=fun ρ Q=>te ρ fun x g=>∃ xs,lG x=some xs/\(g = .rd->flat x=true)/\Q xs (wP g xs)
theorem P7 {K:PySem.W.Frag}{H0:Hp}{W:Addr->Prop}{g:Bool}{H1:Hp}{a:Addr}{us:List V}{xs:List PV} (tw:∀ a,W a->∃ o,H1 a=some o/\jI o=true) (ha:∀ W' H',Ev W H1 W' H'->aN K H' a us) (r:Reps K (Ms H0 W g) H1 us xs):rM K H0 W g H1 (mF K a) xs:=by
 have lr:=r.length
 refine⟨fun W' H' i e hi=>⟨us,us[i]'(by omega),ha W' H' e,by simp⟩,fun W' H' i v H2 e y hi=>?_,fun W' H' e=>⟨us,ha W' H' e,by omega⟩⟩
 obtain ⟨rfl,y⟩:=y
 obtain ⟨x,hx,rx⟩:=r.get (y us (ha W' _ e))
 exact⟨aA.refl _,x,hx,rx.keep (e.keep tw)⟩
theorem P8 {K:PySem.W.Frag}{H0:Hp}{W:Addr->Prop}{g:Bool}{H1:Hp}{a:Addr}{us:List V}{xs:List PV} (tw:∀ a,W a->∃ o,H1 a=some o/\jI o=true) (ha:∀ W' H',Ev W H1 W' H'->aJ K H' a us) (r:Reps K (Ms H0 W g) H1 us xs):rM K H0 W g H1 (jX K a) xs:=by
 have lr:=r.length
 refine⟨fun W' H' i e hi=>⟨us,us[i]'(by omega),ha W' H' e,by simp⟩,fun W' H' i v H2 e y hi=>?_,fun W' H' e=>⟨us,ha W' H' e,by omega⟩⟩
 obtain ⟨rfl,y⟩:=y
 obtain ⟨x,hx,rx⟩:=r.get (y us (ha W' _ e))
 exact⟨aA.refl _,x,hx,rx.keep (e.keep tw)⟩
theorem oU {K:PySem.W.Frag}{H0 Hs H:Hp}{W:Addr->Prop}{σ:St}{ρ:bJ}{g:Tg}{us:List V}{xs:List PV} (px:PX K H0 W σ ρ Hs) (hg:g = .rd->flats xs=true) (r:Reps K (Mg H0 W Hs g) H us xs):Reps K (Ms H0 W (wP g xs)) H us xs:=by
 cases g with
 | fr=>exact r.same (aA.refl _) fun _ z=>px.new z
 | nw=>exact r.same (aA.refl _) fun _ z=>z
 | sh=>
  show Reps K (Ms H0 W (flats xs)) H us xs
  cases e:flats xs with
  | true=>exact r.flat e
  | false=>exact r.same (aA.refl _) fun _ z=>z
 | rd=>exact r.flat (hg rfl)
theorem aD4 (h:LI X (fJ te) σ H R):wO X.K (LE X te) σ H R:=by
 obtain ⟨W,ρ,Q,px,q,k⟩:=h
 refine⟨W,ρ,_,px,q,?_⟩
 rintro v H1 x g s r ⟨xs,e,hg,q⟩
 have px1:=px.mono s
 have tw:∀ a,W a->∃ o,H1 a=some o/\jI o=true:=fun a z=>(px1.wm a z).2
 cases r with
 | tup h r=>
  cases e
  refine⟨_,rfl,.inr ⟨_,aJ.of h,k _ _ _ _ s (P8 tw (fun W' H' e=>aJ.of (e _ _ h fun z=>?_).1) (oU px (fun z=>by have:=hg z; unfold flat at this; exact this) r)) q⟩⟩
  obtain ⟨o,h',mu⟩:=tw _ z; rw [h] at h'; cases h'; cases mu
 | @lst a us xs' m h r=>
  cases e
  have wa : ¬ W a:=by
   cases g with
   | fr=>exact (px.new m).1
   | nw=>exact m.1
   | sh=>exact m
   | rd=>have:=hg rfl; unfold flat at this; cases this
  exact⟨_,rfl,.inl ⟨_,aN.of h,k _ _ _ _ s (P7 tw (fun W' H' e=>aN.of (e _ _ h wa).1) (oU px (fun z=>by have:=hg z; unfold flat at this; cases this) r)) q⟩⟩
 | scr h=>
  cases e
  refine⟨_,rfl,.inl ⟨_,h.sqL,k _ _ _ _ s (P7 tw (fun W' H' e=>(jH.keep (fun a o u hz=>(e _ _ hz fun z=>?_).1) h).sqL) (oU (g:=g) px (fun z=>dX _) (Reps.intz _))) q⟩⟩
  obtain ⟨o,h',mu⟩:=tw _ z; rw [hz] at h'; cases h'; cases mu
 | kt h r=>
  cases e
  exact⟨_,rfl,.inr ⟨_,.inr h,k _ _ _ _ s (P8 tw (fun W' H' e=>.inr h) (oU px (fun z=>by have:=hg z; unfold flat at this; exact this) r)) q⟩⟩
 | _=>cases e
noncomputable def fB (lo:Int) (n:Nat):List PV:=(List.range n).map fun (i:Nat)=>PV.int (lo+(i:Int))
theorem g9 (lo:Int) (n:Nat):(fB lo n).length=n:=by unfold fB; rw [bh1,List.length_range]
theorem wQ {lo:Int}{n i:Nat} (h:i < n):(fB lo n)[i]? = some (.int (lo+i)):=by unfold fB; rw [bh9,List.getElem?_range h]; rfl
noncomputable def jJ (te:aF):fI:=fun ρ Q=>te ρ fun x _=>∃ j:Int,x = .int j/\-1000000<=j/\j<=1000000/\Q (fB 0 j.toNat) true
noncomputable def oV (ta tb:aF):fI:=fun ρ Q=>ta ρ fun x _=>tb ρ fun y _=>∃ i j:Int,x = .int i/\y = .int j/\(-1000000<=i/\i<=1000000/\-1000000<=j/\j<=1000000)/\Q (fB i (j - i).toNat) true
theorem P9 {K:PySem.W.Frag}{H0:Hp}{W:Addr->Prop}{H1:Hp} (lo:Int) (n:Nat):rM K H0 W true H1 (o7 lo n) (fB lo n):=by
 refine⟨fun W' H' i e hi=>by rw [g9] at hi; exact hi,fun W' H' i v H2 e y hi=>?_,fun W' H' e=>by show n<=(fB lo n).length; rw [g9]; exact bh0 _⟩
 rw [g9] at hi
 obtain ⟨rfl,rfl⟩:=y
 exact⟨aA.refl _,_,wQ hi,.int _⟩
theorem aD5 (h:LI X (jJ te) σ H R):B3 (iS (LE X te) jY) σ H R:=by
 obtain ⟨W,ρ,Q,px,q,k⟩:=h
 refine⟨W,ρ,_,px,q,?_⟩
 rintro v H1 x g s r ⟨j,rfl,h1,h2,q⟩
 cases r
 exact⟨j,rfl,by omega,by omega,k _ _ _ _ s (P9 0 j.toNat) q⟩
theorem aD6 {ta tb:aF} (h:LI X (oV ta tb) σ H R):B4 (iS (LE X ta) (iS (LE X tb) jY)) σ H R:=by
 obtain ⟨W,ρ,Q,px,q,k⟩:=h
 refine⟨W,ρ,_,px,q,fun v H1 x g s r q=>⟨W,ρ,_,px.mono s,q,?_⟩⟩
 rintro w H2 y g' s2 r2 ⟨i,j,rfl,rfl,h,q⟩
 cases r; cases r2
 exact⟨i,j,rfl,by omega,k _ _ _ _ (s.trans s2) (P9 i (j - i).toNat) q⟩
end
noncomputable abbrev kC:=PV->Bool->bJ->(bJ->Prop)->Prop
noncomputable def oW (K:PySem.W.Frag) (own:Nat->Prop) (p:kC) (t:TG):Prop:=∀ (H0:Hp) (W:Addr->Prop) (σ:St) (ρ:bJ) (H:Hp) (v:V) (x:PV) (g:Bool) (Q:bJ->Prop) (Q':St->Hp->Prop),
 PX K H0 W σ ρ H->aH K (Ms H0 W g) H v x->p x g ρ Q->(∀ σ' ρ',PX K H0 W σ' ρ' H->(∀ i,¬ own i->σ'[i]? = σ[i]?)->σ'.length=σ.length->Q ρ'->Q' σ' H)->t v σ H Q'
noncomputable def cK (i:Nat):kC:=fun x g ρ Q=>Q (ρ.set i (some (.sh (g || flat x) x)))
theorem rN {K:PySem.W.Frag}{H0 H:Hp}{W:Addr->Prop}{v:V}{x:PV}{g:Bool} (r:aH K (Ms H0 W g) H v x):aH K (Ms H0 W (g || flat x)) H v x:=by
 cases g with
 | true=>exact r
 | false=>
  show aH K (Ms H0 W (flat x)) H v x
  cases e:flat x with
  | true=>exact r.flat e
  | false=>exact r
theorem oX (K:PySem.W.Frag) (i:Nat):oW K (· = i) (cK i) (cU i):=by
 intro H0 W σ ρ H v x g Q Q' px r q k
 exact k _ _ (px.setSh (rN r)) (fun j hj=>by rw [bk2 (Ne.symm hj)]) (bl1 ..) q
noncomputable def kD (i j:Nat):kC:=fun x g ρ Q=>∃ y z,x = .tup [y,z]/\Q ((ρ.set i (some (.sh (g || flat y) y))).set j (some (.sh (g || flat z) z)))
theorem Q0 (K:PySem.W.Frag) (i j:Nat):oW K (fun k=>k=i ∨ k=j) (kD i j) (mD K 2 (i9 (cU i) (i9 (cU j) mB))):=by
 intro H0 W σ ρ H v x g Q Q' px r q k
 obtain ⟨y,z,rfl,q⟩:=q
 obtain ⟨a,us,rfl,h,r⟩:=r.sqT
 obtain ⟨u1,u2,rfl,r1,r2⟩:=r.two
 refine⟨a,_,rfl,aJ.of h,rfl,u1,_,rfl,u2,_,rfl,rfl,k _ _ ((px.setSh (rN r1)).setSh (rN r2)) (fun k hk=>?_) (by rw [bl1,bl1]) q⟩
 rw [bk2 (fun e=>hk (.inr e.symm)),bk2 (fun e=>hk (.inl e.symm))]
section
variable {X : Cx} {σ : St} {H : Hp} {D : cT}
noncomputable def dY (ti:fI) (p:kC) (tb:aK):aK:=fun D ρ=>ti ρ fun xs g=>∃ I:Nat->bJ->Prop,I 0 ρ/\(∀ i x ρ',xs[i]? = some x->I i ρ'->p x g ρ' fun ρ2=>tb { D with nx:=I (i+1),ct:=I (i+1),bk:=D.nx } ρ2)/\∀ ρ',I xs.length ρ'->D.nx ρ'
theorem aD7 {ti:fI}{p:kC}{g:TG}{tb:aK}{own:Nat->Prop} (hg:oW X.K own p g) (h:LS X (dY ti p tb) D σ H):uH (LI X ti) g (LS X tb) D σ H:=by
 obtain ⟨W,ρ,D',px,q,k⟩:=h
 refine⟨W,ρ,_,px,q,?_⟩
 rintro J H1 xs gb s it ⟨I,i0,turn,fin⟩
 refine⟨fun i m σ2 H2=>m=xs.length - i/\i<=xs.length/\∃ W2 ρ2,PX X.K X.H₀ W2 σ2 ρ2 H2/\Ev W H1 W2 H2/\I i ρ2,⟨xs.length,by omega,bk7 _,W,ρ,px.mono s,Ev.refl _ _,i0⟩,?_⟩
 rintro i m σ2 H2 ⟨rfl,hi,W2,ρ2,px2,e2,i2⟩
 have e0:Ev W H W2 H2:=(Ev.same s).trans e2
 by_cases hlt:i < xs.length
 ·refine .inr ⟨it.go W2 H2 i e2 hlt,fun σ3 H3=>∃ W3 ρ3,PX X.K X.H₀ W3 σ3 ρ3 H3/\Ev W H1 W3 H3/\I (i+1) ρ3,fun σ3 H3 ⟨W3,ρ3,a,b,c⟩=>⟨xs.length - (i+1),by omega,rfl,hlt,W3,ρ3,a,b,c⟩,fun v H3 y=>?_⟩
  obtain ⟨s3,x,hx,rx⟩:=it.yld W2 H2 i v H3 e2 y hlt
  refine hg X.H₀ W2 σ2 ρ2 H3 v x gb _ _ (px2.mono s3) rx (turn i x ρ2 hx i2) fun σ4 ρ4 px4 _ _ q4=>?_
  have e3:Ev W H1 W2 H3:=e2.trans (Ev.same s3)
  have e3':Ev W H W2 H3:=e0.trans (Ev.same s3)
  exact⟨W2,ρ4,_,px4,q4,fun W' σ' H' ρ' e p q=>⟨W',ρ',p,e3.trans e,q⟩,k.rt,fun W' σ' H' ρ' e p q=>k.nx W' σ' H' ρ' (e3'.trans e) p q,fun W' σ' H' ρ' e p q=>⟨W',ρ',p,e3.trans e,q⟩⟩
 ·have e:i=xs.length:=by omega
  subst e
  exact .inl ⟨it.stop W2 H2 e2,k.nx W2 σ2 H2 ρ2 e0 px2 (fin ρ2 i2)⟩
end
noncomputable def mV (fr:List (Option Nat)) (ρ:bJ):bJ:=fr.map fun o=>o.bind fun j=>(ρ[j]?).join.map fun m=>Slot.sh false m.val
noncomputable def lI (D:Addr):Addr->Prop:=fun a=>a=D
theorem aD8 {K:PySem.W.Frag}{H0:Hp}{W:Addr->Prop}{σ:St}{ρ:bJ}{H1 H':Hp}{D:Addr}{acc:List V}{fr:List (Option Nat)} (px:PX K H0 W σ ρ H1) (hD:H1 D=none) (s:aA H1 H') (ha:H' D=some (.lst acc)) :
  PX K H1 (lI D) (fY fr σ) (mV fr ρ) H':=by
 have old:∀ {a:Addr}{o:HO},H1 a=some o->a ≠ D:=fun {a o} e z=>by rw [z,hD] at e; cases e
 refine⟨by unfold fY mV; rw [bh1,bh1],s,fun a z=>by cases z; exact⟨hD,_,ha,rfl⟩,fun i m h=>?_,fun i j x y a h1=>?_⟩
 ·unfold mV at h
  rw [bh9] at h
  cases ef:fr[i]? with
  | none=>rw [ef] at h; cases h
  | some o=>
   rw [ef] at h
   cases o with
   | none=>cases h
   | some j=>
    have h:some ((ρ[j]?).join.map fun m=>Slot.sh false m.val)=some (some m):=h
    cases er:ρ[j]? with
    | none=>rw [er] at h; cases h
    | some o=>
     rw [er] at h
     cases o with
     | none=>cases h
     | some m0=>
      cases h
      obtain ⟨v,ev,r⟩:=px.sl j m0 er
      refine⟨v,?_,?_⟩
      ·unfold fY
       rw [bh9,ef]
       show some ((σ[j]?).join)=_
       rw [ev]; rfl
      ·have r':aH K (fun _=>True) H1 v m0.val:=(O1 (Hs:=H1) r).same (aA.refl _) fun _ _=>trivial
       exact r'.keep ⟨fun a _ _ e=>⟨old e,s _ _ e⟩,fun a _ _ e=>⟨old e,s _ _ e⟩,fun a _ _ e=>⟨old e,s _ _ e⟩,fun _ _ e=>s _ _ e,fun _ _ _ e=>s _ _ e⟩
 ·unfold mV at h1
  rw [bh9] at h1
  cases ef:fr[i]? with
  | none=>rw [ef] at h1; cases h1
  | some o=>
   rw [ef] at h1
   cases o with
   | none=>cases h1
   | some j=>
    have h1:some ((ρ[j]?).join.map fun m=>Slot.sh false m.val)=some (some (Slot.own x)):=h1
    cases er:ρ[j]? with
    | none=>rw [er] at h1; cases h1
    | some o=>
     rw [er] at h1
     cases o with
     | none=>cases h1
     | some m0=>cases h1
section
variable {X : Cx} {σ : St} {H : Hp} {Q' : VK}
noncomputable abbrev _root_.L2.Cx.frm (X:Cx) (H1:Hp):Cx:={ X with H₀:=H1 }
noncomputable def fL (ti:fI) (fr:List (Option Nat)) (p:kC) (tc:c7) (te:aF):aF:=fun ρ Q=>ti ρ fun xs g=>xs.length<=16000000/\∃ I:Nat->List PV->Prop,I 0 []/\
 (∀ i x acc,xs[i]? = some x->I i acc->p x false (mV fr ρ) fun ρ2=>tc ρ2 fun b=>if b=true then te ρ2 fun y gy=>Nw gy y/\I (i+1) (acc ++ [y]) else I (i+1) acc)/\∀ acc,I xs.length acc->Q (.lst acc) .fr
theorem oY {ti:fI}{fr:List (Option Nat)}{p:kC}{g:TG}{tc:c7}{te:aF}{own:Nat->Prop} (hg:oW X.K own p g) (ho:∀ i,own i->fr[i]? = some none) (h:LE X (fL ti fr p tc te) σ H Q') :
  vL (LI X ti) fr (fun _=>g) (fun H1=>LT (X.frm H1) tc) (fun H1=>LE (X.frm H1) te) σ H Q':=by
 obtain ⟨W,ρ,Q,px,q,k⟩:=h
 refine⟨W,ρ,_,px,q,?_⟩
 rintro J H1 xs gb s it ⟨hl,I,i0,turn,fin⟩ D hD
 have px1:=px.mono s
 refine⟨fun i m acc H'=>m=xs.length - i/\i<=xs.length/\aA H1 H'/\H' D=some (.lst acc)/\∃ ys,Reps X.K (Ms H1 (lI D) true) H' acc ys/\ys.length<=i/\I i ys,⟨xs.length,by omega,bk7 _,bI hD _,bK,[],.nil,bh0 _,i0⟩,?_⟩
 rintro i m acc H' ⟨rfl,hi,sm,ha,ys,ry,hy,iy⟩
 refine⟨ha,?_⟩
 have ev:Ev W H1 (mS W D) H':=Ev.own sm hD
 by_cases hlt:i < xs.length
 ·refine .inr ⟨it.go _ H' i ev hlt,fun v H2 y=>?_⟩
  obtain ⟨s2,x,hx,rx⟩:=it.yld _ H' i v H2 ev y hlt
  have ha2:=s2 _ _ ha
  have pxb:PX X.K H1 (lI D) (fY fr σ) (mV fr ρ) H2:=aD8 px1 hD (sm.trans s2) ha2
  have rx':aH X.K (Ms H1 (lI D) false) H2 v x:=rx.same (aA.refl _) fun a z=>by
   cases gb with
   | true=>exact fun e=>z.1 (.inr e)
   | false=>exact fun e=>z (.inr e)
  refine hg H1 (lI D) _ _ H2 v x false _ _ pxb rx' (turn i x ys hx iy) fun σ2 ρ2 px2 hown hlen q2=>⟨⟨hlen.symm,fun j w e=>?_⟩,?_⟩
  ·by_cases oj:own j
   ·have:=ho j oj
    unfold fY at e
    rw [bh9,this] at e
    cases e
   ·rw [hown j oj]; exact e
  ·refine⟨lI D,ρ2,_,px2,q2,fun b H4 s4 q4=>?_⟩
   have ha4:=s4 _ _ ha2
   have sm4:=(sm.trans s2).trans s4
   cases b with
   | false=>
    refine bD ⟨xs.length - (i+1),by omega,rfl,hlt,sm4,ha4,ys,ry.same (s2.trans s4) fun _ z=>z,by omega,by simpa using q4⟩
   | true=>
    refine bH ⟨lI D,ρ2,_,px2.mono s4,by simpa using q4,?_⟩
    rintro w H5 y gy s5 ryy ⟨nw,q5⟩
    have ha5:=s5 _ _ ha4
    have lr:=ry.length
    refine⟨ha5,hG (by omega),xs.length - (i+1),by omega,rfl,hlt,fun b o e=>?_,bK,ys ++ [y],?_,by rw [bi4,bk8]; omega,q5⟩
    ·rw [aW (fun z=>by rw [z,hD] at e; cases e)]
     exact s5 _ _ (sm4 _ _ e)
    ·exact ((ry.same ((s2.trans s4).trans s5) fun _ z=>z).append (.cons (Nw.rep (px2.mono s4) nw ryy) .nil)).keep (.upd ha5 rfl fun b m=>⟨m.1,m⟩)
 ·have e:i=xs.length:=by omega
  subst e
  refine .inl ⟨it.stop _ H' ev,k _ H' _ .fr (s.trans sm) (.lst (s.free hD) ha (ry.same (aA.refl _) fun _ z=>s.free z.2)) (fin ys iy)⟩
noncomputable def eQ:c7:=fun _ Q=>Q true
theorem aD9 {Qb:Bool->Hp->Prop} (h:LT X eQ σ H Qb):vJ σ H Qb:=by
 obtain ⟨W,ρ,Q,px,q,k⟩:=h
 exact k _ _ (aA.refl _) q
end
section
variable {κ : Type} [DecidableEq κ]
noncomputable def cQ (ps:List (κ × PV)) (k:κ):Option PV:=(ps.find? fun p=>decide (p.1=k)).map (·.2)
noncomputable def fM (ps:List (κ × PV)) (k:κ) (x:PV):List (κ × PV):=if (ps.any fun p=>decide (p.1=k))=true then ps.map (fun p=>if p.1=k then (p.1,x) else p) else ps ++ [(k,x)]
variable {K : PySem.W.Frag} {M : Addr → Prop} {H : Hp}
theorem jK (k:κ):∀ {kvs:List (κ × V)}{ps:List (κ × PV)},kvs.map (·.1)=ps.map (·.1)->Reps K M H (kvs.map (·.2)) (ps.map (·.2))->(cQ ps k=none->fH kvs k=none)/\∀ x,cQ ps k=some x->∃ v,fH kvs k=some v/\aH K M H v x
 | [],[],_,_=>⟨fun _=>rfl,fun x h=>by cases h⟩
 | [],_ :: _,e,_=>by cases e
 | _ :: _,[],e,_=>by cases e
 | (k1,v) :: kvs,(k2,x) :: ps,e,r=>by
  injection e with e1 e2
  have e1:k1=k2:=e1
  subst e1
  cases r with
  | cons r t=>
   obtain ⟨h1,h2⟩:=jK k e2 t
   unfold cQ fH at h1 h2 ⊢
   by_cases e:k1=k
   ·simp only [bs2,e,decide_true,Option.map_some]
    exact⟨fun z=>(by cases z),fun y z=>(by cases z; exact⟨v,rfl,r⟩)⟩
   ·simp only [bs2,e,decide_false]
    exact⟨h1,h2⟩
theorem aE0 (k:κ) {kvs:List (κ × V)}{ps:List (κ × PV)} (e:kvs.map (·.1)=ps.map (·.1)):(kvs.any fun p=>decide (p.1=k))=ps.any fun p=>decide (p.1=k):=by
 have h1:(kvs.any fun p=>decide (p.1=k))=(kvs.map (·.1)).any fun z=>decide (z=k):=by rw [List.any_map]; rfl
 have h2:(ps.any fun p=>decide (p.1=k))=(ps.map (·.1)).any fun z=>decide (z=k):=by rw [List.any_map]; rfl
 rw [h1,h2,e]
theorem Q2 (k:κ) {w:V}{y:PV} (q:aH K M H w y):∀ {kvs:List (κ × V)}{ps:List (κ × PV)},kvs.map (·.1)=ps.map (·.1)->Reps K M H (kvs.map (·.2)) (ps.map (·.2))->
  (kvs.map fun kv=>if kv.1=k then (kv.1,w) else kv).map (·.1)=(ps.map fun kv=>if kv.1=k then (kv.1,y) else kv).map (·.1)/\Reps K M H ((kvs.map fun kv=>if kv.1=k then (kv.1,w) else kv).map (·.2)) ((ps.map fun kv=>if kv.1=k then (kv.1,y) else kv).map (·.2))
 | [],[],_,_=>⟨rfl,.nil⟩
 | [],_ :: _,e,_=>by cases e
 | _ :: _,[],e,_=>by cases e
 | (k1,v) :: kvs,(k2,x) :: ps,e,r=>by
  injection e with e1 e2
  have e1:k1=k2:=e1
  subst e1
  cases r with
  | cons r t=>
   obtain ⟨h1,h2⟩:=Q2 k q e2 t
   by_cases e:k1=k
   ·simp only [bm4,e,if_true]
    exact⟨by rw [h1],.cons q h2⟩
   ·simp only [bm4,e,bn0]
    exact⟨by rw [h1],.cons r h2⟩
theorem aE1 (k:κ) {w:V}{y:PV} (q:aH K M H w y) {kvs:List (κ × V)}{ps:List (κ × PV)} (e:kvs.map (·.1)=ps.map (·.1)) (r:Reps K M H (kvs.map (·.2)) (ps.map (·.2))) :
  (e8 kvs k w).map (·.1)=(fM ps k y).map (·.1)/\Reps K M H ((e8 kvs k w).map (·.2)) ((fM ps k y).map (·.2)):=by
 unfold e8 fM
 rw [aE0 k e]
 split
 ·exact Q2 k q e r
 ·rw [bk4,bk4,bk4,bk4,e]
  exact⟨rfl,r.append (.cons q .nil)⟩
end
noncomputable def kP:aI->PV
 | .inl i=>.int i
 | .inr x=>.str x
theorem wR {K:PySem.W.Frag}{M:Addr->Prop}{H:Hp}{v:V}{k:aI} (r:aH K M H v (kP k)):v=kV k:=by
 cases k with
 | inl i=>cases r; rfl
 | inr x=>cases r; rfl
theorem Q3 {K:PySem.W.Frag}{M:Addr->Prop}{H:Hp}:∀ {ks:List aI}{us:List V},Reps K M H us (ks.map kP)->us=ks.map kV
 | [],_,.nil=>rfl
 | k :: r,_,.cons q t=>by rw [wR q,Q3 t]; rfl
noncomputable def Q4:PV->PV
 | .fK ps=>.dK ps
 | .fT ps=>.dT ps
 | x=>x
noncomputable def Q5 (x y:PV) (o:Option PV):Prop:=(∃ ps k,Q4 x = .dK ps/\y=kP k/\o=cQ ps k) ∨ (∃ ps k,Q4 x = .dT ps/\y = .tup (k.map kP)/\o=cQ ps k)
theorem Q6 {K:PySem.W.Frag}{M M2:Addr->Prop}{H:Hp}{v w:V}{x y:PV}{o:Option PV} (h:Q5 x y o) (rx:aH K M H v x) (ry:aH K M2 H w y):∃ a o',v = .ref a/\iC H a w o'/\(o=none->o'=none)/\∀ z,o=some z->∃ u,o'=some u/\aH K M H u z:=by
 rcases h with ⟨ps,k,ex,rfl,rfl⟩ | ⟨ps,k,ex,rfl,rfl⟩
 ·obtain rfl:=wR ry
  cases rx with
  | dK m h e r=>cases ex; exact⟨_,_,rfl,iC.k h,(jK k e r).1,(jK k e r).2⟩
  | fK h e r=>cases ex; exact⟨_,_,rfl,.inl ⟨_,k,.inr ⟨_,h⟩,rfl,rfl⟩,(jK k e r).1,(jK k e r).2⟩
  | _=>cases ex
 ·obtain ⟨b,us,rfl,hb,rb⟩:=ry.sqT
  obtain rfl:=Q3 rb
  cases rx with
  | dT m h e r=>cases ex; exact⟨_,_,rfl,iC.t h hb,(jK k e r).1,(jK k e r).2⟩
  | fT h e r=>cases ex; exact⟨_,_,rfl,.inr ⟨_,k,b,.inr ⟨_,h⟩,rfl,hb,rfl⟩,(jK k e r).1,(jK k e r).2⟩
  | _=>cases ex
section
variable {X : Cx} {σ : St} {H : Hp} {D : cT} {tk td te : aF} {Q' : VK}
noncomputable def lJ (neg:Bool) (tk td:aF):aF:=fun ρ Q=>tk ρ fun y _=>td ρ fun x _=>∃ o,Q5 x y o/\Q (.bl (if neg=true then !o.isSome else o.isSome)) .fr
theorem Q7 {α β:Type}{o:Option α}{o':Option β}{P:β->α->Prop} (h1:o=none->o'=none) (h2:∀ z,o=some z->∃ u,o'=some u/\P u z):o'.isSome=o.isSome:=by
 cases o with
 | none=>rw [h1 rfl]; rfl
 | some z=>obtain ⟨u,e,_⟩:=h2 z rfl; rw [e]; rfl
theorem aE2 (h:LE X (lJ false tk td) σ H Q'):J4 (LE X tk) (LE X td) σ H Q':=by
 obtain ⟨W,ρ,Q,px,q,k⟩:=h
 refine⟨W,ρ,_,px,q,fun w H1 y g s r q=>⟨W,ρ,_,px.mono s,q,?_⟩⟩
 rintro v H2 x g' s2 r2 ⟨o,ak,q⟩
 obtain ⟨a,o',rfl,dg,h1,h2⟩:=Q6 ak r2 (r.same s2 fun _ z=>z)
 refine⟨a,o',rfl,dg,?_⟩
 rw [Q7 h1 h2]
 exact k _ _ _ .fr (s.trans s2) (.bl _) q
theorem aE3 (h:LE X (lJ true tk td) σ H Q'):J5 (LE X tk) (LE X td) σ H Q':=by
 obtain ⟨W,ρ,Q,px,q,k⟩:=h
 refine⟨W,ρ,_,px,q,fun w H1 y g s r q=>⟨W,ρ,_,px.mono s,q,?_⟩⟩
 rintro v H2 x g' s2 r2 ⟨o,ak,q⟩
 obtain ⟨a,o',rfl,dg,h1,h2⟩:=Q6 ak r2 (r.same s2 fun _ z=>z)
 refine⟨a,o',rfl,dg,?_⟩
 rw [Q7 h1 h2]
 exact k _ _ _ .fr (s.trans s2) (.bl _) q
theorem PX.updD {K:PySem.W.Frag}{H0:Hp}{W:Addr->Prop}{σ:St}{ρ:bJ}{H:Hp}{i:Nat}{a:Addr}{x:PV}{kvs:List (aI × V)}{ps:List (aI × PV)} (p:PX K H0 W σ ρ H) (hi:ρ[i]? = some (some (.own x))) (ha:σ[i]? = some (some (.ref a))) (wa:W a)
  (r:kvs.map (·.1)=ps.map (·.1)/\Reps K (Ms H0 W true) (upd H a (.dK kvs)) (kvs.map (·.2)) (ps.map (·.2))):PX K H0 W σ (ρ.set i (some (.own (.dK ps)))) (upd H a (.dK kvs)):=p.updOwn hi ha wa rfl (y:=.dK ps) ⟨kvs,bK,r⟩
theorem aE4 {κ α β:Type}{l:List (κ × α)}{m:List (κ × β)} (e:l.map (·.1)=m.map (·.1)):l.length=m.length:=by
 have:=congrArg List.length e
 rw [bh1,bh1] at this
 exact this
noncomputable def rO (i:Nat) (tk te:aF):aK:=fun D ρ=>te ρ fun z g=>∃ ps,ρ[i]? = some (some (.own (.dK ps)))/\tk ρ fun y _=>∃ k,y=kP k/\Nw g z/\ps.length < 16000000/\D.nx (ρ.set i (some (.own (.dK (fM ps k z)))))
theorem aE5 {i:Nat} (h:LS X (rO i tk te) D σ H):J6 (i8 i) (LE X tk) (LE X te) D σ H:=by
 obtain ⟨W,ρ,D',px,q,k⟩:=h
 refine⟨W,ρ,_,px,q,?_⟩
 rintro w H1 z g s rz ⟨ps,hi,q⟩
 obtain ⟨v,ev,a,rfl,wa,kvs,ea,e1,r⟩:=(px.mono s).sl i _ hi
 refine⟨_,ev,W,ρ,_,px.mono s,q,?_⟩
 rintro kv H2 y g' s2 ry ⟨kk,rfl,nw,hl,q⟩
 obtain rfl:=wR ry
 have ea2:=s2 _ _ ea
 refine⟨a,_,rfl,oI.k ea2 (hG (by rw [aE4 e1]; omega)),?_⟩
 refine k.nx W σ _ _ ((Ev.same (s.trans s2)).trans (Ev.upd wa)) ((px.mono (s.trans s2)).updD hi ev wa ?_) q
 obtain ⟨h1,h2⟩:=aE1 kk ((Nw.rep px nw rz).same s2 fun _ z=>z) e1 (r.same s2 fun _ z=>z)
 exact⟨h1,h2.keep (.upd ea2 rfl fun b m=>⟨lE wa m,m⟩)⟩
theorem aE6 (h:LE X (qC (.dK [])) σ H Q'):J8 σ H Q':=by
 obtain ⟨W,ρ,Q,px,q,k⟩:=h
 exact fun p hp=>k _ _ _ .fr (bI hp _) (.dK hp bK rfl .nil) q
end
noncomputable def cB:Nat->PV->PV->Bool
 | _,.non,.non=>true
 | _,.bl a,.bl b=>a == b
 | _,.int a,.int b=>a == b
 | _,.str a,.str b=>a == b
 | n+1,.tup xs,.tup ys=>(xs.zip ys).all (fun p=>cB n p.1 p.2) && xs.length == ys.length
 | n+1,.lst xs,.lst ys=>(xs.zip ys).all (fun p=>cB n p.1 p.2) && xs.length == ys.length
 | n+1,.kt xs,.kt ys=>(xs.zip ys).all (fun p=>cB n p.1 p.2) && xs.length == ys.length
 | _,_,_=>false
noncomputable def e9:Nat->PV->PV->Bool
 | _,.non,.non=>true
 | _,.bl _,.bl _=>true
 | _,.int _,.int _=>true
 | _,.str _,.str _=>true
 | _,.non,.int _=>true
 | _,.int _,.non=>true
 | n+1,.tup xs,.tup ys=>(xs.zip ys).all (fun p=>e9 n p.1 p.2)
 | n+1,.lst xs,.lst ys=>(xs.zip ys).all (fun p=>e9 n p.1 p.2)
 | n+1,.kt xs,.kt ys=>(xs.zip ys).all (fun p=>e9 n p.1 p.2)
 | _+1,.non,.tup _=>true
 | _+1,.tup _,.non=>true
 | _,_,_=>false
theorem Q8 (n:Nat) (a b:Int):cB n (.int a) (.int b)=(a == b):=by cases n <;> rfl
theorem Q9 (n:Nat):∀ (a b:List Int),((((intz a).zip (intz b)).all fun p=>cB n p.1 p.2) && (intz a).length == (intz b).length)=decide (a=b)
 | [],[]=>rfl
 | [],_ :: _=>by simp
 | _ :: _,[]=>by simp
 | x :: a,y :: b=>by
  have ih:=Q9 n a b
  simp only [bm4,List.zip_cons_cons,bt6,bj5,Q8] at ih ⊢
  by_cases e:x=y
  ·subst e
   have:((intz a).length+1 == (intz b).length+1)=((intz a).length == (intz b).length):=by simp
   rw [this,bp0,Bool.true_and,ih]
   simp
  ·have:(x == y)=false:=beq_eq_false_iff_ne.mpr e
   rw [this,Bool.false_and,Bool.false_and]
   simp [e]
theorem aE7 (n:Nat) (a b:List Int):cB (n+1) (.tup (intz a)) (.tup (intz b))=decide (a=b):=Q9 n a b
theorem R3 (n:Nat):∀ (a b:List Int),(((intz a).zip (intz b)).all fun p=>e9 n p.1 p.2)=true
 | [],_=>by simp
 | _ :: _,[]=>by simp
 | x :: a,y :: b=>by
  simp only [bm4,List.zip_cons_cons,bt6,R3 n a b,Bool.and_true]
  cases n <;> rfl
theorem aE8 (n:Nat) (a b:List Int):e9 (n+1) (.tup (intz a)) (.tup (intz b))=true:=R3 n a b
noncomputable def R4 (ta:aF):aF:=fun ρ Q=>ta ρ fun x _=>∃ i,x = .int i/\Q (.int (-i)) .fr
noncomputable def rP (neg:Bool):PV->Tg->PV->Tg->PK->Prop:=fun x _ y _ Q=>∃ i ns,x = .int i/\lG y=some (intz ns)/\Q (.bl (if neg=true then !decide (i ∈ ns) else decide (i ∈ ns))) .fr
noncomputable def R5:PV->Option String
 | .non=>some "NoneType"
 | .bl _=>some "bool"
 | .int _=>some "int"
 | .str _=>some "str"
 | .tup _=>some "tuple"
 | .kt _=>some "tuple"
 | .lst _=>some "list"
 | _=>none
noncomputable def iH (K:PySem.W.Frag) (n:String) (te:aF):aF:=fun ρ Q=>te ρ fun x _=>∃ T b,R5 x=some T/\PySem.W.kitOne K (.type T) (.type n)=some b/\Q (.bl b) .fr
noncomputable def lK (n:Nat) (neg:Bool):PV->Tg->PV->Tg->PK->Prop:=fun x _ y _ Q=>((∃ xs ys,x = .tup xs/\y = .tup ys) ∨ (∃ xs ys,x = .lst xs/\y = .lst ys))/\e9 (n+1) x y=true/\Q (.bl (if neg=true then !cB (n+1) x y else cB (n+1) x y)) .fr
noncomputable abbrev oZ:=bJ->(Option Int->Prop)->Prop
noncomputable def jL (xs:List PV) (lo hi:Option Int):List PV:=(xs.drop (HT.aX xs.length 0 lo)).take (HT.aX xs.length xs.length hi - HT.aX xs.length 0 lo)
noncomputable def aE9:PV->List PV->PV
 | .tup _,ys=>.tup ys
 | .kt _,ys=>.tup ys
 | _,ys=>.lst ys
noncomputable def p5 (te:aF):oZ:=fun ρ Q=>te ρ fun x _=>∃ i,x = .int i/\Q (some i)
noncomputable def wS (te:aF) (tl th:oZ):aF:=fun ρ Q=>te ρ fun x _=>tl ρ fun lo=>th ρ fun hi=>∃ xs,seqT x=some xs/\flats xs=true/\Q (aE9 x (jL xs lo hi)) .fr
noncomputable def gA (N:List Str) (xs:List PV):bJ:=xs.map (fun x=>some (.sh (flat x) x)) ++ List.replicate (N.length - xs.length) none
noncomputable abbrev cG (ta tb:aF):aF:=q2 (gK fun i j=>.int (i+j)) ta tb
noncomputable abbrev lM (ta tb:aF):aF:=q2 (gK fun i j=>.int (i - j)) ta tb
noncomputable abbrev p6 (ta tb:aF):aF:=q2 (RI oA fun i j=>.int (i * j)) ta tb
noncomputable abbrev fC (ta tb:aF):aF:=q2 (RI uL fun i j=>.int (i / j)) ta tb
noncomputable abbrev cC (ta tb:aF):aF:=q2 (RI (fun _ j=>0 < j) fun i j=>.int (i % j)) ta tb
noncomputable abbrev p7 (ta tb:aF):aF:=q2 (gK fun i j=>.bl (decide (i < j))) ta tb
noncomputable abbrev mW (ta tb:aF):aF:=q2 (gK fun i j=>.bl (decide (j < i))) ta tb
noncomputable abbrev qGe (ta tb:aF):aF:=q2 (gK fun i j=>.bl (decide (j<=i))) ta tb
noncomputable abbrev eR (ta tb:aF):aF:=q2 (lC false) ta tb
noncomputable abbrev wT (ta tb:aF):aF:=q2 (lC true) ta tb
noncomputable abbrev R6 (ta tb:aF):aF:=q2 (wN true) ta tb
noncomputable abbrev b7 (ta tb:aF):aF:=q2 wJ ta tb
noncomputable def jM:List PV->(PV->Prop)->Prop:=fun xs Q=>P6 xs Q/\∀ ns,xs ≠ [.scr ns]
noncomputable def kE:aK:=fun _ _=>False
noncomputable def QE (X:Cx) (e:Expr) (t:aF):Prop:=PE X e (LE X t)
noncomputable def QT (X:Cx) (e:Expr) (t:c7):Prop:=PT X e (LT X t)
noncomputable def QW (X:Cx) (e:Expr) (t:c7):Prop:=PW X e (LT X t)
noncomputable def QA (X:Cx) (es:List Expr) (t:cW):Prop:=PA X es (LA X t)
noncomputable def QS (X:Cx) (st:Stmt) (t:aK):Prop:=PS X st (LS X t)
noncomputable def fD (X:Cx) (st:List Stmt) (t:aK):Prop:=dW X st (LS X t)
noncomputable def QI (X:Cx) (tg iter:Expr) (t:fI):Prop:=PI X tg iter (LI X t)
section
variable {X : Cx}
theorem cH {e:Expr}{t t':TE} (h:PE X e t) (m:∀ σ H Q,t' σ H Q->t σ H Q):PE X e t':=fun pins s σ H Q I q=>h pins s σ H Q I (m σ H Q q)
theorem mX {e:Expr}{t t':TT} (h:PT X e t) (m:∀ σ H Q,t' σ H Q->t σ H Q):PT X e t':=fun pins s σ H Q I q=>h pins s σ H Q I (m σ H Q q)
theorem R7 {e:Expr}{t t':TT} (h:PW X e t) (m:∀ σ H Q,t' σ H Q->t σ H Q):PW X e t':=fun wh pins s σ H Q I q=>h wh pins s σ H Q I (m σ H Q q)
theorem R8 {e:List Expr}{t t':TA} (h:PA X e t) (m:∀ σ H Q,t' σ H Q->t σ H Q):PA X e t':=fun pos pins s σ H Q I q=>h pos pins s σ H Q I (m σ H Q q)
theorem dN {e:Stmt}{t t':TS} (h:PS X e t) (m:∀ D σ H,t' D σ H->t D σ H):PS X e t':=fun pins s σ H D I q=>h pins s σ H D I (m D σ H q)
theorem wU {e:List Stmt}{t t':TS} (h:dW X e t) (m:∀ D σ H,t' D σ H->t D σ H):dW X e t':=fun pins s σ H D I q=>h pins s σ H D I (m D σ H q)
theorem rQ {tg e:Expr}{t t':TI} (h:PI X tg e t) (m:∀ σ H R,t' σ H R->t σ H R):PI X tg e t':=fun pins s σ H R I q=>h pins s σ H R I (m σ H R q)
variable {a b c e o : Expr} {es cN : List Expr} {ta tb te to tk : aF} {tr : cW} {tA tB' tc : c7} {pos p2 px : Pos} {st : Stmt} {sts : List Stmt} {t u : aK}
theorem qv (i:Nat) {x:Str}{pos:Pos} (hN:X.N[i]? = some x:=by rfl) (hv:gG X.env.scope x:=by first | exact Or.inl rfl | exact Or.inr (Or.inl rfl) | exact Or.inr (Or.inr rfl)) (hd:(x == ("__debug__" : Str))=false:=by decide)
  (hcd:(x == ("__classdict__" : Str))=false:=by decide):QE X (.Name x pos) (a5 i):=cH (iR hN hv hd hcd) fun _ _ _=>az7
theorem aG {i j}:QE X (.Constant (.int i) j pos) (qC (.int i)):=cH kT fun _ _ _=>rE fun _=>.int i
theorem fN {i j}:QE X (.Constant (.bool i) j pos) (qC (.bl i)):=cH zV fun _ _ _=>rE fun _=>.bl i
theorem mY {j}:QE X (.Constant .none j pos) (qC .non):=cH am3 fun _ _ _=>rE fun _=>.non
theorem R9 {i j}:QE X (.Constant (.str i) j pos) (qC (.str i)):=cH am4 fun _ _ _=>rE fun _=>.str i
theorem lN {op:Operator}{R:PV->Tg->PV->Tg->PK->Prop}{r:R2} (ho:cI X (binaryOp op) r) (cv:eN X R r) (ha:QE X a ta) (hb:QE X b tb):QE X (.BinOp a op b pos) (q2 R ta tb):=cH (ap0 ho ha hb) fun _ _ _=>rF cv
theorem cX (ha:QE X a ta) (hb:QE X b tb):QE X (.BinOp a .Add b pos) (q2 (gK fun i j=>.int (i+j)) ta tb):=lN ap1 O3 ha hb
theorem mZ (ha:QE X a ta) (hb:QE X b tb):QE X (.BinOp a .Sub b pos) (q2 (gK fun i j=>.int (i - j)) ta tb):=lN ap2 O3 ha hb
theorem p9 (ha:QE X a ta) (hb:QE X b tb):QE X (.BinOp a .Mult b pos) (q2 (RI oA fun i j=>.int (i * j)) ta tb):=lN ap3 wC ha hb
theorem hZ (ha:QE X a ta) (hb:QE X b tb):QE X (.BinOp a .FloorDiv b pos) (q2 (RI uL fun i j=>.int (i / j)) ta tb):=lN ap4 wC ha hb
theorem dC (ha:QE X a ta) (hb:QE X b tb):QE X (.BinOp a .Mod b pos) (q2 (RI (fun _ j=>0 < j) fun i j=>.int (i % j)) ta tb):=lN ap5 wC ha hb
theorem rR {op:CmpOp}{R:PV->Tg->PV->Tg->PK->Prop}{r:R2} (ho:cI X (compareOp op) r) (cv:eN X R r) (ha:QE X a ta) (hb:QE X b tb) (hm:behindInMarks op b=false):QE X (.Compare a [op] [b] pos) (q2 R ta tb):=cH (uN ho ha hb hm) fun _ _ _=>rF cv
theorem jN {op:CmpOp}{R:PV->Tg->PV->Tg->PK->Prop}{r:R2} (ho:cI X (compareOp op) r) (cv:eN X R r) (ha:QE X a ta) (hb:QE X b tb) (hm:behindInMarks op b=false):QT X (.Compare a [op] [b] pos) (aZ (q2 R ta tb)):=mX (aq0 ho ha hb hm) fun _ _ _ h=>rF cv (rH h)
theorem aF0 (ha:QE X a ta) (hb:QE X b tb):QE X (.Compare a [.Lt] [b] pos) (q2 (gK fun i j=>.bl (decide (i < j))) ta tb):=rR qJ rG ha hb (gH _)
theorem aF1 (ha:QE X a ta) (hb:QE X b tb):QE X (.Compare a [.GtE] [b] pos) (q2 (gK fun i j=>.bl (decide (j<=i))) ta tb):=rR ap7 rG ha hb (gH _)
theorem wV (ha:QE X a ta) (hb:QE X b tb):QE X (.Compare a [.Eq] [b] pos) (q2 (lC false) ta tb):=rR C3 O6 ha hb (gH _)
theorem rS (ha:QE X a ta) (hb:QE X b tb):QT X (.Compare a [.Lt] [b] pos) (aZ (q2 (gK fun i j=>.bl (decide (i < j))) ta tb)):=jN qJ rG ha hb (gH _)
theorem aF2 (ha:QE X a ta) (hb:QE X b tb):QT X (.Compare a [.Gt] [b] pos) (aZ (q2 (gK fun i j=>.bl (decide (j < i))) ta tb)):=jN ap6 rG ha hb (gH _)
theorem kF (ha:QE X a ta) (hb:QE X b tb):QT X (.Compare a [.Eq] [b] pos) (aZ (q2 (lC false) ta tb)):=jN C3 O6 ha hb (gH _)
theorem S0 (ha:QE X a ta) (hb:QE X b tb):QT X (.Compare a [.NotEq] [b] pos) (aZ (q2 (lC true) ta tb)):=jN C4 az8 ha hb (gH _)
theorem S2 (ha:QE X a ta) (hb:QE X b tb):QT X (.Compare a [.IsNot] [b] pos) (aZ (q2 (wN true) ta tb)):=jN ap8 aD3 ha hb (gH _)
theorem aF3 (hu:X.A.units+1 < cLine) (hk:QE X a tk) (hd:QE X b te) (hm:behindInMarks .In b=false:=by rfl):QT X (.Compare a [.In] [b] pos) (aZ (lJ false tk te)):=mX (zX (au8 hu hk hd) hm) fun _ _ _ h=>aE2 (rH h)
theorem S3 (hu:X.A.units+1 < cLine) (hk:QE X a tk) (hd:QE X b te) (hm:behindInMarks .NotIn b=false:=by rfl):QT X (.Compare a [.NotIn] [b] pos) (aZ (lJ true tk te)):=mX (zX (au9 hu hk hd) hm) fun _ _ _ h=>aE3 (rH h)
theorem jO (h:QE X e te) (he:∀ whole,isTrue e X.env whole=(do let v <- whole; standAt e.pos; holding [v] (truthy v)):=by intro _; rfl):QT X e (aZ te):=mX (am6 h he) fun _ _ _ h=>rH h
theorem pA (h:QE X e te) (he:∀ whole,isTrue e X.env whole=(do let v <- whole; standAt e.pos; holding [v] (truthy v)):=by intro _; rfl):QT X e (lH te):=mX (aq3 h he) fun _ _ _ h=>aD1 h
theorem S4 (ha:QT X a tA):QW X (.BoolOp .And [a] pos) tA:=am7 ha
theorem wW (ha:QT X a tA):QW X (.BoolOp .Or [a] pos) tA:=am8 ha
theorem S5 (ha:QT X a tA) (hb:QW X (.BoolOp .And (b :: cN) pos) tB'):QW X (.BoolOp .And (a :: b :: cN) pos) (k9 tA tB'):=R7 (am9 ha hb) fun _ _ _=>az9
theorem pB (ha:QT X a tA) (hb:QW X (.BoolOp .Or (b :: cN) pos) tB'):QW X (.BoolOp .Or (a :: b :: cN) pos) (kA tA tB'):=R7 (an0 ha hb) fun _ _ _=>aA0
theorem pC (h:QW X e tA):QT X e tA:=PW.pt h
theorem iT (ha:QT X a tA):QT X (.UnaryOp .Not a pos) (gL tA):=mX (an1 ha) fun _ _ _=>aA1
theorem pD {op} (h:QE X a ta):QE X (.BoolOp op [a] pos) ta:=an2 h
theorem pE (ha:QE X a ta) (hb:QE X (.BoolOp .And (b :: cN) pos) tb):QE X (.BoolOp .And (a :: b :: cN) pos) (lD ta tb):=cH (an3 ha hb) fun _ _ _=>aA2
theorem aF4 (ha:QE X a ta) (hb:QE X (.BoolOp .Or (b :: cN) pos) tb):QE X (.BoolOp .Or (a :: b :: cN) pos) (rJ ta tb):=cH (an4 ha hb) fun _ _ _=>aA3
theorem S6 (ha:QE X a ta):QE X (.UnaryOp .Not a pos) (rK ta):=cH (an5 ha) fun _ _ _=>aA4
theorem aC:QA X [] a9:=R8 dL fun _ _ _=>aA5
theorem a8 (ha:QE X e te) (hr:QA X es tr) (hs:starEach (e :: es) X.env=(false,eval e X.env) :: starEach es X.env:=by rfl):QA X (e :: es) (a7 te tr):=R8 (cO ha hr hs) fun _ _ _=>aA6
theorem iI {x1} (h:QA X es tr):QE X (.Tuple es x1 pos) (g6 tr):=cH (C7 h) fun _ _ _=>aA8
theorem aF5 {x1} (h:QA X es tr):QE X (.Tuple es x1 pos) (wD tr):=cH (C7 h) fun _ _ _=>aA7
theorem gB (h:QA X es tr):QE X (.List es pos) (eO tr):=cH (uS h) fun _ _ _=>aA9
theorem bF (ha:QE X a ta) (hb:QE X b tb) (hs:F3 b:=by exact fun _ _=>rfl):QE X (.Subscript a b pos) (q2 wJ ta tb):=cH (jA as6 ha hb hs) fun _ _ _=>rF aC3
theorem S7:QE X (.Dict [] [] pos) (qC (.dK [])):=cH av1 fun _ _ _=>aE6
theorem kG {x:Str}{id:String}{R:List PV->(PV->Prop)->Prop}{r:List V->Hp->VK->Prop} (hc:dI X (.builtin id) r) (cv:hV X R r) (hg:Gl X x) (hm:X.mg x=none) (hv:bootBuiltins x=some (.builtin id)) (ha:QA X (e :: es) tr) (hn:x ≠ "__name__":=by decide) (hdb:(x == ("__debug__" : Str))=false:=by decide)
  (he:starEach (e :: es) X.env=(false,eval e X.env) :: starEach es X.env:=by rfl) (hpl:(backTo pos (starEach es X.env)).any (·.1)=false:=by rfl):QE X (.Call (.Name x p2) (e :: es) [] pos) (aD R tr):=cH (oD hc hg hm hv ha hn hdb he hpl) fun _ _ _=>O7 cv
theorem aF6 {x:Str}{T:String}{R:List PV->(PV->Prop)->Prop}{r:List V->Hp->VK->Prop} (hc:dI X (.type T) r) (cv:hV X R r) (hg:Gl X x) (hm:X.mg x=none) (hv:bootBuiltins x=some (.type T)) (ha:QA X (e :: es) tr) (hn:x ≠ "__name__":=by decide) (hdb:(x == ("__debug__" : Str))=false:=by decide)
  (he:starEach (e :: es) X.env=(false,eval e X.env) :: starEach es X.env:=by rfl) (hpl:(backTo pos (starEach es X.env)).any (·.1)=false:=by rfl):QE X (.Call (.Name x p2) (e :: es) [] pos) (aD R tr):=cH (E5 hc hg hm hv ha hn hdb he hpl) fun _ _ _=>O7 cv
theorem dD:fD X [] cF:=wU A6 fun _ _ _=>aB0
theorem aE (h1:QS X st t) (h2:fD X sts u):fD X (st :: sts) (aB t u):=wU (kU h1 h2) fun _ _ _=>aB1
theorem aT (h1:QS X st t):fD X [st] t:=j5 h1
theorem lO:QS X st kE:=dN an9 fun _ _ _ ⟨_,_,_,_,h,_⟩=>h
theorem b9 {i:Nat}{x:Str} (hN:X.N.Nodup) (he:QE X e te) (hi:X.N[i]? = some x:=by rfl) (hx:gT X.env.scope x:=by first | exact Or.inl rfl | exact Or.inr rfl) (hs:swapsWith e (some (.Name x p2)) pos.line X.env=pure false:=by rfl) (hf:X.fn x=true ∨ X.env.scope.names.lookup x=some .local:=by first | exact .inl rfl | exact .inr rfl) :
  QS X (.Assign [.Name x p2] e pos) (b6 i te):=dN (uG hN hi hx he hs hf) fun _ _ _=>wG
theorem dZ {i:Nat}{x:Str} (hN:X.N.Nodup) (he:QE X e te) (hi:X.N[i]? = some x:=by rfl) (hx:gT X.env.scope x:=by first | exact Or.inl rfl | exact Or.inr rfl) (hs:swapsWith e (some (.Name x p2)) pos.line X.env=pure false:=by rfl) (hf:X.fn x=true ∨ X.env.scope.names.lookup x=some .local:=by first | exact .inl rfl | exact .inr rfl) :
  QS X (.Assign [.Name x p2] e pos) (dB i te):=dN (uG hN hi hx he hs hf) fun _ _ _=>P3
theorem wX (i:Nat) (h:QS X st t):QS X st (oS i t):=dN h fun _ _ _=>aB4
theorem c8 (he:QE X e te):QS X (.Return (some e) pos) (bN te):=dN (kX he) fun _ _ _=>aB5
theorem nA (i:Nat) {x:Str} (hN:X.N[i]? = some x:=by rfl) (hv:gG X.env.scope x:=by first | exact Or.inl rfl | exact Or.inr (Or.inl rfl) | exact Or.inr (Or.inr rfl)) (hd:(x == ("__debug__" : Str))=false:=by decide) (hcd:(x == ("__classdict__" : Str))=false:=by decide) :
  QS X (.Return (some (.Name x p2)) pos) (kB i):=dN (kX (iR hN hv hd hcd)) fun _ _ _=>aB6
theorem dE {sa sb:List Stmt} (hc:QT X c tc) (ha:fD X sa t) (hb:fD X sb u):QS X (.If c sa sb pos) (bX tc t u):=dN (A7 hc ha hb) fun _ _ _=>aB7
theorem pF {body:List Stmt} (hp:PassesOwn (model X.prog X.w) X.A X.env X.xe) (hc:QT X c tc) (hb:fD X body t):QS X (.While c body [] pos) (lF tc t):=dN (ao2 hp hc hb) fun _ _ _=>aB8
theorem jP (i:Nat) {x:Str}{apos cpos xpos:Pos} (he:QE X e te) (hN:X.N[i]? = some x:=by rfl) (hv:gG X.env.scope x:=by first | exact Or.inl rfl | exact Or.inr (Or.inl rfl) | exact Or.inr (Or.inr rfl)) (hd:(x == ("__debug__" : Str))=false:=by decide) (hcd:(x == ("__classdict__" : Str))=false:=by decide)
  (hbase:attributeBase (.Name x xpos) "append" X.env (eval (.Name x xpos) X.env)=eval (.Name x xpos) X.env:=by rfl)
  (hfew:((backTo cpos (starEach [e] X.env)).all (fun x=>!x.1) && (backToKw cpos (keywordEach [] X.env)).all (fun x=>x.1.isSome) && decide (([e]:List Expr).length+([]:List Keyword).length+(if ([]:List Keyword).isEmpty then 0 else 1) < 30))=true:=by rfl)
  (hline:(apos.endLine == cpos.line)=true:=by rfl) (hs:starEach [e] X.env=(false,eval e X.env) :: starEach [] X.env:=by rfl) (hplain:(backTo cpos (starEach [] X.env)).any (·.1)=false:=by rfl)
  (hsw:swapsWith (.Call (.Attribute (.Name x xpos) "append" apos) [e] [] cpos) none pos.line X.env=pure false:=by rfl) :
  QS X (.Expr (.Call (.Attribute (.Name x xpos) "append" apos) [e] [] cpos) pos) (gN i te):=
 dN (kW (l9 bp1 bt8 bt9 mJ (iR hN hv hd hcd) (cO he dL hs) hbase hfew hline hs hplain) hsw) fun _ _ _=>aB9
theorem S8 {i:Nat}{x:Str}{xpos tpos:Pos} (hu:X.A.units+1 < cLine) (hk:QE X a tk) (he:QE X e te) (hN:X.N[i]? = some x:=by rfl) (hv:gG X.env.scope x:=by first | exact Or.inl rfl | exact Or.inr (Or.inl rfl) | exact Or.inr (Or.inr rfl)) (hd:(x == ("__debug__" : Str))=false:=by decide) (hcd:(x == ("__classdict__" : Str))=false:=by decide)
  (hs:swapsWith e (some (.Subscript (.Name x xpos) a tpos)) pos.line X.env=pure false:=by rfl):QS X (.Assign [.Subscript (.Name x xpos) a tpos] e pos) (rO i tk te):=dN (av0 hu (iR hN hv hd hcd) hk he hs) fun _ _ _=>aE5
theorem S9 {tg l:Expr}{tl:TE} (hl:PE X l tl):PI X tg l (wO X.K tl):=by
 intro pins s σ H R I h
 refine aO (hl pins s σ H _ I h) fun v s1 ⟨x,H1,I1,r1,q1⟩=>?_
 obtain ⟨a,e,q⟩:=q1
 subst e
 cases r1
 rcases q with ⟨xs,hq,q⟩ | ⟨xs,hq,q⟩
 ·obtain ⟨its,rv,p,hz⟩:=I1.list hq
  refine wpAny_pyIter_list p.isList ?_
  refine⟨s1.heap.objs.size,[s1.heap.objs.size],_,_,H1,rfl,I1.kept (t':=s1.toks) fun b o e=>bg4 _ e,ao3 a _,⟨_,bi6 _ rfl,rfl,rfl⟩,fun b hb=>?_,q⟩
  have e:b=s1.heap.objs.size:=by simpa using hb
  subst e
  exact I1.fpOk (bh0 _) (I1.hok.fresh (bh0 _))
 ·obtain ⟨its,rv,p,hz⟩:=I1.tuple hq
  refine wpAny_pyIter_tuple (show s1.heap.IsTuple a its.toArray from p) ?_
  refine⟨s1.heap.objs.size,[s1.heap.objs.size],_,_,H1,rfl,I1.kept (t':=s1.toks) fun b o e=>bg4 _ e,B1 a _,⟨_,bi6 _ rfl,rfl,rfl⟩,fun b hb=>?_,q⟩
  have e:b=s1.heap.objs.size:=by simpa using hb
  subst e
  exact I1.fpOk (bh0 _) (I1.hok.fresh (bh0 _))
theorem i4 {tg l:Expr} (hl:QE X l te):QI X tg l (fJ te):=rQ (S9 hl) fun _ _ _=>aD4
theorem lP {tg:Expr} (hg:Gl X "range") (hm:X.mg "range" = none) (ha:QE X a ta) (hs:starEach [a] X.env = [(false,eval a X.env)]:=by rfl):QI X tg (.Call (.Name "range" p2) [a] [] pos) (jJ ta):=rQ (ao6 hg hm (cO ha dL hs) hs) fun _ _ _=>aD5
theorem wY {tg:Expr} (hg:Gl X "range") (hm:X.mg "range" = none) (ha:QE X a ta) (hb:QE X b tb) (hs:starEach [a,b] X.env = [(false,eval a X.env),(false,eval b X.env)]:=by rfl) (hs2:starEach [b] X.env = [(false,eval b X.env)]:=by rfl) :
  QI X tg (.Call (.Name "range" p2) [a,b] [] pos) (oV ta tb):=rQ (ao7 hg hm (cO ha (cO hb dL hs2) (by rw [hs,hs2])) hs hs2) fun _ _ _=>aD6
theorem T0 {tg:Expr}{body:List Stmt}{ti:fI}{p:kC}{g:TG}{own:Nat->Prop} (hp:PassesOwn (model X.prog X.w) X.A X.env X.xe) (hc:X.calm=true) (hi:QI X tg e ti) (hg:PG X tg g) (ht:oW X.K own p g) (hb:fD X body t)
  (hs:∀ x,foldedSetIterable e X.env x=pure x:=by intro _; rfl):QS X (.For tg e body [] pos) (dY ti p t):=dN (qI hp hc hi hg hb hs) fun _ _ _=>aD7 ht
end
section
variable {X : Cx} {pins : List (Addr × Obj)} {σ : St} {H : Hp} {s : Shared} {K : PySem.W.Frag} {M M' : Addr → Prop}
theorem mQ.inj {a:Addr}{us ws:List V} (h:mQ K a us) (h':mQ K a ws):us=ws:=by
 obtain ⟨o,its,n,e1,_,e2,_,v⟩:=h
 obtain ⟨o',its',n',e1',_,e2',_,v'⟩:=h'
 rw [e1] at e1'; cases e1'
 rw [e2] at e2'; cases e2'
 exact v.inj v'
theorem Reps.self_of {n:Nat} (ih:∀ {v:V}{x y:PV},aH K M H v x->aH K M' H v y->e9 n x y=true->cB n x y=true):∀ {vs:List V}{xs ys:List PV},Reps K M H vs xs->Reps K M' H vs ys->((xs.zip ys).all fun p=>e9 n p.1 p.2)=true->(((xs.zip ys).all fun p=>cB n p.1 p.2) && xs.length == ys.length)=true
 | _,_,_,.nil,.nil,_=>rfl
 | _,_,_,.cons r t,.cons r' t',o=>by
  simp only [List.zip_cons_cons,bt6,bl6] at o
  have h1:=ih r r' o.1
  have h2:=Reps.self_of ih t t' o.2
  simp only [List.zip_cons_cons,bt6,h1,Bool.true_and,bj5] at h2 ⊢
  rw [<- h2]
  congr 1
  simp
theorem aH.self:∀ (n:Nat) {v:V}{x y:PV},aH K M H v x->aH K M' H v y->e9 n x y=true->cB n x y=true:=by
 intro n
 induction n with
 | zero=>
  intro v x y r r' o
  cases r with
  | non=>cases r'; rfl
  | bl b=>cases r'; exact bp0 b
  | int i=>cases r'; exact bp0 i
  | str z=>cases r'; exact bp0 z
  | _=>cases o
 | succ n ih=>
  intro v x y r r' o
  cases r with
  | non=>cases r'; rfl
  | bl b=>cases r'; exact bp0 b
  | int i=>cases r'; exact bp0 i
  | str z=>cases r'; exact bp0 z
  | tup h rr=>
   cases r' with
   | tup h' rr'=>rw [h] at h'; cases h'; exact Reps.self_of ih rr rr' o
   | _=>cases o
  | lst _ h rr=>
   cases r' with
   | lst _ h' rr'=>rw [h] at h'; cases h'; exact Reps.self_of ih rr rr' o
   | _=>cases o
  | kt h rr=>
   cases r' with
   | kt h' rr'=>cases mQ.inj h h'; exact Reps.self_of ih rr rr' o
   | _=>cases o
  | _=>cases o
theorem Reps.self (n:Nat) {vs:List V}{xs ys:List PV} (r:Reps K M H vs xs) (r':Reps K M' H vs ys) (o:((xs.zip ys).all fun p=>e9 n p.1 p.2)=true):(((xs.zip ys).all fun p=>cB n p.1 p.2) && xs.length == ys.length)=true:=Reps.self_of (aH.self n) r r' o
theorem jQ (n:Nat) (xs ys:List PV):(List.range (min xs.length ys.length)).all (fun j=>cB n (xs.getD j .non) (ys.getD j .non))=(xs.zip ys).all fun p=>cB n p.1 p.2:=by
 rw [bp9]
 simp only [br5,bu2]
 constructor
 ·intro h p hp
  obtain ⟨j,hj,e⟩:=List.getElem_of_mem hp
  have hj':j < min xs.length ys.length:=by simpa using hj
  have:=h j hj'
  rw [List.getElem_zip] at e
  subst e
  have h1:j < xs.length:=by omega
  have h2:j < ys.length:=by omega
  simpa [bh7,h1,h2] using this
 ·intro h j hj
  have h1:j < xs.length:=by omega
  have h2:j < ys.length:=by omega
  have hz:j < (xs.zip ys).length:=by simp; omega
  have:=h _ (bq0 hz)
  rw [List.getElem_zip] at this
  simpa [bh7,h1,h2] using this
theorem T1 (I:a6 X pins σ H s):∀ (n:Nat) {A:Around}{v w:V}{x y:PV}{a b:Value},A.units+n < cLine->aH X.K M H v x->aH X.K M' H w y->aV v a->aV w b->e9 n x y=true->SeqAt.EqAt A s a b (cB n x y):=by
 intro n
 induction n with
 | zero=>
  intro A v w x y a b hu rx ry ra rb o
  cases rx with
  | non=>
   cases ra
   cases ry with
   | non=>cases rb; exact SeqAt.EqAt.same _
   | int i=>obtain ⟨t',rfl⟩:=rb; exact SeqAt.EqAt.none_int _ _
   | _=>cases o
  | bl i=>
   cases ra
   cases ry with
   | bl j=>cases rb; exact SeqAt.EqAt.bool_bool _ _
   | _=>cases o
  | int i=>
   obtain ⟨t,rfl⟩:=ra
   cases ry with
   | int j=>obtain ⟨t',rfl⟩:=rb; exact SeqAt.EqAt.int_int _ _ _ _
   | non=>cases rb; exact SeqAt.EqAt.int_none _ _
   | _=>cases o
  | str i=>
   obtain ⟨t,rfl⟩:=ra
   cases ry with
   | str j=>obtain ⟨t',rfl⟩:=rb; exact SeqAt.EqAt.str_str _ _ _ _
   | _=>cases o
  | _=>cases o
 | succ n ih=>
  intro A v w x y a b hu rx ry ra rb o
  have items:∀ {us ws:List V}{xs ys:List PV}{its its2:List Value},Reps X.K M H us xs->Reps X.K M' H ws ys->aM us its->aM ws its2->((xs.zip ys).all fun p=>e9 n p.1 p.2)=true->
    ∀ j (h1:j < its.toArray.size) (h2:j < its2.toArray.size),SeqAt.EqAt A.in1 s its.toArray[j] its2.toArray[j] (cB n (xs.getD j .non) (ys.getD j .non)):=fun {us ws xs ys its its2} r1 r2 v1 v2 ok j h1 h2=>by
   have l1:=v1.length
   have l2:=v2.length
   have m1:=r1.length
   have m2:=r2.length
   have k1:j < its.length:=by simpa using h1
   have k2:j < its2.length:=by simpa using h2
   have j1:j < us.length:=by omega
   have j2:j < ws.length:=by omega
   have i1:j < xs.length:=by omega
   have i2:j < ys.length:=by omega
   obtain ⟨u,hu',ru⟩:=v1.get (bg7 j1)
   obtain ⟨u2,hu2',ru2⟩:=v2.get (bg7 j2)
   obtain ⟨x,hx,rx⟩:=r1.get (bg7 j1)
   obtain ⟨y,hy,ry⟩:=r2.get (bg7 j2)
   have e1:its.toArray[j]=u:=by
    rw [bg7 k1] at hu'
    simpa using hu'
   have e2:its2.toArray[j]=u2:=by
    rw [bg7 k2] at hu2'
    simpa using hu2'
   have ok':e9 n x y=true:=by
    rw [br5] at ok
    have hz:j < (xs.zip ys).length:=by simp; omega
    have:=ok _ (bq0 hz)
    rw [List.getElem_zip] at this
    rw [bg7 i1] at hx
    rw [bg7 i2] at hy
    cases hx; cases hy
    exact this
   rw [e1,e2]
   have g1:xs.getD j .non=x:=by rw [bh7,hx]; rfl
   have g2:ys.getD j .non=y:=by rw [bh7,hy]; rfl
   rw [g1,g2]
   exact ih (by show A.units+1+n < cLine; omega) rx ry ru ru2 ok'
  have huA:A.units < cLine:=by omega
  cases rx with
  | @kt p us xs h1 r1=>
   obtain ⟨its,v1,p1,_⟩:=I.tuple (.inr h1)
   cases (show a=Value.ref p from ra)
   cases ry with
   | @kt p2 ws ys h2 r2=>
    obtain ⟨its2,v2,p2',_⟩:=I.tuple (.inr h2)
    cases (show b=Value.ref p2 from rb)
    by_cases e:p=p2
    ·subst e
     have:=aH.self (K:=X.K) (M:=M) (M':=M') (n+1) (.kt h1 r1) (.kt h2 r2) o
     rw [this]
     exact SeqAt.EqAt.same _
    ·have:=SeqAt.RcAt.tuples p1 p2' huA (items r1 r2 v1 v2 o)
     refine .of_refs e ?_
     have l1:=v1.length
     have l2:=v2.length
     have m1:=r1.length
     have m2:=r2.length
     rw [bg5,bg5,<- l1,<- l2,m1,m2,jQ] at this
     exact this
   | _=>cases o
  | @tup p us xs h1 r1=>
   obtain ⟨its,v1,p1,_⟩:=I.tuple (aJ.of (K:=X.K) h1)
   cases (show a=Value.ref p from ra)
   cases ry with
   | @tup p2 ws ys h2 r2=>
    obtain ⟨its2,v2,p2',_⟩:=I.tuple (aJ.of (K:=X.K) h2)
    cases (show b=Value.ref p2 from rb)
    by_cases e:p=p2
    ·subst e
     have:=aH.self (K:=X.K) (M:=M) (M':=M') (n+1) (.tup h1 r1) (.tup h2 r2) o
     rw [this]
     exact SeqAt.EqAt.same _
    ·have:=SeqAt.RcAt.tuples p1 p2' huA (items r1 r2 v1 v2 o)
     refine .of_refs e ?_
     have l1:=v1.length
     have l2:=v2.length
     have m1:=r1.length
     have m2:=r2.length
     rw [bg5,bg5,<- l1,<- l2,m1,m2,jQ] at this
     exact this
   | non=>cases rb; exact SeqAt.EqAt.tuple_none p1 huA
   | _=>cases o
  | @lst p us xs _ h1 r1=>
   obtain ⟨its,v1,p1,_⟩:=I.list (aN.of (K:=X.K) h1)
   cases (show a=Value.ref p from ra)
   cases ry with
   | @lst p2 ws ys _ h2 r2=>
    obtain ⟨its2,v2,p2',_⟩:=I.list (aN.of (K:=X.K) h2)
    cases (show b=Value.ref p2 from rb)
    have l1:=v1.length
    have l2:=v2.length
    have m1:=r1.length
    have m2:=r2.length
    by_cases e:p=p2
    ·subst e
     rw [h1] at h2; cases h2
     have:=Reps.self n r1 r2 o
     show SeqAt.EqAt A s _ _ ((xs.zip ys).all (fun p=>cB n p.1 p.2) && xs.length == ys.length)
     rw [this]
     exact SeqAt.EqAt.same _
    ·refine .of_refs e ?_
     by_cases hl:xs.length=ys.length
     ·have:=SeqAt.RcAt.lists p1.isList p2'.isList (by rw [bg5,bg5]; omega) huA (items r1 r2 v1 v2 o)
      have hm:min xs.length ys.length=its.length:=by omega
      rw [bg5,<- hm,jQ] at this
      show SeqAt.RcAt A s _ _ ((xs.zip ys).all (fun p=>cB n p.1 p.2) && xs.length == ys.length)
      rw [show (xs.length == ys.length)=true by simpa using hl,Bool.and_true]
      exact this
     ·have:=SeqAt.RcAt.lists_lengths (A:=A) p1.isList p2'.isList (by rw [bg5,bg5]; simp; omega) huA
      show SeqAt.RcAt A s _ _ ((xs.zip ys).all (fun p=>cB n p.1 p.2) && xs.length == ys.length)
      rw [show (xs.length == ys.length)=false by simpa using hl,bs9]
      exact this
   | _=>cases o
  | non=>
   cases ra
   cases ry with
   | non=>cases rb; exact SeqAt.EqAt.same _
   | int i=>obtain ⟨t',rfl⟩:=rb; exact SeqAt.EqAt.none_int _ _
   | @tup p2 ws ys h2 r2=>
    obtain ⟨its2,v2,p2',_⟩:=I.tuple (aJ.of (K:=X.K) h2)
    cases (show b=Value.ref p2 from rb)
    exact SeqAt.EqAt.none_tuple p2' huA
   | _=>cases o
  | bl i=>
   cases ra
   cases ry with
   | bl j=>cases rb; exact SeqAt.EqAt.bool_bool _ _
   | _=>cases o
  | int i=>
   obtain ⟨t,rfl⟩:=ra
   cases ry with
   | int j=>obtain ⟨t',rfl⟩:=rb; exact SeqAt.EqAt.int_int _ _ _ _
   | non=>cases rb; exact SeqAt.EqAt.int_none _ _
   | _=>cases o
  | str i=>
   obtain ⟨t,rfl⟩:=ra
   cases ry with
   | str j=>obtain ⟨t',rfl⟩:=rb; exact SeqAt.EqAt.str_str _ _ _ _
   | _=>cases o
  | _=>cases o
end
structure Bt (mg:Str->Option Value):Prop where
 len:mg "len" = none
 range:mg "range" = none
 tuple:mg "tuple" = none
 list:mg "list" = none
 sorted:mg "sorted" = none
 all:mg "all" = none
 any:mg "any" = none
 zip:mg "zip" = none
 min:mg "min" = none
 max:mg "max" = none
 sum:mg "sum" = none
 isinst:mg "isinstance" = none
 int:mg "int" = none
 bool:mg "bool" = none
 enum:mg "enumerate" = none
section
variable {X : Cx} {a b c e o : Expr} {es cN : List Expr} {ta tb te to tk : aF} {tr : cW} {tA tB' tc : c7} {pos p2 px : Pos} {st : Stmt} {sts : List Stmt} {t u : aK}
theorem gC (B:Bt X.mg) (ha:QA X [e] tr) (hg:Gl X "len":=by rfl) (he:starEach [e] X.env=(false,eval e X.env) :: starEach [] X.env:=by rfl) (hpl:(backTo pos (starEach [] X.env)).any (·.1)=false:=by rfl):QE X (.Call (.Name "len" p2) [e] [] pos) (aD dJ tr):=
 kG (at5.or aw1) aC4 hg B.len PySem.boot_len ha (he:=he) (hpl:=hpl)
theorem kH (B:Bt X.mg) (ha:QA X [e] tr) (hg:Gl X "tuple":=by rfl) (he:starEach [e] X.env=(false,eval e X.env) :: starEach [] X.env:=by rfl) (hpl:(backTo pos (starEach [] X.env)).any (·.1)=false:=by rfl):QE X (.Call (.Name "tuple" p2) [e] [] pos) (aD jM tr):=
 aF6 at6 aC5 hg B.tuple PyProof.Rows.boot_tuple ha (he:=he) (hpl:=hpl)
theorem aF7 (B:Bt X.mg) (hc:X.calm=true) (ha:QA X [e] tr) (hg:Gl X "all":=by rfl) (he:starEach [e] X.env=(false,eval e X.env) :: starEach [] X.env:=by rfl) (hpl:(backTo pos (starEach [] X.env)).any (·.1)=false:=by rfl):QE X (.Call (.Name "all" p2) [e] [] pos) (aD wK tr):=
 kG (w5 hc) aC6 hg B.all PyProof.Rows.boot_all ha (he:=he) (hpl:=hpl)
theorem rT (B:Bt X.mg) (hc:X.calm=true) (ha:QA X [a,b] tr) (hg:Gl X "min":=by rfl) (he:starEach [a,b] X.env=(false,eval a X.env) :: starEach [b] X.env:=by rfl) (hpl:(backTo pos (starEach [b] X.env)).any (·.1)=false:=by rfl):QE X (.Call (.Name "min" p2) [a,b] [] pos) (aD mT tr):=
 kG (aq5 hc) aC7 hg B.min PyProof.Rows.boot_min ha (he:=he) (hpl:=hpl)
theorem rU (B:Bt X.mg) (hc:X.calm=true) (ha:QA X [a,b] tr) (hg:Gl X "max":=by rfl) (he:starEach [a,b] X.env=(false,eval a X.env) :: starEach [b] X.env:=by rfl) (hpl:(backTo pos (starEach [b] X.env)).any (·.1)=false:=by rfl):QE X (.Call (.Name "max" p2) [a,b] [] pos) (aD mU tr):=
 kG (aq4 hc) aC8 hg B.max PyProof.Rows.boot_max ha (he:=he) (hpl:=hpl)
theorem T2 (x:Int):∀ (xs:List Int),oG (.int x) (xs.map V.int)=decide (x ∈ xs)
 | []=>by simp [oG]
 | y :: r=>by
  have ih:=T2 x r
  unfold oG at ih ⊢
  rw [bm4,List.any_cons,ih]
  by_cases e:y=x
  ·subst e; simp [iB]
  ·have:iB (.int y) (.int x)=false:=by simpa [iB] using e
   rw [this,Bool.false_or,bp9]
   simp [Ne.symm e]
theorem T3:∀ (xs:List Int),(xs.map V.int).all jB=true
 | []=>rfl
 | _ :: r=>by rw [bm4,bt6,T3 r]; rfl
theorem aF8 (neg:Bool):eN X (rP neg) (G1 X.K neg):=by
 rintro W Hs H u v x y g g' Q Q' s n r1 r2 ⟨i,ns,rfl,e,q⟩ k
 cases r1
 obtain ⟨a,us,rfl,hs,r⟩:=r2.seq e
 obtain rfl:=r.ofInts
 refine⟨a,_,rfl,hs,rfl,T3 ns,?_⟩
 have:=k _ _ _ .fr (aA.refl _) (.bl _) q
 rw [T2]
 cases neg <;> exact this
theorem T4 (ha:QE X a ta) (hb:QE X b tb) (hm:behindInMarks .NotIn b=false:=by rfl):QT X (.Compare a [.NotIn] [b] pos) (aZ (q2 (rP true) ta tb)):=jN at4 (aF8 true) ha hb hm
theorem aH.kt_ {K:PySem.W.Frag}{M:Addr->Prop}{H:Hp}{v:V}{xs:List PV} (r:aH K M H v (.kt xs)):∃ a us,v = .ref a/\mQ K a us/\Reps K M H us xs:=by
 cases r with
 | kt h r=>exact⟨_,_,rfl,h,r⟩
noncomputable def T5 (K:PySem.W.Frag) (H:Hp) (x:V) (t:Value):Prop:=fX K H x t ∨ ∃ a us,x = .ref a/\aJ K H a us/\t = .type "tuple"
theorem aF9:dI X (.builtin "isinstance") (fun xs H Q=>∃ x t n b,xs = [x,.ty n]/\T5 X.K H x t/\PySem.W.kitOne X.K t (.type n)=some b/\Q (.bl b) H):=by
 intro pins s σ H xs us Q I r h
 obtain ⟨x,t,n,b,rfl,ty,e,q⟩:=h
 rcases ty with ty | ⟨a,ws,rfl,hs,rfl⟩
 ·exact ax6 pins s σ H _ us Q I r ⟨x,t,n,b,rfl,ty,e,q⟩
 obtain ⟨u,u',rfl,ru,ru'⟩:=oB r
 cases ru'
 cases (show u=Value.ref a from ru)
 obtain ⟨its,_,⟨o,h1,h2,_⟩,_⟩:=I.tuple hs
 exact bn7 PySem.W.kitx_tuple I.kIn ⟨o,h1,h2⟩ e (fun z=>nomatch z) fun tk=>⟨.bl b,H,I.tok tk,rfl,q⟩
theorem aG0 {K:PySem.W.Frag}{M:Addr->Prop}{H:Hp}{v:V}{x:PV}{T:String} (r:aH K M H v x) (e:R5 x=some T):T5 K H v (.type T):=by
 cases r with
 | non=>cases e; exact .inl .non
 | bl b=>cases e; exact .inl (.bl b)
 | int i=>cases e; exact .inl (.int i)
 | str i=>cases e; exact .inl (.str i)
 | tup h _=>cases e; exact .inl (.tup h)
 | lst _ h _=>cases e; exact .inl (.lst h)
 | kt h _=>cases e; exact .inr ⟨_,_,rfl,.inr h,rfl⟩
 | _=>cases e
theorem wZ {x:Str}{n:String} (B:Bt X.mg) (hn:bootBuiltins x=some (.type n)) (hm:X.mg x=none) (ha:QE X a ta) (hg:Gl X "isinstance":=by rfl) (hgx:Gl X x:=by rfl) (hx:x ≠ "__name__":=by decide) (hdx:(x == ("__debug__" : Str))=false:=by decide)
  (he:starEach [a,.Name x px] X.env=(false,eval a X.env) :: starEach [.Name x px] X.env:=by rfl) (he2:starEach [.Name x px] X.env=(false,eval (.Name x px) X.env) :: starEach [] X.env:=by rfl) (hpl:(backTo pos (starEach [.Name x px] X.env)).any (·.1)=false:=by rfl):QE X (.Call (.Name "isinstance" p2) [a,.Name x px] [] pos) (iH X.K n ta):=
 cH (oD aF9 hg B.isinst PyProof.Rows.boot_isinstance (cO ha (cO (zW (v:=.ty n) hgx hm hn rfl hx hdx) dL he2) he) (he:=he) (hpl:=hpl)) fun σ H Q' h=>by
  obtain ⟨W,ρ,Q,px,q,k⟩:=h
  refine⟨W,ρ,_,px,q,?_⟩
  rintro v H1 x g s r ⟨T,b,e,kt,q⟩
  exact⟨v,_,n,b,rfl,aG0 r e,kt,k _ _ _ .fr s (.bl _) q⟩
theorem aG1 (B:Bt X.mg) (ha:QE X a ta) (hg:Gl X "isinstance":=by rfl) (hgx:Gl X "int":=by rfl)
  (he:starEach [a,.Name "int" px] X.env=(false,eval a X.env) :: starEach [.Name "int" px] X.env:=by rfl) (he2:starEach [.Name "int" px] X.env=(false,eval (.Name "int" px) X.env) :: starEach [] X.env:=by rfl) (hpl:(backTo pos (starEach [.Name "int" px] X.env)).any (·.1)=false:=by rfl):QE X (.Call (.Name "isinstance" p2) [a,.Name "int" px] [] pos) (iH X.K "int" ta):=wZ B PyProof.Rows.boot_int B.int ha (hg:=hg) (hgx:=hgx) (he:=he) (he2:=he2) (hpl:=hpl)
theorem rV (B:Bt X.mg) (ha:QE X a ta) (hg:Gl X "isinstance":=by rfl) (hgx:Gl X "bool":=by rfl)
  (he:starEach [a,.Name "bool" px] X.env=(false,eval a X.env) :: starEach [.Name "bool" px] X.env:=by rfl) (he2:starEach [.Name "bool" px] X.env=(false,eval (.Name "bool" px) X.env) :: starEach [] X.env:=by rfl) (hpl:(backTo pos (starEach [.Name "bool" px] X.env)).any (·.1)=false:=by rfl):QE X (.Call (.Name "isinstance" p2) [a,.Name "bool" px] [] pos) (iH X.K "bool" ta):=wZ B PyProof.Rows.boot_bool B.bool ha (hg:=hg) (hgx:=hgx) (he:=he) (he2:=he2) (hpl:=hpl)
theorem aG2 (B:Bt X.mg) (ha:QE X a ta) (hg:Gl X "isinstance":=by rfl) (hgx:Gl X "list":=by rfl)
  (he:starEach [a,.Name "list" px] X.env=(false,eval a X.env) :: starEach [.Name "list" px] X.env:=by rfl) (he2:starEach [.Name "list" px] X.env=(false,eval (.Name "list" px) X.env) :: starEach [] X.env:=by rfl) (hpl:(backTo pos (starEach [.Name "list" px] X.env)).any (·.1)=false:=by rfl):QE X (.Call (.Name "isinstance" p2) [a,.Name "list" px] [] pos) (iH X.K "list" ta):=wZ B PyProof.Rows.boot_list B.list ha (hg:=hg) (hgx:=hgx) (he:=he) (he2:=he2) (hpl:=hpl)
noncomputable def x3 (K:PySem.W.Frag) (n:Nat) (neg:Bool):R2:=fun v w H Q=>∃ x y,aH K (fun _=>True) H v x/\aH K (fun _=>True) H w y/\((∃ xs ys,x = .tup xs/\y = .tup ys) ∨ (∃ xs ys,x = .lst xs/\y = .lst ys) ∨ (∃ xs ys,x = .kt xs/\y = .kt ys))/\e9 (n+1) x y=true/\Q (.bl (if neg=true then !cB (n+1) x y else cB (n+1) x y)) H
theorem nB {pins:List (Addr × Obj)}{σ:St}{H:Hp}{s:Shared}{M M':Addr->Prop} (I:a6 X pins σ H s) {n:Nat}{A:Around} (hu:A.units+(n+1) < cLine) {us ws:List V}{xs ys:List PV}{its its2:List Value} (r1:Reps X.K M H us xs) (r2:Reps X.K M' H ws ys) (v1:aM us its) (v2:aM ws its2)
  (ok:((xs.zip ys).all fun p=>e9 n p.1 p.2)=true):∀ j (h1:j < its.toArray.size) (h2:j < its2.toArray.size),SeqAt.EqAt A.in1 s its.toArray[j] its2.toArray[j] (cB n (xs.getD j .non) (ys.getD j .non)):=by
 intro j h1 h2
 have l1:=v1.length
 have l2:=v2.length
 have m1:=r1.length
 have m2:=r2.length
 have k1:j < its.length:=by simpa using h1
 have k2:j < its2.length:=by simpa using h2
 have j1:j < us.length:=by omega
 have j2:j < ws.length:=by omega
 have i1:j < xs.length:=by omega
 have i2:j < ys.length:=by omega
 obtain ⟨u,hu',ru⟩:=v1.get (bg7 j1)
 obtain ⟨u2,hu2',ru2⟩:=v2.get (bg7 j2)
 obtain ⟨x,hx,rx⟩:=r1.get (bg7 j1)
 obtain ⟨y,hy,ry⟩:=r2.get (bg7 j2)
 have e1:its.toArray[j]=u:=by
  rw [bg7 k1] at hu'
  simpa using hu'
 have e2:its2.toArray[j]=u2:=by
  rw [bg7 k2] at hu2'
  simpa using hu2'
 have ok':e9 n x y=true:=by
  rw [br5] at ok
  have hz:j < (xs.zip ys).length:=by simp; omega
  have:=ok _ (bq0 hz)
  rw [List.getElem_zip] at this
  rw [bg7 i1] at hx
  rw [bg7 i2] at hy
  cases hx; cases hy
  exact this
 rw [e1,e2]
 have g1:xs.getD j .non=x:=by rw [bh7,hx]; rfl
 have g2:ys.getD j .non=y:=by rw [bh7,hy]; rfl
 rw [g1,g2]
 exact T1 I n (by show A.units+1+n < cLine; omega) rx ry ru ru2 ok'
theorem aG3 (n:Nat) (hu:X.A.units+(n+1) < cLine):cI X (compareOp .Eq) (x3 X.K n false):=by
 intro pins s σ H v w a b Q I ra rb h
 obtain ⟨x,y,rx,ry,kd,o,q⟩:=h
 have hu0:X.A.units < cLine:=by omega
 rcases kd with ⟨xs,ys,rfl,rfl⟩ | ⟨xs,ys,rfl,rfl⟩ | ⟨xs,ys,rfl,rfl⟩
 ·obtain ⟨p,us,rfl,h1,r1⟩:=rx.sqT
  obtain ⟨p2,ws,rfl,h2,r2⟩:=ry.sqT
  cases ra; cases rb
  obtain ⟨its,v1,p1,_⟩:=I.tuple (aJ.of (K:=X.K) h1)
  obtain ⟨its2,v2,p2',_⟩:=I.tuple (aJ.of (K:=X.K) h2)
  have l1:=v1.length
  have l2:=v2.length
  have m1:=r1.length
  have m2:=r2.length
  have:=SeqAt.RcAt.tuples p1 p2' hu0 (nB I hu r1 r2 v1 v2 o)
  rw [bg5,bg5,<- l1,<- l2,m1,m2,jQ] at this
  exact this _ _ _ _ ⟨.bl _,H,I,rfl,q⟩
 ·obtain ⟨p,us,rfl,_,h1,r1⟩:=rx.sqL
  obtain ⟨p2,ws,rfl,_,h2,r2⟩:=ry.sqL
  cases ra; cases rb
  obtain ⟨its,v1,p1,_⟩:=I.list (aN.of (K:=X.K) h1)
  obtain ⟨its2,v2,p2',_⟩:=I.list (aN.of (K:=X.K) h2)
  have l1:=v1.length
  have l2:=v2.length
  have m1:=r1.length
  have m2:=r2.length
  have q:Q (.bl ((xs.zip ys).all (fun p=>cB n p.1 p.2) && xs.length == ys.length)) H:=q
  by_cases hl:xs.length=ys.length
  ·have:=SeqAt.RcAt.lists p1.isList p2'.isList (by rw [bg5,bg5]; omega) hu0 (nB I hu r1 r2 v1 v2 o)
   have hm:min xs.length ys.length=its.length:=by omega
   rw [bg5,<- hm,jQ] at this
   rw [show (xs.length == ys.length)=true by simpa using hl,Bool.and_true] at q
   exact this _ _ _ _ ⟨.bl _,H,I,rfl,q⟩
  ·have:=SeqAt.RcAt.lists_lengths (A:=X.A) p1.isList p2'.isList (by rw [bg5,bg5]; simp; omega) hu0
   rw [show (xs.length == ys.length)=false by simpa using hl,bs9] at q
   exact this _ _ _ _ ⟨.bl _,H,I,rfl,q⟩
 ·obtain ⟨p,us,rfl,h1,r1⟩:=rx.kt_
  obtain ⟨p2,ws,rfl,h2,r2⟩:=ry.kt_
  cases ra; cases rb
  obtain ⟨its,v1,p1,_⟩:=I.tuple (.inr h1)
  obtain ⟨its2,v2,p2',_⟩:=I.tuple (.inr h2)
  have l1:=v1.length
  have l2:=v2.length
  have m1:=r1.length
  have m2:=r2.length
  have:=SeqAt.RcAt.tuples p1 p2' hu0 (nB I hu r1 r2 v1 v2 o)
  rw [bg5,bg5,<- l1,<- l2,m1,m2,jQ] at this
  exact this _ _ _ _ ⟨.bl _,H,I,rfl,q⟩
theorem aG4 (n:Nat) (hu:X.A.units+(n+1) < cLine):cI X (compareOp .NotEq) (x3 X.K n true):=by
 intro pins s σ H v w a b Q I ra rb h
 obtain ⟨x,y,rx,ry,kd,o,q⟩:=h
 have hu0:X.A.units < cLine:=by omega
 rcases kd with ⟨xs,ys,rfl,rfl⟩ | ⟨xs,ys,rfl,rfl⟩ | ⟨xs,ys,rfl,rfl⟩
 ·obtain ⟨p,us,rfl,h1,r1⟩:=rx.sqT
  obtain ⟨p2,ws,rfl,h2,r2⟩:=ry.sqT
  cases ra; cases rb
  obtain ⟨its,v1,p1,_⟩:=I.tuple (aJ.of (K:=X.K) h1)
  obtain ⟨its2,v2,p2',_⟩:=I.tuple (aJ.of (K:=X.K) h2)
  have l1:=v1.length
  have l2:=v2.length
  have m1:=r1.length
  have m2:=r2.length
  have:=SeqAt.RcNeAt.tuples p1 p2' hu0 (nB I hu r1 r2 v1 v2 o)
  rw [bg5,bg5,<- l1,<- l2,m1,m2,jQ] at this
  exact this _ _ _ _ ⟨.bl _,H,I,rfl,q⟩
 ·obtain ⟨p,us,rfl,_,h1,r1⟩:=rx.sqL
  obtain ⟨p2,ws,rfl,_,h2,r2⟩:=ry.sqL
  cases ra; cases rb
  obtain ⟨its,v1,p1,_⟩:=I.list (aN.of (K:=X.K) h1)
  obtain ⟨its2,v2,p2',_⟩:=I.list (aN.of (K:=X.K) h2)
  have l1:=v1.length
  have l2:=v2.length
  have m1:=r1.length
  have m2:=r2.length
  have q:Q (.bl (!((xs.zip ys).all (fun p=>cB n p.1 p.2) && xs.length == ys.length))) H:=q
  by_cases hl:xs.length=ys.length
  ·have:=SeqAt.RcNeAt.lists p1.isList p2'.isList (by rw [bg5,bg5]; omega) hu0 (nB I hu r1 r2 v1 v2 o)
   have hm:min xs.length ys.length=its.length:=by omega
   rw [bg5,<- hm,jQ] at this
   rw [show (xs.length == ys.length)=true by simpa using hl,Bool.and_true] at q
   exact this _ _ _ _ ⟨.bl _,H,I,rfl,q⟩
  ·have:=SeqAt.RcNeAt.lists_lengths (A:=X.A) p1.isList p2'.isList (by rw [bg5,bg5]; simp; omega) hu0
   rw [show (xs.length == ys.length)=false by simpa using hl,bs9] at q
   exact this _ _ _ _ ⟨.bl _,H,I,rfl,q⟩
 ·obtain ⟨p,us,rfl,h1,r1⟩:=rx.kt_
  obtain ⟨p2,ws,rfl,h2,r2⟩:=ry.kt_
  cases ra; cases rb
  obtain ⟨its,v1,p1,_⟩:=I.tuple (.inr h1)
  obtain ⟨its2,v2,p2',_⟩:=I.tuple (.inr h2)
  have l1:=v1.length
  have l2:=v2.length
  have m1:=r1.length
  have m2:=r2.length
  have:=SeqAt.RcNeAt.tuples p1 p2' hu0 (nB I hu r1 r2 v1 v2 o)
  rw [bg5,bg5,<- l1,<- l2,m1,m2,jQ] at this
  exact this _ _ _ _ ⟨.bl _,H,I,rfl,q⟩
theorem T6 {n:Nat}{neg:Bool}:eN X (lK n neg) (x3 X.K n neg):=by
 rintro W Hs H u v x y g g' Q Q' s n r1 r2 ⟨kd,o,q⟩ k
 exact⟨x,y,r1.same (aA.refl _) fun _ _=>trivial,r2.same (aA.refl _) fun _ _=>trivial,kd.elim .inl fun z=>.inr (.inl z),o,k _ _ _ .fr (aA.refl _) (.bl _) q⟩
theorem T7 (hu:X.A.units+3 < cLine) (ha:QE X a ta) (hb:QE X b tb):QT X (.Compare a [.NotEq] [b] pos) (aZ (q2 (lK 2 true) ta tb)):=jN (aG4 2 hu) T6 ha hb (gH _)
theorem aG5 (hu:X.A.units+3 < cLine) (ha:QE X a ta) (hb:QE X b tb):QE X (.Compare a [.Eq] [b] pos) (q2 (lK 2 false) ta tb):=rR (aG3 2 hu) T6 ha hb (gH _)
end
end PP
namespace PP
open PySem L2 PyProof.Rows
noncomputable def LO (X:Cx) (t:oZ):TO:=fun σ H Q'=>∃ (W:Addr->Prop) (ρ:bJ) (Q:Option Int->Prop),PX X.K X.H₀ W σ ρ H/\t ρ Q/\∀ o H',aA H H'->Q o->Q' o H'
noncomputable def QO (X:Cx) (e:Option Expr) (t:oZ):Prop:=PO X e (LO X t)
theorem Reps.cut {K:PySem.W.Frag}{M:Addr->Prop}{H:Hp}{us:List V}{xs:List PV} (r:Reps K M H us xs) (lo hi:Option Int):Reps K M H (eL us lo hi) (jL xs lo hi):=by
 unfold eL jL
 rw [r.length]
 exact (r.drop _).take _
section
variable {X : Cx} {a b c e o : Expr} {es cN : List Expr} {ta tb te to tk : aF} {tr : cW} {tA tB' tc : c7} {pos p2 px : Pos} {st : Stmt} {sts : List Stmt} {t u : aK}
theorem rW (h:QE X e te):QO X (some e) (p5 te):=fun pins s σ H Q I hq=>uW h pins s σ H Q I (by
 obtain ⟨W,ρ,Q1,px,q,k⟩:=hq
 refine⟨W,ρ,_,px,q,?_⟩
 rintro v H1 x g s r ⟨i,rfl,q⟩
 cases r
 exact⟨i,rfl,k _ _ s q⟩)
theorem T8 {lo hi:Option Expr}{tl th:oZ}{sp:Pos} (he:QE X e te) (hl:QO X lo tl) (hh:QO X hi th):QE X (.Subscript e (.Slice lo hi none sp) pos) (wS te tl th):=cH (uX (F9.or N8) he hl hh) fun σ H Q' h=>by
 obtain ⟨W,ρ,Q,px,q,k⟩:=h
 refine⟨W,ρ,_,px,q,fun v H1 x g s1 r1 q1=>⟨W,ρ,_,px.mono s1,q1,fun lo H2 s2 q2=>⟨W,ρ,_,px.mono (s1.trans s2),q2,?_⟩⟩⟩
 rintro hi H3 s3 ⟨xs,e,f,q3⟩
 have S:=(s1.trans s2).trans s3
 have r3:=r1.same (M':=Mg X.H₀ W H g) (s2.trans s3) fun _ z=>z
 cases r3 with
 | tup h r=>
  cases e
  refine .inr ⟨_,_,rfl,aJ.of h,fun p hp=>k _ _ _ .fr (S.trans (bI hp _)) (.tup bK (((r.flat f).cut lo hi).same (bI hp _) fun _ z=>z)) q3,fun ec=>k _ _ _ .fr S (.tup h ?_) q3⟩
  have:=(r.flat (M':=Mg X.H₀ W H .fr) f).cut lo hi
  rw [ec] at this
  exact this
 | lst m h r=>
  cases e
  exact .inl ⟨_,_,rfl,aN.of h,fun p hp=>k _ _ _ .fr (S.trans (bI hp _)) (.lst (S.free hp) bK (((r.flat f).cut lo hi).same (bI hp _) fun _ z=>z)) q3⟩
 | scr h=>
  cases e
  exact .inl ⟨_,_,rfl,h.sqL,fun p hp=>k _ _ _ .fr (S.trans (bI hp _)) (.lst (S.free hp) bK (((Reps.intz _).cut lo hi).same (bI hp _) fun _ z=>z)) q3⟩
 | _=>cases e
structure Df (P:Program) (w:World) (K:PySem.W.Frag) (mg:Str->Option Value) (base:Heap) (k:Nat) (x:Str) (ps:List Str) (p:bL):Prop where
 ex:∃ f fd,cP P w K mg base dQ k f fd ps (oT K p)/\iA K fd ps []/\PySem.W.keepIn K (.ref f)=true/\mg x=some (.ref f)
theorem b8 {k j:Nat}{x:Str}{ps:List Str}{p:bL} (d:Df X.prog X.w X.K X.mg X.base k x ps p) (hr:cA j X.A) (ha:QA X (e :: es) tr) (hkj:k<=j:=by decide) (hg:Gl X x:=by rfl) (hdb:(x == ("__debug__" : Str))=false:=by decide)
  (he:starEach (e :: es) X.env=(false,eval e X.env) :: starEach es X.env:=by rfl) (hpl:(backTo pos (starEach es X.env)).any (·.1)=false:=by rfl):QE X (.Call (.Name x p2) (e :: es) [] pos) (aD p tr):=by
 obtain ⟨f,fd,F,b,kp,m⟩:=d.ex
 exact cH (uU F (hr.mono hkj) hg m kp b .nil av9 ha hdb he hpl) fun _ _ _=>aC9
theorem x4 {K:PySem.W.Frag}{H:Hp}{N:List Str}{vs:List V}{xs:List PV} (r:Reps K (fun _=>True) H vs xs):PX K H (fun _=>False) (L2.start N vs) (gA N xs) H:=by
 have lr:=r.length
 have own:∀ {i:Nat}{m:Slot},(gA N xs)[i]? = some (some m)->∃ x,xs[i]? = some x/\m = .sh (flat x) x:=fun {i m} h=>by
  unfold gA at h
  by_cases hi:i < xs.length
  ·rw [bj7 (by simpa using hi),bh9] at h
   rw [bg7 hi] at h ⊢
   cases h
   exact⟨_,rfl,rfl⟩
  ·rw [bo9 (by simpa using hi),List.getElem?_replicate] at h
   split at h <;> cases h
 refine⟨by unfold L2.start gA; simp [lr],aA.refl _,fun a z=>z.elim,fun i m h=>?_,fun i j x y a h1=>?_⟩
 ·obtain ⟨x,hx,rfl⟩:=own h
  obtain ⟨v,hv,rx⟩:=r.at hx
  refine⟨v,?_,rN (g:=false) (rx.same (aA.refl _) fun _ _ z=>z)⟩
  have hi:i < vs.length:=(bh3.mp hv).1
  unfold L2.start
  rw [bj7 (by simpa using hi),bh9,hv]; rfl
 ·obtain ⟨x,_,e⟩:=own h1
  cases e
theorem Df.of {P:Program}{w:World}{K:PySem.W.Frag}{mg:Str->Option Value}{base:Heap}{k:Nat}{x:Str}{ps N:List Str}{p:bL}{st:Stmt}{f:Addr}{fd:FuncData} (F:eZ K x x st f fd) (m:mg x=some (.ref f)) (S:FnScope N ps (aY st))
  (hb:∀ (kV doc pm:Value) (an:Option Addr) (cdv ct:Value) (us:List Value),us.length=ps.length->bindArgs (PySem.W.fnOf x x (jD st) (eY st) (aY st) .none kV doc pm an cdv ct) ⟨us,[]⟩=pure (ps.zip us))
  (len:∀ xs Q,p xs Q->xs.length=ps.length)
  (body:∀ (cdv:Value) (A:Around) (outer:List Env) (s:Shared) (H:Hp) (E:XK),cA k (A.deeper (envOfC x (aY st) s.heap.objs.size f cdv))->
   ∃ t,fD (dM dQ P w K mg base N x (aY st) f cdv A outer s H E).nox (eY st) t/\∀ xs Q,p xs Q->t { nx:=fun _=>Q .non,rt:=Q } (gA N xs)):Df P w K mg base (k+1) x ps p:=by
 refine⟨f,fd,F.ok S (fun vs H Q E h=>?_) (fun cdv A outer s H vs Q E hr h=>?_),F.binds hb,F.kp,m⟩
 ·obtain ⟨xs,Qp,r,q,_⟩:=h
  rw [r.length]; exact len xs Qp q
 ·obtain ⟨xs,Qp,r,q,k⟩:=h
  obtain ⟨t,ht,hq⟩:=body cdv A outer s H E hr
  refine⟨_,ht,fun _=>False,gA N xs,_,x4 r,hq xs Qp q,?_,?_,?_,?_⟩
  ·exact fun W' σ' H' ρ' e px q=>k _ _ _ px.same .non q
  ·exact fun v H' x s r q=>k _ _ _ s r q
  ·exact fun W' σ' H' ρ' e px q=>q
  ·exact fun W' σ' H' ρ' e px q=>q
theorem i5 (i:Nat) {x:Str}{tp:Pos}{body:List Stmt}{ti:fI} (hN:X.N.Nodup) (hi:QI X (.Name x tp) e ti) (hb:fD X body t) (hx:X.N[i]? = some x:=by rfl) (hl:gT X.env.scope x:=by first | exact Or.inl rfl | exact Or.inr rfl) (hf:X.fn x=true ∨ X.env.scope.names.lookup x=some .local:=by first | exact .inl rfl | exact .inr rfl)
  (hp:PassesOwn (model X.prog X.w) X.A X.env X.xe:=by exact bu9) (hc:X.calm=true:=by rfl) (hs:∀ x,foldedSetIterable e X.env x=pure x:=by intro _; rfl):QS X (.For (.Name x tp) e body [] pos) (dY ti (cK i) t):=
 T0 hp hc hi (eJ hN hx hl hf) (oX _ i) hb hs
theorem x6 (i j:Nat) {x y:Str}{tp xp yp:Pos}{kt:Nat}{body:List Stmt}{ti:fI} (hN:X.N.Nodup) (hi:QI X (.Tuple [.Name x xp,.Name y yp] kt tp) e ti) (hb:fD X body t) (hx:X.N[i]? = some x:=by rfl) (hy:X.N[j]? = some y:=by rfl) (hlx:gT X.env.scope x:=by first | exact Or.inl rfl | exact Or.inr rfl) (hly:gT X.env.scope y:=by first | exact Or.inl rfl | exact Or.inr rfl)
  (hfx:X.fn x=true ∨ X.env.scope.names.lookup x=some .local:=by first | exact .inl rfl | exact .inr rfl) (hfy:X.fn y=true ∨ X.env.scope.names.lookup y=some .local:=by first | exact .inl rfl | exact .inr rfl)
  (hp:PassesOwn (model X.prog X.w) X.A X.env X.xe:=by exact bu9) (hc:X.calm=true:=by rfl) (hs:∀ x,foldedSetIterable e X.env x=pure x:=by intro _; rfl):QS X (.For (.Tuple [.Name x xp,.Name y yp] kt tp) e body [] pos) (dY ti (kD i j) t):=
 T0 hp hc hi (mE hc (gU (eJ hN hx hlx hfx) (gU (eJ hN hy hly hfy) mC))) (Q0 _ i j) hb hs
noncomputable abbrev dF:Value->Shared->Prop:=fun _ _=>False
section
variable {scope : Scope} {N : List Str} {fr : List (Option Nat)} {x y : Str} {tp xp yp : Pos} {kt : Nat} {iter elt : Expr} {ti : fI}
theorem rX {ifs:List Expr}{tcs:c7} (he:∀ (s:Shared) (H:Hp) (C:Addr) (fp:List Addr),QE (bW X scope N s H C fp dF) elt te) (hi:∀ (s:Shared) (H:Hp) (C:Addr) (fp:List Addr),k6 (bW X scope N s H C fp dF) ifs (LT (bW X scope N s H C fp dF) tcs))
  (hN:N.Nodup) (h0:N[0]? = some x) (hl:∀ (s:Shared) (H:Hp) (C:Addr) (fp:List Addr),(bW X scope N s H C fp dF).env.scope.names.lookup x=some .local) (s:Shared) (H:Hp) :
  mL X scope N (.Name x tp) ifs elt s H (cU 0) (LT (X.frm H) tcs) (LE (X.frm H) te):=
 ⟨fun C fp=>eJ (X:=bW X scope N s H C fp dF) hN h0 (.inl (hl s H C fp)) (.inr (hl s H C fp)),fun C fp=>hi s H C fp,fun C fp=>he s H C fp⟩
theorem rY {Y:Cx}:k6 Y [] (LT Y eQ):=fun pins s σ H Q I h=>oJ pins s σ H Q I (aD9 h)
theorem x8 (hi:QI X (.Name x tp) iter ti) (he:∀ (s:Shared) (H:Hp) (C:Addr) (fp:List Addr),QE (bW X scope N s H C fp dF) elt te)
  (hc:X.calm=true:=by rfl) (S:cV X scope N fr:=by exact cV.of rfl rfl) (hN:N.Nodup:=by decide +kernel) (h0:N[0]? = some x:=by rfl) (hl:∀ (s:Shared) (H:Hp) (C:Addr) (fp:List Addr),(bW X scope N s H C fp dF).env.scope.names.lookup x=some .local:=by intro _ _ _ _; rfl) (hf:fr[0]? = some none:=by rfl)
  (hs:∀ x,foldedSetIterable iter X.env x=pure x:=by intro _; rfl):QE X (.ListComp elt [⟨.Name x tp,iter,[],0⟩] scope pos) (fL ti fr (cK 0) eQ te):=
 cH (K9 (gh:=fun _=>cU 0) (tch:=fun H=>LT (X.frm H) eQ) (teh:=fun H=>LE (X.frm H) te) hc S hi (rX he (fun _ _ _ _=>rY) hN h0 hl) hs) fun _ _ _=>oY (oX _ 0) (fun i e=>by subst e; exact hf)
theorem T9 {c:Expr}{tcs:c7} (hi:QI X (.Name x tp) iter ti) (ht:∀ (s:Shared) (H:Hp) (C:Addr) (fp:List Addr),QT (bW X scope N s H C fp dF) c tcs) (he:∀ (s:Shared) (H:Hp) (C:Addr) (fp:List Addr),QE (bW X scope N s H C fp dF) elt te)
  (hc:X.calm=true:=by rfl) (S:cV X scope N fr:=by exact cV.of rfl rfl) (hN:N.Nodup:=by decide +kernel) (h0:N[0]? = some x:=by rfl) (hl:∀ (s:Shared) (H:Hp) (C:Addr) (fp:List Addr),(bW X scope N s H C fp dF).env.scope.names.lookup x=some .local:=by intro _ _ _ _; rfl) (hf:fr[0]? = some none:=by rfl)
  (hs:∀ x,foldedSetIterable iter X.env x=pure x:=by intro _; rfl):QE X (.ListComp elt [⟨.Name x tp,iter,[c],0⟩] scope pos) (fL ti fr (cK 0) tcs te):=
 cH (K9 (gh:=fun _=>cU 0) (tch:=fun H=>LT (X.frm H) tcs) (teh:=fun H=>LE (X.frm H) te) hc S hi (rX he (fun s H C fp=>aw4 (ht s H C fp)) hN h0 hl) hs) fun _ _ _=>oY (oX _ 0) (fun i e=>by subst e; exact hf)
theorem aG6 {i:Nat}{z:Str}{zp:Pos} (nd:X.N.Nodup) (hi:QI X (.Name x tp) iter ti) (he:∀ (s:Shared) (H:Hp) (C:Addr) (fp:List Addr),QE (bW X scope N s H C fp dF) elt te)
  (hz:X.N[i]? = some z:=by rfl) (hzl:X.env.scope.names.lookup z=some .local:=by rfl) (hsw:swapsWith (.ListComp elt [⟨.Name x tp,iter,[],0⟩] scope p2) (some (.Name z zp)) pos.line X.env=pure true:=by rfl)
  (hc:X.calm=true:=by rfl) (S:cV X scope N fr:=by exact cV.of rfl rfl) (hN:N.Nodup:=by decide +kernel) (h0:N[0]? = some x:=by rfl) (hl:∀ (s:Shared) (H:Hp) (C:Addr) (fp:List Addr),(bW X scope N s H C fp dF).env.scope.names.lookup x=some .local:=by intro _ _ _ _; rfl) (hf:fr[0]? = some none:=by rfl)
  (hs:∀ x,foldedSetIterable iter X.env x=pure x:=by intro _; rfl):QS X (.Assign [.Name z zp] (.ListComp elt [⟨.Name x tp,iter,[],0⟩] scope p2) pos) (b6 i (fL ti fr (cK 0) eQ te)):=
 dN (vM (gh:=fun _=>cU 0) (tch:=fun H=>LT (X.frm H) eQ) (teh:=fun H=>LE (X.frm H) te) hc S hi (rX he (fun _ _ _ _=>rY) hN h0 hl) nd hz hzl hsw hs) fun D σ H h=>oY (oX _ 0) (fun i e=>by subst e; exact hf) (wG h)
theorem aG7 {i:Nat}{z:Str}{zp:Pos} (nd:X.N.Nodup) (hi:QI X (.Name x tp) iter ti) (he:∀ (s:Shared) (H:Hp) (C:Addr) (fp:List Addr),QE (bW X scope N s H C fp dF) elt te)
  (hz:X.N[i]? = some z:=by rfl) (hzl:X.env.scope.names.lookup z=some .local:=by rfl) (hsw:swapsWith (.ListComp elt [⟨.Name x tp,iter,[],0⟩] scope p2) (some (.Name z zp)) pos.line X.env=pure true:=by rfl)
  (hc:X.calm=true:=by rfl) (S:cV X scope N fr:=by exact cV.of rfl rfl) (hN:N.Nodup:=by decide +kernel) (h0:N[0]? = some x:=by rfl) (hl:∀ (s:Shared) (H:Hp) (C:Addr) (fp:List Addr),(bW X scope N s H C fp dF).env.scope.names.lookup x=some .local:=by intro _ _ _ _; rfl) (hf:fr[0]? = some none:=by rfl)
  (hs:∀ x,foldedSetIterable iter X.env x=pure x:=by intro _; rfl):QS X (.Assign [.Name z zp] (.ListComp elt [⟨.Name x tp,iter,[],0⟩] scope p2) pos) (dB i (fL ti fr (cK 0) eQ te)):=
 dN (vM (gh:=fun _=>cU 0) (tch:=fun H=>LT (X.frm H) eQ) (teh:=fun H=>LE (X.frm H) te) hc S hi (rX he (fun _ _ _ _=>rY) hN h0 hl) nd hz hzl hsw hs) fun D σ H h=>oY (oX _ 0) (fun i e=>by subst e; exact hf) (P3 h)
end
theorem aG8:mI X "list.extend" (P4 X.K):=fun pins s σ H x xs v us Q I rx rs h=>h.elim (at9 pins s σ H x xs v us Q I rx rs) (az6 pins s σ H x xs v us Q I rx rs)
theorem aG9 (i:Nat) {x:Str}{apos cpos xpos:Pos} (he:QE X e te) (hN:X.N[i]? = some x:=by rfl) (hv:gG X.env.scope x:=by first | exact Or.inl rfl | exact Or.inr (Or.inl rfl) | exact Or.inr (Or.inr rfl)) (hd:(x == ("__debug__" : Str))=false:=by decide) (hcd:(x == ("__classdict__" : Str))=false:=by decide)
  (hbase:attributeBase (.Name x xpos) "extend" X.env (eval (.Name x xpos) X.env)=eval (.Name x xpos) X.env:=by rfl)
  (hfew:((backTo cpos (starEach [e] X.env)).all (fun x=>!x.1) && (backToKw cpos (keywordEach [] X.env)).all (fun x=>x.1.isSome) && decide (([e]:List Expr).length+([]:List Keyword).length+(if ([]:List Keyword).isEmpty then 0 else 1) < 30))=true:=by rfl)
  (hline:(apos.endLine == cpos.line)=true:=by rfl) (hs:starEach [e] X.env=(false,eval e X.env) :: starEach [] X.env:=by rfl) (hplain:(backTo cpos (starEach [] X.env)).any (·.1)=false:=by rfl)
  (hsw:swapsWith (.Call (.Attribute (.Name x xpos) "extend" apos) [e] [] cpos) none pos.line X.env=pure false:=by rfl) :
  QS X (.Expr (.Call (.Attribute (.Name x xpos) "extend" apos) [e] [] cpos) pos) (wH i te):=
 dN (kW (l9 bp1 PySem.F.slot_list_extend PySem.F.type_list_extend aG8 (iR hN hv hd hcd) (cO he dL hs) hbase hfew hline hs hplain) hsw) fun _ _ _=>aC0
theorem lQ {i:Nat}{x:Str}{xpos tpos:Pos} (hk:QE X a tk) (he:QE X e te) (hN:X.N[i]? = some x:=by rfl) (hv:gG X.env.scope x:=by first | exact Or.inl rfl | exact Or.inr (Or.inl rfl) | exact Or.inr (Or.inr rfl)) (hd:(x == ("__debug__" : Str))=false:=by decide) (hcd:(x == ("__classdict__" : Str))=false:=by decide)
  (hp:∀ (tx:TE) (tg:TE),PE X (.Name x xpos) tx->PE X a tg->PG X (.Subscript (.Name x xpos) a tpos) (uF tx tg uZ):=by intro _ _ h1 h2; exact ao0 h1 h2 as8)
  (hs:swapsWithSole [.Subscript (.Name x xpos) a tpos] e pos.line X.env=pure false:=by rfl) (hw:swappedStores [.Subscript (.Name x xpos) a tpos] e X.env=pure none:=by rfl) :
  QS X (.Assign [.Subscript (.Name x xpos) a tpos] e pos) (iG i tk te):=dN (ao1 he (hp _ _ (iR hN hv hd hcd) hk) hs hw) fun _ _ _=>aC1
end
end PP
namespace SO
open PySem PyProof.Rows
section
variable (rk : Keyed → Int)
noncomputable def Kr (xs:Array Keyed) (i:Nat):Int:=((xs[i]?).map rk).getD 0
noncomputable def Up (xs:Array Keyed) (lo hi:Nat):Prop:=∀ i j,lo<=i->i<=j->j < hi->Kr rk xs i<=Kr rk xs j
noncomputable def Dn (xs:Array Keyed) (lo hi:Nat):Prop:=∀ i j,lo<=i->i<=j->j < hi->Kr rk xs j<=Kr rk xs i
end
variable {rk : Keyed → Int}
theorem lR {xs ys:Array Keyed}{i j:Nat} (h:xs[i]? = ys[j]?):Kr rk xs i=Kr rk ys j:=by unfold Kr; rw [h]
theorem rZ {xs:Array Keyed}{i j:Nat} (hj:j<=xs.size) (k:Nat):Kr rk (mirror xs i j ((j - i) / 2)) k=Kr rk xs (if i<=k/\k < j then i+j - 1 - k else k):=by
 refine lR ?_
 rw [getElem?_mirror_all hj]
 split <;> rfl
theorem x9 {xs:Array Keyed}{i j:Nat} (hj:j<=xs.size) (e:∀ k,i<=k->k < j->Kr rk xs k=Kr rk xs (j - 1)) (k:Nat):Kr rk (mirror xs i j ((j - i) / 2)) k=Kr rk xs k:=by
 rw [rZ hj]
 split
 ·rename_i h; rw [e k h.1 h.2,e _ (by omega) (by omega)]
 ·rfl
theorem aH0 {xs:Array Keyed}{src d:Nat} (hs:src < xs.size) (hd:d<=src) (k:Nat):Kr rk (bubble xs src d) k=Kr rk xs (if k=src - d then src else if src - d < k/\k<=src then k - 1 else k):=by
 refine lR ?_
 rw [getElem?_bubble hs d hd]
 repeat' split
 all_goals rfl
structure SB (κ:SortKind) (a0:Array Keyed) (pd:Array (Nat × Nat × Nat)) (st:SortSt):Prop where
 pm:(arrOf st).Perm a0
 kd:kindOf st=κ
 ok:failedOf st=none
 pd:pendingOf st=pd
section
variable {κ : SortKind} {a0 : Array Keyed} {pd : Array (Nat × Nat × Nat)} {st : SortSt} {prog : Program} {w : World} {A : Around} {E : Value → Shared → Prop} {s : Shared} {Ok : Keyed → Prop}
theorem SB.sz (h:SB κ a0 pd st):(arrOf st).size=a0.size:=h.pm.size_eq
theorem SB.put (h:SB κ a0 pd st) {xs:Array Keyed} (hp:xs.Perm (arrOf st)):SB κ a0 pd (setArr st xs):=⟨hp.trans h.pm,h.kd,h.ok,h.pd⟩
noncomputable def cL (prog:Program) (w:World) (A:Around) (E:Value->Shared->Prop) (s:Shared) (κ:SortKind) (Ok:Keyed->Prop) (rk:Keyed->Int):Prop:=
 ∀ (x y:Keyed),Ok x->Ok y->∀ (st:SortSt) (Q:Option Bool->SortSt->Prop),kindOf st=κ->Q (some (decide (rk x < rk y))) st->wpS (model prog w) A E s (lt' x y) Q st
noncomputable def bO (Ok:Keyed->Prop) (xs:Array Keyed):Prop:=∀ x ∈ xs,Ok x
theorem SB.all (h:SB κ a0 pd st) (o:bO Ok a0):bO Ok (arrOf st):=fun x hx=>o x (h.pm.mem_iff.mp hx)
theorem dG {xs:Array Keyed}{i:Nat}{Q:Keyed->SortSt->Prop} (hi:i < xs.size) (h:Q xs[i] st):wpS (model prog w) A E s (elem' xs i) Q st:=by
 rw [elem'_eq,getElem?_pos xs i hi]; exact bi7 h
theorem cD {xs:Array Keyed}{i:Nat} (hi:i < xs.size):Kr rk xs i=rk xs[i]:=by unfold Kr; rw [getElem?_pos xs i hi]; rfl
theorem pG (c:cL prog w A E s κ Ok rk) (o:bO Ok a0) (b:SB κ a0 pd st) {i j:Nat}{Q:Option Bool->SortSt->Prop} (hi:i < a0.size) (hj:j < a0.size)
  (h:Q (some (decide (Kr rk (arrOf st) i < Kr rk (arrOf st) j))) st):wpS (model prog w) A E s (ltAt' i j) Q st:=by
 have hi':i < (arrOf st).size:=by rw [b.sz]; exact hi
 have hj':j < (arrOf st).size:=by rw [b.sz]; exact hj
 rw [ltAt'_eq]
 refine bi1 (wpS_get (bi1 (dG hi' (bi1 (dG hj' ?_)))))
 refine c _ _ (b.all o _ (bl8 hi')) (b.all o _ (bl8 hj')) st Q b.kd ?_
 rw [<- cD (rk:=rk) hi',<- cD (rk:=rk) hj']; exact h
theorem sA {i j:Nat}{Q:Unit->SortSt->Prop} (h:Q () (setArr st (mirror (arrOf st) i j ((j - i) / 2)))):wpS (model prog w) A E s (reverseSlice' i j) Q st:=by
 rw [reverseSlice'_eq]; exact wpS_modify h
noncomputable abbrev CS:=Option (Option Nat) × Nat
noncomputable abbrev DS:=Option (Option Nat) × Nat × Nat
noncomputable def pH (lo b nrem:Nat):StateT SortSt Sem CS:=forIn [b:nrem] ((none,b):CS) fun _ r=>do
 match <- ltAt' (lo+r.2) (lo+r.2 - 1) with
 | some q=>if q=true then pure (ForInStep.done (none,r.2)) else pure (ForInStep.yield (none,r.2+1))
 | _=>pure (ForInStep.done (some none,r.2))
noncomputable def xA (lo b nrem:Nat):StateT SortSt Sem DS:=forIn [b:nrem] ((none,b,0):DS) fun _ r=>do
 match <- ltAt' (lo+r.2.1) (lo+r.2.1 - 1) with
 | some q=>
  if q=true then (if r.2.2 > 0 then do reverseSlice' (lo+r.2.1 - (r.2.2+1)) (lo+r.2.1); pure (ForInStep.yield (none,r.2.1+1,0)) else pure (ForInStep.yield (none,r.2.1+1,0)))
  else do
   match <- ltAt' (lo+r.2.1 - 1) (lo+r.2.1) with
   | some q=>if q=true then pure (ForInStep.done (none,r.2.1,r.2.2)) else pure (ForInStep.yield (none,r.2.1+1,r.2.2+1))
   | _=>pure (ForInStep.done (some none,r.2.1,r.2.2))
 | _=>pure (ForInStep.done (some none,r.2.1,r.2.2))
theorem U0 (c:cL prog w A E s κ Ok rk) (o:bO Ok a0) (b:SB κ a0 pd st) {lo n nrem:Nat}{Q:CS->SortSt->Prop} (hz:lo+nrem<=a0.size) (h1:1<=n) (hn:n<=nrem) (u:Up rk (arrOf st) lo (lo+n))
  (h:∀ m,n<=m->m<=nrem->Up rk (arrOf st) lo (lo+m)->(m=nrem ∨ Kr rk (arrOf st) (lo+m) < Kr rk (arrOf st) (lo+m - 1))->Q (none,m) st):wpS (model prog w) A E s (pH lo n nrem) Q st:=by
 unfold pH
 refine bp8 (I:=fun x r st'=>st'=st/\r=(none,x)/\Up rk (arrOf st) lo (lo+x)) ?_ ?_ ⟨rfl,rfl,u⟩
 ·rintro x r st' hx hx' ⟨rfl,rfl,u'⟩
  refine bi1 (pG c o b (by omega) (by omega) ?_)
  by_cases hq:Kr rk (arrOf st') (lo+x) < Kr rk (arrOf st') (lo+x - 1)
  ·rw [bg8 hq]
   exact bi7 (h x hx (by omega) u' (.inr hq))
  ·rw [bh5 hq]
   refine bi7 ⟨rfl,rfl,fun i j hi hij hj=>?_⟩
   rcases bm3 j (lo+x) with z | z
   ·exact u' i j hi hij z
   ·have ej:j=lo+x:=by omega
    subst ej
    rcases bv9 hij with z | z
    ·rw [z]; exact bq3 _
    ·have:=u' i (lo+x - 1) hi (by omega) (by omega)
     omega
 ·rintro r st' ⟨rfl,rfl,u'⟩
  have em:max n nrem=nrem:=by omega
  rw [em] at u' ⊢
  exact h nrem hn (bh0 _) u' (.inl rfl)
structure pI (rk:Keyed->Int) (xs ys:Array Keyed) (lo m q:Nat):Prop where
 dn:Dn rk ys lo (lo+m)
 le:q+1<=m
 eq:∀ i,lo+m - (q+1)<=i->i < lo+m->Kr rk ys i=Kr rk ys (lo+m - 1)
 low:∀ i,i < lo->Kr rk ys i=Kr rk xs i
theorem aH1 (c:cL prog w A E s κ Ok rk) (o:bO Ok a0) (b:SB κ a0 pd st) {lo n nrem:Nat}{xs:Array Keyed}{Q:DS->SortSt->Prop} (hz:lo+nrem<=a0.size) (h1:1<=n) (hn:n<=nrem) (u:pI rk xs (arrOf st) lo n 0)
  (h:∀ m q st',SB κ a0 pd st'->n<=m->m<=nrem->pI rk xs (arrOf st') lo m q->Q (none,m,q) st'):wpS (model prog w) A E s (xA lo n nrem) Q st:=by
 unfold xA
 refine bp8 (I:=fun x r st'=>∃ q,r=(none,x,q)/\SB κ a0 pd st'/\pI rk xs (arrOf st') lo x q) ?_ ?_ ⟨0,rfl,b,u⟩
 ·rintro x r st' hx hx' ⟨q,rfl,b',f⟩
  have sz:=b'.sz
  dsimp only
  refine bi1 (pG c o b' (by omega) (by omega) ?_)
  by_cases hq:Kr rk (arrOf st') (lo+x) < Kr rk (arrOf st') (lo+x - 1)
  ·rw [bg8 hq]
   have nx:∀ ys:Array Keyed,(∀ k,Kr rk ys k=Kr rk (arrOf st') k)->pI rk xs ys lo (x+1) 0:=fun ys e=>by
    refine⟨fun i j hi hij hj=>?_,by omega,fun i h1 h2=>by rw [show i=lo+(x+1) - 1 by omega],fun i hi=>(e i).trans (f.low i hi)⟩
    rw [e,e]
    rcases bm3 j (lo+x) with z | z
    ·exact f.dn i j hi hij z
    ·have ej:j=lo+x:=by omega
     subst ej
     rcases bv9 hij with z | z
     ·rw [z]; exact bq3 _
     ·have:=f.dn i (lo+x - 1) hi (by omega) (by omega)
      omega
   dsimp only
   rw [if_pos rfl]
   by_cases hp:q > 0
   ·rw [if_pos hp]
    exact bi1 (sA (bi7 ⟨0,rfl,b'.put (mirror_perm _ _ _ _),nx _ (x9 (by omega) f.eq)⟩))
   ·rw [if_neg hp]
    exact bi7 ⟨0,rfl,b',nx _ fun _=>rfl⟩
  ·rw [bh5 hq]
   dsimp only
   rw [if_neg bi3]
   refine bi1 (pG c o b' (by omega) (by omega) ?_)
   by_cases hl:Kr rk (arrOf st') (lo+x - 1) < Kr rk (arrOf st') (lo+x)
   ·rw [bg8 hl]
    exact bi7 (h x q st' b' hx (by omega) f)
   ·rw [bh5 hl]
    have ex:Kr rk (arrOf st') (lo+x)=Kr rk (arrOf st') (lo+x - 1):=by omega
    refine bi7 ⟨q+1,rfl,b',fun i j hi hij hj=>?_,by have:=f.le; omega,fun i h1 h2=>?_,f.low⟩
    ·rcases bm3 j (lo+x) with z | z
     ·exact f.dn i j hi hij z
     ·have ej:j=lo+x:=by omega
      subst ej
      rcases bv9 hij with z | z
      ·rw [z]; exact bq3 _
      ·rw [ex]; exact f.dn i (lo+x - 1) hi (by omega) (by omega)
    ·rw [show lo+(x+1) - 1=lo+x by omega]
     rcases bm3 i (lo+x) with z | z
     ·rw [ex]; exact f.eq i (by omega) z
     ·rw [show i=lo+x by omega]
 ·rintro r st' ⟨q,rfl,b',f⟩
  have em:max n nrem=nrem:=by omega
  rw [em] at f ⊢
  exact h nrem q st' b' hn (bh0 _) f
theorem U1 (c:cL prog w A E s κ Ok rk) (o:bO Ok a0) (b:SB κ a0 pd st) {lo nrem:Nat} (n:Nat) {xs:Array Keyed}{Q:Option Nat->SortSt->Prop}{K:DS->StateT SortSt Sem (Option Nat)}{k:CS->StateT SortSt Sem (Option Nat)} (hz:lo+nrem<=a0.size) (hn:n+1<=nrem)
  (hK:∀ m q,K (none,m,q)=if q > 0 then reverseSlice' (lo+m - (q+1)) (lo+m) >>= fun _=>reverseSlice' lo (lo+m) >>= fun _=>pH lo m nrem >>= k else reverseSlice' lo (lo+m) >>= fun _=>pH lo m nrem >>= k)
  (hk:∀ m,k (none,m)=pure (some m)) (u:pI rk xs (arrOf st) lo (n+1) 0)
  (h:∀ m st',SB κ a0 pd st'->1<=m->m<=nrem->Up rk (arrOf st') lo (lo+m)->(∀ i,i < lo->Kr rk (arrOf st') i=Kr rk xs i)->Q (some m) st'):wpS (model prog w) A E s (liftM (rule "list.sort.descending-run") >>= fun _=>xA lo (n+1) nrem >>= K) Q st:=by
 refine bi1 (wpS_lift (bx3 ⟨rfl,?_⟩))
 refine bi1 (aH1 c o b hz (by omega) hn u fun m q st1 b1 m1 m2 f=>?_)
 have fin:∀ st2:SortSt,SB κ a0 pd st2->(∀ k,Kr rk (arrOf st2) k=Kr rk (arrOf st1) k)->
   wpS (model prog w) A E s (reverseSlice' lo (lo+m) >>= fun _=>pH lo m nrem >>= k) Q st2:=fun st2 b2 e=>by
  have sz:=b2.sz
  have low:∀ i,i < lo->Kr rk (mirror (arrOf st2) lo (lo+m) ((lo+m - lo) / 2)) i=Kr rk xs i:=fun i hi=>by
   rw [rZ (by omega),if_neg (by omega),e]
   exact f.low i hi
  refine bi1 (sA (bi1 (U0 (κ:=κ) c o (b2.put (mirror_perm _ _ _ _)) hz (by omega) m2 ?_ fun m' h1 h2 up _=>by rw [hk]; exact bi7 (h m' _ (b2.put (mirror_perm _ _ _ _)) (by omega) h2 up low))))
  ·intro i j hi hij hj
   show Kr rk (mirror (arrOf st2) lo (lo+m) _) i<=Kr rk (mirror (arrOf st2) lo (lo+m) _) j
   rw [rZ (by omega),rZ (by omega),if_pos (by omega),if_pos (by omega),e,e]
   exact f.dn _ _ (by omega) (by omega) (by omega)
 rw [hK]
 by_cases hp:q > 0
 ·rw [if_pos hp]
  have sz:=b1.sz
  exact bi1 (sA (fin _ (b1.put (mirror_perm _ _ _ _)) (x9 (by omega) f.eq)))
 ·rw [if_neg hp]
  exact fin st1 b1 fun _=>rfl
theorem aH2 (c:cL prog w A E s κ Ok rk) (o:bO Ok a0) (b:SB κ a0 pd st) {lo nrem:Nat}{Q:Option Nat->SortSt->Prop} (hz:lo+nrem<=a0.size) (h1:1<=nrem)
  (h:∀ m st',SB κ a0 pd st'->1<=m->m<=nrem->Up rk (arrOf st') lo (lo+m)->(∀ i,i < lo->Kr rk (arrOf st') i=Kr rk (arrOf st) i)->Q (some m) st'):wpS (model prog w) A E s (countRun' lo nrem) Q st:=by
 rw [countRun'_eq]
 refine bi1 (U0 (n:=1) c o b hz (bh0 _) h1 (fun i j hi hij hj=>by rw [show i=j by omega]; exact bq3 _) fun n n1 n2 un on=>?_)
 dsimp only
 by_cases en:(n == nrem)=true
 ·rw [if_pos en]
  exact bi7 (h n st b n1 n2 un fun _ _=>rfl)
 ·rw [if_neg en]
  have en':n ≠ nrem:=by simpa using en
  have lt:=on.resolve_left en'
  have sz:=b.sz
  by_cases g:n > 1
  ·rw [if_pos g]
   refine bi1 (pG c o b (by omega) (by omega) ?_)
   by_cases hq:Kr rk (arrOf st) lo < Kr rk (arrOf st) (lo+n - 1)
   ·rw [bg8 hq]
    exact bi7 (h n st b n1 n2 un fun _ _=>rfl)
   ·rw [bh5 hq]
    dsimp only
    rw [if_neg bi3]
    have all:∀ k,lo<=k->k < lo+n->Kr rk (arrOf st) k=Kr rk (arrOf st) (lo+n - 1):=fun k k1 k2=>by
     have a1:=un lo k (bh0 _) k1 k2
     have a2:=un k (lo+n - 1) k1 (by omega) (by omega)
     omega
    have sm:=x9 (rk:=rk) (xs:=arrOf st) (i:=lo) (j:=lo+n) (by omega) all
    refine bi1 (sA (U1 (xs:=arrOf st) (κ:=κ) c o (b.put (mirror_perm _ _ _ _)) n hz (by omega) (fun _ _=>rfl) (fun _=>rfl) ⟨fun i j hi hij hj=>?_,by omega,fun i h1 h2=>by rw [show i=lo+(n+1) - 1 by omega],fun i _=>sm i⟩ h))
    show Kr rk (mirror (arrOf st) lo (lo+n) _) j<=Kr rk (mirror (arrOf st) lo (lo+n) _) i
    rw [sm,sm]
    rcases bm3 j (lo+n) with z | z
    ·rw [all i hi (by omega),all j (by omega) z]; exact bq3 _
    ·have ej:j=lo+n:=by omega
     subst ej
     rcases bv9 hij with z | z
     ·rw [z]; exact bq3 _
     ·rw [all i hi (by omega)]; exact bw4 lt
  ·rw [if_neg g]
   have e1:n=1:=by omega
   subst e1
   refine U1 (xs:=arrOf st) c o b 1 hz (by omega) (fun _ _=>rfl) (fun _=>rfl) ⟨fun i j hi hij hj=>?_,by omega,fun i h1 h2=>by rw [show i=lo+(1+1) - 1 by omega],fun i _=>rfl⟩ h
   rcases bv9 hij with z | z
   ·rw [z]; exact bq3 _
   ·have ei:i=lo+1 - 1:=by omega
    have ej:j=lo+1:=by omega
    rw [ei,ej]; exact bw4 lt
theorem aH3 (c:cL prog w A E s κ Ok rk) (o:bO Ok a0) (b:SB κ a0 pd st) {lo n q:Nat}{Q:Bool->SortSt->Prop} (hz:lo+n<=a0.size) (hq:q<=n) (u:Up rk (arrOf st) lo (lo+q))
  (h:∀ st',SB κ a0 pd st'->Up rk (arrOf st') lo (lo+n)->(∀ i,i < lo->Kr rk (arrOf st') i=Kr rk (arrOf st) i)->Q true st'):wpS (model prog w) A E s (binarySort' lo n q) Q st:=by
 rw [binarySort'_eq]
 refine bi1 (bw5 (bp8 (I:=fun k r st'=>r=(none,())/\SB κ a0 pd st'/\Up rk (arrOf st') lo (lo+min k n)/\∀ i,i < lo->Kr rk (arrOf st') i=Kr rk (arrOf st) i)
  (Q:=fun r st'=>r=(none,())/\SB κ a0 pd st'/\Up rk (arrOf st') lo (lo+n)/\∀ i,i < lo->Kr rk (arrOf st') i=Kr rk (arrOf st) i) ?_ ?_ ?_) ?_)
 ·rintro k r st1 hk hkn ⟨rfl,b1,u1,l1⟩
  rw [show min k n=k by omega] at u1
  have hk0:lo+k < a0.size:=by omega
  have sz:=b1.sz
  refine bi1 (bw5 (bp8 (I:=fun x r st'=>st'=st1/\∃ l g,r=(none,l,g)/\l<=g/\g<=k/\g - l<=k - x/\(∀ i,i < l->Kr rk (arrOf st1) (lo+i)<=Kr rk (arrOf st1) (lo+k))/\∀ i,g<=i->i < k->Kr rk (arrOf st1) (lo+k) < Kr rk (arrOf st1) (lo+i))
   (Q:=fun r st'=>st'=st1/\∃ l g,r=(none,l,g)/\l<=k/\(∀ i,i < l->Kr rk (arrOf st1) (lo+i)<=Kr rk (arrOf st1) (lo+k))/\∀ i,l<=i->i < k->Kr rk (arrOf st1) (lo+k) < Kr rk (arrOf st1) (lo+i)) ?_ ?_ ?_) ?_)
  ·rintro x r st2 _ hx ⟨rfl,l,g,rfl,d1,d2,d3,f1,f2⟩
   dsimp only
   by_cases hlg:l >= g
   ·rw [if_pos hlg]
    have e:g=l:=by omega
    subst e
    exact bi7 ⟨rfl,g,g,rfl,d2,f1,f2⟩
   ·rw [if_neg hlg]
    refine bi1 (pG c o b1 hk0 (by omega) ?_)
    by_cases hc:Kr rk (arrOf st2) (lo+k) < Kr rk (arrOf st2) (lo+(l+g) / 2)
    ·rw [bg8 hc]
     refine bi7 ⟨rfl,l,(l+g) / 2,rfl,by omega,by omega,by omega,f1,fun i i1 i2=>?_⟩
     have:=u1 (lo+(l+g) / 2) (lo+i) (by omega) (by omega) (by omega)
     omega
    ·rw [bh5 hc]
     refine bi7 ⟨rfl,(l+g) / 2+1,g,rfl,by omega,d2,by omega,fun i i1=>?_,f2⟩
     have:=u1 (lo+i) (lo+(l+g) / 2) (by omega) (by omega) (by omega)
     omega
  ·rintro r st2 ⟨rfl,l,g,rfl,d1,d2,d3,f1,f2⟩
   have e:g=l:=by omega
   subst e
   exact⟨rfl,g,g,rfl,d2,f1,f2⟩
  ·exact⟨rfl,0,k,rfl,by omega,by omega,by omega,fun i hi=>absurd hi (by omega),fun i i1 i2=>absurd i1 (by omega)⟩
  ·rintro r st2 ⟨rfl,l,g,rfl,d,f1,f2⟩
   dsimp only
   rw [moveDown'_eq]
   have kb:∀ i,Kr rk (bubble (arrOf st2) (lo+k) (lo+k - (lo+l))) i=Kr rk (arrOf st2) (if i=lo+l then lo+k else if lo+l < i/\i<=lo+k then i - 1 else i):=fun i=>by
    rw [aH0 (by omega) (by omega),show lo+k - (lo+k - (lo+l))=lo+l by omega]
   refine bi1 (wpS_modify (bi7 ⟨rfl,b1.put (bubble_perm _ _ _),fun i j hi hij hj=>?_,fun i hi=>?_⟩))
   ·show Kr rk (bubble (arrOf st2) (lo+k) (lo+k - (lo+l))) i<=Kr rk (bubble (arrOf st2) (lo+k) (lo+k - (lo+l))) j
    rw [kb,kb]
    rw [show min (k+1) n=k+1 by omega] at hj
    have v1:∀ p,lo<=p->p < lo+l->Kr rk (arrOf st2) p<=Kr rk (arrOf st2) (lo+k):=fun p p1 p2=>by have:=f1 (p - lo) (by omega); rwa [show lo+(p - lo)=p by omega] at this
    have v2:∀ p,lo+l<=p->p < lo+k->Kr rk (arrOf st2) (lo+k) < Kr rk (arrOf st2) p:=fun p p1 p2=>by have:=f2 (p - lo) (by omega) (by omega); rwa [show lo+(p - lo)=p by omega] at this
    repeat' split
    all_goals first
     | (exfalso; omega)
     | exact bq3 _
     | exact v1 _ (by omega) (by omega)
     | exact bw4 (v2 _ (by omega) (by omega))
     | exact u1 _ _ (by omega) (by omega) (by omega)
   ·show Kr rk (bubble (arrOf st2) (lo+k) (lo+k - (lo+l))) i=_
    rw [kb,if_neg (by omega),if_neg (by omega)]
    exact l1 i hi
 ·rintro r st1 ⟨rfl,b1,u1,l1⟩
  rw [show min (max (max q 1) n) n=n by omega] at u1
  exact⟨rfl,b1,u1,l1⟩
 ·refine⟨rfl,b,fun i j hi hij hj=>?_,fun _ _=>rfl⟩
  rcases bm3 j (lo+q) with z | z
  ·exact u i j hi hij z
  ·rw [show i=j by omega]; exact bq3 _
 ·rintro r st1 ⟨rfl,b1,u1,l1⟩
  exact bi7 (h st1 b1 u1 l1)
end
noncomputable def kI:Bool->Keyed->Array Keyed->Nat->Nat->Nat->StateT SortSt Sem (Option Nat):=sortPriv% PySem.Builtin.gallop
noncomputable def lS (lf:Bool) (key:Keyed) (xs:Array Keyed) (bs i:Nat):StateT SortSt Sem (Option Bool):=do
 let z <- elem' xs (bs+i)
 if lf then lt' z key else return (<- lt' key z).map (!·)
theorem aH4 (lf:Bool) (key:Keyed) (xs:Array Keyed) (bs n h:Nat):kI lf key xs bs n h=(do
 let mut la:=0
 let mut of:=1
 let mut l:=0
 let mut g:=0
 let some rt <- lS lf key xs bs h | return none
 if rt then
  let mx:=n - h
  for _ in [0:n] do
   if of >= mx then break
   let some mr <- lS lf key xs bs (h+of) | return none
   if !mr then break
   la:=of
   of:=2 * of+1
  l:=h+la+1
  g:=h+min of mx
 else
  let mx:=h+1
  for _ in [0:n] do
   if of >= mx then break
   let some fd <- lS lf key xs bs (h - of) | return none
   if fd then break
   la:=of
   of:=2 * of+1
  l:=h+1 - min of mx
  g:=h - la
 for _ in [0:n] do
  if l >= g then break
  let m:=l+(g - l) / 2
  let some mr <- lS lf key xs bs m | return none
  if mr then l:=m+1 else g:=m
 return some g):=rfl
section
variable {rk : Keyed → Int} {κ : SortKind} {st : SortSt} {prog : Program} {w : World} {A : Around} {E : Value → Shared → Prop} {s : Shared} {Ok : Keyed → Prop}
noncomputable def c9 (rk:Keyed->Int) (lf:Bool) (key:Keyed) (xs:Array Keyed) (bs i:Nat):Bool:=if lf then decide (Kr rk xs (bs+i) < rk key) else decide (Kr rk xs (bs+i)<=rk key)
theorem sB (c:cL prog w A E s κ Ok rk) (hk:kindOf st=κ) {lf:Bool}{key:Keyed}{xs:Array Keyed}{bs i:Nat}{Q:Option Bool->SortSt->Prop} (ok:Ok key) (o:bO Ok xs) (hi:bs+i < xs.size)
  (h:Q (some (c9 rk lf key xs bs i)) st):wpS (model prog w) A E s (lS lf key xs bs i) Q st:=by
 unfold lS
 refine bi1 (dG hi ?_)
 unfold c9 at h
 rw [cD hi] at h
 cases lf with
 | true=>
  simp only [if_true] at h ⊢
  exact c _ _ (o _ (bl8 hi)) ok st Q hk h
 | false=>
  simp only [bj2,bn0] at h ⊢
  refine bi1 (c _ _ ok (o _ (bl8 hi)) st _ hk (bi7 ?_))
  have e:(!decide (rk key < rk xs[bs+i]))=decide (rk xs[bs+i]<=rk key):=by
   by_cases z:rk xs[bs+i]<=rk key
   ·rw [bg8 z,bh5 (by omega)]; rfl
   ·rw [bh5 z,bg8 (by omega)]; rfl
  show Q (some (!decide (rk key < rk xs[bs+i]))) st
  rw [e]; exact h
noncomputable abbrev GS:=Option (Option Nat) × Nat × Nat
noncomputable def U2 (lf:Bool) (key:Keyed) (xs:Array Keyed) (bs n l g:Nat):StateT SortSt Sem GS:=forIn [0:n] ((none,l,g):GS) fun _ r=>
 if r.2.1 >= r.2.2 then pure (ForInStep.done (none,r.2.1,r.2.2)) else do
  match <- lS lf key xs bs (r.2.1+(r.2.2 - r.2.1) / 2) with
  | some q=>if q=true then pure (ForInStep.yield (none,r.2.1+(r.2.2 - r.2.1) / 2+1,r.2.2)) else pure (ForInStep.yield (none,r.2.1,r.2.1+(r.2.2 - r.2.1) / 2))
  | _=>pure (ForInStep.done (some none,r.2.1,r.2.2))
theorem U3 (c:cL prog w A E s κ Ok rk) (hk:kindOf st=κ) {lf:Bool}{key:Keyed}{xs:Array Keyed}{bs n l g:Nat}{Q:GS->SortSt->Prop} (ok:Ok key) (o:bO Ok xs) (hz:bs+n<=xs.size)
  (mono:∀ i j,i<=j->j < n->c9 rk lf key xs bs j=true->c9 rk lf key xs bs i=true) (hlg:l<=g) (hg:g<=n) (h1:∀ i,i < l->c9 rk lf key xs bs i=true) (h2:∀ i,g<=i->i < n->c9 rk lf key xs bs i=false)
  (hq:∀ k,k<=n->(∀ i,i < k->c9 rk lf key xs bs i=true)->(∀ i,k<=i->i < n->c9 rk lf key xs bs i=false)->Q (none,k,k) st):wpS (model prog w) A E s (U2 lf key xs bs n l g) Q st:=by
 unfold U2
 refine bp8 (I:=fun x r st'=>st'=st/\∃ l g,r=(none,l,g)/\l<=g/\g<=n/\g - l<=n - x/\(∀ i,i < l->c9 rk lf key xs bs i=true)/\∀ i,g<=i->i < n->c9 rk lf key xs bs i=false) ?_ ?_ ⟨rfl,l,g,rfl,hlg,hg,by omega,h1,h2⟩
 ·rintro x r st' _ hx ⟨rfl,l,g,rfl,d1,d2,d3,f1,f2⟩
  dsimp only
  by_cases hc:l >= g
  ·rw [if_pos hc]
   have e:g=l:=by omega
   subst e
   exact bi7 (hq g d2 f1 f2)
  ·rw [if_neg hc]
   refine bi1 (sB c hk ok o (by omega) ?_)
   cases z:c9 rk lf key xs bs (l+(g - l) / 2) with
   | true=>exact bi7 ⟨rfl,_,_,rfl,by omega,d2,by omega,fun i hi=>mono i (l+(g - l) / 2) (by omega) (by omega) z,f2⟩
   | false=>
    refine bi7 ⟨rfl,_,_,rfl,by omega,by omega,by omega,f1,fun i i1 i2=>?_⟩
    cases y:c9 rk lf key xs bs i with
    | false=>rfl
    | true=>rw [mono _ i i1 i2 y] at z; cases z
 ·rintro r st' ⟨rfl,l,g,rfl,d1,d2,d3,f1,f2⟩
  have e:g=l:=by omega
  subst e
  exact hq g d2 f1 f2
theorem nC (c:cL prog w A E s κ Ok rk) (hk:kindOf st=κ) {lf:Bool}{key:Keyed}{xs:Array Keyed}{bs n h:Nat}{Q:Option Nat->SortSt->Prop} (ok:Ok key) (o:bO Ok xs) (hh:h < n) (hz:bs+n<=xs.size) (u:Up rk xs bs (bs+n))
  (hq:∀ k,k<=n->(∀ i,i < k->c9 rk lf key xs bs i=true)->(∀ i,k<=i->i < n->c9 rk lf key xs bs i=false)->Q (some k) st):wpS (model prog w) A E s (kI lf key xs bs n h) Q st:=by
 have mono:∀ i j,i<=j->j < n->c9 rk lf key xs bs j=true->c9 rk lf key xs bs i=true:=fun i j hij hj e=>by
  have:=u (bs+i) (bs+j) (by omega) (by omega) (by omega)
  unfold c9 at e ⊢
  cases lf with
  | true=>simp only [if_true,bk9] at e ⊢; omega
  | false=>simp only [bj2,bn0,bk9] at e ⊢; omega
 have monf:∀ i j,i<=j->j < n->c9 rk lf key xs bs i=false->c9 rk lf key xs bs j=false:=fun i j hij hj e=>by
  cases z:c9 rk lf key xs bs j with
  | false=>rfl
  | true=>rw [mono i j hij hj z] at e; cases e
 rw [aH4]
 refine bi1 (sB c hk ok o (by omega) ?_)
 dsimp only
 cases z:c9 rk lf key xs bs h with
 | true=>
  rw [if_pos rfl]
  refine bi1 (bw5 (bp8 (I:=fun x r st'=>st'=st/\∃ la of,r=(none,la,of)/\la < of/\x < of/\h+la < n/\c9 rk lf key xs bs (h+la)=true)
   (Q:=fun r st'=>st'=st/\∃ la of,r=(none,la,of)/\la < of/\h+la < n/\c9 rk lf key xs bs (h+la)=true/\(of < n - h->c9 rk lf key xs bs (h+of)=false)) ?_ ?_ ⟨rfl,0,1,rfl,by omega,by omega,by omega,z⟩) ?_)
  ·rintro x r st' _ hx ⟨rfl,la,of,rfl,d1,d2,d3,f⟩
   dsimp only
   by_cases hc:of >= n - h
   ·rw [if_pos hc]
    exact bi7 ⟨rfl,la,of,rfl,d1,d3,f,fun y=>absurd y (by omega)⟩
   ·rw [if_neg hc]
    refine bi1 (sB c hk ok o (by omega) ?_)
    cases y:c9 rk lf key xs bs (h+of) with
    | true=>exact bi7 ⟨rfl,of,2 * of+1,rfl,by omega,by omega,by omega,y⟩
    | false=>exact bi7 ⟨rfl,la,of,rfl,d1,d3,f,fun _=>y⟩
  ·rintro r st' ⟨rfl,la,of,rfl,d1,d2,d3,f⟩
   exact⟨rfl,la,of,rfl,d1,d3,f,fun y=>absurd y (by omega)⟩
  ·rintro r st' ⟨rfl,la,of,rfl,d1,d3,f,ft⟩
   dsimp only
   refine bi1 (U3 (l:=h+la+1) (g:=h+min of (n - h)) c hk ok o hz mono (by omega) (by omega) (fun i hi=>mono i (h+la) (by omega) d3 f) (fun i i1 i2=>?_) fun k k1 k2 k3=>bi7 (hq k k1 k2 k3))
   rcases bm3 of (n - h) with y | y
   ·exact monf (h+of) i (by omega) i2 (ft y)
   ·exact absurd i1 (by omega)
 | false=>
  rw [if_neg bi3]
  refine bi1 (bw5 (bp8 (I:=fun x r st'=>st'=st/\∃ la of,r=(none,la,of)/\la < of/\x < of/\la<=h/\c9 rk lf key xs bs (h - la)=false)
   (Q:=fun r st'=>st'=st/\∃ la of,r=(none,la,of)/\la < of/\la<=h/\c9 rk lf key xs bs (h - la)=false/\(of < h+1->c9 rk lf key xs bs (h - of)=true)) ?_ ?_ ⟨rfl,0,1,rfl,by omega,by omega,by omega,z⟩) ?_)
  ·rintro x r st' _ hx ⟨rfl,la,of,rfl,d1,d2,d3,f⟩
   dsimp only
   by_cases hc:of >= h+1
   ·rw [if_pos hc]
    exact bi7 ⟨rfl,la,of,rfl,d1,d3,f,fun y=>absurd y (by omega)⟩
   ·rw [if_neg hc]
    refine bi1 (sB c hk ok o (by omega) ?_)
    cases y:c9 rk lf key xs bs (h - of) with
    | false=>exact bi7 ⟨rfl,of,2 * of+1,rfl,by omega,by omega,by omega,y⟩
    | true=>exact bi7 ⟨rfl,la,of,rfl,d1,d3,f,fun _=>y⟩
  ·rintro r st' ⟨rfl,la,of,rfl,d1,d2,d3,f⟩
   exact⟨rfl,la,of,rfl,d1,d3,f,fun y=>absurd y (by omega)⟩
  ·rintro r st' ⟨rfl,la,of,rfl,d1,d3,f,ft⟩
   dsimp only
   refine bi1 (U3 (l:=h+1 - min of (h+1)) (g:=h - la) c hk ok o hz mono (by omega) (by omega) (fun i hi=>?_) (fun i i1 i2=>monf (h - la) i i1 i2 f) fun k k1 k2 k3=>bi7 (hq k k1 k2 k3))
   rcases bm3 of (h+1) with y | y
   ·exact mono i (h - of) (by omega) (by omega) (ft y)
   ·exact absurd hi (by omega)
end
noncomputable def nD:Nat->StateT SortSt Sem Unit:=sortPriv% PySem.Builtin.setMinGallop
noncomputable def xB:Array Keyed->Array Keyed->StateT SortSt Sem (Array Keyed):=sortPriv% PySem.Builtin.mergeLo
theorem aH5 (g:Nat):nD g=modify (fun st=>SortSt.mk' (kindOf st) (arrOf st) (pendingOf st) g (failedOf st)):=rfl
noncomputable abbrev LS:=Option (Array Keyed) × Array Keyed × Nat × Nat × Nat × Nat × Nat
noncomputable abbrev xC:=Option (Array Keyed) × Array Keyed × Nat × Nat × Nat × Nat
noncomputable abbrev LO:=Option (Array Keyed) × Array Keyed × Nat × Nat × Nat
noncomputable def sC (x y o:Array Keyed) (i j mg p q:Nat):StateT SortSt Sem (ForInStep LS):=do
 let v <- elem' x i
 if (i+1+1 == x.size)=true then pure (.done (some (o.push v ++ y.extract j y.size ++ x.extract (i+1) x.size),o.push v,i+1,j,mg,p,q))
 else if (decide (p < 7) && decide (q < 7))=true then pure (.done (none,o.push v,i+1,j,mg,p,q)) else pure (.yield (none,o.push v,i+1,j,mg,p,q))
noncomputable def sD (x y o:Array Keyed) (i j mg p q:Nat):StateT SortSt Sem (ForInStep LS):=do
 let v <- elem' y j
 if (j+1 == y.size)=true then pure (.done (some (o.push v ++ x.extract i x.size ++ y.extract (j+1) y.size),o.push v,i,j+1,mg,p,q)) else do
  let u <- elem' x i
  match <- kI true u y (j+1) (y.size - (j+1)) 0 with
  | some k=>
   if k > 0 then
    if (j+1+k == y.size)=true then pure (.done (some (o.push v ++ y.extract (j+1) (j+1+k) ++ x.extract i x.size ++ y.extract (j+1+k) y.size),o.push v ++ y.extract (j+1) (j+1+k),i,j+1+k,mg,p,k))
    else sC x y (o.push v ++ y.extract (j+1) (j+1+k)) i (j+1+k) mg p k
   else sC x y (o.push v) i (j+1) mg p k
  | _=>pure (.done (some (o.push v ++ x.extract i x.size ++ y.extract (j+1) y.size),o.push v,i,j+1,mg,p,q))
noncomputable def sE (x y o:Array Keyed) (i j mg p q:Nat):StateT SortSt Sem (ForInStep LS):=do
 nD mg
 let v <- elem' y j
 match <- kI false v x i (x.size - i) 0 with
 | some k=>
  if k > 0 then
   if (i+k+1 == x.size)=true then pure (.done (some (o ++ x.extract i (i+k) ++ y.extract j y.size ++ x.extract (i+k) x.size),o ++ x.extract i (i+k),i+k,j,mg,k,q))
   else if (i+k == x.size)=true then pure (.done (some (o ++ x.extract i (i+k) ++ x.extract (i+k) x.size ++ y.extract j y.size),o ++ x.extract i (i+k),i+k,j,mg,k,q))
   else sD x y (o ++ x.extract i (i+k)) (i+k) j mg k q
  else sD x y o i j mg k q
 | _=>pure (.done (some (o ++ x.extract i x.size ++ y.extract j y.size),o,i,j,mg,p,q))
noncomputable def xD (x y o:Array Keyed) (i j mg p q:Nat):StateT SortSt Sem LS:=forIn [0:x.size+y.size] ((none,o,i,j,mg,p,q):LS) fun _ r=>
 if r.2.2.2.2.1 > 1 then sE x y r.2.1 r.2.2.1 r.2.2.2.1 (r.2.2.2.2.1 - 1) r.2.2.2.2.2.1 r.2.2.2.2.2.2 else sE x y r.2.1 r.2.2.1 r.2.2.2.1 r.2.2.2.2.1 r.2.2.2.2.2.1 r.2.2.2.2.2.2
noncomputable def xE (x y o:Array Keyed) (i j mg:Nat):StateT SortSt Sem xC:=forIn [0:x.size+y.size] ((none,o,i,j,0,0):xC) fun _ r=>do
 let v <- elem' y r.2.2.2.1
 let u <- elem' x r.2.2.1
 match <- lt' v u with
 | some q=>
  if q=true then do
   let v <- elem' y r.2.2.2.1
   if (r.2.2.2.1+1 == y.size)=true then pure (.done (some (r.2.1.push v ++ x.extract r.2.2.1 x.size ++ y.extract (r.2.2.2.1+1) y.size),r.2.1.push v,r.2.2.1,r.2.2.2.1+1,0,r.2.2.2.2.2+1))
   else if r.2.2.2.2.2+1 >= mg then pure (.done (none,r.2.1.push v,r.2.2.1,r.2.2.2.1+1,0,r.2.2.2.2.2+1)) else pure (.yield (none,r.2.1.push v,r.2.2.1,r.2.2.2.1+1,0,r.2.2.2.2.2+1))
  else do
   let u <- elem' x r.2.2.1
   if (r.2.2.1+1+1 == x.size)=true then pure (.done (some (r.2.1.push u ++ y.extract r.2.2.2.1 y.size ++ x.extract (r.2.2.1+1) x.size),r.2.1.push u,r.2.2.1+1,r.2.2.2.1,r.2.2.2.2.1+1,0))
   else if r.2.2.2.2.1+1 >= mg then pure (.done (none,r.2.1.push u,r.2.2.1+1,r.2.2.2.1,r.2.2.2.2.1+1,0)) else pure (.yield (none,r.2.1.push u,r.2.2.1+1,r.2.2.2.1,r.2.2.2.2.1+1,0))
 | _=>pure (.done (some (r.2.1 ++ x.extract r.2.2.1 x.size ++ y.extract r.2.2.2.1 y.size),r.2.1,r.2.2.1,r.2.2.2.1,r.2.2.2.2.1,r.2.2.2.2.2))
noncomputable def U4 (x y o:Array Keyed) (i j mg:Nat):StateT SortSt Sem LO:=forIn [0:x.size+y.size] ((none,o,i,j,mg):LO) fun _ r=>do
 let u <- xE x y r.2.1 r.2.2.1 r.2.2.2.1 r.2.2.2.2
 match u.1 with
 | some z=>pure (.done (some z,u.2.1,u.2.2.1,u.2.2.2.1,r.2.2.2.2))
 | none=>do
  liftM (rule "list.sort.gallop")
  let v <- xD x y u.2.1 u.2.2.1 u.2.2.2.1 (r.2.2.2.2+1) u.2.2.2.2.1 u.2.2.2.2.2
  match v.1 with
  | some z=>pure (.done (some z,v.2.1,v.2.2.1,v.2.2.2.1,v.2.2.2.2.1))
  | none=>do
   nD (v.2.2.2.2.1+1)
   pure (.yield (none,v.2.1,v.2.2.1,v.2.2.2.1,v.2.2.2.2.1+1))
theorem aH6 (x y:Array Keyed):xB x y=(do
 liftM (rule "list.sort.merge-lo")
 let v <- elem' y 0
 if (1 == y.size)=true then pure (#[v] ++ x.extract 0 x.size ++ y.extract 1 y.size)
 else if (0+1 == x.size)=true then pure (#[v] ++ y.extract 1 y.size ++ x.extract 0 x.size)
 else do
  let z <- get
  let r <- U4 x y #[v] 0 1 (gallopOf z)
  match r.1 with
  | some z=>pure z
  | none=>unsupported "internal:list.sort.merge-bound"):=by kernel_rfl
section
variable (rk : Keyed → Int)
noncomputable def Sd (l:List Keyed):Prop:=l.Pairwise fun a b=>rk a<=rk b
structure MI (xs ys o:List Keyed) (i j:Nat):Prop where
 pm:o.Perm (xs.take i ++ ys.take j)
 sx:Sd rk (o ++ xs.drop i)
 sy:Sd rk (o ++ ys.drop j)
end
variable {rk : Keyed → Int} {xs ys o : List Keyed} {i j : Nat}
theorem Sd.ins {o a b d:List Keyed} (h1:Sd rk (o ++ a)) (h2:Sd rk (o ++ (b ++ d))) (h:∀ u ∈ b,∀ t ∈ a,rk u<=rk t):Sd rk ((o ++ b) ++ a):=by
 unfold Sd at *
 rw [bk5]
 obtain ⟨p1,p2,p3⟩:=bm5.mp h1
 obtain ⟨q1,q2,q3⟩:=bm5.mp h2
 obtain ⟨r1,r2,r3⟩:=bm5.mp q2
 refine bm5.mpr ⟨p1,bm5.mpr ⟨r1,p2,h⟩,fun u hu t ht=>?_⟩
 rcases bh6.mp ht with z | z
 ·exact q3 u hu t (bj3 _ z)
 ·exact p3 u hu t z
theorem MI.ofy (m:MI rk xs ys o i j) (k:Nat) (h:∀ u ∈ (ys.drop j).take k,∀ t ∈ xs.drop i,rk u<=rk t):MI rk xs ys (o ++ (ys.drop j).take k) i (j+k):=by
 have e:(ys.drop j).take k ++ ys.drop (j+k)=ys.drop j:=by rw [<- List.drop_drop]; exact bl3 k _
 refine⟨?_,Sd.ins m.sx (d:=ys.drop (j+k)) (by rw [e]; exact m.sy) h,by rw [bk5,e]; exact m.sy⟩
 rw [List.take_add,<- bk5]
 exact m.pm.append_right _
theorem MI.ofx (m:MI rk xs ys o i j) (k:Nat) (h:∀ u ∈ (xs.drop i).take k,∀ t ∈ ys.drop j,rk u<=rk t):MI rk xs ys (o ++ (xs.drop i).take k) (i+k) j:=by
 have e:(xs.drop i).take k ++ xs.drop (i+k)=xs.drop i:=by rw [<- List.drop_drop]; exact bl3 k _
 refine⟨?_,by rw [bk5,e]; exact m.sx,Sd.ins m.sy (d:=xs.drop (i+k)) (by rw [e]; exact m.sx) h⟩
 rw [List.take_add]
 refine (m.pm.append_right _).trans ?_
 rw [bk5,bk5]
 exact (List.perm_append_comm).append_left _
theorem MI.fin (m:MI rk xs ys o i j) (h:xs.length<=i ∨ ys.length<=j):(o ++ xs.drop i ++ ys.drop j).Perm (xs ++ ys)/\Sd rk (o ++ xs.drop i ++ ys.drop j):=by
 refine⟨?_,?_⟩
 ·rw [bk5]
  refine (m.pm.append_right _).trans ?_
  have e1:xs=xs.take i ++ xs.drop i:=(bl3 i xs).symm
  have e2:ys=ys.take j ++ ys.drop j:=(bl3 j ys).symm
  conv=>rhs; rw [e1,e2]
  rw [bk5,bk5]
  refine List.Perm.append_left _ ?_
  rw [<- bk5,<- bk5]
  exact (List.perm_append_comm).append_right _
 ·rcases h with h | h
  ·rw [List.drop_eq_nil_of_le h,bm6]; exact m.sy
  ·rw [List.drop_eq_nil_of_le h,bm6]; exact m.sx
theorem MI.lst (m:MI rk xs ys o i j) (h:∀ u ∈ ys,∀ t ∈ xs.drop i,rk u<=rk t):(o ++ ys.drop j ++ xs.drop i).Perm (xs ++ ys)/\Sd rk (o ++ ys.drop j ++ xs.drop i):=by
 have m2:=m.ofy ys.length fun u hu t ht=>h u (List.mem_of_mem_drop (bu5 hu)) t ht
 have e:(ys.drop j).take ys.length=ys.drop j:=bl5 (by simp)
 rw [e] at m2
 have f:=m2.fin (.inr (by omega))
 rw [List.drop_eq_nil_of_le (as:=ys) (i:=j+ys.length) (by omega),bm6] at f
 exact f
theorem U5 {x:Array Keyed}{i k:Nat}{u:Keyed} (h:u ∈ (x.toList.drop i).take k):∃ t,t < k/\i+t < x.size/\rk u=Kr rk x (i+t):=by
 obtain ⟨t,ht,e⟩:=List.getElem_of_mem h
 have h1:t < k/\i+t < x.size:=by simp at ht; omega
 refine⟨t,h1.1,h1.2,?_⟩
 rw [cD h1.2,<- e]
 simp
theorem pJ {x:Array Keyed}{i:Nat}{u:Keyed} (h:u ∈ x.toList.drop i):∃ t,i+t < x.size/\rk u=Kr rk x (i+t):=by
 obtain ⟨t,ht,e⟩:=List.getElem_of_mem h
 have h1:i+t < x.size:=by simp at ht; omega
 refine⟨t,h1,?_⟩
 rw [cD h1,<- e]
 simp
theorem Sd.up {x:Array Keyed} (h:Sd rk x.toList) (lo hi:Nat) (hh:hi<=x.size):Up rk x lo hi:=fun i j _ hij hj=>by
 rw [cD (by omega:i < x.size),cD (by omega:j < x.size)]
 rcases bv9 hij with z | z
 ·subst z; exact bq3 _
 ·have:=bn5.mp h i j (by simp; omega) (by simp; omega) z
  simpa using this
theorem U6 (x:Array Keyed) (i k:Nat):(x.extract i (i+k)).toList=(x.toList.drop i).take k:=by
 simp [List.extract]
theorem sF (x:Array Keyed) (i:Nat):(x.extract i x.size).toList=x.toList.drop i:=by
 simp [List.extract]
 exact bl5 (by simp)
theorem lT {x:Array Keyed}{i:Nat} (h:i < x.size) : [x[i]]=(x.toList.drop i).take 1:=by
 rw [List.drop_eq_getElem_cons (by simpa using h)]; simp
structure Gq (st st':SortSt):Prop where
 kd:kindOf st'=kindOf st
 ar:arrOf st'=arrOf st
 pd:pendingOf st'=pendingOf st
 ok:failedOf st'=failedOf st
theorem Gq.refl (st:SortSt):Gq st st:=⟨rfl,rfl,rfl,rfl⟩
section
variable {κ : SortKind} {st : SortSt} {prog : Program} {w : World} {A : Around} {E : Value → Shared → Prop} {s : Shared} {Ok : Keyed → Prop}
theorem sG {st0:SortSt}{g:Nat}{Q:Unit->SortSt->Prop} (q:Gq st0 st) (h:∀ st',Gq st0 st'->Q () st'):wpS (model prog w) A E s (nD g) Q st:=by
 rw [aH5]; exact wpS_modify (h _ ⟨q.kd,q.ar,q.pd,q.ok⟩)
noncomputable def eB (rk:Keyed->Int) (x y r:Array Keyed):Prop:=r.toList.Perm (x.toList ++ y.toList)/\Sd rk r.toList
theorem MI.y1 {x y o:Array Keyed} (m:MI rk x.toList y.toList o.toList i j) (hj:j < y.size) (h:∀ t,i+t < x.size->rk y[j]<=Kr rk x (i+t)):MI rk x.toList y.toList (o.push y[j]).toList i (j+1):=by
 have:=m.ofy 1 fun u hu t ht=>?_
 ·rw [<- lT hj] at this; simpa using this
 ·rw [<- lT hj,bg6] at hu
  subst hu
  obtain ⟨q,q1,q2⟩:=pJ (rk:=rk) ht
  rw [q2]; exact h q q1
theorem MI.x1 {x y o:Array Keyed} (m:MI rk x.toList y.toList o.toList i j) (hi:i < x.size) (h:∀ t,j+t < y.size->rk x[i]<=Kr rk y (j+t)):MI rk x.toList y.toList (o.push x[i]).toList (i+1) j:=by
 have:=m.ofx 1 fun u hu t ht=>?_
 ·rw [<- lT hi] at this; simpa using this
 ·rw [<- lT hi,bg6] at hu
  subst hu
  obtain ⟨q,q1,q2⟩:=pJ (rk:=rk) ht
  rw [q2]; exact h q q1
theorem MI.yk {x y o:Array Keyed} (m:MI rk x.toList y.toList o.toList i j) (k:Nat) (h:∀ p t,p < k->j+p < y.size->i+t < x.size->Kr rk y (j+p)<=Kr rk x (i+t)):MI rk x.toList y.toList (o ++ y.extract j (j+k)).toList i (j+k):=by
 have:=m.ofy k fun u hu t ht=>?_
 ·rw [<- U6] at this; rw [bn4]; exact this
 ·obtain ⟨p,p1,p2,p3⟩:=U5 (rk:=rk) hu
  obtain ⟨q,q1,q2⟩:=pJ (rk:=rk) ht
  rw [q2,p3]; exact h p q p1 p2 q1
theorem MI.xk {x y o:Array Keyed} (m:MI rk x.toList y.toList o.toList i j) (k:Nat) (h:∀ p t,p < k->i+p < x.size->j+t < y.size->Kr rk x (i+p)<=Kr rk y (j+t)):MI rk x.toList y.toList (o ++ x.extract i (i+k)).toList (i+k) j:=by
 have:=m.ofx k fun u hu t ht=>?_
 ·rw [<- U6] at this; rw [bn4]; exact this
 ·obtain ⟨p,p1,p2,p3⟩:=U5 (rk:=rk) hu
  obtain ⟨q,q1,q2⟩:=pJ (rk:=rk) ht
  rw [q2,p3]; exact h p q p1 p2 q1
theorem nE {key:Keyed}{xs:Array Keyed}{bs i:Nat}:c9 rk false key xs bs i=decide (Kr rk xs (bs+i)<=rk key):=rfl
theorem nF {key:Keyed}{xs:Array Keyed}{bs i:Nat}:c9 rk true key xs bs i=decide (Kr rk xs (bs+i) < rk key):=rfl
noncomputable def GI (rk:Keyed->Int) (x y:Array Keyed) (lb:Nat) (st:SortSt) (c:LS) (st':SortSt):Prop:=Gq st st'/\∃ o i j mg p q,c=(none,o,i,j,mg,p,q)/\MI rk x.toList y.toList o.toList i j/\i+1 < x.size/\j < y.size/\lb<=i+j
noncomputable def GQ (rk:Keyed->Int) (x y:Array Keyed) (lb:Nat) (st:SortSt) (c:LS) (st':SortSt):Prop:=Gq st st'/\((∃ r o i j mg p q,c=(some r,o,i,j,mg,p,q)/\eB rk x y r) ∨ ∃ o i j mg p q,c=(none,o,i,j,mg,p,q)/\MI rk x.toList y.toList o.toList i j/\i+1 < x.size/\j < y.size/\lb<=i+j)
noncomputable def GR (rk:Keyed->Int) (x y:Array Keyed) (lb:Nat) (st:SortSt) (r:ForInStep LS) (st':SortSt):Prop:=match r with | .done c=>GQ rk x y lb st c st' | .yield c=>GI rk x y lb st c st'
theorem MI.done {x y o:Array Keyed} (m:MI rk x.toList y.toList o.toList i j) (hh:x.size<=i ∨ y.size<=j):eB rk x y (o ++ x.extract i x.size ++ y.extract j y.size):=by
 unfold eB
 rw [bn4,bn4,sF,sF]
 exact m.fin (by simpa using hh)
theorem MI.last {x y o:Array Keyed} (m:MI rk x.toList y.toList o.toList i j) (x0:0 < x.size) (hl:∀ u ∈ y.toList,rk u<=rk x[x.size - 1]) (hh:i+1=x.size):eB rk x y (o ++ y.extract j y.size ++ x.extract i x.size):=by
 unfold eB
 rw [bn4,bn4,sF,sF]
 refine m.lst fun u hu t ht=>?_
 obtain ⟨q,q1,q2⟩:=pJ (rk:=rk) ht
 have e:i+q=x.size - 1:=by omega
 rw [q2,e,cD (by omega)]
 exact hl u hu
theorem U7 {st0:SortSt}{x y o:Array Keyed}{mg p q lb:Nat} (x0:0 < x.size) (hl:∀ u ∈ y.toList,rk u<=rk x[x.size - 1]) (g:Gq st0 st) (m:MI rk x.toList y.toList o.toList i j) (hi:i+1 < x.size) (hj:j < y.size) (hb:lb<=i+j)
  (hm:∀ t,j+t < y.size->rk x[i]<=Kr rk y (j+t)):wpS (model prog w) A E s (sC x y o i j mg p q) (GR rk x y lb st0) st:=by
 unfold sC
 have hi':i < x.size:=by omega
 have m':=m.x1 hi' hm
 refine bi1 (dG hi' ?_)
 by_cases he:(i+1+1 == x.size)=true
 ·rw [if_pos he]
  have he:i+1+1=x.size:=by simpa using he
  exact bi7 ⟨g,.inl ⟨_,_,_,_,_,_,_,rfl,m'.last x0 hl he⟩⟩
 ·rw [if_neg he]
  have he:i+1+1 ≠ x.size:=by simpa using he
  split
  ·exact bi7 ⟨g,.inr ⟨_,_,_,_,_,_,rfl,m',by omega,hj,by omega⟩⟩
  ·exact bi7 ⟨g,_,_,_,_,_,_,rfl,m',by omega,hj,by omega⟩
theorem U8 (c:cL prog w A E s κ Ok rk) {st0:SortSt} (hk:kindOf st0=κ) {x y o:Array Keyed}{mg p q lb:Nat} (ox:bO Ok x) (oy:bO Ok y) (sx:Sd rk x.toList) (sy:Sd rk y.toList) (x0:0 < x.size) (hl:∀ u ∈ y.toList,rk u<=rk x[x.size - 1]) (g:Gq st0 st) (m:MI rk x.toList y.toList o.toList i j) (hi:i+1 < x.size) (hj:j < y.size) (hb:lb<=i+j)
  (hm:∀ t,i+t < x.size->rk y[j]<=Kr rk x (i+t)):wpS (model prog w) A E s (sD x y o i j mg p q) (GR rk x y lb st0) st:=by
 unfold sD
 have hi':i < x.size:=by omega
 have m':=m.y1 hj hm
 refine bi1 (dG hj ?_)
 by_cases he:(j+1 == y.size)=true
 ·rw [if_pos he]
  have he:j+1=y.size:=by simpa using he
  exact bi7 ⟨g,.inl ⟨_,_,_,_,_,_,_,rfl,m'.done (.inr (by omega))⟩⟩
 ·rw [if_neg he]
  have he:j+1 ≠ y.size:=by simpa using he
  refine bi1 (dG hi' (bi1 (nC c (g.kd.trans hk) (ox _ (bl8 hi')) oy (by omega) (by omega) (sy.up _ _ (by omega)) fun k k1 k2 k3=>?_)))
  dsimp only
  have ux:=sx.up 0 _ (bh0 x.size)
  have mk:=m'.yk k fun p t hp _ ht=>by
   have a1:=k2 p hp
   rw [nF,bk9] at a1
   have a2:=ux i (i+t) (by omega) (by omega) ht
   rw [cD hi'] at a2
   omega
  have km:∀ t,j+1+k+t < y.size->rk x[i]<=Kr rk y (j+1+k+t):=fun t ht=>by
   have a1:=k3 (k+t) (by omega) (by omega)
   rw [nF,bl9,<- Nat.add_assoc] at a1
   omega
  by_cases hk0:k > 0
  ·rw [if_pos hk0]
   by_cases hf:(j+1+k == y.size)=true
   ·rw [if_pos hf]
    have hf:j+1+k=y.size:=by simpa using hf
    exact bi7 ⟨g,.inl ⟨_,_,_,_,_,_,_,rfl,mk.done (.inr (by omega))⟩⟩
   ·rw [if_neg hf]
    have hf:j+1+k ≠ y.size:=by simpa using hf
    exact U7 x0 hl g mk hi (by omega) (by omega) km
  ·rw [if_neg hk0]
   have e0:k=0:=by omega
   subst e0
   exact U7 x0 hl g m' hi (by omega) (by omega) km
theorem U9 (c:cL prog w A E s κ Ok rk) {st0:SortSt} (hk:kindOf st0=κ) {x y o:Array Keyed}{mg p q lb:Nat} (ox:bO Ok x) (oy:bO Ok y) (sx:Sd rk x.toList) (sy:Sd rk y.toList) (x0:0 < x.size) (hl:∀ u ∈ y.toList,rk u<=rk x[x.size - 1]) (g:Gq st0 st) (m:MI rk x.toList y.toList o.toList i j) (hi:i+1 < x.size) (hj:j < y.size) (hb:lb<=i+j) :
  wpS (model prog w) A E s (sE x y o i j mg p q) (GR rk x y lb st0) st:=by
 unfold sE
 refine bi1 (sG g fun st4 q4=>bi1 (dG hj (bi1 (nC c (q4.kd.trans hk) (oy _ (bl8 hj)) ox (by omega) (by omega) (sx.up _ _ (by omega)) fun k k1 k2 k3=>?_))))
 dsimp only
 have uy:=sy.up 0 _ (bh0 y.size)
 have mk:=m.xk k fun p t hp _ ht=>by
  have a1:=k2 p hp
  rw [nE,bk9] at a1
  have a2:=uy j (j+t) (by omega) (by omega) ht
  rw [cD hj] at a2
  omega
 have km:∀ t,i+k+t < x.size->rk y[j]<=Kr rk x (i+k+t):=fun t ht=>by
  have a1:=k3 (k+t) (by omega) (by omega)
  rw [nE,bl9,<- Nat.add_assoc] at a1
  omega
 by_cases hk0:k > 0
 ·rw [if_pos hk0]
  by_cases he:(i+k+1 == x.size)=true
  ·rw [if_pos he]
   exact bi7 ⟨q4,.inl ⟨_,_,_,_,_,_,_,rfl,mk.last x0 hl (by simpa using he)⟩⟩
  ·rw [if_neg he]
   have he:i+k+1 ≠ x.size:=by simpa using he
   by_cases hf:(i+k == x.size)=true
   ·rw [if_pos hf]
    have hf:i+k=x.size:=by simpa using hf
    exact bi7 ⟨q4,.inl ⟨_,_,_,_,_,_,_,rfl,mk.done (.inl (by omega))⟩⟩
   ·rw [if_neg hf]
    have hf:i+k ≠ x.size:=by simpa using hf
    exact U8 c hk ox oy sx sy x0 hl q4 mk (by omega) hj (by omega) km
 ·rw [if_neg hk0]
  have e0:k=0:=by omega
  subst e0
  exact U8 c hk ox oy sx sy x0 hl q4 m hi hj hb km
theorem aH7 (c:cL prog w A E s κ Ok rk) {st0:SortSt} (hk:kindOf st0=κ) {x y o:Array Keyed}{mg p q lb:Nat} (ox:bO Ok x) (oy:bO Ok y) (sx:Sd rk x.toList) (sy:Sd rk y.toList) (x0:0 < x.size) (hl:∀ u ∈ y.toList,rk u<=rk x[x.size - 1]) (g:Gq st0 st) (m:MI rk x.toList y.toList o.toList i j) (hi:i+1 < x.size) (hj:j < y.size) (hb:lb<=i+j) :
  wpS (model prog w) A E s (xD x y o i j mg p q) (GQ rk x y lb st0) st:=by
 unfold xD
 refine bp8 (I:=fun _=>GI rk x y lb st0) ?_ ?_ ⟨g,o,i,j,_,p,q,rfl,m,hi,hj,hb⟩
 ·rintro t c3 st3 _ _ ⟨q3,o,i,j,mg,p,q,rfl,m,hi,hj,pr3⟩
  dsimp only
  split
  ·exact bw5 (U9 c hk ox oy sx sy x0 hl q3 m hi hj pr3) fun r _ hr=>by cases r <;> exact hr
  ·exact bw5 (U9 c hk ox oy sx sy x0 hl q3 m hi hj pr3) fun r _ hr=>by cases r <;> exact hr
 ·rintro c3 st3 ⟨q3,o,i,j,mg,p,q,rfl,m,hi,hj,pr3⟩
  exact⟨q3,.inr ⟨_,_,_,_,_,_,rfl,m,hi,hj,pr3⟩⟩
theorem aH8 (c:cL prog w A E s κ Ok rk) {st0:SortSt} (hk:kindOf st0=κ) {x y o:Array Keyed}{mg:Nat}{Q:xC->SortSt->Prop} (ox:bO Ok x) (oy:bO Ok y) (sx:Sd rk x.toList) (sy:Sd rk y.toList) (x0:0 < x.size) (hl:∀ u ∈ y.toList,rk u<=rk x[x.size - 1]) (g:Gq st0 st) (m:MI rk x.toList y.toList o.toList i j) (hi:i+1 < x.size) (hj:j < y.size)
  (h1:∀ r o' i' j' p q st',Gq st0 st'->eB rk x y r->Q (some r,o',i',j',p,q) st')
  (h2:∀ o' i' j' p q st',Gq st0 st'->MI rk x.toList y.toList o'.toList i' j'->i'+1 < x.size->j' < y.size->i+j+1<=i'+j'->Q (none,o',i',j',p,q) st') :
  wpS (model prog w) A E s (xE x y o i j mg) Q st:=by
 have ux:Up rk x 0 x.size:=sx.up 0 _ (bh0 _)
 have uy:Up rk y 0 y.size:=sy.up 0 _ (bh0 _)
 unfold xE
 refine bp8 (I:=fun t c st'=>Gq st0 st'/\∃ o i' j' p q,c=(none,o,i',j',p,q)/\MI rk x.toList y.toList o.toList i' j'/\i'+1 < x.size/\j' < y.size/\i+j+t<=i'+j') ?_ ?_ ⟨g,o,i,j,0,0,rfl,m,hi,hj,by omega⟩
 ·rintro t c2 st2 _ ht ⟨q2,o,i',j',p,q,rfl,m,hi,hj,pr2⟩
  dsimp only
  have hi':i' < x.size:=by omega
  refine bi1 (dG hj (bi1 (dG hi' (bi1 (c _ _ (oy _ (bl8 hj)) (ox _ (bl8 hi')) st2 _ (q2.kd.trans hk) ?_)))))
  by_cases hc:rk y[j'] < rk x[i']
  ·rw [bg8 hc]
   dsimp only
   rw [if_pos rfl]
   have m':=m.y1 hj fun t ht=>by
    have:=ux i' (i'+t) (by omega) (by omega) ht
    rw [cD hi'] at this
    omega
   refine bi1 (dG hj ?_)
   by_cases he:(j'+1 == y.size)=true
   ·rw [if_pos he]
    have he:j'+1=y.size:=by simpa using he
    exact bi7 (h1 _ _ _ _ _ _ _ q2 (m'.done (.inr (by omega))))
   ·rw [if_neg he]
    have he:j'+1 ≠ y.size:=by simpa using he
    split
    ·exact bi7 (h2 _ _ _ _ _ _ q2 m' hi (by omega) (by omega))
    ·exact bi7 ⟨q2,_,_,_,_,_,rfl,m',hi,by omega,by omega⟩
  ·rw [bh5 hc]
   dsimp only
   rw [if_neg bi3]
   have m':=m.x1 hi' fun t ht=>by
    have:=uy j' (j'+t) (by omega) (by omega) ht
    rw [cD hj] at this
    omega
   refine bi1 (dG hi' ?_)
   by_cases he:(i'+1+1 == x.size)=true
   ·rw [if_pos he]
    exact bi7 (h1 _ _ _ _ _ _ _ q2 (m'.last x0 hl (by simpa using he)))
   ·rw [if_neg he]
    have he:i'+1+1 ≠ x.size:=by simpa using he
    split
    ·exact bi7 (h2 _ _ _ _ _ _ q2 m' (by omega) hj (by omega))
    ·exact bi7 ⟨q2,_,_,_,_,_,rfl,m',by omega,hj,by omega⟩
 ·rintro c2 st2 ⟨q2,o,i',j',p,q,rfl,m,hi,hj,pr2⟩
  exact h2 _ _ _ _ _ _ q2 m hi hj (by omega)
theorem aH9 (c:cL prog w A E s κ Ok rk) (hk:kindOf st=κ) {x y:Array Keyed}{Q:Array Keyed->SortSt->Prop} (ox:bO Ok x) (oy:bO Ok y) (sx:Sd rk x.toList) (sy:Sd rk y.toList) (x0:0 < x.size) (y0:0 < y.size)
  (hf:∀ t ∈ x.toList,rk y[0]<=rk t) (hl:∀ u ∈ y.toList,rk u<=rk x[x.size - 1])
  (h:∀ r st',Gq st st'->eB rk x y r->Q r st'):wpS (model prog w) A E s (xB x y) Q st:=by
 rw [aH6]
 refine bi1 (wpS_lift (bx3 ⟨rfl,bi1 (dG y0 ?_)⟩))
 have m0:MI rk x.toList y.toList (#[y[0]]:Array Keyed).toList 0 1:=by
  have mm:MI rk x.toList y.toList [] 0 0:=⟨by simp,sx,sy⟩
  have:=mm.ofy 1 fun u hu t ht=>?_
  ·rw [<- lT y0] at this; exact this
  ·rw [<- lT y0,bg6] at hu
   subst hu
   exact hf t ht
 by_cases e1:(1 == y.size)=true
 ·rw [if_pos e1]
  have e1:1=y.size:=by simpa using e1
  exact bi7 (h _ st (Gq.refl st) (m0.done (.inr (by omega))))
 ·rw [if_neg e1]
  have e1:1 ≠ y.size:=by simpa using e1
  by_cases e2:(0+1 == x.size)=true
  ·rw [if_pos e2]
   exact bi7 (h _ st (Gq.refl st) (m0.last x0 hl (by simpa using e2)))
  ·rw [if_neg e2]
   have e2:0+1 ≠ x.size:=by simpa using e2
   refine bi1 (wpS_get ?_)
   unfold U4
   refine bi1 (bw5 (bp8
    (I:=fun n c st'=>Gq st st'/\∃ o i j mg,c=(none,o,i,j,mg)/\MI rk x.toList y.toList o.toList i j/\i+1 < x.size/\j < y.size/\n+1<=i+j)
    (Q:=fun c st'=>Gq st st'/\∃ r o i j mg,c=(some r,o,i,j,mg)/\eB rk x y r) ?_ ?_ ⟨Gq.refl st,_,0,1,_,rfl,m0,by omega,by omega,by omega⟩) ?_)
   ·rintro n c1 st1 _ hn ⟨q1,o,i,j,mg,rfl,m,hi,hj,pr⟩
    dsimp only
    refine bi1 (aH8 c hk ox oy sx sy x0 hl q1 m hi hj (fun r o' i' j' p q st' g md=>bi7 ⟨g,r,_,_,_,_,rfl,md⟩) fun o' i' j' p q st' g m' hi' hj' pr'=>?_)
    refine bi1 (wpS_lift (bx3 ⟨rfl,?_⟩))
    refine bi1 (bw5 (aH7 c hk ox oy sx sy x0 hl g m' hi' hj' pr') ?_)
    rintro c3 st3 ⟨q3,⟨r,o,i3,j3,mg,p,q,rfl,md⟩ | ⟨o,i3,j3,mg,p,q,rfl,m,hi,hj,pr3⟩⟩
    ·exact bi7 ⟨q3,r,_,_,_,_,rfl,md⟩
    ·exact bi1 (sG q3 fun st4 q4=>bi7 ⟨q4,o,i3,j3,_,rfl,m,hi,hj,by omega⟩)
   ·rintro c1 st1 ⟨q1,o,i,j,mg,rfl,m,hi,hj,pr⟩
    exact absurd pr (by omega)
   ·rintro c1 st1 ⟨q1,r,o,i,j,mg,rfl,md⟩
    exact bi7 (h r _ q1 md)
end
noncomputable def xF:Array Keyed->Array Keyed->StateT SortSt Sem (Array Keyed):=sortPriv% PySem.Builtin.mergeHi
noncomputable abbrev LH:=Option (Array Keyed) × Nat × Nat × Array Keyed × Nat × Nat × Nat
noncomputable abbrev xG:=Option (Array Keyed) × Nat × Nat × Array Keyed × Nat × Nat
noncomputable abbrev LP:=Option (Array Keyed) × Nat × Nat × Array Keyed × Nat
noncomputable def sH (x y o:Array Keyed) (i j mg p q:Nat):StateT SortSt Sem (ForInStep LH):=do
 let v <- elem' x (i - 1)
 if (i - 1 == 0)=true then pure (.done (some (x.extract 0 (i - 1) ++ y.extract 0 j ++ (o.push v).reverse),i - 1,j,o.push v,mg,p,q))
 else if (decide (p < 7) && decide (q < 7))=true then pure (.done (none,i - 1,j,o.push v,mg,p,q)) else pure (.yield (none,i - 1,j,o.push v,mg,p,q))
noncomputable def sI (x y o:Array Keyed) (i j mg p q:Nat):StateT SortSt Sem (ForInStep LH):=do
 let v <- elem' y (j - 1)
 if (j - 1 == 1)=true then pure (.done (some (y.extract 0 (j - 1) ++ x.extract 0 i ++ (o.push v).reverse),i,j - 1,o.push v,mg,p,q)) else do
  let u <- elem' x (i - 1)
  match <- kI true u y 0 (j - 1) (j - 1 - 1) with
  | some z=>
   if j - 1 - z > 0 then
    if (z == 1)=true then pure (.done (some (y.extract 0 z ++ x.extract 0 i ++ (o.push v ++ (y.extract z (j - 1)).reverse).reverse),i,z,o.push v ++ (y.extract z (j - 1)).reverse,mg,p,j - 1 - z))
    else if (z == 0)=true then pure (.done (some (x.extract 0 i ++ y.extract 0 z ++ (o.push v ++ (y.extract z (j - 1)).reverse).reverse),i,z,o.push v ++ (y.extract z (j - 1)).reverse,mg,p,j - 1 - z))
    else sH x y (o.push v ++ (y.extract z (j - 1)).reverse) i z mg p (j - 1 - z)
   else sH x y (o.push v) i (j - 1) mg p (j - 1 - z)
  | _=>pure (.done (some (x.extract 0 i ++ y.extract 0 (j - 1) ++ (o.push v).reverse),i,j - 1,o.push v,mg,p,q))
noncomputable def sJ (x y o:Array Keyed) (i j mg p q:Nat):StateT SortSt Sem (ForInStep LH):=do
 nD mg
 let v <- elem' y (j - 1)
 match <- kI false v x 0 i (i - 1) with
 | some z=>
  if i - z > 0 then
   if (z == 0)=true then pure (.done (some (x.extract 0 z ++ y.extract 0 j ++ (o ++ (x.extract z i).reverse).reverse),z,j,o ++ (x.extract z i).reverse,mg,i - z,q))
   else sI x y (o ++ (x.extract z i).reverse) z j mg (i - z) q
  else sI x y o i j mg (i - z) q
 | _=>pure (.done (some (x.extract 0 i ++ y.extract 0 j ++ o.reverse),i,j,o,mg,p,q))
noncomputable def xH (x y o:Array Keyed) (i j mg p q:Nat):StateT SortSt Sem LH:=forIn [0:x.size+y.size] ((none,i,j,o,mg,p,q):LH) fun _ r=>
 if r.2.2.2.2.1 > 1 then sJ x y r.2.2.2.1 r.2.1 r.2.2.1 (r.2.2.2.2.1 - 1) r.2.2.2.2.2.1 r.2.2.2.2.2.2 else sJ x y r.2.2.2.1 r.2.1 r.2.2.1 r.2.2.2.2.1 r.2.2.2.2.2.1 r.2.2.2.2.2.2
noncomputable def xI (x y o:Array Keyed) (i j mg:Nat):StateT SortSt Sem xG:=forIn [0:x.size+y.size] ((none,i,j,o,0,0):xG) fun _ r=>do
 let v <- elem' y (r.2.2.1 - 1)
 let u <- elem' x (r.2.1 - 1)
 match <- lt' v u with
 | some q=>
  if q=true then do
   let u <- elem' x (r.2.1 - 1)
   if (r.2.1 - 1 == 0)=true then pure (.done (some (x.extract 0 (r.2.1 - 1) ++ y.extract 0 r.2.2.1 ++ (r.2.2.2.1.push u).reverse),r.2.1 - 1,r.2.2.1,r.2.2.2.1.push u,r.2.2.2.2.1+1,0))
   else if r.2.2.2.2.1+1 >= mg then pure (.done (none,r.2.1 - 1,r.2.2.1,r.2.2.2.1.push u,r.2.2.2.2.1+1,0)) else pure (.yield (none,r.2.1 - 1,r.2.2.1,r.2.2.2.1.push u,r.2.2.2.2.1+1,0))
  else do
   let v <- elem' y (r.2.2.1 - 1)
   if (r.2.2.1 - 1 == 1)=true then pure (.done (some (y.extract 0 (r.2.2.1 - 1) ++ x.extract 0 r.2.1 ++ (r.2.2.2.1.push v).reverse),r.2.1,r.2.2.1 - 1,r.2.2.2.1.push v,0,r.2.2.2.2.2+1))
   else if r.2.2.2.2.2+1 >= mg then pure (.done (none,r.2.1,r.2.2.1 - 1,r.2.2.2.1.push v,0,r.2.2.2.2.2+1)) else pure (.yield (none,r.2.1,r.2.2.1 - 1,r.2.2.2.1.push v,0,r.2.2.2.2.2+1))
 | _=>pure (.done (some (x.extract 0 r.2.1 ++ y.extract 0 r.2.2.1 ++ r.2.2.2.1.reverse),r.2.1,r.2.2.1,r.2.2.2.1,r.2.2.2.2.1,r.2.2.2.2.2))
noncomputable def V0 (x y o:Array Keyed) (i j mg:Nat):StateT SortSt Sem LP:=forIn [0:x.size+y.size] ((none,i,j,o,mg):LP) fun _ r=>do
 let u <- xI x y r.2.2.2.1 r.2.1 r.2.2.1 r.2.2.2.2
 match u.1 with
 | some z=>pure (.done (some z,u.2.1,u.2.2.1,u.2.2.2.1,r.2.2.2.2))
 | none=>do
  liftM (rule "list.sort.gallop")
  let v <- xH x y u.2.2.2.1 u.2.1 u.2.2.1 (r.2.2.2.2+1) u.2.2.2.2.1 u.2.2.2.2.2
  match v.1 with
  | some z=>pure (.done (some z,v.2.1,v.2.2.1,v.2.2.2.1,v.2.2.2.2.1))
  | none=>do
   nD (v.2.2.2.2.1+1)
   pure (.yield (none,v.2.1,v.2.2.1,v.2.2.2.1,v.2.2.2.2.1+1))
theorem aI0 (x y:Array Keyed):xF x y=(do
 liftM (rule "list.sort.merge-hi")
 let v <- elem' x (x.size - 1)
 if (x.size - 1 == 0)=true then pure (x.extract 0 (x.size - 1) ++ y.extract 0 y.size ++ (#[v]:Array Keyed).reverse)
 else if (y.size == 1)=true then pure (y.extract 0 y.size ++ x.extract 0 (x.size - 1) ++ (#[v]:Array Keyed).reverse)
 else do
  let z <- get
  let r <- V0 x y #[v] (x.size - 1) y.size (gallopOf z)
  match r.1 with
  | some z=>pure z
  | none=>unsupported "internal:list.sort.merge-bound"):=by kernel_rfl
structure MH (rk:Keyed->Int) (xs ys o:List Keyed) (i j:Nat):Prop where
 pm:o.Perm (xs.drop i ++ ys.drop j)
 sx:Sd rk (xs.take i ++ o)
 sy:Sd rk (ys.take j ++ o)
variable {rk : Keyed → Int} {xs ys o : List Keyed} {i j : Nat}
theorem Sd.insR {o a b d:List Keyed} (h1:Sd rk (a ++ o)) (h2:Sd rk ((d ++ b) ++ o)) (h:∀ t ∈ a,∀ u ∈ b,rk t<=rk u):Sd rk (a ++ (b ++ o)):=by
 unfold Sd at *
 obtain ⟨p1,p2,p3⟩:=bm5.mp h1
 obtain ⟨q1,q2,q3⟩:=bm5.mp h2
 obtain ⟨r1,r2,r3⟩:=bm5.mp q1
 refine bm5.mpr ⟨p1,bm5.mpr ⟨r2,p2,fun u hu t ht=>q3 u (bi9 _ hu) t ht⟩,fun u hu t ht=>?_⟩
 rcases bh6.mp ht with z | z
 ·exact h u hu t z
 ·exact p3 u hu t z
theorem sK (l:List Keyed) {z j:Nat} (h:z<=j):l.take z ++ (l.take j).drop z=l.take j:=by
 have e:l.take z=(l.take j).take z:=by rw [List.take_take,Nat.min_eq_left h]
 rw [e]; exact bl3 z _
theorem xJ (l:List Keyed) {z j:Nat} (h:z<=j):(l.take j).drop z ++ l.drop j=l.drop z:=by
 rw [bx2,show l.drop j=(l.drop z).drop (j - z) by rw [List.drop_drop,Nat.add_sub_cancel' h]]
 exact bl3 _ _
theorem MH.ofy (m:MH rk xs ys o i j) {z:Nat} (hz:z<=j) (h:∀ t ∈ xs.take i,∀ u ∈ (ys.take j).drop z,rk t<=rk u):MH rk xs ys ((ys.take j).drop z ++ o) i z:=by
 refine⟨?_,Sd.insR m.sx (d:=ys.take z) (by rw [sK _ hz]; exact m.sy) h,by rw [<- bk5,sK _ hz]; exact m.sy⟩
 rw [<- xJ ys hz]
 refine (m.pm.append_left _).trans ?_
 rw [<- bk5,<- bk5]
 exact (List.perm_append_comm).append_right _
theorem MH.ofx (m:MH rk xs ys o i j) {z:Nat} (hz:z<=i) (h:∀ t ∈ ys.take j,∀ u ∈ (xs.take i).drop z,rk t<=rk u):MH rk xs ys ((xs.take i).drop z ++ o) z j:=by
 refine⟨?_,by rw [<- bk5,sK _ hz]; exact m.sx,Sd.insR m.sy (d:=xs.take z) (by rw [sK _ hz]; exact m.sx) h⟩
 rw [<- xJ xs hz,bk5]
 exact m.pm.append_left _
theorem MH.fin (m:MH rk xs ys o i j) (h:i=0 ∨ j=0):(xs.take i ++ ys.take j ++ o).Perm (xs ++ ys)/\Sd rk (xs.take i ++ ys.take j ++ o):=by
 refine⟨?_,?_⟩
 ·have e1:xs=xs.take i ++ xs.drop i:=(bl3 i xs).symm
  have e2:ys=ys.take j ++ ys.drop j:=(bl3 j ys).symm
  conv=>rhs; rw [e1,e2]
  rw [bk5,bk5]
  refine List.Perm.append_left _ ((m.pm.append_left _).trans ?_)
  rw [<- bk5,<- bk5]
  exact (List.perm_append_comm).append_right _
 ·rcases h with h | h
  ·subst h; simpa using m.sy
  ·subst h; simpa using m.sx
theorem MH.fst (m:MH rk xs ys o i j) (h:∀ t ∈ ys.take j,∀ u ∈ xs,rk t<=rk u):(ys.take j ++ xs.take i ++ o).Perm (xs ++ ys)/\Sd rk (ys.take j ++ xs.take i ++ o):=by
 have m2:=m.ofx (bk7 i) fun t ht u hu=>h t ht u (bu5 (List.mem_of_mem_drop hu))
 have f:=m2.fin (.inl rfl)
 simpa using f
theorem pK {x:Array Keyed}{i:Nat}{u:Keyed} (h:u ∈ x.toList.take i):∃ t,t < i/\t < x.size/\rk u=Kr rk x t:=by
 obtain ⟨t,ht,e⟩:=List.getElem_of_mem h
 have h1:t < i/\t < x.size:=by simp at ht; omega
 refine⟨t,h1.1,h1.2,?_⟩
 rw [cD h1.2,<- e]
 simp
theorem pL {x:Array Keyed}{z i:Nat}{u:Keyed} (h:u ∈ (x.toList.take i).drop z):∃ t,z<=t/\t < i/\t < x.size/\rk u=Kr rk x t:=by
 obtain ⟨t,ht,e⟩:=List.getElem_of_mem h
 have h1:z+t < i/\z+t < x.size:=by simp at ht; omega
 refine⟨z+t,by omega,h1.1,h1.2,?_⟩
 rw [cD h1.2,<- e]
 simp
theorem lU (x:Array Keyed) (z i:Nat):(x.extract z i).toList=(x.toList.take i).drop z:=by
 rw [bx2]; simp [List.extract]
theorem sL (x:Array Keyed) (i:Nat):(x.extract 0 i).toList=x.toList.take i:=by
 simp [List.extract]
theorem pM {x:Array Keyed}{i:Nat} (h:i < x.size) : [x[i]]=(x.toList.take (i+1)).drop i:=by
 rw [bx2,lT h,show i+1 - i=1 by omega]
section
variable {κ : SortKind} {st : SortSt} {prog : Program} {w : World} {A : Around} {E : Value → Shared → Prop} {s : Shared} {Ok : Keyed → Prop}
theorem MH.y1 {x y o:Array Keyed} (m:MH rk x.toList y.toList o.toList.reverse i (j+1)) (hj:j < y.size) (h:∀ t,t < i->t < x.size->Kr rk x t<=rk y[j]):MH rk x.toList y.toList (o.push y[j]).toList.reverse i j:=by
 have:=m.ofy (Nat.le_succ j) fun t ht u hu=>?_
 ·rw [<- pM hj] at this; simpa using this
 ·rw [<- pM hj,bg6] at hu
  subst hu
  obtain ⟨q,q1,q2,q3⟩:=pK (rk:=rk) ht
  rw [q3]; exact h q q1 q2
theorem MH.x1 {x y o:Array Keyed} (m:MH rk x.toList y.toList o.toList.reverse (i+1) j) (hi:i < x.size) (h:∀ t,t < j->t < y.size->Kr rk y t<=rk x[i]):MH rk x.toList y.toList (o.push x[i]).toList.reverse i j:=by
 have:=m.ofx (Nat.le_succ i) fun t ht u hu=>?_
 ·rw [<- pM hi] at this; simpa using this
 ·rw [<- pM hi,bg6] at hu
  subst hu
  obtain ⟨q,q1,q2,q3⟩:=pK (rk:=rk) ht
  rw [q3]; exact h q q1 q2
theorem MH.yk {x y o:Array Keyed} (m:MH rk x.toList y.toList o.toList.reverse i j) {z:Nat} (hz:z<=j) (h:∀ t p,t < i->t < x.size->z<=p->p < j->p < y.size->Kr rk x t<=Kr rk y p):MH rk x.toList y.toList (o ++ (y.extract z j).reverse).toList.reverse i z:=by
 have:=m.ofy hz fun t ht u hu=>?_
 ·rw [<- lU] at this; simpa using this
 ·obtain ⟨q,q1,q2,q3⟩:=pK (rk:=rk) ht
  obtain ⟨p,p1,p2,p3,p4⟩:=pL (rk:=rk) hu
  rw [q3,p4]; exact h q p q1 q2 p1 p2 p3
theorem MH.xk {x y o:Array Keyed} (m:MH rk x.toList y.toList o.toList.reverse i j) {z:Nat} (hz:z<=i) (h:∀ t p,t < j->t < y.size->z<=p->p < i->p < x.size->Kr rk y t<=Kr rk x p):MH rk x.toList y.toList (o ++ (x.extract z i).reverse).toList.reverse z j:=by
 have:=m.ofx hz fun t ht u hu=>?_
 ·rw [<- lU] at this; simpa using this
 ·obtain ⟨q,q1,q2,q3⟩:=pK (rk:=rk) ht
  obtain ⟨p,p1,p2,p3,p4⟩:=pL (rk:=rk) hu
  rw [q3,p4]; exact h q p q1 q2 p1 p2 p3
theorem MH.done {x y o:Array Keyed} (m:MH rk x.toList y.toList o.toList.reverse i j) (hh:i=0 ∨ j=0):eB rk x y (x.extract 0 i ++ y.extract 0 j ++ o.reverse):=by
 unfold eB
 rw [bn4,bn4,sL,sL,Array.toList_reverse]
 exact m.fin hh
theorem MH.frst {x y o:Array Keyed} (m:MH rk x.toList y.toList o.toList.reverse i j) (y0:0 < y.size) (hf:∀ t ∈ x.toList,rk y[0]<=rk t) (hh:j=1):eB rk x y (y.extract 0 j ++ x.extract 0 i ++ o.reverse):=by
 unfold eB
 rw [bn4,bn4,sL,sL,Array.toList_reverse]
 refine m.fst fun t ht u hu=>?_
 subst hh
 obtain ⟨q,q1,q2,q3⟩:=pK (rk:=rk) ht
 have e:q=0:=by omega
 subst e
 rw [q3,cD y0]
 exact hf u hu
structure HB (rk:Keyed->Int) (x y:Array Keyed) (lb i j:Nat) (o:Array Keyed):Prop where
 m:MH rk x.toList y.toList o.toList.reverse i j
 i0:0 < i
 i1:i < x.size
 j0:1 < j
 j1:j<=y.size
 pr:i+j+lb<=x.size+y.size
noncomputable def HI (rk:Keyed->Int) (x y:Array Keyed) (lb:Nat) (st:SortSt) (c:LH) (st':SortSt):Prop:=Gq st st'/\∃ i j o mg p q,c=(none,i,j,o,mg,p,q)/\HB rk x y lb i j o
noncomputable def HQ (rk:Keyed->Int) (x y:Array Keyed) (lb:Nat) (st:SortSt) (c:LH) (st':SortSt):Prop:=Gq st st'/\((∃ r i j o mg p q,c=(some r,i,j,o,mg,p,q)/\eB rk x y r) ∨ ∃ i j o mg p q,c=(none,i,j,o,mg,p,q)/\HB rk x y lb i j o)
noncomputable def HR (rk:Keyed->Int) (x y:Array Keyed) (lb:Nat) (st:SortSt) (r:ForInStep LH) (st':SortSt):Prop:=match r with | .done c=>HQ rk x y lb st c st' | .yield c=>HI rk x y lb st c st'
theorem V1 {st0:SortSt}{x y o:Array Keyed}{i j mg p q lb:Nat} (g:Gq st0 st) (b:HB rk x y lb (i+1) j o) (hm:∀ (hi:i < x.size) t,t < j->t < y.size->Kr rk y t<=rk x[i]):wpS (model prog w) A E s (sH x y o (i+1) j mg p q) (HR rk x y lb st0) st:=by
 unfold sH
 obtain ⟨m,i0,i1,j0,j1,pr⟩:=b
 have hi':i < x.size:=by omega
 have m':=m.x1 hi' (hm hi')
 simp only [Nat.add_sub_cancel]
 refine bi1 (dG hi' ?_)
 by_cases he:(i == 0)=true
 ·rw [if_pos he]
  have he:i=0:=by simpa using he
  exact bi7 ⟨g,.inl ⟨_,_,_,_,_,_,_,rfl,m'.done (.inl he)⟩⟩
 ·rw [if_neg he]
  have he:i ≠ 0:=by simpa using he
  split
  ·exact bi7 ⟨g,.inr ⟨_,_,_,_,_,_,rfl,m',by omega,by omega,j0,j1,by omega⟩⟩
  ·exact bi7 ⟨g,_,_,_,_,_,_,rfl,m',by omega,by omega,j0,j1,by omega⟩
theorem V2 (c:cL prog w A E s κ Ok rk) {st0:SortSt} (hk:kindOf st0=κ) {x y o:Array Keyed}{i j mg p q lb:Nat} (ox:bO Ok x) (oy:bO Ok y) (sx:Sd rk x.toList) (sy:Sd rk y.toList) (y0:0 < y.size) (hf:∀ t ∈ x.toList,rk y[0]<=rk t) (g:Gq st0 st) (b:HB rk x y lb (i+1) (j+1) o)
  (hm:∀ (hj:j < y.size) t,t < i+1->t < x.size->Kr rk x t<=rk y[j]):wpS (model prog w) A E s (sI x y o (i+1) (j+1) mg p q) (HR rk x y lb st0) st:=by
 unfold sI
 obtain ⟨m,i0,i1,j0,j1,pr⟩:=b
 have hi':i < x.size:=by omega
 have hj:j < y.size:=by omega
 have m':=m.y1 hj (hm hj)
 simp only [Nat.add_sub_cancel]
 refine bi1 (dG hj ?_)
 by_cases he:(j == 1)=true
 ·rw [if_pos he]
  have he:j=1:=by simpa using he
  exact bi7 ⟨g,.inl ⟨_,_,_,_,_,_,_,rfl,m'.frst y0 hf he⟩⟩
 ·rw [if_neg he]
  have he:j ≠ 1:=by simpa using he
  refine bi1 (dG hi' (bi1 (nC c (g.kd.trans hk) (ox _ (bl8 hi')) oy (by omega) (by omega) (sy.up _ _ (by omega)) fun z k1 k2 k3=>?_)))
  dsimp only
  have ux:=sx.up 0 _ (bh0 x.size)
  have mk:=m'.yk k1 fun t p ht ht' hp hp' _=>by
   have a1:=k3 p hp hp'
   rw [nF,bl9,Nat.zero_add] at a1
   have a2:=ux t i (by omega) (by omega) hi'
   rw [cD (i:=i) hi'] at a2
   omega
  have km:∀ (hi:i < x.size) t,t < z->t < y.size->Kr rk y t<=rk x[i]:=fun _ t ht _=>by
   have a1:=k2 t ht
   rw [nF,bk9,Nat.zero_add] at a1
   omega
  by_cases hk0:j - z > 0
  ·rw [if_pos hk0]
   by_cases h1:(z == 1)=true
   ·rw [if_pos h1]
    have h1:z=1:=by simpa using h1
    exact bi7 ⟨g,.inl ⟨_,_,_,_,_,_,_,rfl,mk.frst y0 hf h1⟩⟩
   ·rw [if_neg h1]
    have h1:z ≠ 1:=by simpa using h1
    by_cases h0:(z == 0)=true
    ·rw [if_pos h0]
     have h0:z=0:=by simpa using h0
     exact bi7 ⟨g,.inl ⟨_,_,_,_,_,_,_,rfl,mk.done (.inr h0)⟩⟩
    ·rw [if_neg h0]
     have h0:z ≠ 0:=by simpa using h0
     exact V1 g ⟨mk,by omega,i1,by omega,by omega,by omega⟩ km
  ·rw [if_neg hk0]
   have e0:z=j:=by omega
   subst e0
   exact V1 g ⟨m',by omega,i1,by omega,by omega,by omega⟩ km
theorem V3 (c:cL prog w A E s κ Ok rk) {st0:SortSt} (hk:kindOf st0=κ) {x y o:Array Keyed}{i j mg p q lb:Nat} (ox:bO Ok x) (oy:bO Ok y) (sx:Sd rk x.toList) (sy:Sd rk y.toList) (y0:0 < y.size) (hf:∀ t ∈ x.toList,rk y[0]<=rk t) (g:Gq st0 st) (b:HB rk x y lb i (j+1) o) :
  wpS (model prog w) A E s (sJ x y o i (j+1) mg p q) (HR rk x y lb st0) st:=by
 unfold sJ
 obtain ⟨m,i0,i1,j0,j1,pr⟩:=b
 have hj:j < y.size:=by omega
 simp only [Nat.add_sub_cancel]
 refine bi1 (sG g fun st4 q4=>bi1 (dG hj (bi1 (nC c (q4.kd.trans hk) (oy _ (bl8 hj)) ox (by omega) (by omega) (sx.up _ _ (by omega)) fun z k1 k2 k3=>?_))))
 dsimp only
 have uy:=sy.up 0 _ (bh0 y.size)
 have mk:=m.xk k1 fun t p ht ht' hp hp' _=>by
  have a1:=k3 p hp hp'
  rw [nE,bl9,Nat.zero_add] at a1
  have a2:=uy t j (by omega) (by omega) hj
  rw [cD (i:=j) hj] at a2
  omega
 have km:∀ (hj:j < y.size) t,t < z->t < x.size->Kr rk x t<=rk y[j]:=fun _ t ht _=>by
  have a1:=k2 t ht
  rw [nE,bk9,Nat.zero_add] at a1
  exact a1
 by_cases hk0:i - z > 0
 ·rw [if_pos hk0]
  by_cases he:(z == 0)=true
  ·rw [if_pos he]
   exact bi7 ⟨q4,.inl ⟨_,_,_,_,_,_,_,rfl,mk.done (.inl (by simpa using he))⟩⟩
  ·rw [if_neg he]
   have he:z ≠ 0:=by simpa using he
   obtain ⟨z2,rfl⟩:∃ z2,z=z2+1:=⟨z - 1,by omega⟩
   exact V2 c hk ox oy sx sy y0 hf q4 ⟨mk,by omega,by omega,j0,j1,by omega⟩ km
 ·rw [if_neg hk0]
  have e0:z=i:=by omega
  subst e0
  obtain ⟨z2,rfl⟩:∃ z2,z=z2+1:=⟨z - 1,by omega⟩
  exact V2 c hk ox oy sx sy y0 hf q4 ⟨m,i0,i1,j0,j1,pr⟩ km
theorem aI1 (c:cL prog w A E s κ Ok rk) {st0:SortSt} (hk:kindOf st0=κ) {x y o:Array Keyed}{i j mg p q lb:Nat} (ox:bO Ok x) (oy:bO Ok y) (sx:Sd rk x.toList) (sy:Sd rk y.toList) (y0:0 < y.size) (hf:∀ t ∈ x.toList,rk y[0]<=rk t) (g:Gq st0 st) (b:HB rk x y lb i j o) :
  wpS (model prog w) A E s (xH x y o i j mg p q) (HQ rk x y lb st0) st:=by
 unfold xH
 refine bp8 (I:=fun _=>HI rk x y lb st0) ?_ ?_ ⟨g,i,j,o,_,p,q,rfl,b⟩
 ·rintro t c3 st3 _ _ ⟨q3,i,j,o,mg,p,q,rfl,b3⟩
  obtain ⟨j3,rfl⟩:∃ j3,j=j3+1:=⟨j - 1,by have:=b3.j0; omega⟩
  dsimp only
  split
  ·exact bw5 (V3 c hk ox oy sx sy y0 hf q3 b3) fun r _ hr=>by cases r <;> exact hr
  ·exact bw5 (V3 c hk ox oy sx sy y0 hf q3 b3) fun r _ hr=>by cases r <;> exact hr
 ·rintro c3 st3 ⟨q3,i,j,o,mg,p,q,rfl,b3⟩
  exact⟨q3,.inr ⟨_,_,_,_,_,_,rfl,b3⟩⟩
theorem aI2 (c:cL prog w A E s κ Ok rk) {st0:SortSt} (hk:kindOf st0=κ) {x y o:Array Keyed}{i j mg n:Nat}{Q:xG->SortSt->Prop} (ox:bO Ok x) (oy:bO Ok y) (sx:Sd rk x.toList) (sy:Sd rk y.toList) (y0:0 < y.size) (hf:∀ t ∈ x.toList,rk y[0]<=rk t) (g:Gq st0 st) (b:HB rk x y n i j o)
  (h1:∀ r i' j' o' p q st',Gq st0 st'->eB rk x y r->Q (some r,i',j',o',p,q) st') (h2:∀ i' j' o' p q st',Gq st0 st'->HB rk x y (n+1) i' j' o'->Q (none,i',j',o',p,q) st') :
  wpS (model prog w) A E s (xI x y o i j mg) Q st:=by
 have ux:Up rk x 0 x.size:=sx.up 0 _ (bh0 _)
 have uy:Up rk y 0 y.size:=sy.up 0 _ (bh0 _)
 unfold xI
 refine bp8 (I:=fun t c st'=>Gq st0 st'/\∃ i j o p q,c=(none,i,j,o,p,q)/\HB rk x y (n+t) i j o) ?_ ?_ ⟨g,i,j,o,0,0,rfl,b⟩
 ·rintro t c2 st2 _ ht ⟨q2,i',j',o,p,q,rfl,m,i0,i1,j0,j1,pr⟩
  obtain ⟨i2,rfl⟩:∃ i2,i'=i2+1:=⟨i' - 1,by omega⟩
  obtain ⟨j2,rfl⟩:∃ j2,j'=j2+1:=⟨j' - 1,by omega⟩
  simp only [Nat.add_sub_cancel]
  have hi:i2 < x.size:=by omega
  have hj:j2 < y.size:=by omega
  refine bi1 (dG hj (bi1 (dG hi (bi1 (c _ _ (oy _ (bl8 hj)) (ox _ (bl8 hi)) st2 _ (q2.kd.trans hk) ?_)))))
  by_cases hc:rk y[j2] < rk x[i2]
  ·rw [bg8 hc]
   dsimp only
   rw [if_pos rfl]
   have m':=m.x1 hi fun t ht _=>by
    have:=uy t j2 (by omega) (by omega) hj
    rw [cD hj] at this
    omega
   refine bi1 (dG hi ?_)
   by_cases he:(i2 == 0)=true
   ·rw [if_pos he]
    exact bi7 (h1 _ _ _ _ _ _ _ q2 (m'.done (.inl (by simpa using he))))
   ·rw [if_neg he]
    have he:i2 ≠ 0:=by simpa using he
    split
    ·exact bi7 (h2 _ _ _ _ _ _ q2 ⟨m',by omega,by omega,j0,j1,by omega⟩)
    ·exact bi7 ⟨q2,_,_,_,_,_,rfl,m',by omega,by omega,j0,j1,by omega⟩
  ·rw [bh5 hc]
   dsimp only
   rw [if_neg bi3]
   have m':=m.y1 hj fun t ht _=>by
    have:=ux t i2 (by omega) (by omega) hi
    rw [cD hi] at this
    omega
   refine bi1 (dG hj ?_)
   by_cases he:(j2 == 1)=true
   ·rw [if_pos he]
    exact bi7 (h1 _ _ _ _ _ _ _ q2 (m'.frst y0 hf (by simpa using he)))
   ·rw [if_neg he]
    have he:j2 ≠ 1:=by simpa using he
    split
    ·exact bi7 (h2 _ _ _ _ _ _ q2 ⟨m',i0,i1,by omega,by omega,by omega⟩)
    ·exact bi7 ⟨q2,_,_,_,_,_,rfl,m',i0,i1,by omega,by omega,by omega⟩
 ·rintro c2 st2 ⟨q2,i',j',o,p,q,rfl,m,i0,i1,j0,j1,pr⟩
  exact h2 _ _ _ _ _ _ q2 ⟨m,i0,i1,j0,j1,by omega⟩
theorem aI3 (c:cL prog w A E s κ Ok rk) (hk:kindOf st=κ) {x y:Array Keyed}{Q:Array Keyed->SortSt->Prop} (ox:bO Ok x) (oy:bO Ok y) (sx:Sd rk x.toList) (sy:Sd rk y.toList) (x0:0 < x.size) (y0:0 < y.size)
  (hf:∀ t ∈ x.toList,rk y[0]<=rk t) (hl:∀ u ∈ y.toList,rk u<=rk x[x.size - 1])
  (h:∀ r st',Gq st st'->eB rk x y r->Q r st'):wpS (model prog w) A E s (xF x y) Q st:=by
 rw [aI0]
 refine bi1 (wpS_lift (bx3 ⟨rfl,bi1 (dG (by omega:x.size - 1 < x.size) ?_)⟩))
 have m0:MH rk x.toList y.toList (#[x[x.size - 1]]:Array Keyed).toList.reverse (x.size - 1) y.size:=by
  have mm:MH rk x.toList y.toList [] x.size y.size:=⟨by simp,by rw [bl5 (by simp),bm6]; exact sx,by rw [bl5 (by simp),bm6]; exact sy⟩
  have e:=pM (x:=x) (i:=x.size - 1) (by omega)
  rw [show x.size - 1+1=x.size by omega] at e
  have:=mm.ofx (Nat.sub_le x.size 1) fun t ht u hu=>?_
  ·rw [<- e] at this; simpa using this
  ·rw [<- e,bg6] at hu
   subst hu
   exact hl t (bu5 ht)
 by_cases e1:(x.size - 1 == 0)=true
 ·rw [if_pos e1]
  exact bi7 (h _ st (Gq.refl st) (m0.done (.inl (by simpa using e1))))
 ·rw [if_neg e1]
  have e1:x.size - 1 ≠ 0:=by simpa using e1
  by_cases e2:(y.size == 1)=true
  ·rw [if_pos e2]
   exact bi7 (h _ st (Gq.refl st) (m0.frst y0 hf (by simpa using e2)))
  ·rw [if_neg e2]
   have e2:y.size ≠ 1:=by simpa using e2
   refine bi1 (wpS_get ?_)
   unfold V0
   refine bi1 (bw5 (bp8
    (I:=fun n c st'=>Gq st st'/\∃ i j o mg,c=(none,i,j,o,mg)/\HB rk x y (n+1) i j o)
    (Q:=fun c st'=>Gq st st'/\∃ r i j o mg,c=(some r,i,j,o,mg)/\eB rk x y r) ?_ ?_ ⟨Gq.refl st,_,_,_,_,rfl,m0,by omega,by omega,by omega,by omega,by omega⟩) ?_)
   ·rintro n c1 st1 _ hn ⟨q1,i,j,o,mg,rfl,b⟩
    dsimp only
    refine bi1 (aI2 c hk ox oy sx sy y0 hf q1 b (fun r o' i' j' p q st' g md=>bi7 ⟨g,r,_,_,_,_,rfl,md⟩) fun i' j' o' p q st' g b'=>?_)
    refine bi1 (wpS_lift (bx3 ⟨rfl,?_⟩))
    refine bi1 (bw5 (aI1 c hk ox oy sx sy y0 hf g b') ?_)
    rintro c3 st3 ⟨q3,⟨r,i3,j3,o,mg,p,q,rfl,md⟩ | ⟨i3,j3,o,mg,p,q,rfl,b3⟩⟩
    ·exact bi7 ⟨q3,r,_,_,_,_,rfl,md⟩
    ·exact bi1 (sG q3 fun st4 q4=>bi7 ⟨q4,i3,j3,o,_,rfl,b3⟩)
   ·rintro c1 st1 ⟨q1,i,j,o,mg,rfl,b⟩
    have:=b.pr
    exact absurd this (by omega)
   ·rintro c1 st1 ⟨q1,r,i,j,o,mg,rfl,md⟩
    exact bi7 (h r _ q1 md)
end
theorem aI4 (i:Nat):mergeAt' i=(do
 let z <- get
 let (some (sa,na,pw),some (sb,nb,_)):=((pendingOf z)[i]?,(pendingOf z)[i+1]?) | unsupported "internal:list.sort.pending"
 set (SortSt.mk' (kindOf z) (arrOf z) (((pendingOf z).setIfInBounds i (sa,na+nb,pw)).eraseIdxIfInBounds (i+1)) (gallopOf z) (failedOf z))
 let some k <- kI false (<- elem' (arrOf z) sb) (arrOf z) sa na 0 | return false
 let (sa,na):=(sa+k,na - k)
 if na == 0 then return true
 let some nb <- kI true (<- elem' (arrOf z) (sa+na - 1)) (arrOf z) sb nb (nb - 1) | return false
 if nb == 0 then return true
 let x:=(arrOf z).extract sa sb
 let y:=(arrOf z).extract sb (sb+nb)
 let m <- if na<=nb then xB x y else xF x y
 modify fun z=>setArr z (m.toList.zipIdx.foldl (fun a (p,j)=>a.setIfInBounds (sa+j) p) (arrOf z))
 return (failedOf (<- get)).isNone):=rfl
variable {rk : Keyed → Int}
theorem aI5 {σ:Type}{M:Model}{A:Around}{E:Value->Shared->Prop}{s:Shared}{a b:σ}{Q:PUnit->σ->Prop} (h:Q ⟨⟩ a):wpS M A E s (set a:StateT σ Sem PUnit) Q b:=by
 unfold wpS; rw [StateT.run_set]; exact bh4 ⟨rfl,h⟩
theorem V4 (o:Nat):∀ (m:List Keyed) (n:Nat) (a:Array Keyed) (t:Nat),o+n+m.length<=a.size->
  ((m.zipIdx n).foldl (fun a (p,j)=>a.setIfInBounds (o+j) p) a)[t]? = if o+n<=t/\t < o+n+m.length then m[t - (o+n)]? else a[t]?
 | [],n,a,t,_=>by
  show a[t]? = _
  rw [if_neg (fun z=>Nat.not_lt_of_ge z.1 z.2)]
 | p :: m,n,a,t,h=>by
  rw [List.zipIdx_cons,List.foldl_cons]
  have h':o+(n+1)+m.length<=(a.setIfInBounds (o+n) p).size:=by rw [Array.size_setIfInBounds]; simp at h; omega
  have ih:=V4 o m (n+1) (a.setIfInBounds (o+n) p) t h'
  refine ih.trans ?_
  have hs:o+n < a.size:=by simp at h; omega
  rw [Array.getElem?_setIfInBounds]
  by_cases e:o+n=t
  ·subst e
   rw [if_neg (by omega),if_pos rfl,if_pos hs,if_pos (by simp),Nat.sub_self]; rfl
  ·rw [if_neg e]
   by_cases c:o+n<=t/\t < o+n+(p :: m).length
   ·rw [if_pos c,if_pos (by simp at c; omega)]
    rw [show t - (o+n)=(t - (o+(n+1)))+1 by omega]; rfl
   ·rw [if_neg c,if_neg (by simp at c ⊢; omega)]
theorem V5 {a:Array Keyed}{lo hi:Nat} (u:Up rk a lo hi) (hh:hi<=a.size):Sd rk (a.extract lo hi).toList:=by
 unfold Sd
 rw [bn5]
 intro i j hi' hj hij
 have h2:lo+j < hi:=by simp at hj; omega
 have:=u (lo+i) (lo+j) (by omega) (by omega) h2
 rw [cD (by omega:lo+i < a.size),cD (by omega:lo+j < a.size)] at this
 simpa using this
theorem V6 {a:Array Keyed}{lo mid hi:Nat} (u:Up rk a lo mid) (v:Up rk a mid hi) (h0:lo < mid) (h1:mid < hi) (h:Kr rk a (mid - 1)<=Kr rk a mid):Up rk a lo hi:=fun i j hi' hij hj=>by
 rcases bm3 j mid with z | z
 ·exact u i j hi' hij z
 ·rcases bm3 i mid with y | y
  ·have a1:=u i (mid - 1) hi' (by omega) (by omega)
   have a2:=v mid j (bh0 _) z hj
   omega
  ·exact v i j y hij hj
theorem V7 {a:Array Keyed}{lo hi t:Nat} (h:t < hi - lo) (hh:hi<=a.size):Kr rk (a.extract lo hi) t=Kr rk a (lo+t):=by
 refine lR ?_
 rw [Array.getElem?_extract_of_lt (by omega)]
 exact (getElem?_pos a (lo+t) (by omega)).symm
section
variable {κ : SortKind} {a0 : Array Keyed} {pd : Array (Nat × Nat × Nat)} {st : SortSt} {prog : Program} {w : World} {A : Around} {E : Value → Shared → Prop} {s : Shared} {Ok : Keyed → Prop}
theorem aI6 {a m:Array Keyed}{p x e:Nat} (hpx:p<=x) (hxe:x<=e) (he:e<=a.size) (md:eB rk (a.extract p x) (a.extract x e) m) :
  let r:=m.toList.zipIdx.foldl (fun a (q,j)=>a.setIfInBounds (p+j) q) a
  r.Perm a/\(∀ t,(t < p ∨ e<=t)->Kr rk r t=Kr rk a t)/\(∀ t t',p<=t->t<=t'->t' < e->Kr rk r t<=Kr rk r t')/\∀ t,p<=t->t < e->∃ t',p<=t'/\t' < e/\Kr rk r t=Kr rk a t':=by
 intro r
 have ml:m.toList.length=e - p:=by
  rw [md.1.length_eq]; simp; omega
 have g:∀ t,r[t]? = if p<=t/\t < e then m[t - p]? else a[t]?:=fun t=>by
  have:=V4 p m.toList 0 a t (by omega)
  rw [show r=(m.toList.zipIdx 0).foldl (fun a (q,j)=>a.setIfInBounds (p+j) q) a from rfl,this]
  simp only [Nat.add_zero,ml,show p+(e - p)=e by omega,br9]
 have ex:(a.extract p x).toList ++ (a.extract x e).toList=(a.toList.take e).drop p:=by
  rw [lU,lU,bx2,bx2,bx2]
  rw [show x=p+(x - p) by omega,<- List.drop_drop,show p+(x - p) - p=x - p by omega,show e - (p+(x - p))=(e - p) - (x - p) by omega]
  have:=bl3 (x - p) ((a.toList.drop p).take (e - p))
  rw [List.take_take,bx2,Nat.min_eq_left (by omega)] at this
  exact this
 have rl:r.toList=a.toList.take p ++ (m.toList ++ a.toList.drop e):=by
  apply List.ext_getElem?
  intro t
  rw [br9,g]
  rcases bm3 t p with z | z
  ·rw [if_neg (by omega),bj7 (by simp; omega),List.getElem?_take_of_lt z,br9]
  ·rw [bo9 (by simp; omega)]
   have lp:(a.toList.take p).length=p:=by simp; omega
   rw [lp]
   rcases bm3 t e with y | y
   ·rw [if_pos ⟨z,y⟩,bj7 (by omega),br9]
   ·rw [if_neg (by omega),bo9 (by omega),ml,List.getElem?_drop,br9]
    congr 1; omega
 have mp:m.toList.Perm ((a.toList.take e).drop p):=ex ▸ md.1
 refine⟨?_,fun t ht=>lR (by rw [g,if_neg (by omega)]),fun t t' h1 h2 h3=>?_,fun t h1 h2=>?_⟩
 ·refine Array.perm_iff_toList_perm.mpr ?_
  rw [rl]
  have:a.toList=a.toList.take p ++ ((a.toList.take e).drop p ++ a.toList.drop e):=by
   rw [xJ _ (by omega:p<=e)]; exact (bl3 p _).symm
  conv=>rhs; rw [this]
  exact (mp.append_right _).append_left _
 ·have e1:Kr rk r t=Kr rk m (t - p):=lR (by rw [g,if_pos (by omega)])
  have e2:Kr rk r t'=Kr rk m (t' - p):=lR (by rw [g,if_pos (by omega)])
  rw [e1,e2]
  have ms:m.size=e - p:=by rw [<- ml]; simp
  exact md.2.up 0 m.size (bh0 _) (t - p) (t' - p) (by omega) (by omega) (by omega)
 ·have e1:Kr rk r t=Kr rk m (t - p):=lR (by rw [g,if_pos (by omega)])
  have ms:m.size=e - p:=by rw [<- ml]; simp
  have hm:t - p < m.size:=by omega
  have mm:m[t - p] ∈ (a.toList.take e).drop p:=mp.mem_iff.mp (by simp)
  obtain ⟨t',q1,q2,q3,q4⟩:=pL (rk:=rk) mm
  exact⟨t',q1,q2,by rw [e1,cD hm]; exact q4⟩
theorem aI7 (c:cL prog w A E s κ Ok rk) (o:bO Ok a0) (b:SB κ a0 pd st) {i sa na pw sb nb pw':Nat}{Q:Bool->SortSt->Prop} (e1:pd[i]? = some (sa,na,pw)) (e2:pd[i+1]? = some (sb,nb,pw')) (hs:sb=sa+na) (n0:0 < na) (m0:0 < nb) (hz:sb+nb<=a0.size)
  (u:Up rk (arrOf st) sa sb) (v:Up rk (arrOf st) sb (sb+nb))
  (h:∀ st',SB κ a0 ((pd.setIfInBounds i (sa,na+nb,pw)).eraseIdxIfInBounds (i+1)) st'->Up rk (arrOf st') sa (sb+nb)->(∀ t,(t < sa ∨ sb+nb<=t)->Kr rk (arrOf st') t=Kr rk (arrOf st) t)->Q true st'):wpS (model prog w) A E s (mergeAt' i) Q st:=by
 have sz:=b.sz
 rw [aI4]
 refine bi1 (wpS_get ?_)
 rw [b.pd,e1,e2]
 dsimp only
 refine bi1 (aI5 ?_)
 generalize hst:SortSt.mk' (kindOf st) (arrOf st) ((pd.setIfInBounds i (sa,na+nb,pw)).eraseIdxIfInBounds (i+1)) (gallopOf st) (failedOf st)=st1
 have b1:SB κ a0 ((pd.setIfInBounds i (sa,na+nb,pw)).eraseIdxIfInBounds (i+1)) st1:=by rw [<- hst]; exact⟨b.pm,b.kd,b.ok,rfl⟩
 have ar:arrOf st1=arrOf st:=by rw [<- hst]
 have oa:=b.all o
 have hsb:sb < (arrOf st).size:=by omega
 refine bi1 (dG hsb (bi1 (nC c b1.kd (oa _ (bl8 hsb)) oa n0 (by omega) (hs ▸ u) fun k k1 k2 k3=>?_)))
 dsimp only
 have k2':∀ t,sa<=t->t < sa+k->Kr rk (arrOf st) t<=Kr rk (arrOf st) sb:=fun t t1 t2=>by
  have:=k2 (t - sa) (by omega)
  rw [nE,bk9,show sa+(t - sa)=t by omega] at this
  rw [cD hsb]; exact this
 have k3':∀ t,sa+k<=t->t < sb->Kr rk (arrOf st) sb < Kr rk (arrOf st) t:=fun t t1 t2=>by
  have:=k3 (t - sa) (by omega) (by omega)
  rw [nE,bl9,show sa+(t - sa)=t by omega] at this
  rw [cD hsb]; omega
 by_cases ek:(na - k == 0)=true
 ·rw [if_pos ek]
  have ek:na - k=0:=by simpa using ek
  refine bi7 (h st1 b1 ?_ fun t _=>by rw [ar])
  rw [ar]
  exact V6 u v (by omega) (by omega) (k2' (sb - 1) (by omega) (by omega))
 ·rw [if_neg ek]
  have ek:na - k ≠ 0:=by simpa using ek
  have el:sa+k+(na - k) - 1=sb - 1:=by omega
  rw [el]
  have hsl:sb - 1 < (arrOf st).size:=by omega
  refine bi1 (dG hsl (bi1 (nC c b1.kd (oa _ (bl8 hsl)) oa (by omega) (by omega) v fun l l1 l2 l3=>?_)))
  dsimp only
  have l2':∀ t,sb<=t->t < sb+l->Kr rk (arrOf st) t < Kr rk (arrOf st) (sb - 1):=fun t t1 t2=>by
   have:=l2 (t - sb) (by omega)
   rw [nF,bk9,show sb+(t - sb)=t by omega] at this
   rw [cD hsl]; exact this
  have l3':∀ t,sb+l<=t->t < sb+nb->Kr rk (arrOf st) (sb - 1)<=Kr rk (arrOf st) t:=fun t t1 t2=>by
   have:=l3 (t - sb) (by omega) (by omega)
   rw [nF,bl9,show sb+(t - sb)=t by omega] at this
   rw [cD hsl]; omega
  by_cases en:(l == 0)=true
  ·rw [if_pos en]
   have en:l=0:=by simpa using en
   subst en
   refine bi7 (h st1 b1 ?_ fun t _=>by rw [ar])
   rw [ar]
   exact V6 u v (by omega) (by omega) (l3' sb (by omega) (by omega))
  ·rw [if_neg en]
   have en:l ≠ 0:=by simpa using en
   have sub:∀ p e,bO Ok ((arrOf st).extract p e):=fun p e z hz=>oa z (by
    have:z ∈ ((arrOf st).extract p e).toList:=Array.mem_toList_iff.mpr hz
    rw [lU] at this
    exact Array.mem_toList_iff.mp (bu5 (List.mem_of_mem_drop this)))
   have sx:Sd rk ((arrOf st).extract (sa+k) sb).toList:=V5 (fun i j h1 h2 h3=>u i j (by omega) h2 h3) (by omega)
   have sy:Sd rk ((arrOf st).extract sb (sb+l)).toList:=V5 (fun i j h1 h2 h3=>v i j h1 h2 (by omega)) (by omega)
   have x0:0 < ((arrOf st).extract (sa+k) sb).size:=by simp; omega
   have y0:0 < ((arrOf st).extract sb (sb+l)).size:=by simp; omega
   have hf:∀ t ∈ ((arrOf st).extract (sa+k) sb).toList,rk ((arrOf st).extract sb (sb+l))[0]<=rk t:=fun t ht=>by
    rw [lU] at ht
    obtain ⟨t',q1,q2,q3,q4⟩:=pL (rk:=rk) ht
    rw [q4,<- cD (rk:=rk) y0,V7 (by omega) (by omega)]
    exact bw4 (k3' t' q1 q2)
   have hl:∀ t ∈ ((arrOf st).extract sb (sb+l)).toList,rk t<=rk ((arrOf st).extract (sa+k) sb)[((arrOf st).extract (sa+k) sb).size - 1]:=fun t ht=>by
    rw [lU] at ht
    obtain ⟨t',q1,q2,q3,q4⟩:=pL (rk:=rk) ht
    have e:((arrOf st).extract (sa+k) sb).size=sb - (sa+k):=by simp; omega
    rw [q4,<- cD (rk:=rk) (by omega),V7 (by omega) (by omega),e,show sa+k+(sb - (sa+k) - 1)=sb - 1 by omega]
    exact bw4 (l2' t' q1 q2)
   have fin:∀ (m:Array Keyed) (st2:SortSt),Gq st1 st2->eB rk ((arrOf st).extract (sa+k) sb) ((arrOf st).extract sb (sb+l)) m->
     wpS (model prog w) A E s (do modify (fun z=>setArr z (m.toList.zipIdx.foldl (fun a (p,j)=>a.setIfInBounds (sa+k+j) p) (arrOf z))); return (failedOf (<- get)).isNone) Q st2:=fun m st2 g md=>by
    have b2:SB κ a0 ((pd.setIfInBounds i (sa,na+nb,pw)).eraseIdxIfInBounds (i+1)) st2:=⟨by rw [g.ar]; exact b1.pm,g.kd.trans b1.kd,g.ok.trans b1.ok,g.pd.trans b1.pd⟩
    have a2:arrOf st2=arrOf st:=g.ar.trans ar
    obtain ⟨r1,r2,r3,r4⟩:=aI6 (by omega) (by omega) (by omega) md
    generalize hr:m.toList.zipIdx.foldl (fun a (q,j)=>a.setIfInBounds (sa+k+j) q) (arrOf st)=r at r1 r2 r3 r4
    refine bi1 (wpS_modify (bi1 (wpS_get (bi7 ?_))))
    have b3:=b2.put (xs:=m.toList.zipIdx.foldl (fun a (q,j)=>a.setIfInBounds (sa+k+j) q) (arrOf st2)) (by rw [a2,hr]; exact r1)
    have er:arrOf (setArr st2 (m.toList.zipIdx.foldl (fun a (q,j)=>a.setIfInBounds (sa+k+j) q) (arrOf st2)))=r:=by rw [<- hr,a2]
    have tr:(failedOf (setArr st2 (m.toList.zipIdx.foldl (fun a (q,j)=>a.setIfInBounds (sa+k+j) q) (arrOf st2)))).isNone=true:=by rw [b3.ok]; rfl
    rw [tr]
    refine h _ b3 (fun i j hi hij hj=>?_) fun t ht=>?_
    ·rw [er]
     have bl:∀ t,sa<=t->t < sa+k->∀ t',sa+k<=t'->t' < sb+l->Kr rk (arrOf st) t<=Kr rk (arrOf st) t':=fun t t1 t2 t' t3 t4=>by
      rcases bm3 t' sb with z | z
      ·exact u t t' t1 (by omega) z
      ·have a1:=k2' t t1 t2
       have a2:=v sb t' (bh0 _) z (by omega)
       omega
     have br:∀ t,sb+l<=t->t < sb+nb->∀ t',sa+k<=t'->t' < sb+l->Kr rk (arrOf st) t'<=Kr rk (arrOf st) t:=fun t t1 t2 t' t3 t4=>by
      rcases bm3 t' sb with z | z
      ·have a1:=u t' (sb - 1) (by omega) (by omega) (by omega)
       have a2:=l3' t t1 t2
       omega
      ·exact v t' t z (by omega) t2
     have blr:∀ t,sa<=t->t < sa+k->∀ t',sb+l<=t'->t' < sb+nb->Kr rk (arrOf st) t<=Kr rk (arrOf st) t':=fun t t1 t2 t' t3 t4=>by
      have a1:=bl t t1 t2 (sb - 1) (by omega) (by omega)
      have a2:=l3' t' t3 t4
      omega
     rcases bm3 i (sa+k) with z | z
     ·rw [r2 i (.inl z)]
      rcases bm3 j (sa+k) with y | y
      ·rw [r2 j (.inl y)]; exact u i j hi hij (by omega)
      ·rcases bm3 j (sb+l) with x | x
       ·obtain ⟨t',q1,q2,q3⟩:=r4 j y x
        rw [q3]; exact bl i hi z t' q1 q2
       ·rw [r2 j (.inr x)]; exact blr i hi z j x hj
     ·rcases bm3 j (sb+l) with x | x
      ·exact r3 i j z hij x
      ·rw [r2 j (.inr x)]
       rcases bm3 i (sb+l) with y | y
       ·obtain ⟨t',q1,q2,q3⟩:=r4 i z y
        rw [q3]; exact br j x hj t' q1 q2
       ·rw [r2 i (.inr y)]; exact v i j (by omega) hij hj
    ·rw [er]; exact r2 t (by omega)
   by_cases hle:na - k<=l
   ·rw [if_pos hle]
    exact bi1 (aH9 c b1.kd (sub _ _) (sub _ _) sx sy x0 y0 hf hl fun m st2 g md=>fin m st2 g md)
   ·rw [if_neg hle]
    exact bi1 (aI3 c b1.kd (sub _ _) (sub _ _) sx sy x0 y0 hf hl fun m st2 g md=>fin m st2 g md)
end
noncomputable def Ch:Nat->List (Nat × Nat)->Nat->Prop
 | a,[],b=>a=b
 | a,(p,n) :: r,b=>p=a/\0 < n/\Ch (a+n) r b
theorem Ch.split:∀ {l l':List (Nat × Nat)}{a b:Nat},Ch a (l ++ l') b->∃ m,Ch a l m/\Ch m l' b
 | [],_,a,_,h=>⟨a,rfl,h⟩
 | (p,n) :: l,l',a,b,h=>by
  obtain ⟨h1,h2,h3⟩:=h
  obtain ⟨m,q1,q2⟩:=Ch.split h3
  exact⟨m,⟨h1,h2,q1⟩,q2⟩
theorem Ch.join:∀ {l l':List (Nat × Nat)}{a m b:Nat},Ch a l m->Ch m l' b->Ch a (l ++ l') b
 | [],_,a,m,_,h,h'=>by cases (show a=m from h); exact h'
 | (p,n) :: l,l',a,m,b,h,h'=>⟨h.1,h.2.1,Ch.join h.2.2 h'⟩
theorem Ch.len:∀ {l:List (Nat × Nat)}{a b:Nat},Ch a l b->a+l.length<=b
 | [],a,b,h=>by cases (show a=b from h); simp
 | (p,n) :: l,a,b,h=>by
  have:=Ch.len h.2.2
  have:=h.2.1
  simp; omega
theorem Ch.mem:∀ {l:List (Nat × Nat)}{a b:Nat}{r:Nat × Nat},Ch a l b->r ∈ l->a<=r.1/\r.1+r.2<=b/\0 < r.2
 | (p,n) :: l,a,b,r,h,hr=>by
  obtain ⟨h1,h2,h3⟩:=h
  have hb:=Ch.len h3
  rcases bi0.mp hr with e | e
  ·subst e
   have h1:p=a:=h1
   refine⟨?_,?_,h2⟩
   ·show a<=p; omega
   ·show p+n<=b; omega
  ·have:=Ch.mem h3 e
   exact⟨by omega,this.2.1,this.2.2⟩
noncomputable def sk (pd:Array (Nat × Nat × Nat)):List (Nat × Nat):=pd.toList.map fun r=>(r.1,r.2.1)
theorem sM (pd:Array (Nat × Nat × Nat)):(sk pd).length=pd.size:=by simp [sk]
structure Rn (rk:Keyed->Int) (a:Array Keyed) (l:List (Nat × Nat)) (lo:Nat):Prop where
 ch:Ch 0 l lo
 up:∀ r ∈ l,Up rk a r.1 (r.1+r.2)
variable {rk : Keyed → Int} {κ : SortKind} {a0 : Array Keyed} {pd : Array (Nat × Nat × Nat)} {st : SortSt} {prog : Program} {w : World} {A : Around} {E : Value → Shared → Prop} {s : Shared} {Ok : Keyed → Prop}
theorem Rn.same {a b:Array Keyed}{l:List (Nat × Nat)}{lo:Nat} (h:Rn rk a l lo) (e:∀ t,t < lo->Kr rk b t=Kr rk a t):Rn rk b l lo:=⟨h.ch,fun r hr i j hi hij hj=>by
 have:=(h.ch.mem hr).2.1
 rw [e i (by omega),e j (by omega)]
 exact h.up r hr i j hi hij hj⟩
theorem V8 (c:cL prog w A E s κ Ok rk) (o:bO Ok a0) (b:SB κ a0 pd st) {i lo:Nat}{Q:Bool->SortSt->Prop} (hi:i+1 < pd.size) (hz:lo<=a0.size) (rn:Rn rk (arrOf st) (sk pd) lo)
  (h:∀ pd' st',SB κ a0 pd' st'->pd'.size+1=pd.size->Rn rk (arrOf st') (sk pd') lo->(∀ t,lo<=t->Kr rk (arrOf st') t=Kr rk (arrOf st) t)->Q true st'):wpS (model prog w) A E s (mergeAt' i) Q st:=by
 obtain ⟨⟨sa,na,pw⟩,e1⟩:∃ r,pd[i]? = some r:=⟨pd[i],getElem?_pos pd i (by omega)⟩
 obtain ⟨⟨sb,nb,pw'⟩,e2⟩:∃ r,pd[i+1]? = some r:=⟨pd[i+1],getElem?_pos pd (i+1) hi⟩
 have d1:pd.toList=pd.toList.take i ++ (sa,na,pw) :: (sb,nb,pw') :: pd.toList.drop (i+2):=by
  have hl:i < pd.toList.length:=by simp; omega
  have hl2:i+1 < pd.toList.length:=by simpa using hi
  have g1:pd.toList[i]=(sa,na,pw):=by rw [getElem?_pos pd i (by omega)] at e1; simpa using e1
  have g2:pd.toList[i+1]=(sb,nb,pw'):=by rw [getElem?_pos pd (i+1) hi] at e2; simpa using e2
  have:=bl3 i pd.toList
  rw [List.drop_eq_getElem_cons hl,List.drop_eq_getElem_cons hl2,g1,g2] at this
  exact this.symm
 have li:(pd.toList.take i).length=i:=by simp; omega
 have d2:((pd.setIfInBounds i (sa,na+nb,pw)).eraseIdxIfInBounds (i+1)).toList=pd.toList.take i ++ (sa,na+nb,pw) :: pd.toList.drop (i+2):=by
  have e:((pd.setIfInBounds i (sa,na+nb,pw)).eraseIdxIfInBounds (i+1)).toList=(pd.toList.set i (sa,na+nb,pw)).eraseIdx (i+1):=by
   unfold Array.eraseIdxIfInBounds
   rw [dif_pos (by rw [Array.size_setIfInBounds]; exact hi),Array.toList_eraseIdx,Array.toList_setIfInBounds]
  rw [e]
  conv=>lhs; rw [d1]
  rw [List.set_append_right _ _ (by omega),li,Nat.sub_self,List.set_cons_zero,List.eraseIdx_append_of_length_le (by omega),li,show i+1 - i=1 by omega]
  rfl
 have k1:sk pd=(pd.toList.take i).map (fun r=>(r.1,r.2.1)) ++ (sa,na) :: (sb,nb) :: (pd.toList.drop (i+2)).map (fun r=>(r.1,r.2.1)):=by
  unfold sk; conv=>lhs; rw [d1]
  simp
 have k2:sk ((pd.setIfInBounds i (sa,na+nb,pw)).eraseIdxIfInBounds (i+1))=(pd.toList.take i).map (fun r=>(r.1,r.2.1)) ++ (sa,na+nb) :: (pd.toList.drop (i+2)).map (fun r=>(r.1,r.2.1)):=by
  unfold sk; rw [d2]
  simp
 have ch:=rn.ch
 rw [k1] at ch
 obtain ⟨m,c1,c2⟩:=ch.split
 obtain ⟨f1,f2,f3,f4,f5⟩:=c2
 have f1:sa=m:=f1
 have f3:sb=m+na:=f3
 have up:=rn.up
 rw [k1] at up
 have lo2:=f5.len
 refine aI7 c o b e1 e2 (by omega) f2 f4 (by omega) (by have:=up (sa,na) (by simp); rw [f3,<- f1]; exact this) (up (sb,nb) (by simp)) fun st' b' u' fr=>h _ st' b' ?_ ⟨?_,?_⟩ fun t ht=>fr t (by omega)
 ·rw [<- sM,<- sM,k1,k2]; simp; omega
 ·rw [k2]
  refine c1.join ⟨f1,by omega,?_⟩
  rw [<- Nat.add_assoc]; exact f5
 ·intro r hr
  rw [k2] at hr
  rcases bh6.mp hr with z | z
  ·intro p q h1 h2 h3
   have:=(c1.mem z).2.1
   rw [fr p (by omega),fr q (by omega)]
   exact up r (bj3 _ z) p q h1 h2 h3
  ·rcases bi0.mp z with z | z
   ·subst z
    show Up rk (arrOf st') sa (sa+(na+nb))
    rw [show sa+(na+nb)=sb+nb by omega]; exact u'
   ·intro p q h1 h2 h3
    have:=(f5.mem z).1
    rw [fr p (by omega),fr q (by omega)]
    exact up r (bi9 _ (bh8 _ (bh8 _ z))) p q h1 h2 h3
noncomputable abbrev RS:=Option Unit × Nat
noncomputable def V9 (sz pw:Nat):StateT SortSt Sem (Option Unit × Unit):=forIn [0:sz] ((none,()):Option Unit × Unit) fun _ _=>do
 let z <- get
 match (if (pendingOf z).size > 1 then (pendingOf z)[(pendingOf z).size - 2]? else none) with
 | some (_,_,o)=>if o<=pw then pure (.done (none,())) else do
   let q <- mergeAt' ((pendingOf z).size - 2)
   if (!q)=true then pure (.done (some (),())) else pure (.yield (none,()))
 | _=>pure (.done (none,()))
noncomputable def jn (sz lo n:Nat):StateT SortSt Sem (ForInStep RS):=do
 let z <- get
 match (pendingOf z).back? with
 | some (s1,n1,_)=>do
  let r <- V9 sz (power' sz (2 * s1+n1) (2 * s1+n1+n1+n) sz)
  match r.1 with
  | some u=>pure (.done (some u,lo))
  | none=>do
   modify fun s=>setPending s ((pendingOf s).modify ((pendingOf s).size - 1) fun x=>(x.1,x.2.1,power' sz (2 * s1+n1) (2 * s1+n1+n1+n) sz))
   modify fun s=>setPending s ((pendingOf s).push (lo,n,0))
   pure (.yield (none,lo+n))
 | _=>do
  modify fun s=>setPending s ((pendingOf s).push (lo,n,0))
  pure (.yield (none,lo+n))
noncomputable def W0 (sz mr lo:Nat):StateT SortSt Sem (ForInStep RS):=if lo >= sz then pure (.done (none,lo)) else do
 match <- countRun' lo (sz - lo) with
 | some n=>
  if n < mr then
   liftM (rule "list.sort.binary-insertion")
   let q <- binarySort' lo (min (sz - lo) mr) n
   if (!q)=true then pure (.done (some (),lo)) else jn sz lo (min (sz - lo) mr)
  else jn sz lo n
 | _=>pure (.done (some (),lo))
noncomputable def W5 (sz:Nat):StateT SortSt Sem (Option Unit × Unit):=forIn [0:sz] ((none,()):Option Unit × Unit) fun _ _=>do
 let z <- get
 if (pendingOf z).size<=1 then pure (.done (none,())) else do
  let q <- mergeAt' (if ((if (pendingOf z).size - 2 > 0 then (pendingOf z)[(pendingOf z).size - 2 - 1]?.map (·.2.1) else none).any (· < ((pendingOf z)[(pendingOf z).size - 2+1]?.elim 0 (·.2.1))))=true then (pendingOf z).size - 2 - 1 else (pendingOf z).size - 2)
  if (!q)=true then pure (.done (some (),())) else pure (.yield (none,()))
theorem aI8:sortRuns'=(do
 let z <- get
 let r <- (forIn [0:(arrOf z).size] ((none,0):RS) fun _ r=>W0 (arrOf z).size (minRun' (arrOf z).size (arrOf z).size 0) r.2)
 match r.1 with
 | some u=>pure u
 | none=>do
  let q <- W5 (arrOf z).size
  match q.1 with
  | some u=>pure u
  | none=>pure ()):=by kernel_rfl
theorem W6 {lo nn:Nat} (n1:0 < nn) {pd:Array (Nat × Nat × Nat)}{a:Array Keyed} (r:Rn rk a (sk pd) lo) (u:Up rk a lo (lo+nn)):Rn rk a (sk (pd.push (lo,nn,0))) (lo+nn):=by
 have e:sk (pd.push (lo,nn,0))=sk pd ++ [(lo,nn)]:=by simp [sk]
 refine⟨by rw [e]; exact r.ch.join ⟨rfl,n1,rfl⟩,fun q hq=>?_⟩
 rw [e] at hq
 rcases bh6.mp hq with z | z
 ·exact r.up q z
 ·rw [bg6] at z
  subst z
  exact u
theorem W7 (c:cL prog w A E s κ Ok rk) (o:bO Ok a0) (b:SB κ a0 pd st) {lo n:Nat}{Q:ForInStep RS->SortSt->Prop} (n1:1<=n) (n2:lo+n<=a0.size) (rn:Rn rk (arrOf st) (sk pd) lo) (u:Up rk (arrOf st) lo (lo+n))
  (h:∀ pd' st',SB κ a0 pd' st'->Rn rk (arrOf st') (sk pd') (lo+n)->Q (.yield (none,lo+n)) st'):wpS (model prog w) A E s (jn a0.size lo n) Q st:=by
 unfold jn
 refine bi1 (wpS_get ?_)
 rw [b.pd]
 cases hb:pd.back? with
 | none=>exact bi1 (wpS_modify (bi7 (h (pd.push (lo,n,0)) _ ⟨b.pm,b.kd,b.ok,by show (pendingOf st).push _=_; rw [b.pd]⟩ (W6 n1 rn u))))
 | some q=>
  obtain ⟨s1,m1,q3⟩:=q
  dsimp only
  generalize power' a0.size (2 * s1+m1) (2 * s1+m1+m1+n) a0.size=pw
  unfold V9
  refine bi1 (bw5 (bp8
   (I:=fun _ r st'=>r=(none,())/\∃ pd,SB κ a0 pd st'/\Rn rk (arrOf st') (sk pd) lo/\Up rk (arrOf st') lo (lo+n))
   (Q:=fun r st'=>r=(none,())/\∃ pd,SB κ a0 pd st'/\Rn rk (arrOf st') (sk pd) lo/\Up rk (arrOf st') lo (lo+n)) ?_ (fun _ _ z=>z) ⟨rfl,pd,b,rn,u⟩) ?_)
  ·rintro t r st4 _ ht ⟨rfl,pd4,b4,r4,u4⟩
   refine bi1 (wpS_get ?_)
   rw [b4.pd]
   cases ho:(if pd4.size > 1 then pd4[pd4.size - 2]? else none) with
   | none=>exact bi7 ⟨rfl,pd4,b4,r4,u4⟩
   | some z=>
    obtain ⟨z1,z2,z3⟩:=z
    have h1:pd4.size > 1:=by
     by_cases y:pd4.size > 1
     ·exact y
     ·rw [if_neg y] at ho; cases ho
    dsimp only
    by_cases hp:z3<=pw
    ·rw [if_pos hp]
     exact bi7 ⟨rfl,pd4,b4,r4,u4⟩
    ·rw [if_neg hp]
     refine bi1 (V8 c o b4 (by omega) (by omega) r4 fun pd5 st5 b5 _ r5 f5=>?_)
     exact bi7 ⟨rfl,pd5,b5,r5,fun i j hi hij hj=>by rw [f5 i hi,f5 j (by omega)]; exact u4 i j hi hij hj⟩
  ·rintro r st4 ⟨rfl,pd4,b4,r4,u4⟩
   refine bi1 (wpS_modify (bi1 (wpS_modify (bi7 ?_))))
   have e:sk (pd4.modify (pd4.size - 1) fun x=>(x.1,x.2.1,pw))=sk pd4:=by
    unfold sk
    rw [Array.toList_modify]
    apply List.ext_getElem?
    intro t
    rw [bh9,bh9,List.getElem?_modify]
    cases pd4.toList[t]? with
    | none=>simp
    | some v=>by_cases y:pd4.size - 1=t <;> simp [y]
   refine h ((pd4.modify (pd4.size - 1) fun x=>(x.1,x.2.1,pw)).push (lo,n,0)) _ ⟨b4.pm,b4.kd,b4.ok,?_⟩ (W6 n1 (by rw [e]; exact r4) u4)
   show ((pendingOf st4).modify ((pendingOf st4).size - 1) fun x=>(x.1,x.2.1,pw)).push _=_
   rw [b4.pd]
theorem aI9 (c:cL prog w A E s κ Ok rk) (o:bO Ok a0) (b:SB κ a0 #[] st) {Q:Unit->SortSt->Prop} (h2:1<=a0.size)
  (h:∀ st',(arrOf st').Perm a0->failedOf st'=none->Up rk (arrOf st') 0 a0.size->Q () st'):wpS (model prog w) A E s sortRuns' Q st:=by
 rw [aI8]
 refine bi1 (wpS_get ?_)
 rw [b.sz]
 generalize minRun' a0.size a0.size 0=mr
 refine bi1 (bw5 (bp8
  (I:=fun x r st'=>∃ lo pd,r=(none,lo)/\x<=lo/\lo<=a0.size/\SB κ a0 pd st'/\Rn rk (arrOf st') (sk pd) lo)
  (Q:=fun r st'=>∃ pd,r=(none,a0.size)/\SB κ a0 pd st'/\Rn rk (arrOf st') (sk pd) a0.size) ?_ ?_ ⟨0,#[],rfl,bh0 _,bk7 _,b,⟨rfl,fun r hr=>absurd hr (by simp [sk])⟩⟩) ?_)
 ·rintro x r st1 _ hx ⟨lo,pd,rfl,xl,lz,b1,rn⟩
  unfold W0
  dsimp only
  by_cases hd:lo >= a0.size
  ·rw [if_pos hd]
   have e:lo=a0.size:=by omega
   subst e
   exact bi7 ⟨pd,rfl,b1,rn⟩
  ·rw [if_neg hd]
   refine bi1 (aH2 c o b1 (by omega) (by omega) fun n st2 b2 n1 n2 u2 l2=>?_)
   have rn2:=rn.same l2
   dsimp only
   by_cases hmr:n < mr
   ·rw [if_pos hmr]
    refine bi1 (wpS_lift (bx3 ⟨rfl,?_⟩))
    refine bi1 (aH3 c o b2 (by omega) (by omega) u2 fun st3 b3 u3 l3=>?_)
    rw [if_neg (by decide)]
    exact W7 c o b3 (by omega) (by omega) (rn2.same l3) u3 fun pd' st' b' r'=>⟨_,pd',rfl,by omega,by omega,b',r'⟩
   ·rw [if_neg hmr]
    exact W7 c o b2 n1 (by omega) rn2 u2 fun pd' st' b' r'=>⟨lo+n,pd',rfl,by omega,by omega,b',r'⟩
 ·rintro r st1 ⟨lo,pd,rfl,xl,lz,b1,rn⟩
  have e:lo=a0.size:=by omega
  subst e
  exact⟨pd,rfl,b1,rn⟩
 ·rintro r st1 ⟨pd,rfl,b1,rn⟩
  dsimp only
  unfold W5
  refine bi1 (bw5 (bp8
   (I:=fun t r st'=>r=(none,())/\∃ pd,SB κ a0 pd st'/\Rn rk (arrOf st') (sk pd) a0.size/\(pd.size+t<=a0.size ∨ pd.size<=1))
   (Q:=fun r st'=>r=(none,())/\∃ pd,SB κ a0 pd st'/\Rn rk (arrOf st') (sk pd) a0.size/\pd.size<=1) ?_ ?_ ⟨rfl,pd,b1,rn,.inl (by have:=rn.ch.len; rw [sM] at this; omega)⟩) ?_)
  ·rintro t r st2 _ ht ⟨rfl,pd,b2,rn2,pr⟩
   refine bi1 (wpS_get ?_)
   rw [b2.pd]
   by_cases h1:pd.size<=1
   ·rw [if_pos h1]
    exact bi7 ⟨rfl,pd,b2,rn2,h1⟩
   ·rw [if_neg h1]
    refine bi1 (V8 c o b2 ?_ (bh0 _) rn2 fun pd' st3 b3 sz3 rn3 _=>?_)
    ·split <;> split <;> omega
    ·exact bi7 ⟨rfl,pd',b3,rn3,by omega⟩
  ·rintro r st2 ⟨rfl,pd,b2,rn2,pr⟩
   exact⟨rfl,pd,b2,rn2,by omega⟩
  ·rintro r st2 ⟨rfl,pd,b2,rn2,pr⟩
   refine bi7 (h st2 b2.pm b2.ok ?_)
   have ch:=rn2.ch
   have up:=rn2.up
   rw [<- sM] at pr
   cases e:sk pd with
   | nil=>rw [e] at ch; exact absurd (show 0=a0.size from ch) (by omega)
   | cons r l=>
    rw [e] at ch up pr
    have el:l = []:=List.eq_nil_of_length_eq_zero (by have:=pr; rw [bj5] at this; omega)
    subst el
    obtain ⟨p,n⟩:=r
    obtain ⟨q1,q2,q3⟩:=ch
    have q1:p=0:=q1
    have q3:0+n=a0.size:=q3
    subst q1
    have:=up (0,n) (by simp)
    rw [<- q3]; exact this
end SO
namespace L2
open PySem PySem.Spec PyProof.Rows SO
noncomputable abbrev fO (h:Heap) (a:Addr) (vs:List Value):Heap:=((h.update a (Obj.mapSeq fun _=>#[])).push (seqObj "tuple" vs.toArray 0)).push (seqObj "list" #[] 0)
noncomputable abbrev gD (h:Heap) (vs:List Value):Heap:=((h.push (seqObj "list" #[] 0)).update h.objs.size (Obj.mapSeq (· ++ vs.toArray))).push (seqObj "list" vs.toArray 0)
theorem aJ0 {h:Heap}{vs:List Value}{b:Addr}{o:Obj} (e:h.get? b=some o):(gD h vs).get? b=some o:=by
 have l:=bi5 e
 refine bg4 _ ?_
 rw [Heap.get?_update_ne _ _ _ _ (bk6 l)]
 exact bg4 _ e
theorem aJ1 {h:Heap}{vs:List Value}{a b:Addr}{o:Obj} (hb:b ≠ a) (e:h.get? b=some o):(fO h a vs).get? b=some o:=by
 refine bg4 _ (bg4 _ ?_)
 rw [Heap.get?_update_ne _ _ _ _ hb]; exact e
theorem aJ2 {prog:Program}{w:World}{A:Around}{E:Value->Shared->Prop}{s:Shared}{a:Addr}{vs:List Value}{n:Nat}{P:PySem.Fin->Shared->Prop}{κ:SortKind}{Ok:Keyed->Prop}{rk:Keyed->Int}
  (e:s.heap.get? a=some (seqObj "list" vs.toArray n)) (h2:2<=vs.length) (big:vs.length<=sizeLine)
  (hk:∀ Q:SortKind->Shared->Prop,Q κ { s with heap:=fO s.heap a vs }->wpAny (model prog w) A (keyKind' vs.toArray) Q E { s with heap:=fO s.heap a vs })
  (c:cL prog w A E { s with heap:=fO s.heap a vs } κ Ok rk) (o:∀ v ∈ vs,Ok (v,v))
  (q:∀ out:List Value,out.Perm vs->out.Pairwise (fun u v=>rk (u,u)<=rk (v,v))->P (.done (.ret .none)) { s with heap:=sortedHeap s.heap a vs out.toArray }):wpAny (model prog w) A (Builtin.«list.sort» ⟨[.ref a],[]⟩) P E s:=by
 have la:=bi5 e
 have cc : ¬ vs.toArray.size < 2:=by simpa using h2
 obtain ⟨k,ek⟩:∃ k,(s.heap.update a (Obj.mapSeq fun _=>#[])).get? a=some (seqObj "list" #[] k):=⟨_,get?_update_seq e fun _=>#[]⟩
 have there:(fO s.heap a vs).get? a=some (seqObj "list" #[] k):=bg4 _ (bg4 _ ek)
 rw [list_sort_plain]
 apply bg3
 apply listItems_at e rfl
 apply bg3
 refine listUpdate_at e rfl ?_ (by simpa using big) (bk7 _)
 apply bg3
 apply seqEpoch_at ek rfl
 apply bg3
 refine wpAny_newTuple ?_ big
 apply bg3
 refine bw8 ?_ (bk7 _)
 apply bp2
 simp only [cc,bn0]
 apply bg3
 refine hk _ ?_
 have zl:(vs.toArray.zip vs.toArray).toList=vs.zip vs:=by simp
 apply bg3
 refine bo8 (aI9 (a0:=vs.toArray.zip vs.toArray) (Q:=fun _ st'=>(arrOf st').Perm (vs.toArray.zip vs.toArray)/\failedOf st'=none/\Up rk (arrOf st') 0 (vs.toArray.zip vs.toArray).size) c (fun x hx=>?_) ⟨Array.Perm.refl _,rfl,rfl,rfl⟩ (by simp; omega) fun st' a1 a2 a3=>⟨a1,a2,a3⟩) ?_ fun _ _ z=>z
 ·have hx':x ∈ vs.zip vs:=by rw [<- zl]; exact Array.mem_toList_iff.mpr hx
  obtain ⟨y1,y2⟩:=mem_zip_self hx'
  have:=o x.1 y2
  have ex:x=(x.1,x.1):=Prod.ext rfl y1.symm
  rw [ex]; exact this
 ·rintro ⟨⟨⟩,st'⟩ s' ⟨rfl,pm,ok,up⟩
  have lp:(arrOf st').toList.Perm (vs.zip vs):=by rw [<- zl]; exact Array.perm_iff_toList_perm.mp pm
  have out:(arrOf st').map (·.2)=((arrOf st').toList.map (·.2)).toArray:=by apply Array.toList_inj.mp; rw [Array.toList_map]
  have op:((arrOf st').toList.map (·.2)).Perm vs:=by
   have:=lp.map (·.2)
   rw [vU] at this; exact this
  have sz:(arrOf st').size=vs.length:=by rw [pm.size_eq]; simp
  dsimp only
  apply bg3
  apply seqEpoch_at there rfl
  apply bg3
  refine listUpdate_at there rfl ?_ (bk7 _) (by rw [Array.size_map,sz]; exact Nat.le_succ_of_le big)
  rw [ok]
  simp only [bne_self_eq_false,bj2,bn0]
  refine bh4 ?_
  have hq:=q _ op ?_
  ·rw [<- out] at hq; exact hq
  ·rw [bp4,bn5]
   intro i j hi hj hij
   have hi':i < (arrOf st').size:=by simpa using hi
   have hj':j < (arrOf st').size:=by simpa using hj
   have h1:=up i j (bk7 _) (bl7 hij) (by simp; omega)
   rw [cD hi',cD hj'] at h1
   have dg:∀ x ∈ (arrOf st').toList,(x.2,x.2)=x:=fun x hx=>Prod.ext (mem_zip_self (lp.mem_iff.mp hx)).1.symm rfl
   rw [dg _ (bq0 hi),dg _ (bq0 hj)]
   simpa using h1
theorem aJ3 {prog:Program}{w:World}{A:Around}{E:Value->Shared->Prop}{s:Shared}{l:Addr}{vs:List Value}{Q:Value->Shared->Prop}{κ:SortKind}{Ok:Keyed->Prop}{rk:Keyed->Int}
  (hl:s.heap.IsList l vs.toArray) (h2:2<=vs.length) (big:vs.length<=sizeLine)
  (hk:∀ (A:Around) (E:Value->Shared->Prop) (Q:SortKind->Shared->Prop),Q κ { s with heap:=fO (gD s.heap vs) (s.heap.objs.size+1) vs }->wpAny (model prog w) A (keyKind' vs.toArray) Q E { s with heap:=fO (gD s.heap vs) (s.heap.objs.size+1) vs })
  (c:∀ (A:Around) (E:Value->Shared->Prop),cL prog w A E { s with heap:=fO (gD s.heap vs) (s.heap.objs.size+1) vs } κ Ok rk) (o:∀ v ∈ vs,Ok (v,v))
  (q:∀ out:List Value,out.Perm vs->out.Pairwise (fun u v=>rk (u,u)<=rk (v,v))->Q (.ref (s.heap.objs.size+1)) { s with heap:=sortedAll s.heap vs out.toArray }):wpAny (model prog w) A (call (.builtin "sorted") [.ref l]) Q E s:=by
 apply bt4 kind_sorted plain_sorted entry_sorted (args_sorted1 _)
 simp only [Builtin.«sorted»]
 apply bg3 (m:=checkCount "sorted" 1 1 _)
 apply bh4
 apply bg3
 refine collect_list hl ?_ big
 apply bg3
 refine bw8 ?_ big
 have one:((s.heap.push (seqObj "list" #[] 0)).update s.heap.objs.size (Obj.mapSeq (· ++ vs.toArray))).objs.size=s.heap.objs.size+1:=(Heap.size_update _ _ _).trans (size_push' _ _)
 have at1:(gD s.heap vs).get? (s.heap.objs.size+1)=some (seqObj "list" vs.toArray 0):=one ▸ bi6 _ rfl
 change wpAny _ _ _ _ _ { s with heap:=gD s.heap vs }
 rw [one]
 apply bg3
 apply bp2
 refine bn8 slot_list_sort ⟨_,at1,rfl⟩ entry_list_sort ?_ (args_list_sort _)
 exact aJ2 (s:={ s with heap:=gD s.heap vs }) at1 h2 big (hk _ _) (c _ _) o fun out a1 a2=>⟨_,rfl,bh4 ⟨_,rfl,q out a1 a2⟩⟩
noncomputable def sN (h:Heap) (B:Int) (x:Keyed):Int:=match x.1 with
 | .ref b=>match h.get? b with
  | some ob=>match ob.data with
   | .seq us _=>numOf (us.getD 0 .none) * B+numOf (us.getD 1 .none)
   | _=>0
  | none=>0
 | _=>0
structure jR (h:Heap) (M:Int) (v:Value) (p q:Int):Prop where
 at_:∃ b ob us n,v = .ref b/\h.get? b=some ob/\ob.cls = .type "tuple"/\ob.data = .seq (List.toArray us) n/\IntsAre us [p,q]
 lo : -M<=q
 hi:q<=M
theorem jR.rk {h:Heap}{M B:Int}{x:Keyed}{p q:Int} (z:jR h M x.1 p q):sN h B x=p * B+q:=by
 obtain ⟨b,ob,us,n,e1,e2,_,e4,e5⟩:=z.at_
 cases e5 with
 | cons _ t e6=>cases e6 with
  | cons _ u e7=>cases e7; unfold sN; rw [e1]; dsimp only; rw [e2]; dsimp only; rw [e4]; rfl
theorem W8 {p q p' q' M:Int} (h1 : -M<=q) (h2:q<=M) (h3 : -M<=q') (h4:q'<=M):HT.dA [p,q] [p',q']=decide (p * (2 * M+1)+q < p' * (2 * M+1)+q'):=by
 rw [HT.kZ]
 have mm:∀ {a b:Int},a < b->a * (2 * M+1)+(2 * M+1)<=b * (2 * M+1):=fun {a b} z=>by
  have:=Int.mul_le_mul_of_nonneg_right (show a+1<=b by omega) (show 0<=2 * M+1 by omega)
  rw [Int.add_mul,Int.one_mul] at this
  exact this
 by_cases e:p=p'
 ·subst e
  rw [if_pos rfl,HT.kZ]
  by_cases e2:q=q'
  ·subst e2
   rw [if_pos rfl,HT.ar1,bh5 (by omega)]
  ·rw [if_neg e2]
   by_cases l:q < q'
   ·rw [bg8 l,bg8 (by omega)]
   ·rw [bh5 l,bh5 (by omega)]
 ·rw [if_neg e]
  by_cases l:p < p'
  ·have:=mm l
   rw [bg8 l,bg8 (by omega)]
  ·have:=mm (show p' < p by omega)
   rw [bh5 l,bh5 (by omega)]
theorem aJ4 {prog:Program}{w:World}{A:Around}{E:Value->Shared->Prop}{s:Shared}{M:Int}:cL prog w A E s (tuples' true) (fun x=>∃ p q,jR s.heap M x.1 p q) (sN s.heap (2 * M+1)):=by
 rintro x y ⟨p,q,z⟩ ⟨p',q',z'⟩ st Q hk hq
 rw [z.rk,z'.rk] at hq
 rw [<- W8 z.lo z.hi z'.lo z'.hi] at hq
 obtain ⟨b,ob,us,n,e1,e2,e3,e4,e5⟩:=z.at_
 obtain ⟨b',ob',us',n',e1',e2',e3',e4',e5'⟩:=z'.at_
 rw [lt'_eq]
 refine bi1 (wpS_get ?_)
 rw [hk,e1,e1']
 refine bi1 (wpS_lift (wpAny_attempt (PySem.W.kat_lt e2 e4 e2' e4' ?_)))
 have:=rA (prog:=prog) (w:=w) (A:=A) (s:=s) (Q:=fun a s'=>s'=s/\wpS (model prog w) A E s (pure (some a)) Q st) 0 e5 e5' ⟨rfl,bi7 hq⟩
 simpa using this
theorem aJ5 {vs vs':List Value} (h:vs.Perm vs'):∀ {xs:List V},aM xs vs->∃ xs',xs'.Perm xs/\aM xs' vs':=by
 induction h with
 | nil=>intro xs r; exact⟨xs,List.Perm.refl _,r⟩
 | cons v _ ih=>
  intro xs r
  cases r with
  | cons r t=>
   obtain ⟨xs',p,r'⟩:=ih t
   exact⟨_ :: xs',p.cons _,.cons r r'⟩
 | swap u v l=>
  intro xs r
  cases r with
  | cons r t=>cases t with
   | cons r2 t2=>exact⟨_,List.Perm.swap _ _ _,.cons r2 (.cons r t2)⟩
 | trans _ _ ih1 ih2=>
  intro xs r
  obtain ⟨x1,p1,r1⟩:=ih1 r
  obtain ⟨x2,p2,r2⟩:=ih2 r1
  exact⟨x2,p2.trans p1,r2⟩
theorem W9 {α:Type} (f:α->Int):∀ l:List α,∃ M:Int,∀ y ∈ l,-M<=f y/\f y<=M
 | []=>⟨0,fun _ h=>nomatch h⟩
 | x :: l=>by
  obtain ⟨M,h⟩:=W9 f l
  refine⟨max M (max (f x) (- f x)),fun y hy=>?_⟩
  rcases bi0.mp hy with e | e
  ·subst e; omega
  ·have:=h y e; omega
noncomputable def X0 (K:PySem.W.Frag):List V->Hp->VK->Prop:=fun xs H Q=>∃ (a:Addr) (ys:List V) (key:V->List Int),xs = [.ref a]/\aN K H a ys/\ys.length<=4096/\(∀ y ∈ ys,∃ b,y = .ref b/\aJ K H b ((key y).map V.int)/\(key y).length=2)/\
 ∀ l (zs:List V),H l=none->zs.Perm ys->zs.Pairwise (fun u v=>HT.dA (key v) (key u)=false)->Q (.ref l) (upd H l (.lst zs))
theorem aJ6 {X:Cx}:dI X (.builtin "sorted") (X0 X.K):=by
 intro pins s σ H xs us Q I r h
 obtain ⟨a,ys,key,rfl,hs,hz4,hk,q⟩:=h
 obtain ⟨u,rfl,ru⟩:=j8 r
 cases ru
 obtain ⟨its,rv,p,hz⟩:=I.list hs
 have hl:=rv.length
 have hn:s.heap.objs.size<=s.heap.objs.size+1:=Nat.le_succ _
 by_cases h2:its.length < 2
 ·refine M7 p.isList h2 ?_
  obtain ⟨e,he⟩:=sortedAll_at s.heap its its.toArray
  refine⟨.ref (s.heap.objs.size+1),upd H (s.heap.objs.size+1) (.lst ys),I.laid (t':=s.toks) (fun _ _=>sortedAll_old) hn ⟨hz,its,e,rv,he⟩,rfl,q _ ys (I.hok.fresh hn) (List.Perm.refl _) ?_⟩
  match ys,hl with
  | [],_=>exact bq6
  | [_],_=>exact bj8 _ _
  | _ :: _ :: _,hl=>simp at hl; omega
 ·obtain ⟨M,hM⟩:=W9 (fun y=>(key y).getD 1 0) ys
  have pv:∀ {y:V}{v:Value},aV y v->y ∈ ys->∃ pp qq,key y = [pp,qq]/\jR (fO (gD s.heap its) (s.heap.objs.size+1) its) M v pp qq:=fun {y v} ry hy=>by
   obtain ⟨b,rfl,sq,l2⟩:=hk y hy
   cases ry
   obtain ⟨us,ru,⟨ob,e1,c1,n1,d1⟩,_⟩:=I.tuple sq
   have ia:=mH ru
   have mm:=hM _ hy
   match hkk:key (V.ref b),l2 with
   | [pp,qq],_=>
    rw [hkk] at ia mm
    exact⟨pp,qq,rfl,⟨b,ob,us,n1,rfl,aJ1 (bk6 (Nat.lt_succ_of_lt (bi5 e1))) (aJ0 e1),c1,d1,ia⟩,mm.1,mm.2⟩
  have pvs:∀ {xs:List V}{vs:List Value},aM xs vs->(∀ y ∈ xs,y ∈ ys)->∀ v ∈ vs,∃ pp qq,jR (fO (gD s.heap its) (s.heap.objs.size+1) its) M v pp qq:=by
   intro xs vs r
   induction r with
   | nil=>intro _ v hv; cases hv
   | cons rx rt ih=>
    intro hh v hv
    rcases bi0.mp hv with z | z
    ·subst z
     obtain ⟨pp,qq,_,z⟩:=pv rx (hh _ bh2)
     exact⟨pp,qq,z⟩
    ·exact ih (fun y hy=>hh y (bh8 _ hy)) v z
  have firsts:∀ {vs:List Value},(∀ v ∈ vs,∃ pp qq,jR (fO (gD s.heap its) (s.heap.objs.size+1) its) M v pp qq)->∃ fs:List Value,PySem.W.KatTups (fO (gD s.heap its) (s.heap.objs.size+1) its) vs fs/\fs.length=vs.length/\∀ v ∈ fs,∃ i t,v=Value.int i t:=by
   intro vs
   induction vs with
   | nil=>intro _; exact⟨[],PySem.W.KatTups.nil,rfl,fun _ z=>nomatch z⟩
   | cons v vs ih=>
    intro hh
    obtain ⟨fs,t1,t2,t3⟩:=ih fun y hy=>hh y (bh8 _ hy)
    obtain ⟨pp,qq,z⟩:=hh v bh2
    obtain ⟨b,ob,us,n,rfl,e2,e3,e4,e5⟩:=z.at_
    cases e5 with
    | cons _ t e6=>exact⟨Value.int pp t :: fs,PySem.W.KatTups.cons e2 e3 e4 (by simp) t1,by simp [t2],fun v hv=>(bi0.mp hv).elim (fun z=>⟨pp,t,z⟩) (t3 v)⟩
  have allp:=pvs rv fun _ h=>h
  obtain ⟨fs,t1,t2,t3⟩:=firsts allp
  refine aJ3 (κ:=tuples' true) (Ok:=fun x=>∃ pp qq,jR (fO (gD s.heap its) (s.heap.objs.size+1) its) M x.1 pp qq) (rk:=sN (fO (gD s.heap its) (s.heap.objs.size+1) its) (2 * M+1)) p.isList (by omega) (by rw [<- hl]; exact hz)
   (fun A E Q hQ=>?_) (fun A E=>aJ4 (s:={ s with heap:=fO (gD s.heap its) (s.heap.objs.size+1) its })) (fun v hv=>allp v hv) fun out pm so=>?_
  ·refine PySem.W.kat_kind (T:=.type "int") t1 (by omega) (fun v hv=>?_) (by decide) ?_
   ·obtain ⟨i,t,rfl⟩:=t3 v hv
    exact PySem.W.Looks.now
   ·have eT:(Value.type "int" != Value.type "tuple")=true:=by decide
    rw [eT]; exact hQ
  ·obtain ⟨zs,pz,rz⟩:=aJ5 pm.symm rv
   obtain ⟨e,he⟩:=sortedAll_at s.heap its out.toArray
   refine⟨.ref (s.heap.objs.size+1),upd H (s.heap.objs.size+1) (.lst zs),I.laid (t':=s.toks) (fun _ _=>sortedAll_old) hn ⟨by rw [pz.length_eq]; exact hz,out,e,rz,he⟩,rfl,q _ zs (I.hok.fresh hn) pz ?_⟩
   have lz:=rz.length
   rw [bn5]
   intro i j hi hj hij
   have s1:=bn5.mp so i j (by omega) (by omega) hij
   have gi:=mM i hi rz
   have gj:=mM j hj rz
   simp only [bh7,bg7 hi,bg7 hj,bg7 (show i < out.length by omega),bg7 (show j < out.length by omega),Option.getD_some] at gi gj
   obtain ⟨pi,qi,ki,vi⟩:=pv gi (pz.mem_iff.mp (bq0 hi))
   obtain ⟨pj,qj,kj,vj⟩:=pv gj (pz.mem_iff.mp (bq0 hj))
   rw [jR.rk (x:=(out[i],out[i])) vi,jR.rk (x:=(out[j],out[j])) vj] at s1
   rw [ki,kj,W8 vj.lo vj.hi vi.lo vi.hi]
   exact bh5 (by omega)
end L2
namespace L2
open PySem PySem.Spec PyProof.Rows
theorem bT.at {P:Program}{w:World}{H:Hp}{h:Heap}{a:Addr}{o:HO} (x:bT P w H h a o):∃ ob,h.get? a=some ob:=by
 cases o with
 | lst xs=>obtain ⟨_,_,_,_,e⟩:=x; exact⟨_,e⟩
 | tup xs=>obtain ⟨_,_,_,⟨_,e,_⟩,_⟩:=x; exact⟨_,e⟩
 | dK kvs=>obtain ⟨_,_,_,_,_,_,_,e,_⟩:=x; exact⟨_,e⟩
 | dT kvs=>obtain ⟨_,_,_,_,_,_,_,e,_⟩:=x; exact⟨_,e⟩
 | set S n=>obtain ⟨_,_,_,_,e,_⟩:=x; exact⟨_,e⟩
 | ins C dx fs=>obtain ⟨_,_,_,e,_⟩:=x; exact⟨_,e⟩
 | own y=>exact x
 | xd fs=>obtain ⟨_,⟨_,_,_,e,_⟩,_⟩:=x; exact⟨_,e⟩
 | rng lo hi=>obtain ⟨_,_,_,e⟩:=x; exact⟨_,e⟩
 | frz ob u=>obtain ⟨e,_⟩:=x; exact⟨_,e⟩
 | tbl ps=>exact⟨_,x⟩
 | met f y=>exact⟨_,x⟩
 | ext φ=>exact x.2.1
structure lV (P:Program) (w:World) (outer:List Env) (H:Hp) (s:Shared) (H':Hp) (B:Heap) (a C:Addr) (s':Shared):Prop where
 os:s'.os=s.os
 bare:AllBare s'.gens
 un:Un (bQ outer) [] H H' s.heap s'.heap
 hok:bV P w H' s'.heap
 fly:∃ a0,Heap.FlyingW B outer a (.ref C) a0 s'.heap
 b0:∀ b o,s.heap.get? b=some o->b ∉ bQ outer->∃ o',B.get? b=some o'
 b1:∀ b o,s.heap.get? b=some o->H b=none->b ∉ bQ outer->B.get? b=some o
 b2:∀ b u o,H' b=some u->s'.heap.get? b=some o->B.get? b=some o
noncomputable def eC (P:Program) (w:World):gW:=fun outer H s E e s'=>∃ (H':Hp) (B:Heap) (a C:Addr),e = .ref a/\lV P w outer H s H' B a C s'/\E (.ref C) none H'
section
variable {P : Program} {w : World} {outer : List Env} {H H' : Hp} {s s' : Shared} {B h2 : Heap} {a C : Addr}
theorem lV.fresh (f:lV P w outer H s H' B a C s'):H' a=none:=by
 cases q:H' a with
 | none=>rfl
 | some u=>
  obtain ⟨ob,e⟩:=(f.hok a u q).at
  have z:=f.b2 a u ob q e
  obtain ⟨_,_,n,_⟩:=f.fly
  rw [n] at z; cases z
theorem lV.hok2 (f:lV P w outer H s H' B a C s') (k:B.StaysIn h2):bV P w H' h2:=fun b u e=>
 (f.hok b u e).stay (fun c v hc q=>by
  rcases hc with z | z
  ·subst z; exact k _ _ (f.b2 _ _ _ e q)
  ·exact k _ _ (f.b2 _ _ _ z q)) (fun _ q=>q) fun _ _ q=>q
end
section
variable {P : Program} {w : World} {K : PySem.W.Frag} {mg : Str → Option Value} {base : Heap} {N : List Str} {qual : Str} {scope : Scope} {f : Addr} {cd : Value} {A : Around} {outer : List Env} {s₀ : Shared} {H₀ : Hp} {E₀ E₁ : XK}
theorem sO {pins:List (Addr × Obj)}{σ:St}{H:Hp}{s:Shared} (I:a6 (dM (eC P w) P w K mg base N qual scope f cd A outer s₀ H₀ E₀) pins σ H s) {b:Addr}{o:Obj} (e:s₀.heap.get? b=some o) (n:b ∉ bQ outer) :
  b ∉ bQ (envOfC qual scope s₀.heap.objs.size f cd :: outer):=fun z=>by
 rcases bi0.mp (I.stkSub b z) with y | y
 ·have l:=bi5 e
  have y:b=s₀.heap.objs.size:=y
  exact absurd l (by rw [y]; exact bm0 _)
 ·exact n y
theorem aJ7 (hE:∀ c d H',E₁ c d H'->E₀ c d H'):oC (eC P w) (dM (eC P w) P w K mg base N qual scope f cd A outer s₀ H₀ E₀) E₁:=by
 intro pins σ H s e s' I hx
 obtain ⟨H',B,a,C,e1,fl,q⟩:=hx
 subst e1
 have I':=I.call' fl.os fl.un fl.hok fl.bare (ch:=[]) (fun b z=>absurd z (by simp))
 obtain ⟨a0,fly⟩:=fl.fly
 refine wpAny_leaves_onW I.ok.frames rfl fly fun h' fly' up=>?_
 have slot:∀ b o,s₀.heap.get? b=some o->b ∈ bQ outer->∃ sl,h'.get? b=some { o with slots:=sl }:=fun b o e hb=>by
  obtain ⟨sl,e1⟩:=I'.base.slot b o e (I.ok.frf b hb) hb (fun z=>nomatch z)
  obtain ⟨_,o2,e2,nf⟩:=I.ok.funs.mem hb
  rw [show (dM (eC P w) P w K mg base N qual scope f cd A outer s₀ H₀ E₀).s₀=s₀ from rfl,e] at e2
  cases e2
  obtain ⟨sl',e3⟩:=up b _ e1 nf
  exact⟨sl',e3⟩
 have old:∀ b o,s₀.heap.get? b=some o->H₀ b=none->b ∉ bQ outer->B.get? b=some o:=fun b o e n hb=>
  fl.b1 b o (I.base.keep b o e n hb (fun z=>nomatch z)) (I.base.free b o e n (fun z=>nomatch z)) (sO I e hb)
 have old0:∀ b o,s₀.heap.get? b=some o->b ∉ bQ outer->∃ o',B.get? b=some o':=fun b o e hb=>by
  obtain ⟨o1,e1⟩:=I.base.there b o e (fun z=>nomatch z)
  exact fl.b0 b o1 e1 (sO I e hb)
 refine⟨H',B,a,C,rfl,⟨I'.os,I'.bare,⟨fun b o e n hb _=>fly'.1 _ _ (old b o e n hb),fun b o e n hb _=>slot b o e hb,fun b o e n hx=>I'.base.free b o e n hx,fun b o e _=>?_,I'.base.tups,I'.base.frzs,I'.base.tbls⟩,fl.hok2 fly'.1,⟨a0,fly'⟩,old0,old,fun b u o e h=>?_⟩,hE _ _ _ q⟩
 ·by_cases hb:b ∈ bQ outer
  ·obtain ⟨sl,e1⟩:=slot b o e hb
   exact⟨_,e1⟩
  ·obtain ⟨o',e1⟩:=old0 b o e hb
   exact⟨o',fly'.1 _ _ e1⟩
 ·obtain ⟨ob,e1⟩:=(fl.hok b u e).at
  have e2:=fl.b2 b u ob e e1
  have e3:=fly'.1 _ _ e2
  have h:h'.get? b=some o:=h
  rw [h] at e3; cases e3; exact e2
theorem aJ8 {pins:List (Addr × Obj)}{σ:St}{H:Hp}{s:Shared}{h':Heap}{e C:Addr}{args:List Value} (I:a6 (dM (eC P w) P w K mg base N qual scope f cd A outer s₀ H₀ E₀) pins σ H s) (mx:Heap.MadeExcOf s.heap h' e (.ref C) args) (q:E₀ (.ref C) none H) :
  (dM (eC P w) P w K mg base N qual scope f cd A outer s₀ H₀ E₀).xe (.ref e) { s with heap:=h' }:=by
 have tr:∀ b u,H b=some u->b ∉ bQ (envOfC qual scope s₀.heap.objs.size f cd :: outer):=fun b u z n=>by
  rw [I.stkFree b n] at z; cases z
 have inB:∀ b o,s.heap.get? b=some o->b ∉ bQ (envOfC qual scope s₀.heap.objs.size f cd :: outer)->(PySem.W.hideAll s.heap (bQ (envOfC qual scope s₀.heap.objs.size f cd :: outer))).get? b=some o:=fun b o z n=>PySem.W.hideAll_get _ z n
 refine wpAny_leaves_madeW (base:=PySem.W.hideAll s.heap (bQ (envOfC qual scope s₀.heap.objs.size f cd :: outer))) I.ok.frames rfl (fun b o z=>PySem.W.of_hideAll _ z) (PySem.W.funFrames_hide I.stack fun env he b hb=>bv5.mpr ⟨env,he,hb⟩) mx fun h'' t fly _ _ up=>?_
 have slot:∀ b o,s₀.heap.get? b=some o->b ∈ bQ outer->∃ sl,h''.get? b=some { o with slots:=sl }:=fun b o e hb=>by
  obtain ⟨sl,e1⟩:=I.base.slot b o e (I.ok.frf b hb) hb (fun z=>nomatch z)
  obtain ⟨_,o2,e2,nf⟩:=I.ok.funs.mem hb
  rw [show (dM (eC P w) P w K mg base N qual scope f cd A outer s₀ H₀ E₀).s₀=s₀ from rfl,e] at e2
  cases e2
  obtain ⟨sl',e3⟩:=up b _ (mx.keeps _ _ e1) nf
  exact⟨sl',e3⟩
 have old:∀ b o,s₀.heap.get? b=some o->H₀ b=none->b ∉ bQ outer->(PySem.W.hideAll s.heap (bQ (envOfC qual scope s₀.heap.objs.size f cd :: outer))).get? b=some o:=fun b o e n hb=>
  inB b o (I.base.keep b o e n hb (fun z=>nomatch z)) (sO I e hb)
 have old0:∀ b o,s₀.heap.get? b=some o->b ∉ bQ outer->∃ o',(PySem.W.hideAll s.heap (bQ (envOfC qual scope s₀.heap.objs.size f cd :: outer))).get? b=some o':=fun b o e hb=>by
  obtain ⟨o1,e1⟩:=I.base.there b o e (fun z=>nomatch z)
  exact⟨o1,inB b o1 e1 (sO I e hb)⟩
 refine⟨H,_,e,C,rfl,⟨I.os,I.bare,⟨fun b o e n hb _=>fly.1 _ _ (old b o e n hb),fun b o e n hb _=>slot b o e hb,fun b o e n hx=>I.base.free b o e n hx,fun b o e _=>?_,I.base.tups,I.base.frzs,I.base.tbls⟩,fun b u z=>?_,⟨_,fly⟩,old0,old,fun b u o z h=>?_⟩,q⟩
 ·by_cases hb:b ∈ bQ outer
  ·obtain ⟨sl,e1⟩:=slot b o e hb
   exact⟨_,e1⟩
  ·obtain ⟨o',e1⟩:=old0 b o e hb
   exact⟨o',fly.1 _ _ e1⟩
 ·refine (I.hok b u z).stay (fun c v hc y=>?_) (fun _ y=>y) fun _ _ y=>y
  rcases hc with z' | z'
  ·subst z'; exact fly.1 _ _ (inB _ _ y (tr _ _ z))
  ·exact fly.1 _ _ (inB _ _ y (tr _ _ z'))
 ·obtain ⟨ob,e1⟩:=(I.hok b u z).at
  have e2:=inB b ob e1 (tr b u z)
  have e3:=fly.1 _ _ e2
  have h:h''.get? b=some o:=h
  rw [h] at e3; cases e3; exact e2
end
structure nG (X:Cx) (E:XK):Prop where
 pass:oC (eC X.prog X.w) X E
 made:∀ (pins:List (Addr × Obj)) (σ:St) (H:Hp) (s:Shared) (h':Heap) (e C:Addr) (args:List Value),a6 X pins σ H s->Heap.MadeExcOf s.heap h' e (.ref C) args->E (.ref C) none H->X.xe (.ref e) { s with heap:=h' }
 own:PassesOwn (model X.prog X.w) X.A X.env X.xe
theorem aJ9 {P:Program}{w:World}{K:PySem.W.Frag}{mg:Str->Option Value}{base:Heap}{N:List Str}{qual:Str}{scope:Scope}{f:Addr}{cd:Value}{A:Around}{outer:List Env}{s₀:Shared}{H₀:Hp}{E₀ E₁:XK} (hE:∀ c d H',E₁ c d H'->E₀ c d H') :
  nG (dM (eC P w) P w K mg base N qual scope f cd A outer s₀ H₀ E₀) E₁:=
 ⟨aJ7 hE,fun _ _ _ _ _ _ _ _ I mx q=>aJ8 I mx (hE _ _ _ q),PassesOwn.leaving⟩
noncomputable def X1 (E:XK) (C:Addr) (t:TA):TS:=fun _ σ H=>t σ H fun vs H1=>vs.length<=sizeLine/\E (.ref C) none H1
theorem aK0 {X:Cx}{E:XK}{x:Str}{C:Addr}{bm:List Value}{B newId initId:String}{np cpos pos:Pos}{e:Expr}{es:List Expr}{t:TA} (hX:nG X E) (hc:X.calm=true) (O:OwnCls x C bm newId X.mg X.base) (FB:ExcBaseFacts B newId initId bm) (ha:PA X (e :: es) t) (hg:Gl X x)
  (hd:(x == ("__debug__" : Str))=false:=by decide) (he:starEach (e :: es) X.env=(false,eval e X.env) :: starEach es X.env:=by rfl) (hpl:(backTo cpos (starEach es X.env)).any (·.1)=false:=by rfl) :
  PS X (.Raise (some (.Call (.Name x np) (e :: es) [] cpos)) none pos) (X1 E C t):=by
 intro pins s σ H D I h
 obtain ⟨tl,Na,nm,qn,bs,hx,sn,sub,ab,col,dd,k0,k1,k2,k3,k5,mN,hC,hN,hni,T⟩:=O.obj
 refine wpAny_Raise_call_subT (nm:=nm) (q:=qn) (N:=Na) (bs:=bs) (bm:=tl) (hdct:=hx) (sn:=sn) (sub:=sub) (ab:=ab) (col:=col) (dd:=dd) (k0:=k0) (k1:=k1) (k2:=k2) (k3:=k3) (k5:=k5) FB (C:=C) (mN:=mN) (T.hasType FB.hasBase) (I.ok.hd hc) (by rw [he]; show (false || (backTo cpos (starEach es X.env)).any (·.1))=false; rw [hpl]; rfl) hni (o4 I hg O.bound ⟨rfl,?_⟩ hd)
 have h1:=ha cpos pins s σ H _ I h
 rw [he] at h1 ⊢
 refine Calls.evalArgs_plain (bo8 h1 (fun us s2 h2=>?_) fun _ _ y=>y)
 obtain ⟨vs,H2,I2,r,hl,q⟩:=h2
 have r:aM vs us:=r
 exact⟨rfl,by show us.length<=sizeLine; rw [<- r.length]; exact hl,I2.bk _ _ hC,hN.keeps I2.bk,T.keeps I2.bk,fun h' e' mx=>hX.made pins σ H2 s2 h' e' C _ I2 mx q⟩
theorem eZ.okX {P:Program}{w:World}{K:PySem.W.Frag}{mg:Str->Option Value}{base:Heap}{x qual:Str}{st:Stmt}{f:Addr}{fd:FuncData}{N ps:List Str}{k:Nat}{sp:Sp} (F:eZ K x qual st f fd) (S:FnScope N ps (aY st)) (len:∀ vs H Q E,sp vs H Q E->vs.length=ps.length)
  (hbody:∀ (cdv:Value) (A:Around) (outer:List Env) (s:Shared) (H:Hp) (vs:List V) (Q:VK) (E:XK),cA k (A.deeper (envOfC qual (aY st) s.heap.objs.size f cdv))->sp vs H Q E->
   ∃ t,dW (dM (eC P w) P w K mg base N qual (aY st) f cdv A outer s H E) (eY st) t/\t { nx:=fun _ H'=>Q .non H',rt:=Q } (start N vs) H):cP P w K mg base (eC P w) (k+1) f fd ps sp:=by
 obtain ⟨oc,od,kV,doc,pm,an,cdv,ct,osl,rfl,lk,hcd⟩:=F.ex
 exact E4 lk hcd S len fun A outer s H vs Q E hr hsp=>hbody cdv A outer s H vs Q E hr hsp
section
variable {X : Cx} {pins : List (Addr × Obj)} {σ : St} {H H1 H' : Hp} {s s1 s' : Shared} {B h2 : Heap} {a C : Addr}
theorem X2 {oe:Obj} (I:a6 X pins σ H1 s1) (fl:lV X.prog X.w X.stack H1 s1 H' B a C s') (st:B.StaysIn h2) (up:s'.heap.UpToSlots h2) (he:h2.get? a=some oe) :
  a6 X pins σ (upd H' a (.frz oe (.own a))) { s' with heap:=h2 }:=by
 obtain ⟨a0,fly⟩:=fl.fly
 have na:B.get? a=none:=fly.2.1
 have nf:a ∉ bQ X.stack:=fun z=>by
  obtain ⟨_,o,e,d⟩:=fly.2.2.1.mem z
  obtain ⟨o2,vs,e2,_,d2,_⟩:=fly.first
  rw [e] at e2; cases e2
  exact d vs d2
 have nb:∀ b o,s1.heap.get? b=some o->b ≠ a:=fun b o e z=>by
  subst z
  obtain ⟨o',e'⟩:=fl.b0 _ o e nf
  rw [na] at e'; cases e'
 have nt:∀ b u,H' b=some u->b ≠ a:=fun b u e z=>by
  subst z; rw [fl.fresh] at e; cases e
 have off:∀ b,b ≠ X.env.locals->b ∉ X.fs->b ∉ bQ X.stack:=fun b n1 n2 z=>(bi0.mp (I.stkSub b z)).elim n1 n2
 have slot:∀ b o,s1.heap.get? b=some o->b ∈ bQ X.stack->∃ sl,h2.get? b=some { o with slots:=sl }:=fun b o e hb=>by
  obtain ⟨sl,e1⟩:=fl.un.any e (I.stkFree b hb) (fun z=>nomatch z)
  obtain ⟨_,o2,e2,d⟩:=I.stack.mem hb
  rw [e] at e2; cases e2
  obtain ⟨sl',e3⟩:=up b _ e1 d
  exact⟨sl',e3⟩
 have ns:∀ m,s1.heap.Ns X.env.locals m->h2.Ns X.env.locals m:=fun m hm=>by
  obtain ⟨o,es,ep,e,r⟩:=hm
  obtain ⟨sl,e1⟩:=fl.un.any e I.free (fun z=>nomatch z)
  exact up.ns ⟨_,es,ep,e1,r⟩
 have hok:bV X.prog X.w (upd H' a (.frz oe (.own a))) h2:=fun b u e=>by
  by_cases hb:b=a
  ·subst hb; rw [bK] at e; cases e; exact⟨he,_,he⟩
  ·rw [aW hb] at e
   exact (fl.hok2 st b u e).stay (fun _ _ _ q=>q) (fun c q=>by rw [aW (nt c _ q)]; exact q) fun c xs q=>by rw [aW (nt c _ q)]; exact q
 have bare:=fl.bare
 have un:=fl.un
 have b0:=fl.b0
 have b1:=fl.b1
 have os:=fl.os
 clear fl fly up
 obtain ⟨hh,g,d,t,os'⟩:=s'
 obtain rfl:os'=s1.os:=os
 show a6 X pins σ _ { s1 with heap:=h2,gens:=g,drawn:=d,toks:=t }
 refine I.step (h':=h2) (g':=g) (d':=d) (t':=t) (ch:=[]) (fun _ z=>nomatch z) (fun b o n1 n2 _ e n=>st _ _ (b1 b o e n (off b n1 n2))) (fun b o n1 hb _ e n=>?_) (fun b o _ e n=>by rw [aW (nb b o e)]; exact un.free b o e n (fun z=>nomatch z)) (fun b o _ e=>?_)
  (fun b xs q=>by rw [aW (nt b _ (un.tups b xs q))]; exact un.tups b xs q) (fun b o u q=>by rw [aW (nt b _ (un.frzs b o u q))]; exact un.frzs b o u q) (fun b ps q=>by
   obtain ⟨more,q'⟩:=un.tbls b ps q
   exact⟨more,by rw [aW (nt b _ q')]; exact q'⟩) ns hok bare
 ·by_cases hs:b ∈ bQ X.stack
  ·exact slot b o e hs
  ·exact⟨o.slots,st _ _ (b1 b o e n hs)⟩
 ·by_cases hb:b ∈ bQ X.stack
  ·obtain ⟨sl,e1⟩:=slot b o e hb
   exact⟨_,e1⟩
  ·obtain ⟨o',e1⟩:=b0 b o e hb
   exact⟨o',st _ _ e1⟩
noncomputable abbrev Cx.suite (X:Cx) (a:Addr):Cx:={ X with A:=X.A.mark (some (.ref a)),calm:=false,xe:=fun _ _=>False }
theorem Cx.Ok.suite {X:Cx} (ok:X.Ok) (a:Addr):(X.suite a).Ok:=
 ⟨ok.mod,ok.kind,ok.glob,ok.blt,ok.above,ok.inj,ok.has,ok.cab,fun z=>Bool.noConfusion z,ok.frames,ok.stk,ok.exf,ok.bs,ok.bsz,ok.noex,ok.exfs,ok.funs,ok.frf⟩
theorem a6.suite (I:a6 X pins σ H s) (a:Addr):a6 (X.suite a) pins σ H s:=⟨I.ok.suite a,I.os,I.bare,I.base,I.loc,I.cell,I.free,I.freeC,I.pin,I.hok,I.len⟩
theorem a6.unsuite (I:a6 (X.suite a) pins σ H s) (ok:X.Ok):a6 X pins σ H s:=⟨ok,I.os,I.bare,I.base,I.loc,I.cell,I.free,I.freeC,I.pin,I.hok,I.len⟩
theorem sP {M:Model}{A:Around}{E:Value->Shared->Prop}{i:Nat}{x:Str}{pos:Pos}{Q:Unit->Shared->Prop} (I:a6 X pins σ H s) (hN:X.N.Nodup) (hi:X.N[i]? = some x) (hk:X.env.scope.names.lookup x=some .local)
  (h:∀ s',a6 X pins (σ.set i none) H s'->Q () s'):wpAny M A (do bindName X.env x .none; unbindBehindTheSuite X.env x pos) Q E s:=by
 obtain ⟨m,hn,hl⟩:=id I.loc
 obtain ⟨oL,_,_,hoL,_⟩:=id hn
 have ab:∀ b o,X.s₀.heap.get? b=some o->b ≠ X.env.locals:=fun b o e=>bk6 (bi2 (bi5 e) I.ok.above)
 refine wpAny_nameGoes_keeps hk hn (by rw [I.ok.kind]; rfl) fun h' v hn' hs=>?_
 refine h _ ⟨I.ok,I.os,I.bare,⟨fun b o e n hb hx=>(hs.2 b (ab b o e)).trans (I.base.keep b o e n hb hx),fun b o e n hb hx=>?_,I.base.free,fun b o e hx=>?_,I.base.tups,I.base.frzs,I.base.tbls⟩,⟨_,hn',fun j y v' e1 e2 e3=>?_⟩,fun y c e=>?_,I.free,I.freeC,fun p hp=>?_,fun b u e=>?_,by simpa using I.len⟩
 ·obtain ⟨sl,e1⟩:=I.base.slot b o e n hb hx
  exact⟨sl,(hs.2 b (ab b o e)).trans e1⟩
 ·obtain ⟨o',e1⟩:=I.base.there b o e hx
  exact⟨o',(hs.2 b (ab b o e)).trans e1⟩
 ·by_cases hj:j=i
  ·subst hj
   have hjl:j < σ.length:=by rw [I.len]; exact (bh3.mp hi).1
   rw [bo0 hjl] at e2
   cases e2
  ·rw [bk2 (Ne.symm hj)] at e2
   obtain ⟨u',r',q⟩:=hl j y v' e1 e2 e3
   refine⟨u',r',?_⟩
   rcases q with ⟨k,e⟩ | ⟨k,c,e,z⟩
   ·have ny:y ≠ x:=fun z=>hj (u9 hN e1 (z ▸ hi))
    exact .inl ⟨k,by simp [ny,e]⟩
   ·exact .inr ⟨k,c,e,z.sameBut hs (I.cne y c e)⟩
 ·obtain ⟨w',z⟩:=I.cell y c e
  exact⟨w',z.sameBut hs (I.cne y c e)⟩
 ·obtain ⟨e,n,ne,nf,d⟩:=I.pin p hp
  exact⟨(hs.2 p.1 ne).trans e,n,ne,nf,d⟩
 ·refine (I.hok b u e).stay (fun c v hc q=>(hs.2 c fun z=>?_).trans q) (fun _ q=>q) fun _ _ q=>q
  subst z
  rcases hc with z | z
  ·subst z; rw [I.free] at e; cases e
  ·rw [I.free] at z; cases z
theorem aK1 {M:Model}{A:Around}{E:Value->Shared->Prop}{K:PySem.W.Frag}{e C D:Addr}{oe:Obj}{Q:Bool->Shared->Prop} (k:K.In s.heap) (he:s.heap.get? e=some oe) (hc:oe.cls = .ref C) (h1:(PySem.W.clsIn K D).isSome=true) (h2:PySem.W.typeIn K (.ref D)=some (.type "type"))
  (h3:PySem.W.subIn K (.ref D) (.type "BaseException")=some true) (h4:PySem.W.subIn K (.ref C) (.ref D)=some true) (hq:Q true s):wpAny M A (excMatches (.ref e) (.ref D)) Q E s:=by
 obtain ⟨h,g,d,t,os⟩:=s
 have k:K.In h:=k
 have he:h.get? e=some oe:=he
 have l1:PySem.W.Looks M h (isType (.ref D)) true:=by
  unfold PySem.W.clsIn at h1
  split at h1
  ·rename_i c' d' cd' sl' ho
   intro A' Q' E' s' kk q
   unfold isType loadHead
   exact bg3 (wpAny_loadPart (kk _ _ (k _ _ ho)) (bh4 q))
  ·cases h1
 have l2:PySem.W.Looks M h (typeOf (.ref D)) (.type "type"):=PySem.W.looks_typeIn k h2
 have l3:PySem.W.Looks M h (isSubtype (.ref D) (.type "BaseException")) true:=PySem.W.looks_subIn k h3
 have l4:PySem.W.Looks M h (isSubtype (.ref C) (.ref D)) true:=PySem.W.looks_subIn k h4
 have l5:PySem.W.Looks M h (typeOf (.ref e)) (.ref C):=hc ▸ (PySem.W.Looks.ld he).andThen .now
 have l6:PySem.W.Looks M h (isInstance (.ref D) (.type "tuple")) false:=l2.andThen (PySem.W.Looks.of_pure tc_notTuple)
 have l7:PySem.W.Looks M h (isExcClass (.ref D)) true:=by
  unfold isExcClass
  exact l1.andThen (by simpa using l3)
 have f:=tc_notTuple
 unfold excMatches
 repeat (first | exact hq | (with_reducible refine l2.at ?_) | (with_reducible refine l7.at ?_) | (with_reducible refine l1.at ?_) | (with_reducible refine l3.at ?_) | (with_reducible refine l5.at ?_) | (with_reducible refine l4.at ?_) | wp_step)
end
noncomputable def xK (D:cT) (i:Nat):cT:={ nx:=fun σ H=>D.nx (σ.set i none) H,rt:=D.rt,bk:=fun σ H=>D.bk (σ.set i none) H,ct:=fun σ H=>D.ct (σ.set i none) H }
section
variable {X : Cx} {pins : List (Addr × Obj)} {σ : St} {H H1 H' : Hp} {s s1 s' : Shared} {B : Heap} {a C Ch : Addr} {i : Nat} {x n : Str} {np pos hpos : Pos} {b₀ : Stmt} {suite : List Stmt} {ts : TS} {D : cT} {cN : List ExceptHandler}
structure xM (K:PySem.W.Frag) (Ch:Addr):Prop where
 c1:(PySem.W.clsIn K Ch).isSome=true
 c2:PySem.W.typeIn K (.ref Ch)=some (.type "type")
 c3:PySem.W.subIn K (.ref Ch) (.type "BaseException")=some true
theorem aK2 (I:a6 X pins σ H1 s1) (fl:lV X.prog X.w X.stack H1 s1 H' B a C s') (hstk:X.stack=X.env :: X.outer/\X.env.frame=some X.env.locals) (hg:Gl X x) (hm:X.mg x=some (.ref Ch)) (ct:xM X.K Ch) (sub:PySem.W.subIn X.K (.ref C) (.ref Ch)=some true)
  (hN:X.N.Nodup) (hi:X.N[i]? = some n) (hl:X.env.scope.names.lookup n=some .local) (hs:dW (X.suite a) (b₀ :: suite) ts) (q:∀ oe:Obj,oe.cls = .ref C->ts (xK D i) (σ.set i (some (.ref a))) (upd H' a (.frz oe (.own a)))) (hd:(x == ("__debug__" : Str))=false) :
  wpAny (model X.prog X.w) X.A (noteFrame (.ref a) X.env) (fun _ s₂=>wpAny (model X.prog X.w) X.A (setFlight (.ref a) none) (fun _ s₃=>wpAny (model X.prog X.w) X.A (handleBy (.ref a) X.env (.ExceptHandler (some (.Name x np)) (some n) (b₀ :: suite) hpos :: cN)) (SP X pins D) X.xe s₃) X.xe s₂) X.xe s':=by
 obtain ⟨a0,fly⟩:=fl.fly
 rw [hstk.1] at fly
 refine wpAny_looks_onW (outer:=X.outer) (L:=X.env.locals) (by rw [I.ok.frames,hstk.1]) hstk.2 fly fun h4 held up4=>wpAny_landsW held fun h5 fly5 up5=>?_
 obtain ⟨o5,v5,e5,c5,_⟩:=fly5.first
 have I5:=X2 I fl fly5.1 (up4.trans up5) e5
 refine wpAny_handleBy_cons (codeAny_handlers_test (o4 (I5.suite a) hg hm ?_ hd)) (by intro z; cases z)
 refine aK1 I5.kIn e5 c5 ct.c1 ct.c2 ct.c3 sub ?_
 show codeAny (model X.prog X.w) (X.A.mark (some (.ref a))) (.handlers (.ref a) [.ExceptHandler none (some n) (b₀ :: suite) hpos] X.env) _ _
 refine codeAny_handlers_suite_as (lands_againW fly5 fun h6 fly6 up6=>?_)
 obtain ⟨o6,v6,e6,c6,_⟩:=fly6.first
 have I6:=X2 I fl fly6.1 ((up4.trans up5).trans up6) e6
 refine uB I6 hN hi (.inl hl) (v:=.ref a) rfl (fun s7 I7=>?_) (.inr hl)
 refine bo8 (hs pins s7 _ _ (xK D i) (I7.suite a) (q o6 c6)) (fun f s8 h8=>?_) fun _ _ z=>z.elim
 show wpAny (model X.prog X.w) X.A (do bindName X.env n .none; unbindBehindTheSuite X.env n hpos) (fun _ s9=>SP X pins D f s9) X.xe s8
 cases f with
 | next=>obtain ⟨σ',H',J,q⟩:=h8; exact sP (J.unsuite I.ok) hN hi hl fun s9 J9=>⟨_,_,J9,q⟩
 | brk=>obtain ⟨σ',H',J,q⟩:=h8; exact sP (J.unsuite I.ok) hN hi hl fun s9 J9=>⟨_,_,J9,q⟩
 | cont=>obtain ⟨σ',H',J,q⟩:=h8; exact sP (J.unsuite I.ok) hN hi hl fun s9 J9=>⟨_,_,J9,q⟩
 | ret u=>obtain ⟨v,σ',H',J,r,q⟩:=h8; exact sP (J.unsuite I.ok) hN hi hl fun s9 J9=>⟨v,_,_,J9,r,q⟩
end
noncomputable abbrev TB:=cT->XK->St->Hp->Prop
noncomputable def XB (X:Cx) (pins:List (Addr × Obj)) (σ:St) (Ex:XK):Value->Shared->Prop:=fun e s'=>∃ H1 s1,a6 X pins σ H1 s1/\eC X.prog X.w X.stack H1 s1 Ex e s'
noncomputable def PB (X:Cx) (sts:List Stmt) (t:TB):Prop:=
 ∀ (pins:List (Addr × Obj)) (s:Shared) (σ:St) (H:Hp) (D:cT) (Ex:XK),a6 X pins σ H s->t D Ex σ H->wpAny (model X.prog X.w) X.A (execs sts X.env) (SP X pins D) (XB X pins σ Ex) s
noncomputable def aK3 (sp:Sp) (t:TA):TB:=fun D Ex σ H=>t σ H fun vs H1=>sp vs H1 (fun _ H2=>D.nx σ H2) Ex
noncomputable def aK4 (c:TT) (t u:TB):TB:=fun D Ex σ H=>c σ H fun b H1=>if b=true then t D Ex σ H1 else u D Ex σ H1
section
variable {X : Cx} {k : Nat} {f Ch : Addr} {fd : FuncData} {ps : List Str} {sp : Sp} {x n : Str} {p cp pos np hpos : Pos} {e c : Expr} {es : List Expr} {t : TA} {tb ub : TB} {tc : TT} {sa sb body : List Stmt} {i : Nat} {b₀ : Stmt} {suite : List Stmt} {ts : TS}
theorem aK5 (F:cP X.prog X.w X.K X.mg X.base (eC X.prog X.w) k f fd ps sp) (hr:cA k X.A) (hg:Gl X x) (hm:X.mg x=some (.ref f)) (hk:PySem.W.keepIn X.K (.ref f)=true) (hb:iA X.K fd ps []) (ha:∀ E,PA (X.wish E) (e :: es) t)
  (hdb:(x == ("__debug__" : Str))=false:=by decide) (he:starEach (e :: es) X.env=(false,eval e X.env) :: starEach es X.env:=by rfl) (hpl:(backTo cp (starEach es X.env)).any (·.1)=false:=by rfl) (hsw:swapsWith (.Call (.Name x p) (e :: es) [] cp) none pos.line X.env=pure false:=by rfl) :
  PB X [.Expr (.Call (.Name x p) (e :: es) [] cp) pos] (aK3 sp t):=by
 intro pins s σ H D Ex I h
 refine wpAny_execs_cons (wpAny_Expr_any ?_ I.quiet hsw)
 refine wpAny_Call_Name_kw (o4 I hg hm ?_ hdb)
 refine PySem.W.callWith_K (h₀:=X.base) I.ok.mod.kin hk (aO (ha (XB X pins σ Ex) cp pins s σ H _ (I.wish _) h) fun us s1 h1=>⟨?_,?_⟩) he hpl
 ·obtain ⟨_,_,I1,_⟩:=h1
  exact I1.kIn
 ·obtain ⟨vs,H1,I1,r,q⟩:=h1
  have I1:=I1.unwish
  have hl:us.length=ps.length:=by rw [<- r.length]; exact F.len _ _ _ _ q
  have bd:=hb s1 us I1.kIn (by rw [bm6]; exact hl)
  rw [bm6] at bd
  refine wpAny_call (codeAny_mono (F.run X.A X.stack s1 H1 ⟨us,[]⟩ us vs _ Ex hr I1.env0 bd r q) fun rs s' hq=>?_)
  cases rs with
  | error ev=>exact⟨H1,s1,I1,hq⟩
  | ok fl=>
   cases fl with
   | ret u=>
    obtain ⟨v,H2,I2,_,q2⟩:=I1.after hq
    exact bw1 ⟨σ,H2,I2,q2⟩
   | next=>exact False.elim hq
   | brk=>exact False.elim hq
   | cont=>exact False.elim hq
theorem aK6 (hc:∀ E,PT (X.wish E) c tc) (ha:PB X sa tb) (hb:PB X sb ub):PB X [.If c sa sb pos] (aK4 tc tb ub):=by
 intro pins s σ H D Ex I h
 refine wpAny_execs_cons (wpAny_If (aO (hc (XB X pins σ Ex) pins s σ H _ (I.wish _) h) fun d s1 h1=>?_))
 obtain ⟨H1,I1,q1⟩:=h1
 have I1:=I1.unwish
 have fin:∀ (fl:Flow) (s2:Shared),SP X pins D fl s2->(match fl with | .next=>wpAny (model X.prog X.w) X.A (execs [] X.env) (SP X pins D) (XB X pins σ Ex) s2 | fl=>SP X pins D fl s2):=fun fl s2 q=>by
  cases fl with
  | next=>exact bw1 q
  | _=>exact q
 cases d with
 | true=>exact aO (ha pins s1 σ H1 D Ex I1 q1) fin
 | false=>exact aO (hb pins s1 σ H1 D Ex I1 q1) fin
noncomputable def X3 (K:PySem.W.Frag) (Ch:Addr) (i:Nat) (tb:TB) (ts:TS):TS:=fun D σ H=>
 tb D (fun c _ H'=>∀ (a C:Addr) (oe:Obj),c = .ref C->H' a=none->oe.cls = .ref C->PySem.W.subIn K (.ref C) (.ref Ch)=some true/\ts (xK D i) (σ.set i (some (.ref a))) (upd H' a (.frz oe (.own a)))) σ H
theorem aK7 (hstk:X.stack=X.env :: X.outer/\X.env.frame=some X.env.locals) (hb:PB X body tb) (hg:Gl X x) (hm:X.mg x=some (.ref Ch)) (ct:xM X.K Ch) (hN:X.N.Nodup) (hi:X.N[i]? = some n) (hl:X.env.scope.names.lookup n=some .local) (hs:∀ a,dW (X.suite a) (b₀ :: suite) ts)
  (hd:(x == ("__debug__" : Str))=false:=by decide):PS X (.Try body [.ExceptHandler (some (.Name x np)) (some n) (b₀ :: suite) hpos] [] [] pos) (X3 X.K Ch i tb ts):=by
 intro pins s σ H D I h
 refine wpAny_Try_except (bo8 (hb pins s σ H D _ I h) (fun fl s1 q=>?_) (fun ev s1 q=>?_))
 ·cases fl with
  | next=>exact bw1 q
  | _=>exact q
 ·obtain ⟨H1,s2,I1,H',B,a,C,e1,fl,q⟩:=q
  subst e1
  obtain ⟨a0,fly⟩:=fl.fly
  obtain ⟨o5,_,_,c5,_⟩:=fly.first
  exact aK2 I1 fl hstk hg hm ct (q a C o5 rfl fl.fresh c5).1 hN hi hl (hs a) (fun oe hc=>(q a C oe rfl fl.fresh hc).2) hd
end
end L2
namespace L2
open PySem PySem.Spec PyProof.Rows PySem.Calls Builtin Builtin.ObjectAttr Builtin.Getset_descriptor
structure iU (K:PySem.W.Frag) (D:Addr):Prop where
 cls:(PySem.W.clsIn K D).isSome=true
 ga:PySem.W.findIn K (.ref D) "__getattribute__" = some (some (.builtin "BaseException.__getattribute__"))
 gt:PySem.W.findIn K (.ref D) "__getattr__" = some none
 fc:PySem.W.findIn K (.ref D) "__class__" = some (some (.builtin "object.__class__"))
 fg:PySem.W.specialIn K (.builtin "object.__class__") "__get__" = some (some (.builtin "getset_descriptor.__get__"))
 ft:PySem.W.takesIn K (.builtin "object.__class__")=some true
 ob:PySem.W.mroIn K D (.type "object")=some true
 be:PySem.W.mroIn K D (.type "BaseException")=some true
noncomputable def kJ (h:Heap) (x D:Addr):Prop:=∃ ox:Obj,h.get? x=some ox/\ox.cls = .ref D
theorem kJ.type {h:Heap}{x D:Addr}{M:Model} (I:kJ h x D):PySem.W.Looks M h (typeOf (.ref x)) (.ref D):=by
 obtain ⟨ox,e,c⟩:=I
 exact c ▸ (PySem.W.Looks.ld e).andThen .now
section
variable {prog : Program} {w : World} {A : Around} {E : Value → Shared → Prop} {K : PySem.W.Frag} {x D : Addr} {h : Heap} {g : Array GenState} {d : Drawn} {t : Nat} {os : OsState}
theorem aK8 {M:Model} (F:iU K D) (k:K.In h):PySem.W.Looks M h (find (.ref x) (.ref D) "__class__") (.bind (.builtin "getset_descriptor.__get__") (.builtin "object.__class__")):=by
 have L1:=PySem.W.looks_findIn (M:=M) k F.fc
 have L2:=PySem.W.looks_specialIn (M:=M) k F.fg
 have L3:=PySem.W.looks_takesIn (M:=M) k F.ft
 unfold find
 refine L1.andThen (PySem.W.Looks.andThen (a:=some (Value.builtin "getset_descriptor.__get__")) L2 ?_)
 refine PySem.W.Looks.andThen (a:=some (Value.builtin "getset_descriptor.__get__",Value.builtin "object.__class__")) ?_ (PySem.W.Looks.tag .now)
 unfold dataDescriptor?
 exact L3.andThen .now
theorem aK9 {tp:Value}{R:Result->Shared->Prop} (F:iU K D) (k:K.In h) (I:kJ h x D) (hq:R (.ok (.ret (.ref D))) ⟨h,g,d,t,os⟩):codeAny (model prog w) A (.call (.builtin "getset_descriptor.__get__") ⟨[.builtin "object.__class__",.ref x,tp],[]⟩) R ⟨h,g,d,t,os⟩:=by
 have L0:=I.type (M:=model prog w)
 have L1:=PySem.W.looks_mroIn (M:=model prog w) k F.ob
 refine codeAny_call_builtin PySem.W.KF.slot_gs.plain PySem.W.KF.entry_gs (PySem.W.KF.slot_gs.check _ _ _ _ _ _ _ _ PySem.W.KF.type_class (PySem.W.KF.args_gs _ _ _) ?_)
 unfold Builtin.«getset_descriptor.__get__» descrGet; rw [PySem.W.dga_obj]
 refine bg3 (bh4 ?_); unfold descrGetter descrCheckInstance descrNameAndClass isInstance
 simp only [PySem.W.KF.owner_class]
 repeat lk
 refine⟨Code.quiet_builtin _ (by decide +kernel),codeAny_builtin PySem.W.KF.entry_class ?_⟩; unfold Builtin.«object.__class__» shownTypeOf
 repeat lk
 exact hq
theorem aL0 {M:Model}{nameV:Value}{Q:Unit->Shared->Prop} (F:iU K D) (k:K.In h) (I:kJ h x D) (hq:Q () ⟨h,g,d,t,os⟩):wpAny M A (checkBuiltinCall "BaseException.__getattribute__" ⟨[.ref x,nameV],[]⟩) Q E ⟨h,g,d,t,os⟩:=by
 have kd:builtinKind "BaseException.__getattribute__" = some .slot:=by decide +kernel
 have sp:splitId "BaseException.__getattribute__" = some ("BaseException","__getattribute__"):=by decide +kernel
 have L:PySem.W.Looks M h (isInstance (.ref x) (.type "BaseException")) true:=(I.type (M:=M)).andThen (PySem.W.looks_mroIn k F.be)
 have ha:=PySem.F.args_bexc_ga (.ref x) nameV
 simp only [checkBuiltinCall,kd,sp]
 refine bg3 (L.at ?_)
 repeat (any_goals (first | assumption | wp_step))
theorem aL1 {tk:Tok}{Q:Fin->Shared->Prop} (F:iU K D) (k:K.In h) (I:kJ h x D) (hq:Q (.done (.ret (.ref D))) ⟨h,g,d,t,os⟩):wpAny (model prog w) A (Builtin.«object.__getattribute__» ⟨[.ref x,.str "__class__" tk],[]⟩) Q E ⟨h,g,d,t,os⟩:=by
 have L0:=I.type (M:=model prog w)
 have L1:=aK8 (M:=model prog w) F k (x:=x)
 refine bg3 (bh4 (bg3 (bh4 (bg3 (L0.at (bg3 (L1.at ?_)))))))
 show wpAny _ _ (holding [_] (call _ _) >>= ret) _ _ _
 exact bg3 (bp2 (wpAny_call (aK9 F k I (bh4 hq))))
theorem aL2 {tk:Tok}{R:Result->Shared->Prop} (F:iU K D) (k:K.In h) (I:kJ h x D) (hq:R (.ok (.ret (.ref D))) ⟨h,g,d,t,os⟩):codeAny (model prog w) A (.call (.builtin "BaseException.__getattribute__") ⟨[.ref x,.str "__class__" tk],[]⟩) R ⟨h,g,d,t,os⟩:=
 codeAny_call_builtin PySem.F.excAttr_ValueError.ga.plain PySem.F.entry_bexc_ga (aL0 F k I (aL1 F k I hq))
theorem aL3 {Q:Option Value->Shared->Prop} (F:iU K D) (k:K.In h) (I:kJ h x D) (hq:Q (some (.ref D)) ⟨h,g,d,t+1,os⟩):wpAny (model prog w) A (getAttr? (.ref x) "__class__") Q E ⟨h,g,d,t,os⟩:=by
 have L0:=I.type (M:=model prog w)
 have L1:=PySem.W.looks_findIn (M:=model prog w) k F.ga
 have L2:=PySem.W.looks_findIn (M:=model prog w) k F.gt
 have f3:=PySem.F.excAttr_ValueError.ga.bind (.ref x)
 unfold getAttr? getAttrBy? getAttrBy
 refine bg3 (wpAny_mkText (bg3 (wpAny_attempt (bp2 (bg3 (L0.at (bg3 (L1.at ?_))))))))
 have nx:(onTheHeap (Value.ref D) && Value.builtin "BaseException.__getattribute__" == Value.builtin "object.__getattribute__")=false:=by
  rw [show (Value.builtin "BaseException.__getattribute__" == Value.builtin "object.__getattribute__")=false by decide +kernel,bs9]
 dsimp only
 rw [if_neg (by rw [nx]; decide)]
 unfold getAttrByItsOwn hookBefore
 repeat (any_goals (first | assumption | (with_reducible refine L2.at ?_) | wp_step))
 exact aL2 F k I (PySem.W.handed_on rfl (bh4 hq))
end
theorem aL4 {K:PySem.W.Frag}{x D:Addr} (F:iU K D):PySem.W.KitX K (.ref x) (.ref D) (fun h=>kJ h x D) where
 ty:=fun _ _ _ I=>I.type
 it:=fun M h k _=>by
  have z:=F.cls
  unfold PySem.W.clsIn at z
  split at z
  ·rename_i c' d' cd' sl' ho
   intro A' Q' E' s' kk q
   unfold isType loadHead
   exact bg3 (wpAny_loadPart (kk _ _ (k _ _ ho)) (bh4 q))
  ·cases z
 ne:=fun h tp dd its n sl k htp=>by
  have z:=F.cls
  refine bt0.mpr fun q=>?_
  obtain rfl:D=tp:=Value.ref.inj (beq_iff_eq.mp q)
  unfold PySem.W.clsIn at z
  split at z
  ·rename_i ho
   have y:=(k _ _ ho).symm.trans htp
   cases y
  ·cases z
 ca:=fun {_ _ _ _ _ s} k I q=>by
  obtain ⟨h,g,d,t,os⟩:=s
  exact aL3 F k I q
end L2
namespace L2
open PySem PySem.Spec PyProof.Rows
section
variable {X : Cx}
noncomputable def X4:V->List V->Hp->VK->Prop:=fun x vs H Q=>∃ l xs y,∃ k:Nat,x = .ref l/\vs = [.int k,y]/\H l=some (.lst xs)/\k<=xs.length/\xs.length < sizeLine/\Q .non (upd H l (.lst (xs.take k ++ y :: xs.drop k)))
theorem aL5:mI X "list.insert" X4:=by
 intro pins s σ H x vs v us Q I rx rv h
 obtain ⟨l,xs,y,k,rfl,rfl,hH,hk,hz,q⟩:=h
 obtain ⟨u1,u2,rfl,⟨t,rfl⟩,r2⟩:=rv.two
 obtain rfl:v=Value.ref l:=rx
 obtain ⟨z,its,n,r,hl,e⟩:=I.lstM hH
 have hs:sizeLine=16777216:=sizeLine_eq
 obtain ⟨x,hx⟩:∃ x:Int,x=(k:Int):=⟨_,rfl⟩
 rw [<- hx]
 have hf : ¬(!Builtin.List.listFitsIndex x)=true:=by
  have h1:Builtin.List.listFitsIndex x=true:=by
   unfold Builtin.List.listFitsIndex
   rw [bl6]
   exact⟨bg8 (by omega),bg8 (by omega)⟩
  rw [h1]; exact bi3
 have hz2:its.toArray.size<=sizeLine:=by rw [bg5]; omega
 refine call_meets PySem.F.slot_list_insert ⟨_,e,rfl⟩ PySem.F.entry_list_insert (PySem.F.args_list_insert_3 _ _ _) (AutoSeq1.list_insert_list_int_val_1 l its.toArray n x t u2 hf hz2) ⟨e,.non,_,?_,rfl,q⟩
 refine I.lset (its':=its.take k ++ u2 :: its.drop k) hH e ?_ ((r.take k).append (.cons r2 (r.drop k))) ?_
 ·have e1:(if x < 0 then (x+(its.toArray.size:Int)).toNat else min x.toNat its.toArray.size)=k:=by
   rw [if_neg (by omega),bg5]
   omega
  dsimp only
  rw [e1]
  apply Array.toList_inj.mp
  simp only [bn4,Array.toList_push,Array.toList_extract,List.extract_eq_drop_take]
  simp
  rw [bl5 (by rw [bs4]; omega)]
 ·rw [bi4,bj5,br4,bs4]
  omega
end
end L2
namespace Core
open PySem L2 PP
noncomputable def iJ (ns:List Int):Bool:=((ns.zip (ns.drop 1)).map fun p=>decide (p.1 < p.2)).all id
theorem sQ {α β:Type}{l:List α}{f:α->β}{i:Nat}{x:α} (h:l[i]? = some x):(l.take (i+1)).map f=(l.take i).map f ++ [f x]:=by
 rw [bo2,h]; simp
theorem gE:∀ {ns:List Int},iJ ns=true->ns.Pairwise (· < ·)
 | [],_=>.nil
 | [x],_=>bj8 _ _
 | x :: y :: r,h=>by
  have e:iJ (x :: y :: r)=(decide (x < y) && iJ (y :: r)):=rfl
  rw [e,bl6] at h
  have ih:=gE h.2
  refine bw0.mpr ⟨fun z hz=>?_,ih⟩
  rcases bi0.mp hz with rfl | hz
  ·exact bo1 h.1
  ·exact Int.lt_trans (bo1 h.1) (List.rel_of_pairwise_cons ih hz)
theorem xN:∀ {ns:List Int},ns.Pairwise (· < ·)->iJ ns=true
 | [],_=>rfl
 | [x],_=>rfl
 | x :: y :: r,h=>by
  have e:iJ (x :: y :: r)=(decide (x < y) && iJ (y :: r)):=rfl
  have h':=bw0.mp h
  rw [e,xN h'.2,Bool.and_true]
  exact bg8 (h'.1 y bh2)
noncomputable def kin (ws:List Int) (ls:List (Int × Int)) (S:List Int) (h:Int):Bool:=!decide (h ∈ S) && decide (ws.getD h.toNat 0<=(((aR ls h).filter fun x=>decide (x ∈ S)).length:Int))
noncomputable def nextOf (ws:List Int) (ls:List (Int × Int)) (S:List Int):List Int:=((List.range ws.length).map fun (i:Nat)=>(i:Int)).filter (kin ws ls S)
noncomputable def pN (ws:List Int) (ls:List (Int × Int)) (S:List Int):Nat->List Int
 | 0=>S
 | k+1=>pN ws ls S k ++ nextOf ws ls (pN ws ls S k)
noncomputable def X5 (ws:List Int) (S:List Int):Nat:=(((List.range ws.length).map fun (i:Nat)=>(i:Int)).filter fun x=>!decide (x ∈ S)).length
theorem X6 {α:Type} (p q:α->Bool) (h:∀ x,q x=true->p x=false):∀ L:List α,(L.filter fun x=>!p x && !q x).length+(L.filter q).length=(L.filter fun x=>!p x).length
 | []=>rfl
 | x :: r=>by
  have ih:=X6 p q h r
  cases e1:p x with
  | true=>
   have e2:q x=false:=by
    cases e:q x with
    | false=>rfl
    | true=>have:=h x e; rw [e1] at this; cases this
   simp only [bt5,e1,e2,Bool.not_true,Bool.false_and,bj2,bn0]
   exact ih
  | false=>
   cases e2:q x with
   | true=>
    simp only [bt5,e1,e2,Bool.not_true,Bool.not_false,bs9,bj2,bn0,if_true,bj5]
    omega
   | false=>
    simp only [bt5,e1,e2,Bool.not_false,Bool.and_true,bj2,bn0,if_true,bj5]
    omega
theorem aL6 {ws:List Int}{ls:List (Int × Int)}{S:List Int}{x:Int} (h:kin ws ls S x=true):decide (x ∈ S)=false:=by
 unfold kin at h
 cases e:decide (x ∈ S) with
 | false=>rfl
 | true=>rw [e] at h; cases h
noncomputable def after (ws:List Int) (ls:List (Int × Int)) (S:List Int) (m:Nat):List (List Int):=(List.range m).map fun k=>nextOf ws ls (pN ws ls S k)
theorem aL7 {ws ns:List Int} (hu:ns.Pairwise (· < ·)) (hin:∀ x ∈ ns,0<=x/\x < (ws.length:Int)):ns.length+X5 ws ns<=ws.length:=by
 have nd:ns.Nodup:=hu.imp fun h=>bt1 h
 have sub:ns ⊆ ((List.range ws.length).map fun (i:Nat)=>(i:Int)).filter fun x=>decide (x ∈ ns):=fun x hx=>by
  refine bj0.mpr ⟨bi8.mpr ⟨x.toNat,bu2.mpr ?_,?_⟩,bg8 hx⟩
  ·have:=hin x hx; omega
  ·have:=hin x hx; omega
 have h1:=nd.length_le_of_subset sub
 have h2:=X6 (fun _=>false) (fun x=>decide (x ∈ ns)) (fun _ _=>rfl) ((List.range ws.length).map fun (i:Nat)=>(i:Int))
 have h3:(((List.range ws.length).map fun (i:Nat)=>(i:Int)).filter fun x=>!false && !decide (x ∈ ns)).length=X5 ws ns:=rfl
 have h4:(((List.range ws.length).map fun (i:Nat)=>(i:Int)).filter fun x=>!false).length<=ws.length:=by
  refine bl4 (bm1 _ _) ?_
  rw [bh1,List.length_range]; exact bh0 _
 rw [h3] at h2
 omega
noncomputable def cT (ws:List Int) (ls:List (Int × Int)) (ns:List Int) (m:Nat):Prop:=(∀ k < m,nextOf ws ls (pN ws ls ns k) ≠ [])/\nextOf ws ls (pN ws ls ns m) = []
theorem kK {ns:List Int}{i:Nat}{x:PV} (h:(intz ns)[i]? = some x):∃ n,x = .int n/\ns[i]? = some n:=by
 rw [bh9] at h
 cases e:ns[i]? with
 | none=>rw [e] at h; cases h
 | some n=>rw [e] at h; exact⟨n,(bj9 h).symm,rfl⟩
theorem iV {lo:Int}{n i:Nat}{x:PV} (h:(fB lo n)[i]? = some x):x = .int (lo+i)/\i < n:=by
 have hi:i < n:=by
  have:=(bh3.mp h).1
  rwa [g9] at this
 rw [wQ hi] at h
 exact⟨(bj9 h).symm,hi⟩
noncomputable def rng (n:Nat):List Int:=(List.range n).map fun (i:Nat)=>(i:Int)
theorem dO (n:Nat):(rng n).length=n:=by unfold rng; rw [bh1,List.length_range]
theorem X7 {n i:Nat} (h:i < n):(rng n)[i]? = some (i:Int):=by unfold rng; rw [bh9,List.getElem?_range h]; rfl
theorem bR {n:Nat}{x:Int}:x ∈ rng n ↔ 0<=x/\x < (n:Int):=by
 unfold rng
 rw [bi8]
 constructor
 ·rintro ⟨i,hi,rfl⟩
  have:=bu2.mp hi
  omega
 ·intro h
  exact⟨x.toNat,bu2.mpr (by omega),by omega⟩
theorem X8 {α:Type}{l:List α}{p:α->Bool}{i:Nat}{x:α} (h:l[i]? = some x):(l.take (i+1)).filter p=(l.take i).filter p ++ (if p x=true then [x] else []):=by
 rw [bo2,h,List.filter_append]
 congr 1
 cases e:p x <;> simp [e]
theorem i6 (a b:List Int):intz (a ++ b)=intz a ++ intz b:=bk4
theorem bP (a:List Int):(intz a).length=a.length:=bh1 _
noncomputable def bG (ws:List Int) (ls:List (Int × Int)):PV:=.tup [.tup (intz ws),.tup (ls.map fun l=>.tup [.int l.1,.int l.2])]
structure Wb (ws:List Int) (ls:List (Int × Int)):Prop where
 few:ws.length<=40
 most:ls.length<=1700
 links:∀ l ∈ ls,(0<=l.1/\l.1 < ws.length)/\0<=l.2/\l.2 < ws.length
noncomputable def fP (x:PV) (ns:List Int):Prop:=x = .tup (intz ns) ∨ x = .lst (intz ns)
theorem fP.seq {x:PV}{ns:List Int} (h:fP x ns):lG x=some (intz ns):=by rcases h with rfl | rfl <;> rfl
theorem fP.seqT {x:PV}{ns:List Int} (h:fP x ns):seqT x=some (intz ns):=by rcases h with rfl | rfl <;> rfl
theorem kL:∀ (ls:List (Int × Int)),flats (ls.map fun l=>PV.tup [.int l.1,.int l.2])=true
 | []=>rfl
 | l :: r=>by
  show (flat (.tup [.int l.1,.int l.2]) && flats (r.map fun l=>PV.tup [.int l.1,.int l.2]))=true
  rw [kL r]; rfl
theorem sR (ws:List Int) (ls:List (Int × Int)):flat (bG ws ls)=true:=by
 show flats [.tup (intz ws),.tup (ls.map fun l=>PV.tup [.int l.1,.int l.2])]=true
 show (flat (.tup (intz ws)) && (flat (.tup (ls.map fun l=>PV.tup [.int l.1,.int l.2])) && true))=true
 show (flats (intz ws) && (flats (ls.map fun l=>PV.tup [.int l.1,.int l.2]) && true))=true
 rw [dX,kL]; rfl
noncomputable def iW:bL:=fun xs Q=>∃ ws ls,xs = [bG ws ls]/\Q (.int ws.length)
noncomputable def X9:aK:=(bN (aD dJ (a7 (b7 (a5 0) (qC (.int 0))) a9)))
noncomputable abbrev cR (t:aK) (N:List Str) (p:bL):Prop:=∀ xs Q,p xs Q->t { nx:=fun _=>Q .non,rt:=Q } (gA N xs)
theorem aL8:cR X9 ["web"] iW:=by
 rintro xs Q ⟨ws,ls,rfl,q⟩
 refine⟨_,rfl,_,_,_,rfl,rfl,rfl,_,_,rfl,rfl,trivial,?_⟩
 rw [bP]; exact q
noncomputable def xO:bL:=fun xs Q=>∃ x ns,xs = [x]/\fP x ns/\ns.length<=1000/\Q (.bl (iJ ns))
noncomputable def inB (n:Nat) (x:Int):Bool:=decide (0<=x) && decide (x < (n:Int))
noncomputable def sS:bL:=fun xs Q=>∃ ws ls n,xs = [bG ws ls,.int n]/\Q (.bl (inB ws.length n))
noncomputable def Y0:aK:=(bN (lD (qGe (a5 1) (qC (.int 0))) (p7 (a5 1) (aD iW (a7 (a5 0) a9)))))
theorem aL9:cR Y0 ["web","number"] sS:=by
 rintro xs Q ⟨ws,ls,n,rfl,q⟩
 refine⟨_,rfl,_,_,rfl,rfl,_,rfl,?_⟩
 unfold inB at q
 by_cases h:(0:Int)<=n
 ·rw [bg8 h] at q ⊢
  refine bH ⟨_,rfl,_,rfl,ws,ls,rfl,_,_,rfl,rfl,trivial,?_⟩
  simpa using q
 ·rw [bh5 h] at q ⊢
  exact bD ⟨trivial,by simpa using q⟩
noncomputable def bA (n:Nat) (ns:List Int):Bool:=iJ ns && (ns.map (inB n)).all id
noncomputable def sT:bL:=fun xs Q=>∃ ws ls x ns,xs = [bG ws ls,x]/\fP x ns/\ns.length<=1000/\Q (.bl (bA ws.length ns))
noncomputable def Y1:aK:=(bN (lD (aD xO (a7 (a5 1) a9)) (aD wK (a7 (fL (fJ (a5 1)) [none,some 0] (cK 0) eQ (aD sS (a7 (a5 1) (a7 (a5 0) a9)))) a9))))
theorem xP {x:PV}{ns:List Int} (h:fP x ns):(Slot.sh (flat x) x).tag = .rd->flat x=true:=by
 cases flat x <;> intro z <;> cases z
theorem aM0:cR Y1 ["web","numbers"] sT:=by
 rintro xs Q ⟨ws,ls,x,ns,rfl,hx,hl,q⟩
 refine⟨_,rfl,x,ns,rfl,hx,hl,_,rfl,?_⟩
 unfold bA at q
 cases h:iJ ns with
 | false=>rw [h] at q; exact bD ⟨trivial,q⟩
 | true=>
  rw [h] at q
  refine bH ⟨_,rfl,_,hx.seq,xP hx,by rw [bP]; omega,fun i acc=>acc=(((ns.take i).map (inB ws.length)).map PV.bl),rfl,?_,?_⟩
  ·rintro i y acc hy rfl
   obtain ⟨n,rfl,hn⟩:=kK hy
   have tk:((ns.take (i+1)).map (inB ws.length)).map PV.bl=((ns.take i).map (inB ws.length)).map PV.bl ++ [PV.bl (inB ws.length n)]:=by rw [sQ hn,bk4]; rfl
   exact⟨_,rfl,_,rfl,ws,ls,n,rfl,trivial,tk.symm⟩
  ·rintro acc rfl
   rw [bP,bs5]
   exact⟨_,rfl,trivial,by simpa using q⟩
theorem fP.noscr {x:PV}{ns:List Int} (h:fP x ns):∀ ms,([x]:List PV) ≠ [.scr ms]:=by
 rcases h with rfl | rfl <;> intro ms z <;> cases z
structure DS (ps:List (aI × PV)) (S:List Int):Prop where
 has:∀ i:Int,(cQ ps (Sum.inl i:aI)).isSome=decide (i ∈ S)
 len:ps.length<=S.length
 fl:flats (ps.map (·.2))=true
theorem DS.nil:DS [] []:=⟨fun i=>rfl,bh0 _,rfl⟩
section
variable {κ : Type} [DecidableEq κ]
theorem jS {p:κ × PV}{r:List (κ × PV)}{k:κ} (e:p.1=k):cQ (p :: r) k=some p.2:=by simp [cQ,bs2,e]
theorem jT {p:κ × PV}{r:List (κ × PV)}{k:κ} (e : ¬ p.1=k):cQ (p :: r) k=cQ r k:=by simp [cQ,bs2,e]
theorem sU (k:κ):∀ kvs:List (κ × PV),(kvs.any fun kv=>decide (kv.1=k))=(cQ kvs k).isSome
 | []=>rfl
 | p :: r=>by
  rw [List.any_cons]
  by_cases e:p.1=k
  ·simp only [jS e,bg8 e,Bool.true_or,Option.isSome_some]
  ·rw [jT e,bh5 e,Bool.false_or]; exact sU k r
theorem Y2 (k j:κ) (y:PV):∀ kvs:List (κ × PV),cQ (kvs.map fun kv=>if kv.1=k then (kv.1,y) else kv) j=(cQ kvs j).map fun x=>if j=k then y else x
 | []=>rfl
 | p :: r=>by
  have ih:=Y2 k j y r
  rw [bm4]
  by_cases h:p.1=k
  ·rw [if_pos h]
   by_cases e:p.1=j
   ·rw [jS (p:=(p.1,y)) e,jS e,Option.map_some,if_pos (e.symm.trans h)]
   ·rw [jT (p:=(p.1,y)) e,jT e,ih]
  ·rw [if_neg h]
   by_cases e:p.1=j
   ·rw [jS (p:=p) e,jS e,Option.map_some,if_neg (fun z=>h (e.trans z))]
   ·rw [jT (p:=p) e,jT e,ih]
theorem Y3 (k j:κ) (y:PV):∀ kvs:List (κ × PV),cQ kvs k=none->cQ (kvs ++ [(k,y)]) j=if j=k then some y else cQ kvs j
 | [],_=>by
  by_cases e:k=j
  ·rw [if_pos e.symm]; exact jS (p:=(k,y)) e
  ·rw [if_neg (fun z=>e z.symm)]; exact jT (p:=(k,y)) e
 | p :: r,hn=>by
  rw [List.cons_append]
  have hk : ¬ p.1=k:=fun z=>by rw [jS z] at hn; cases hn
  rw [jT hk] at hn
  have ih:=Y3 k j y r hn
  by_cases e:p.1=j
  ·rw [jS e,jS e,if_neg (fun z=>hk (e.trans z))]
  ·rw [jT e,jT e,ih]
theorem aM1 (kvs:List (κ × PV)) (k j:κ) (y:PV):cQ (fM kvs k y) j=if j=k then some y else cQ kvs j:=by
 unfold fM
 by_cases a:(kvs.any fun kv=>decide (kv.1=k))=true
 ·rw [if_pos a,Y2]
  rw [sU] at a
  by_cases e:j=k
  ·obtain ⟨x,hx⟩:=Option.isSome_iff_exists.mp a
   rw [if_pos e,e,hx,Option.map_some,if_pos rfl]
  ·rw [if_neg e]
   cases cQ kvs j with
   | none=>rfl
   | some x=>rw [Option.map_some,if_neg e]
 ·rw [if_neg a]
  refine Y3 k j y kvs ?_
  rw [sU] at a
  cases q:cQ kvs k with
  | none=>rfl
  | some x=>rw [q] at a; exact (a rfl).elim
theorem aM2 (kvs:List (κ × PV)) (k:κ) (v:PV):(fM kvs k v).length<=kvs.length+1:=by
 unfold fM
 split
 ·rw [bh1]; omega
 ·rw [bi4,bj5,List.length_nil]; omega
end
theorem Y4:∀ (xs:List PV),flats xs=true ↔ ∀ x ∈ xs,flat x=true
 | []=>by simp [flats]
 | x :: r=>by
  unfold flats
  rw [bl6,Y4 r]; simp
theorem aM3 {κ:Type} [DecidableEq κ] {ps:List (κ × PV)}{k:κ}{v:PV}{p:κ × PV} (h:p ∈ fM ps k v):p.2=v ∨ p ∈ ps:=by
 unfold fM at h
 split at h
 ·obtain ⟨q,hq,e⟩:=bi8.mp h
  split at e
  ·subst e; exact .inl rfl
  ·subst e; exact .inr hq
 ·rcases bh6.mp h with h | h
  ·exact .inr h
  ·rw [bg6.mp h]; exact .inl rfl
theorem aM4 {κ:Type} [DecidableEq κ] {ps:List (κ × PV)}{k:κ}{v:PV} (h:flats (ps.map (·.2))=true) (hv:flat v=true):flats ((fM ps k v).map (·.2))=true:=by
 rw [Y4] at h ⊢
 intro x hx
 obtain ⟨p,hp,rfl⟩:=bi8.mp hx
 rcases aM3 hp with e | e
 ·rw [e]; exact hv
 ·exact h _ (bi8.mpr ⟨p,e,rfl⟩)
theorem DS.put {ps:List (aI × PV)}{S:List Int} (h:DS ps S) (x:Int) (v:PV) (hv:flat v=true):DS (fM ps (Sum.inl x:aI) v) (S ++ [x]):=by
 refine⟨fun i=>?_,?_,aM4 h.fl hv⟩
 ·rw [aM1]
  by_cases e:i=x
  ·subst e; rw [if_pos rfl]; simp
  ·rw [if_neg (fun z=>e (Sum.inl.inj z)),h.has]
   simp [e]
 ·have:=aM2 ps (Sum.inl x:aI) v
  have:=h.len
  rw [bi4,bk8]; omega
noncomputable def nH:bL:=fun xs Q=>∃ x ns,xs = [x]/\fP x ns/\ns.length<=1000/\∀ ps,DS ps ns->Q (.dK ps)
noncomputable def Y5:aK:=(aB (dB 1 (qC (.dK [])))
 (aB (dY (fJ (a5 0)) (cK 2)
  (rO 1 (a5 2) (qC (.bl true))))
 (kB 1)))
theorem aM5:cR Y5 ["hearths","inside","hearth"] nH:=by
 rintro xs Q ⟨x,ns,rfl,hx,hl,q⟩
 refine⟨rfl,rfl,_,rfl,_,hx.seq,xP hx,fun i ρ=>∃ y ps,ρ = [some (.sh (flat x) x),some (.own (.dK ps)),y]/\DS ps (ns.take i),⟨none,[],rfl,DS.nil⟩,?_,?_⟩
 ·rintro i y ρ hy ⟨y0,ps,rfl,d⟩
  obtain ⟨n,rfl,hn⟩:=kK hy
  have hlen:=d.len
  rw [br4] at hlen
  refine⟨_,rfl,_,rfl,Sum.inl n,rfl,trivial,by omega,_,_,rfl,?_⟩
  rw [bo2,hn]
  exact d.put n _ rfl
 ·rintro ρ ⟨y,ps,rfl,d⟩
  rw [bP,bs5] at d
  exact⟨_,rfl,trivial,q ps d⟩
noncomputable def dR (n:Nat) (ls:List (Int × Int)):List PV:=(List.range n).map fun (k:Nat)=>PV.lst (intz (aR ls k))
noncomputable def jU:bL:=fun xs Q=>∃ ws ls,xs = [bG ws ls]/\Wb ws ls/\Q (.lst (dR ws.length ls))
theorem xQ {n:Nat}{ls:List (Int × Int)}{h:Int} (h0:0<=h) (h1:h < (n:Int)):atI (dR n ls) h=some (.lst (intz (aR ls h))):=by
 refine mO h0 ?_
 unfold dR
 rw [bh9,List.getElem?_range (by omega)]
 show some (PV.lst (intz (aR ls ((h.toNat:Nat):Int))))=_
 rw [show ((h.toNat:Nat):Int)=h by omega]
theorem aM6 {ws:List Int}{h:Int} (h0:0<=h) (h1:h < (ws.length:Int)):atI (intz ws) h=some (.int (ws.getD h.toNat 0)):=by
 refine mO h0 ?_
 have:h.toNat < ws.length:=by omega
 rw [bh9,bh7,bg7 this]; rfl
noncomputable def tups (rs:List (List Int)):List PV:=rs.map fun r=>PV.tup (intz r)
theorem sV (rs:List (List Int)):(tups rs).length=rs.length:=bh1 _
theorem fQ {n:Nat}{ns:List Int} (h:bA n ns=true):iJ ns=true/\∀ x ∈ ns,0<=x/\x < (n:Int):=by
 unfold bA at h
 rw [bl6,br5] at h
 refine⟨h.1,fun x hx=>?_⟩
 have:=h.2 _ (bi8.mpr ⟨x,hx,rfl⟩)
 unfold inB at this
 simpa using this
theorem sW {n:Nat}{ns:List Int} (h:bA n ns=true):ns.length<=n:=by
 obtain ⟨h1,h2⟩:=fQ h
 have:=aL7 (ws:=List.replicate n (0:Int)) (gE h1) (by rw [bq4]; exact h2)
 rw [bq4] at this
 omega
end Core
namespace PP
open PySem L2
noncomputable def sX (te:aF):aF:=fun ρ Q=>te ρ fun x _=>∃ n:Int,x = .int n/\0<=n/\n<=1000000/\Q (.lst (fB 0 n.toNat)) .fr
noncomputable def sY:List PV->(PV->Prop)->Prop:=fun xs Q=>∃ ys:List (List Int),xs = [.lst (ys.map fun r=>PV.tup (intz r))]/\ys.length < 64/\(∀ y ∈ ys,y ≠ [])/\∀ zs:List (List Int),zs.Perm ys->zs.Pairwise (fun u v=>HT.dA v u=false)->Q (.lst (zs.map fun r=>PV.tup (intz r)))
end PP
namespace Core
open PySem L2 PP
theorem aM7 (g:Tg) (n:Int):Nw g (.int n):=by cases g <;> first | exact trivial | rfl
noncomputable def pO (x:PV) (ns:List Int):Prop:=x = .scr ns ∨ x = .lst (intz ns)
theorem pO.seq {x:PV}{ns:List Int} (h:pO x ns):lG x=some (intz ns):=by rcases h with rfl | rfl <;> rfl
theorem pO.len {x:PV}{ns:List Int} (h:pO x ns):P5 x=some ns.length:=by
 rcases h with rfl | rfl
 ·rfl
 ·show some (intz ns).length=_
  rw [bP]
noncomputable def eD:bL:=fun xs Q=>∃ x ns k,xs = [x,.int k]/\pO x ns/\0<=k/\Q (.int (ns.getD k.toNat 0))
noncomputable def Y6:aK:=(aB (bX (aZ (p7 (a5 1) (aD dJ (a7 (a5 0) a9)))) (bN (b7 (a5 0) (a5 1))) cF)
 (bN (qC (.int 0))))
theorem aM8:cR Y6 ["script","k"] eD:=by
 rintro xs Q ⟨x,ns,k,rfl,hx,h0,q⟩
 refine⟨_,rfl,_,rfl,_,_,rfl,hx.len,_,_,rfl,rfl,_,rfl,?_⟩
 by_cases h:k < (ns.length:Int)
 ·rw [bg8 h]
  exact bH ⟨_,rfl,_,rfl,_,_,_,hx.seq,rfl,aM6 h0 h,aM7 _ _,q⟩
 ·rw [bh5 h]
  rw [bh7,List.getElem?_eq_none (by omega)] at q
  exact bD ⟨trivial,q⟩
noncomputable def bE (ls:List (Int × Int)):List PV:=ls.map fun l=>PV.tup [.int l.1,.int l.2]
theorem xR (ls:List (Int × Int)):(bE ls).length=ls.length:=bh1 _
noncomputable def iK (l m:Int × Int):Prop:=l.1 < m.1 ∨ (l.1=m.1/\l.2 < m.2)
noncomputable abbrev si (n:Int):Option Slot:=some (.sh true (.int n))
noncomputable def sZ:bL:=fun xs Q=>∃ i,xs = [.int i]/\Q (.bl true)
noncomputable def Y7 (K:PySem.W.Frag):aK:=(bN (lD (iH K "int" (a5 0)) (rK (iH K "bool" (a5 0)))))
theorem aM9 {K:PySem.W.Frag} (k1:PySem.W.kitOne K (.type "int") (.type "int")=some true) (k2:PySem.W.kitOne K (.type "int") (.type "bool")=some false):cR (Y7 K) ["found"] sZ:=by
 rintro xs Q ⟨i,rfl,q⟩
 exact⟨_,rfl,_,_,rfl,k1,_,rfl,bH ⟨_,rfl,_,_,rfl,k2,_,rfl,trivial,q⟩⟩
theorem aN0 {ls:List (Int × Int)}{i:Nat}{x:PV} (h:(bE ls)[i]? = some x):∃ l,x = .tup [.int l.1,.int l.2]/\ls[i]? = some l:=by
 unfold bE at h
 rw [bh9] at h
 cases e:ls[i]? with
 | none=>rw [e] at h; cases h
 | some n=>rw [e] at h; exact⟨n,(bj9 h).symm,rfl⟩
end Core
namespace PP
open PySem L2 PyProof.Rows
theorem Reps.rep {K:PySem.W.Frag}{M:Addr->Prop}{H:Hp}{us:List V}{xs:List PV} (r:Reps K M H us xs):∀ k:Nat,Reps K M H (List.replicate k us).flatten (List.replicate k xs).flatten
 | 0=>.nil
 | k+1=>by rw [bn3,bn3,bs8,bs8]; exact r.append (Reps.rep r k)
section
variable {X : Cx} {a b e : Expr} {ta tb te : aF} {tr : cW} {pos p2 p3 pos2 : Pos}
theorem aN1 {tA:TA} (hg:Gl X "range") (hm:X.mg "range" = none) (ha:PA X [a] tA) (hs:starEach [a] X.env = [(false,eval a X.env)]:=by rfl) :
  PE X (.Call (.Name "range" p2) [a] [] pos) (fun σ H Q=>tA σ H fun vs H1=>∃ j:Int,vs = [.int j]/\∀ r,H1 r=none->Q (.ref r) (upd H1 r (.rng 0 j))):=by
 intro pins s σ H Q I h
 refine Call_ (j4 I hg hm boot_range (bo3 (aO (ha pos pins s σ H _ I h) fun us s1 ⟨vs,H1,I1,r1,q1⟩=>?_) hs rfl))
 obtain ⟨j,e,q⟩:=q1
 subst e
 cases r1 with
 | cons r rr=>
  cases rr
  obtain ⟨t,rfl⟩:=r
  refine call_range_1 ?_
  exact⟨.ref s1.heap.objs.size,_,I1.laid (o:=.rng 0 j) (fun b ob q=>bg4 _ q) (bh0 _) ⟨_,_,_,bi6 _ rfl⟩,rfl,q _ (I1.hok.fresh (bh0 _))⟩
theorem Y8:∀ {xs:List V}{us:List Value},xs.length=us.length->(∀ (i:Nat) x u,xs[i]? = some x->us[i]? = some u->aV x u)->aM xs us
 | [],[],_,_=>.nil
 | x :: xs,u :: us,hl,h=>.cons (h 0 x u rfl rfl) (Y8 (by simpa using hl) fun i y w h1 h2=>h (i+1) y w (by rw [bq9]; exact h1) (by rw [bq9]; exact h2))
theorem aN2 {n:Nat}{acc:Array Value} (h:ItemsOf (fun i v=>∃ t,v = .int (0+(i:Int) * 1) t) acc n):aM (jF 0 n) acc.toList:=by
 obtain ⟨h1,h2⟩:=h
 refine Y8 (by rw [vN]; simp [h1]) fun i x u hx hu=>?_
 have hi:i < n:=by
  have:=(bh3.mp hx).1
  rwa [vN] at this
 unfold jF at hx
 rw [bh9,List.getElem?_range hi] at hx
 cases hx
 obtain ⟨t,rfl⟩:=h2 i u (by rw [<- br9]; exact hu)
 exact⟨t,by congr 1; omega⟩
theorem aN3 (hc:X.calm=true):dI X (.type "list") (fun xs H Q=>∃ r j,xs = [.ref r]/\H r=some (.rng 0 j)/\0<=j/\j<=1000000/\∀ l,H l=none->Q (.ref l) (upd H l (.lst (jF 0 j.toNat)))):=by
 intro pins s σ H xs us Q I r h
 obtain ⟨p,j,rfl,hq,h0,h1,q⟩:=h
 obtain ⟨u,rfl,rx⟩:=j8 r
 cases rx
 obtain ⟨t,u,v,ho⟩:=(show bT X.prog X.w H s.heap p (.rng 0 j) from I.hok p _ hq)
 refine PySem.call_list_range (a:=0) (b:=j) (c:=1) (n:=j.toNat) (I.ok.hd hc) ho (small_one (by decide) (by decide) (by omega) (by omega)) (by rw [rangeSize_one]; split <;> omega) (by omega) fun h' tk acc' c' kp e it=>?_
 have vv:=aN2 it
 have eq:acc'.toList.toArray=acc':=by simp
 exact⟨.ref s.heap.objs.size,_,I.laid (t':=tk) (o:=.lst (jF 0 j.toNat)) kp (bh0 _) ⟨by rw [vN]; exact lim (by omega),acc'.toList,c',vv,by rw [eq]; exact e⟩,rfl,q _ (I.hok.fresh (bh0 _))⟩
theorem aN4 {K:PySem.W.Frag}{M:Addr->Prop}{H:Hp} (lo:Int) (n:Nat):Reps K M H (jF lo n) (fB lo n):=by
 unfold jF fB
 generalize List.range n=l
 induction l with
 | nil=>exact .nil
 | cons a r ih=>exact .cons (.int _) ih
theorem xS (B:Bt X.mg) (ha:QE X a ta) (hc:X.calm=true:=by rfl) (hg:Gl X "list":=by rfl) (hgr:Gl X "range":=by rfl) (hs:starEach [a] X.env = [(false,eval a X.env)]:=by rfl)
  (he:starEach [.Call (.Name "range" p3) [a] [] pos2] X.env=(false,eval (.Call (.Name "range" p3) [a] [] pos2) X.env) :: starEach [] X.env:=by rfl) (hpl:(backTo pos (starEach [] X.env)).any (·.1)=false:=by rfl) :
  QE X (.Call (.Name "list" p2) [.Call (.Name "range" p3) [a] [] pos2] [] pos) (sX ta):=
 cH (E5 (aN3 hc) hg B.list PyProof.Rows.boot_list (cO (aN1 hgr B.range (cO ha dL hs) hs) dL he) (he:=he) (hpl:=hpl)) fun σ H Q' h=>by
  obtain ⟨W,ρ,Q,px,q,k⟩:=h
  refine⟨W,ρ,_,px,q,?_⟩
  rintro v H1 x g s r ⟨n,rfl,h0,h1,q⟩
  cases r
  refine⟨n,rfl,fun r hr=>⟨r,n,rfl,bK,h0,h1,fun l hl=>?_⟩⟩
  have S:aA H (upd (upd H1 r (.rng 0 n)) l (.lst (jF 0 n.toNat))):=(s.trans (bI hr _)).trans (bI hl _)
  exact k _ _ _ .fr S (.lst (((s.trans (bI hr _))).free hl) bK (aN4 0 n.toNat)) q
noncomputable def xT:V->Int
 | .int i=>i
 | _=>0
noncomputable def iL (H:Hp):V->List Int
 | .ref a=>match H a with
  | some (.tup us)=>us.map xT
  | _=>[]
 | _=>[]
theorem aN5 {H:Hp}{a:Addr}{ns:List Int} (h:H a=some (.tup (ns.map V.int))):iL H (.ref a)=ns:=by
 show (match H a with | some (.tup us)=>us.map xT | _=>[])=ns
 rw [h]
 show (ns.map V.int).map xT=ns
 rw [bq7]
 exact List.map_id _
theorem t5 {K:PySem.W.Frag}{M:Addr->Prop}{H:Hp}:∀ {us:List V}{ys:List (List Int)},Reps K M H us (ys.map fun r=>PV.tup (intz r))->us.map (iL H)=ys/\∀ u ∈ us,∃ b,u = .ref b/\H b=some (.tup ((iL H u).map V.int))
 | _,[],.nil=>⟨rfl,fun u h=>nomatch h⟩
 | _,y :: ys,.cons r t=>by
  obtain ⟨a,us,rfl,h,r1⟩:=r.sqT
  obtain rfl:=r1.ofInts
  obtain ⟨h1,h2⟩:=t5 t
  have hk:=aN5 h
  refine⟨by rw [bm4,h1,hk],fun u hu=>?_⟩
  rcases bi0.mp hu with rfl | hu
  ·exact⟨a,rfl,by rw [hk]; exact h⟩
  ·exact h2 u hu
theorem t6 {K:PySem.W.Frag}{M:Addr->Prop}{H:Hp}:∀ {us:List V},(∀ u ∈ us,∃ b,u = .ref b/\H b=some (.tup ((iL H u).map V.int)))->Reps K M H us ((us.map (iL H)).map fun r=>PV.tup (intz r))
 | [],_=>.nil
 | u :: us,h=>by
  obtain ⟨b,rfl,hb⟩:=h u bh2
  exact .cons (.tup hb (Reps.intz _)) (t6 fun v hv=>h v (bh8 _ hv))
theorem aN6:hV X sY (M8 X.K):=by
 rintro H vs xs Q Q' r ⟨ys,rfl,hl,hne,q⟩ k
 obtain ⟨v,rfl,r1⟩:=r.one
 obtain ⟨a,us,rfl,_,h,r2⟩:=r1.sqL
 obtain ⟨h1,h2⟩:=t5 r2
 have lr:=r2.length
 rw [bh1] at lr
 refine⟨a,us,iL H,rfl,aN.of h,by omega,fun y hy=>?_,fun l zs hl' pm so=>?_⟩
 ·obtain ⟨b,rfl,hb⟩:=h2 y hy
  refine⟨b,rfl,aJ.of hb,hne _ ?_⟩
  rw [<- h1]; exact bi8.mpr ⟨_,hy,rfl⟩
 ·have hz:∀ u ∈ zs,∃ b,u = .ref b/\H b=some (.tup ((iL H u).map V.int)):=fun u hu=>h2 u (pm.mem_iff.mp hu)
  refine k _ _ _ (bI hl' _) (.lst hl' bK ((t6 hz).same (bI hl' _) fun _ z=>z)) (q _ ?_ ?_)
  ·rw [<- h1]; exact pm.map _
  ·rw [bp4]; exact so
theorem aN7 (B:Bt X.mg) (ha:QA X [e] tr) (hg:Gl X "sorted":=by rfl) (he:starEach [e] X.env=(false,eval e X.env) :: starEach [] X.env:=by rfl) (hpl:(backTo pos (starEach [] X.env)).any (·.1)=false:=by rfl):QE X (.Call (.Name "sorted" p2) [e] [] pos) (aD sY tr):=
 kG ax1 aN6 hg B.sorted PyProof.Rows.boot_sorted ha (he:=he) (hpl:=hpl)
end
noncomputable def Y9 (K:PySem.W.Frag):Sp:=fun vs H Q _=>∃ (a:Addr) (ns:List Int),vs = [.ref a]/\(aJ K H a (ns.map V.int) ∨ aN K H a (ns.map V.int))/\ns.length<=1000/\∀ H',aA H H'->Q (.bl (Core.iJ ns)) H'
noncomputable def t7:Sp:=fun vs H Q _=>∃ v ws ls,vs = [v]/\N3 H v ws ls/\ws.length<=1000/\ls.length<=2000/\(∀ l ∈ ls,(0<=l.1/\l.1 < ws.length)/\0<=l.2/\l.2 < ws.length)/\
 ∀ (r:Addr) (bs:List Addr) (H':Hp),bs.length=ws.length->iD H H' r bs (fun k=>aR ls k)->Q (.ref r) H'
section
variable {P : Program} {w : World} {K : PySem.W.Frag} {mg : Str → Option Value} {base : Heap} {f : Addr} {fd : FuncData} {k : Nat}
theorem aN8 (F:cP P w K mg base dQ k f fd ["things"] (Y9 K)) (b:iA K fd ["things"] []) (kp:PySem.W.keepIn K (.ref f)=true) (m:mg "rises" = some (.ref f)):Df P w K mg base k "rises" ["things"] Core.xO:=by
 refine⟨f,fd,F.imp fun vs H Q E h=>?_,b,kp,m⟩
 obtain ⟨xs,Qp,r,⟨x,ns,rfl,hx,hl,q⟩,k⟩:=h
 obtain ⟨v,rfl,r1⟩:=r.one
 rcases hx with rfl | rfl
 ·obtain ⟨a,us,rfl,h,r2⟩:=r1.sqT
  obtain rfl:=r2.ofInts
  exact⟨a,ns,rfl,.inl (aJ.of h),hl,fun H' s=>k _ H' _ s (.bl _) q⟩
 ·obtain ⟨a,us,rfl,_,h,r2⟩:=r1.sqL
  obtain rfl:=r2.ofInts
  exact⟨a,ns,rfl,.inr (aN.of h),hl,fun H' s=>k _ H' _ s (.bl _) q⟩
theorem Z0 {M:Addr->Prop}{H:Hp}:∀ {us:List V}{ls:List (Int × Int)},Reps K M H us (ls.map fun l=>PV.tup [.int l.1,.int l.2])->oO H us ls
 | _,[],.nil=>.nil
 | _,l :: ls,.cons r t=>by
  obtain ⟨a,us,rfl,h,r1⟩:=r.sqT
  obtain ⟨u1,u2,rfl,q1,q2⟩:=r1.two
  cases q1; cases q2
  exact .cons ⟨a,rfl,h⟩ (Z0 t)
theorem Z1 {M:Addr->Prop}{H:Hp}{v:V}{ws:List Int}{ls:List (Int × Int)} (r:aH K M H v (Core.bG ws ls)):N3 H v ws ls:=by
 obtain ⟨a,us,rfl,h,r1⟩:=aH.sqT r
 obtain ⟨u1,u2,rfl,q1,q2⟩:=r1.two
 obtain ⟨p,up,rfl,hp,rp⟩:=q1.sqT
 obtain ⟨q,uq,rfl,hq,rq⟩:=q2.sqT
 obtain rfl:=rp.ofInts
 exact⟨a,p,q,uq,rfl,h,hp,hq,Z0 rq⟩
theorem xV {M:Addr->Prop}{H:Hp}:∀ {bs:List Addr}{ls:List (Int × Int)} (off:Nat),(∀ b ∈ bs,M b)->(∀ (k:Nat) b,bs[k]? = some b->H b=some (.lst ((aR ls ((off+k:Nat):Int)).map V.int)))->Reps K M H (bs.map V.ref) ((List.range' off bs.length).map fun (k:Nat)=>PV.lst (intz (aR ls k)))
 | [],_,_,_,_=>.nil
 | b :: bs,ls,off,hm,h=>by
  refine .cons (.lst (hm b bh2) (h 0 b rfl) (Reps.intz _)) (xV (off+1) (fun c hc=>hm c (bh8 _ hc)) fun k c hk=>?_)
  have:=h (k+1) c (by rw [bq9]; exact hk)
  rw [show off+1+k=off+(k+1) by omega]; exact this
theorem aN9 (F:cP P w K mg base dQ k f fd ["web"] t7) (b:iA K fd ["web"] []) (kp:PySem.W.keepIn K (.ref f)=true) (m:mg "near_lists" = some (.ref f)):Df P w K mg base k "near_lists" ["web"] Core.jU:=by
 refine⟨f,fd,F.imp fun vs H Q E h=>?_,b,kp,m⟩
 obtain ⟨xs,Qp,r,⟨ws,ls,rfl,wb,q⟩,k⟩:=h
 obtain ⟨v,rfl,r1⟩:=r.one
 have:=wb.few
 have:=wb.most
 refine⟨v,ws,ls,rfl,Z1 r1,by omega,by omega,wb.links,fun t bs H' hb R=>k _ H' _ R.same (.lst R.new R.row ?_) q⟩
 have:=xV (K:=K) (M:=fun a=>H a=none) (H:=H') (bs:=bs) (ls:=ls) 0 (fun b hb=>(R.news b hb).1) fun k b hk=>by rw [Nat.zero_add]; exact R.rows k b hk
 rw [hb,<- List.range_eq_range'] at this
 exact this
end
end PP
namespace Core
open PySem L2 PP
theorem aO0 (n:Nat):fB 0 n=intz (rng n):=by
 unfold fB rng
 show _=List.map PV.int (List.map (fun (i:Nat)=>(i:Int)) (List.range n))
 rw [bq7]
 refine List.map_congr_left fun i _=>?_
 show PV.int (0+(i:Int))=PV.int (i:Int)
 rw [Int.zero_add]
noncomputable def two (l:Int × Int):List Int:=[l.1,l.2]
noncomputable def pP (r:List Int):Int × Int:=(r.getD 0 0,r.getD 1 0)
theorem lW (ls:List (Int × Int)):bE ls=(ls.map two).map fun r=>PV.tup (intz r):=by
 unfold bE
 rw [bq7]; rfl
theorem xW {zs:List (List Int)}{ls:List (Int × Int)} (h:zs.Perm (ls.map two)):∃ ls':List (Int × Int),zs=ls'.map two/\ls'.Perm ls:=by
 refine⟨zs.map pP,?_,?_⟩
 ·rw [bq7]
  have:∀ z ∈ zs,(two ∘ pP) z=z:=fun z hz=>by
   obtain ⟨l,_,rfl⟩:=bi8.mp (h.mem_iff.mp hz)
   rfl
  rw [List.map_congr_left this,List.map_id']
 ·have:=h.map pP
  rw [bq7] at this
  have e:ls.map (pP ∘ two)=ls:=by
   have:∀ l ∈ ls,(pP ∘ two) l=id l:=fun l _=>rfl
   rw [List.map_congr_left this,List.map_id]
  rw [e] at this
  exact this
theorem Z2 {ls:List (Int × Int)} (so:(ls.map two).Pairwise fun u v=>HT.dA v u=false) (nd:ls.Nodup):ls.Pairwise iK:=by
 rw [bp4] at so
 refine (List.pairwise_and_iff.mpr ⟨so,nd⟩).imp fun {a b} h=>?_
 obtain ⟨h1,h2⟩:=h
 unfold two at h1
 rw [HT.kZ] at h1
 unfold iK
 by_cases e:b.1=a.1
 ·rw [if_pos e,HT.kZ] at h1
  by_cases e2:b.2=a.2
  ·exact absurd (Prod.ext e.symm e2.symm) h2
  ·rw [if_neg e2] at h1
   have:=of_decide_eq_false h1
   omega
 ·rw [if_neg e] at h1
  have:=of_decide_eq_false h1
  omega
structure pQ (i:Int) (ms:List Int):Prop where
 up:ms.Pairwise (· < ·)
 inn:∀ x ∈ ms,0<=x/\x < i
 len:(ms.length:Int)<=i
theorem pQ.set {n:Nat}{ms:List Int} (h:pQ (n:Int) ms):bA n ms=true:=by
 unfold bA
 rw [xN h.up,Bool.true_and,br5]
 intro b hb
 obtain ⟨x,hx,rfl⟩:=bi8.mp hb
 have:=h.inn x hx
 unfold inB
 simp [this]
theorem Z3:∀ {a b:List Int},a.Perm b->a.Pairwise (· <= ·)->b.Pairwise (· <= ·)->a=b:=by
 intro a b h ha hb
 exact h.eq_of_pairwise (fun x y _ _ h1 h2=>Int.le_antisymm h1 h2) ha hb
noncomputable def Z4:bL:=fun xs Q=>∃ ns:List Int,xs = [.scr ns]/\ns.length<=63/\Q (.bl true)
structure aO1 (K:PySem.W.Frag):Prop where
 ii:PySem.W.kitOne K (.type "int") (.type "int")=some true
 ib:PySem.W.kitOne K (.type "int") (.type "bool")=some false
 tt:PySem.W.kitOne K (.type "tuple") (.type "tuple")=some true
 ll:PySem.W.kitOne K (.type "list") (.type "list")=some true
 bb:PySem.W.kitOne K (.type "bool") (.type "bool")=some true
theorem nI (K:PySem.W.Frag):aO1 K:=by
 have same:∀ n:String,PySem.W.kitMeta n=true->True:=fun _ _=>trivial
 refine⟨?_,?_,?_,?_,?_⟩
 ·unfold PySem.W.kitOne; rw [if_pos (by decide)]
 ·have e:(if PySem.W.kitMeta "bool" = true then (fastBuiltinMro "int").map (·.contains (Value.type "bool")) else none)=some false:=by decide +kernel
  unfold PySem.W.kitOne
  rw [if_neg (by decide)]
  exact e
 ·unfold PySem.W.kitOne; rw [if_pos (by decide)]
 ·unfold PySem.W.kitOne; rw [if_pos (by decide)]
 ·unfold PySem.W.kitOne; rw [if_pos (by decide)]
end Core
namespace PP
open PySem L2 PyProof.Rows
theorem aO2 {P:Program}{w:World}{K:PySem.W.Frag}{mg:Str->Option Value}{base:Heap}{k:Nat}{x:Str}{ps N:List Str}{p:bL}{st:Stmt}{f:Addr}{fd:FuncData} (F:eZ K x x st f fd) (S:FnScope N ps (aY st))
  (len:∀ xs Q,p xs Q->xs.length=ps.length)
  (body:∀ (cdv:Value) (A:Around) (outer:List Env) (s:Shared) (H:Hp) (E:XK),cA k (A.deeper (envOfC x (aY st) s.heap.objs.size f cdv))->
   ∃ t,fD (dM dQ P w K mg base N x (aY st) f cdv A outer s H E).nox (eY st) t/\∀ xs Q,p xs Q->t { nx:=fun _=>Q .non,rt:=Q } (gA N xs)):cP P w K mg base dQ (k+1) f fd ps (oT K p):=by
 refine F.ok S (fun vs H Q E h=>?_) (fun cdv A outer s H vs Q E hr h=>?_)
 ·obtain ⟨xs,Qp,r,q,_⟩:=h
  rw [r.length]; exact len xs Qp q
 ·obtain ⟨xs,Qp,r,q,k⟩:=h
  obtain ⟨t,ht,hq⟩:=body cdv A outer s H E hr
  refine⟨_,ht,fun _=>False,gA N xs,_,x4 r,hq xs Qp q,?_,?_,?_,?_⟩
  ·exact fun W' σ' H' ρ' e px q=>k _ _ _ px.same .non q
  ·exact fun v H' x s r q=>k _ _ _ s r q
  ·exact fun W' σ' H' ρ' e px q=>q
  ·exact fun W' σ' H' ρ' e px q=>q
noncomputable def t8 (K:PySem.W.Frag):Sp:=fun vs H Q _=>∃ (a:Addr) (ns:List Int),vs = [.ref a]/\jH K H a ns/\ns.length<=63/\∀ H',Q (.bl true) H'
theorem aO3 {P:Program}{w:World}{K:PySem.W.Frag}{mg:Str->Option Value}{base:Heap}{k:Nat}{f:Addr}{fd:FuncData} (F:cP P w K mg base dQ k f fd ["script"] (oT K Core.Z4)):cP P w K mg base dQ k f fd ["script"] (t8 K):=
 F.imp fun vs H Q E h=>by
  obtain ⟨a,ns,rfl,hs,hl,q⟩:=h
  refine⟨[.scr ns],fun z=>z = .bl true,.cons (.scr hs) .nil,⟨ns,rfl,hl,rfl⟩,?_⟩
  rintro v H' x _ r rfl
  cases r
  exact q H'
theorem aO4 {K:PySem.W.Frag}{H:Hp}{a:Addr}{ns:List Int} (hO:qP H) (h:aN K H a (ns.map V.int)):jH K H a ns:=by
 rcases h with (h | ⟨o,h⟩) | h
 ·rcases hO a with e | ⟨o,xs,e⟩ <;> (rw [h] at e; cases e)
 ·exact .inl ⟨o,h⟩
 ·exact .inr h
end PP
namespace PyProof.Rows
open PySem
section
variable {prog : Program} {w : World} {A : Around} {E : Value → Shared → Prop} {s : Shared}
theorem Z5 {l:Addr}{vs:List Value}{Q:List Value->Shared->Prop} (hl:s.heap.IsTuple l vs.toArray)
  (h:Q vs { s with heap:=(s.heap.push (seqObj "list" #[] 0)).update s.heap.objs.size (Obj.mapSeq (· ++ vs.toArray)) }) (hsz:vs.length<=sizeLine) :
  wpAny (model prog w) A (collect (.ref l)) Q E s:=by
 obtain ⟨o,ho,hc,n,hd⟩:=id hl
 unfold collect
 refine bg3 (wpAny_runValue (codeAny_builtin entry_proto_collect' ?_))
 show wpAny _ _ (do again (.builtin "list.__iadd__" ⟨[<- newList [],.ref l],[]⟩)) _ _ s
 refine bg3 (bw8 (bh4 ⟨Code.quiet_builtin _ (by decide +kernel),codeAny_builtin entry_list_iadd' ?_⟩))
 show wpAny _ _ (Builtin.List.listExtendWith (.ref s.heap.objs.size) (.ref l) (.ref s.heap.objs.size)) _ _ { s with heap:=s.heap.push (seqObj "list" #[] 0) }
 unfold Builtin.List.listExtendWith
 have ho':(s.heap.push (seqObj "list" #[] 0)).get? l=some o:=bg4 _ ho
 refine bg3 (wpAny_typeOf (T:="tuple") ⟨o,ho',hc⟩ ?_)
 have ht:(Value.type "tuple" == Value.type "tuple")=true:=by rfl
 rw [if_pos (by rw [ht]; simp)]
 refine bg3 (listItems_at ho' hd ?_)
 refine bg3 (listItems_at (xs:=#[]) (n:=0) (bi6 _ rfl) rfl ?_)
 rw [if_neg (by simp)]
 refine bg3 (listUpdate_at (xs:=#[]) (n:=0) (bi6 _ rfl) rfl ?_ (bk7 _) (by show (#[] ++ vs.toArray).size<=sizeLine+1; simp only [Array.size_append,bg5,List.length_nil]; omega))
 refine bh4 ?_
 show wpAny (model prog w) A (do
   let o <- load s.heap.objs.size
   match o.data with
   | .seq xs _=>pure xs.toList
   | _=>unsupported "internal:collect") Q E { s with heap:=(s.heap.push (seqObj "list" #[] 0)).update s.heap.objs.size (Obj.mapSeq (· ++ vs.toArray)) }
 refine bg3 (wpAny_load (get?_update_seq (bi6 _ rfl) _) ?_)
 show wpAny _ _ (pure ((#[]:Array Value) ++ vs.toArray).toList) Q E _
 rw [show ((#[]:Array Value) ++ vs.toArray).toList=vs by simp]
 exact bh4 h
end
end PyProof.Rows
namespace Zp
open PySem PyProof.Rows
theorem aO5 (t b:Addr) (xs ys:Array Value) (n n2:Nat) (dd dd2:Option Addr) (sl sl2:Array (Option Value)) (hx:xs.isEmpty=true):Meets (Builtin.«tuple.__add__» ⟨[.ref t,.ref b],[]⟩)
  (fun _ R s=>s.heap.get? t=some { cls:=.type "tuple",dict:=dd,data:=.seq xs n,slots:=sl }/\s.heap.get? b=some { cls:=.type "tuple",dict:=dd2,data:=.seq ys n2,slots:=sl2 }/\R (.ok (.ret (.ref b))) s):=
 .of_wp fun prog w A R s h=>by
  obtain ⟨h1,h2,h⟩:=h
  have sub:isSubtype (Value.type "tuple") (Value.type "tuple")=pure true:=rfl
  wp_walk
  exact⟨_,rfl,h⟩
end Zp
namespace L2
open PySem PySem.Spec PyProof.Rows
section
variable {X : Cx}
noncomputable def Z6 (K:PySem.W.Frag):R2:=fun x y H Q=>∃ a b xs ys,x = .ref a/\y = .ref b/\aJ K H a xs/\aJ K H b ys/\xs.length+ys.length<=sizeLine/\
 (xs = []->Q (.ref b) H)/\(xs ≠ []->ys = []->Q (.ref a) H)/\(xs ≠ []->ys ≠ []->∀ p,H p=none->Q (.ref p) (upd H p (.tup (xs ++ ys))))
theorem aO6:cI X (binaryOp .Add) (Z6 X.K):=by
 intro pins s σ H x y v u Q I rx ry h
 obtain ⟨a,b,xs,ys,ex,ey,ha,hb,hz,q0,q1,q2⟩:=h
 by_cases hx:xs = []
 ·subst ex ey
  cases rx
  cases ry
  obtain ⟨its,r1,p1,_⟩:=I.tuple ha
  obtain ⟨its2,r2,p2,_⟩:=I.tuple hb
  have hi:its = []:=r1.nil_iff.mpr hx
  obtain ⟨⟨cls,dd,data,sl⟩,ho,hc,n,hd⟩:=id p1
  obtain ⟨⟨cls2,dd2,data2,sl2⟩,ho2,hc2,n2,hd2⟩:=id p2
  simp only at hc hd hc2 hd2
  subst hc hd hc2 hd2
  exact concat_meets ⟨_,ho,rfl⟩ ⟨_,ho2,rfl⟩ noFill_tuple_add seq_tuple_add PySem.F.slot_tuple_add PySem.F.entry_tuple_add (PySem.F.args_tuple_add_2 _ _)
   (Zp.aO5 a b its.toArray its2.toArray n n2 dd dd2 sl sl2 (by simp [hi])) ⟨ho,ho2,⟨.ref b,H,I,rfl,q0 hx⟩⟩
 ·exact as4 pins s σ H x y v u Q I rx ry ⟨a,b,xs,ys,ex,ey,ha,hb,hx,hz,q1 hx,q2 hx⟩
end
end L2
namespace PP
open PySem L2 PyProof.Rows
section
variable {X : Cx} {e : Expr} {te : aF} {pos p2 : Pos} {scope : Scope} {N : List Str} {fr : List (Option Nat)} {x y : Str} {tp xp yp : Pos} {kt : Nat} {iter elt : Expr} {ti : fI}
noncomputable abbrev t9 (x y:Str) (xp yp:Pos) (kt:Nat) (tp:Pos):Expr:=.Tuple [.Name x xp,.Name y yp] kt tp
theorem aO7 {ifs:List Expr}{tcs:c7} (hc:X.calm=true) (he:∀ (s:Shared) (H:Hp) (C:Addr) (fp:List Addr),QE (bW X scope N s H C fp dF) elt te) (hi:∀ (s:Shared) (H:Hp) (C:Addr) (fp:List Addr),k6 (bW X scope N s H C fp dF) ifs (LT (bW X scope N s H C fp dF) tcs))
  (hN:N.Nodup) (h0:N[0]? = some x) (h1:N[1]? = some y) (hl:∀ (s:Shared) (H:Hp) (C:Addr) (fp:List Addr),(bW X scope N s H C fp dF).env.scope.names.lookup x=some .local) (hl2:∀ (s:Shared) (H:Hp) (C:Addr) (fp:List Addr),(bW X scope N s H C fp dF).env.scope.names.lookup y=some .local) (s:Shared) (H:Hp) :
  mL X scope N (t9 x y xp yp kt tp) ifs elt s H (mD X.K 2 (i9 (cU 0) (i9 (cU 1) mB))) (LT (X.frm H) tcs) (LE (X.frm H) te):=
 ⟨fun C fp=>mE (X:=bW X scope N s H C fp dF) hc (gU (eJ hN h0 (.inl (hl s H C fp)) (.inr (hl s H C fp))) (gU (eJ hN h1 (.inl (hl2 s H C fp)) (.inr (hl2 s H C fp))) mC)),fun C fp=>hi s H C fp,fun C fp=>he s H C fp⟩
theorem aO8 {i:Nat}{z:Str}{zp:Pos} (nd:X.N.Nodup) (hi:QI X (t9 x y xp yp kt tp) iter ti) (he:∀ (s:Shared) (H:Hp) (C:Addr) (fp:List Addr),QE (bW X scope N s H C fp dF) elt te)
  (hz:X.N[i]? = some z:=by rfl) (hzl:X.env.scope.names.lookup z=some .local:=by rfl) (hsw:swapsWith (.ListComp elt [⟨t9 x y xp yp kt tp,iter,[],0⟩] scope p2) (some (.Name z zp)) pos.line X.env=pure true:=by rfl)
  (hc:X.calm=true:=by rfl) (S:cV X scope N fr:=by exact cV.of rfl rfl) (hN:N.Nodup:=by decide +kernel) (h0:N[0]? = some x:=by rfl) (h1:N[1]? = some y:=by rfl) (hl:∀ (s:Shared) (H:Hp) (C:Addr) (fp:List Addr),(bW X scope N s H C fp dF).env.scope.names.lookup x=some .local:=by intro _ _ _ _; rfl) (hl2:∀ (s:Shared) (H:Hp) (C:Addr) (fp:List Addr),(bW X scope N s H C fp dF).env.scope.names.lookup y=some .local:=by intro _ _ _ _; rfl) (hf:fr[0]? = some none:=by rfl) (hf2:fr[1]? = some none:=by rfl)
  (hs:∀ x,foldedSetIterable iter X.env x=pure x:=by intro _; rfl):QS X (.Assign [.Name z zp] (.ListComp elt [⟨t9 x y xp yp kt tp,iter,[],0⟩] scope p2) pos) (b6 i (fL ti fr (kD 0 1) eQ te)):=
 dN (vM (gh:=fun _=>mD X.K 2 (i9 (cU 0) (i9 (cU 1) mB))) (tch:=fun H=>LT (X.frm H) eQ) (teh:=fun H=>LE (X.frm H) te) hc S hi (aO7 hc he (fun _ _ _ _=>rY) hN h0 h1 hl hl2) nd hz hzl hsw hs) fun D σ H h=>oY (Q0 _ 0 1) (fun i e=>by rcases e with e | e <;> (subst e; assumption)) (wG h)
end
section
variable {X : Cx} {a b e o f : Expr} {ta tb te td tk tx : aF} {pos p2 apos cpos : Pos} {σ : L2.St} {H : Hp} {Q' : VK}
noncomputable def Z7:PV->Tg->PV->Tg->PK->Prop:=fun x _ y _ Q=>∃ xs n,x = .lst xs/\y = .int n/\flats xs=true/\-1000000<=n/\n<=1000000/\xs.length<=10/\Q (.lst (List.replicate n.toNat xs).flatten) .fr
noncomputable abbrev nJ (ta tb:aF):aF:=q2 Z7 ta tb
theorem aO9:eN X Z7 G8:=by
 rintro W Hs H u v x y g g' Q Q' s n r1 r2 ⟨xs,m,rfl,rfl,f,h1,h2,hl,q⟩ k
 cases r2
 obtain ⟨a,us,rfl,mm,h,r⟩:=r1.sqL
 have lr:=r.length
 refine⟨a,m,us,rfl,rfl,h,by omega,by omega,lim ?_,fun p hp=>k _ _ _ .fr (bI hp _) (.lst (s.free hp) bK (((r.flat f).rep m.toNat).same (bI hp _) fun _ z=>z)) q⟩
 have h3:us.length<=10:=by omega
 have h4:m.toNat<=1000000:=by omega
 calc us.length * m.toNat<=10 * 1000000:=Nat.mul_le_mul h3 h4
  _<=16000000:=by decide
theorem pR (ha:QE X a ta) (hb:QE X b tb):QE X (.BinOp a .Mult b pos) (nJ ta tb):=lN au2 aO9 ha hb
end
section
variable {X : Cx} {a b : Expr} {ta tb : aF} {pos : Pos}
noncomputable def Z8:PV->Tg->PV->Tg->PK->Prop:=fun x _ y _ Q=>∃ xs ys,x = .tup xs/\y = .tup ys/\flats xs=true/\flats ys=true/\xs.length+ys.length<=16000000/\Q (.tup (xs ++ ys)) .fr
noncomputable abbrev Z9 (ta tb:aF):aF:=q2 Z8 ta tb
theorem aP0:eN X Z8 (Z6 X.K):=by
 rintro W Hs H u v x y g g' Q Q' s n r1 r2 ⟨xs,ys,rfl,rfl,f1,f2,hl,q⟩ k
 obtain ⟨a,us,rfl,h1,q1⟩:=r1.sqT
 obtain ⟨b,ws,rfl,h2,q2⟩:=r2.sqT
 have l1:=q1.length
 have l2:=q2.length
 refine⟨a,b,us,ws,rfl,rfl,aJ.of h1,aJ.of h2,lim (by omega),fun z=>?_,fun _ z=>?_,fun _ _ p hp=>k _ _ _ .fr (bI hp _) (.tup bK (((q1.flat f1).append (q2.flat f2)).same (bI hp _) fun _ z=>z)) q⟩
 ·obtain rfl:xs = []:=by cases xs with
   | nil=>rfl
   | cons _ _=>rw [z] at l1; cases l1
  exact k _ _ _ .fr (aA.refl _) (.tup h2 (q2.flat f2)) q
 ·obtain rfl:ys = []:=by cases ys with
   | nil=>rfl
   | cons _ _=>rw [z] at l2; cases l2
  rw [bm6] at q
  exact k _ _ _ .fr (aA.refl _) (.tup h1 (q1.flat f1)) q
theorem aP1 (ha:QE X a ta) (hb:QE X b tb):QE X (.BinOp a .Add b pos) (Z9 ta tb):=lN aO6 aP0 ha hb
end
end PP
namespace Core
open PySem L2 PP
section
variable (ws : List Int) (ls : List (Int × Int)) (os ns : List Int)
noncomputable def lX:Nat->List Int
 | 0=>[]
 | k+1=>lX k ++ (os.find? (kin ws ls (ns ++ lX k))).toList
noncomputable def xX (k:Nat):Option Int:=os.find? (kin ws ls (ns ++ lX ws ls os ns k))
end
section
variable {ws : List Int} {ls : List (Int × Int)} {os ns : List Int}
theorem bg0 {k:Nat}{h:Int} (e:xX ws ls os ns k=some h):lX ws ls os ns (k+1)=lX ws ls os ns k ++ [h]:=by
 show lX ws ls os ns k ++ (xX ws ls os ns k).toList=_
 rw [e]; rfl
noncomputable def aP2 (ws:List Int) (ls:List (Int × Int)) (T:List Int):Prop:=∀ h ∈ rng ws.length,kin ws ls T h=false
theorem bg1 {k:Nat}{h:Int} (e:xX ws ls os ns k=some h):h ∈ os/\h ∉ ns ++ lX ws ls os ns k:=
 ⟨List.mem_of_find?_eq_some e,of_decide_eq_false (aL6 (List.find?_some e))⟩
end
noncomputable def gO:Option Int->PV
 | none=>.non
 | some h=>.int h
theorem gP {i:Nat}{h:Int}{g:Bool}{ρ:bJ}{Q:bJ->Prop} (q:Q (ρ.set i (some (.sh true (.int h))))):cK i (.int h) g ρ Q:=by
 show Q (ρ.set i (some (.sh (g || true) (.int h))))
 rw [Bool.or_true]; exact q
noncomputable def aP3 (ns S:List Int):Int:=(ns.length:Int) - (((ns.filter fun x=>decide (x ∈ S)).length:Nat):Int)
noncomputable def nK:bL:=fun xs Q=>∃ x ns y ms,xs = [x,y]/\fP x ns/\fP y ms/\ns.length<=10000/\ms.length<=1000/\Q (.tup (intz (ns.filter fun z=>!decide (z ∈ ms))))
noncomputable def aa0:aK:=(aB (b6 2 (aD nH (a7 (a5 1) a9)))
 (bN (aD jM (a7 (fL (fJ (a5 0)) [none,some 2] (cK 0) (aZ (lJ true (a5 0) (a5 1))) (a5 0)) a9))))
theorem aP4:cR aa0 ["hearths","some","gone"] nK:=by
 rintro xs Q ⟨x,ns,y,ms,rfl,hx,hy,hl,hm,q⟩
 refine⟨_,rfl,y,ms,rfl,hy,hm,fun ps d=>⟨trivial,?_⟩⟩
 refine⟨_,rfl,_,hx.seq,xP hx,by rw [bP]; omega,fun i acc=>acc=intz ((ns.take i).filter fun z=>!decide (z ∈ ms)),rfl,?_,?_⟩
 ·rintro i z acc hz rfl
  obtain ⟨n,rfl,hn⟩:=kK hz
  have tk:=X8 (p:=fun z=>!decide (z ∈ ms)) hn
  refine⟨_,rfl,_,rfl,_,.inl ⟨ps,Sum.inl n,rfl,rfl,rfl⟩,_,rfl,?_⟩
  show if (!(cQ ps (Sum.inl n:aI)).isSome)=true then _ else _
  rw [d.has n]
  by_cases h:n ∈ ms
  ·rw [bg8 h] at tk ⊢
   refine bD ?_
   show _=intz (List.filter _ (List.take (i+1) ns))
   rw [tk]; exact congrArg intz (bm6 _).symm
  ·rw [bh5 h] at tk ⊢
   refine bH ⟨_,rfl,trivial,?_⟩
   show _=intz (List.filter _ (List.take (i+1) ns))
   rw [tk,i6]; rfl
 ·rintro acc rfl
  rw [bP,bs5]
  exact⟨⟨_,_,rfl,rfl,dX _,trivial,q⟩,fun ns z=>by cases z⟩
noncomputable def aP5 (ws:List Int) (ls:List (Int × Int)) (S:List Int) (h:Int):Bool:=decide (aP3 (aR ls h) S < ws.getD h.toNat 0)
noncomputable def stay (ws:List Int) (ls:List (Int × Int)) (S:List Int):List Int:=S.filter (aP5 ws ls S)
theorem tD {n:Nat}{S:List Int} (h:bA n S=true) (p:Int->Bool):bA n (S.filter p)=true:=by
 obtain ⟨h1,h2⟩:=fQ h
 have u:pQ (n:Int) (S.filter p):=⟨(gE h1).filter p,fun x hx=>h2 x (bj0.mp hx).1,by
  have:=sW h
  have:=bm1 p S
  omega⟩
 exact u.set
section
variable {ws : List Int} {ls : List (Int × Int)} {S T : List Int}
theorem aa1 {n:Nat}{A B:List Int} (ha:bA n A=true) (hb:bA n B=true) (h:∀ x,x ∈ A ↔ x ∈ B):A=B:=by
 have ua:=gE (fQ ha).1
 have ub:=gE (fQ hb).1
 have p:A.Perm B:=(List.perm_ext_iff_of_nodup (ua.imp fun z=>bt1 z) (ub.imp fun z=>bt1 z)).mpr h
 exact Z3 p (ua.imp fun z=>bw4 z) (ub.imp fun z=>bw4 z)
end
section
variable {ws : List Int} {ls : List (Int × Int)} {ns : List Int}
noncomputable def xY (n:Nat) (S:List Int):List Int:=(rng n).filter fun x=>!decide (x ∈ S)
end
end Core
namespace Raw
open PySem PySem.W PyProof.Rows
section
variable {prog : Program} {w : World} {A : Around} {E : Value → Shared → Prop} {s : Shared} {T : String} {r d : Addr} {n : Nat} {P : Nat → Value → Prop} {OK : Heap → Prop}
theorem aP6 {R:Result->Shared->Prop} (K:KdlSrc prog w T r d n P OK) (hh:A.handled=none) (hok:OK s.heap) (hn:n<=sizeLine)
  (hR:∀ h' tk acc c,(∀ b o,b ≠ s.heap.objs.size->(s.heap.push { cls:=.type "list",data:=.seq ([]:List Value).toArray }).get? b=some o->h'.get? b=some o)->h'.get? s.heap.objs.size=some { cls:=.type "list",dict:=none,data:=.seq acc c,slots:=#[] }->ItemsOf P acc n->R (.ok (.ret (.ref s.heap.objs.size))) { s with heap:=h',toks:=tk }) :
  codeAny (model prog w) A (.builtin "proto.collect" ⟨[.ref r],[]⟩) R s:=by
 have lt:=K.there _ hok
 refine codeAny_builtin PySem.F.entry_proto_collect ?_
 rw [Around.under_plainId PySem.F.plain_proto_collect _]
 show wpAny _ A.in1 (newList [] >>= fun l=>again (.builtin "list.__iadd__" ⟨[l,.ref r],[]⟩)) _ _ s
 refine bg3 (bp3 ?_)
 refine bh4 ⟨plainId_quiet PySem.F.plain_list_iadd _,codeAny_builtin PySem.F.entry_list_iadd ?_⟩
 rw [Around.under_plainId PySem.F.plain_list_iadd _]
 show wpAny _ A.in1 (Builtin.List.listExtendWith (.ref s.heap.objs.size) (.ref r) (.ref s.heap.objs.size)) _ _ _
 exact kdl_extend (s:={ s with heap:=s.heap.push { cls:=.type "list",data:=.seq ([]:List Value).toArray } }) (R:=R) K hh (K.keep _ _ hok fun b _ o e=>bg4 _ e) s.heap.objs.size (br3 lt.1) (br3 lt.2) _ 0 (bi6 _ rfl) hR hn
theorem aP7 {Q:List Value->Shared->Prop} (K:KdlSrc prog w T r d n P OK) (hh:A.handled=none) (hok:OK s.heap) (hn:n<=sizeLine)
  (hQ:∀ h' tk acc,(∀ b o,s.heap.get? b=some o->h'.get? b=some o)->s.heap.objs.size<=h'.objs.size->ItemsOf P acc n->Q acc.toList { s with heap:=h',toks:=tk }) :
  wpAny (model prog w) A (collect (.ref r)) Q E s:=by
 unfold collect
 refine bg3 (wpAny_runValue (aP6 (s:=s) K hh hok hn fun h' tk acc c kp at1 it=>?_))
 show wpAny _ A (load s.heap.objs.size >>= _) _ _ _
 refine bg3 (wpAny_load at1 ?_)
 exact bh4 (hQ h' tk acc (fun b o e=>kp b o (bk6 (bi5 e)) (bg4 _ e)) (bl7 (bi5 at1)) it)
theorem aP8 {Q:Value->Shared->Prop}{G:List Int->Prop} (K:KdlSrc prog w T r d n P OK) (hh:A.handled=none) (hok:OK s.heap) (hn:n < 64)
  (hI:∀ acc,ItemsOf P acc n->∃ ns,IntsAre acc.toList ns/\G ns)
  (h:∀ h' tk a (out:Array Value) (ns ns':List Int) e,(∀ b o,s.heap.get? b=some o->h'.get? b=some o)->s.heap.objs.size<=a->h'.get? a=some (seqObj "list" out e)->IntsAre out.toList ns'->G ns->ns'.Perm ns->ns'.Pairwise (· <= ·)->Q (.ref a) { s with heap:=h',toks:=tk }) :
  wpAny (model prog w) A (call (.builtin "sorted") [.ref r]) Q E s:=by
 have hsl:n<=sizeLine:=bl4 (bl7 hn) (by decide)
 refine bt4 kind_sorted plain_sorted entry_sorted (args_sorted1 _) ?_
 unfold Builtin.«sorted»
 refine bg3 (m:=checkCount "sorted" 1 1 _) (bh4 ?_)
 refine bg3 (aP7 (s:=s) K hh hok hsl fun h' tk acc kp hs it=>?_)
 obtain ⟨ns,hi,g⟩:=hI acc it
 have hz:acc.toList.length < 64:=by rw [Array.length_toList,it.1]; exact hn
 refine bg3 (bw8 ?_ (bl4 (bl7 hz) (by decide)))
 have hoL:(h'.push (seqObj "list" acc.toList.toArray 0)).get? h'.objs.size=some (seqObj "list" acc.toList.toArray 0):=bi6 _ rfl
 show wpAny _ _ _ _ _ { s with heap:=h'.push (seqObj "list" acc.toList.toArray 0),toks:=tk }
 refine bg3 (bp2 (bn8 slot_list_sort ⟨_,hoL,rfl⟩ entry_list_sort (list_sort_tree hoL hi hz fun out ns' a1 a2 a3=>⟨_,rfl,?_⟩) (args_list_sort _)))
 obtain ⟨e,he⟩:=sortedHeap_at (vs:=acc.toList) (out:=out) hoL
 refine bh4 ⟨_,rfl,h _ tk h'.objs.size out ns ns' e (fun b o hb=>?_) hs he a1 g a2 a3⟩
 have lt:=bi5 (kp b o hb)
 rw [sortedHeap_old (bk6 lt) (by rw [size_push']; exact Nat.lt_succ_of_lt lt)]
 exact bg4 _ (kp b o hb)
end
end Raw
namespace L2
open PySem PySem.Spec PyProof.Rows
section
variable {X : Cx}
theorem aP9 (hc:X.calm=true):dI X (.builtin "sorted") (fun xs H Q=>∃ a kvs ns,xs = [.ref a]/\H a=some (.dK kvs)/\kvs.map (·.1)=ns.map Sum.inl/\ns.length < 64/\∀ l (ms:List Int),H l=none->ms.Perm ns->ms.Pairwise (· <= ·)->Q (.ref l) (upd H l (.lst (ms.map V.int)))):=by
 intro pins s σ H xs us Q I r h
 obtain ⟨a,kvs,ns,rfl,ha,hk,h64,q⟩:=h
 obtain ⟨u,rfl,ru⟩:=j8 r
 cases ru
 obtain ⟨es,ep,rd,far,vk,z⟩:=ax4 I ha
 have hl:=vk.length
 have hl2:=congrArg List.length hk
 rw [bh1,bh1] at hl hl2
 have hsz:es.toList.length=es.size:=Array.length_toList
 have e1:(kvs.map fun p=>kV p.1)=ns.map V.int:=by
  have:(kvs.map fun p=>kV p.1)=(kvs.map (·.1)).map kV:=by rw [bq7]; rfl
  rw [this,hk,bq7]; rfl
 rw [e1] at vk
 refine Raw.aP8 (G:=fun ms=>ms=ns) (Raw.ax3 far) (I.ok.hd hc) rd (by omega) (fun acc it=>⟨ns,by rw [ax5 it]; exact mH vk,rfl⟩) fun h' tk l out ns1 ns' e kp hn he a1 g a2 a3=>?_
 subst g
 have hlen:ns'.length=ns1.length:=a2.length_eq
 refine⟨.ref l,upd H l (.lst (ns'.map V.int)),I.laid (t':=tk) kp hn ⟨?_,out.toList,e,vD a1,by simpa using he⟩,rfl,q _ ns' (I.hok.fresh hn) a2 a3⟩
 rw [bh1,hlen]
 exact bl7 (qQ (by omega))
end
end L2
namespace PP
open PySem L2 PyProof.Rows
section
variable {X : Cx} {a b e : Expr} {ta tb te : aF} {tr : cW} {pos p2 : Pos}
noncomputable def xZ:List PV->(PV->Prop)->Prop:=fun xs Q=>∃ (ps:List (aI × PV)) (ns:List Int),xs = [.dK ps]/\ps.map (·.1)=ns.map Sum.inl/\ns.length < 64/\∀ ms:List Int,ms.Perm ns->ms.Pairwise (· <= ·)->Q (.lst (intz ms))
theorem aQ0:hV X xZ (fun xs H Q=>∃ a kvs ns,xs = [.ref a]/\H a=some (.dK kvs)/\kvs.map (·.1)=ns.map Sum.inl/\ns.length < 64/\∀ l (ms:List Int),H l=none->ms.Perm ns->ms.Pairwise (· <= ·)->Q (.ref l) (upd H l (.lst (ms.map V.int)))):=by
 rintro H vs xs Q Q' r ⟨ps,ns,rfl,e,hl,q⟩ k
 obtain ⟨v,rfl,r1⟩:=r.one
 cases r1 with
 | @dK a kvs _ m h e2 r2=>
  exact⟨a,kvs,ns,rfl,h,e2.trans e,hl,fun l ms hl' p o=>k _ _ _ (bI hl' _) (.lst hl' bK (Reps.intz ms)) (q ms p o)⟩
theorem aQ1 (B:Bt X.mg) (hc:X.calm=true) (ha:QA X [e] tr) (hg:Gl X "sorted":=by rfl) (he:starEach [e] X.env=(false,eval e X.env) :: starEach [] X.env:=by rfl) (hpl:(backTo pos (starEach [] X.env)).any (·.1)=false:=by rfl):QE X (.Call (.Name "sorted" p2) [e] [] pos) (aD xZ tr):=
 kG (aP9 hc) aQ0 hg B.sorted PyProof.Rows.boot_sorted ha (he:=he) (hpl:=hpl)
end
end PP
namespace Core
open PySem L2 PP
theorem aQ2 {ps:List (aI × PV)}{h:Int}{v:PV}{S:List Int} (e:ps.map (·.1)=S.map Sum.inl) (hn:h ∉ S):fM ps (Sum.inl h:aI) v=ps ++ [(Sum.inl h,v)]:=by
 unfold fM
 rw [if_neg]
 intro z
 rw [List.any_eq_true] at z
 obtain ⟨p,hp,hq⟩:=z
 have:p.1 ∈ ps.map (·.1):=bi8.mpr ⟨p,hp,rfl⟩
 rw [e,bo1 hq] at this
 obtain ⟨y,hy,e2⟩:=bi8.mp this
 exact hn (Sum.inl.inj e2 ▸ hy)
theorem cJ {ls:List (Int × Int)}{h x:Int}:x ∈ aR ls h ↔ ∃ l ∈ ls,(l.1=h/\l.2=x) ∨ (l.2=h/\l.1=x):=by
 unfold aR
 rw [List.mem_flatMap]
 constructor
 ·rintro ⟨l,hl,hx⟩
  refine⟨l,hl,?_⟩
  rcases bh6.mp hx with hx | hx
  ·split at hx
   ·rename_i e; exact .inl ⟨e,(bg6.mp hx).symm⟩
   ·cases hx
  ·split at hx
   ·rename_i e; exact .inr ⟨e,(bg6.mp hx).symm⟩
   ·cases hx
 ·rintro ⟨l,hl,⟨e1,e2⟩ | ⟨e1,e2⟩⟩
  ·exact⟨l,hl,bj3 _ (by rw [if_pos e1,e2]; exact bu7 _)⟩
  ·exact⟨l,hl,bi9 _ (by rw [if_pos e1,e2]; exact bu7 _)⟩
theorem aa2 {h:Int}:∀ {ls:List (Int × Int)},(∀ l ∈ ls,l.1 < l.2)->ls.Pairwise iK->(aR ls h).Nodup
 | [],_,_=>.nil
 | l :: r,hl,hp=>by
  have ih:=aa2 (h:=h) (ls:=r) (fun m hm=>hl m (bh8 _ hm)) (bw0.mp hp).2
  have h0:=hl l bh2
  have e:aR (l :: r) h=((if l.1=h then [l.2] else []) ++ (if l.2=h then [l.1] else [])) ++ aR r h:=rfl
  rw [e]
  refine bp5.mpr ⟨?_,ih,fun x hx y hy q=>?_⟩
  ·by_cases e1:l.1=h
   ·rw [if_pos e1,if_neg (by omega),bm6]; exact bj8 _ _
   ·rw [if_neg e1]
    split
    ·exact bj8 _ _
    ·exact .nil
  ·subst q
   obtain ⟨m,hm,c⟩:=cJ.mp hy
   have h1:=hl m (bh8 _ hm)
   have h2:=(bw0.mp hp).1 m hm
   have c':(l.1=h/\l.2=x) ∨ (l.2=h/\l.1=x):=by
    rcases bh6.mp hx with hx | hx
    ·split at hx
     ·rename_i e; exact .inl ⟨e,(bg6.mp hx).symm⟩
     ·cases hx
    ·split at hx
     ·rename_i e; exact .inr ⟨e,(bg6.mp hx).symm⟩
     ·cases hx
   unfold iK at h2
   omega
theorem aa3 (n:Nat):(rng n).Pairwise (· < ·):=by
 unfold rng
 rw [bp4]
 exact (List.pairwise_lt_range (n:=n)).imp fun h=>by omega
theorem aQ3 (n:Nat) (p:Int->Bool):bA n ((rng n).filter p)=true:=by
 refine pQ.set ⟨(aa3 n).sublist List.filter_sublist,fun x hx=>?_,?_⟩
 ·have:=bR.mp (bj0.mp hx).1
  exact this
 ·have:=bm1 p (rng n)
  rw [dO] at this
  omega
section
variable {ws : List Int} {ls : List (Int × Int)} {ns wts : List Int} {m : Nat}
noncomputable def loose (ls:List (Int × Int)) (wts ns:List Int):List ((Int × Int) × Int):=(ls.zip wts).filter fun z=>!(decide (z.1.1 ∈ ns) && decide (z.1.2 ∈ ns))
end
end Core
set_option maxHeartbeats 1000000
set_option maxHeartbeats 1000000
set_option maxHeartbeats 1000000
set_option maxHeartbeats 1000000
namespace PP
open PySem L2 PyProof.Rows
noncomputable abbrev eS:=(Str->Prop)->bL
noncomputable def EX (K:PySem.W.Frag) (H0:Hp) (Ep:Str->Prop):XK:=fun c d H'=>d=none/\aA H0 H'/\∃ n C,c = .ref C/\PySem.W.nsIn K mainGlobals n=some (some (.ref C))/\Ep n
noncomputable def spX (K:PySem.W.Frag) (p:eS):Sp:=fun vs H Q E=>∃ xs Qp Ep,Reps K (fun _=>True) H vs xs/\p Ep xs Qp/\(∀ v H' x,aA H H'->aH K (fun a=>H a=none) H' v x->Qp x->Q v H')/\
 ∀ n C H',aA H H'->PySem.W.nsIn K mainGlobals n=some (some (.ref C))->Ep n->E (.ref C) none H'
structure cS (P:Program) (w:World) (K:PySem.W.Frag) (mg:Str->Option Value) (base:Heap) (k:Nat) (x:Str) (ps:List Str) (p:eS):Prop where
 ex:∃ f fd,cP P w K mg base (eC P w) k f fd ps (spX K p)/\iA K fd ps []/\PySem.W.keepIn K (.ref f)=true/\mg x=some (.ref f)
section
variable {X : Cx} {σ : L2.St} {H : Hp} {D : cT} {tr : cW} {Q' : VK} {a b c e : Expr} {es : List Expr} {pos p2 cp np hp : Pos} {t : aK} {te : aF} {tc : c7}
noncomputable def pS (Ep:Str->Prop) (p:eS) (t:cW):aF:=aD (p Ep) t
theorem aa4 {p:eS}{Ep:Str->Prop} (h:LE X (pS Ep p tr) σ H Q'):uT (spX X.K p) [] (EX X.K X.H₀ Ep) (LA X tr) σ H Q':=by
 obtain ⟨W,ρ,Q,px,q,k⟩:=h
 refine⟨W,ρ,_,px,q,fun vs H1 xs s1 r1 q1=>⟨_,_,Ep,by rw [bm6]; exact r1.any,q1,fun v H' x s2 r2 q2=>k v H' x .fr (s1.trans s2) (r2.same (aA.refl _) fun _ z=>s1.free z) q2,fun n C H' s2 z1 z2=>⟨rfl,(px.same.trans s1).trans s2,n,C,rfl,z1,z2⟩⟩⟩
theorem yA {Ep:Str->Prop}{k j:Nat}{x:Str}{ps:List Str}{p:eS} (hX:nG X (EX X.K X.H₀ Ep)) (d:cS X.prog X.w X.K X.mg X.base k x ps p) (hr:cA j X.A) (ha:QA X (e :: es) tr) (hkj:k<=j:=by decide) (hg:Gl X x:=by rfl) (hdb:(x == ("__debug__" : Str))=false:=by decide)
  (he:starEach (e :: es) X.env=(false,eval e X.env) :: starEach es X.env:=by rfl) (hpl:(backTo pos (starEach es X.env)).any (·.1)=false:=by rfl):QE X (.Call (.Name x p2) (e :: es) [] pos) (pS Ep p tr):=by
 obtain ⟨f,fd,F,b,kp,m⟩:=d.ex
 exact cH (uU F (hr.mono hkj) hg m kp b .nil hX.pass ha hdb he hpl) fun _ _ _=>aa4
theorem yB {k j:Nat}{x:Str}{ps:List Str}{p:eS} (d:cS X.prog X.w X.K X.mg X.base k x ps p) (hr:cA j X.A) (ha:QA X (e :: es) tr) (hkj:k<=j:=by decide) (hg:Gl X x:=by rfl) (hdb:(x == ("__debug__" : Str))=false:=by decide)
  (he:starEach (e :: es) X.env=(false,eval e X.env) :: starEach es X.env:=by rfl) (hpl:(backTo pos (starEach es X.env)).any (·.1)=false:=by rfl):QE X (.Call (.Name x p2) (e :: es) [] pos) (aD (p fun _=>False) tr):=by
 obtain ⟨f,fd,F,b,kp,m⟩:=d.ex
 refine cH (uU F (E:=EX X.K X.H₀ fun _=>False) (hr.mono hkj) hg m kp b .nil (fun _ _ _ _ _ _ _ h=>?_) ha hdb he hpl) fun _ _ _ h=>aa4 (Ep:=fun _=>False) h
 obtain ⟨_,_,_,_,_,_,_,_,_,_,_,_,z⟩:=h
 exact z.elim
noncomputable def tE (Ep:Str->Prop) (n:Str) (t:cW):aK:=fun _ ρ=>t ρ fun xs=>xs.length<=1000/\Ep n
theorem aQ4 {Ep:Str->Prop}{n:Str}{C:Addr} (hn:PySem.W.nsIn X.K mainGlobals n=some (some (.ref C))) (h:LS X (tE Ep n tr) D σ H):X1 (EX X.K X.H₀ Ep) C (LA X tr) D σ H:=by
 obtain ⟨W,ρ,D',px,q,k⟩:=h
 exact⟨W,ρ,_,px,q,fun vs H1 xs s1 r z=>⟨by rw [r.length]; exact rL z.1,rfl,px.same.trans s1,n,C,rfl,hn,z.2⟩⟩
structure Xc (K:PySem.W.Frag) (mg:Str->Option Value) (base:Heap) (n:Str):Prop where
 ex:∃ C B newId initId bm,OwnCls n C bm newId mg base/\ExcBaseFacts B newId initId bm/\PySem.W.nsIn K mainGlobals n=some (some (.ref C))
theorem aa5 {Ep:Str->Prop}{n:Str} (hX:nG X (EX X.K X.H₀ Ep)) (x:Xc X.K X.mg X.base n) (ha:QA X (e :: es) tr) (hc:X.calm=true:=by rfl) (hg:Gl X n:=by rfl) (hd:(n == ("__debug__" : Str))=false:=by decide)
  (he:starEach (e :: es) X.env=(false,eval e X.env) :: starEach es X.env:=by rfl) (hpl:(backTo cp (starEach es X.env)).any (·.1)=false:=by rfl):QS X (.Raise (some (.Call (.Name n np) (e :: es) [] cp)) none pos) (tE Ep n tr):=by
 obtain ⟨C,B,newId,initId,bm,O,FB,hn⟩:=x.ex
 exact dN (aK0 hX hc O FB ha hg hd he hpl) fun _ _ _=>aQ4 hn
noncomputable abbrev jV:=gM->(Str->Prop)->bJ->Prop
noncomputable def LB (X:Cx) (t:jV):TB:=fun D Ex σ H=>∃ (W:Addr->Prop) (ρ:bJ) (D':gM) (Ep:Str->Prop),PX X.K X.H₀ W σ ρ H/\t D' Ep ρ/\oQ X W H D' D/\∀ n C H',aA H H'->PySem.W.nsIn X.K mainGlobals n=some (some (.ref C))->Ep n->Ex (.ref C) none H'
noncomputable def QB (X:Cx) (sts:List Stmt) (t:jV):Prop:=PB X sts (LB X t)
theorem pbI {sts:List Stmt}{t t':TB} (h:PB X sts t) (m:∀ D Ex σ H,t' D Ex σ H->t D Ex σ H):PB X sts t':=fun pins s σ H D Ex I q=>h pins s σ H D Ex I (m D Ex σ H q)
noncomputable def yC (p:eS) (t:cW):jV:=fun D Ep ρ=>t ρ fun xs=>p Ep (xs.map (·.1)) fun _=>D.nx ρ
noncomputable def aa6 (c:c7) (t u:jV):jV:=fun D Ep ρ=>c ρ fun b=>if b=true then t D Ep ρ else u D Ep ρ
theorem aa7 {k j:Nat}{x:Str}{ps:List Str}{p:eS} (d:cS X.prog X.w X.K X.mg X.base k x ps p) (hr:cA j X.A) (ha:∀ E,QA (X.wish E) (e :: es) tr) (hkj:k<=j:=by decide) (hg:Gl X x:=by rfl) (hdb:(x == ("__debug__" : Str))=false:=by decide)
  (he:starEach (e :: es) X.env=(false,eval e X.env) :: starEach es X.env:=by rfl) (hpl:(backTo cp (starEach es X.env)).any (·.1)=false:=by rfl) (hsw:swapsWith (.Call (.Name x p2) (e :: es) [] cp) none pos.line X.env=pure false:=by rfl):QB X [.Expr (.Call (.Name x p2) (e :: es) [] cp) pos] (yC p tr):=by
 obtain ⟨f,fd,F,b,kp,m⟩:=d.ex
 refine pbI (aK5 (t:=LA X tr) F (hr.mono hkj) hg m kp b (fun E=>ha E) hdb he hpl hsw) fun D Ex σ H h=>?_
 obtain ⟨W,ρ,D',Ep,px,q,k,ke⟩:=h
 exact⟨W,ρ,_,px,q,fun vs H1 xs s1 r q1=>⟨_,_,Ep,r.any,q1,fun v H' x s2 r2 q2=>k.nx W σ H' ρ (Ev.same (s1.trans s2)) (px.mono (s1.trans s2)) q2,fun n C H' s2 z1 z2=>ke n C H' (s1.trans s2) z1 z2⟩⟩
theorem aQ5 {sa sb:List Stmt}{tb ub:jV} (hc:∀ E,QT (X.wish E) c tc) (ha:QB X sa tb) (hb:QB X sb ub):QB X [.If c sa sb pos] (aa6 tc tb ub):=by
 refine pbI (aK6 (tc:=LT X tc) (fun E=>hc E) ha hb) fun D Ex σ H h=>?_
 obtain ⟨W,ρ,D',Ep,px,q,k,ke⟩:=h
 refine⟨W,ρ,_,px,q,fun b H1 s1 q1=>?_⟩
 have ke':∀ n C H',aA H1 H'->PySem.W.nsIn X.K mainGlobals n=some (some (.ref C))->Ep n->Ex (.ref C) none H':=fun n C H' s2 z1 z2=>ke n C H' (s1.trans s2) z1 z2
 cases b with
 | true=>exact bH ⟨W,ρ,D',Ep,px.mono s1,by simpa using q1,k.step (Ev.same s1),ke'⟩
 | false=>exact bD ⟨W,ρ,D',Ep,px.mono s1,by simpa using q1,k.step (Ev.same s1),ke'⟩
noncomputable def aa8 (D:gM) (i:Nat):gM:={ nx:=fun ρ=>D.nx (ρ.set i none),rt:=D.rt,bk:=fun ρ=>D.bk (ρ.set i none),ct:=fun ρ=>D.ct (ρ.set i none) }
noncomputable def nL:List Str:=["BadWeb","BadSet","BadOrder","BadPrices","BadBoard","BadDeed","NotWood","NoPaper","NoSuch","TooMany","NoText","OddRound"]
noncomputable def lY (n m:Str):Option Bool:=if nL.contains n then some (n == m || m == "HearthError" || m == "ValueError") else none
noncomputable def yD (m:Str) (i:Nat) (tb:jV) (ts:aK):aK:=fun D ρ=>tb D (fun n=>lY n m=some true/\ts (aa8 D i) (ρ.set i (some (.sh true (.exc n))))) ρ
theorem aQ6 {m:Str}{Ch:Addr}{i:Nat}{tb:jV}{ts:aK} (hs:∀ n C,lY n m=some true->PySem.W.nsIn X.K mainGlobals n=some (some (.ref C))->PySem.W.subIn X.K (.ref C) (.ref Ch)=some true) (h:LS X (yD m i tb ts) D σ H):X3 X.K Ch i (LB X tb) (LS X ts) D σ H:=by
 obtain ⟨W,ρ,D',px,q,k⟩:=h
 refine⟨W,ρ,D',_,px,q,k,fun n C H' s z1 z2 a C' oe hc na hcl=>?_⟩
 cases hc
 refine⟨hs n C z2.1 z1,W,_,aa8 D' i,(px.mono (s.trans (bI na _))).setSh (g:=true) (.exc bK z1 hcl),z2.2,?_⟩
 have k':=k.step (Ev.same (W:=W) (s.trans (bI na (.frz oe (.own a)))))
 exact⟨fun W' σ' H2 ρ' ev px' q'=>k'.nx W' _ H2 _ ev px'.setNone q',k'.rt,fun W' σ' H2 ρ' ev px' q'=>k'.bk W' _ H2 _ ev px'.setNone q',fun W' σ' H2 ρ' ev px' q'=>k'.ct W' _ H2 _ ev px'.setNone q'⟩
structure yE (K:PySem.W.Frag) (mg:Str->Option Value) (m:Str):Prop where
 ex:∃ Ch,mg m=some (.ref Ch)/\xM K Ch/\∀ n C,lY n m=some true->PySem.W.nsIn K mainGlobals n=some (some (.ref C))->PySem.W.subIn K (.ref C) (.ref Ch)=some true
theorem aQ7 (i:Nat) {m n:Str}{b₀:Stmt}{suite body:List Stmt}{tb:jV}{ts:aK} (ct:yE X.K X.mg m) (hN:X.N.Nodup) (hb:QB X body tb) (hs:∀ a,fD (X.suite a) (b₀ :: suite) ts) (hstk:X.stack=X.env :: X.outer/\X.env.frame=some X.env.locals:=by exact⟨rfl,rfl⟩) (hi:X.N[i]? = some n:=by rfl) (hl:X.env.scope.names.lookup n=some .local:=by rfl) (hg:Gl X m:=by rfl)
  (hd:(m == ("__debug__" : Str))=false:=by decide):QS X (.Try body [.ExceptHandler (some (.Name m np)) (some n) (b₀ :: suite) hp] [] [] pos) (yD m i tb ts):=by
 obtain ⟨Ch,hm,c,sub⟩:=ct.ex
 exact dN (aK7 (ts:=LS X ts) hstk hb hg hm c hN hi hl (fun a=>wU (hs a) fun _ _ _ ⟨W,ρ,D',px,q,k⟩=>⟨W,ρ,D',px,q,⟨k.nx,k.rt,k.bk,k.ct⟩⟩) hd) fun _ _ _=>aQ6 sub
noncomputable def gX:V->Value
 | .ref a=>.ref a
 | .ty n=>.type n
 | _=>.none
noncomputable def aQ8 (K:PySem.W.Frag):List V->Hp->VK->Prop:=fun xs H Q=>∃ v v2 b,xs = [v,v2]/\gX v2 ≠ .none/\((∃ a o C,v = .ref a/\H a=some (.frz o (.own a))/\o.cls = .ref C/\iU K C/\PySem.W.kitOne K (.ref C) (gX v2)=some b) ∨ (v = .non/\PySem.W.kitOne K (.type "NoneType") (gX v2)=some b))/\Q (.bl b) H
theorem aQ9:dI X (.builtin "isinstance") (aQ8 X.K):=by
 intro pins s σ H xs us Q I r h
 obtain ⟨v,v2,b,rfl,hv,hk,q⟩:=h
 obtain ⟨u,u',rfl,ru,ru'⟩:=oB r
 obtain rfl:u'=gX v2:=by
  cases v2 <;> first | exact ru' | exact absurd rfl hv
 rcases hk with ⟨a,o,C,rfl,hH,hc,F,e⟩ | ⟨rfl,e⟩
 ·obtain ⟨h1,_⟩:=I.hok a _ hH
  cases (show u=Value.ref a from ru)
  exact bn7 (aL4 F) I.kIn ⟨o,h1,hc⟩ e (fun z=>nomatch z) fun tk=>⟨.bl b,H,I.tok tk,rfl,q⟩
 ·cases (show u=Value.none from ru)
  exact bn7 PySem.W.kitx_none I.kIn trivial e (fun z=>nomatch z) fun tk=>⟨.bl b,H,I.tok tk,rfl,q⟩
noncomputable def aR0 (m:Str):PV->Option Bool
 | .exc n=>lY n m
 | .non=>some false
 | _=>none
noncomputable def nM (m:Str) (te:aF):aF:=fun ρ Q=>te ρ fun x _=>∃ b,aR0 m x=some b/\Q (.bl b) .fr
structure yF (K:PySem.W.Frag) (m:Str) (v2:V):Prop where
 nn:gX v2 ≠ .none
 ex:∀ n C b,PySem.W.nsIn K mainGlobals n=some (some (.ref C))->lY n m=some b->iU K C/\PySem.W.kitOne K (.ref C) (gX v2)=some b
 no:PySem.W.kitOne K (.type "NoneType") (gX v2)=some false
theorem aa9 {x:Str}{v2:V}{px:Pos} (B:Bt X.mg) (A:yF X.K x v2) (hx:PE X (.Name x px) (tC v2)) (ha:QE X a te) (hg:Gl X "isinstance":=by rfl)
  (he:starEach [a,.Name x px] X.env=(false,eval a X.env) :: starEach [.Name x px] X.env:=by rfl) (he2:starEach [.Name x px] X.env=(false,eval (.Name x px) X.env) :: starEach [] X.env:=by rfl) (hpl:(backTo pos (starEach [.Name x px] X.env)).any (·.1)=false:=by rfl):QE X (.Call (.Name "isinstance" p2) [a,.Name x px] [] pos) (nM x te):=
 cH (oD aQ9 hg B.isinst PyProof.Rows.boot_isinstance (cO ha (cO hx dL he2) he) (he:=he) (hpl:=hpl)) fun σ H Q' h=>by
  obtain ⟨W,ρ,Q,px,q,k⟩:=h
  refine⟨W,ρ,_,px,q,?_⟩
  rintro v H1 y g s r ⟨b,e,q⟩
  refine⟨v,v2,b,rfl,A.nn,?_,k _ _ _ .fr s (.bl _) q⟩
  cases r with
  | exc h z c=>
   obtain ⟨F,kt⟩:=A.ex _ _ _ z e
   exact .inl ⟨_,_,_,rfl,h,c,F,kt⟩
  | non=>cases e; exact .inr ⟨rfl,A.no⟩
  | _=>cases e
end
section
variable {X : Cx} {a : Expr} {pos p2 px : Pos} {te : aF}
structure pT (K:PySem.W.Frag) (mg:Str->Option Value) (m:Str):Prop where
 ex:∃ C,mg m=some (.ref C)/\yF K m (.ref C)
structure yG (K:PySem.W.Frag) (mg:Str->Option Value):Prop where
 mg:mg "ValueError" = none
 is:yF K "ValueError" (.ty "ValueError")
theorem ab0 {x:Str} (B:Bt X.mg) (A:pT X.K X.mg x) (ha:QE X a te) (hgx:Gl X x:=by rfl) (hdx:(x == ("__debug__" : Str))=false:=by decide) (hg:Gl X "isinstance":=by rfl)
  (he:starEach [a,.Name x px] X.env=(false,eval a X.env) :: starEach [.Name x px] X.env:=by rfl) (he2:starEach [.Name x px] X.env=(false,eval (.Name x px) X.env) :: starEach [] X.env:=by rfl) (hpl:(backTo pos (starEach [.Name x px] X.env)).any (·.1)=false:=by rfl):QE X (.Call (.Name "isinstance" p2) [a,.Name x px] [] pos) (nM x te):=by
 obtain ⟨C,m,i⟩:=A.ex
 exact aa9 B i (am5 hgx m rfl hdx) ha hg he he2 hpl
theorem aR1 (B:Bt X.mg) (A:yG X.K X.mg) (ha:QE X a te) (hgx:Gl X "ValueError":=by rfl) (hg:Gl X "isinstance":=by rfl)
  (he:starEach [a,.Name "ValueError" px] X.env=(false,eval a X.env) :: starEach [.Name "ValueError" px] X.env:=by rfl) (he2:starEach [.Name "ValueError" px] X.env=(false,eval (.Name "ValueError" px) X.env) :: starEach [] X.env:=by rfl) (hpl:(backTo pos (starEach [.Name "ValueError" px] X.env)).any (·.1)=false:=by rfl):QE X (.Call (.Name "isinstance" p2) [a,.Name "ValueError" px] [] pos) (nM "ValueError" te):=
 aa9 B A.is (zW (v:=.ty "ValueError") hgx A.mg PyProof.Rows.Boot.«ValueError» rfl (by decide) (by decide)) ha hg he he2 hpl
end
structure kM (K:PySem.W.Frag) (C:Addr):Prop where
 cls:PySem.W.isClsIn K C=true
 ty:PySem.W.typeIn K (.ref C)=some (.type "type")
 ga:PySem.W.findIn K (.ref C) "__getattribute__" = some (some (.builtin "BaseException.__getattribute__"))
 gt:PySem.W.findIn K (.ref C) "__getattr__" = some none
 fc:PySem.W.findIn K (.ref C) "__class__" = some (some (.builtin "object.__class__"))
 fg:PySem.W.specialIn K (.builtin "object.__class__") "__get__" = some (some (.builtin "getset_descriptor.__get__"))
 ft:PySem.W.takesIn K (.builtin "object.__class__")=some true
 ob:PySem.W.mroIn K C (.type "object")=some true
 be:PySem.W.mroIn K C (.type "BaseException")=some true
theorem kM.exc {K:PySem.W.Frag}{C:Addr} (h:kM K C):iU K C:=⟨h.cls,h.ga,h.gt,h.fc,h.fg,h.ft,h.ob,h.be⟩
theorem ab1 {K:PySem.W.Frag}{h₀:Heap}{mg:Str->Option Value}{x:Str}{C:Addr}{bmB:List Value}{newId:String} (X:K.In h₀) (m:mg x=some (.ref C)) (q:PySem.W.excIn K C bmB newId=true):OwnCls x C bmB newId mg h₀:=by
 refine⟨m,?_⟩
 unfold PySem.W.excIn at q
 split at q
 case h_2=>cases q
 rename_i dd cd sl ho
 split at q
 case h_2=>cases q
 rename_i C' bm k0 k1 k2 k3 n k5 hm hs
 simp only [bl6,beq_iff_eq,Bool.not_eq_true'] at q
 obtain ⟨⟨⟨⟨⟨rfl,rfl⟩,dl⟩,ht⟩,hok⟩,hni⟩:=q
 obtain ⟨nm,bs,mro,ns,qn,hd,sn,sub,ab,col,del⟩:=cd
 dsimp only at hm dl hok hni
 subst hm dl
 obtain rfl:sl = #[k0,k1,k2,k3,some (.builtin n),k5]:=by
  obtain ⟨l⟩:=sl
  exact congrArg Array.mk hs
 exact⟨bm,ns,nm,qn,bs,hd,sn,sub,ab,col,dd,k0,k1,k2,k3,k5,_,X _ _ ho,.of_isNs (PySem.W.isNs_of_in X hok),PySem.W.nsMap_none_of_in X hok hni,PySem.W.tail_of_in X ht⟩
theorem tF {n m:Str}{b:Bool} (h:lY n m=some b):n ∈ nL/\b=(n == m || m == "HearthError" || m == "ValueError"):=by
 unfold lY at h
 split at h
 ·rename_i z
  exact⟨by simpa using z,by cases h; rfl⟩
 ·cases h
theorem tG {K:PySem.W.Frag}{C D:Addr}{b:Bool} (hd:kM K D) (ne:(C == D)=false) (s:PySem.W.subIn K (.ref C) (.ref D)=some b):PySem.W.kitOne K (.ref C) (.ref D)=some b:=by
 have ne':(Value.ref C == Value.ref D)=false:=by
  rw [beq_eq_false_iff_ne] at ne ⊢
  exact fun z=>ne (Value.ref.inj z)
 have c:=hd.cls
 unfold PySem.W.isClsIn at c
 unfold PySem.W.kitOne PySem.W.kitCls
 rw [if_neg (by rw [ne']; decide)]
 dsimp only
 rw [if_pos (by rw [c,hd.ty]; decide)]
 exact s
theorem ab2 {K:PySem.W.Frag}{C:Addr}:PySem.W.kitOne K (.ref C) (.ref C)=some true:=by
 unfold PySem.W.kitOne
 rw [if_pos (bp0 _)]
theorem yH {K:PySem.W.Frag}{C:Addr} (s:PySem.W.subIn K (.ref C) (.type "ValueError")=some true):PySem.W.kitOne K (.ref C) (.type "ValueError")=some true:=by
 unfold PySem.W.kitOne PySem.W.kitCls
 rw [if_neg (fun z=>by cases beq_iff_eq.mp z)]
 dsimp only
 rw [if_pos (by decide +kernel)]
 exact s
theorem ab3 {K:PySem.W.Frag}{D:Addr} (hd:kM K D) (s:PySem.W.subIn K (.type "NoneType") (.ref D)=some false):PySem.W.kitOne K (.type "NoneType") (.ref D)=some false:=by
 have c:=hd.cls
 unfold PySem.W.isClsIn at c
 unfold PySem.W.kitOne PySem.W.kitCls
 rw [if_neg (fun z=>by cases beq_iff_eq.mp z)]
 dsimp only
 rw [if_pos (by rw [c,hd.ty]; decide)]
 exact s
theorem aR2 {K:PySem.W.Frag}:PySem.W.kitOne K (.type "NoneType") (.type "ValueError")=some false:=by
 have e:(if PySem.W.kitMeta "ValueError" = true then (fastBuiltinMro "NoneType").map (·.contains (Value.type "ValueError")) else none)=some false:=by decide +kernel
 unfold PySem.W.kitOne
 rw [if_neg (by decide)]
 exact e
theorem cS.of {P:Program}{w:World}{K:PySem.W.Frag}{mg:Str->Option Value}{base:Heap}{k:Nat}{x:Str}{ps N:List Str}{p:eS}{st:Stmt}{f:Addr}{fd:FuncData} (F:eZ K x x st f fd) (m:mg x=some (.ref f)) (S:FnScope N ps (aY st))
  (hb:∀ (kV doc pm:Value) (an:Option Addr) (cdv ct:Value) (us:List Value),us.length=ps.length->bindArgs (PySem.W.fnOf x x (jD st) (eY st) (aY st) .none kV doc pm an cdv ct) ⟨us,[]⟩=pure (ps.zip us))
  (t:(Str->Prop)->aK) (len:∀ Ep xs Q,p Ep xs Q->xs.length=ps.length) (rd:∀ Ep xs Q,p Ep xs Q->t Ep { nx:=fun _=>Q .non,rt:=Q } (gA N xs))
  (body:∀ (cdv:Value) (A:Around) (outer:List Env) (s:Shared) (H:Hp) (E:XK) (Ep:Str->Prop),cA k (A.deeper (envOfC x (aY st) s.heap.objs.size f cdv))->nG (dM (eC P w) P w K mg base N x (aY st) f cdv A outer s H E) (EX K H Ep)->
   fD (dM (eC P w) P w K mg base N x (aY st) f cdv A outer s H E) (eY st) (t Ep)):cS P w K mg base (k+1) x ps p:=by
 refine⟨f,fd,F.okX S (fun vs H Q E h=>?_) (fun cdv A outer s H vs Q E hr h=>?_),F.binds hb,F.kp,m⟩
 ·obtain ⟨xs,Qp,Ep,r,q,_⟩:=h
  rw [r.length]; exact len Ep xs Qp q
 ·obtain ⟨xs,Qp,Ep,r,q,k,ke⟩:=h
  have ht:=body cdv A outer s H E Ep hr (aJ9 fun c d H' z=>?_)
  ·refine⟨_,ht,fun _=>False,gA N xs,_,x4 r,rd Ep xs Qp q,?_,?_,?_,?_⟩
   ·exact fun W' σ' H' ρ' e px q=>k _ _ _ px.same .non q
   ·exact fun v H' x s r q=>k _ _ _ s r q
   ·exact fun W' σ' H' ρ' e px q=>q
   ·exact fun W' σ' H' ρ' e px q=>q
  ·obtain ⟨rfl,s1,n,C,rfl,z1,z2⟩:=z
   exact ke n C H' s1 z1 z2
end PP
namespace Core
open PySem L2 PP
noncomputable abbrev pU (t:(Str->Prop)->aK) (N:List Str) (p:eS):Prop:=∀ Ep xs Q,p Ep xs Q->t Ep { nx:=fun _=>Q .non,rt:=Q } (gA N xs)
noncomputable def tH:eS:=fun Ep xs Q=>∃ ws ls x ns,xs = [bG ws ls,x]/\fP x ns/\ns.length<=1000/\(bA ws.length ns=true->Q (.tup (intz ns)))/\(bA ws.length ns=false->Ep "BadSet")
noncomputable def ab4 (Ep:Str->Prop):aK:=(aB (bX (gL (aZ (aD sT (a7 (a5 0) (a7 (a5 1) a9))))) (tE Ep "BadSet" (a7 (qC (.str "a set is of rising hearths of the web")) a9)) cF)
 (bN (aD jM (a7 (a5 1) a9))))
theorem aR3:pU ab4 ["web","hearths"] tH:=by
 rintro Ep xs Q ⟨ws,ls,x,ns,rfl,hx,hl,q1,q2⟩
 refine⟨_,rfl,_,rfl,ws,ls,x,ns,rfl,hx,hl,_,rfl,?_⟩
 cases h:bA ws.length ns with
 | true=>exact bD ⟨_,rfl,⟨_,_,rfl,hx.seqT,dX _,trivial,q1 h⟩,hx.noscr⟩
 | false=>exact bH ⟨by decide,q2 h⟩
end Core
namespace PP
open PySem L2
theorem nN {us:List Value} (h:us.length=1):∃ a,us = [a]:=List.length_eq_one_iff.mp h
theorem yI {us:List Value} (h:us.length=2):∃ a b,us = [a,b]:=by
 cases us with
 | nil=>cases h
 | cons a r=>
  obtain ⟨b,rfl⟩:=nN (us:=r) (by simpa using h)
  exact⟨a,b,rfl⟩
theorem us3 {us:List Value} (h:us.length=3):∃ a b c,us = [a,b,c]:=by
 cases us with
 | nil=>cases h
 | cons a r=>
  obtain ⟨b,c,rfl⟩:=yI (us:=r) (by simpa using h)
  exact⟨a,b,c,rfl⟩
end PP
namespace Core
open PySem L2 PP
noncomputable def NN (zs:List Int):Prop:=∀ z ∈ zs,(0:Int)<=z
theorem NN.app {zs:List Int}{z:Int} (h:NN zs) (hz:0<=z):NN (zs ++ [z]):=fun y hy=>by
 rcases bh6.mp hy with hy | hy
 ·exact h y hy
 ·rw [bg6.mp hy]; exact hz
theorem NN.set {zs:List Int}{z:Int} (h:NN zs) (hz:0<=z) (j:Nat):NN (zs.set j z):=fun y hy=>by
 rcases List.mem_or_eq_of_mem_set hy with hy | rfl
 ·exact h y hy
 ·exact hz
noncomputable def yJ (i:Nat) (S:List Int):Prop:=S.Pairwise (· < ·)/\∀ x ∈ S,0<=x/\x < (i:Int)
theorem yJ.set {i:Nat}{S:List Int} (h:yJ i S):bA i S=true:=by
 unfold bA
 rw [xN h.1,Bool.true_and,br5]
 intro b hb
 obtain ⟨x,hx,rfl⟩:=bi8.mp hb
 have:=h.2 x hx
 unfold inB
 simp only [id,bl6,bk9]
 exact this
end Core
namespace PP
open PySem L2
section
variable {X : Cx} {a b e : Expr} {ta tb : aF} {tr : cW} {D : cT} {σ : St} {H : Hp} {pos p2 p3 p4 : Pos}
noncomputable def kN (i:Nat) (ta tb:aF):aK:=fun D ρ=>∃ xs,ρ[i]? = some (some (.own (.lst xs)))/\ta ρ fun x _=>∃ k:Nat,x = .int k/\k<=xs.length/\xs.length < 16000000/\tb ρ fun y g=>Nw g y/\D.nx (ρ.set i (some (.own (.lst (xs.take k ++ y :: xs.drop k)))))
theorem aR4 {i:Nat} (h:LS X (kN i ta tb) D σ H):qB (qL X.K "list" X4 (i8 i) (iS (LE X ta) (iS (LE X tb) jY))) D σ H:=by
 obtain ⟨W,ρ,D',px,⟨xs,hi,q⟩,k⟩:=h
 obtain ⟨v,ev,a,rfl,wa,us,ea,r⟩:=px.sl i _ hi
 refine⟨_,ev,k8 (aN.of ea),W,ρ,_,px,q,?_⟩
 rintro w H1 x g s rx ⟨j,rfl,hj,hl,q⟩
 cases rx
 refine⟨W,ρ,_,px.mono s,q,?_⟩
 rintro w H2 y g s2 ry ⟨n,q⟩
 have ea2:=s2 _ _ (s _ _ ea)
 have s3:=s.trans s2
 refine⟨a,us,w,j,rfl,rfl,ea2,by rw [r.length]; exact hj,hG (by rw [r.length]; omega),?_⟩
 refine k.nx W σ _ _ ((Ev.same s3).trans (Ev.upd wa)) ((px.mono s3).updL hi ev wa ?_) q
 have r2:=r.same s3 fun _ z=>z
 exact ((r2.take j).append (.cons (Nw.rep (px.mono s) n ry) (r2.drop j))).keep (.upd ea2 rfl fun b m=>⟨lE wa m,m⟩)
theorem aR5 (i:Nat) {x:Str}{apos cpos xpos:Pos} (ha:QE X a ta) (hb:QE X b tb) (hN:X.N[i]? = some x:=by rfl) (hv:gG X.env.scope x:=by first | exact Or.inl rfl | exact Or.inr (Or.inl rfl) | exact Or.inr (Or.inr rfl)) (hd:(x == ("__debug__" : Str))=false:=by decide) (hcd:(x == ("__classdict__" : Str))=false:=by decide)
  (hbase:attributeBase (.Name x xpos) "insert" X.env (eval (.Name x xpos) X.env)=eval (.Name x xpos) X.env:=by rfl)
  (hfew:((backTo cpos (starEach [a,b] X.env)).all (fun x=>!x.1) && (backToKw cpos (keywordEach [] X.env)).all (fun x=>x.1.isSome) && decide (([a,b]:List Expr).length+([]:List Keyword).length+(if ([]:List Keyword).isEmpty then 0 else 1) < 30))=true:=by rfl)
  (hline:(apos.endLine == cpos.line)=true:=by rfl) (hs:starEach [a,b] X.env=(false,eval a X.env) :: starEach [b] X.env:=by rfl) (hs2:starEach [b] X.env=(false,eval b X.env) :: starEach [] X.env:=by rfl) (hplain:(backTo cpos (starEach [b] X.env)).any (·.1)=false:=by rfl)
  (hsw:swapsWith (.Call (.Attribute (.Name x xpos) "insert" apos) [a,b] [] cpos) none pos.line X.env=pure false:=by rfl) :
  QS X (.Expr (.Call (.Attribute (.Name x xpos) "insert" apos) [a,b] [] cpos) pos) (kN i ta tb):=
 dN (kW (l9 bp1 PySem.F.slot_list_insert PySem.F.type_list_insert aL5 (iR hN hv hd hcd) (cO ha (cO hb dL hs2) hs) hbase hfew hline hs hplain) hsw) fun _ _ _=>aR4
end
section
variable {X : Cx} {e : Expr} {tr : cW} {pos p2 : Pos}
noncomputable def tI:List PV->(PV->Prop)->Prop:=fun xs Q=>∃ ys:List (List Int),xs = [.lst (ys.map fun r=>PV.tup (intz r))]/\ys.length<=4096/\(∀ y ∈ ys,y.length=2)/\∀ zs:List (List Int),zs.Perm ys->zs.Pairwise (fun u v=>HT.dA v u=false)->Q (.lst (zs.map fun r=>PV.tup (intz r)))
theorem aR6:hV X tI (X0 X.K):=by
 rintro H vs xs Q Q' r ⟨ys,rfl,hl,hne,q⟩ k
 obtain ⟨v,rfl,r1⟩:=r.one
 obtain ⟨a,us,rfl,_,h,r2⟩:=r1.sqL
 obtain ⟨h1,h2⟩:=t5 r2
 have lr:=r2.length
 rw [bh1] at lr
 refine⟨a,us,iL H,rfl,aN.of h,by omega,fun y hy=>?_,fun l zs hl' pm so=>?_⟩
 ·obtain ⟨b,rfl,hb⟩:=h2 y hy
  refine⟨b,rfl,aJ.of hb,hne _ ?_⟩
  rw [<- h1]; exact bi8.mpr ⟨_,hy,rfl⟩
 ·have hz:∀ u ∈ zs,∃ b,u = .ref b/\H b=some (.tup ((iL H u).map V.int)):=fun u hu=>h2 u (pm.mem_iff.mp hu)
  refine k _ _ _ (bI hl' _) (.lst hl' bK ((t6 hz).same (bI hl' _) fun _ z=>z)) (q _ ?_ ?_)
  ·rw [<- h1]; exact pm.map _
  ·rw [bp4]; exact so
theorem aR7 (B:Bt X.mg) (ha:QA X [e] tr) (hg:Gl X "sorted":=by rfl) (he:starEach [e] X.env=(false,eval e X.env) :: starEach [] X.env:=by rfl) (hpl:(backTo pos (starEach [] X.env)).any (·.1)=false:=by rfl):QE X (.Call (.Name "sorted" p2) [e] [] pos) (aD tI tr):=
 kG aJ6 aR6 hg B.sorted PyProof.Rows.boot_sorted ha (he:=he) (hpl:=hpl)
end
end PP
namespace Core
open PySem L2 PP
structure WL (n:Int) (ws:List Int) (ls:List (Int × Int)):Prop where
 many:(ws.length:Int)=n
 inn:∀ l ∈ ls,0<=l.1/\l.1 < l.2/\l.2 < n
 most:ls.length<=1700
 ord:ls.Pairwise iK
 pos:∀ w ∈ ws,0<=w
theorem WL.perm {n:Int}{ws:List Int}{ls ls':List (Int × Int)} (h1:(ws.length:Int)=n) (h2:∀ l ∈ ls,0<=l.1/\l.1 < l.2/\l.2 < n) (h3:ls.length<=1700) (nd:ls.Nodup) (h4:∀ w ∈ ws,0<=w) (p:ls'.Perm ls) (so:(ls'.map two).Pairwise fun u v=>HT.dA v u=false):WL n ws ls':=
 ⟨h1,fun l hl=>h2 l (p.mem_iff.mp hl),by rw [p.length_eq]; exact h3,Z2 so (p.nodup_iff.mpr nd),h4⟩
theorem WL.wb {n:Int}{ws:List Int}{ls:List (Int × Int)} (h:WL n ws ls) (hn:n<=40):Wb ws ls:=
 ⟨by have:=h.many; omega,h.most,fun l hl=>by have:=h.inn l hl; have:=h.many; omega⟩
noncomputable def aR8 (f:List Int->List (Int × Int)->List Int->(PV->Prop)->Prop):eS:=fun Ep xs Q=>∃ ws ls x ns,xs = [bG ws ls,x]/\Wb ws ls/\fP x ns/\ns.length<=1000/\(bA ws.length ns=true->f ws ls ns Q)/\(bA ws.length ns=false->Ep "BadSet")
noncomputable def tJ:bL:=fun xs Q=>∃ ws ls y ms,xs = [bG ws ls,y]/\fP y ms/\ms.length<=1000/\ws.length<=1000/\Q (.tup (intz (xY ws.length ms)))
noncomputable def ab5:aK:=(bN (aD nK (a7 (sX (aD iW (a7 (a5 0) a9))) (a7 (a5 1) a9))))
theorem aR9:cR ab5 ["web","some"] tJ:=by
 rintro xs Q ⟨ws,ls,y,ms,rfl,hy,hm,hw,q⟩
 refine⟨_,rfl,ws,ls,rfl,_,rfl,by omega,by omega,?_⟩
 rw [aO0]
 refine⟨_,rfl,_,rng ws.length,y,ms,rfl,.inr rfl,hy,by rw [dO]; omega,hm,trivial,q⟩
end Core
namespace PP
open PySem L2
section
variable {X : Cx} {a : Expr} {tk : aF} {σ : St} {H : Hp} {Q' : VK} {pos p2 : Pos}
noncomputable def yK (tk:aF):aF:=fun ρ Q=>tk ρ fun x _=>∃ n:Int,x = .int n/\Q (.dK [(Sum.inl n,.bl true)]) .fr
theorem aS0 (h:LE X (yK tk) σ H Q'):K2 [(LE X tk,tC (.bl true))] σ H Q':=by
 obtain ⟨W,ρ,Q,px,q,k⟩:=h
 intro p hp
 refine⟨W,ρ,_,px.mono (bI hp _),q,?_⟩
 rintro v H1 x g s r ⟨n,rfl,q1⟩
 cases r
 have hp1:H1 p=some (.dK []):=s p _ bK
 refine⟨hp1,[((Sum.inl n:aI),V.bl true)],rfl,by show 1<=15; decide,?_⟩
 have sm:aA H (upd H1 p (.dK (mK [] [((Sum.inl n:aI),V.bl true)]))):=fun b o e=>by
  have nb:b ≠ p:=fun z=>by rw [z,hp] at e; cases e
  rw [aW nb]
  exact s b o (by rw [aW nb]; exact e)
 exact k _ _ _ .fr sm (.dK hp bK rfl (.cons (.bl true) .nil)) q1
theorem aS1 {j:Nat} (ha:QE X a tk):QE X (.Dict [some a] [.Constant (.bool true) j p2] pos) (yK tk):=
 cH (av4 (av3 ha zV av2) rfl rfl (by simp) (by show 1<=15; decide)) fun _ _ _=>aS0
theorem aS2 (hN:X.N.Nodup) (i j:Nat) {x y:Str}{apos cpos xpos:Pos} (hi:X.N[i]? = some x:=by rfl) (hj:X.N[j]? = some y:=by rfl) (hv:gG X.env.scope x:=by first | exact Or.inl rfl | exact Or.inr (Or.inl rfl) | exact Or.inr (Or.inr rfl)) (hd:(x == ("__debug__" : Str))=false:=by decide) (hcd:(x == ("__classdict__" : Str))=false:=by decide)
  (hbase:attributeBase (.Name x xpos) "pop" X.env (eval (.Name x xpos) X.env)=eval (.Name x xpos) X.env:=by rfl) (hline:(apos.endLine == cpos.line)=true:=by rfl)
  (hx:gT X.env.scope y:=by first | exact Or.inl rfl | exact Or.inr rfl) (hs:swapsWith (.Call (.Attribute (.Name x xpos) "pop" apos) [] [] cpos) (some (.Name y p2)) pos.line X.env=pure false:=by rfl) (hf:X.fn y=true ∨ X.env.scope.names.lookup y=some .local:=by first | exact .inl rfl | exact .inr rfl) :
  QS X (.Assign [.Name y p2] (.Call (.Attribute (.Name x xpos) "pop" apos) [] [] cpos) pos) (wI i j):=
 dN (uG hN hj hx (at7 bp1 PySem.F.slot_list_pop PySem.F.type_list_pop au0 (iR hi hv hd hcd) hbase hline) hs hf) fun _ _ _=>aC2
end
end PP
namespace Core
open PySem L2 PP
noncomputable def gQ (R:List Int):List (aI × PV):=R.map fun x=>((Sum.inl x:aI),PV.bl true)
theorem ab6 (R:List Int):(gQ R).map (·.1)=R.map (Sum.inl:Int->aI):=by unfold gQ; rw [bq7]; rfl
theorem aS3 (R:List Int):(gQ R).length=R.length:=by unfold gQ; rw [bh1]
theorem aS4 (R:List Int) (n:Int):(cQ (gQ R) (Sum.inl n:aI)).isSome=decide (n ∈ R):=by
 rw [<- sU,bp9,List.any_eq_true,bk9]
 unfold gQ
 refine⟨fun ⟨p,hp,e⟩=>?_,fun h=>⟨_,bi8.mpr ⟨n,h,rfl⟩,bg8 rfl⟩⟩
 obtain ⟨x,hx,rfl⟩:=bi8.mp hp
 have e:(Sum.inl x:aI)=Sum.inl n:=bo1 e
 rw [<- Sum.inl.inj e]; exact hx
theorem aS5 {R:List Int}{y:Int} (h:y ∉ R):fM (gQ R) (Sum.inl y:aI) (.bl true)=gQ (R ++ [y]):=by
 rw [aQ2 (ab6 R) h]
 unfold gQ
 rw [bk4]; rfl
structure yM (n:Nat) (ls:List (Int × Int)) (S P:List Int):Prop where
 set:bA n P=true
 ne:P ≠ []
 sub:∀ x ∈ P,x ∈ S
 shut:∀ x ∈ P,∀ y ∈ aR ls x,y ∈ S->y ∈ P
 got:∀ h ∈ S.head?,h ∈ P
 least:∀ U:List Int,(∀ x ∈ U,∀ y ∈ aR ls x,y ∈ S->y ∈ U)->(∀ h ∈ S.head?,h ∈ U)->∀ x ∈ P,x ∈ U
noncomputable def tK:bL:=fun xs Q=>∃ ws ls S,xs = [.lst (dR ws.length ls),.tup (intz S)]/\Wb ws ls/\bA ws.length S=true/\S ≠ []/\∀ P,yM ws.length ls S P->Q (.tup (intz P))
noncomputable def ab7:aK:=(aB (b6 2 (aD nH (a7 (a5 1) a9)))
 (aB (dB 3 (yK (b7 (a5 1) (qC (.int 0)))))
 (aB (dB 4 (eO (a7 (b7 (a5 1) (qC (.int 0))) a9)))
 (aB (lF (lH (a5 4))
  (aB (wI 4 5)
  (dY (fJ (b7 (a5 0) (a5 5))) (cK 6)
   (bX (k9 (aZ (lJ false (a5 6) (a5 2))) (aZ (lJ true (a5 6) (a5 3)))) (aB (rO 3 (a5 6) (qC (.bl true)))
    (gN 4 (a5 6))) cF))))
 (bN (aD jM (a7 (aD xZ (a7 (a5 3) a9)) a9)))))))
structure Way (ls:List (Int × Int)) (S R W:List Int) (E:Int->Prop):Prop where
 nd:R.Nodup
 ne:R ≠ []
 sub:∀ x ∈ R,x ∈ S
 wait:∀ x ∈ W,x ∈ R
 shut:∀ x ∈ R,x ∉ W->¬ E x->∀ y ∈ aR ls x,y ∈ S->y ∈ R
 got:∀ h ∈ S.head?,h ∈ R
 least:∀ U:List Int,(∀ x ∈ U,∀ y ∈ aR ls x,y ∈ S->y ∈ U)->(∀ h ∈ S.head?,h ∈ U)->∀ x ∈ R,x ∈ U
theorem aS6:cR ab7 ["around","hearths","inside","reached","waiting","hearth","other"] tK:=by
 rintro xs Q ⟨ws,ls,S,rfl,wb,hS,hne,q⟩
 have few:=wb.few
 have most:=wb.most
 have sl:=sW hS
 have snd:S.Nodup:=(gE (fQ hS).1).imp fun h=>bt1 h
 obtain ⟨s0,sr,rfl⟩:∃ s0 sr,S=s0 :: sr:=by
  cases S with
  | nil=>exact absurd rfl hne
  | cons a r=>exact⟨a,r,rfl⟩
 have i0:L2.atI (intz (s0 :: sr)) (0:Int)=some (.int s0):=l8 (xs:=intz (s0 :: sr)) (j:=0) rfl
 generalize hSS:s0 :: sr=S at *
 have m0:s0 ∈ S:=by rw [<- hSS]; exact bh2
 have hd:∀ h,h ∈ S.head? ↔ h=s0:=fun h=>by rw [<- hSS]; exact⟨fun z=>by cases z; rfl,fun z=>by rw [z]; rfl⟩
 refine⟨_,rfl,_,S,rfl,.inl rfl,by omega,fun pm dm=>⟨trivial,?_⟩⟩
 refine⟨_,rfl,_,_,_,rfl,rfl,i0,s0,rfl,rfl,rfl,?_⟩
 refine⟨_,rfl,_,_,_,rfl,rfl,i0,by show 1<=1000; decide,rfl,rfl,rfl,?_⟩
 refine⟨fun n ρ=>∃ (R W:List Int) (y5 y6:Option Slot),ρ = [some (.sh (flat (.lst (dR ws.length ls))) (.lst (dR ws.length ls))),some (.sh (flat (.tup (intz S))) (.tup (intz S))),some (.sh true (.dK pm)),some (.own (.dK (gQ R))),some (.own (.lst (intz W))),y5,y6]/\
   n=2 * (S.length - R.length)+W.length/\n<=2 * S.length/\Way ls S R W fun _=>False,⟨_,[s0],[s0],none,none,rfl,rfl,by rw [<- hSS]; simp; omega,bj8 _ _,(fun z=>nomatch z),(fun x hx=>by rw [bg6.mp hx]; exact m0),fun _ h=>h,fun x hx hw=>absurd hx hw,fun h hh=>bg6.mpr ((hd h).mp hh),fun U _ hU x hx=>by rw [bg6.mp hx]; exact hU s0 ((hd s0).mpr rfl)⟩,?_⟩
 rintro n ρ ⟨R,W,y5,y6,rfl,rfl,bd,wy⟩
 refine⟨_,rfl,_,rfl,?_⟩
 have rl:R.length<=S.length:=wy.nd.length_le_of_subset wy.sub
 rcases List.eq_nil_or_concat W with hW | ⟨W',h,hW⟩
 ·subst hW
  refine bD ⟨_,rfl,_,R,rfl,ab6 R,by omega,fun ms pm so=>⟨⟨_,_,rfl,rfl,dX _,trivial,q ms ⟨?_,?_,?_,?_,fun h hh=>pm.mem_iff.mpr (wy.got h hh),fun U hU hh x hx=>wy.least U hU hh x (pm.mem_iff.mp hx)⟩⟩,fun ns z=>by cases z⟩⟩
  ·have nd:ms.Nodup:=pm.nodup_iff.mpr wy.nd
   have up:ms.Pairwise (· < ·):=(List.Pairwise.and so nd).imp fun z=>Int.lt_iff_le_and_ne.mpr ⟨z.1,z.2⟩
   have u:pQ (ws.length:Int) ms:=⟨up,fun x hx=>(fQ hS).2 x (wy.sub x (pm.mem_iff.mp hx)),by rw [pm.length_eq]; omega⟩
   exact u.set
  ·intro z; rw [z] at pm; exact wy.ne (List.nil_perm.mp pm)
  ·exact fun x hx=>wy.sub x (pm.mem_iff.mp hx)
  ·exact fun x hx y hy hyS=>pm.mem_iff.mpr (wy.shut x (pm.mem_iff.mp hx) (fun z=>nomatch z) (fun z=>z) y hy hyS)
 ·have hW:W=W' ++ [h]:=by rw [hW]; simp
  subst hW
  have hR:h ∈ R:=wy.wait h (by simp)
  have hb:=(fQ hS).2 h (wy.sub h hR)
  have nz:(!(intz (W' ++ [h])).isEmpty)=true:=by rw [i6]; cases W' <;> rfl
  show if (!(intz (W' ++ [h])).isEmpty)=true then _ else _
  rw [nz]
  refine bH ⟨intz W',.int h,by rw [i6]; rfl,?_⟩
  refine⟨_,rfl,_,rfl,_,_,_,rfl,rfl,xQ hb.1 hb.2,_,rfl,(fun z=>by cases z),fun j ρ=>∃ (R2 W2:List Int) (y6:Option Slot),ρ = [some (.sh (flat (.lst (dR ws.length ls))) (.lst (dR ws.length ls))),some (.sh (flat (.tup (intz S))) (.tup (intz S))),some (.sh true (.dK pm)),some (.own (.dK (gQ R2))),some (.own (.lst (intz W2))),si h,y6]/\
    2 * (S.length - R2.length)+W2.length < 2 * (S.length - R.length)+(W' ++ [h]).length/\Way ls S R2 W2 (fun x=>x=h)/\h ∈ R2/\∀ y ∈ (aR ls h).take j,y ∈ S->y ∈ R2,
    ⟨R,W',y6,rfl,by rw [bi4,bk8]; omega,⟨wy.nd,wy.ne,wy.sub,fun x hx=>wy.wait x (bj3 _ hx),fun x hx hw he=>wy.shut x hx (fun z=>(bh6.mp z).elim hw fun z=>he (bg6.mp z)) fun z=>z,wy.got,wy.least⟩,hR,fun y hy=>by rw [List.take_zero] at hy; cases hy⟩,?_,?_⟩
  ·rintro j y ρ hy ⟨R2,W2,y6,rfl,lt,wy2,hR2,seen⟩
   obtain ⟨o,rfl,ho⟩:=kK hy
   have rl2:R2.length<=S.length:=wy2.nd.length_le_of_subset wy2.sub
   have tk:∀ y,y ∈ (aR ls h).take (j+1)->y ∈ (aR ls h).take j ∨ y=o:=fun y z=>by
    rw [bo2,ho] at z
    rcases bh6.mp z with z | z
    ·exact .inl z
    ·exact .inr (by simpa using z)
   refine gP ?_
   refine⟨_,rfl,_,rfl,_,.inl ⟨pm,Sum.inl o,rfl,rfl,rfl⟩,_,rfl,?_⟩
   show if (cQ pm (Sum.inl o:aI)).isSome=true then _ else _
   rw [dm.has o]
   by_cases h1:o ∈ S
   ·rw [bg8 h1]
    refine bH ⟨_,rfl,_,rfl,_,.inl ⟨gQ R2,Sum.inl o,rfl,rfl,rfl⟩,_,rfl,?_⟩
    show if (!(cQ (gQ R2) (Sum.inl o:aI)).isSome)=true then _ else _
    rw [aS4]
    by_cases h2:o ∈ R2
    ·rw [bg8 h2]
     exact bD ⟨R2,W2,si o,rfl,lt,wy2,hR2,fun y z zS=>(tk y z).elim (fun z=>seen y z zS) fun e=>by rw [e]; exact h2⟩
    ·rw [bh5 h2]
     have nd3:(R2 ++ [o]).Nodup:=bp5.mpr ⟨wy2.nd,bj8 _ _,fun a ha b hb e=>h2 (by rw [bg6.mp hb] at e; rw [<- e]; exact ha)⟩
     have sub3:∀ x ∈ R2 ++ [o],x ∈ S:=fun x hx=>(bh6.mp hx).elim (wy2.sub x) fun z=>by rw [bg6.mp z]; exact h1
     have l3:(R2 ++ [o]).length<=S.length:=nd3.length_le_of_subset sub3
     rw [bi4,bk8] at l3
     refine bH ⟨_,rfl,_,rfl,Sum.inl o,rfl,trivial,by rw [aS3]; omega,?_⟩
     rw [aS5 h2]
     refine⟨_,rfl,_,rfl,trivial,by rw [bP]; omega,R2 ++ [o],W2 ++ [o],si o,?_,?_,⟨nd3,(fun z=>by simp at z),sub3,fun x hx=>?_,fun x hx hw he y hy yS=>?_,fun h hh=>bj3 _ (wy2.got h hh),fun U hU hh x hx=>(bh6.mp hx).elim (wy2.least U hU hh x) fun z=>by rw [bg6.mp z]; exact hU h (wy2.least U hU hh h hR2) o (bg9 ho) h1⟩,bj3 _ hR2,fun y z zS=>?_⟩
     ·rw [i6]; rfl
     ·simp only [bi4,bk8] at lt ⊢; omega
     ·rcases bh6.mp hx with z | z
      ·exact bj3 _ (wy2.wait x z)
      ·exact bi9 _ z
     ·rcases bh6.mp hx with z | z
      ·exact bj3 _ (wy2.shut x z (fun z=>hw (bj3 _ z)) he y hy yS)
      ·exact absurd (bi9 _ z) hw
     ·rcases tk y z with z | e
      ·exact bj3 _ (seen y z zS)
      ·rw [e]; exact bi9 _ (bg6.mpr rfl)
   ·rw [bh5 h1]
    exact bD (bD ⟨R2,W2,si o,rfl,lt,wy2,hR2,fun y z zS=>(tk y z).elim (fun z=>seen y z zS) fun e=>absurd (e ▸ zS) h1⟩)
  ·rintro ρ ⟨R2,W2,y6,rfl,lt,wy2,hR2,seen⟩
   rw [bP,bs5] at seen
   refine⟨_,lt,R2,W2,si h,y6,rfl,rfl,by omega,wy2.nd,wy2.ne,wy2.sub,wy2.wait,fun x hx hw _ y hy yS=>?_,wy2.got,wy2.least⟩
   by_cases e:x=h
   ·subst e; exact seen y hy yS
   ·exact wy2.shut x hx hw e y hy yS
noncomputable def ab8 (Ep:Str->Prop):aK:=(aB (b6 2 (aD jU (a7 (a5 0) a9)))
 (aB (b6 3 (pS Ep tH (a7 (a5 0) (a7 (a5 1) a9))))
 (aB (dB 4 (eO a9))
 (aB (lF (lH (a5 3))
  (aB (b6 5 (aD tK (a7 (a5 2) (a7 (a5 3) a9))))
  (aB (gN 4 (a5 5))
  (b6 3 (aD nK (a7 (a5 3) (a7 (a5 5) a9)))))))
 (kB 4)))))
theorem aS7 (n:Nat):rng (n+1)=rng n ++ [(n:Int)]:=by
 unfold rng; rw [List.range_succ,bk4]; rfl
theorem nO (n:Nat) (a:Int):(List.replicate n [PV.int a]).flatten=intz (List.replicate n a):=by
 induction n with
 | zero=>rfl
 | succ n ih=>rw [bn3,bn3,bs8,ih]; rfl
section
variable {ws : List Int} {ls : List (Int × Int)}
noncomputable def cne (ws:List Int) (ls:List (Int × Int)) (S:List Int):Bool:=!decide (S = []) && decide (stay ws ls S=S)
end
theorem nP {b:Bool}{A B:Prop} (a:A) (c:B):if b=true then A else B:=by
 cases b with
 | true=>exact bH a
 | false=>exact bD c
end Core
namespace PP
open PySem L2
section
variable {X : Cx} {a b : Expr} {ta tb : aF} {pos : Pos}
theorem aS8 {K:PySem.W.Frag}{M M':Addr->Prop}{H:Hp}{v:V}{m n:List Int} (r1:aH K M H v (.tup (intz m))) (r2:aH K M' H v (.tup (intz n))):m=n:=by
 obtain ⟨p,us,rfl,h1,q1⟩:=r1.sqT
 obtain ⟨p2,ws,e,h2,q2⟩:=r2.sqT
 cases e
 rw [h1] at h2
 cases h2
 have:=(q1.ofInts).symm.trans q2.ofInts
 exact (List.map_inj_right fun _ _ e=>by cases e; rfl).mp this
end
end PP
namespace Core
open PySem L2 PP
noncomputable def far (ns S:List Int):Bool:=decide (((S.filter fun x=>decide (x ∈ ns)).length:Int)=0)
noncomputable def cY (ls:List (Int × Int)) (S U:List Int):Prop:=∀ x ∈ U,∀ y ∈ aR ls x,y ∈ S->y ∈ U
noncomputable def comp (ls:List (Int × Int)) (S:List Int) (h:Int):List Int:=S.filter fun x=>@decide (∀ U:List Int,cY ls S U->h ∈ U->x ∈ U) (Classical.propDecidable _)
section
variable {ws : List Int} {ls : List (Int × Int)} {S : List Int} {n : Nat} {h x : Int}
theorem eU:x ∈ comp ls S h ↔ x ∈ S/\∀ U,cY ls S U->h ∈ U->x ∈ U:=by
 unfold comp
 rw [bj0]
 exact⟨fun z=>⟨z.1,@bo1 _ (Classical.propDecidable _) z.2⟩,fun z=>⟨z.1,@bg8 _ (Classical.propDecidable _) z.2⟩⟩
theorem nQ:∀ x ∈ comp ls S h,x ∈ S:=fun x hx=>(eU.mp hx).1
theorem dS (hh:h ∈ S):h ∈ comp ls S h:=eU.mpr ⟨hh,fun _ _ z=>z⟩
theorem gR:cY ls S (comp ls S h):=fun x hx y hy yS=>eU.mpr ⟨yS,fun U hU z=>hU x ((eU.mp hx).2 U hU z) y hy yS⟩
theorem fE (hS:bA n S=true):bA n (comp ls S h)=true:=tD hS _
theorem aS9 {P:List Int} (hS:bA n S=true) (hP:bA n P=true) (hs:∀ x ∈ P,x ∈ S) (hh:h ∈ P) (sh:cY ls S P) (le:∀ U,cY ls S U->h ∈ U->∀ x ∈ P,x ∈ U):P=comp ls S h:=
 aa1 hP (fE hS) fun x=>⟨fun hx=>eU.mpr ⟨hs x hx,fun U hU z=>le U hU z x hx⟩,fun hx=>(eU.mp hx).2 P sh hh⟩
theorem iM (hS:bA n S=true) (hx:x ∈ comp ls S h) (hh:h ∈ S):comp ls S x=comp ls S h:=by
 have back:h ∈ comp ls S x:=by
  refine eU.mpr ⟨hh,fun U hU xU=>?_⟩
  refine bp7 fun hn=>?_
  have sv:cY ls S (S.filter fun z=>!decide (z ∈ U)):=fun a ha b hb bS=>by
   rw [bj0] at ha ⊢
   refine⟨bS,?_⟩
   by_cases bU:b ∈ U
   ·have:=hU b bU a (jG hb) ha.1
    rw [bg8 this] at ha; exact absurd ha.2 (by decide)
   ·rw [bh5 bU]; rfl
  have:=(eU.mp hx).2 _ sv (bj0.mpr ⟨hh,by rw [bh5 hn]; rfl⟩)
  rw [bj0,bg8 xU] at this
  exact absurd this.2 (by decide)
 exact aa1 (fE hS) (fE hS) fun y=>⟨fun hy=>(eU.mp hy).2 _ gR hx,fun hy=>(eU.mp hy).2 _ gR back⟩
theorem i7 {L:List Int}{a:Int} (hL:bA n L=true) (ha:L.head? = some a):a ∈ L/\∀ x ∈ L,a=x ∨ a < x:=by
 cases L with
 | nil=>cases ha
 | cons b r=>
  cases ha
  refine⟨bh2,fun x hx=>?_⟩
  rcases bi0.mp hx with e | hx
  ·exact .inl e.symm
  ·exact .inr ((bw0.mp (gE (fQ hL).1)).1 x hx)
theorem yN {L:List Int}{a:Int} (hL:bA n L=true) (ha:a ∈ L) (hl:∀ x ∈ L,a<=x):L.head? = some a:=by
 cases L with
 | nil=>cases ha
 | cons b r=>
  rcases bi0.mp ha with e | e
  ·rw [e]; rfl
  ·have h1:=(bw0.mp (gE (fQ hL).1)).1 a e
   have h2:=hl b bh2
   omega
noncomputable def pV (ls:List (Int × Int)) (S:List Int) (h:Int):Bool:=decide ((comp ls S h).head? = some h)
noncomputable def aQ (ls:List (Int × Int)) (S:List Int):List Int:=S.filter (pV ls S)
theorem aT0 {A B:List Int} (ua:A.Pairwise (· < ·)) (ub:B.Pairwise (· < ·)) (h:∀ x,x ∈ A ↔ x ∈ B):A=B:=
 Z3 ((List.perm_ext_iff_of_nodup (ua.imp fun z=>bt1 z) (ub.imp fun z=>bt1 z)).mpr h) (ua.imp fun z=>bw4 z) (ub.imp fun z=>bw4 z)
theorem aT1 {L:List Int}{a:Int} (hS:bA n S=true) (hL:bA n L=true) (sub:∀ x ∈ L,x ∈ S) (ha:L.head? = some a) (pl:∀ x ∈ comp ls S a,x ∈ L)
  (lt:∀ h ∈ (aQ ls S).filter (fun z=>!decide (z ∈ L)),∀ x ∈ L,h < x) :
  (aQ ls S).filter (fun z=>!decide (z ∈ L.filter fun z=>!decide (z ∈ comp ls S a)))=(aQ ls S).filter (fun z=>!decide (z ∈ L)) ++ [a]:=by
 obtain ⟨aL,al⟩:=i7 hL ha
 have aS:=sub a aL
 have hu:(aQ ls S).Pairwise (· < ·):=gE (fQ (tD hS (pV ls S))).1
 have hd:(comp ls S a).head? = some a:=yN (fE hS) (dS aS) fun x hx=>by rcases al x (pl x hx) with e | e <;> omega
 refine aT0 (hu.sublist List.filter_sublist) (bm5.mpr ⟨hu.sublist List.filter_sublist,bj8 _ _,fun x hx y hy=>by rw [bg6.mp hy]; exact lt x hx a aL⟩) fun x=>?_
 simp only [bh6,bg6,bj0,Bool.not_eq_true',bl9,not_and,Decidable.not_not]
 constructor
 ·rintro ⟨hx,hn⟩
  by_cases xL:x ∈ L
  ·refine .inr ?_
   have xc:=hn xL
   have h1:(comp ls S x).head? = some x:=bo1 (bj0.mp hx).2
   rw [iM hS xc aS,hd] at h1
   cases h1; rfl
  ·exact .inl ⟨hx,xL⟩
 ·rintro (⟨hx,xL⟩ | rfl)
  ·exact⟨hx,fun z=>absurd z xL⟩
  ·exact⟨bj0.mpr ⟨aS,bg8 hd⟩,fun _=>dS aS⟩
theorem yM.comp {L P:List Int}{a:Int} (hS:bA n S=true) (sub:∀ x ∈ L,x ∈ S) (sh:cY ls S L) (ha:L.head? = some a) (pc:yM n ls L P):P=comp ls S a:=by
 have ea:∀ z,z ∈ L.head?->z=a:=fun z hz=>by rw [ha] at hz; cases hz; rfl
 exact aS9 hS pc.set (fun x hx=>sub x (pc.sub x hx)) (pc.got a ha) (fun x hx y hy yS=>pc.shut x hx y hy (sh x (pc.sub x hx) y hy yS))
  fun U hU aU=>pc.least U (fun x hx y hy yL=>hU x hx y hy (sub y yL)) fun z hz=>by rw [ea z hz]; exact aU
end
noncomputable abbrev aT2:=ab8
noncomputable def iN (ls:List (Int × Int)) (S:List Int):List (List Int):=(aQ ls S).map (comp ls S)
noncomputable def tL:eS:=aR8 fun ws ls S Q=>Q (.lst (tups (iN ls S)))
theorem aT3:pU ab8 ["web","block","around","left","pieces","piece"] tL:=by
 rintro Ep xs Q ⟨ws,ls,x,S,rfl,wb,hx,hl,q,qe⟩
 have few:=wb.few
 refine⟨_,rfl,ws,ls,rfl,wb,trivial,?_⟩
 refine⟨_,rfl,_,rfl,ws,ls,x,S,rfl,hx,hl,fun hs=>⟨trivial,?_⟩,qe⟩
 have q:Q (.lst (tups (iN ls S))):=q hs
 have sl:=sW hs
 refine⟨by decide,rfl,rfl,rfl,?_⟩
 refine⟨fun n ρ=>∃ (L:List Int) (Ps:List (List Int)) (y5:Option Slot),ρ = [some (.sh (flat (bG ws ls)) (bG ws ls)),some (.sh (flat x) x),some (.sh true (.lst (dR ws.length ls))),some (.sh true (.tup (intz L))),some (.own (.lst (tups Ps))),y5]/\
   n=L.length/\bA ws.length L=true/\Ps.length+L.length<=S.length/\(∀ x ∈ L,x ∈ S)/\cY ls S L/\Ps=((aQ ls S).filter fun z=>!decide (z ∈ L)).map (comp ls S)/\∀ h ∈ (aQ ls S).filter (fun z=>!decide (z ∈ L)),∀ x ∈ L,h < x,⟨_,S,[],none,rfl,rfl,hs,by simp,fun _ h=>h,fun _ _ _ _ h=>h,?_,?_⟩,?_⟩
 ·rw [List.filter_eq_nil_iff.mpr fun z hz=>?_]; rfl
  rw [bg8 (bj0.mp hz).1]; decide
 ·intro h hh
  have:=bj0.mp hh
  rw [bg8 (bj0.mp this.1).1] at this
  exact absurd this.2 (by decide)
 rintro n ρ ⟨L,Ps,y5,rfl,rfl,lset,bd,sub,sh,eP,lt⟩
 refine⟨_,rfl,_,rfl,?_⟩
 cases hL:L with
 | nil=>
  refine bD ⟨_,rfl,trivial,?_⟩
  have e:(aQ ls S).filter (fun z=>!decide (z ∈ L))=aQ ls S:=List.filter_eq_self.mpr fun z _=>by rw [hL]; rfl
  rw [e] at eP
  rw [eP]; exact q
 | cons a r=>
  rw [<- hL]
  have ne:(!(intz L).isEmpty)=true:=by rw [hL]; rfl
  have nl:L ≠ []:=by rw [hL]; exact fun z=>nomatch z
  have hd:L.head? = some a:=by rw [hL]; rfl
  show if (!(intz L).isEmpty)=true then _ else _
  rw [ne]
  refine bH ?_
  have ll:=sW lset
  refine⟨_,rfl,_,rfl,ws,ls,L,rfl,wb,lset,nl,fun P pc=>⟨trivial,?_⟩⟩
  have pn:P.Nodup:=(gE (fQ pc.set).1).imp fun h=>bt1 h
  have pl:P.length<=L.length:=pn.length_le_of_subset pc.sub
  refine⟨_,rfl,_,rfl,trivial,by rw [sV]; omega,?_⟩
  refine⟨_,rfl,_,rfl,_,L,_,P,rfl,.inl rfl,.inl rfl,by omega,by omega,trivial,?_⟩
  have aP:=pc.got a hd
  obtain ⟨aL,al⟩:=i7 lset hd
  have lt2:(L.filter fun z=>!decide (z ∈ P)).length < L.length:=by
   rcases bm3 (L.filter fun z=>!decide (z ∈ P)).length L.length with z | z
   ·exact z
   ·have:=List.filter_eq_self.mp (List.filter_sublist.eq_of_length_le z) a aL
    rw [bg8 aP] at this; cases this
  have ec:=pc.comp hs sub sh hd
  have hn:=aT1 hs lset sub hd (fun x hx=>pc.sub x (by rw [ec]; exact hx)) lt
  rw [<- ec] at hn
  refine⟨_,lt2,L.filter (fun z=>!decide (z ∈ P)),Ps ++ [P],some (.sh true (.tup (intz P))),?_,rfl,tD lset _,by rw [bi4,bk8]; omega,fun x hx=>sub x (bj0.mp hx).1,?_,?_,?_⟩
  ·unfold tups
   rw [bk4]; rfl
  ·intro x hx y hy yS
   rw [bj0] at hx ⊢
   refine⟨sh x hx.1 y hy yS,?_⟩
   by_cases yP:y ∈ P
   ·have:=pc.shut y yP x (jG hy) hx.1
    rw [bg8 this] at hx; exact absurd hx.2 (by decide)
   ·rw [bh5 yP]; rfl
  ·rw [hn,bk4,<- eP,ec]; rfl
  ·rw [hn]
   intro h hh x hx
   rw [bj0] at hx
   rcases bh6.mp hh with hh | hh
   ·exact lt h hh x hx.1
   ·rw [bg6.mp hh]
    rcases al x hx.1 with e | e
    ·rw [<- e,bg8 aP] at hx; exact absurd hx.2 (by decide)
    ·exact e
end Core
namespace PP
open PySem L2
section
variable {X : Cx} {σ : St} {H : Hp} {D : cT} {te : aF} {e : Expr} {pos : Pos}
noncomputable def aT4 (i:Nat) (tk:aF):aK:=fun D ρ=>∃ xs,ρ[i]? = some (some (.own (.lst xs)))/\tk ρ fun n _=>∃ m:Nat,n = .int m/\xs.length<=16000000/\m < xs.length/\D.nx (ρ.set i (some (.own (.lst (xs.eraseIdx m)))))
end
section
variable {X : Cx} {a b : Expr} {ta tb : aF} {pos : Pos}
noncomputable def yO:PV->Tg->PV->Tg->PK->Prop:=fun x _ y _ Q=>∃ (i:Int) (o:Option Int),x = .int i/\y=Core.gO o/\Q (.bl (!decide (o=some i))) .fr
theorem aT5:eN X yO uM:=by
 rintro W Hs H u v x y g g' Q Q' s n r1 r2 ⟨i,o,rfl,rfl,q⟩ k
 cases r1
 cases o with
 | none=>
  cases r2
  exact⟨rfl,k _ _ _ .fr (aA.refl _) (.bl true) q⟩
 | some j=>
  cases r2
  have e:decide (V.int i=V.int j)=decide (some j=some i):=decide_eq_decide.mpr ⟨fun z=>by cases z; rfl,fun z=>by cases z; rfl⟩
  refine⟨rfl,?_⟩
  rw [e]
  exact k _ _ _ .fr (aA.refl _) (.bl _) q
theorem aT6 (ha:QE X a ta) (hb:QE X b tb):QT X (.Compare a [.NotEq] [b] pos) (aZ (q2 yO ta tb)):=jN C4 aT5 ha hb (gH _)
end
end PP
namespace Core
open PySem L2 PP
noncomputable def ab9 (ws:List Int) (ls:List (Int × Int)):List Int->List Int->Bool
 | _,[]=>true
 | B,h :: R=>inB ws.length h && (kin ws ls B h && ab9 ws ls (B ++ [h]) R)
noncomputable def sp6:aK:=(bX (aZ (mW (a5 7) (qC (.int 5)))) (kN 4 (a5 6) (b7 (eO (a7 (R4 (qC (.int 1))) (a7 (a5 2) (a7 (lM (R4 (qC (.int 1))) (a5 5)) (a7 (cG (a5 2) (a5 5)) a9))))) (cC (fC (a5 3) (qC (.int 97))) (qC (.int 4))))) cF)
noncomputable def sp5:aK:=(bX (k9 (aZ (eR (a5 7) (qC (.int 5)))) (aZ (mW (a5 2) (qC (.int 0))))) (kN 4 (a5 6) (cC (fC (a5 3) (qC (.int 97))) (a5 2))) sp6)
noncomputable def sp4:aK:=(bX (k9 (aZ (eR (a5 7) (qC (.int 4)))) (aZ (mW (aD dJ (a7 (a5 1) a9)) (qC (.int 0))))) (kN 4 (a5 6) (b7 (a5 1) (cC (fC (a5 3) (qC (.int 97))) (aD dJ (a7 (a5 1) a9))))) sp5)
noncomputable def sp3:aK:=(bX (k9 (aZ (eR (a5 7) (qC (.int 3)))) (aZ (mW (aD dJ (a7 (a5 4) a9)) (qC (.int 0))))) (kN 4 (a5 6) (b7 (a5 4) (cC (fC (a5 3) (qC (.int 97))) (aD dJ (a7 (a5 4) a9))))) sp4)
noncomputable def yQ:aK:=(bX (k9 (aZ (eR (a5 7) (qC (.int 2)))) (aZ (mW (aD dJ (a7 (a5 4) a9)) (qC (.int 0))))) (aT4 4 (cC (a5 6) (aD dJ (a7 (a5 4) a9)))) sp3)
noncomputable def iX:bL:=fun xs Q=>∃ a k:Int,xs = [.int a,.int k]/\0<=k/\k<=1000/\∀ z,0<=z->Q (.int z)
noncomputable def ac0:aK:=(aB (b6 2 (cC (cG (cG (cG (cC (a5 0) (qC (.int 2147483647))) (p6 (p6 (qC (.int 69621)) (a5 1)) (a5 1))) (p6 (qC (.int 40692)) (a5 1))) (qC (.int 1))) (qC (.int 2147483647))))
 (aB (b6 2 (cC (p6 (a5 2) (qC (.int 48271))) (qC (.int 2147483647))))
 (bN (cC (p6 (a5 2) (a5 2)) (qC (.int 2147483647))))))
theorem aT7:cR ac0 ["number","k","turn"] iX:=by
 rintro xs Q ⟨a,k,rfl,k0,k1,q⟩
 have big:(0:Int) < 2147483647:=by decide
 refine⟨_,rfl,_,_,rfl,rfl,big,_,rfl,_,_,rfl,rfl,.inl ⟨by decide,by decide⟩,_,rfl,_,_,rfl,rfl,.inr ⟨by show -(2 ^ 64) < k; omega,by show k < 2 ^ 64; omega⟩,_,_,rfl,rfl,_,rfl,_,_,rfl,rfl,.inl ⟨by decide,by decide⟩,_,_,rfl,rfl,_,_,rfl,rfl,_,_,rfl,rfl,big,trivial,?_⟩
 refine⟨_,rfl,_,_,rfl,rfl,.inr ⟨by decide,by decide⟩,_,_,rfl,rfl,big,trivial,?_⟩
 dsimp only
 have t0:0<=(a % 2147483647+69621 * k * k+40692 * k+1) % 2147483647 * 48271 % 2147483647:=bo6 _ (by decide)
 have t1:(a % 2147483647+69621 * k * k+40692 * k+1) % 2147483647 * 48271 % 2147483647 < 2147483647:=br2 _ (by decide)
 generalize (a % 2147483647+69621 * k * k+40692 * k+1) % 2147483647 * 48271 % 2147483647=t at t0 t1
 exact⟨_,rfl,_,rfl,_,_,rfl,rfl,.inl ⟨by show -(2 ^ 64) < t; omega,by show t < 2 ^ 64; omega⟩,_,_,rfl,rfl,big,trivial,q _ (bo6 _ (by decide))⟩
noncomputable def nR:bL:=fun xs Q=>∃ (ns:List Int) (most:Int),xs = [.scr ns,.int most]/\0<=most/\∀ z,0<=z->z<=most->Q (.int z)
noncomputable def ac1:aK:=(aB (b6 2 (aD eD (a7 (a5 0) (a7 (qC (.int 0)) a9))))
 (aB (bX (aZ (eR (cC (a5 2) (qC (.int 3))) (qC (.int 0)))) (bN (aD mT (a7 (a5 1) (a7 (aD mU (a7 (qC (.int 0)) (a7 (lM (aD dJ (a7 (a5 0) a9)) (qC (.int 4))) a9))) a9)))) cF)
 (aB (bX (aZ (eR (cC (a5 2) (qC (.int 8))) (qC (.int 1)))) (bN (cC (cG (fC (a5 2) (qC (.int 24))) (qC (.int 5))) (cG (a5 1) (qC (.int 1))))) cF)
 (bN (cC (cG (fC (a5 2) (qC (.int 3))) (qC (.int 2))) (cG (aD mT (a7 (qC (.int 6)) (a7 (a5 1) a9))) (qC (.int 1))))))))
theorem aT8:cR ac1 ["script","most","number"] nR:=by
 rintro xs Q ⟨ns,most,rfl,hm,q⟩
 refine⟨_,rfl,_,ns,0,rfl,.inl rfl,by decide,trivial,?_⟩
 generalize ns.getD (0:Int).toNat 0=c
 refine⟨_,rfl,_,_,rfl,rfl,(by show (0:Int) < 3; decide),.inl ⟨_,_,rfl,rfl,_,rfl,nP ?_ ?_⟩⟩
 ·refine⟨_,rfl,_,rfl,_,_,rfl,rfl,_,_,rfl,rfl,_,_,rfl,_,_,rfl,trivial,q _ ?_ ?_⟩ <;> split <;> split <;> omega
 refine⟨_,rfl,_,_,rfl,rfl,(by show (0:Int) < 8; decide),.inl ⟨_,_,rfl,rfl,_,rfl,nP ?_ ?_⟩⟩
 ·have hp:0 < most+1:=by omega
  refine⟨_,rfl,_,_,rfl,rfl,⟨by decide,by decide⟩,_,_,rfl,rfl,_,rfl,_,_,rfl,rfl,_,_,rfl,rfl,hp,trivial,q _ (bo6 _ (by omega)) ?_⟩
  have:=br2 (c / 24+5) hp
  omega
 ·have hp:0 < (if most < 6 then most else 6)+1:=by split <;> omega
  refine⟨_,rfl,_,_,rfl,rfl,⟨by decide,by decide⟩,_,_,rfl,rfl,_,rfl,_,_,rfl,_,_,rfl,rfl,_,_,rfl,rfl,hp,trivial,q _ (bo6 _ (by omega)) ?_⟩
  have:=br2 (c / 3+2) hp
  have hm:(if most < 6 then most else 6)<=most:=by split <;> omega
  omega
noncomputable def ac2 (mx:Int):bL:=fun xs Q=>∃ (ns:List Int) (most:Int),xs = [.scr ns,.int most]/\ns.length<=63/\0<=most/\most<=mx/\∀ n ws ls,0<=n->n<=most->WL n ws ls->Q (bG ws ls)
noncomputable def ac3 (R:List PV->(PV->Prop)->Prop):aK:=(aB (b6 13 (fL (jJ (a5 2)) [none,some 5,some 8] (cK 0) eQ (cC (b7 (a5 1) (a5 0)) (cG (b7 (a5 2) (a5 0)) (qC (.int 2))))))
 (bN (g6 (a7 (aD jM (a7 (a5 13) a9)) (a7 (aD jM (a7 (aD R (a7 (a5 7) a9)) a9)) a9)))))
noncomputable def ac4:aK:=(aB (b6 12 (a5 10))
   (aB (b6 10 (fC (a5 10) (a5 3)))
   (aB (bX (gL (aZ (a5 4))) (b6 12 (aD iX (a7 (b7 (a5 5) (a5 9)) (a7 (cG (a5 11) (qC (.int 60))) a9)))) cF)
   (bX (aZ (eR (cC (a5 12) (a5 3)) (qC (.int 1)))) (aB (gN 7 (g6 (a7 (a5 11) (a7 (a5 9) a9))))
    (aB (iG 8 (a5 11) (cG (b7 (a5 8) (a5 11)) (qC (.int 1))))
    (iG 8 (a5 9) (cG (b7 (a5 8) (a5 9)) (qC (.int 1)))))) cF))))
noncomputable def yR (R:List PV->(PV->Prop)->Prop):aK:=(aB (dY (jJ (a5 2)) (cK 9)
  (aB (b6 10 (fC (b7 (a5 5) (a5 9)) (qC (.int 64))))
  (dY (jJ (a5 9)) (cK 11) ac4)))
 (ac3 R))
noncomputable def ac5 (R:List PV->(PV->Prop)->Prop):aK:=(aB (b6 2 (aD nR (a7 (a5 0) (a7 (a5 1) a9))))
 (aB (b6 3 (cG (qC (.int 2)) (cC (aD eD (a7 (a5 0) (a7 (qC (.int 1)) a9))) (qC (.int 4)))))
 (aB (b6 4 (eR (cC (fC (aD eD (a7 (a5 0) (a7 (qC (.int 1)) a9))) (qC (.int 8))) (qC (.int 2))) (qC (.int 1))))
 (aB (dB 5 (wS (a5 0) (p5 (qC (.int 4))) (p5 (cG (qC (.int 4)) (a5 2)))))
 (aB (dY (oV (aD dJ (a7 (a5 5) a9)) (a5 2)) (cK 6)
  (gN 5 (aD iX (a7 (aD eD (a7 (a5 0) (a7 (qC (.int 1)) a9))) (a7 (a5 6) a9)))))
 (aB (dB 7 (eO a9))
 (aB (dB 8 (nJ (eO (a7 (qC (.int 0)) a9)) (a5 2)))
 (yR R))))))))
structure LK (i j:Nat) (ls:List (Int × Int)):Prop where
 inn:∀ l ∈ ls,0<=l.1/\l.1 < l.2/\(l.2 < (i:Int) ∨ (l.2=(i:Int)/\l.1 < (j:Int)))
 nd:ls.Nodup
 few:ls.length<=40 * i+j
theorem LK.same {i j:Nat}{ls:List (Int × Int)} (h:LK i j ls):LK i (j+1) ls:=
 ⟨fun l hl=>by have:=h.inn l hl; omega,h.nd,by have:=h.few; omega⟩
theorem LK.app {i j:Nat}{ls:List (Int × Int)} (h:LK i j ls) (hj:j < i):LK i (j+1) (ls ++ [((j:Int),(i:Int))]):=by
 refine⟨fun l hl=>?_,bp5.mpr ⟨h.nd,bj8 _ _,fun a ha b hb e=>?_⟩,by rw [bi4,bk8]; have:=h.few; omega⟩
 ·rcases bh6.mp hl with z | z
  ·have:=h.inn l z; omega
  ·rw [bg6.mp z]; dsimp only; omega
 ·rw [bg6.mp hb] at e
  subst e
  have:=h.inn _ ha
  dsimp only at this
  omega
theorem LK.next {i:Nat}{ls:List (Int × Int)} (h:LK i i ls) (hi:i<=40):LK (i+1) 0 ls:=
 ⟨fun l hl=>by have:=h.inn l hl; omega,h.nd,by have:=h.few; omega⟩
theorem fR {ws:List Int}{j:Nat} (h:j < ws.length):L2.atI (intz ws) (j:Int)=some (.int (ws.getD j 0)):=by
 have gw:ws[j]? = some (ws.getD j 0):=by rw [bh7,bg7 h]; rfl
 exact l8 (by rw [bh9,gw]; rfl)
theorem nS {ws:List Int} (h:NN ws) (j:Nat):0<=ws.getD j 0:=by
 rw [bh7]
 cases hj:ws[j]? with
 | none=>exact bq3 0
 | some w=>exact h w (bg9 hj)
theorem ac6 (ns:List Int) (lo hi:Option Int):∃ zs:List Int,jL (intz ns) lo hi=intz zs/\zs.length<=ns.length:=by
 refine⟨(ns.drop (HT.aX (intz ns).length 0 lo)).take (HT.aX (intz ns).length (intz ns).length hi - HT.aX (intz ns).length 0 lo),?_,?_⟩
 ·unfold jL intz; rw [List.map_take,List.map_drop]
 ·rw [br4,bs4]; omega
noncomputable def tM (R:List PV->(PV->Prop)->Prop) (m:Nat):Prop:=∀ (ls:List (Int × Int)) (Q:PV->Prop),ls.length<=40 * m->(∀ ls':List (Int × Int),ls'.Perm ls->(ls'.map two).Pairwise (fun u v=>HT.dA v u=false)->Q (.lst (bE ls')))->(∀ l ∈ ls,0<=l.1/\l.1 < l.2/\l.2 < (m:Int))->ls.Nodup->R [.lst (bE ls)] Q
theorem aT9 {m:Nat}{sp:Int}{dg:Bool}{cs cts:List Int}{lks:List (Int × Int)}{i j:Nat}{nb:Int}{s0 s1 y6 y12 y13:Option Slot}{D:bJ->Prop}{Q:PV->Prop}{ct bk:bJ->Prop} (yQ:2<=sp/\sp<=5) (hc:m<=cs.length) (hi:i < m) (hj:j < i) (m40:m<=40) (lk:LK i j lks) (cl:cts.length=m) (nn:NN cts)
  (k:∀ (nb dr:Int) (lks':List (Int × Int)) (cts':List Int),LK i (j+1) lks'->cts'.length=m->NN cts'->D [s0,s1,si m,si sp,some (.sh true (.bl dg)),some (.own (.lst (intz cs))),y6,some (.own (.lst (bE lks'))),some (.own (.lst (intz cts'))),si i,si nb,si j,si dr,y13]) :
  ac4 { nx:=D,rt:=Q,ct:=ct,bk:=bk } [s0,s1,si m,si sp,some (.sh true (.bl dg)),some (.own (.lst (intz cs))),y6,some (.own (.lst (bE lks))),some (.own (.lst (intz cts))),si i,si nb,si j,y12,y13]:=by
 refine⟨_,rfl,trivial,?_⟩
 refine⟨_,rfl,_,rfl,_,_,rfl,rfl,⟨by omega,by omega⟩,trivial,?_⟩
 dsimp only
 generalize nb / sp=nb2
 have fin:∀ dr:Int,(bX (aZ (eR (cC (a5 12) (a5 3)) (qC (.int 1)))) (aB (gN 7 (g6 (a7 (a5 11) (a7 (a5 9) a9))))
    (aB (iG 8 (a5 11) (cG (b7 (a5 8) (a5 11)) (qC (.int 1))))
    (iG 8 (a5 9) (cG (b7 (a5 8) (a5 9)) (qC (.int 1)))))) cF) { nx:=D,rt:=Q,ct:=ct,bk:=bk } [s0,s1,si m,si sp,some (.sh true (.bl dg)),some (.own (.lst (intz cs))),y6,some (.own (.lst (bE lks))),some (.own (.lst (intz cts))),si i,si nb2,si j,si dr,y13]:=fun dr=>by
  refine⟨_,rfl,_,rfl,_,_,rfl,rfl,by show 0 < sp; omega,.inl ⟨_,_,rfl,rfl,_,rfl,nP ?_ (k nb2 dr lks cts lk.same cl nn)⟩⟩
  have pl:(bE lks).length=lks.length:=bh1 _
  have fw:=lk.few
  refine⟨_,rfl,_,rfl,_,rfl,by show 2<=1000; decide,rfl,trivial,by rw [pl]; omega,?_⟩
  have a1:=fR (ws:=cts) (j:=j) (by omega)
  refine⟨_,rfl,_,rfl,_,_,_,rfl,rfl,a1,_,_,rfl,rfl,_,rfl,_,rfl,j,j,rfl,?_,trivial,?_⟩
  ·rw [bP]; unfold eW; rw [if_pos (by omega),if_pos (by omega)]; rfl
  have e1:(intz cts).set j (.int (cts.getD j 0+1))=intz (cts.set j (cts.getD j 0+1)):=(List.map_set ..).symm
  have n1:NN (cts.set j (cts.getD j 0+1)):=nn.set (by have:=nS nn j; omega) _
  dsimp only
  rw [e1]
  have l1:(cts.set j (cts.getD j 0+1)).length=m:=by rw [bl1]; exact cl
  generalize cts.set j (cts.getD j 0+1)=ct2 at n1 l1
  have a2:=fR (ws:=ct2) (j:=i) (by omega)
  refine⟨_,rfl,_,rfl,_,_,_,rfl,rfl,a2,_,_,rfl,rfl,_,rfl,_,rfl,i,i,rfl,?_,trivial,?_⟩
  ·rw [bP]; unfold eW; rw [if_pos (by omega),if_pos (by omega)]; rfl
  have e2:(intz ct2).set i (.int (ct2.getD i 0+1))=intz (ct2.set i (ct2.getD i 0+1)):=(List.map_set ..).symm
  have n2:NN (ct2.set i (ct2.getD i 0+1)):=n1.set (by have:=nS n1 i; omega) _
  dsimp only
  rw [e2]
  have:=k nb2 dr (lks ++ [((j:Int),(i:Int))]) (ct2.set i (ct2.getD i 0+1)) (lk.app hj) (by rw [bl1]; exact l1) n2
  unfold bE at this ⊢
  rw [bk4] at this
  exact this
 refine⟨_,rfl,_,rfl,?_⟩
 cases dg with
 | true=>exact bD (fin nb)
 | false=>
  have a0:=fR (ws:=cs) (j:=i) (by omega)
  exact bH ⟨_,rfl,_,rfl,_,_,_,rfl,rfl,a0,_,rfl,_,_,rfl,rfl,_,_,rfl,by omega,by omega,fun z _=>⟨trivial,fin z⟩⟩
theorem aU0 {R:List PV->(PV->Prop)->Prop}{m:Nat}{cs cts:List Int}{lks:List (Int × Int)}{s0 s1 y3 y4 y6 y9 y10 y11 y12:Option Slot}{Q:PV->Prop} (hR:tM R m) (hc:m<=cs.length) (m40:m<=40) (lk:LK m 0 lks) (cl:cts.length=m) (nn:NN cts) (q:∀ ws ls,WL m ws ls->Q (bG ws ls)) :
  ac3 R { nx:=fun _=>Q .non,rt:=Q } [s0,s1,si m,y3,y4,some (.own (.lst (intz cs))),y6,some (.own (.lst (bE lks))),some (.own (.lst (intz cts))),y9,y10,y11,y12,none]:=by
 refine⟨_,rfl,m,rfl,by omega,by omega,by rw [g9]; omega,fun i acc=>∃ zs:List Int,acc=intz zs/\zs.length=i/\NN zs,⟨[],rfl,rfl,fun z hz=>by cases hz⟩,?_,?_⟩
 ·rintro i y acc hy ⟨zs,rfl,zl,zn⟩
  obtain ⟨rfl,hi⟩:=iV hy
  have hi:i < m:=by omega
  refine gP ?_
  rw [Int.zero_add]
  have a1:=fR (ws:=cs) (j:=i) (by omega)
  have a2:=fR (ws:=cts) (j:=i) (by omega)
  have p1:=nS nn i
  refine⟨_,rfl,_,rfl,_,_,_,rfl,rfl,a1,_,rfl,_,rfl,_,_,_,rfl,rfl,a2,_,_,rfl,rfl,_,_,rfl,rfl,by show 0 < cts.getD i 0+2; omega,trivial,zs ++ [cs.getD i 0 % (cts.getD i 0+2)],by rw [i6]; rfl,by rw [bi4,zl]; rfl,zn.app (bo6 _ (by omega))⟩
 rintro acc ⟨ws,rfl,wl,wn⟩
 rw [g9,bk1] at wl
 refine⟨trivial,?_⟩
 have fp:∀ ls:List (Int × Int),flats (bE ls)=true:=kL
 have inn:∀ l ∈ lks,0<=l.1/\l.1 < l.2/\l.2 < (m:Int):=fun l hl=>by have:=lk.inn l hl; omega
 refine⟨_,rfl,⟨_,_,rfl,rfl,dX _,?_⟩,(fun ns e=>by cases e)⟩
 refine⟨_,rfl,hR lks _ (by have:=lk.few; omega) (fun ls' pl so=>?_) inn lk.nd⟩
 refine⟨⟨_,_,rfl,rfl,fp _,by show 2<=1000; decide,?_,trivial,?_⟩,(fun ns e=>by cases e)⟩
 ·show (flats (intz ws) && (flats (bE ls') && true))=true
  rw [dX,fp]; rfl
 ·exact q ws ls' (WL.perm (by omega) inn (by have:=lk.few; omega) lk.nd wn pl so)
theorem aU1 {R:List PV->(PV->Prop)->Prop}{m:Nat}{sp:Int}{dg:Bool}{cs cts:List Int}{s0 s1 y6:Option Slot}{Q:PV->Prop} (hR:tM R m) (yQ:2<=sp/\sp<=5) (hc:m<=cs.length) (m40:m<=40) (cl:cts.length=m) (nn:NN cts) (q:∀ ws ls,WL m ws ls->Q (bG ws ls)) :
  yR R { nx:=fun _=>Q .non,rt:=Q } [s0,s1,si m,si sp,some (.sh true (.bl dg)),some (.own (.lst (intz cs))),y6,some (.own (.lst [])),some (.own (.lst (intz cts))),none,none,none,none,none]:=by
 refine⟨_,rfl,m,rfl,by omega,by omega,fun i ρ=>∃ (lks:List (Int × Int)) (cts:List Int) (y9 y10 y11 y12:Option Slot),ρ = [s0,s1,si m,si sp,some (.sh true (.bl dg)),some (.own (.lst (intz cs))),y6,some (.own (.lst (bE lks))),some (.own (.lst (intz cts))),y9,y10,y11,y12,none]/\LK i 0 lks/\cts.length=m/\NN cts,⟨[],cts,none,none,none,none,rfl,⟨(fun l hl=>by cases hl),bq6,bk7 _⟩,cl,nn⟩,?_,?_⟩
 ·rintro i y ρ hy ⟨lks,cts,y9,y10,y11,y12,rfl,lk,cl,nn⟩
  obtain ⟨rfl,hi⟩:=iV hy
  have hi:i < m:=by omega
  refine gP ?_
  rw [Int.zero_add]
  have a1:=fR (ws:=cs) (j:=i) (by omega)
  refine⟨_,rfl,_,rfl,_,_,_,rfl,rfl,a1,_,_,rfl,rfl,⟨by decide,by decide⟩,trivial,?_⟩
  dsimp only
  generalize cs.getD i 0 / 64=nb
  refine⟨_,rfl,i,rfl,by omega,by omega,fun j ρ=>∃ (nb:Int) (lks:List (Int × Int)) (cts:List Int) (y11 y12:Option Slot),ρ = [s0,s1,si m,si sp,some (.sh true (.bl dg)),some (.own (.lst (intz cs))),y6,some (.own (.lst (bE lks))),some (.own (.lst (intz cts))),si i,si nb,y11,y12,none]/\LK i j lks/\cts.length=m/\NN cts,⟨nb,lks,cts,y11,y12,rfl,lk,cl,nn⟩,?_,?_⟩
  ·rintro j y ρ hy ⟨nb,lks,cts,y11,y12,rfl,lk,cl,nn⟩
   obtain ⟨rfl,hj⟩:=iV hy
   have hj:j < i:=by omega
   refine gP ?_
   rw [Int.zero_add]
   exact aT9 yQ hc hi hj m40 lk cl nn fun nb dr lks' cts' h1 h2 h3=>⟨nb,lks',cts',si j,si dr,rfl,h1,h2,h3⟩
  ·rintro ρ ⟨nb,lks,cts,y11,y12,rfl,lk,cl,nn⟩
   rw [g9,bk1] at lk
   exact⟨lks,cts,si i,si nb,y11,y12,rfl,lk.next (by omega),cl,nn⟩
 ·rintro ρ ⟨lks,cts,y9,y10,y11,y12,rfl,lk,cl,nn⟩
  rw [g9,bk1] at lk
  exact aU0 hR hc m40 lk cl nn q
theorem aU2 {R:List PV->(PV->Prop)->Prop}{mx:Int} (mx40:mx<=40) (hR:∀ m:Nat,(m:Int)<=mx->tM R m):cR (ac5 R) ["script","most","many","sparse","digits","cells","k","links","counts","other","number","one","draw","wants"] (ac2 mx):=by
 rintro xs Q ⟨ns,most,rfl,hl,h0,h1,q⟩
 refine⟨_,rfl,_,rfl,ns,most,rfl,h0,fun z z0 z1=>⟨trivial,?_⟩⟩
 obtain ⟨m,rfl⟩:∃ m:Nat,z=m:=⟨z.toNat,by omega⟩
 refine⟨_,rfl,_,ns,1,rfl,.inl rfl,by decide,_,_,rfl,rfl,(by show (0:Int) < 4; decide),_,_,rfl,rfl,trivial,?_⟩
 dsimp only
 have s2:2<=2+ns.getD (1:Int).toNat 0 % 4/\2+ns.getD (1:Int).toNat 0 % 4<=5:=by
  have:=bo6 (ns.getD (1:Int).toNat 0) (show (4:Int) ≠ 0 by decide)
  have:=br2 (ns.getD (1:Int).toNat 0) (show (0:Int) < 4 by decide)
  omega
 generalize 2+ns.getD (1:Int).toNat 0 % 4=sp at s2
 refine⟨_,rfl,_,ns,1,rfl,.inl rfl,by decide,_,_,rfl,rfl,⟨by decide,by decide⟩,_,_,rfl,rfl,(by show (0:Int) < 2; decide),.inl ⟨_,_,rfl,rfl,trivial,?_⟩⟩
 generalize (if false=true then !decide (ns.getD (1:Int).toNat 0 / 8 % 2=1) else decide (ns.getD (1:Int).toNat 0 / 8 % 2=1))=dg
 obtain ⟨zs,ez,zl⟩:=ac6 ns (some 4) (some (4+(m:Int)))
 refine⟨_,rfl,_,rfl,_,rfl,_,_,rfl,rfl,_,rfl,_,rfl,dX _,rfl,?_,?_⟩
 ·show flats (jL (intz ns) (some 4) (some (4+(m:Int))))=true
  rw [ez]; exact dX _
 show (aB _ _) _ [_,_,_,_,_,some (Slot.own (.lst (jL (intz ns) (some 4) (some (4+(m:Int)))))),_,_,_,_,_,_,_,_]
 rw [ez]
 refine⟨_,rfl,_,_,rfl,rfl,_,rfl,(zs.length:Int),(m:Int),by rw [bP],rfl,⟨by omega,by omega,by omega,by omega⟩,fun i ρ=>∃ (cs:List Int) (y6:Option Slot),ρ = [some (.sh (flat (.scr ns)) (.scr ns)),si most,si m,si sp,some (.sh true (.bl dg)),some (.own (.lst (intz cs))),y6,none,none,none,none,none,none,none]/\cs.length=zs.length+i,⟨zs,none,rfl,rfl⟩,?_,?_⟩
 ·rintro i y ρ hy ⟨cs,y6,rfl,cl⟩
  obtain ⟨rfl,hi⟩:=iV hy
  refine gP ?_
  refine⟨_,rfl,_,rfl,_,ns,1,rfl,.inl rfl,by decide,_,rfl,_,_,rfl,by omega,by omega,fun z _=>⟨trivial,by rw [bP]; omega,cs ++ [z],_,by rw [i6]; rfl,by rw [bi4,cl]; rfl⟩⟩
 rintro ρ ⟨cs,y6,rfl,cl⟩
 rw [g9] at cl
 have hc:m<=cs.length:=by omega
 refine⟨by decide,rfl,rfl,rfl,?_⟩
 refine⟨by show 1<=1000; decide,rfl,_,rfl,_,_,rfl,rfl,rfl,by omega,by omega,by show 1<=10; decide,rfl,?_,?_⟩
 ·show flats (List.replicate (m:Int).toNat [PV.int 0]).flatten=true
  rw [nO]; exact dX _
 show yR R _ [_,_,_,_,_,_,_,_,some (Slot.own (.lst (List.replicate (m:Int).toNat [PV.int 0]).flatten)),_,_,_,_,_]
 rw [nO,bk1]
 exact aU1 (hR m (by omega)) s2 hc (by omega) bq4 (fun z hz=>by rw [List.eq_of_mem_replicate hz]; exact bq3 0) fun ws ls w=>q m ws ls z0 z1 w
theorem aU3 {m:Nat} (h:m<=40):tM tI m:=fun ls Q hl q inn nd=>by
 refine⟨ls.map two,by rw [lW],by rw [bh1]; omega,fun y hy=>by obtain ⟨l,_,rfl⟩:=bi8.mp hy; rfl,fun Z pz so=>?_⟩
 obtain ⟨ls',rfl,pl⟩:=xW pz
 have:=q ls' pl so
 rw [lW] at this
 exact this
end Core
namespace PP
open PySem L2
section
variable {P : Program} {w : World} {K : PySem.W.Frag} {mg : Str → Option Value} {base : Heap} {k : Nat} {f : Addr} {fd : FuncData}
theorem aU4 (F:cP P w K mg base dQ k f fd ["web"] t7) (b:iA K fd ["web"] []) (kp:PySem.W.keepIn K (.ref f)=true) (m:mg "_law_beside" = some (.ref f)):Df P w K mg base k "_law_beside" ["web"] Core.jU:=by
 refine⟨f,fd,F.imp fun vs H Q E h=>?_,b,kp,m⟩
 obtain ⟨xs,Qp,r,⟨ws,ls,rfl,wb,q⟩,k⟩:=h
 obtain ⟨v,rfl,r1⟩:=r.one
 have:=wb.few
 have:=wb.most
 refine⟨v,ws,ls,rfl,Z1 r1,by omega,by omega,wb.links,fun t bs H' hb R=>k _ H' _ R.same (.lst R.new R.row ?_) q⟩
 have:=xV (K:=K) (M:=fun a=>H a=none) (H:=H') (bs:=bs) (ls:=ls) 0 (fun b hb=>(R.news b hb).1) fun k b hk=>by rw [Nat.zero_add]; exact R.rows k b hk
 rw [hb,<- List.range_eq_range'] at this
 exact this
end
end PP
namespace Core
open PySem L2 PP
noncomputable abbrev ac7:bL:=jU
end Core
namespace PP
open PySem L2
section
variable {X : Cx} {a b : Expr} {ta tb : aF} {pos : Pos}
noncomputable def ac8 (K:PySem.W.Frag):R2:=fun x y H Q=>∃ p us ns,∃ rs:List (List Int),y = .ref p/\H p=some (.tup us)/\aH K (fun _=>True) H x (.tup (intz ns))/\Reps K (fun _=>True) H us (rs.map fun r=>PV.tup (intz r))/\Q (.bl (decide (ns ∈ rs))) H
open Classical in
theorem aU5 (hu:X.A.units+3 < cLine):cI X (compareOp .In) (ac8 X.K):=by
 intro pins s σ H x y v u Q I rx ry h
 obtain ⟨p,us,ns,rs,rfl,hp,rn,rr,q⟩:=h
 cases ry
 obtain ⟨its,r,pl,hz⟩:=I.tuple (aJ.of (K:=X.K) hp)
 obtain ⟨px,ws,rfl,hx,qx⟩:=rn.sqT
 have lr:=r.length
 have lp:=rr.length
 rw [bh1] at lp
 let f:Value->Bool:=fun w=>decide (∃ v',aV v' w/\aH X.K (fun _=>True) H v' (.tup (intz ns)))
 have key:∀ j (w:Value),its[j]? = some w->∃ m,rs[j]? = some m/\SeqAt.EqAt X.A.in1 s w v (decide (m=ns))/\(f w=decide (m=ns)):=fun j w hw=>by
  have hj:=(bh3.mp hw).1
  have h1:j < us.length:=by omega
  obtain ⟨w',hw',rw'⟩:=r.get (bg7 h1)
  rw [hw] at hw'
  cases hw'
  obtain ⟨m',hm',rm⟩:=rr.get (bg7 h1)
  rw [bh9] at hm'
  cases hm:rs[j]? with
  | none=>rw [hm] at hm'; cases hm'
  | some m=>
   rw [hm] at hm'
   cases hm'
   refine⟨m,hm,?_,?_⟩
   ·have:=T1 I 2 (A:=X.A.in1) (by show X.A.units+1+2 < cLine; omega) rm rn rw' rx (by exact aE8 1 m ns)
    rw [aE7 1] at this
    exact this
   ·have:(∃ v',aV v' w/\aH X.K (fun _=>True) H v' (.tup (intz ns))) ↔ m=ns:=by
     refine⟨fun ⟨v',h1',h2'⟩=>?_,fun e=>⟨_,rw',by rw [<- e]; exact rm⟩⟩
     obtain ⟨p1,w1,e1,_,_⟩:=rm.sqT
     obtain ⟨p2,w2,e2,_,_⟩:=h2'.sqT
     rw [e1] at rw' rm
     rw [e2] at h1' h2'
     cases rw'
     cases h1'
     exact aS8 rm h2'
    show decide _=decide _
    exact decide_eq_decide.mpr this
 refine SeqAt.in_tupleAt f pl (fun w hw=>?_) ⟨.bl _,H,I,rfl,?_⟩
 ·have hw:w ∈ its:=by simpa using hw
  obtain ⟨j,hj⟩:=List.getElem?_of_mem hw
  obtain ⟨m,_,h1,h2⟩:=key j w hj
  rw [h2]; exact h1
 ·have:its.toArray.any f=decide (ns ∈ rs):=by
   rw [show its.toArray.any f=its.any f by simp,bp9,List.any_eq_true,bk9]
   refine⟨fun ⟨w,hw,e⟩=>?_,fun h=>?_⟩
   ·obtain ⟨j,hj⟩:=List.getElem?_of_mem hw
    obtain ⟨m,hm,_,h2⟩:=key j w hj
    rw [h2,bk9] at e
    rw [<- e]; exact bg9 hm
   ·obtain ⟨j,hj⟩:=List.getElem?_of_mem h
    have hl:=(bh3.mp hj).1
    obtain ⟨m,hm,_,h2⟩:=key j its[j] (bg7 (by omega))
    rw [hj] at hm
    cases hm
    exact⟨its[j]'(by omega),bq0 _,by rw [h2]; exact bg8 rfl⟩
  rw [this]
  exact q
noncomputable def yT:PV->Tg->PV->Tg->PK->Prop:=fun x _ y _ Q=>∃ ns,∃ rs:List (List Int),x = .tup (intz ns)/\y = .tup (rs.map fun r=>PV.tup (intz r))/\Q (.bl (decide (ns ∈ rs))) .fr
theorem aU6:eN X yT (ac8 X.K):=by
 rintro W Hs H u v x y g g' Q Q' s n r1 r2 ⟨ns,rs,rfl,rfl,q⟩ k
 obtain ⟨p,us,rfl,h,r⟩:=r2.sqT
 exact⟨p,us,ns,rs,rfl,h,r1.same (aA.refl _) (fun _ _=>trivial),r.same (aA.refl _) (fun _ _=>trivial),k _ _ _ .fr (aA.refl _) (.bl _) q⟩
theorem aU7 (hu:X.A.units+3 < cLine) (ha:QE X a ta) (hb:QE X b tb) (hm:behindInMarks .In b=false:=by rfl):QT X (.Compare a [.In] [b] pos) (aZ (q2 yT ta tb)):=jN (aU5 hu) aU6 ha hb hm
end
end PP
namespace Core
open PySem L2 PP
section
variable {ws : List Int} {ls : List (Int × Int)} {ns S : List Int}
noncomputable def dU (S:List Int) (h:Int):List Int:=S.filter fun z=>!decide (z ∈ [h])
theorem lZ {h x:Int}:x ∈ dU S h ↔ x ∈ S/\x ≠ h:=by unfold dU; rw [bj0]; simp
theorem tN {n:Nat}{h:Int} (hs:bA n S=true):bA n (dU S h)=true:=tD hs _
end
theorem aU8 (n:Nat):bA n (rng n)=true:=yJ.set ⟨aa3 n,fun x hx=>bR.mp hx⟩
end Core
namespace PP
open PySem L2
section
variable {X : Cx} {σ : St} {H : Hp} {D : cT} {te : aF} {c : c7} {e ec : Expr} {pos : Pos}
noncomputable def yU (i j:Nat) (c:c7) (te:aF):aK:=fun D ρ=>∃ xs,ρ[i]? = some (some (.own (.lst xs)))/\i ≠ j/\flats xs=true/\(∀ x ∈ xs,c (ρ.set j (some (.sh true x))) fun b=>if b=true then te (ρ.set j (some (.sh true x))) fun y g=>Nw g y/\D.rt y else True)/\D.nx ρ/\∀ o,D.nx (ρ.set j o)
theorem aU9 {i j:Nat} (h:LS X (yU i j c te) D σ H):uH (wO X.K (i8 i)) (cU j) (uD (LT X c) (qD (LE X te)) uC) D σ H:=by
 obtain ⟨W,ρ,D',px,⟨xs,hi,hij,fl,turn,fin0,fin⟩,k⟩:=h
 obtain ⟨v,ev,a,rfl,wa,us,ea,r⟩:=px.sl i _ hi
 refine⟨_,ev,a,rfl,.inl ⟨us,aN.of ea,?_⟩⟩
 refine⟨fun n m σ2 H2=>m=us.length - n/\n<=us.length/\aA H H2/\∃ ρ2,PX X.K X.H₀ W σ2 ρ2 H2/\(ρ2=ρ ∨ ∃ o,ρ2=ρ.set j o),⟨us.length,by omega,bk7 _,aA.refl _,ρ,px,.inl rfl⟩,?_⟩
 rintro n m σ2 H2 ⟨rfl,hn,s2,ρ2,px2,hρ⟩
 have ea2:=s2 _ _ ea
 by_cases hlt:n < us.length
 ·refine .inr ⟨⟨us,us[n],aN.of ea2,by simp [hlt]⟩,fun σ3 H3=>aA H H3/\∃ o,PX X.K X.H₀ W σ3 (ρ.set j o) H3,fun σ3 H3 ⟨s3,o,p3⟩=>⟨us.length - (n+1),by omega,rfl,hlt,s3,_,p3,.inr ⟨o,rfl⟩⟩,?_⟩
  rintro v H3 ⟨rfl,y⟩
  obtain ⟨x,hx,rx⟩:=r.get (y us (aN.of ea2))
  have px3:=px2.setSh (i:=j) (g:=true) (rx.same (M':=Ms X.H₀ W true) s2 fun _ z=>z)
  have e3:ρ2.set j (some (.sh true x))=ρ.set j (some (.sh true x)):=by
   rcases hρ with rfl | ⟨o,rfl⟩
   ·rfl
   ·rw [List.set_set]
  rw [e3] at px3
  refine⟨W,_,_,px3,turn x (bg9 hx),fun b H4 s4 q4=>?_⟩
  cases b with
  | false=>exact bD ⟨s2.trans s4,_,px3.mono s4⟩
  | true=>
   refine bH ⟨W,_,_,px3.mono s4,by simpa using q4,?_⟩
   rintro v5 H5 x5 g5 s5 r5 ⟨n5,q5⟩
   exact k.rt v5 H5 x5 ((px3.mono s4).same.trans s5) ((Nw.rep (px3.mono s4) n5 r5).same (aA.refl _) fun _ z=>z.2) q5
 ·have e:n=us.length:=by omega
  subst e
  refine .inl ⟨⟨us,aN.of ea2,bh0 _⟩,k.nx W σ2 H2 ρ2 (Ev.same s2) px2 ?_⟩
  rcases hρ with rfl | ⟨o,rfl⟩
  ·exact fin0
  ·exact fin o
theorem aV0 (i j:Nat) {x y:Str}{tp yp p2 p3:Pos} (hN:X.N.Nodup) (hcc:QT X ec c) (he:QE X e te) (hx:X.N[j]? = some x:=by rfl) (hl:gT X.env.scope x:=by first | exact Or.inl rfl | exact Or.inr rfl) (hf:X.fn x=true ∨ X.env.scope.names.lookup x=some .local:=by first | exact .inl rfl | exact .inr rfl)
  (hy:X.N[i]? = some y:=by rfl) (hv:gG X.env.scope y:=by first | exact Or.inl rfl | exact Or.inr (Or.inl rfl) | exact Or.inr (Or.inr rfl)) (hd:(y == ("__debug__" : Str))=false:=by decide) (hcd:(y == ("__classdict__" : Str))=false:=by decide)
  (hp:PassesOwn (model X.prog X.w) X.A X.env X.xe:=by exact bu9) (hc:X.calm=true:=by rfl) (hs:∀ z,foldedSetIterable (.Name y yp) X.env z=pure z:=by intro _; rfl) :
  QS X (.For (.Name x tp) (.Name y yp) [.If ec [.Return (some e) p2] [] p3] [] pos) (yU i j c te):=
 dN (qI hp hc (S9 (iR hy hv hd hcd)) (eJ hN hx hl hf) (j5 (A7 hcc (j5 (kX he)) A6)) hs) fun _ _ _=>aU9
end
end PP
namespace L2
open PySem PySem.Spec PyProof.Rows
noncomputable def ac9 (K:PySem.W.Frag) (a:Addr) (n:Nat):It:=
 ⟨fun i H=>(∃ xs,aN K H a xs/\xs.length=n)/\i < n,fun i H x H'=>H'=H/\∀ xs,aN K H a xs->xs[n - 1 - i]? = some x,fun i H=>i=n⟩
theorem aV1 {P:Program}{w:World}{K:PySem.W.Frag}{tg:Expr} (a it:Addr) (n:Nat):j6 P w K tg (ac9 K a n) [it] it (fun i h=>h.IsRevIter it a ((n:Int) - 1 - (i:Int))):=by
 refine⟨by simp,fun i h st b hb=>?_,fun i h h' st k=>st.at fun o e=>k it (by simp) o e,?_,?_,fun _ _ _ _ _ st q=>wpAny_pyIter_revIter st q⟩
 ·obtain rfl:b=it:=by simpa using hb
  obtain ⟨o,e,c,d⟩:=st
  exact⟨o,e,fun v z=>by rw [d] at z; cases z⟩
 ·intro X hP hw hK hc i pins s σ H E I hf st hg
  subst hP hw hK
  obtain ⟨⟨xs,hq,hl⟩,hi⟩:=hg
  obtain ⟨its,rv,p,hz⟩:=I.list hq
  have lv:=rv.length
  have hx:xs[n - 1 - i]? = some (xs[n - 1 - i]'(by omega)):=bg7 (by omega)
  obtain ⟨u,hu,ru⟩:=rv.get hx
  obtain ⟨f0,f1,f2,f3,f4,f5⟩:=hf it (by simp)
  have e0:(n:Int) - 1 - (i:Int)=((n - 1 - i:Nat):Int):=by omega
  rw [e0] at st
  refine wpAny_pyNext_rev_item st p.isList (x:=u) (by simpa using hu) fun h' st' sb=>?_
  have I1:a6 X pins σ H { s with heap:=h' }:=I.turned (t':=s.toks) (fun b o hb e=>(sb.2 b hb).trans e) f0 f1 f3 f4 f5
  have e1:((n - 1 - i:Nat):Int) - 1=(n:Int) - 1 - ((i+1:Nat):Int):=by omega
  rw [e1] at st'
  obtain ⟨o,e,c,d⟩:=id st'
  exact⟨u,rfl,qF (s:={ s with heap:=h' }) e c d (by decide) ⟨_,H,I1,ru,⟨rfl,fun ys hy=>by rw [I.list_inj hy hq]; exact hx⟩,st',fun b hb=>(hf b hb).1⟩⟩
 ·intro X hP hw hK hc i pins s σ H E I hf st hg
  subst hP hw hK
  have hg:i=n:=hg
  subst hg
  obtain ⟨f0,f1,f2,f3,f4,f5⟩:=hf it (by simp)
  rw [show (i:Int) - 1 - (i:Int) = -1 by omega] at st
  exact wpAny_pyNext_rev_end (I.ok.hd hc) st fun h' eb=>⟨rfl,I.turned (t':=s.toks) (fun b o hb e=>eb b o hb e) f0 f1 f3 f4 f5⟩
section
variable {X : Cx}
noncomputable def ad0 (K:PySem.W.Frag) (ta:TA):TI:=fun σ H R=>ta σ H fun vs H1=>∃ a xs,vs = [.ref a]/\aN K H1 a xs/\R (ac9 K a xs.length) H1
theorem aV2 {tg:Expr}{a:Expr}{ta:TA}{p pos:Pos} (hg:Gl X "reversed") (hm:X.mg "reversed" = none) (ha:PA X [a] ta) (hs:starEach [a] X.env = [(false,eval a X.env)]:=by rfl) :
  PI X tg (.Call (.Name "reversed" p) [a] [] pos) (ad0 X.K ta):=by
 intro pins s σ H R I h
 refine Call_ (j4 I hg hm PyProof.Rows.boot_reversed (bo3 (aO (ha pos pins s σ H _ I h) fun us s1 ⟨vs,H1,I1,r1,q1⟩=>?_) (by rw [hs]; rfl) (by rfl)))
 obtain ⟨a',xs,e,h1,q⟩:=q1
 subst e
 cases r1 with
 | cons r rr=>
  cases rr
  cases r
  obtain ⟨us,rv,p1,_⟩:=I1.list h1
  have lv:=rv.length
  refine call_reversed_list p1.isList ?_
  have st:∀ t:Nat,(s1.heap.push (revObj a' ((us.toArray.size:Int) - 1))).IsRevIter s1.heap.objs.size a' ((xs.length:Int) - 1 - (0:Nat)):=fun _=>by
   rw [bg5,<- lv]
   exact⟨_,bi6 _ rfl,rfl,by rw [show (xs.length:Int) - 1 - (0:Nat)=(xs.length:Int) - 1 by omega]; rfl⟩
  refine wpAny_pyIter_revIter (st 0) ?_
  refine⟨s1.heap.objs.size,[s1.heap.objs.size],_,_,H1,rfl,I1.kept (t':=s1.toks) fun b o e=>bg4 _ e,aV1 a' _ xs.length,st 0,fun c hc=>?_,q⟩
  obtain rfl:c=s1.heap.objs.size:=by simpa using hc
  exact I1.fpOk (bh0 _) (I1.hok.fresh (bh0 _))
end
end L2
namespace PP
open PySem L2
section
variable {X : Cx} {σ : St} {H : Hp} {te : aF} {R : It → Hp → Prop} {a : Expr} {p2 pos : Pos}
noncomputable def yV (te:aF):fI:=fun ρ Q=>te ρ fun x g=>∃ xs,x = .lst xs/\g ≠ .rd/\Q xs.reverse (wP g xs)
theorem aV3 (h:LI X (yV te) σ H R):ad0 X.K (iS (LE X te) jY) σ H R:=by
 obtain ⟨W,ρ,Q,px,q,k⟩:=h
 refine⟨W,ρ,_,px,q,?_⟩
 rintro v H1 x g s r ⟨xs,rfl,hg,q⟩
 have px1:=px.mono s
 have tw:∀ a,W a->∃ o,H1 a=some o/\jI o=true:=fun a z=>(px1.wm a z).2
 obtain ⟨a,us,rfl,m,ea,r⟩:=r.sqL
 have wa : ¬ W a:=by
  cases g with
  | fr=>exact (px.new m).1
  | nw=>exact m.1
  | sh=>exact m
  | rd=>exact absurd rfl hg
 have lr:=r.length
 have ha:∀ W' H',Ev W H1 W' H'->aN X.K H' a us:=fun W' H' e=>aN.of (e _ _ ea wa).1
 have rr:=oU px (fun z=>absurd z hg) r
 refine⟨a,us,rfl,aN.of ea,k _ _ _ _ s ⟨fun W' H' i e hi=>⟨⟨us,ha W' H' e,rfl⟩,?_⟩,fun W' H' i v H2 e y hi=>?_,fun W' H' e=>?_⟩ q⟩
 ·rw [List.length_reverse] at hi; omega
 ·rw [List.length_reverse] at hi
  obtain ⟨rfl,y⟩:=y
  obtain ⟨x,hx,rx⟩:=rr.get (y us (ha W' _ e))
  refine⟨aA.refl _,x,?_,rx.keep (e.keep tw)⟩
  rw [List.getElem?_reverse hi,<- lr]
  exact hx
 ·show xs.reverse.length=us.length
  rw [List.length_reverse]; omega
theorem aV4 {tg:Expr} (hm:X.mg "reversed" = none) (ha:QE X a te) (hg:Gl X "reversed":=by rfl) (hs:starEach [a] X.env = [(false,eval a X.env)]:=by rfl):QI X tg (.Call (.Name "reversed" p2) [a] [] pos) (yV te):=rQ (aV2 hg hm (cO ha dL hs) hs) fun _ _ _=>aV3
end
end PP
namespace Core
open PySem L2 PP
noncomputable def qY (ws:List Int) (ls:List (Int × Int)) (ns R:List Int):Prop:=ab9 ws ls ns R=true/\aP2 ws ls (ns ++ R)
end Core
namespace L2
open PySem PySem.Spec PyProof.Rows PP
section
variable {prog : Program} {w : World} {A : Around} {R : Result → Shared → Prop} {I S : Addr} {n : Nat} {l : Addr} {its : Array Value} {s0 : Shared} {bt : Nat → Nat → Bool}
noncomputable abbrev at_ (s:Shared) (h:Heap) (k:Nat):Shared:={ s with heap:=h,toks:=k }
noncomputable abbrev aV5 (g h:Heap):Prop:=∀ b o,g.get? b=some o->h.get? b=some o
noncomputable def cL (prog:Program) (w:World) (A:Around) (s0:Shared) (its:Array Value) (bt:Nat->Nat->Bool):Prop:=
 ∀ (i j:Nat) (v u:Value) (h:Heap) (k:Nat) (Q E:Value->Shared->Prop),its[i]? = some v->its[j]? = some u->aV5 s0.heap h->Q (.bool (bt i j)) (at_ s0 h k)->wpAny (model prog w) A (richCompare .Lt v u) Q E (at_ s0 h k)
end
end L2
namespace Core
open PySem L2 PP
noncomputable def FB (L:List (List Int)) (f:List Int->Int) (r:List Int):Prop:=∃ i,L[i]? = some r/\(∀ (j:Nat) (s:List Int),j < i->L[j]? = some s->f s < f r)/\∀ s ∈ L,f s<=f r
noncomputable def cM (n:Nat) (ls:List (Int × Int)):Prop:=(∀ l ∈ ls,0<=l.1/\l.1 < l.2/\l.2 < (n:Int))/\ls.length<=1700/\ls.Pairwise iK
noncomputable def eF (S:List Int) (l:Int × Int):Bool:=decide (l.1 ∈ S) && decide (l.2 ∈ S)
theorem aV6 {ls:List (Int × Int)} (h:ls.Pairwise iK):ls.Nodup:=h.imp fun {a b} z e=>by subst e; unfold iK at z; omega
theorem aV7 (a b:List (Int × Int)):bE (a ++ b)=bE a ++ bE b:=bk4 ..
noncomputable def yW (r c:Int) (l:Int × Int):Bool:=decide (0<=l.1) && (decide (l.1 < r) && (decide (0<=l.2) && decide (l.2 < c)))
noncomputable def aV8 (l:Int × Int):List (Int × Int):=[(l.1 - 1,l.2),(l.1,l.2 - 1),(l.1,l.2+1),(l.1+1,l.2)]
noncomputable def yX (r c:Int) (l:Int × Int):List (Int × Int):=(aV8 l).filter (yW r c)
theorem fS:∀ {l m:List Int},l.Nodup->(∀ x ∈ l,x ∈ m)->l.length<=m.length
 | [],_,_,_=>bk7 _
 | a :: r,m,nd,h=>by
  have hm:=h a bh2
  have:=fS (l:=r) (m:=m.erase a) (bo4.mp nd).2 fun x hx=>(List.mem_erase_of_ne (show x ≠ a from fun e=>(bo4.mp nd).1 (by rw [<- e]; exact hx))).mpr (h x (bh8 _ hx))
  rw [List.length_erase_of_mem hm] at this
  have:=List.length_pos_of_mem hm
  rw [bj5]; omega
section
variable {ls : List (Int × Int)} {n : Nat} {B : List Int}
noncomputable def ins (ls:List (Int × Int)) (S:List Int) (h:Int):Nat:=((aR ls h).filter fun x=>decide (x ∈ S)).length
noncomputable def Two (ls:List (Int × Int)) (S:List Int):Prop:=∀ h ∈ S,2<=ins ls S h
theorem aV9 {S:List Int}{h:Int} (nd:(aR ls h).Nodup) (t:2<=ins ls S h):∃ a b,a ∈ aR ls h/\b ∈ aR ls h/\a ∈ S/\b ∈ S/\a ≠ b:=by
 unfold ins at t
 have n2:=nd.filter (fun x=>decide (x ∈ S))
 have mem:∀ x ∈ (aR ls h).filter fun x=>decide (x ∈ S),x ∈ aR ls h/\x ∈ S:=fun x hx=>⟨(bj0.mp hx).1,bo1 (bj0.mp hx).2⟩
 cases e:(aR ls h).filter fun x=>decide (x ∈ S) with
 | nil=>rw [e] at t; simp at t
 | cons x r=>
  cases r with
  | nil=>rw [e] at t; simp at t
  | cons y z=>
   rw [e] at n2 mem
   have h1:=mem x bh2
   have h2:=mem y (bh8 _ bh2)
   exact⟨x,y,h1.1,h2.1,h1.2,h2.2,fun z=>(bo4.mp n2).1 (by rw [z]; exact bh2)⟩
end
section
variable {ls : List (Int × Int)} {B : List Int}
structure gS (ls:List (Int × Int)):Prop where
 lt:∀ l ∈ ls,l.1 < l.2
 ord:ls.Pairwise iK
theorem gS.nnd (f:gS ls) (h:Int):(aR ls h).Nodup:=aa2 f.lt f.ord
theorem gS.irr (f:gS ls) (h:Int):h ∉ aR ls h:=fun z=>by
 rcases L2.cJ.mp z with z | z <;> exact absurd (f.lt _ z) (Int.lt_irrefl _)
end
noncomputable def tO (d:Int):Int:=if d - 1 > 0 then d - 1 else 0
noncomputable def yY (ls:List (Int × Int)) (S:List Int):Prop:=∀ U,Two ls U->(∀ x ∈ U,x ∈ S)->U = []
theorem cM.fit {n:Nat}{ls:List (Int × Int)} (lk:cM n ls):gS ls:=⟨fun l hl=>(lk.1 l hl).2.1,lk.2.2⟩
noncomputable def nT (L:List Int) (h:Int) (l:Int × Int):Bool:=decide (h ∈ [l.1,l.2]) && (decide (l.1 ∈ L) && decide (l.2 ∈ L))
theorem ad1 {L:List Int}{h:Int} (hh:h ∈ L):∀ {ls:List (Int × Int)},(∀ l ∈ ls,l.1 ≠ l.2)->(ls.filter (nT L h)).length=ins ls L h
 | [],_=>rfl
 | l :: r,ne=>by
  have ih:=ad1 hh (ls:=r) fun m hm=>ne m (bh8 _ hm)
  have e:aR (l :: r) h=((if l.1=h then [l.2] else []) ++ (if l.2=h then [l.1] else [])) ++ aR r h:=rfl
  have n0:=ne l bh2
  unfold ins at ih ⊢
  rw [e,List.filter_append,bi4,<- ih]
  by_cases a:l.1=h
  ·have b : ¬ l.2=h:=fun z=>n0 (a.trans z.symm)
   have a1:l.1 ∈ L:=by rw [a]; exact hh
   have a2:h ∈ [l.1,l.2]:=by rw [a]; exact bh2
   rw [if_pos a,if_neg b,bm6]
   by_cases c:l.2 ∈ L
   ·rw [bu8 (by unfold nT; rw [bg8 a2,bg8 a1,bg8 c]; rfl),bu8 (by simpa using c),bj5]
    show _=1+_
    omega
   ·rw [bs6 (by unfold nT; rw [bh5 c,bs9,bs9]; decide),bs6 (by simpa using c)]
    show _=0+_
    omega
  ·by_cases b:l.2=h
   ·have a1:l.2 ∈ L:=by rw [b]; exact hh
    have a2:h ∈ [l.1,l.2]:=by rw [b]; exact bh8 _ bh2
    rw [if_neg a,if_pos b,List.nil_append]
    by_cases c:l.1 ∈ L
    ·rw [bu8 (by unfold nT; rw [bg8 a2,bg8 a1,bg8 c]; rfl),bu8 (by simpa using c),bj5]
     show _=1+_
     omega
    ·rw [bs6 (by unfold nT; rw [bh5 c,Bool.false_and,bs9]; decide),bs6 (by simpa using c)]
     show _=0+_
     omega
   ·have a2:h ∉ [l.1,l.2]:=fun z=>by
     simp only [bi0,bk3,br1] at z
     rcases z with z | z
     ·exact a z.symm
     ·exact b z.symm
    rw [if_neg a,if_neg b,bs6 (by unfold nT; rw [bh5 a2,Bool.false_and]; decide)]
    show _=0+_
    omega
noncomputable def keep2 (ls:List (Int × Int)) (L:List Int):List Int:=L.filter fun h=>decide (2<=ins ls L h)
end Core
namespace L2
open PySem PySem.Spec PyProof.Rows SO
noncomputable abbrev kk (l:Int × Int):List aI:=[Sum.inl l.1,Sum.inl l.2]
end L2
namespace Core
open PySem L2 PP
inductive pW (r c:Int) (S:List (Int × Int)):Int × Int->Prop
 | seed {x:Int × Int}:x ∈ S->pW r c S x
 | kin {x a b:Int × Int}:yW r c x=true->a ∈ yX r c x->b ∈ yX r c x->a ≠ b->pW r c S a->pW r c S b->pW r c S x
noncomputable def nbC (r c:Int) (P:List (Int × Int)) (x:Int × Int):Nat:=(P.filter fun p=>decide (x ∈ yX r c p)).length
structure Wk (r c:Int) (S K P:List (Int × Int)):Prop where
 nd:K.Nodup
 ndP:P.Nodup
 sub:∀ x ∈ P,x ∈ K
 brn:∀ x ∈ K,pW r c S x
 sd:∀ x ∈ S,x ∈ K
 bd:∀ x ∈ K,yW r c x=true
 low:∀ x,x ∉ K->nbC r c P x < 2
end Core
namespace PP
open PySem L2
section
variable {X : Cx} {σ : St} {H : Hp} {D : cT} {te : aF} {e : Expr} {pos : Pos}
structure Nm (X:Cx) (i:Nat) (x:Str):Prop where
 a:X.N[i]? = some x
 b:gT X.env.scope x
 c:X.fn x=true ∨ X.env.scope.names.lookup x=some .local
end
end PP
namespace Core
open PySem L2 PP
structure Bx where
 t:Int
 l:Int
 b:Int
 r:Int
deriving DecidableEq
noncomputable def Bx.k (x:Bx):List Int:=[x.t,x.l,x.b,x.r]
noncomputable def okX (x:Bx):Prop:=x.t<=x.b/\x.l<=x.r
noncomputable def inX (x:Bx) (p:Int × Int):Prop:=x.t<=p.1/\p.1<=x.b/\x.l<=p.2/\p.2<=x.r
noncomputable def ad2 (x a:Int × Int):Prop:=(a.1=x.1/\(a.2=x.2 - 1 ∨ a.2=x.2+1)) ∨ (a.2=x.2/\(a.1=x.1 - 1 ∨ a.1=x.1+1))
noncomputable def Clo (B:Bx) (U:Int × Int->Prop):Prop:=∀ x a b,inX B x->ad2 x a->ad2 x b->a ≠ b->U a->U b->U x
section
variable {B : Bx} {U : Int × Int → Prop}
variable {t l b r : Int}
section
variable (cl : Clo B U) {p1 p2 : Int} (u : U (p1, p2)) (ip : inX B (p1, p2))
include cl u ip
end
end
noncomputable abbrev bxP (x:Bx):PV:=.tup (intz x.k)
theorem aW0 {i j:Nat}{a b:Int}{g:Bool}{ρ:bJ}{Q:bJ->Prop} (q:Q ((ρ.set i (si a)).set j (si b))):kD i j (.tup [.int a,.int b]) g ρ Q:=by
 refine⟨_,_,rfl,?_⟩
 rw [show flat (.int a)=true from rfl,show flat (.int b)=true from rfl,Bool.or_true]
 exact q
section
variable {ns : List Int} {a r c z t l : Int} {Q : PV → Prop} (q : ∀ x : Bx, Q (bxP x))
include q
end
theorem ad3 {α:Type} (p q:α->Bool):∀ l:List α,(l.filter p).length=(l.filter fun x=>p x && !q x).length+(l.filter fun x=>q x && p x).length
 | []=>rfl
 | a :: r=>by
  have ih:=ad3 p q r
  rw [bt5,bt5,bt5]
  cases p a <;> cases q a <;> simp <;> omega
section
variable {ls : List (Int × Int)} {n : Nat} {U : List Int} {v : Int}
theorem aW1 (hv:v ∈ U) (ne:∀ l ∈ ls,l.1 ≠ l.2):(ls.filter (eF U)).length=(ls.filter (eF (dU U v))).length+ins ls U v:=by
 rw [<- ad1 hv ne,ad3 (eF U) (fun l=>decide (v ∈ [l.1,l.2])) ls]
 congr 2
 refine List.filter_congr fun l _=>?_
 unfold eF
 rw [bp9]
 simp only [bl6,Bool.not_eq_true',bk9,bl9,lZ,bi0,bk3,br1,not_or]
 constructor
 ·rintro ⟨⟨a,b⟩,c,d⟩; exact⟨⟨a,fun z=>c z.symm⟩,b,fun z=>d z.symm⟩
 ·rintro ⟨⟨a,c⟩,b,d⟩; exact⟨⟨a,b⟩,fun z=>c z.symm,fun z=>d z.symm⟩
theorem ad4 {h:Int} (x:Int) (hx:x ∈ comp ls (dU U v) h):x ∈ comp ls U h:=by
 obtain ⟨h1,h2⟩:=eU.mp hx
 exact eU.mpr ⟨(lZ.mp h1).1,fun W hW hh=>h2 W (fun a ha b hb bS=>hW a ha b hb (lZ.mp bS).1) hh⟩
theorem dH {S:List Int}{h:Int}:h ∈ aQ ls S ↔ h ∈ S/\(comp ls S h).head? = some h:=by
 unfold aQ pV
 rw [bj0]
 exact⟨fun z=>⟨z.1,@bo1 _ _ z.2⟩,fun z=>⟨z.1,@bg8 _ _ z.2⟩⟩
theorem yZ (hU:bA n U=true) {h:Int} (hh:h ∈ aQ ls U) (ne:h ≠ v):h ∈ aQ ls (dU U v):=by
 obtain ⟨h1,h2⟩:=dH.mp hh
 have hb:h ∈ dU U v:=lZ.mpr ⟨h1,ne⟩
 refine dH.mpr ⟨hb,yN (fE (tN hU)) (dS hb) fun x hx=>?_⟩
 have:=(i7 (fE hU) h2).2 x (ad4 x hx)
 omega
theorem tP (hU:bA n U=true):(aQ ls U).Nodup:=by
 have:U.Nodup:=(gE (fQ hU).1).imp fun h=>bt1 h
 exact this.filter _
theorem aW2 (f:gS ls) (hU:bA n U=true) (hv:v ∈ U):(aQ ls U).length<=(aQ ls (dU U v)).length+(if ins ls U v=0 then 1 else 0):=by
 have nd:=tP (ls:=ls) hU
 by_cases hh:v ∈ aQ ls U
 ·by_cases i0:ins ls U v=0
  ·rw [if_pos i0]
   have:=fS nd (m:=v :: aQ ls (dU U v)) fun x hx=>by
    by_cases e:x=v
    ·rw [e]; exact bh2
    ·exact bh8 _ (yZ hU hx e)
   rw [bj5] at this
   exact this
  ·rw [if_neg i0]
   obtain ⟨w,hw⟩:∃ w,w ∈ (aR ls v).filter fun x=>decide (x ∈ U):=by
    cases e:(aR ls v).filter fun x=>decide (x ∈ U) with
    | nil=>exact absurd (show ins ls U v=0 by unfold ins; rw [e]; rfl) i0
    | cons a r=>exact⟨a,bh2⟩
   obtain ⟨w1,w2⟩:=bj0.mp hw
   have w2:w ∈ U:=bo1 w2
   have wv:w ≠ v:=fun e=>f.irr v (e ▸ w1)
   have wb:w ∈ dU U v:=lZ.mpr ⟨w2,wv⟩
   have cs:=fE (ls:=ls) (h:=w) (tN (h:=v) hU)
   obtain ⟨a,ha⟩:∃ a,(comp ls (dU U v) w).head? = some a:=by
    cases e:comp ls (dU U v) w with
    | nil=>have:=dS (ls:=ls) wb; rw [e] at this; cases this
    | cons a r=>exact⟨a,rfl⟩
   have am:=(i7 cs ha).1
   have ab:=nQ a am
   have ahd:a ∈ aQ ls (dU U v):=dH.mpr ⟨ab,by rw [iM (tN hU) am wb]; exact ha⟩
   have wc:w ∈ comp ls U v:=gR v (dS hv) w w1 w2
   have ac:a ∈ comp ls U v:=by rw [<- iM hU wc hv]; exact ad4 a am
   have an:a ∉ aQ ls U:=fun z=>by
    have h1:=(dH.mp z).2
    rw [iM hU ac hv,(dH.mp hh).2] at h1
    exact (lZ.mp ab).2 (bj9 h1).symm
   have nd2:(a :: (aQ ls U).erase v).Nodup:=bo4.mpr ⟨fun z=>an (List.mem_of_mem_erase z),nd.erase v⟩
   have:=fS nd2 (m:=aQ ls (dU U v)) fun x hx=>by
    rcases bi0.mp hx with rfl | hx
    ·exact ahd
    ·have h2:=(nd.mem_erase_iff).mp hx
     exact yZ hU h2.2 h2.1
   rw [bj5,List.length_erase_of_mem hh] at this
   have:=List.length_pos_of_mem hh
   omega
 ·have:=fS nd (m:=aQ ls (dU U v)) fun x hx=>yZ hU hx fun e=>hh (e ▸ hx)
  omega
noncomputable def mu (ls:List (Int × Int)) (U:List Int):Int:=((ls.filter (eF U)).length:Int) - (U.length:Int)+((aQ ls U).length:Int)
theorem ad5 (nd:U.Nodup) (hv:v ∈ U):(dU U v).length+1=U.length:=by
 have e:dU U v=U.erase v:=by
  unfold dU
  rw [nd.erase_eq_filter]
  refine List.filter_congr fun x _=>?_
  by_cases h:x=v <;> simp [h]
 rw [e,List.length_erase_of_mem hv]
 have:=List.length_pos_of_mem hv
 omega
theorem aW3 (f:gS ls) (hU:bA n U=true) (hv:v ∈ U):mu ls U<=mu ls (dU U v)+tO (ins ls U v:Int):=by
 have a:=aW1 hv (fun l hl=>bt1 (f.lt l hl))
 have b:=aW2 f hU hv
 have c:=ad5 ((gE (fQ hU).1).imp fun h=>bt1 h) hv
 unfold mu tO
 by_cases i0:ins ls U v=0
 ·rw [if_pos i0] at b
  rw [if_neg (by omega)]; omega
 ·rw [if_neg i0] at b
  by_cases i1:(ins ls U v:Int) - 1 > 0
  ·rw [if_pos i1]; omega
  ·rw [if_neg i1]; omega
theorem z9 (f:gS ls):∀ (k:Nat) (T:List Int),T.length<=k->bA n T=true->yY ls T->mu ls T<=0
 | 0,T,hl,_,_=>by
  have:T = []:=List.length_eq_zero_iff.mp (by omega)
  subst this
  have:ls.filter (eF []) = []:=List.filter_eq_nil_iff.mpr fun l _=>by simp [eF]
  unfold mu
  rw [this]
  show (0:Int) - 0+((([]:List Int).filter _).length:Int)<=0
  simp
 | k+1,T,hl,hT,no=>by
  by_cases e:T = []
  ·exact z9 f k T (by rw [e]; simp) hT no
  ·obtain ⟨v,hv,hi⟩:∃ v,v ∈ T/\ins ls T v < 2:=bp7 fun z=>e (no T (fun h hh=>bv4 fun q=>z ⟨h,hh,q⟩) fun _ h=>h)
   have nd:T.Nodup:=(gE (fQ hT).1).imp fun h=>bt1 h
   have bl:=ad5 nd hv
   have ih:=z9 f k (dU T v) (by omega) (tN hT) fun U hU sub=>no U hU fun x hx=>(lZ.mp (sub x hx)).1
   have st:=aW3 f hT hv
   have:tO (ins ls T v:Int)=0:=by unfold tO; rw [if_neg (by omega)]
   omega
end
noncomputable def nU:bL:=fun xs Q=>∃ ws ls,xs = [bG ws ls]/\Wb ws ls/\Q (.lst (tups (iN ls (rng ws.length))))
noncomputable def ad6:aK:=(bN (aD (tL fun _=>False) (a7 (a5 0) (a7 (aD tJ (a7 (a5 0) (a7 (g6 a9) a9))) a9))))
theorem aW4:cR ad6 ["web"] nU:=by
 rintro xs Q ⟨ws,ls,rfl,wb,q⟩
 have few:=wb.few
 have e:xY ws.length []=rng ws.length:=List.filter_eq_self.mpr fun x _=>by simp
 have rs:=aU8 ws.length
 refine⟨_,rfl,_,rfl,by show 0<=1000; decide,rfl,ws,ls,_,[],rfl,.inl rfl,by decide,by omega,ws,ls,_,xY ws.length [],rfl,wb,.inl rfl,?_,fun _=>⟨trivial,?_⟩,fun z=>?_⟩
 ·rw [e,dO]; omega
 ·rw [e]; exact q
 ·rw [e,rs] at z; cases z
noncomputable abbrev Wys:=List (Int × List Int)
section
variable {ls : List (Int × Int)} {l : Int × Int} {n : Nat} {S U : List Int} {h x y : Int}
theorem zA:y ∈ aR (l :: ls) x ↔ y ∈ aR ls x ∨ l=(x,y) ∨ l=(y,x):=by
 rw [L2.cJ,L2.cJ,bi0,bi0]
 constructor
 ·rintro ((e | e) | (e | e))
  ·exact .inr (.inl e.symm)
  ·exact .inl (.inl e)
  ·exact .inr (.inr e.symm)
  ·exact .inl (.inr e)
 ·rintro ((e | e) | (e | e))
  ·exact .inl (.inr e)
  ·exact .inr (.inr e)
  ·exact .inl (.inl e.symm)
  ·exact .inr (.inl e.symm)
theorem nV (hS:bA n S=true) (hh:h ∈ S) (hU:cY ls S U) (hu:h ∈ U) (le:∀ x ∈ U,x ∈ S->h<=x):h ∈ aQ ls S:=
 dH.mpr ⟨hh,yN (fE hS) (dS hh) fun x hx=>le x ((eU.mp hx).2 U hU hu) (nQ x hx)⟩
theorem zB (hS:bA n S=true) (hh:h ∈ aQ ls S) (no:h ∉ aQ (l :: ls) S):eF S l=true/\(l.1 ∈ comp ls S h ∨ l.2 ∈ comp ls S h):=by
 obtain ⟨h1,h2⟩:=dH.mp hh
 have le:=(i7 (fE hS) h2).2
 refine bp7 fun hn=>no (nV hS h1 (U:=comp ls S h) (fun x hx y hy yS=>?_) (dS h1) fun x hx _=>by have:=le x hx; omega)
 rcases zA.mp hy with e | e | e
 ·exact gR x hx y e yS
 ·refine absurd ⟨?_,.inl (by rw [e]; exact hx)⟩ hn
  unfold eF; rw [e,bl6]; exact⟨bg8 (nQ x hx),bg8 yS⟩
 ·refine absurd ⟨?_,.inr (by rw [e]; exact hx)⟩ hn
  unfold eF; rw [e,bl6]; exact⟨bg8 yS,bg8 (nQ x hx)⟩
theorem pX (hS:bA n S=true) {a b z:Int} (ha:a ∈ aQ ls S) (hb:b ∈ aQ ls S) (za:z ∈ comp ls S a) (zb:z ∈ comp ls S b):a=b:=by
 obtain ⟨a1,a2⟩:=dH.mp ha
 obtain ⟨b1,b2⟩:=dH.mp hb
 rw [<- iM hS za a1] at a2
 rw [<- iM hS zb b1,a2] at b2
 exact bj9 b2
theorem ad7 (hS:bA n S=true) {a b:Int} (ha:a ∈ aQ ls S) (hb:b ∈ aQ ls S) (la:l.1 ∈ comp ls S a) (lb:l.2 ∈ comp ls S b) (lt:a<=b):a ∈ aQ (l :: ls) S:=by
 obtain ⟨a1,a2⟩:=dH.mp ha
 obtain ⟨b1,b2⟩:=dH.mp hb
 have lea:=(i7 (fE hS) a2).2
 have leb:=(i7 (fE hS) b2).2
 refine nV hS a1 (U:=comp ls S a ++ comp ls S b) (fun x hx y hy yS=>?_) (bh6.mpr (.inl (dS a1))) fun x hx _=>?_
 ·rcases zA.mp hy with e | e | e
  ·rcases bh6.mp hx with z | z
   ·exact bh6.mpr (.inl (gR x z y e yS))
   ·exact bh6.mpr (.inr (gR x z y e yS))
  ·rw [e] at lb; exact bh6.mpr (.inr lb)
  ·rw [e] at la; exact bh6.mpr (.inl la)
 ·rcases bh6.mp hx with z | z
  ·have:=lea x z; omega
  ·have:=leb x z; omega
theorem ad8 (hS:bA n S=true) {a b:Int} (ha:a ∈ aQ ls S) (hb:b ∈ aQ ls S) (la:l.1 ∈ comp ls S a) (lb:l.2 ∈ comp ls S b) (lt:b<=a):b ∈ aQ (l :: ls) S:=by
 obtain ⟨a1,a2⟩:=dH.mp ha
 obtain ⟨b1,b2⟩:=dH.mp hb
 have lea:=(i7 (fE hS) a2).2
 have leb:=(i7 (fE hS) b2).2
 refine nV hS b1 (U:=comp ls S a ++ comp ls S b) (fun x hx y hy yS=>?_) (bh6.mpr (.inr (dS b1))) fun x hx _=>?_
 ·rcases zA.mp hy with e | e | e
  ·rcases bh6.mp hx with z | z
   ·exact bh6.mpr (.inl (gR x z y e yS))
   ·exact bh6.mpr (.inr (gR x z y e yS))
  ·rw [e] at lb; exact bh6.mpr (.inr lb)
  ·rw [e] at la; exact bh6.mpr (.inl la)
 ·rcases bh6.mp hx with z | z
  ·have:=lea x z; omega
  ·have:=leb x z; omega
theorem aW5 (hS:bA n S=true) {a b:Int} (ha:a ∈ aQ ls S) (na:a ∉ aQ (l :: ls) S) (hb:b ∈ aQ ls S) (nb:b ∉ aQ (l :: ls) S):a=b:=by
 rcases (zB hS ha na).2 with la | la <;> rcases (zB hS hb nb).2 with lb | lb
 ·exact pX hS ha hb la lb
 ·rcases Int.le_total a b with z | z
  ·exact absurd (ad7 hS ha hb la lb z) na
  ·exact absurd (ad8 hS ha hb la lb z) nb
 ·rcases Int.le_total a b with z | z
  ·exact absurd (ad8 hS hb ha lb la z) na
  ·exact absurd (ad7 hS hb ha lb la z) nb
 ·exact pX hS ha hb la lb
theorem aW6 (hS:bA n S=true):(aQ ls S).length<=(aQ (l :: ls) S).length+(if eF S l=true then 1 else 0):=by
 have nd:=tP (ls:=ls) hS
 by_cases ex:∃ a,a ∈ aQ ls S/\a ∉ aQ (l :: ls) S
 ·obtain ⟨a,ha,na⟩:=ex
  rw [if_pos (zB hS ha na).1]
  have:=fS nd (m:=a :: aQ (l :: ls) S) fun x hx=>by
   by_cases nx:x ∈ aQ (l :: ls) S
   ·exact bh8 _ nx
   ·rw [aW5 hS hx nx ha na]; exact bh2
  rwa [bj5] at this
 ·have:=fS nd (m:=aQ (l :: ls) S) fun x hx=>bp7 fun z=>ex ⟨x,hx,z⟩
  omega
theorem tQ (hS:bA n S=true):S.Nodup:=(gE (fQ hS).1).imp fun h=>bt1 h
theorem nW (hS:bA n S=true):∀ ls:List (Int × Int),S.length<=(aQ ls S).length+(ls.filter (eF S)).length
 | []=>by
  refine bl4 (fS (tQ hS) (m:=aQ [] S) fun x hx=>nV hS hx (U:=[x]) (fun a _ b hb _=>?_) bh2 fun y hy _=>?_) (bq1 _ _)
  ·rcases L2.cJ.mp hb with e | e <;> cases e
  ·rw [bg6.mp hy]; exact bq3 _
 | l :: ls=>by
  have ih:=nW hS ls
  have:=aW6 (ls:=ls) (l:=l) hS
  rw [bt5]
  split <;> rename_i e
  ·rw [if_pos e] at this; rw [bj5]; omega
  ·rw [if_neg e] at this; omega
noncomputable def fU (ls:List (Int × Int)) (l:Int × Int):List (Int × Int):=ls.filter fun m=>!decide (m=l)
theorem m3 {m:Int × Int}:m ∈ fU ls l ↔ m ∈ ls/\m ≠ l:=by
 unfold fU; rw [bj0,Bool.not_eq_true',bl9]
theorem ad9:∀ {ls:List (Int × Int)},l ∈ ls->ls.Nodup->(fU ls l).length+1<=ls.length
 | m :: r,hl,nd=>by
  unfold fU
  rw [bt5]
  rcases bi0.mp hl with e | e
  ·subst e
   rw [bg8 rfl]
   have:=bm1 (fun m=>!decide (m=l)) r
   simp only [bj5,Bool.not_true,bj2,bn0]
   omega
  ·have ih:=ad9 e (bo4.mp nd).2
   unfold fU at ih
   split
   ·rw [bj5,bj5]; omega
   ·rw [bj5]; omega
theorem aW7 (t:l.1 ∈ U ↔ l.2 ∈ U) (c:cY (fU ls l) S U):cY ls S U:=fun x hx y hy yS=>by
 by_cases e:l=(x,y)
 ·rw [e] at t; exact t.mp hx
 ·by_cases e2:l=(y,x)
  ·rw [e2] at t; exact t.mpr hx
  ·refine c x hx y ?_ yS
   rcases L2.cJ.mp hy with z | z
   ·exact L2.cJ.mpr (.inl (m3.mpr ⟨z,fun q=>e q.symm⟩))
   ·exact L2.cJ.mpr (.inr (m3.mpr ⟨z,fun q=>e2 q.symm⟩))
theorem zC (c:cY ls S U):cY (fU ls l) S U:=fun x hx y hy yS=>by
 refine c x hx y ?_ yS
 rcases L2.cJ.mp hy with z | z
 ·exact L2.cJ.mpr (.inl (m3.mp z).1)
 ·exact L2.cJ.mpr (.inr (m3.mp z).1)
theorem aW8 (t:∀ U,cY (fU ls l) S U->(l.1 ∈ U ↔ l.2 ∈ U)):aQ (fU ls l) S=aQ ls S:=by
 have e:∀ h,comp (fU ls l) S h=comp ls S h:=fun h=>by
  refine List.filter_congr fun x _=>?_
  rw [bp9]
  constructor
  ·intro z; exact @bg8 _ (Classical.propDecidable _) fun U hU hh=>(@bo1 _ (Classical.propDecidable _) z) U (zC hU) hh
  ·intro z; exact @bg8 _ (Classical.propDecidable _) fun U hU hh=>(@bo1 _ (Classical.propDecidable _) z) U (aW7 (t U hU) hU) hh
 unfold aQ pV
 refine List.filter_congr fun x _=>?_
 rw [e]
noncomputable def bM (n:Nat) (ls:List (Int × Int)):Prop:=ls.length+(aQ ls (rng n)).length=n
theorem fF (n:Nat):bA n (rng n)=true:=by
 have:=aQ3 n fun _=>true
 rwa [List.filter_eq_self.mpr fun _ _=>rfl] at this
theorem ae0 (w:bM n ls) (nd:ls.Nodup) (hl:l ∈ ls) : ¬ ∀ U,cY (fU ls l) (rng n) U->(l.1 ∈ U ↔ l.2 ∈ U):=fun t=>by
 have h1:=nW (fF n) (fU ls l)
 rw [aW8 t,dO] at h1
 have h2:=bm1 (eF (rng n)) (fU ls l)
 have h3:=ad9 hl nd
 unfold bM at w
 omega
end
noncomputable abbrev eG:=List (Int × Option Int)
noncomputable def fV (ls:List (Int × Int)) (h:Int) (e:Option Int):List Int:=(aR ls h).filter fun x=>!decide (some x=e)
theorem tR {ls:List (Int × Int)}{h x:Int}{e:Option Int}:x ∈ fV ls h e ↔ x ∈ aR ls h/\some x ≠ e:=by
 unfold fV; rw [bj0,Bool.not_eq_true',bl9]
structure fW (n:Nat) (ls:List (Int × Int)) (P:eG) (t:Nat):Prop where
 nd:(P.map (·.1)).Nodup
 inn:∀ p ∈ P,p.1 ∈ rng n
 par:∀ (i:Nat) (h e:Int),P[i]? = some (h,some e)->∃ (j:Nat) (q:Option Int),j < i/\j < t/\P[j]? = some (e,q)/\e ∈ aR ls h
 done:∀ (i:Nat) (h:Int) (e:Option Int),i < t->P[i]? = some (h,e)->∀ x ∈ aR ls h,e=some x ∨ (x,some h) ∈ P
 root:∀ h,(h,none) ∈ P ↔ h ∈ aQ ls (rng n)
structure Rt (n:Nat) (ls:List (Int × Int)) (P:eG):Prop where
 nd:(P.map (·.1)).Nodup
 mem:∀ h,h ∈ P.map (·.1) ↔ h ∈ rng n
 par:∀ (i:Nat) (h e:Int),P[i]? = some (h,some e)->∃ (j:Nat) (q:Option Int),j < i/\P[j]? = some (e,q)/\e ∈ aR ls h
 done:∀ h e,(h,e) ∈ P->∀ x ∈ aR ls h,e=some x ∨ (x,some h) ∈ P
 root:∀ h,(h,none) ∈ P ↔ h ∈ aQ ls (rng n)
theorem m5 {P:eG} (nd:(P.map (·.1)).Nodup) {i j:Nat}{h:Int}{e e':Option Int} (hi:P[i]? = some (h,e)) (hj:P[j]? = some (h,e')):i=j/\e=e':=by
 have h1:(P.map (·.1))[i]? = some h:=by rw [bh9,hi]; rfl
 have h2:(P.map (·.1))[j]? = some h:=by rw [bh9,hj]; rfl
 have hl:i < (P.map (·.1)).length:=(bh3.mp h1).1
 have e0:i=j:=(List.getElem?_inj hl nd).mp (h1.trans h2.symm)
 subst e0
 rw [hi] at hj
 exact⟨rfl,by cases hj; rfl⟩
theorem gF {P:eG}{p:Int × Option Int} (h:p ∈ P):∃ i:Nat,P[i]? = some p:=bq5.mp h
theorem ae1 {P:eG} (nd:(P.map (·.1)).Nodup) {h:Int}{e e':Option Int} (hi:(h,e) ∈ P) (hj:(h,e') ∈ P):e=e':=by
 obtain ⟨i,hi⟩:=gF hi
 obtain ⟨j,hj⟩:=gF hj
 exact (m5 nd hi hj).2
section
variable {n : Nat} {ls : List (Int × Int)} {P : eG} {t : Nat}
theorem fW.root_of (B:fW n ls P t) {l:Int × Int} (lm:∀ (i:Nat) (h e:Int),P[i]? = some (h,some e)->l ≠ (h,e)/\l ≠ (e,h)):∀ (i:Nat) (x:Int) (q:Option Int),P[i]? = some (x,q)->∃ r,r ∈ aQ ls (rng n)/\∀ U,cY (fU ls l) (rng n) U->(x ∈ U ↔ r ∈ U):=by
 intro i
 induction i using Nat.strongRecOn with
 | ind i ih=>
  intro x q hi
  cases q with
  | none=>exact⟨x,(B.root x).mp (bg9 hi),fun _ _=>Iff.rfl⟩
  | some e=>
   obtain ⟨j,q,ji,_,hj,ee⟩:=B.par i x e hi
   obtain ⟨r,hr,hu⟩:=ih j ji e q hj
   obtain ⟨l1,l2⟩:=lm i x e hi
   have en:e ∈ aR (fU ls l) x:=by
    rcases L2.cJ.mp ee with z | z
    ·exact L2.cJ.mpr (.inl (m3.mpr ⟨z,fun q=>l1 q.symm⟩))
    ·exact L2.cJ.mpr (.inr (m3.mpr ⟨z,fun q=>l2 q.symm⟩))
   refine⟨r,hr,fun U hU=>(Iff.intro (fun z=>hU x z e en (B.inn _ (bg9 hj))) fun z=>hU e z x (jG en) (B.inn _ (bg9 hi))).trans (hu U hU)⟩
theorem fW.fresh (B:fW n ls P t) (w:bM n ls) (f:gS ls) {h:Int}{e:Option Int} (ht:P[t]? = some (h,e)) {c:Int} (hc:c ∈ fV ls h e):c ∉ P.map (·.1):=by
 intro hin
 obtain ⟨cn,ce⟩:=tR.mp hc
 obtain ⟨⟨c',q⟩,hm,rfl⟩:=bi8.mp hin
 obtain ⟨i,hi⟩:=gF hm
 have hc':h ∈ aR ls c':=jG cn
 have no1:∀ (i:Nat) (g:Int),P[i]? = some (g,some c')->g ≠ h:=fun i g hg z=>by
  subst z
  exact ce (m5 B.nd hg ht).2
 have no2:∀ (i:Nat) (g:Int),P[i]? = some (g,some h)->g ≠ c':=fun i g hg z=>by
  obtain ⟨j,q,_,jt,hj,_⟩:=B.par i g h hg
  have:=(m5 B.nd hj ht).1
  omega
 obtain ⟨l,hl,hlc⟩:∃ l,l ∈ ls/\(l=(h,c') ∨ l=(c',h)):=by
  rcases L2.cJ.mp cn with z | z
  ·exact⟨_,z,.inl rfl⟩
  ·exact⟨_,z,.inr rfl⟩
 have lm:∀ (i:Nat) (g e:Int),P[i]? = some (g,some e)->l ≠ (g,e)/\l ≠ (e,g):=fun i g e hg=>by
  constructor <;> intro z <;> rcases hlc with y | y <;> rw [z] at y <;> cases y
  ·exact no1 i _ hg rfl
  ·exact no2 i _ hg rfl
  ·exact no2 i _ hg rfl
  ·exact no1 i _ hg rfl
 obtain ⟨r1,hr1,u1⟩:=B.root_of lm i c' q hi
 obtain ⟨r2,hr2,u2⟩:=B.root_of lm t h e ht
 have hS:=fF n
 have hh:h ∈ rng n:=B.inn _ (bg9 ht)
 have cc:c' ∈ comp ls (rng n) h:=gR h (dS hh) c' cn (B.inn _ hm)
 have k1:=(u1 _ (zC gR)).mp cc
 have k2:=(u2 _ (zC (gR (ls:=ls) (S:=rng n) (h:=h)))).mp (dS hh)
 have e1:r1=r2:=by
  have c1:=iM hS k1 hh
  have c2:=iM hS k2 hh
  refine pX hS hr1 hr2 (z:=r1) (dS (dH.mp hr1).1) ?_
  rw [c2]; exact k1
 refine ae0 w (aV6 f.ord) hl fun U hU=>?_
 have:=(u1 U hU).trans ((by rw [e1]:r1 ∈ U ↔ r2 ∈ U).trans (u2 U hU).symm)
 rcases hlc with y | y <;> rw [y]
 ·exact this.symm
 ·exact this
theorem fW.step (B:fW n ls P t) (w:bM n ls) (f:gS ls) (ir:∀ h x,x ∈ aR ls h->x ∈ rng n) {h:Int}{e:Option Int} (ht:P[t]? = some (h,e)):fW n ls (P ++ (fV ls h e).map fun c=>(c,some h)) (t+1):=by
 have tl:t < P.length:=(bh3.mp ht).1
 have km:∀ p ∈ (fV ls h e).map (fun c=>(c,some h)),∃ c ∈ fV ls h e,p=(c,some h):=fun p hp=>let ⟨c,h1,h2⟩:=bi8.mp hp; ⟨c,h1,h2.symm⟩
 refine⟨?_,fun p hp=>?_,fun i g e' hi=>?_,fun i g e' it hi x hx=>?_,fun g=>?_⟩
 ·rw [bk4,bq7,bp5]
  have e0:(fV ls h e).map ((fun p:Int × Option Int=>p.1) ∘ fun c=>(c,some h))=fV ls h e:=List.map_id'' (fun _=>rfl) _
  rw [e0]
  exact⟨B.nd,(f.nnd h).filter _,fun a ha b hb z=>B.fresh w f ht hb (by rw [<- z]; exact ha)⟩
 ·rcases bh6.mp hp with z | z
  ·exact B.inn p z
  ·obtain ⟨c,hc,rfl⟩:=km p z
   exact ir h c (tR.mp hc).1
 ·by_cases il:i < P.length
  ·rw [bj7 il] at hi
   obtain ⟨j,q,ji,jt,hj,en⟩:=B.par i g e' hi
   exact⟨j,q,ji,by omega,by rw [bj7 (by omega)]; exact hj,en⟩
  ·rw [bo9 (by omega)] at hi
   obtain ⟨c,hc,z⟩:=km _ (bg9 hi)
   cases z
   exact⟨t,e,by omega,by omega,by rw [bj7 tl]; exact ht,jG (tR.mp hc).1⟩
 ·rw [bj7 (by omega)] at hi
  by_cases e1:i=t
  ·subst e1
   rw [ht] at hi
   cases hi
   by_cases z:some x=e
   ·exact .inl z.symm
   ·exact .inr (bh6.mpr (.inr (bi8.mpr ⟨x,tR.mpr ⟨hx,z⟩,rfl⟩)))
  ·exact (B.done i g e' (by omega) hi x hx).imp id fun z=>bh6.mpr (.inl z)
 ·rw [<- B.root g]
  refine⟨fun z=>?_,fun z=>bh6.mpr (.inl z)⟩
  rcases bh6.mp z with z | z
  ·exact z
  ·obtain ⟨c,_,z⟩:=km _ z
   cases z
theorem fW.start:fW n ls ((aQ ls (rng n)).map fun h=>(h,none)) 0:=by
 have hS:=fF n
 refine⟨?_,fun p hp=>?_,fun i g e hi=>?_,fun i g e it=>absurd it (by omega),fun g=>?_⟩
 ·rw [bq7,show (aQ ls (rng n)).map ((fun p:Int × Option Int=>p.1) ∘ fun h=>(h,none))=aQ ls (rng n) from List.map_id'' (fun _=>rfl) _]
  exact tP hS
 ·obtain ⟨h,hh,rfl⟩:=bi8.mp hp
  exact (dH.mp hh).1
 ·obtain ⟨h,_,z⟩:=bi8.mp (bg9 hi)
  cases z
 ·refine⟨fun z=>?_,fun z=>bi8.mpr ⟨g,z,rfl⟩⟩
  obtain ⟨h,hh,z⟩:=bi8.mp z
  cases z
  exact hh
theorem fW.len (B:fW n ls P t):P.length<=n:=by
 have:=fS B.nd (m:=rng n) fun x hx=>by
  obtain ⟨p,hp,rfl⟩:=bi8.mp hx
  exact B.inn p hp
 rwa [bh1,dO] at this
theorem fW.all (B:fW n ls P P.length):Rt n ls P:=by
 have hS:=fF n
 have par:∀ (i:Nat) (h e:Int),P[i]? = some (h,some e)->∃ (j:Nat) (q:Option Int),j < i/\P[j]? = some (e,q)/\e ∈ aR ls h:=fun i h e hi=>let ⟨j,q,a,_,b,c⟩:=B.par i h e hi; ⟨j,q,a,b,c⟩
 have done:∀ (h:Int) (e:Option Int),(h,e) ∈ P->∀ x ∈ aR ls h,e=some x ∨ (x,some h) ∈ P:=fun h e hm=>by
  obtain ⟨i,hi⟩:=gF hm
  exact B.done i h e (bh3.mp hi).1 hi
 refine⟨B.nd,fun h=>⟨fun z=>?_,fun z=>?_⟩,par,done,B.root⟩
 ·obtain ⟨p,hp,rfl⟩:=bi8.mp z
  exact B.inn p hp
 ·have sh:cY ls (rng n) (P.map (·.1)):=fun x hx y hy _=>by
   obtain ⟨⟨x',e⟩,hp,rfl⟩:=bi8.mp hx
   rcases done x' e hp y hy with z | z
   ·subst z
    obtain ⟨i,hi⟩:=gF hp
    obtain ⟨j,q,_,hj,_⟩:=par i x' y hi
    exact bi8.mpr ⟨_,bg9 hj,rfl⟩
   ·exact bi8.mpr ⟨_,z,rfl⟩
  obtain ⟨r,hr⟩:∃ r,(comp ls (rng n) h).head? = some r:=by
   cases e:comp ls (rng n) h with
   | nil=>have:=dS (ls:=ls) z; rw [e] at this; cases this
   | cons a r=>exact⟨a,rfl⟩
  have rm:=(i7 (fE hS) hr).1
  have rs:=iM hS rm z
  have hd:r ∈ aQ ls (rng n):=dH.mpr ⟨nQ _ rm,by rw [rs]; exact hr⟩
  have hc:h ∈ comp ls (rng n) r:=by rw [rs]; exact dS z
  exact (eU.mp hc).2 _ sh (bi8.mpr ⟨_,(B.root r).mpr hd,rfl⟩)
end
theorem cM.inr {n:Nat}{ls:List (Int × Int)} (lk:cM n ls) (x y:Int) (hy:y ∈ aR ls x):y ∈ rng n:=by
 rcases L2.cJ.mp hy with z | z
 ·have:=lk.1 _ z; exact bR.mpr ⟨by dsimp only at this; omega,by dsimp only at this; omega⟩
 ·have:=lk.1 _ z; exact bR.mpr ⟨by dsimp only at this; omega,by dsimp only at this; omega⟩
theorem cM.nlen {n:Nat}{ls:List (Int × Int)} (lk:cM n ls) (x:Int):(aR ls x).length<=n:=by
 have:=fS (lk.fit.nnd x) (m:=rng n) fun y hy=>lk.inr x y hy
 rwa [dO] at this
noncomputable def iY:bL:=fun xs Q=>∃ ws ls,xs = [bG ws ls]/\Wb ws ls/\(bM ws.length ls->Q (.bl true))/\(¬ bM ws.length ls->Q (.bl false))
noncomputable def ae2:aK:=(bN (eR (aD dJ (a7 (b7 (a5 0) (qC (.int 1))) a9)) (lM (aD iW (a7 (a5 0) a9)) (aD dJ (a7 (aD nU (a7 (a5 0) a9)) a9)))))
theorem aW9:cR ae2 ["web"] iY:=by
 rintro xs Q ⟨ws,ls,rfl,wb,q1,q2⟩
 refine⟨_,rfl,_,_,_,rfl,rfl,rfl,_,_,rfl,rfl,_,rfl,ws,ls,rfl,_,rfl,ws,ls,rfl,wb,_,_,rfl,rfl,_,_,rfl,rfl,.inl ⟨_,_,rfl,rfl,trivial,?_⟩⟩
 have a:(bE ls).length=ls.length:=bh1 _
 have b:(tups (iN ls (rng ws.length))).length=(aQ ls (rng ws.length)).length:=by rw [sV]; unfold iN; rw [bh1]
 show Q (.bl (decide (((bE ls).length:Int)=(ws.length:Int) - ((tups (iN ls (rng ws.length))).length:Int))))
 rw [a,b]
 by_cases w:bM ws.length ls
 ·have:=q1 w
  unfold bM at w
  rw [bg8 (by omega)]; exact this
 ·have:=q2 w
  unfold bM at w
  rw [bh5 (by omega)]; exact this
noncomputable def tS:bL:=fun xs Q=>∃ (n:Nat) (ls:List (Int × Int)) (h:Int) (e:Option Int),xs = [.lst (dR n ls),.int h,gO e]/\0<=h/\h < (n:Int)/\(aR ls h).length<=1000/\Q (.lst (intz (fV ls h e)))
noncomputable def ae3:aK:=(bN (fL (fJ (b7 (a5 0) (a5 1))) [none,some 2] (cK 0) (aZ (q2 yO (a5 0) (a5 1))) (a5 0)))
theorem aX0:cR ae3 ["around","hearth","elder"] tS:=by
 rintro xs Q ⟨n,ls,h,e,rfl,h0,h1,hl,q⟩
 refine⟨_,rfl,_,rfl,_,_,_,rfl,rfl,xQ h0 h1,intz (aR ls h),rfl,(fun z=>by cases z),by rw [bP]; omega,fun i acc=>acc=intz (((aR ls h).take i).filter fun x=>!decide (some x=e)),rfl,?_,?_⟩
 ·rintro i y acc hy rfl
  obtain ⟨x,rfl,hx⟩:=kK hy
  have tk:=X8 (p:=fun x=>!decide (some x=e)) hx
  refine⟨_,rfl,_,rfl,x,e,rfl,rfl,_,rfl,?_⟩
  by_cases z:some x=e
  ·rw [bg8 z.symm]
   refine bD ?_
   dsimp only
   rw [tk,bg8 z]; exact (bm6 _).symm ▸ rfl
  ·rw [bh5 fun y=>z y.symm]
   refine bH ⟨_,rfl,trivial,?_⟩
   dsimp only
   rw [tk,bh5 z,i6]; rfl
 ·rintro acc rfl
  rw [bP,bl5 (bh0 _)]
  exact⟨trivial,q⟩
noncomputable def zD (p:Int × Option Int):PV:=.tup [.int p.1,gO p.2]
noncomputable def eI (P:eG):List PV:=P.map zD
theorem tT (P:eG):(eI P).length=P.length:=bh1 _
theorem ae4 {P:eG}{i:Nat}{p:Int × Option Int} (h:P[i]? = some p):L2.atI (eI P) (i:Int)=some (zD p):=l8 (by unfold eI; rw [bh9,h]; rfl)
noncomputable def ae5:aK:=(lF (aZ (p7 (a5 3) (aD dJ (a7 (a5 2) a9))))
  (aB (b6 4 (b7 (b7 (a5 2) (a5 3)) (qC (.int 0))))
  (aB (wH 2 (fL (fJ (aD tS (a7 (a5 1) (a7 (a5 4) (a7 (b7 (b7 (a5 2) (a5 3)) (qC (.int 1))) a9))))) [none,some 4] (cK 0) eQ (g6 (a7 (a5 0) (a7 (a5 1) a9)))))
  (b6 3 (cG (a5 3) (qC (.int 1)))))))
section
variable {ws : List Int} {ls : List (Int × Int)} {E : gM} {s0 : Option Slot} {n : Nat}
theorem ae6 (P:eG):flats (eI P)=true:=by
 induction P with
 | nil=>rfl
 | cons p P ih=>
  show (flat (zD p) && flats (eI P))=true
  rw [ih,Bool.and_true]
  obtain ⟨h,e⟩:=p
  cases e <;> rfl
theorem aX1 (n40:n<=40) (lk:cM n ls) (w:bM n ls) (k:∀ P y3 y4,Rt n ls P->E.nx [s0,some (.sh true (.lst (dR n ls))),some (.own (.lst (eI P))),y3,y4]) {y4:Option Slot} :
  ae5 E [s0,some (.sh true (.lst (dR n ls))),some (.own (.lst (eI ((aQ ls (rng n)).map fun h=>(h,none))))),si 0,y4]:=by
 refine⟨fun m ρ=>∃ (P:eG) (t:Nat) (y4:Option Slot),ρ = [s0,some (.sh true (.lst (dR n ls))),some (.own (.lst (eI P))),si t,y4]/\fW n ls P t/\t<=P.length/\m=n - t,⟨_,_,0,y4,rfl,fW.start,bk7 _,rfl⟩,?_⟩
 rintro m ρ ⟨P,t,y4,rfl,B,tl,rfl⟩
 have pl:=B.len
 refine⟨_,rfl,_,rfl,_,_,rfl,rfl,_,_,rfl,rfl,_,rfl,?_⟩
 rw [tT]
 by_cases lt:t < P.length
 ·rw [bg8 (by omega)]
  obtain ⟨⟨h,e⟩,ht⟩:∃ p,P[t]? = some p:=⟨_,bg7 lt⟩
  have hr:=bR.mp (B.inn _ (bg9 ht))
  dsimp only at hr
  have nl:=lk.nlen h
  refine bH ⟨_,rfl,_,rfl,_,_,_,rfl,rfl,ae4 ht,_,_,_,rfl,rfl,rfl,rfl,?_⟩
  refine⟨eI P,rfl,_,rfl,_,rfl,_,rfl,_,rfl,_,_,_,rfl,rfl,ae4 ht,_,_,_,rfl,rfl,rfl,n,ls,h,e,rfl,hr.1,hr.2,by omega,intz (fV ls h e),rfl,(fun z=>by cases z),?_,fun i acc=>acc=eI (((fV ls h e).take i).map fun c=>(c,some h)),rfl,?_,?_⟩
  ·rw [bP]; have:=bm1 (fun x=>!decide (some x=e)) (aR ls h); unfold fV; omega
  ·rintro i y acc hy rfl
   obtain ⟨c,rfl,hc⟩:=kK hy
   refine⟨_,rfl,_,rfl,by show 2<=1000; decide,rfl,trivial,?_⟩
   dsimp only
   rw [bo2,hc,bk4]
   unfold eI
   rw [bk4]
   rfl
  ·rintro acc rfl
   rw [bP,bl5 (bh0 _)]
   have kl:(fV ls h e).length<=n:=by have:=bm1 (fun x=>!decide (some x=e)) (aR ls h); unfold fV; omega
   refine⟨_,.inr rfl,.inr (ae6 _),by rw [tT,tT,bh1]; omega,_,rfl,_,_,rfl,rfl,trivial,n - (t+1),by omega,P ++ (fV ls h e).map (fun c=>(c,some h)),t+1,si h,?_,B.step w lk.fit (fun h x=>lk.inr h x) ht,by rw [bi4]; omega,rfl⟩
   unfold eI
   rw [<- bk4]
   rfl
 ·rw [bh5 (by omega)]
  have:t=P.length:=by omega
  subst this
  exact bD (k P _ _ B.all)
end
structure TL (k:Nat) (lks:List (Int × Int)):Prop where
 inn:∀ l ∈ lks,0<=l.1/\l.1 < l.2/\l.2 < (k:Int)
 nd:(lks.map (·.2)).Nodup
 few:lks.length<=k
theorem TL.same {k:Nat}{lks:List (Int × Int)} (h:TL k lks):TL (k+1) lks:=⟨fun l hl=>by have:=h.inn l hl; omega,h.nd,by have:=h.few; omega⟩
theorem TL.app {k:Nat}{lks:List (Int × Int)} (h:TL k lks) {e:Int} (e0:0<=e) (e1:e < (k:Int)):TL (k+1) (lks ++ [(e,(k:Int))]):=by
 refine⟨fun l hl=>?_,?_,by rw [bi4,bk8]; have:=h.few; omega⟩
 ·rcases bh6.mp hl with z | z
  ·have:=h.inn l z; omega
  ·rw [bg6.mp z]; dsimp only; omega
 ·rw [bk4,bp5]
  refine⟨h.nd,bj8 _ _,fun a ha b hb e=>?_⟩
  obtain ⟨l,hl,rfl⟩:=bi8.mp ha
  rw [List.map_singleton,bg6] at hb
  have:=h.inn l hl
  omega
theorem TL.snd {k:Nat}{lks:List (Int × Int)} (h:TL k lks) {a b c:Int} (ha:(a,c) ∈ lks) (hb:(b,c) ∈ lks):a=b:=by
 obtain ⟨i,hi⟩:=bq5.mp ha
 obtain ⟨j,hj⟩:=bq5.mp hb
 have h1:(lks.map (·.2))[i]? = some c:=by rw [bh9,hi]; rfl
 have h2:(lks.map (·.2))[j]? = some c:=by rw [bh9,hj]; rfl
 have:=(List.getElem?_inj (bh3.mp h1).1 h.nd).mp (h1.trans h2.symm)
 subst this
 rw [hi] at hj
 exact (Prod.mk.inj (bj9 hj)).1
theorem TL.ndl {k:Nat}{lks:List (Int × Int)} (h:TL k lks):lks.Nodup:=(bp4.mp h.nd).imp fun z e=>z (by rw [e])
structure Pl (m:Nat) (p:Int->Int):Prop where
 inn:∀ i,0<=i->i < (m:Int)->0<=p i/\p i < (m:Int)
 inj:∀ i j,0<=i->i < (m:Int)->0<=j->j < (m:Int)->p i=p j->i=j
 onto:∀ x,x ∈ rng m->∃ i,0<=i/\i < (m:Int)/\p i=x
noncomputable def fG (p:Int->Int) (l:Int × Int):Int × Int:=(min (p l.1) (p l.2),max (p l.1) (p l.2))
theorem aX2 {m:Nat}{p:Int->Int}{lks:List (Int × Int)} (P:Pl m p) (T:TL m lks):∀ l ∈ lks.map (fG p),0<=l.1/\l.1 < l.2/\l.2 < (m:Int):=by
 intro l0 hl0
 obtain ⟨l,hl,rfl⟩:=bi8.mp hl0
 have h:=T.inn l hl
 have a:=P.inn l.1 (by omega) (by omega)
 have b:=P.inn l.2 (by omega) (by omega)
 have c:p l.1 ≠ p l.2:=fun e=>by have:=P.inj _ _ (by omega) (by omega) (by omega) (by omega) e; omega
 unfold fG
 dsimp only
 omega
theorem zE {p:Int->Int}{l:Int × Int}{x y:Int} (e:fG p l=(x,y) ∨ fG p l=(y,x)):(p l.1=x/\p l.2=y) ∨ (p l.1=y/\p l.2=x):=by
 unfold fG at e
 rcases e with e | e <;> (have e1:=(Prod.mk.inj e).1; have e2:=(Prod.mk.inj e).2; omega)
theorem aX3 {m:Nat}{p:Int->Int}{lks:List (Int × Int)} (P:Pl m p) (T:TL m lks):(lks.map (fG p)).Nodup:=by
 refine bp4.mpr (T.ndl.imp_of_mem fun {a b} ha hb hab e=>hab ?_)
 have h1:=T.inn a ha
 have h2:=T.inn b hb
 rcases zE (x:=(fG p b).1) (y:=(fG p b).2) (.inl e) with ⟨c,d⟩ | ⟨c,d⟩ <;> rcases zE (p:=p) (l:=b) (x:=(fG p b).1) (y:=(fG p b).2) (.inl rfl) with ⟨c',d'⟩ | ⟨c',d'⟩
 ·exact Prod.ext (P.inj _ _ (by omega) (by omega) (by omega) (by omega) (c.trans c'.symm)) (P.inj _ _ (by omega) (by omega) (by omega) (by omega) (d.trans d'.symm))
 ·have e1:=P.inj a.1 b.2 (by omega) (by omega) (by omega) (by omega) (c.trans d'.symm)
  have e2:=P.inj a.2 b.1 (by omega) (by omega) (by omega) (by omega) (d.trans c'.symm)
  omega
 ·have e1:=P.inj a.1 b.2 (by omega) (by omega) (by omega) (by omega) (c.trans d'.symm)
  have e2:=P.inj a.2 b.1 (by omega) (by omega) (by omega) (by omega) (d.trans c'.symm)
  omega
 ·exact Prod.ext (P.inj _ _ (by omega) (by omega) (by omega) (by omega) (c.trans c'.symm)) (P.inj _ _ (by omega) (by omega) (by omega) (by omega) (d.trans d'.symm))
theorem ae7 {f:Int->Int->Prop}:∀ {U:List Int},U ≠ []->(∀ x ∈ U,∃ i,f x i)->∃ x ∈ U,∃ i,f x i/\∀ y ∈ U,∃ j,f y j/\j<=i
 | [x],_,h=>by
  obtain ⟨i,hi⟩:=h x bh2
  exact⟨x,bh2,i,hi,fun y hy=>by rw [bg6.mp hy]; exact⟨i,hi,bq3 _⟩⟩
 | x :: z :: r,_,h=>by
  obtain ⟨i,hi⟩:=h x bh2
  obtain ⟨y,hy,j,hj,m⟩:=ae7 (U:=z :: r) (by simp) fun y hy=>h y (bh8 _ hy)
  by_cases le:i<=j
  ·refine⟨y,bh8 _ hy,j,hj,fun w hw=>?_⟩
   rcases bi0.mp hw with e | e
   ·rw [e]; exact⟨i,hi,le⟩
   ·exact m w e
  ·refine⟨x,bh2,i,hi,fun w hw=>?_⟩
   rcases bi0.mp hw with e | e
   ·rw [e]; exact⟨i,hi,bq3 _⟩
   ·obtain ⟨k,hk,kl⟩:=m w e; exact⟨k,hk,by omega⟩
theorem aX4 {m:Nat}{p:Int->Int}{lks ls:List (Int × Int)} (P:Pl m p) (T:TL m lks) (pm:ls.Perm (lks.map (fG p))) (f:gS ls):yY ls (rng m):=by
 intro U two sub
 refine bp7 fun ne=>?_
 obtain ⟨x,hx,i,⟨i0,i1,hi⟩,mx⟩:=ae7 (f:=fun x i=>0<=i/\i < (m:Int)/\p i=x) ne fun x hx=>P.onto x (sub x hx)
 obtain ⟨a,b,na,nb,ua,ub,ab⟩:=aV9 (f.nnd x) (two x hx)
 have up:∀ y,y ∈ aR ls x->y ∈ U->∃ j,(j,i) ∈ lks/\p j=y:=fun y hy hu=>by
  obtain ⟨j,⟨j0,j1,hj⟩,ji⟩:=mx y hu
  obtain ⟨l,hl,e⟩:∃ l ∈ lks,fG p l=(x,y) ∨ fG p l=(y,x):=by
   rcases L2.cJ.mp hy with z | z
   ·obtain ⟨l,hl,e⟩:=bi8.mp (pm.mem_iff.mp z); exact⟨l,hl,.inl e⟩
   ·obtain ⟨l,hl,e⟩:=bi8.mp (pm.mem_iff.mp z); exact⟨l,hl,.inr e⟩
  have h:=T.inn l hl
  rcases zE e with ⟨c,d⟩ | ⟨c,d⟩
  ·have e1:=P.inj l.1 i (by omega) (by omega) i0 i1 (c.trans hi.symm)
   have e2:=P.inj l.2 j (by omega) (by omega) j0 j1 (d.trans hj.symm)
   omega
  ·have e1:=P.inj l.2 i (by omega) (by omega) i0 i1 (d.trans hi.symm)
   exact⟨l.1,by rw [<- e1]; exact hl,c⟩
 obtain ⟨j,hj,ej⟩:=up a na ua
 obtain ⟨k,hk,ek⟩:=up b nb ub
 exact ab (by rw [<- ej,<- ek,T.snd hj hk])
theorem aX5 {n:Nat}{ls:List (Int × Int)} (lk:cM n ls) (no:yY ls (rng n)):bM n ls:=by
 have h1:=z9 lk.fit n (rng n) (by rw [dO]; exact bh0 _) (fF n) no
 have h2:=nW (fF n) ls
 have e:ls.filter (eF (rng n))=ls:=List.filter_eq_self.mpr fun l hl=>by
  have:=lk.1 l hl
  unfold eF
  rw [bg8 (bR.mpr ⟨by omega,by omega⟩),bg8 (bR.mpr ⟨by omega,by omega⟩)]; rfl
 unfold mu at h1
 rw [e,dO] at h1
 rw [e,dO] at h2
 unfold bM
 omega
noncomputable def tU:bL:=fun xs Q=>∃ (ns:List Int) (m:Nat) (dg:Bool),xs = [.scr ns,.int m,.bl dg]/\ns.length<=63/\m<=40/\∀ ps:List Int,ps.Perm (rng m)->Q (.lst (intz ps))
noncomputable def ae8:aK:=(aB (b6 6 (aD iX (a7 (aD eD (a7 (a5 0) (a7 (qC (.int 3)) a9))) (a7 (cG (a5 5) (qC (.int 5))) a9))))
   (aB (bX (lH (a5 2)) (aB (b6 6 (a5 4))
    (b6 4 (fC (a5 4) (cG (a5 5) (qC (.int 1)))))) cF)
   (kN 3 (cC (a5 6) (cG (a5 5) (qC (.int 1)))) (a5 5))))
noncomputable def ae9:aK:=(aB (dB 3 (sX (a5 1)))
 (aB (b6 4 (aD eD (a7 (a5 0) (a7 (qC (.int 3)) a9))))
 (aB (bX (aZ (eR (cC (fC (aD eD (a7 (a5 0) (a7 (qC (.int 1)) a9))) (qC (.int 3))) (qC (.int 2))) (qC (.int 1)))) (aB (dB 3 (eO a9))
  (dY (jJ (a5 1)) (cK 5)
   ae8)) cF)
 (kB 3))))
theorem aX6 {ns:List Int}{s1 y6:Option Slot}{dg:Bool}{ps:List Int}{nb:Int}{k:Nat}{E:gM} (k40:k < 40) (hp:ps.Perm (rng k))
  (nx:∀ (ps:List Int) (nb:Int) (y6:Option Slot),ps.Perm (rng (k+1))->E.nx [some (.sh true (.scr ns)),s1,some (.sh true (.bl dg)),some (.own (.lst (intz ps))),si nb,si k,y6]) :
  ae8 E [some (.sh true (.scr ns)),s1,some (.sh true (.bl dg)),some (.own (.lst (intz ps))),si nb,si k,y6]:=by
 have pl:=hp.length_eq
 rw [dO] at pl
 have fin:∀ (sp nb:Int),(kN 3 (cC (a5 6) (cG (a5 5) (qC (.int 1)))) (a5 5)) E [some (.sh true (.scr ns)),s1,some (.sh true (.bl dg)),some (.own (.lst (intz ps))),si nb,si k,si sp]:=fun sp nb=>by
  have h0:=bo6 sp (show (k:Int)+1 ≠ 0 by omega)
  have h1:=br2 sp (show (0:Int) < (k:Int)+1 by omega)
  refine⟨intz ps,rfl,_,rfl,_,rfl,_,_,rfl,rfl,_,_,rfl,rfl,by show (0:Int) < (k:Int)+1; omega,(sp % ((k:Int)+1)).toNat,by show PV.int (sp % ((k:Int)+1))=_; rw [Int.toNat_of_nonneg h0],by rw [bP]; omega,by rw [bP]; omega,_,rfl,trivial,?_⟩
  have e:(intz ps).take (sp % ((k:Int)+1)).toNat ++ PV.int k :: (intz ps).drop (sp % ((k:Int)+1)).toNat=intz (ps.take (sp % ((k:Int)+1)).toNat ++ (k:Int) :: ps.drop (sp % ((k:Int)+1)).toNat):=by
   unfold intz; rw [bk4,List.map_take,bm4,List.map_drop]
  have:=nx (ps.take (sp % ((k:Int)+1)).toNat ++ (k:Int) :: ps.drop (sp % ((k:Int)+1)).toNat) nb (si sp) (by
   rw [aS7]
   refine (List.perm_middle).trans ?_
   rw [bl3]
   exact (List.Perm.cons _ hp).trans (List.perm_append_singleton _ _).symm)
  rw [<- e] at this
  exact this
 refine⟨_,rfl,_,ns,3,rfl,.inl rfl,by decide,_,rfl,_,_,rfl,rfl,_,_,rfl,by omega,by omega,fun z _=>⟨trivial,?_⟩⟩
 refine⟨_,rfl,_,rfl,?_⟩
 cases dg with
 | false=>exact bD (fin z nb)
 | true=>exact bH ⟨_,rfl,trivial,_,rfl,_,rfl,_,_,rfl,rfl,_,_,rfl,rfl,⟨by show (0:Int) < (k:Int)+1; omega,by omega⟩,trivial,fin nb _⟩
theorem zF (n:Nat):fB 0 n=intz (rng n):=by
 refine List.ext_getElem? fun i=>?_
 by_cases h:i < n
 ·rw [wQ h]
  unfold intz
  rw [bh9,X7 h,Int.zero_add]; rfl
 ·rw [List.getElem?_eq_none (by rw [g9]; omega),List.getElem?_eq_none (by rw [bP,dO]; omega)]
theorem aX7:cR ae9 ["script","many","digits","places","number","k","spot"] tU:=by
 rintro xs Q ⟨ns,m,dg,rfl,hl,m40,q⟩
 refine⟨_,rfl,m,rfl,by omega,by omega,rfl,?_,?_⟩
 ·show flats (fB 0 (m:Int).toNat)=true
  rw [zF]; exact dX _
 rw [zF,bk1]
 refine⟨_,rfl,_,ns,3,rfl,.inl rfl,by decide,trivial,?_⟩
 dsimp only
 generalize ns.getD (3:Int).toNat 0=nb
 refine⟨_,rfl,_,ns,1,rfl,.inl rfl,by decide,_,_,rfl,rfl,⟨by decide,by decide⟩,_,_,rfl,rfl,(by show (0:Int) < 2; decide),.inl ⟨_,_,rfl,rfl,_,rfl,?_⟩⟩
 generalize (if false=true then _ else _:Bool)=b
 cases b with
 | false=>exact bD ⟨_,rfl,trivial,q _ (List.Perm.refl _)⟩
 | true=>
  refine bH ⟨by decide,rfl,rfl,rfl,?_⟩
  refine⟨_,rfl,m,rfl,by omega,by omega,fun k ρ=>∃ (ps:List Int) (nb:Int) (y5 y6:Option Slot),ρ = [some (.sh true (.scr ns)),si m,some (.sh true (.bl dg)),some (.own (.lst (intz ps))),si nb,y5,y6]/\ps.Perm (rng k),⟨[],nb,none,none,rfl,List.Perm.refl _⟩,?_,?_⟩
  ·rintro k y ρ hy ⟨ps,nb,y5,y6,rfl,hp⟩
   obtain ⟨rfl,hk⟩:=iV hy
   have hk:k < m:=by omega
   refine gP ?_
   rw [Int.zero_add]
   exact aX6 (by omega) hp fun ps nb y6 h=>⟨ps,nb,si k,y6,rfl,h⟩
  ·rintro ρ ⟨ps,nb,y5,y6,rfl,hp⟩
   rw [g9,bk1] at hp
   exact⟨_,rfl,trivial,q ps hp⟩
noncomputable def af0 (mx:Int):bL:=fun xs Q=>∃ (ns:List Int) (most:Int),xs = [.scr ns,.int most]/\ns.length<=63/\0<=most/\most<=mx/\∀ (n:Nat) ws ls,(n:Int)<=most->WL n ws ls->cM n ls->bM n ls->Q (bG ws ls)
noncomputable def af1 (R:List PV->(PV->Prop)->Prop):Prop:=∀ (ls:List (Int × Int)) (Q:PV->Prop),ls.length < 64->(∀ ls':List (Int × Int),ls'.Perm ls->(ls'.map two).Pairwise (fun u v=>HT.dA v u=false)->Q (.lst (bE ls')))->R [.lst (bE ls)] Q
theorem aX8:af1 sY:=fun ls Q few q=>by
 refine⟨ls.map two,by rw [lW],by rw [bh1]; exact few,fun y hy=>by obtain ⟨l,_,rfl⟩:=bi8.mp hy; exact List.cons_ne_nil _ _,fun Z pz so=>?_⟩
 obtain ⟨ls',rfl,pl⟩:=xW pz
 have:=q ls' pl so
 rw [lW] at this
 exact this
noncomputable def af2:aK:=(aB (gN 4 (g6 (a7 (a5 9) (a7 (a5 7) a9))))
   (aB (iG 5 (a5 9) (cG (b7 (a5 5) (a5 9)) (qC (.int 1))))
   (iG 5 (a5 7) (cG (b7 (a5 5) (a5 7)) (qC (.int 1))))))
noncomputable def af3:aK:=(bX (aZ (mW (cC (a5 8) (qC (.int 8))) (qC (.int 0)))) (aB (b6 9 (cC (fC (a5 8) (qC (.int 8))) (a5 7)))
   (aB (bX (aZ (eR (cC (aD eD (a7 (a5 0) (a7 (qC (.int 1)) a9))) (qC (.int 3))) (qC (.int 1)))) (b6 9 (aD mU (a7 (qC (.int 0)) (a7 (lM (lM (a5 7) (qC (.int 1))) (cC (fC (a5 8) (qC (.int 8))) (qC (.int 3)))) a9)))) cF)
   af2)) cF)
noncomputable def af4:aK:=(aB (b6 8 (aD iX (a7 (b7 (a5 6) (a5 7)) (a7 (a5 7) a9))))
  (aB (bX (lH (a5 3)) (b6 8 (fC (b7 (a5 6) (a5 7)) (qC (.int 64)))) cF)
  af3))
noncomputable def af5 (R:List PV->(PV->Prop)->Prop):aK:=(aB (oS 4 (b6 12 (fL (fJ (a5 4)) [none,none,some 10] (kD 0 1) eQ (g6 (a7 (aD mT (a7 (b7 (a5 2) (a5 0)) (a7 (b7 (a5 2) (a5 1)) a9))) (a7 (aD mU (a7 (b7 (a5 2) (a5 0)) (a7 (b7 (a5 2) (a5 1)) a9))) a9))))))
 (bN (g6 (a7 (aD jM (a7 (a5 11) a9)) (a7 (aD jM (a7 (aD R (a7 (a5 12) a9)) a9)) a9)))))
noncomputable def af6:aK:=(aB (b6 10 (aD tU (a7 (a5 0) (a7 (a5 2) (a7 (a5 3) a9)))))
 (aB (dB 11 (nJ (eO (a7 (qC (.int 0)) a9)) (a5 2)))
 (aB (dY (jJ (a5 2)) (cK 7)
  (iG 11 (b7 (a5 10) (a5 7)) (cC (b7 (a5 6) (a5 7)) (cG (b7 (a5 5) (a5 7)) (qC (.int 2))))))
 (af5 sY))))
noncomputable def af7:aK:=(aB (b6 2 (aD nR (a7 (a5 0) (a7 (a5 1) a9))))
 (aB (b6 3 (eR (cC (fC (aD eD (a7 (a5 0) (a7 (qC (.int 1)) a9))) (qC (.int 8))) (qC (.int 2))) (qC (.int 1))))
 (aB (dB 4 (eO a9))
 (aB (dB 5 (nJ (eO (a7 (qC (.int 0)) a9)) (a5 2)))
 (aB (dB 6 (wS (a5 0) (p5 (qC (.int 4))) (p5 (cG (qC (.int 4)) (a5 2)))))
 (aB (dY (oV (aD dJ (a7 (a5 6) a9)) (a5 2)) (cK 7)
  (gN 6 (aD iX (a7 (aD eD (a7 (a5 0) (a7 (qC (.int 1)) a9))) (a7 (a5 7) a9)))))
 (aB (dY (oV (qC (.int 1)) (a5 2)) (cK 7)
  af4)
 af6)))))))
section
variable {ns : List Int} {m k : Nat} {dg : Bool} {cs cts : List Int} {lks : List (Int × Int)} {s1 y8 y9 y10 y11 y12 : Option Slot} {E : gM}
theorem af8 {e nb:Int} (hc:m<=cs.length) (hk:k < m) (m40:m<=40) (T:TL k lks) (cl:cts.length=m) (nn:NN cts) (e0:0<=e) (e1:e < (k:Int)) {s0 s3 s6:Option Slot}
  (nx:∀ (lks':List (Int × Int)) (cts':List Int),TL (k+1) lks'->cts'.length=m->NN cts'->E.nx [s0,s1,si m,s3,some (.own (.lst (bE lks'))),some (.own (.lst (intz cts'))),s6,si k,si nb,si e,y10,y11,y12]) :
  af2 E [s0,s1,si m,s3,some (.own (.lst (bE lks))),some (.own (.lst (intz cts))),s6,si k,si nb,si e,y10,y11,y12]:=by
 have pl:(bE lks).length=lks.length:=bh1 _
 have fw:=T.few
 obtain ⟨j,rfl⟩:∃ j:Nat,e=j:=⟨e.toNat,by omega⟩
 refine⟨_,rfl,_,rfl,_,rfl,by show 2<=1000; decide,rfl,trivial,by rw [pl]; omega,?_⟩
 have a1:=fR (ws:=cts) (j:=j) (by omega)
 refine⟨_,rfl,_,rfl,_,_,_,rfl,rfl,a1,_,_,rfl,rfl,_,rfl,_,rfl,j,j,rfl,?_,trivial,?_⟩
 ·rw [bP]; unfold eW; rw [if_pos (by omega),if_pos (by omega)]; rfl
 have q1:(intz cts).set j (.int (cts.getD j 0+1))=intz (cts.set j (cts.getD j 0+1)):=(List.map_set ..).symm
 have n1:NN (cts.set j (cts.getD j 0+1)):=nn.set (by have:=nS nn j; omega) _
 dsimp only
 rw [q1]
 have l1:(cts.set j (cts.getD j 0+1)).length=m:=by rw [bl1]; exact cl
 generalize cts.set j (cts.getD j 0+1)=ct2 at n1 l1
 have a2:=fR (ws:=ct2) (j:=k) (by omega)
 refine⟨_,rfl,_,rfl,_,_,_,rfl,rfl,a2,_,_,rfl,rfl,_,rfl,_,rfl,k,k,rfl,?_,trivial,?_⟩
 ·rw [bP]; unfold eW; rw [if_pos (by omega),if_pos (by omega)]; rfl
 have q2:(intz ct2).set k (.int (ct2.getD k 0+1))=intz (ct2.set k (ct2.getD k 0+1)):=(List.map_set ..).symm
 have n2:NN (ct2.set k (ct2.getD k 0+1)):=n1.set (by have:=nS n1 k; omega) _
 dsimp only
 rw [q2]
 have:=nx (lks ++ [((j:Int),(k:Int))]) (ct2.set k (ct2.getD k 0+1)) (T.app e0 e1) (by rw [bl1]; exact l1) n2
 unfold bE at this ⊢
 rw [bk4] at this
 exact this
theorem af9 {nb:Int} (hc:m<=cs.length) (k1:1<=k) (hk:k < m) (m40:m<=40) (T:TL k lks) (cl:cts.length=m) (nn:NN cts) {s3 s6:Option Slot}
  (nx:∀ (y9:Option Slot) (lks':List (Int × Int)) (cts':List Int),TL (k+1) lks'->cts'.length=m->NN cts'->E.nx [some (.sh true (.scr ns)),s1,si m,s3,some (.own (.lst (bE lks'))),some (.own (.lst (intz cts'))),s6,si k,si nb,y9,y10,y11,y12]) :
  af3 E [some (.sh true (.scr ns)),s1,si m,s3,some (.own (.lst (bE lks))),some (.own (.lst (intz cts))),s6,si k,si nb,y9,y10,y11,y12]:=by
 refine⟨_,rfl,_,_,rfl,rfl,(by show (0:Int) < 8; decide),_,_,rfl,rfl,_,rfl,nP ?_ (nx y9 lks cts T.same cl nn)⟩
 have e0:=bo6 (nb / 8) (show (k:Int) ≠ 0 by omega)
 have e1:=br2 (nb / 8) (show (0:Int) < (k:Int) by omega)
 refine⟨_,rfl,_,_,rfl,rfl,⟨by decide,by decide⟩,_,rfl,_,_,rfl,rfl,(by show (0:Int) < (k:Int); omega),trivial,?_⟩
 refine⟨_,rfl,_,ns,1,rfl,.inl rfl,by decide,_,_,rfl,rfl,(by show (0:Int) < 3; decide),.inl ⟨_,_,rfl,rfl,_,rfl,nP ?_ (af8 hc hk m40 T cl nn e0 e1 fun l c a b d=>nx _ l c a b d)⟩⟩
 refine⟨_,rfl,_,_,rfl,rfl,_,rfl,_,_,rfl,rfl,⟨by decide,by decide⟩,_,_,rfl,rfl,(by show (0:Int) < 3; decide),_,_,rfl,rfl,_,_,rfl,trivial,?_⟩
 have h0:=bo6 (nb / 8) (show (3:Int) ≠ 0 by decide)
 dsimp only
 generalize hz:(if (k:Int) - 1 - nb / 8 % 3 > 0 then (k:Int) - 1 - nb / 8 % 3 else 0)=z
 have z0:0<=z:=by rw [<- hz]; split <;> omega
 have z1:z < (k:Int):=by rw [<- hz]; split <;> omega
 exact af8 hc hk m40 T cl nn z0 z1 fun l c a b d=>nx _ l c a b d
theorem aX9 (hc:m<=cs.length) (k1:1<=k) (hk:k < m) (m40:m<=40) (T:TL k lks) (cl:cts.length=m) (nn:NN cts)
  (nx:∀ (y8 y9:Option Slot) (lks':List (Int × Int)) (cts':List Int),TL (k+1) lks'->cts'.length=m->NN cts'->E.nx [some (.sh true (.scr ns)),s1,si m,some (.sh true (.bl dg)),some (.own (.lst (bE lks'))),some (.own (.lst (intz cts'))),some (.own (.lst (intz cs))),si k,y8,y9,y10,y11,y12]) :
  af4 E [some (.sh true (.scr ns)),s1,si m,some (.sh true (.bl dg)),some (.own (.lst (bE lks))),some (.own (.lst (intz cts))),some (.own (.lst (intz cs))),si k,y8,y9,y10,y11,y12]:=by
 have a0:=fR (ws:=cs) (j:=k) (by omega)
 refine⟨_,rfl,_,rfl,_,_,_,rfl,rfl,a0,_,rfl,_,_,rfl,by omega,by omega,fun z _=>⟨trivial,?_⟩⟩
 refine⟨_,rfl,_,rfl,?_⟩
 cases dg with
 | false=>exact bD (af9 hc k1 hk m40 T cl nn fun y9 l c a b d=>nx _ y9 l c a b d)
 | true=>exact bH ⟨_,rfl,_,rfl,_,_,_,rfl,rfl,a0,_,_,rfl,rfl,⟨by decide,by decide⟩,trivial,af9 hc k1 hk m40 T cl nn fun y9 l c a b d=>nx _ y9 l c a b d⟩
theorem ag0 {m:Nat}{ps:List Int} (hp:ps.Perm (rng m)):Pl m fun i=>ps.getD i.toNat 0:=by
 have pl:=hp.length_eq
 rw [dO] at pl
 have nd:ps.Nodup:=hp.nodup_iff.mpr (tQ (fF m))
 have gt:∀ i:Int,0<=i->i < (m:Int)->ps[i.toNat]? = some (ps.getD i.toNat 0):=fun i h0 h1=>by
  rw [bh7,bg7 (by omega)]; rfl
 refine⟨fun i h0 h1=>bR.mp (hp.mem_iff.mp (bg9 (gt i h0 h1))),fun i j h0 h1 g0 g1 e=>?_,fun x hx=>?_⟩
 ·have:=(List.getElem?_inj (bh3.mp (gt i h0 h1)).1 nd).mp ((gt i h0 h1).trans (by rw [gt j g0 g1]; exact congrArg some e))
  omega
 ·obtain ⟨i,hi⟩:=bq5.mp (hp.mem_iff.mpr hx)
  have il:=(bh3.mp hi).1
  refine⟨i,by omega,by omega,?_⟩
  show ps.getD (i:Int).toNat 0=x
  rw [bk1,bh7,hi]; rfl
theorem aY0 {R:List PV->(PV->Prop)->Prop} (hR:af1 R) {ps ws:List Int}{s0 s3 s5 s6 y7:Option Slot}{Q:PV->Prop} (m40:m<=40) (T:TL m lks) (hp:ps.Perm (rng m)) (wl:ws.length=m) (wn:NN ws) (q:∀ ls,WL m ws ls->cM m ls->bM m ls->Q (bG ws ls)) :
  af5 R { nx:=fun _=>Q .non,rt:=Q } [s0,s1,si m,s3,some (.own (.lst (bE lks))),s5,s6,y7,y8,y9,some (.sh true (.lst (intz ps))),some (.own (.lst (intz ws))),y12]:=by
 have P:=ag0 hp
 have pl:=hp.length_eq
 rw [dO] at pl
 have fw:=T.few
 have pgl:(bE lks).length=lks.length:=bh1 _
 refine⟨_,rfl,_,rfl,bE lks,rfl,(fun z=>by cases z),by rw [pgl]; omega,fun i acc=>acc=bE ((lks.take i).map (fG fun i=>ps.getD i.toNat 0)),rfl,?_,?_⟩
 ·rintro i y acc hy rfl
  unfold bE at hy
  rw [bh9] at hy
  cases hz:lks[i]? with
  | none=>rw [hz] at hy; cases hy
  | some l=>
   rw [hz] at hy
   cases hy
   have h:=T.inn l (bg9 hz)
   obtain ⟨a,ea⟩:∃ a:Nat,l.1=a:=⟨l.1.toNat,by omega⟩
   obtain ⟨b,eb⟩:∃ b:Nat,l.2=b:=⟨l.2.toNat,by omega⟩
   have a1:L2.atI (intz ps) l.1=some (.int (ps.getD l.1.toNat 0)):=by rw [ea,bk1]; exact fR (by omega)
   have a2:L2.atI (intz ps) l.2=some (.int (ps.getD l.2.toNat 0)):=by rw [eb,bk1]; exact fR (by omega)
   refine⟨_,_,rfl,?_⟩
   refine⟨_,rfl,_,rfl,_,_,_,rfl,rfl,a1,_,rfl,_,rfl,_,_,_,rfl,rfl,a2,_,_,rfl,_,rfl,_,rfl,_,_,_,rfl,rfl,a1,_,rfl,_,rfl,_,_,_,rfl,rfl,a2,_,_,rfl,by show 2<=1000; decide,rfl,trivial,?_⟩
   dsimp only
   rw [bo2,hz,bk4]
   unfold bE
   rw [bk4]
   have e1:(if ps.getD l.2.toNat 0 < ps.getD l.1.toNat 0 then ps.getD l.2.toNat 0 else ps.getD l.1.toNat 0)=min (ps.getD l.1.toNat 0) (ps.getD l.2.toNat 0):=by split <;> omega
   have e2:(if ps.getD l.2.toNat 0 > ps.getD l.1.toNat 0 then ps.getD l.2.toNat 0 else ps.getD l.1.toNat 0)=max (ps.getD l.1.toNat 0) (ps.getD l.2.toNat 0):=by split <;> omega
   show _ ++ [PV.tup [.int (if ps.getD l.2.toNat 0 < ps.getD l.1.toNat 0 then ps.getD l.2.toNat 0 else ps.getD l.1.toNat 0),.int (if ps.getD l.2.toNat 0 > ps.getD l.1.toNat 0 then ps.getD l.2.toNat 0 else ps.getD l.1.toNat 0)]]=_
   rw [e1,e2]; rfl
 ·rintro acc rfl
  rw [pgl,bl5 (bh0 _)]
  have inn:=aX2 P T
  have nd:=aX3 P T
  have ml:(lks.map (fG fun i=>ps.getD i.toNat 0)).length=lks.length:=bh1 _
  have fp:∀ ls:List (Int × Int),flats (bE ls)=true:=kL
  refine⟨trivial,?_⟩
  refine⟨_,rfl,⟨_,_,rfl,rfl,dX _,?_⟩,(fun ns e=>by cases e)⟩
  refine⟨_,rfl,?_⟩
  refine hR (lks.map (fG fun i=>ps.getD i.toNat 0)) _ (by rw [ml]; omega) (fun ls' pm so=>?_)
  have W:=WL.perm (n:=m) (ws:=ws) (by omega) inn (by rw [ml]; omega) nd wn pm so
  have lk:cM m ls':=⟨fun l hl=>W.inn l hl,W.most,W.ord⟩
  refine⟨⟨_,_,rfl,rfl,fp _,by show 2<=1000; decide,?_,trivial,?_⟩,(fun ns e=>by cases e)⟩
  ·show (flats (intz ws) && (flats (bE ls') && true))=true
   rw [dX,fp]; rfl
  ·exact q ls' W lk (aX5 lk (aX4 P T pm lk.fit))
theorem aY1 {s7:Option Slot}{Q:PV->Prop} (hn:ns.length<=63) (hc:m<=cs.length) (m40:m<=40) (T:TL m lks) (cl:cts.length=m) (nn:NN cts) (q:∀ ws ls,WL m ws ls->cM m ls->bM m ls->Q (bG ws ls)) :
  af6 { nx:=fun _=>Q .non,rt:=Q } [some (.sh true (.scr ns)),s1,si m,some (.sh true (.bl dg)),some (.own (.lst (bE lks))),some (.own (.lst (intz cts))),some (.own (.lst (intz cs))),s7,y8,y9,none,none,none]:=by
 refine⟨_,rfl,_,rfl,_,rfl,ns,m,dg,rfl,hn,m40,fun ps hp=>⟨trivial,?_⟩⟩
 have pl:=hp.length_eq
 rw [dO] at pl
 refine⟨by show 1<=1000; decide,rfl,_,rfl,_,_,rfl,rfl,rfl,by omega,by omega,by show 1<=10; decide,rfl,?_,?_⟩
 ·show flats (List.replicate (m:Int).toNat [PV.int 0]).flatten=true
  rw [nO]; exact dX _
 show (aB _ _) _ [_,_,_,_,_,_,_,_,_,_,_,some (Slot.own (.lst (List.replicate (m:Int).toNat [PV.int 0]).flatten)),_]
 rw [nO,bk1]
 refine⟨_,rfl,m,rfl,by omega,by omega,fun i ρ=>∃ (ws:List Int) (y7:Option Slot),ρ = [some (.sh true (.scr ns)),s1,si m,some (.sh true (.bl dg)),some (.own (.lst (bE lks))),some (.own (.lst (intz cts))),some (.own (.lst (intz cs))),y7,y8,y9,some (.sh true (.lst (intz ps))),some (.own (.lst (intz ws))),none]/\ws.length=m/\NN ws,⟨_,s7,rfl,bq4,fun z hz=>by rw [List.eq_of_mem_replicate hz]; exact bq3 0⟩,?_,?_⟩
 ·rintro i y ρ hy ⟨ws,y7,rfl,wl,wn⟩
  obtain ⟨rfl,hi⟩:=iV hy
  have hi:i < m:=by omega
  refine gP ?_
  rw [Int.zero_add]
  have a1:=fR (ws:=cs) (j:=i) (by omega)
  have a2:=fR (ws:=cts) (j:=i) (by omega)
  have a3:=fR (ws:=ps) (j:=i) (by omega)
  have p1:=nS nn i
  have pr:=(ag0 hp).inn i (by omega) (by omega)
  rw [bk1] at pr
  obtain ⟨z,ez⟩:∃ z:Nat,ps.getD i 0=z:=⟨(ps.getD i 0).toNat,by omega⟩
  refine⟨_,rfl,_,rfl,_,_,_,rfl,rfl,a1,_,rfl,_,rfl,_,_,_,rfl,rfl,a2,_,_,rfl,rfl,_,_,rfl,rfl,by show 0 < cts.getD i 0+2; omega,_,rfl,_,rfl,_,rfl,_,_,_,rfl,rfl,a3,_,z,rfl,?_,trivial,ws.set z (cs.getD i 0 % (cts.getD i 0+2)),si i,?_,by rw [bl1]; exact wl,wn.set (bo6 _ (by omega)) _⟩
  ·rw [bP,ez]; unfold eW; rw [if_pos (by omega),if_pos (by omega)]; rfl
  ·show _ = [_,_,_,_,_,_,_,_,_,_,_,some (Slot.own (.lst (intz (ws.set z (cs.getD i 0 % (cts.getD i 0+2)))))),_]
   have:(intz ws).set z (.int (cs.getD i 0 % (cts.getD i 0+2)))=intz (ws.set z (cs.getD i 0 % (cts.getD i 0+2))):=(List.map_set ..).symm
   rw [<- this]; rfl
 ·rintro ρ ⟨ws,y7,rfl,wl,wn⟩
  exact aY0 aX8 m40 T hp wl wn fun ls a b c=>q ws ls a b c
end
theorem aY2 {mx:Int} (mx40:mx<=40):cR af7 ["script","most","many","digits","links","counts","cells","k","number","elder","places","wants","pairs"] (af0 mx):=by
 rintro xs Q ⟨ns,most,rfl,hl,h0,h1,q⟩
 refine⟨_,rfl,_,rfl,ns,most,rfl,h0,fun z z0 z1=>⟨trivial,?_⟩⟩
 obtain ⟨m,rfl⟩:∃ m:Nat,z=m:=⟨z.toNat,by omega⟩
 refine⟨_,rfl,_,ns,1,rfl,.inl rfl,by decide,_,_,rfl,rfl,⟨by decide,by decide⟩,_,_,rfl,rfl,(by show (0:Int) < 2; decide),.inl ⟨_,_,rfl,rfl,trivial,?_⟩⟩
 generalize (if false=true then !decide (ns.getD (1:Int).toNat 0 / 8 % 2=1) else decide (ns.getD (1:Int).toNat 0 / 8 % 2=1))=dg
 refine⟨by decide,rfl,rfl,rfl,?_⟩
 refine⟨by show 1<=1000; decide,rfl,_,rfl,_,_,rfl,rfl,rfl,by omega,by omega,by show 1<=10; decide,rfl,?_,?_⟩
 ·show flats (List.replicate (m:Int).toNat [PV.int 0]).flatten=true
  rw [nO]; exact dX _
 show (aB _ _) _ [_,_,_,_,_,some (Slot.own (.lst (List.replicate (m:Int).toNat [PV.int 0]).flatten)),_,_,_,_,_,_,_]
 rw [nO,bk1]
 obtain ⟨zs,ez,zl⟩:=ac6 ns (some 4) (some (4+(m:Int)))
 refine⟨_,rfl,_,rfl,_,rfl,_,_,rfl,rfl,_,rfl,_,rfl,dX _,rfl,?_,?_⟩
 ·show flats (jL (intz ns) (some 4) (some (4+(m:Int))))=true
  rw [ez]; exact dX _
 show (aB _ _) _ [_,_,_,_,_,_,some (Slot.own (.lst (jL (intz ns) (some 4) (some (4+(m:Int)))))),_,_,_,_,_,_]
 rw [ez]
 refine⟨_,rfl,_,_,rfl,rfl,_,rfl,(zs.length:Int),(m:Int),by rw [bP],rfl,⟨by omega,by omega,by omega,by omega⟩,fun i ρ=>∃ (cs:List Int) (y7:Option Slot),ρ = [some (.sh true (.scr ns)),si most,si m,some (.sh true (.bl dg)),some (.own (.lst (bE []))),some (.own (.lst (intz (List.replicate m 0)))),some (.own (.lst (intz cs))),y7,none,none,none,none,none]/\cs.length=zs.length+i,⟨zs,none,rfl,rfl⟩,?_,?_⟩
 ·rintro i y ρ hy ⟨cs,y7,rfl,cl⟩
  obtain ⟨rfl,hi⟩:=iV hy
  refine gP ?_
  refine⟨_,rfl,_,rfl,_,ns,1,rfl,.inl rfl,by decide,_,rfl,_,_,rfl,by omega,by omega,fun z _=>⟨trivial,by rw [bP]; omega,cs ++ [z],_,by rw [i6]; rfl,by rw [bi4,cl]; rfl⟩⟩
 rintro ρ ⟨cs,y7,rfl,cl⟩
 rw [g9] at cl
 have hc:m<=cs.length:=by omega
 refine⟨_,rfl,(1:Int),(m:Int),rfl,rfl,⟨by omega,by omega,by omega,by omega⟩,fun i ρ=>∃ (lks:List (Int × Int)) (cts:List Int) (y7 y8 y9:Option Slot),ρ = [some (.sh true (.scr ns)),si most,si m,some (.sh true (.bl dg)),some (.own (.lst (bE lks))),some (.own (.lst (intz cts))),some (.own (.lst (intz cs))),y7,y8,y9,none,none,none]/\TL (i+1) lks/\cts.length=m/\NN cts,⟨[],_,y7,none,none,rfl,⟨(fun l hl=>by cases hl),bq6,bk7 _⟩,bq4,fun z hz=>by rw [List.eq_of_mem_replicate hz]; exact bq3 0⟩,?_,?_⟩
 ·rintro i y ρ hy ⟨lks,cts,y7,y8,y9,rfl,T,cl,nn⟩
  obtain ⟨rfl,hi⟩:=iV hy
  refine gP ?_
  rw [show (1:Int)+(i:Int)=((i+1:Nat):Int) by omega]
  exact aX9 hc (by omega) (by omega) (by omega) T cl nn fun y8 y9 l c a b d=>⟨l,c,si ((i+1:Nat):Int),y8,y9,rfl,a,b,d⟩
 ·rintro ρ ⟨lks,cts,y7,y8,y9,rfl,T,cl,nn⟩
  rw [g9] at T
  have T':TL m lks:=by
   by_cases m0:m=0
   ·subst m0
    have e:lks = []:=by
     cases lks with
     | nil=>rfl
     | cons l r=>have:=T.inn l bh2; omega
    subst e
    exact⟨(fun l hl=>by cases hl),bq6,bk7 _⟩
   ·rwa [show ((m:Int) - 1).toNat+1=m by omega] at T
  exact aY1 hl hc (by omega) T' cl nn fun ws ls a b c=>q m ws ls z1 a b c
noncomputable abbrev zG:=List (Int × List Int)
noncomputable def ksB (W:zG):List Int:=W.map (·.1)
section
variable {ws : List Int} {n : Nat} {ls : List (Int × Int)} {P : eG} {W T : zG} {D B : List Int} {h x y c : Int} {e : Option Int}
structure oM (P:eG) (W:zG) (D:List Int) (x:Int) (B:List Int):Prop where
 self:x ∈ B
 nd:B.Nodup
 up:∀ y ∈ B,y=x ∨ (y ∈ ksB W/\∃ e,(y,some e) ∈ P/\e ∈ B)
 dn:∀ y ∈ B,∀ c,(c,some y) ∈ P->c ∈ ksB W->c ∈ B
 inn:∀ y ∈ B,y ∈ D
end
noncomputable abbrev tV:bL:=af0 40
noncomputable abbrev ag1:aK:=af7
theorem aY3:cR ag1 ["script","most","many","digits","links","counts","cells","k","number","elder","places","wants","pairs"] tV:=aY2 (by decide)
noncomputable abbrev Led:=List (Int × Int)
theorem ag2 {ns:List Int}{h:Int} (h0:0<=h) (h1:h < (ns.length:Int)):L2.atI (intz ns) h=some (.int (ns.getD h.toNat 0)):=by
 obtain ⟨j,rfl⟩:∃ j:Nat,h=j:=⟨h.toNat,by omega⟩
 rw [bk1]; exact fR (by omega)
section
variable {n : Nat} {ls : List (Int × Int)} {P P' : eG}
theorem Rt.pair (R:Rt n ls P) {h:Int} (hh:h ∈ rng n):∃ e,(h,e) ∈ P:=by
 obtain ⟨⟨h',e⟩,hp,rfl⟩:=bi8.mp ((R.mem h).mpr hh)
 exact⟨e,hp⟩
theorem Rt.inr (R:Rt n ls P) {h:Int}{e:Option Int} (hp:(h,e) ∈ P):h ∈ rng n:=(R.mem h).mp (bi8.mpr ⟨_,hp,rfl⟩)
theorem ag3 (R:Rt n ls P) (R':Rt n ls P'):∀ (i:Nat) (h:Int) (e':Option Int),P'[i]? = some (h,e')->(h,e') ∈ P:=by
 intro i
 induction i using Nat.strongRecOn with
 | ind i ih=>
  intro h e' hi
  cases e' with
  | none=>exact (R.root h).mpr ((R'.root h).mp (bg9 hi))
  | some g=>
   obtain ⟨j,q,ji,hj,gn⟩:=R'.par i h g hi
   obtain ⟨e,he⟩:=R.pair (R'.inr (bg9 hi))
   rcases R.done h e he g gn with z | z
   ·rw [<- z]; exact he
   ·have:=ae1 R.nd (ih j ji g q hj) z
    subst this
    obtain ⟨k,q2,kj,hk,_⟩:=R'.par j g h hj
    have:=(m5 R'.nd hk hi).1
    omega
theorem aY4 (R:Rt n ls P) (R':Rt n ls P') {h:Int}{e:Option Int}:(h,e) ∈ P ↔ (h,e) ∈ P':=by
 constructor
 ·intro z; obtain ⟨i,hi⟩:=gF z; exact ag3 R' R i h e hi
 ·intro z; obtain ⟨i,hi⟩:=gF z; exact ag3 R R' i h e hi
noncomputable def kO:Int × Option Int->Option (Int × Int)
 | (_,none)=>none
 | (h,some g)=>some (min h g,max h g)
theorem zH:∀ P:eG,P.length=(P.filterMap kO).length+(P.filter fun p=>p.2.isNone).length
 | []=>rfl
 | (h,none) :: P=>by
  have ih:=zH P
  rw [List.filterMap_cons_none (f:=kO) (a:=(h,none)) rfl,bu8 rfl,bj5,bj5]; omega
 | (h,some g) :: P=>by
  have ih:=zH P
  rw [List.filterMap_cons_some (f:=kO) (a:=(h,some g)) (b:=(min h g,max h g)) rfl,bs6 (by simp),bj5,bj5]; omega
theorem ag4 {P:eG}{l:Int × Int}:l ∈ P.filterMap kO ↔ ∃ h g,(h,some g) ∈ P/\l=(min h g,max h g):=by
 rw [bv5]
 constructor
 ·rintro ⟨⟨h,e⟩,hp,z⟩
  cases e with
  | none=>cases z
  | some g=>exact⟨h,g,hp,(bj9 z).symm⟩
 ·rintro ⟨h,g,hp,rfl⟩
  exact⟨_,hp,rfl⟩
theorem Rt.of_tree (w:bM n ls) (f:gS ls) (nd:(P.map (·.1)).Nodup) (mem:∀ h,h ∈ P.map (·.1) ↔ h ∈ rng n) (par:∀ (i:Nat) (h e:Int),P[i]? = some (h,some e)->∃ (j:Nat) (q:Option Int),j < i/\P[j]? = some (e,q)/\e ∈ aR ls h)
  (root:∀ h,(h,none) ∈ P->h ∈ aQ ls (rng n)):Rt n ls P:=by
 have hS:=fF n
 have inr:∀ {h e},(h,e) ∈ P->h ∈ rng n:=fun {h e} hp=>(mem h).mp (bi8.mpr ⟨_,hp,rfl⟩)
 have conn:∀ (i:Nat) (h:Int) (e:Option Int),P[i]? = some (h,e)->∃ r,(r,none) ∈ P/\h ∈ comp ls (rng n) r:=by
  intro i
  induction i using Nat.strongRecOn with
  | ind i ih=>
   intro h e hi
   cases e with
   | none=>exact⟨h,bg9 hi,dS (inr (bg9 hi))⟩
   | some g=>
    obtain ⟨j,q,ji,hj,gn⟩:=par i h g hi
    obtain ⟨r,hr,hc⟩:=ih j ji g q hj
    exact⟨r,hr,gR g hc h (jG gn) (inr (bg9 hi))⟩
 have rt:∀ h,(h,none) ∈ P ↔ h ∈ aQ ls (rng n):=fun h=>⟨root h,fun hh=>by
  obtain ⟨⟨h',e⟩,hp,rfl⟩:=bi8.mp ((mem h).mpr (dH.mp hh).1)
  obtain ⟨i,hi⟩:=gF hp
  obtain ⟨r,hr,hc⟩:=conn i _ _ hi
  have:=pX hS hh (root r hr) (z:=h') (dS (dH.mp hh).1) hc
  dsimp only at this ⊢
  rw [this]; exact hr⟩
 have order:∀ h g,(h,some g) ∈ P->(g,some h) ∈ P->False:=fun h g a b=>by
  obtain ⟨i,hi⟩:=gF a
  obtain ⟨j,hj⟩:=gF b
  obtain ⟨i',q,l1,hi',_⟩:=par i h g hi
  obtain ⟨j',q',l2,hj',_⟩:=par j g h hj
  have e1:=(m5 nd hi' hj).1
  have e2:=(m5 nd hj' hi).1
  omega
 have tsub:∀ l ∈ P.filterMap kO,l ∈ ls:=fun l hl=>by
  obtain ⟨h,g,hp,rfl⟩:=ag4.mp hl
  obtain ⟨i,hi⟩:=gF hp
  obtain ⟨_,_,_,_,gn⟩:=par i h g hi
  rcases L2.cJ.mp gn with z | z
  ·have:=f.lt _ z
   dsimp only at this
   rw [show min h g=h by omega,show max h g=g by omega]; exact z
  ·have:=f.lt _ z
   dsimp only at this
   rw [show min h g=g by omega,show max h g=h by omega]; exact z
 have pnd:P.Nodup:=(bp4.mp nd).imp fun z e=>z (by rw [e])
 have tnd:(P.filterMap kO).Nodup:=by
  refine List.Pairwise.filterMap kO (R:=fun p q:Int × Option Int=>p ∈ P/\q ∈ P/\p.1 ≠ q.1) (fun p q hpq l hl l' hl' e=>?_) ?_
  ·obtain ⟨hp,hq,ne⟩:=hpq
   obtain ⟨h,a⟩:=p
   obtain ⟨g,b⟩:=q
   cases a with
   | none=>cases hl
   | some a=>
    cases b with
    | none=>cases hl'
    | some b=>
     cases hl
     cases hl'
     have e1:=(Prod.mk.inj e).1
     have e2:=(Prod.mk.inj e).2
     dsimp only at ne
     have x1:a=g:=by omega
     have x2:b=h:=by omega
     subst x1 x2
     exact order _ _ hp hq
  ·exact (bp4.mp nd).imp_of_mem fun {a b} ha hb z=>⟨ha,hb,z⟩
 have hl:(P.filter fun p=>p.2.isNone).length=(aQ ls (rng n)).length:=by
  have a:((P.filter fun p=>p.2.isNone).map (·.1)).Nodup:=(List.Pairwise.sublist (List.filter_sublist.map _) nd)
  have m:∀ h,h ∈ (P.filter fun p=>p.2.isNone).map (·.1) ↔ h ∈ aQ ls (rng n):=fun h=>by
   rw [<- rt h,bi8]
   constructor
   ·rintro ⟨⟨h',e⟩,hp,rfl⟩
    obtain ⟨h1,h2⟩:=bj0.mp hp
    cases e with
    | none=>exact h1
    | some _=>cases h2
   ·intro z; exact⟨_,bj0.mpr ⟨z,rfl⟩,rfl⟩
  have l1:=fS a fun x hx=>(m x).mp hx
  have l2:=fS (tP (ls:=ls) hS) fun x hx=>(m x).mpr hx
  rw [bh1] at l1 l2
  omega
 have pl:P.length=n:=by
  have l1:=fS nd (m:=rng n) fun x hx=>(mem x).mp hx
  have l2:=fS (tQ hS) fun x hx=>(mem x).mpr hx
  rw [bh1,dO] at l1 l2
  omega
 have all:∀ l ∈ ls,l ∈ P.filterMap kO:=fun l hl'=>bp7 fun no=>by
  have l1:=(bo4.mpr ⟨no,tnd⟩).length_le_of_subset (l₂:=ls) fun x hx=>(bi0.mp hx).elim (fun z=>z ▸ hl') (tsub x)
  have:=zH P
  unfold bM at w
  rw [bj5] at l1
  omega
 refine⟨nd,mem,par,fun h e hp x hx=>?_,rt⟩
 have key:∀ l,l ∈ ls->(l=(h,x) ∨ l=(x,h))->e=some x ∨ (x,some h) ∈ P:=fun l hl' hlx=>by
  obtain ⟨a,b,hab,e1⟩:=ag4.mp (all l hl')
  have lt:=f.lt l hl'
  have c:(a=h/\b=x) ∨ (a=x/\b=h):=by
   rcases hlx with z | z <;> rw [z] at e1 lt <;> (have e2:=(Prod.mk.inj e1).1; have e3:=(Prod.mk.inj e1).2; dsimp only at lt; omega)
  rcases c with ⟨rfl,rfl⟩ | ⟨rfl,rfl⟩
  ·exact .inl (ae1 nd hp hab)
  ·exact .inr hab
 rcases L2.cJ.mp hx with z | z
 ·exact key _ z (.inl rfl)
 ·exact key _ z (.inr rfl)
end
noncomputable def bC (els:List (Option Int)):List PV:=els.map gO
noncomputable def cZ (els:List (Option Int)) (h:Int):Option Int:=els.getD h.toNat none
structure EI (n:Nat) (ls:List (Int × Int)) (O:List Int) (els:List (Option Int)):Prop where
 nd:O.Nodup
 inn:∀ x ∈ O,x ∈ rng n
 len:els.length=n
 par:∀ (i:Nat) (h g:Int),O[i]? = some h->cZ els h=some g->∃ j:Nat,j < i/\O[j]? = some g/\g ∈ aR ls h
 root:∀ h ∈ O,cZ els h=none->h ∈ aQ ls (rng n)
 out:∀ h ∈ rng n,h ∉ O->cZ els h=none
section
variable {n : Nat} {ls : List (Int × Int)} {O : List Int} {els : List (Option Int)} {x g : Int}
theorem ag5 (h0:0<=x) {y:Int} (y0:0<=y) (ne:y ≠ x) {v:Option Int}:cZ (els.set x.toNat v) y=cZ els y:=by
 unfold cZ
 rw [bh7,bh7,bk2 (by omega)]
theorem ag6 (h0:0<=x) (h1:x < (els.length:Int)) {v:Option Int}:cZ (els.set x.toNat v) x=v:=by
 unfold cZ
 rw [bh7,bo0 (by omega)]; rfl
theorem EI.put (e:EI n ls O els) (hx:x ∉ O) (xr:x ∈ rng n) (hg:g ∈ O) (gn:g ∈ aR ls x):EI n ls (O ++ [x]) (els.set x.toNat (some g)):=by
 have xm:=bR.mp xr
 have ps:∀ y ∈ rng n,y ≠ x->cZ (els.set x.toNat (some g)) y=cZ els y:=fun y hy ne=>ag5 xm.1 (bR.mp hy).1 ne
 have self:cZ (els.set x.toNat (some g)) x=some g:=ag6 xm.1 (by rw [e.len]; exact xm.2)
 refine⟨bp5.mpr ⟨e.nd,bj8 _ _,fun a ha b hb z=>hx (by rw [<- bg6.mp hb,<- z]; exact ha)⟩,fun y hy=>?_,by rw [bl1]; exact e.len,fun i h g' hi hel=>?_,fun h hh hel=>?_,fun h hr hh=>?_⟩
 ·rcases bh6.mp hy with z | z
  ·exact e.inn y z
  ·rw [bg6.mp z]; exact xr
 ·by_cases il:i < O.length
  ·rw [bj7 il] at hi
   have hm:=bg9 hi
   rw [ps h (e.inn h hm) fun z=>hx (z ▸ hm)] at hel
   obtain ⟨j,ji,hj,gn⟩:=e.par i h g' hi hel
   exact⟨j,ji,by rw [bj7 (by omega)]; exact hj,gn⟩
  ·rw [bo9 (by omega)] at hi
   have:h=x:=bg6.mp (bg9 hi)
   subst this
   rw [self] at hel
   cases hel
   obtain ⟨j,hj⟩:=bq5.mp hg
   have jl:=(bh3.mp hj).1
   exact⟨j,by omega,by rw [bj7 jl]; exact hj,gn⟩
 ·rcases bh6.mp hh with z | z
  ·rw [ps h (e.inn h z) fun q=>hx (q ▸ z)] at hel
   exact e.root h z hel
  ·rw [bg6.mp z,self] at hel; cases hel
 ·rw [ps h hr fun z=>hh (by rw [z]; exact bi9 _ (bu7 _))]
  exact e.out h hr fun z=>hh (bj3 _ z)
theorem EI.rt (e:EI n ls O els) (hx:x ∉ O) (xh:x ∈ aQ ls (rng n)):EI n ls (O ++ [x]) els:=by
 have xr:=(dH.mp xh).1
 refine⟨bp5.mpr ⟨e.nd,bj8 _ _,fun a ha b hb z=>hx (by rw [<- bg6.mp hb,<- z]; exact ha)⟩,fun y hy=>?_,e.len,fun i h g' hi hel=>?_,fun h hh hel=>?_,fun h hr hh=>e.out h hr fun z=>hh (bj3 _ z)⟩
 ·rcases bh6.mp hy with z | z
  ·exact e.inn y z
  ·rw [bg6.mp z]; exact xr
 ·by_cases il:i < O.length
  ·rw [bj7 il] at hi
   obtain ⟨j,ji,hj,gn⟩:=e.par i h g' hi hel
   exact⟨j,ji,by rw [bj7 (by omega)]; exact hj,gn⟩
  ·rw [bo9 (by omega)] at hi
   have:h=x:=bg6.mp (bg9 hi)
   subst this
   rw [e.out h xr hx] at hel; cases hel
 ·rcases bh6.mp hh with z | z
  ·exact e.root h z hel
  ·rw [bg6.mp z]; exact xh
theorem EI.le (e:EI n ls O els):O.length<=n:=by
 have:=fS e.nd (m:=rng n) e.inn
 rwa [dO] at this
theorem EI.head (e:EI n ls O els) (sh:cY ls (rng n) O) (hx:x ∉ O) (xr:x ∈ rng n) (low:∀ y ∈ rng n,y < x->y ∈ O):x ∈ aQ ls (rng n):=by
 refine nV (fF n) xr (U:=(rng n).filter fun y=>!decide (y ∈ O)) (fun a ha b hb br=>?_) (bj0.mpr ⟨xr,by rw [bh5 hx]; rfl⟩) fun y hy yr=>?_
 ·obtain ⟨a1,a2⟩:=bj0.mp ha
  refine bj0.mpr ⟨br,?_⟩
  have:b ∉ O:=fun z=>by
   have:=sh b z a (jG hb) a1
   rw [bg8 this] at a2; cases a2
  rw [bh5 this]; rfl
 ·have y2:=(bj0.mp hy).2
  refine bp7 fun no=>?_
  rw [bg8 (low y yr (by omega))] at y2; cases y2
noncomputable def iO (O:List Int) (els:List (Option Int)):eG:=O.map fun h=>(h,cZ els h)
theorem EI.all (e:EI n ls O els) (w:bM n ls) (f:gS ls) (all:∀ y ∈ rng n,y ∈ O):Rt n ls (iO O els):=by
 have m1:(iO O els).map (·.1)=O:=by unfold iO; rw [bq7]; exact List.map_id'' (fun _=>rfl) _
 have at_:∀ (i:Nat) (h:Int) (q:Option Int),(iO O els)[i]? = some (h,q) ↔ O[i]? = some h/\q=cZ els h:=fun i h q=>by
  unfold iO
  rw [bh9]
  cases z:O[i]? with
  | none=>simp
  | some y=>
   constructor
   ·intro q'; cases q'; exact⟨rfl,rfl⟩
   ·rintro ⟨q1,q2⟩; cases q1; rw [q2]; rfl
 refine Rt.of_tree w f (by rw [m1]; exact e.nd) (fun h=>by rw [m1]; exact⟨e.inn h,all h⟩) (fun i h g hi=>?_) fun h hh=>?_
 ·obtain ⟨h1,h2⟩:=(at_ i h _).mp hi
  obtain ⟨j,ji,hj,gn⟩:=e.par i h g h1 h2.symm
  exact⟨j,cZ els g,ji,(at_ j g _).mpr ⟨hj,rfl⟩,gn⟩
 ·obtain ⟨i,hi⟩:=gF hh
  obtain ⟨h1,h2⟩:=(at_ i h _).mp hi
  exact e.root h (bg9 h1) h2.symm
end
structure kQ (n:Nat) (ls:List (Int × Int)) (els:List (Option Int)) (O:List Int):Prop where
 len:els.length=n
 rt:Rt n ls (iO O els)
noncomputable def nX:bL:=fun xs Q=>∃ ws ls,xs = [bG ws ls]/\Wb ws ls/\cM ws.length ls/\bM ws.length ls/\∀ els O,kQ ws.length ls els O->Q (.tup [.lst (bC els),.lst (intz O)])
noncomputable def ag7:aK:=(dY (fJ (b7 (a5 1) (b7 (a5 3) (a5 5)))) (cK 6)
     (bX (aZ (q2 (rP true) (a5 6) (a5 3))) (aB (iG 2 (a5 6) (b7 (a5 3) (a5 5)))
      (gN 3 (a5 6))) cF))
noncomputable def zI:aK:=(lF (aZ (p7 (a5 5) (aD dJ (a7 (a5 3) a9))))
    (aB ag7
    (b6 5 (cG (a5 5) (qC (.int 1))))))
noncomputable def ag8:aK:=(aB (b6 1 (aD ac7 (a7 (a5 0) a9)))
 (aB (dB 2 (nJ (eO (a7 (qC .non) a9)) (aD dJ (a7 (b7 (a5 0) (qC (.int 0))) a9))))
 (aB (dB 3 (eO a9))
 (aB (dY (jJ (aD dJ (a7 (b7 (a5 0) (qC (.int 0))) a9))) (cK 4)
  (bX (aZ (q2 (rP true) (a5 4) (a5 3))) (aB (gN 3 (a5 4))
   (aB (b6 5 (lM (aD dJ (a7 (a5 3) a9)) (qC (.int 1))))
   zI)) cF))
 (oS 2 (oS 3 (bN (wD (a7 (a5 2) (a7 (a5 3) a9))))))))))
section
variable {n : Nat} {ls : List (Int × Int)} {O : List Int} {els : List (Option Int)} {E : gM} {s0 s4 y6 : Option Slot} {t : Nat} {cur : Int}
theorem aY5 (n40:n<=40) (lk:cM n ls) (e:EI n ls O els) (hc:O[t]? = some cur) (sh:∀ (i:Nat) (h:Int),i < t->O[i]? = some h->∀ y ∈ aR ls h,y ∈ O)
  (nx:∀ O' els' y6,EI n ls O' els'->(∀ (i:Nat) (h:Int),O[i]? = some h->O'[i]? = some h)->(∀ y ∈ aR ls cur,y ∈ O')->E.nx [s0,some (.sh true (.lst (dR n ls))),some (.own (.lst (bC els'))),some (.own (.lst (intz O'))),s4,si t,y6]) :
  ag7 E [s0,some (.sh true (.lst (dR n ls))),some (.own (.lst (bC els))),some (.own (.lst (intz O))),s4,si t,y6]:=by
 have cm:=bg9 hc
 have cr:=bR.mp (e.inn cur cm)
 have atc:∀ O':List Int,O'[t]? = some cur->L2.atI (intz O') (t:Int)=some (.int cur):=fun O' h=>l8 (by unfold intz; rw [bh9,h]; rfl)
 refine⟨_,rfl,_,rfl,_,rfl,_,_,_,rfl,rfl,atc O hc,_,_,_,rfl,rfl,xQ cr.1 cr.2,intz (aR ls cur),rfl,(fun z=>by cases z),fun j ρ=>∃ (O':List Int) (els':List (Option Int)) (y6:Option Slot),ρ = [s0,some (.sh true (.lst (dR n ls))),some (.own (.lst (bC els'))),some (.own (.lst (intz O'))),s4,si t,y6]/\EI n ls O' els'/\(∀ (i:Nat) (h:Int),O[i]? = some h->O'[i]? = some h)/\∀ y ∈ (aR ls cur).take j,y ∈ O',⟨O,els,y6,rfl,e,fun _ _ z=>z,fun y hy=>by rw [List.take_zero] at hy; cases hy⟩,?_,?_⟩
 ·rintro j y ρ hy ⟨O',els',y6,rfl,e',kp,dn⟩
  obtain ⟨x,rfl,hx⟩:=kK hy
  have xn:=bg9 hx
  have xr:=lk.inr cur x xn
  have xm:=bR.mp xr
  have tk:(aR ls cur).take (j+1)=(aR ls cur).take j ++ [x]:=by rw [bo2,hx]; rfl
  have ol:=e'.le
  refine gP ?_
  refine⟨_,rfl,_,rfl,x,O',rfl,rfl,_,rfl,?_⟩
  show if (!decide (x ∈ O'))=true then _ else _
  by_cases z:x ∈ O'
  ·rw [bg8 z]
   refine bD ⟨O',els',_,rfl,e',kp,fun y hy=>?_⟩
   rw [tk] at hy
   rcases bh6.mp hy with q | q
   ·exact dn y q
   ·rw [bg6.mp q]; exact z
  ·rw [bh5 z]
   have lo:(bC els').length=n:=by unfold bC; rw [bh1]; exact e'.len
   refine bH ⟨_,rfl,_,rfl,_,_,_,rfl,rfl,atc O' (kp t cur hc),bC els',rfl,_,rfl,x,x.toNat,rfl,?_,rfl,?_⟩
   ·rw [lo]; unfold eW; rw [if_pos (by omega),if_pos (by omega)]
   refine⟨_,rfl,_,rfl,trivial,by rw [bP]; omega,O' ++ [x],els'.set x.toNat (some cur),si x,?_,e'.put z xr (bg9 (kp t cur hc)) (jG xn),fun i h hi=>by rw [bj7 (bh3.mp (kp i h hi)).1]; exact kp i h hi,fun y hy=>?_⟩
   ·have q1:bC (els'.set x.toNat (some cur))=(bC els').set x.toNat (.int cur):=by unfold bC; rw [List.map_set]; rfl
    show _ = [_,_,some (Slot.own (.lst (bC (els'.set x.toNat (some cur))))),some (Slot.own (.lst (intz (O' ++ [x])))),_,_,_]
    rw [q1,i6]; rfl
   ·rw [tk] at hy
    rcases bh6.mp hy with q | q
    ·exact bj3 _ (dn y q)
    ·rw [bg6.mp q]; exact bi9 _ (bu7 _)
 ·rintro ρ ⟨O',els',y6,rfl,e',kp,dn⟩
  rw [bP,bl5 (bh0 _)] at dn
  exact nx O' els' y6 e' kp dn
theorem aY6 (n40:n<=40) (lk:cM n ls) (e:EI n ls O els) (tl:t<=O.length) (sh:∀ (i:Nat) (h:Int),i < t->O[i]? = some h->∀ y ∈ aR ls h,y ∈ O)
  (nx:∀ O' els' y5 y6,EI n ls O' els'->cY ls (rng n) O'->(∀ x ∈ O,x ∈ O')->E.nx [s0,some (.sh true (.lst (dR n ls))),some (.own (.lst (bC els'))),some (.own (.lst (intz O'))),s4,y5,y6]) :
  zI E [s0,some (.sh true (.lst (dR n ls))),some (.own (.lst (bC els))),some (.own (.lst (intz O))),s4,si t,y6]:=by
 refine⟨fun m ρ=>∃ (O':List Int) (els':List (Option Int)) (t:Nat) (y6:Option Slot),ρ = [s0,some (.sh true (.lst (dR n ls))),some (.own (.lst (bC els'))),some (.own (.lst (intz O'))),s4,si t,y6]/\EI n ls O' els'/\t<=O'.length/\(∀ (i:Nat) (h:Int),i < t->O'[i]? = some h->∀ y ∈ aR ls h,y ∈ O')/\(∀ x ∈ O,x ∈ O')/\m=n - t,⟨_,O,els,t,y6,rfl,e,tl,sh,fun _ z=>z,rfl⟩,?_⟩
 rintro m ρ ⟨O',els',t,y6,rfl,e',tl,sh,sub,rfl⟩
 have ol:=e'.le
 refine⟨_,rfl,_,rfl,_,_,rfl,rfl,_,_,rfl,rfl,_,rfl,?_⟩
 rw [bP]
 by_cases lt:t < O'.length
 ·rw [bg8 (by omega)]
  obtain ⟨cur,hc⟩:∃ c,O'[t]? = some c:=⟨_,bg7 lt⟩
  refine bH (aY5 n40 lk e' hc sh fun O2 els2 y6 e2 kp dn=>?_)
  refine⟨_,rfl,_,_,rfl,rfl,trivial,n - (t+1),by omega,O2,els2,t+1,y6,rfl,e2,?_,fun i h it hi y hy=>?_,fun x hx=>?_,rfl⟩
  ·have:=(bh3.mp (kp t cur hc)).1; omega
  ·have i2:=(bh3.mp (kp t cur hc)).1
   by_cases e1:i=t
   ·subst e1
    rw [kp i cur hc] at hi
    cases hi
    exact dn y hy
   ·obtain ⟨h',hh'⟩:∃ c,O'[i]? = some c:=⟨_,bg7 (by omega)⟩
    rw [kp i h' hh'] at hi
    cases hi
    obtain ⟨k,hk⟩:=bq5.mp (sh i h (by omega) hh' y hy)
    exact bg9 (kp k y hk)
  ·obtain ⟨k,hk⟩:=bq5.mp (sub x hx)
   exact bg9 (kp k x hk)
 ·rw [bh5 (by omega)]
  refine bD (nx O' els' _ _ e' (fun x hx y hy _=>?_) sub)
  obtain ⟨i,hi⟩:=bq5.mp hx
  have il:=(bh3.mp hi).1
  exact sh i x (by omega) hi y hy
end
theorem aY7 {a b:PV × Tg} (ha:Nw a.2 a.1) (hb:Nw b.2 b.1):mR [a,b]:=by
 intro p hp
 simp only [bi0,bk3,br1] at hp
 rcases hp with rfl | rfl
 ·exact ha
 ·exact hb
theorem tW (n:Nat):(List.replicate n [PV.non]).flatten=bC (List.replicate n none):=by
 induction n with
 | zero=>rfl
 | succ n ih=>rw [bn3,bs8,ih,bn3]; rfl
theorem tX (els:List (Option Int)):flats (bC els)=true:=by
 induction els with
 | nil=>rfl
 | cons e r ih=>
  show (flat (gO e) && flats (bC r))=true
  rw [ih]; cases e <;> rfl
theorem aY8:cR ag8 ["web","beside","elders","order","root","at","other"] nX:=by
 rintro xs Q ⟨ws,ls,rfl,wb,lk,w,q⟩
 have few:=wb.few
 refine⟨_,rfl,ws,ls,rfl,wb,trivial,?_⟩
 refine⟨by show 1<=1000; decide,rfl,_,rfl,_,_,_,rfl,rfl,rfl,_,_,rfl,rfl,_,_,rfl,by rw [bP],rfl,by omega,by omega,by show 1<=10; decide,rfl,?_,?_⟩
 ·show flats (List.replicate (ws.length:Int).toNat [PV.non]).flatten=true
  rw [tW]; exact tX _
 show (aB _ _) _ [_,_,some (Slot.own (.lst (List.replicate (ws.length:Int).toNat [PV.non]).flatten)),_,_,_,_]
 rw [tW,bk1]
 refine⟨by decide,rfl,rfl,rfl,?_⟩
 refine⟨_,rfl,_,_,_,rfl,rfl,rfl,_,_,rfl,rfl,ws.length,by rw [bP],by omega,by omega,fun r ρ=>∃ (O:List Int) (els:List (Option Int)) (y4 y5 y6:Option Slot),ρ = [some (.sh (flat (bG ws ls)) (bG ws ls)),some (.sh true (.lst (dR ws.length ls))),some (.own (.lst (bC els))),some (.own (.lst (intz O))),y4,y5,y6]/\EI ws.length ls O els/\cY ls (rng ws.length) O/\∀ y ∈ rng ws.length,y < (r:Int)->y ∈ O,⟨[],_,none,none,none,rfl,⟨bq6,(fun _ z=>by cases z),bq4,(fun i h g hi=>by cases hi),(fun _ z=>by cases z),fun h hr _=>?_⟩,(fun _ z=>by cases z),fun y hy lt=>?_⟩,?_,?_⟩
 ·unfold cZ
  rw [bh7,List.getElem?_replicate]
  split <;> rfl
 ·have:=(bR.mp hy).1; omega
 ·rintro r y ρ hy ⟨O,els,y4,y5,y6,rfl,e,sh,low⟩
  obtain ⟨rfl,hr⟩:=iV hy
  have hr:r < ws.length:=by omega
  have rr:(r:Int) ∈ rng ws.length:=bR.mpr ⟨by omega,by omega⟩
  have ol:=e.le
  refine gP ?_
  rw [Int.zero_add]
  refine⟨_,rfl,_,rfl,(r:Int),O,rfl,rfl,_,rfl,?_⟩
  show if (!decide ((r:Int) ∈ O))=true then _ else _
  by_cases z:(r:Int) ∈ O
  ·rw [bg8 z]
   refine bD ⟨O,els,_,_,_,rfl,e,sh,fun y hy lt=>?_⟩
   by_cases q:y=r
   ·rw [q]; exact z
   ·exact low y hy (by omega)
  ·rw [bh5 z]
   have e2:=e.rt z (e.head sh z rr low)
   refine bH ⟨_,rfl,_,rfl,trivial,by rw [bP]; omega,?_⟩
   refine⟨_,rfl,_,_,rfl,rfl,_,_,rfl,rfl,trivial,?_⟩
   have q1:intz O ++ [PV.int (r:Int)]=intz (O ++ [(r:Int)]):=by rw [i6]; rfl
   show zI _ [_,_,_,some (Slot.own (.lst (intz O ++ [PV.int (r:Int)]))),_,si (((intz O ++ [PV.int (r:Int)]).length:Int) - 1),_]
   rw [q1,bP,bi4,show ((O.length + [(r:Int)].length:Nat):Int) - 1=(O.length:Int) by show ((O.length+1:Nat):Int) - 1=_; omega]
   refine aY6 few lk e2 (by rw [bi4]; omega) (fun i h it hi y hy=>?_) fun O' els' y5 y6 e' sh' sub=>⟨O',els',_,y5,y6,rfl,e',sh',fun y hy lt=>?_⟩
   ·rw [bj7 it] at hi
    exact bj3 _ (sh h (bg9 hi) y hy (lk.inr h y hy))
   ·by_cases q:y=r
    ·rw [q]; exact sub _ (bi9 _ (bu7 _))
    ·exact sub y (bj3 _ (low y hy (by omega)))
 ·rintro ρ ⟨O,els,y4,y5,y6,rfl,e,sh,low⟩
  rw [g9,bk1] at low
  exact⟨_,rfl,_,rfl,_,rfl,_,rfl,by show 2<=1000; decide,aY7 trivial trivial,trivial,q els O ⟨e.len,e.all w lk.fit fun y hy=>low y hy (bR.mp hy).2⟩⟩
theorem aY9 {els:List (Option Int)}{h:Int} (h0:0<=h) (h1:h < (els.length:Int)):L2.atI (bC els) h=some (gO (cZ els h)):=by
 obtain ⟨j,rfl⟩:∃ j:Nat,h=j:=⟨h.toNat,by omega⟩
 refine l8 ?_
 unfold bC cZ
 rw [bk1,bh9,bh7,bg7 (by omega)]; rfl
noncomputable def IsL (y:PV) (L:Led):Prop:=y = .tup (bE L) ∨ y = .lst (bE L)
theorem aZ0 {P:eG}{i:Nat}{y:PV} (hy:(eI P)[i]? = some y):∃ h e,P[i]? = some (h,e)/\y = .tup [.int h,gO e]:=by
 unfold eI at hy
 rw [bh9] at hy
 cases z:P[i]? with
 | none=>rw [z] at hy; cases hy
 | some p=>rw [z] at hy; obtain ⟨h,e⟩:=p; exact⟨h,e,rfl,(bj9 hy).symm⟩
theorem kQ.pair {n:Nat}{ls:List (Int × Int)}{els:List (Option Int)}{O:List Int} (B:kQ n ls els O) {h:Int} (hr:h ∈ rng n):(h,cZ els h) ∈ iO O els:=by
 obtain ⟨e,he⟩:=B.rt.pair hr
 have he2:=he
 unfold iO at he
 obtain ⟨h',hm,e1⟩:=bi8.mp he
 cases e1
 exact he2
theorem kQ.iff {n:Nat}{ls:List (Int × Int)}{els:List (Option Int)}{O:List Int} (B:kQ n ls els O) {h:Int}{e:Option Int}:(h,e) ∈ iO O els ↔ h ∈ rng n/\e=cZ els h:=by
 refine⟨fun z=>⟨B.rt.inr z,?_⟩,fun z=>by rw [z.2]; exact B.pair z.1⟩
 unfold iO at z
 obtain ⟨h',hm,e1⟩:=bi8.mp z
 cases e1; rfl
noncomputable def nY:eS:=fun Ep xs Q=>∃ ws ls,xs = [bG ws ls]/\Wb ws ls/\cM ws.length ls/\(bM ws.length ls->∀ P,Rt ws.length ls P->Q (.lst (eI P)))/\(¬ bM ws.length ls->Ep "NotWood")
noncomputable def ag9 (Ep:Str->Prop):aK:=(aB (bX (gL (aZ (aD iY (a7 (a5 0) a9)))) (tE Ep "NotWood" (a7 (qC (.str "the web has a round")) a9)) cF)
 (aB (b6 1 (aD jU (a7 (a5 0) a9)))
 (aB (dB 2 (fL (fJ (aD nU (a7 (a5 0) a9))) [none] (cK 0) eQ (g6 (a7 (b7 (a5 0) (qC (.int 0))) (a7 (qC .non) a9)))))
 (aB (b6 3 (qC (.int 0)))
 (aB ae5
 (kB 2))))))
theorem aZ1:pU ag9 ["web","around","pairs","turn","hearth"] nY:=by
 rintro Ep xs Q ⟨ws,ls,rfl,wb,lk,q,qe⟩
 have few:=wb.few
 have hS:=fF ws.length
 refine⟨_,rfl,ws,ls,rfl,wb,fun w=>?_,fun z=>⟨_,rfl,bH ⟨by decide,qe z⟩⟩⟩
 have q:=q w
 refine⟨_,rfl,bD ?_⟩
 refine⟨_,rfl,ws,ls,rfl,wb,trivial,?_⟩
 refine⟨_,rfl,ws,ls,rfl,wb,tups (iN ls (rng ws.length)),rfl,(fun z=>by cases z),?_,fun i acc=>acc=eI (((aQ ls (rng ws.length)).take i).map fun h=>(h,none)),rfl,?_,?_⟩
 ·rw [sV]; unfold iN; rw [bh1]
  have:=bm1 (pV ls (rng ws.length)) (rng ws.length)
  rw [dO] at this
  unfold aQ; omega
 ·rintro i y acc hy rfl
  unfold tups iN at hy
  rw [bq7,bh9] at hy
  cases hz:(aQ ls (rng ws.length))[i]? with
  | none=>rw [hz] at hy; cases hy
  | some h=>
   rw [hz] at hy
   cases hy
   obtain ⟨h1,h2⟩:=dH.mp (bg9 hz)
   have h3:L2.atI (intz (comp ls (rng ws.length) h)) 0=some (.int h):=by
    cases e:comp ls (rng ws.length) h with
    | nil=>rw [e] at h2; cases h2
    | cons a r=>rw [e] at h2; cases h2; exact l8 (j:=0) rfl
   refine⟨_,rfl,_,_,_,rfl,rfl,h3,by show 2<=1000; decide,rfl,trivial,?_⟩
   dsimp only
   rw [bo2,hz,bk4]
   unfold eI
   rw [bk4]
   rfl
 ·rintro acc rfl
  rw [show (tups (iN ls (rng ws.length))).length=(aQ ls (rng ws.length)).length by rw [sV]; unfold iN; rw [bh1],bl5 (bh0 _)]
  refine⟨rfl,ae6 _,trivial,?_⟩
  refine aX1 few lk w fun P y3 y4 R=>?_
  exact⟨_,rfl,trivial,q P R⟩
end Core
namespace L2
open PySem PySem.Spec PyProof.Rows
theorem aZ2 {prog:Program}{w:World}{A:Around}{E:Value->Shared->Prop}{s:Shared}{l:Addr}{vs:List Value}{Q:Value->Shared->Prop} (hl:s.heap.IsTuple l vs.toArray) (few:vs.length < 2)
  (q:Q (.ref (s.heap.objs.size+1)) { s with heap:=sortedAll s.heap vs vs.toArray }):wpAny (model prog w) A (call (.builtin "sorted") [.ref l]) Q E s:=by
 have big:vs.length<=sizeLine:=bl4 (bl7 few) (by decide)
 apply bt4 kind_sorted plain_sorted entry_sorted (args_sorted1 _)
 simp only [Builtin.«sorted»]
 apply bg3 (m:=checkCount "sorted" 1 1 _)
 apply bh4
 apply bg3
 refine Z5 hl ?_ big
 apply bg3
 refine bw8 ?_ big
 have one:((s.heap.push (seqObj "list" #[] 0)).update s.heap.objs.size (Obj.mapSeq (· ++ vs.toArray))).objs.size=s.heap.objs.size+1:=(Heap.size_update _ _ _).trans (size_push' _ _)
 have at1:(((s.heap.push (seqObj "list" #[] 0)).update s.heap.objs.size (Obj.mapSeq (· ++ vs.toArray))).push (seqObj "list" vs.toArray 0)).get? (s.heap.objs.size+1)=some (seqObj "list" vs.toArray 0):=one ▸ bi6 _ rfl
 change wpAny _ _ _ _ _ { s with heap:=((s.heap.push (seqObj "list" #[] 0)).update s.heap.objs.size (Obj.mapSeq (· ++ vs.toArray))).push (seqObj "list" vs.toArray 0) }
 rw [one]
 apply bg3
 apply bp2
 refine bn8 slot_list_sort ⟨_,at1,rfl⟩ entry_list_sort ?_ (args_list_sort _)
 refine M6 at1 few ⟨_,rfl,?_⟩
 exact bh4 ⟨_,rfl,q⟩
open PySem.W in
theorem aZ3 {prog:Program}{w:World}{A:Around}{E:Value->Shared->Prop}{s:Shared}{h₀:Heap}{L:Addr}{m:Str->Option Value}{news:List (Addr × Obj)}{vs:List Value}{l:Addr}{Q:Value->Shared->Prop} (F:Fr h₀ L s.heap m) (N:News h₀ L s.heap news) (hl:s.heap.IsTuple l vs.toArray) (two:2<=vs.length) (few:vs.length < 64)
  (q:∀ D e1 h',Fr h₀ L h' m->News h₀ L h' ((D,seqObj "list" #[] e1) :: news)->(∀ p ∈ news,p.1 < D)->
   wpAny (model prog w) A.in1.in1 (keyKind' vs.toArray) (fun κ s'=>(kas_sort vs.length).kasWp (kas_ask prog w A.in1.in1 κ vs) (fun p s2=>KasFin h₀ L m D e1 (p.toList.map fun i=>vs.getD i Value.none) (fun s3=>Q (.ref D) s3) s2) s') (fun _ _=>False) { s with heap:=h' }) :
  wpAny (model prog w) A (call (.builtin "sorted") [.ref l]) Q E s:=by
 have big:vs.length<=sizeLine:=bl4 (bl7 few) (by decide)
 apply bt4 kind_sorted plain_sorted entry_sorted (args_sorted1 _)
 simp only [Builtin.«sorted»]
 apply bg3 (m:=checkCount "sorted" 1 1 _)
 apply bh4
 apply bg3
 refine Z5 hl ?_ big
 apply bg3
 refine bw8 ?_ big
 have one:((s.heap.push (seqObj "list" #[] 0)).update s.heap.objs.size (Obj.mapSeq (· ++ vs.toArray))).objs.size=s.heap.objs.size+1:=(Heap.size_update _ _ _).trans (size_push' _ _)
 have at1:(((s.heap.push (seqObj "list" #[] 0)).update s.heap.objs.size (Obj.mapSeq (· ++ vs.toArray))).push (seqObj "list" vs.toArray 0)).get? (s.heap.objs.size+1)=some (seqObj "list" vs.toArray 0):=one ▸ bi6 _ rfl
 have old:∀ b o,s.heap.get? b=some o->(((s.heap.push (seqObj "list" #[] 0)).update s.heap.objs.size (Obj.mapSeq (· ++ vs.toArray))).push (seqObj "list" vs.toArray 0)).get? b=some o:=fun b o z=>by
  have lt:=bi5 z
  rw [Heap.get?_push_ne _ _ _ (one ▸ bk6 (Nat.lt_succ_of_lt lt)),Heap.get?_update_ne _ _ _ _ (bk6 lt),Heap.get?_push_ne _ _ _ (bk6 lt)]
  exact z
 have lL:L < s.heap.objs.size:=F.ns.lt
 have ab:=F.above
 change wpAny _ _ _ _ _ { s with heap:=((s.heap.push (seqObj "list" #[] 0)).update s.heap.objs.size (Obj.mapSeq (· ++ vs.toArray))).push (seqObj "list" vs.toArray 0) }
 rw [one]
 apply bg3
 apply bp2
 refine bn8 slot_list_sort ⟨_,at1,rfl⟩ entry_list_sort ?_ (args_list_sort _)
 have lt:∀ p ∈ news,p.1 < s.heap.objs.size+1:=fun p hp=>Nat.lt_succ_of_lt (bi5 (N p hp).1)
 refine kat_list_sort (F.kept old) (N.grown old) at1 (br3 (Nat.lt_succ_of_lt lL)) (Heap.get?_none_of_le (bl4 ab (Nat.le_succ_of_le (bl7 lL)))) (fun p hp=>bk6 (lt p hp)) two few fun e1 h' F' N'=>?_
 refine bo8 (q _ e1 h' F' N' lt) (fun κ s' hk=>?_) fun _ _ x=>x
 rw [kat_ask_eq rfl] at hk ⊢
 exact kas_wp_mono hk fun p s2 z=>z.mono fun s3 y=>⟨_,rfl,bh4 ⟨_,rfl,y⟩⟩
noncomputable def ah0 (K:PySem.W.Frag):List V->Hp->VK->Prop:=fun xs H Q=>∃ (a:Addr) (ys:List V) (key:V->List Int),xs = [.ref a]/\aJ K H a ys/\ys.length < 64/\(∀ y ∈ ys,∃ b,y = .ref b/\aJ K H b ((key y).map V.int)/\key y ≠ [])/\
 ∀ l (zs:List V),H l=none->zs.Perm ys->zs.Pairwise (fun u v=>HT.dA (key v) (key u)=false)->Q (.ref l) (upd H l (.lst zs))
theorem aZ4 {X:Cx}:dI X (.builtin "sorted") (ah0 X.K):=by
 intro pins s σ H xs us Q I r h
 obtain ⟨a,ys,key,rfl,hs,h64,hk,q⟩:=h
 obtain ⟨u,rfl,ru⟩:=j8 r
 cases ru
 obtain ⟨its,rv,p,hz⟩:=I.tuple hs
 have hl:=rv.length
 by_cases h2:its.length < 2
 ·
  refine aZ2 p h2 ?_
  obtain ⟨e,he⟩:=sortedAll_at s.heap its its.toArray
  have hn:s.heap.objs.size<=s.heap.objs.size+1:=Nat.le_succ _
  refine⟨.ref (s.heap.objs.size+1),upd H (s.heap.objs.size+1) (.lst ys),I.laid (t':=s.toks) (fun _ _=>sortedAll_old) hn ⟨hz,its,e,rv,he⟩,rfl,q _ ys (I.hok.fresh hn) (List.Perm.refl _) ?_⟩
  match ys,hl with
  | [],_=>exact bq6
  | [_],_=>exact bj8 _ _
  | _ :: _ :: _,hl=>simp at hl; omega
 ·obtain ⟨m,F⟩:=I.fr
  have hL:∀ {b:Addr}{k:List Int},aJ X.K H b (k.map V.int)->b ≠ X.env.locals:=fun {b k} z e=>by
   obtain ⟨its',_,⟨ob,e1,c1,_⟩,_⟩:=I.tuple z
   obtain ⟨m',⟨o',es',ep',e2,d2,_⟩,_⟩:=I.loc
   rcases z with (z | ⟨_,z⟩) | ⟨o3,its3,n3,z3,zc,zd,_⟩
   ·rw [e,I.free] at z; cases z
   ·rw [e,I.free] at z; cases z
   ·have:=I.kIn b o3 z3
    rw [e,e2] at this
    cases this
    rw [d2] at zd; cases zd
  refine aZ3 F (zU (g:=X.base) (h:=s.heap) (L:=X.env.locals)) p (by omega) (by omega) fun D e1 h' F' N' hD=>?_
  have keep:=I.newsAll (fun p hp=>bh8 _ hp) F' N'
  have look:∀ i,i < ys.length->∃ (b:Addr) (ob:Obj) (us:List Value) (n:Nat),its.getD i Value.none = .ref b/\h'.get? b=some ob/\ob.cls = .type "tuple"/\ob.data = .seq us.toArray n/\IntsAre us (key (ys.getD i .non))/\key (ys.getD i .non) ≠ []:=fun i hi=>by
   have hy:ys.getD i .non ∈ ys:=by
    rw [bh7,bg7 hi]; exact bq0 hi
   obtain ⟨b,eb,sq,ne⟩:=hk _ hy
   have rr:=mM i hi rv
   rw [eb] at rr
   have rr:its.getD i Value.none = .ref b:=rr
   obtain ⟨us,ru,⟨ob,e1,c1,n1,d1⟩,_⟩:=I.tuple sq
   exact⟨b,ob,us,n1,rr,keep b ob (hL sq) e1,c1,d1,mH ru,ne⟩
  have firsts:∀ {xs:List V}{vs:List Value},aM xs vs->(∀ y ∈ xs,∃ b,y = .ref b/\aJ X.K H b ((key y).map V.int)/\key y ≠ [])->∃ fs:List Value,PySem.W.KatTups h' vs fs/\fs.length=vs.length/\∀ v ∈ fs,∃ i t,v=Value.int i t:=by
   intro xs vs r
   induction r with
   | nil=>intro _; exact⟨[],PySem.W.KatTups.nil,rfl,fun _ z=>nomatch z⟩
   | @cons x v xs vs rx rt ih=>
    intro hh
    obtain ⟨fs,t1,t2,t3⟩:=ih fun y hy=>hh y (bh8 _ hy)
    obtain ⟨b,eb,sq,ne⟩:=hh x bh2
    subst eb
    cases rx
    obtain ⟨us,ru,⟨ob,e1,c1,n1,d1⟩,_⟩:=I.tuple sq
    have ia:=mH ru
    generalize key (V.ref b)=kk at ia ne
    cases ia with
    | nil=>exact absurd rfl ne
    | @cons n t vs0 ns0 ht=>
     exact⟨Value.int n t :: fs,PySem.W.KatTups.cons (keep b ob (hL sq) e1) c1 d1 (by simp) t1,by simp [t2],fun v hv=>(bi0.mp hv).elim (fun z=>⟨n,t,z⟩) (t3 v)⟩
  obtain ⟨fs,t1,t2,t3⟩:=firsts rv hk
  refine PySem.W.kat_kind (T:=.type "int") t1 (by omega) (fun v hv=>?_) (by decide) ?_
  ·obtain ⟨i,t,rfl⟩:=t3 v hv
   exact PySem.W.Looks.now
  let c:Nat->Nat->Bool:=fun i j=>HT.dA (key (ys.getD i .non)) (key (ys.getD j .non))
  have O:Srt.qY c:=⟨fun h=>vV h,fun h1 h2=>vW h1 h2⟩
  have ok:=Srt.M4 (n:=its.length) O (by omega)
  refine Srt.bZ.run (I:=fun s'=>s'={ s with heap:=h' }) (fun i j C s' hi hj hI hC=>?_) (fun pa s' hR hI=>?_) _ _ rfl ok
  ·subst hI
   obtain ⟨b1,o1,u1,n1,g1,g2,_,g4,g5,_⟩:=look i (by omega)
   obtain ⟨b2,o2,u2,n2,k1,k2,_,k4,k5,_⟩:=look j (by omega)
   show wpAny _ _ (keyLt' (tuples' (Value.type "int" != Value.type "tuple")) (its.getD i Value.none) (its.getD j Value.none)) _ _ _
   rw [g1,k1]
   have eT:(Value.type "int" != Value.type "tuple")=true:=by decide
   rw [eT]
   refine PySem.W.kat_lt g2 g4 k2 k4 ?_
   have:=rA (prog:=X.prog) (w:=X.w) (A:=X.A.in1.in1) (s:={ s with heap:=h' }) (Q:=C) 0 g5 k5 (hC _ rfl)
   simpa using this
  ·subst hI
   obtain ⟨hp,hasc⟩:=hR
   refine PySem.W.KasFin.intro F' N' (PySem.W.UpdF.head fun p hp=>bk6 (hD p hp)) fun h2 cc F2 N2=>?_
   have keep2:=I.newsAll (fun p hp=>bh8 _ hp) F2 N2
   have hDn:s.heap.get? D=none:=by
    cases z:s.heap.get? D with
    | none=>rfl
    | some o=>
     obtain ⟨_,n1,n2⟩:=N2 (D,_) bh2
     exact absurd (hD _ (u8 n1 n2 z)) (bm0 _)
   have hpl:∀ i ∈ pa.toList,i < ys.length:=fun i hi=>by
    have:=bu2.mp (hp.mem_iff.mp hi); omega
   have hp':pa.toList.Perm (List.range ys.length):=by rw [hl]; exact hp
   have pm:=M5 (d:=V.non) ys hp'
   obtain ⟨hDo,hDL,hDb⟩:=N2 (D,_) bh2
   obtain ⟨hHD,I2⟩:=I.laidF (t':=s.toks) (a:=D) (o:=.lst (pa.toList.map fun i=>ys.getD i .non)) hDn keep2 (fun m' hm'=>by
     have e:m'=m:=funext fun nm=>Heap.Ns.agree hm' F.ns nm
     rw [e]; exact F2.ns) ⟨by rw [pm.length_eq]; exact hz,_,cc,vT rv hpl,hDo⟩
   exact⟨.ref D,_,I2,rfl,q D _ hHD pm (M9 hp hasc fun i j hle=>hle)⟩
end L2
namespace PP
open PySem L2
section
variable {X : Cx} {e : Expr} {tr : cW} {pos p2 : Pos}
noncomputable def zJ:List PV->(PV->Prop)->Prop:=fun xs Q=>∃ ys:List (List Int),xs = [.tup (ys.map fun r=>PV.tup (intz r))]/\ys.length < 64/\(∀ y ∈ ys,y ≠ [])/\∀ zs:List (List Int),zs.Perm ys->zs.Pairwise (fun u v=>HT.dA v u=false)->Q (.lst (zs.map fun r=>PV.tup (intz r)))
theorem aZ5:hV X zJ (ah0 X.K):=by
 rintro H vs xs Q Q' r ⟨ys,rfl,hl,hne,q⟩ k
 obtain ⟨v,rfl,r1⟩:=r.one
 cases r1 with
 | tup h r2=>
  obtain ⟨h1,h2⟩:=t5 r2
  have lr:=r2.length
  rw [bh1] at lr
  refine⟨_,_,iL H,rfl,aJ.of h,by omega,fun y hy=>?_,fun l zs hl' pm so=>?_⟩
  ·obtain ⟨b,rfl,hb⟩:=h2 y hy
   refine⟨b,rfl,aJ.of hb,hne _ ?_⟩
   rw [<- h1]; exact bi8.mpr ⟨_,hy,rfl⟩
  ·have hz:∀ u ∈ zs,∃ b,u = .ref b/\H b=some (.tup ((iL H u).map V.int)):=fun u hu=>h2 u (pm.mem_iff.mp hu)
   refine k _ _ _ (bI hl' _) (.lst hl' bK ((t6 hz).same (bI hl' _) fun _ z=>z)) (q _ ?_ ?_)
   ·rw [<- h1]; exact pm.map _
   ·rw [bp4]; exact so
theorem aZ6 (B:Bt X.mg) (ha:QA X [e] tr) (hg:Gl X "sorted":=by rfl) (he:starEach [e] X.env=(false,eval e X.env) :: starEach [] X.env:=by rfl) (hpl:(backTo pos (starEach [] X.env)).any (·.1)=false:=by rfl):QE X (.Call (.Name "sorted" p2) [e] [] pos) (aD zJ tr):=
 kG aZ4 aZ5 hg B.sorted PyProof.Rows.boot_sorted ha (he:=he) (hpl:=hpl)
end
end PP
namespace Core
open PySem L2 PP
noncomputable def cE (ls:List (Int × Int)) (S:List Int) (x y:Int):Prop:=∀ U,cY ls S U->(x ∈ U ↔ y ∈ U)
section
variable {ls ls' : List (Int × Int)} {l : Int × Int} {n : Nat} {S U : List Int} {x y z h : Int}
theorem cE.symm (t:cE ls S x y):cE ls S y x:=fun U c=>(t U c).symm
theorem cE.trans (t:cE ls S x y) (t':cE ls S y z):cE ls S x z:=fun U c=>(t U c).trans (t' U c)
theorem zK (sub:∀ l ∈ ls,l ∈ ls') (c:cY ls' S U):cY ls S U:=fun a ha b hb bS=>c a ha b (L2.cJ.mpr ((L2.cJ.mp hb).imp (sub _) (sub _))) bS
theorem cE.more (sub:∀ l ∈ ls,l ∈ ls') (t:cE ls S x y):cE ls' S x y:=fun U c=>t U (zK sub c)
theorem ah1 (hl:l ∈ ls) (h1:l.1 ∈ S) (h2:l.2 ∈ S):cE ls S l.1 l.2:=fun U c=>⟨fun z=>c _ z _ (L2.cJ.mpr (.inl hl)) h2,fun z=>c _ z _ (L2.cJ.mpr (.inr hl)) h1⟩
theorem aZ7 (hS:bA n S=true) (hy:y ∈ S):x ∈ comp ls S y->cE ls S x y:=fun hx U c=>by
 have e:=iM hS hx hy
 have b:y ∈ comp ls S x:=by rw [e]; exact dS hy
 exact⟨fun z=>(eU.mp b).2 U c z,fun z=>(eU.mp hx).2 U c z⟩
theorem aZ8 (t:cE ls S x y) (hx:x ∈ S):x ∈ comp ls S y:=eU.mpr ⟨hx,fun U c z=>(t U c).mpr z⟩
theorem ah2 (hS:bA n S=true) (hx:x ∈ S):∃ a ∈ aQ ls S,cE ls S x a:=by
 cases e:(comp ls S x).head? with
 | none=>rw [List.head?_eq_none_iff] at e; have:=dS (ls:=ls) hx; rw [e] at this; cases this
 | some a=>
  have am:=(i7 (fE hS) e).1
  have aS:=nQ a am
  refine⟨a,dH.mpr ⟨aS,by rw [iM hS am hx]; exact e⟩,(aZ7 hS hx am).symm⟩
theorem ah3 (hS:bA n S=true) {a b:Int} (ha:a ∈ aQ ls S) (hb:b ∈ aQ ls S) (t:cE ls S a b):a=b:=by
 have aS:=(dH.mp ha).1
 exact pX hS ha hb (dS aS) (aZ8 t aS)
theorem ah4 (hS:bA n S=true) (sub:∀ m ∈ ls,m ∈ ls') (hl:l ∈ ls') (h1:l.1 ∈ S) (h2:l.2 ∈ S) (nt : ¬ cE ls S l.1 l.2):(aQ ls' S).length+1<=(aQ ls S).length:=by
 have hsub:∀ h ∈ aQ ls' S,h ∈ aQ ls S:=fun h hh=>by
  obtain ⟨hS',e⟩:=dH.mp hh
  have le:=(i7 (fE hS) e).2
  exact nV hS hS' (U:=comp ls' S h) (zK sub gR) (dS hS') fun x hx _=>by have:=le x hx; omega
 obtain ⟨a,ha,ta⟩:=ah2 (ls:=ls) hS h1
 obtain ⟨b,hb,tb⟩:=ah2 (ls:=ls) hS h2
 have ne:a ≠ b:=fun e=>nt (ta.trans (by rw [e]; exact tb.symm))
 have tie:cE ls' S a b:=((ta.more sub).symm.trans (ah1 hl h1 h2)).trans (tb.more sub)
 have lost:∃ c ∈ aQ ls S,c ∉ aQ ls' S:=by
  by_cases za:a ∈ aQ ls' S
  ·by_cases zb:b ∈ aQ ls' S
   ·exact absurd (ah3 hS za zb tie) ne
   ·exact⟨b,hb,zb⟩
  ·exact⟨a,ha,za⟩
 obtain ⟨c,hc,nc⟩:=lost
 have nd:(c :: aQ ls' S).Nodup:=bo4.mpr ⟨nc,(tQ hS).filter _⟩
 have:=fS nd (m:=aQ ls S) fun x hx=>by
  rcases bi0.mp hx with z | z
  ·rw [z]; exact hc
  ·exact hsub x z
 rw [bj5] at this
 exact this
theorem aZ9 {rs:List (Int × Int)} (w:bM n ls) (pm:rs.Perm (ls ++ [l])) (h1:l.1 ∈ rng n) (h2:l.2 ∈ rng n) (nt : ¬ cE ls (rng n) l.1 l.2):bM n rs:=by
 have a:=ah4 (ls':=rs) (fF n) (fun m hm=>pm.mem_iff.mpr (bj3 _ hm)) (pm.mem_iff.mpr (bi9 _ (bg6.mpr rfl))) h1 h2 nt
 have b:=nW (fF n) rs
 have c:=bm1 (eF (rng n)) rs
 have d:rs.length=ls.length+1:=by rw [pm.length_eq,bi4]; rfl
 rw [dO] at b
 unfold bM at w ⊢
 omega
theorem ah5 {rs:List (Int × Int)} (nd:rs.Nodup) (hl:l ∈ rs) (sub:∀ m ∈ ls,m ∈ rs/\m ≠ l) (t:cE ls (rng n) l.1 l.2) : ¬ bM n rs:=fun w=>
 ae0 w nd hl fun U c=>t U (zK (fun m hm=>m3.mpr (sub m hm)) c)
noncomputable def nv (nm:List Int) (x:Int):Int:=nm.getD x.toNat 0
structure Nm (n:Nat) (ls:List (Int × Int)) (nm:List Int):Prop where
 len:nm.length=n
 eq:∀ l ∈ ls,nv nm l.1=nv nm l.2
 tie:∀ x ∈ rng n,∀ y ∈ rng n,nv nm x=nv nm y->cE ls (rng n) x y
theorem Nm.start:Nm n [] (rng n):=⟨dO n,(fun _ z=>by cases z),fun x hx y hy e=>by
 have a:=bR.mp hx
 have b:=bR.mp hy
 have g:∀ x:Int,0<=x->x < (n:Int)->nv (rng n) x=x:=fun x h0 h1=>by
  unfold nv
  rw [bh7,X7 (by omega)]
  show ((x.toNat:Nat):Int)=x
  omega
 rw [g x a.1 a.2,g y b.1 b.2] at e
 rw [e]; exact fun U _=>Iff.rfl⟩
theorem Nm.iff {nm:List Int} (N:Nm n ls nm) (hx:x ∈ rng n) (hy:y ∈ rng n):cE ls (rng n) x y ↔ nv nm x=nv nm y:=by
 refine⟨fun t=>?_,N.tie x hx y hy⟩
 have c:cY ls (rng n) ((rng n).filter fun z=>decide (nv nm z=nv nm x)):=fun a ha b hb bS=>by
  obtain ⟨_,a2⟩:=bj0.mp ha
  refine bj0.mpr ⟨bS,?_⟩
  rw [bk9] at a2 ⊢
  rcases L2.cJ.mp hb with z | z
  ·rw [<- N.eq _ z]; exact a2
  ·rw [N.eq _ z]; exact a2
 have:=(t _ c).mp (bj0.mpr ⟨hx,by simp⟩)
 have:=(bj0.mp this).2
 rw [bk9] at this
 exact this.symm
noncomputable def m6 (nm:List Int) (l:Int × Int):List Int:=nm.map fun v=>if v=nv nm l.2 then nv nm l.1 else v
theorem ba0 {nm:List Int} (hx:x ∈ rng nm.length):nv (m6 nm l) x=if nv nm x=nv nm l.2 then nv nm l.1 else nv nm x:=by
 have a:=bR.mp hx
 unfold m6
 unfold nv
 rw [bh7,bh9,bh7 (i:=x.toNat),bg7 (by omega)]
 rfl
theorem Nm.next {nm:List Int} (N:Nm n ls nm) (inn:∀ m ∈ ls,m.1 ∈ rng n/\m.2 ∈ rng n) (h1:l.1 ∈ rng n) (h2:l.2 ∈ rng n):Nm n (ls ++ [l]) (m6 nm l):=by
 have at':∀ x ∈ rng n,nv (m6 nm l) x=if nv nm x=nv nm l.2 then nv nm l.1 else nv nm x:=fun x hx=>ba0 (by rw [N.len]; exact hx)
 have sub:∀ m ∈ ls,m ∈ ls ++ [l]:=fun m hm=>bj3 _ hm
 have tl:cE (ls ++ [l]) (rng n) l.1 l.2:=ah1 (bi9 _ (bg6.mpr rfl)) h1 h2
 refine⟨by unfold m6; rw [bh1,N.len],fun m hm=>?_,fun x hx y hy e=>?_⟩
 ·rcases bh6.mp hm with z | z
  ·rw [at' _ (inn m z).1,at' _ (inn m z).2,N.eq m z]
  ·rw [bg6.mp z,at' _ h1,at' _ h2,if_pos rfl]
   split <;> rfl
 ·rw [at' x hx,at' y hy] at e
  have T:∀ a ∈ rng n,∀ b ∈ rng n,nv nm a=nv nm b->cE (ls ++ [l]) (rng n) a b:=fun a ha b hb e=>(N.tie a ha b hb e).more sub
  by_cases c1:nv nm x=nv nm l.2
  ·rw [if_pos c1] at e
   have tx:=(T x hx _ h2 c1).trans tl.symm
   by_cases c2:nv nm y=nv nm l.2
   ·exact tx.trans ((T y hy _ h2 c2).trans tl.symm).symm
   ·rw [if_neg c2] at e
    exact tx.trans (T _ h1 y hy e)
  ·rw [if_neg c1] at e
   by_cases c2:nv nm y=nv nm l.2
   ·rw [if_pos c2] at e
    exact (T x hx _ h1 e).trans (tl.trans (T _ h2 y hy c2.symm))
   ·rw [if_neg c2] at e
    exact T x hx y hy e
structure m7 (n:Nat) (ls:List (Int × Int)) (k:Nat) (nm:List Int) (due:Bool):Prop where
 nm:Nm n (ls.take k) nm
 yes:due=true->k+(aQ (ls.take k) (rng n)).length=n
 no:due=false->¬ bM n ls
theorem m7.start:m7 n ls 0 (rng n) true:=by
 refine⟨by rw [List.take_zero]; exact Nm.start,fun _=>?_,fun z=>by cases z⟩
 rw [List.take_zero]
 have b:=nW (fF n) []
 have c:(aQ [] (rng n)).length<=(rng n).length:=bm1 _ _
 rw [dO] at b c
 have:([].filter (eF (rng n)):List (Int × Int)).length=0:=rfl
 omega
theorem m7.next {k:Nat}{nm:List Int}{due:Bool} (I:m7 n ls k nm due) (lk:cM n ls) (hk:ls[k]? = some l):m7 n ls (k+1) (m6 nm l) (if nv nm l.1=nv nm l.2 then false else due):=by
 have inn:∀ m ∈ ls,m.1 ∈ rng n/\m.2 ∈ rng n:=fun m hm=>by have:=lk.1 m hm; exact⟨bR.mpr ⟨by omega,by omega⟩,bR.mpr ⟨by omega,by omega⟩⟩
 have lm:=bg9 hk
 obtain ⟨h1,h2⟩:=inn l lm
 have kl:=(bh3.mp hk).1
 have tk:ls.take (k+1)=ls.take k ++ [l]:=by rw [bo2,hk]; rfl
 have nd:ls.Nodup:=lk.2.2.imp fun {a b} h e=>by subst e; unfold iK at h; omega
 have ne:∀ m ∈ ls.take k,m ∈ ls/\m ≠ l:=fun m hm=>⟨bu5 hm,fun e=>by
  have nd':=List.Pairwise.sublist (List.take_sublist (k+1) ls) nd
  rw [tk] at nd'
  exact (bp5.mp nd').2.2 m hm l (bg6.mpr rfl) e⟩
 refine⟨by rw [tk]; exact I.nm.next (fun m hm=>inn m (bu5 hm)) h1 h2,fun z=>?_,fun z=>?_⟩
 ·by_cases c:nv nm l.1=nv nm l.2
  ·rw [if_pos c] at z; cases z
  ·rw [if_neg c] at z
   have a:=ah4 (fF n) (ls:=ls.take k) (ls':=ls.take (k+1)) (l:=l) (fun m hm=>by rw [tk]; exact bj3 _ hm) (by rw [tk]; exact bi9 _ (bg6.mpr rfl)) h1 h2 fun t=>c ((I.nm.iff h1 h2).mp t)
   have b:=nW (fF n) (ls.take (k+1))
   have d:=bm1 (eF (rng n)) (ls.take (k+1))
   have e:(ls.take (k+1)).length<=k+1:=List.length_take_le _ _
   rw [dO] at b
   have:=I.yes z
   omega
 ·by_cases c:nv nm l.1=nv nm l.2
  ·exact ah5 nd lm ne ((I.nm.iff h1 h2).mpr c)
  ·rw [if_neg c] at z; exact I.no z
end
end Core
namespace PP
open PySem L2
section
variable {X : Cx} {a b c : Expr} {ta tb : aF} {tc : c7} {pos : Pos} {σ : St} {H : Hp} {Q' : VK}
noncomputable def tY (t:c7) (ta tb:aF):aF:=fun ρ Q=>t ρ fun d=>if d=true then ta ρ Q else tb ρ Q
theorem ba1 (h:LE X (tY tc ta tb) σ H Q'):A4 (LT X tc) (LE X ta) (LE X tb) σ H Q':=by
 obtain ⟨W,ρ,Q,px,q,k⟩:=h
 refine⟨W,ρ,_,px,q,fun d H1 s1 q1=>?_⟩
 cases d with
 | true=>exact bH ⟨W,ρ,Q,px.mono s1,by simpa using q1,fun w H' z g s3 r3 q3=>k w H' z g (s1.trans s3) (r3.same (aA.refl _) fun _ y=>Mg.back s1 y) q3⟩
 | false=>exact bD ⟨W,ρ,Q,px.mono s1,by simpa using q1,fun w H' z g s3 r3 q3=>k w H' z g (s1.trans s3) (r3.same (aA.refl _) fun _ y=>Mg.back s1 y) q3⟩
theorem ba2 (hc:QT X c tc) (ha:QE X a ta) (hb:QE X b tb):QE X (.IfExp c a b pos) (tY tc ta tb):=cH (an6 hc ha hb) fun _ _ _=>ba1
end
end PP
namespace Core
open PySem L2 PP
noncomputable def ah6 (n:Nat) (ls:List (Int × Int)) (els:List (Option Int)):Prop:=els.length=n/\∃ P,Rt n ls P/\∀ h e,(h,e) ∈ P->cZ els h=e
noncomputable def kR:eS:=fun Ep xs Q=>∃ ws ls,xs = [bG ws ls]/\Wb ws ls/\cM ws.length ls/\(bM ws.length ls->∀ els,ah6 ws.length ls els->Q (.lst (bC els)))/\(¬ bM ws.length ls->Ep "NotWood")
noncomputable def ah7 (Ep:Str->Prop):aK:=(aB (dB 1 (nJ (eO (a7 (qC .non) a9)) (aD iW (a7 (a5 0) a9))))
 (aB (dY (fJ (pS Ep nY (a7 (a5 0) a9))) (kD 2 3)
  (iG 1 (a5 2) (a5 3)))
 (kB 1)))
theorem ba3:pU ah7 ["web","elders","hearth","elder"] kR:=by
 rintro Ep xs Q ⟨ws,ls,rfl,wb,lk,q,qe⟩
 have few:=wb.few
 refine⟨by show 1<=1000; decide,rfl,_,rfl,ws,ls,rfl,_,_,rfl,rfl,rfl,by omega,by omega,by show 1<=10; decide,rfl,?_,?_⟩
 ·show flats (List.replicate (ws.length:Int).toNat [PV.non]).flatten=true
  rw [tW]; exact tX _
 show (aB _ _) _ [some (Slot.sh (flat (bG ws ls)) (bG ws ls)),some (Slot.own (.lst (List.replicate (ws.length:Int).toNat [PV.non]).flatten)),_,_]
 rw [tW,bk1,sR]
 refine⟨_,rfl,ws,ls,rfl,wb,lk,fun w P R=>?_,qe⟩
 refine⟨eI P,rfl,(fun z=>by cases z),fun i ρ=>∃ (els:List (Option Int)) (y2 y3:Option Slot),ρ = [some (.sh true (bG ws ls)),some (.own (.lst (bC els))),y2,y3]/\els.length=ws.length/\∀ (j:Nat) (h:Int) (e:Option Int),j < i->P[j]? = some (h,e)->cZ els h=e,⟨_,none,none,rfl,bq4,fun j h e z=>by omega⟩,?_,?_⟩
 ·rintro i y ρ hy ⟨els,y2,y3,rfl,el,ok⟩
  obtain ⟨h,e,hi,rfl⟩:=aZ0 hy
  have hm:=bR.mp (R.inr (bg9 hi))
  have lo:(bC els).length=ws.length:=by unfold bC; rw [bh1]; exact el
  refine⟨_,_,rfl,?_⟩
  refine⟨_,rfl,bC els,rfl,_,rfl,h,h.toNat,rfl,?_,?_,els.set h.toNat e,si h,some (.sh true (gO e)),?_,by rw [bl1]; exact el,fun j g q jl hj=>?_⟩
  ·rw [lo]; unfold eW; rw [if_pos (by omega),if_pos (by omega)]
  ·exact trivial
  ·have q1:bC (els.set h.toNat e)=(bC els).set h.toNat (gO e):=by unfold bC; rw [List.map_set]
   rw [q1]; rfl
  ·by_cases ej:j=i
   ·subst ej
    rw [hi] at hj
    cases hj
    exact ag6 hm.1 (by omega)
   ·have gm:=bR.mp (R.inr (bg9 hj))
    rw [ag5 hm.1 gm.1 fun z=>by subst z; exact ej (m5 R.nd hj hi).1]
    exact ok j g q (by omega) hj
 ·rintro ρ ⟨els,y2,y3,rfl,el,ok⟩
  rw [tT] at ok
  refine⟨_,rfl,trivial,q w els ⟨el,P,R,fun h e he=>?_⟩⟩
  obtain ⟨j,hj⟩:=gF he
  exact ok j h e (bh3.mp hj).1 hj
noncomputable def tZ:eS:=fun Ep xs _=>∃ ws ls,xs = [bG ws ls]/\Wb ws ls/\cM ws.length ls/\¬ bM ws.length ls/\Ep "NotWood"
noncomputable def ah8 (Ep:Str->Prop):aK:=(aB (b6 1 (aD jU (a7 (a5 0) a9)))
 (aB (dB 2 (qC (.dK [])))
 (aB (dB 3 (eO a9))
 (aB (dY (yV (pS Ep nY (a7 (a5 0) a9))) (kD 4 5)
  (aB kE
  (aB kE
  (aB kE
  (aB kE
  kE)))))
 (aB kE
 kE)))))
theorem ba4:pU ah8 ["web","around","waiting","taken","hearth","elder","children","lacking","block","child","pairs"] tZ:=by
 rintro Ep xs Q ⟨ws,ls,rfl,wb,lk,no,e⟩
 refine⟨_,rfl,ws,ls,rfl,wb,trivial,?_⟩
 refine⟨rfl,rfl,by decide,rfl,rfl,rfl,?_⟩
 exact⟨_,rfl,ws,ls,rfl,wb,lk,fun w=>absurd w no,fun _=>e⟩
noncomputable def m8:bL:=fun xs Q=>∃ ws ls,xs = [bG ws ls]/\Wb ws ls/\cM ws.length ls/\¬ bM ws.length ls/\Q (.bl true)
noncomputable def zL:aK:=(aB (dY (jJ (qC (.int 2))) (cK 1)
  (aB (b6 2 (qC .non))
  (aB (yD "HearthError" 3 (aa6 (aZ (eR (a5 1) (qC (.int 0)))) (yC kR (a7 (a5 0) a9)) (yC tZ (a7 (a5 0) a9))) (b6 2 (eO (a7 (nM "NotWood" (a5 3)) (a7 (nM "BadWeb" (a5 3)) (a7 (nM "ValueError" (a5 3)) a9))))))
  (bX (aZ (q2 (lK 2 true) (a5 2) (eO (a7 (qC (.bl true)) (a7 (qC (.bl false)) (a7 (qC (.bl true)) a9)))))) (bN (qC (.bl false))) cF))))
 (bN (qC (.bl true))))
theorem ba5:cR zL ["web","which","kinds","e"] m8:=by
 rintro xs Q ⟨ws,ls,rfl,wb,lk,no,q⟩
 show zL _ [some (.sh (flat (bG ws ls)) (bG ws ls)),none,none,none]
 rw [sR]
 refine⟨2,rfl,by decide,by decide,fun i ρ=>∃ (y1 y2 y3:Option Slot),ρ = [some (.sh true (bG ws ls)),y1,y2,y3],⟨none,none,none,rfl⟩,?_,?_⟩
 ·rintro i y ρ hy ⟨y1,y2,y3,rfl⟩
  obtain ⟨rfl,hi⟩:=iV hy
  refine gP ?_
  refine⟨trivial,_,rfl,.inl ⟨_,_,rfl,rfl,_,rfl,nP ?_ ?_⟩⟩
  ·refine⟨_,rfl,ws,ls,rfl,wb,lk,fun w=>absurd w no,fun _=>?_⟩
   exact⟨by decide,_,rfl,true,(by decide),_,rfl,false,(by decide),_,rfl,true,(by decide),by show 3<=1000; decide,rfl,trivial,_,rfl,by show 3<=1000; decide,rfl,.inr ⟨_,_,rfl,rfl⟩,by decide,_,rfl,bD ⟨_,_,_,rfl⟩⟩
  ·refine⟨_,rfl,ws,ls,rfl,wb,lk,no,?_⟩
   exact⟨by decide,_,rfl,true,(by decide),_,rfl,false,(by decide),_,rfl,true,(by decide),by show 3<=1000; decide,rfl,trivial,_,rfl,by show 3<=1000; decide,rfl,.inr ⟨_,_,rfl,rfl⟩,by decide,_,rfl,bD ⟨_,_,_,rfl⟩⟩
 ·rintro ρ ⟨y1,y2,y3,rfl⟩
  exact⟨trivial,q⟩
noncomputable def u0:bL:=fun xs Q=>∃ ws ls,xs = [bG ws ls]/\Wb ws ls/\cM ws.length ls/\Q (.bl true)
noncomputable def ah9:aK:=(aB (bX (aZ (eR (b7 (a5 1) (a5 3)) (b7 (a5 1) (a5 4)))) (b6 2 (qC (.bl false))) cF)
  (b6 1 (fL (fJ (a5 1)) [none,some 1,some 3,some 4] (cK 0) eQ (tY (aZ (eR (a5 0) (b7 (a5 1) (a5 3)))) (b7 (a5 1) (a5 2)) (a5 0)))))
noncomputable def zM (K:PySem.W.Frag):aK:=(aB (b6 1 (sX (aD dJ (a7 (b7 (a5 0) (qC (.int 0))) a9))))
 (aB (b6 2 (qC (.bl true)))
 (aB (dY (fJ (b7 (a5 0) (qC (.int 1)))) (kD 3 4)
  ah9)
 (aB (b6 5 (aD iY (a7 (a5 0) a9)))
 (aB (bX (kA (gL (aZ (iH K "bool" (a5 5)))) (aZ (wT (a5 5) (a5 2)))) (bN (qC (.bl false))) cF)
 (bN (rJ (a5 2) (aD m8 (a7 (a5 0) a9)))))))))
section
variable {n : Nat} {nm : List Int} {l : Int × Int} {due : Bool} {E : gM} {s0 s5 : Option Slot}
theorem ba6 (n40:n<=40) (nl:nm.length=n) (h1:l.1 ∈ rng n) (h2:l.2 ∈ rng n)
  (nx:E.nx [s0,some (.sh true (.lst (intz (m6 nm l)))),some (.sh true (.bl (if nv nm l.1=nv nm l.2 then false else due))),si l.1,si l.2,s5]) :
  ah9 E [s0,some (.sh true (.lst (intz nm))),some (.sh true (.bl due)),si l.1,si l.2,s5]:=by
 have a1:=bR.mp h1
 have a2:=bR.mp h2
 have i1:L2.atI (intz nm) l.1=some (.int (nv nm l.1)):=ag2 a1.1 (by omega)
 have i2:L2.atI (intz nm) l.2=some (.int (nv nm l.2)):=ag2 a2.1 (by omega)
 have fin:∀ d,(d=if nv nm l.1=nv nm l.2 then false else due)->(b6 1 (fL (fJ (a5 1)) [none,some 1,some 3,some 4] (cK 0) eQ (tY (aZ (eR (a5 0) (b7 (a5 1) (a5 3)))) (b7 (a5 1) (a5 2)) (a5 0)))) E [s0,some (.sh true (.lst (intz nm))),some (.sh true (.bl d)),si l.1,si l.2,s5]:=fun d hd=>by
  refine⟨_,rfl,intz nm,rfl,(fun z=>by cases z),by rw [bP]; omega,fun i acc=>acc=intz ((nm.take i).map fun v=>if v=nv nm l.2 then nv nm l.1 else v),rfl,?_,?_⟩
  ·rintro i y acc hy rfl
   obtain ⟨v,rfl,hv⟩:=kK hy
   refine gP ?_
   refine⟨_,rfl,_,rfl,_,rfl,_,_,_,rfl,rfl,i2,.inl ⟨_,_,rfl,rfl,_,rfl,?_⟩⟩
   show if decide (v=nv nm l.2)=true then _ else _
   by_cases c:v=nv nm l.2
   ·rw [bg8 c]
    refine bH ⟨_,rfl,_,rfl,_,_,_,rfl,rfl,i1,rfl,?_⟩
    dsimp only
    rw [bo2,hv,bk4,i6]
    show _=_ ++ intz [if v=nv nm l.2 then nv nm l.1 else v]
    rw [if_pos c]; rfl
   ·rw [bh5 c]
    refine bD ⟨_,rfl,trivial,?_⟩
    dsimp only
    rw [bo2,hv,bk4,i6]
    show _=_ ++ intz [if v=nv nm l.2 then nv nm l.1 else v]
    rw [if_neg c]; rfl
  ·rintro acc rfl
   rw [bP,bl5 (bh0 _)]
   rw [<- hd] at nx
   exact⟨trivial,nx⟩
 refine⟨_,rfl,_,rfl,_,_,_,rfl,rfl,i1,_,rfl,_,rfl,_,_,_,rfl,rfl,i2,.inl ⟨_,_,rfl,rfl,_,rfl,?_⟩⟩
 show if decide (nv nm l.1=nv nm l.2)=true then _ else _
 by_cases c:nv nm l.1=nv nm l.2
 ·rw [bg8 c]
  exact bH ⟨trivial,fin _ (by rw [if_pos c])⟩
 ·rw [bh5 c]
  exact bD (fin _ (by rw [if_neg c]))
end
theorem ba7 {K:PySem.W.Frag} (kb:PySem.W.kitOne K (.type "bool") (.type "bool")=some true):cR (zM K) ["web","names","due","one","other","told"] u0:=by
 rintro xs Q ⟨ws,ls,rfl,wb,lk,q⟩
 have few:=wb.few
 show zM K _ [some (.sh (flat (bG ws ls)) (bG ws ls)),none,none,none,none,none]
 rw [sR]
 refine⟨_,rfl,_,_,_,rfl,rfl,rfl,_,_,rfl,rfl,ws.length,by rw [bP],by omega,by omega,trivial,?_⟩
 rw [zF,bk1]
 refine⟨trivial,?_⟩
 refine⟨_,rfl,_,_,_,rfl,rfl,rfl,bE ls,rfl,(fun z=>by cases z),fun i ρ=>∃ (nm:List Int) (due:Bool) (y3 y4:Option Slot),ρ = [some (.sh true (bG ws ls)),some (.sh true (.lst (intz nm))),some (.sh true (.bl due)),y3,y4,none]/\m7 ws.length ls i nm due,⟨_,true,none,none,rfl,m7.start⟩,?_,?_⟩
 ·rintro i y ρ hy ⟨nm,due,y3,y4,rfl,I⟩
  obtain ⟨l,rfl,hl⟩:=aN0 hy
  have lb:=lk.1 l (bg9 hl)
  refine aW0 ?_
  exact ba6 few I.nm.len (bR.mpr ⟨by omega,by omega⟩) (bR.mpr ⟨by omega,by omega⟩) ⟨_,_,_,_,rfl,I.next lk hl⟩
 ·rintro ρ ⟨nm,due,y3,y4,rfl,I⟩
  rw [xR] at I
  have iff:bM ws.length ls ↔ due=true:=⟨fun w=>by
   cases due with
   | true=>rfl
   | false=>exact absurd w (I.no rfl),fun d=>by
    have:=I.yes d
    rw [bl5 (bh0 _)] at this
    exact this⟩
  have fin:∀ b:Bool,b=due->(due=false->¬ bM ws.length ls)->(aB (bX (kA (gL (aZ (iH K "bool" (a5 5)))) (aZ (wT (a5 5) (a5 2)))) (bN (qC (.bl false))) cF) (bN (rJ (a5 2) (aD m8 (a7 (a5 0) a9))))) { nx:=fun _=>Q .non,rt:=Q } [some (.sh true (bG ws ls)),some (.sh true (.lst (intz nm))),some (.sh true (.bl due)),y3,y4,some (.sh true (.bl b))]:=fun b hb no=>by
   subst hb
   refine⟨_,rfl,_,_,rfl,kb,_,rfl,bD ?_⟩
   refine⟨_,rfl,_,rfl,.inr ⟨_,_,rfl,rfl,_,rfl,?_⟩⟩
   show if (!decide (b=b))=true then _ else _
   rw [bg8 rfl]
   refine bD ⟨_,rfl,_,rfl,?_⟩
   cases b with
   | true=>exact bH ⟨trivial,q⟩
   | false=>exact bD ⟨_,rfl,ws,ls,rfl,wb,lk,no rfl,trivial,q⟩
  refine⟨_,rfl,ws,ls,rfl,wb,fun w=>⟨trivial,?_⟩,fun w=>⟨trivial,?_⟩⟩
  ·exact fin true (iff.mp w).symm I.no
  ·refine fin false ?_ I.no
   cases due with
   | true=>exact absurd (iff.mpr rfl) w
   | false=>rfl
noncomputable def pY:bL:=fun xs Q=>∃ (n:Nat) (ls:List (Int × Int)) (els:List (Option Int)) (O:List Int) (h:Int),xs = [.lst (bC els),.int h]/\n<=40/\kQ n ls els O/\h ∈ rng n/\∀ r,r ∈ aQ ls (rng n)->cE ls (rng n) h r->Q (.int r)
noncomputable def ai0:aK:=(aB (lF (aZ (R6 (b7 (a5 0) (a5 1)) (qC .non)))
  (b6 1 (b7 (a5 0) (a5 1))))
 (kB 1))
theorem ba8:cR ai0 ["elders","hearth"] pY:=by
 rintro xs Q ⟨n,ls,els,O,h,rfl,n40,B,hr,q⟩
 obtain ⟨i,hi⟩:=gF (B.pair hr)
 refine⟨fun m ρ=>∃ (g:Int),ρ = [some (.sh false (.lst (bC els))),si g]/\g ∈ rng n/\(iO O els)[m]? = some (g,cZ els g)/\cE ls (rng n) h g,⟨i,h,rfl,hr,hi,fun _ _=>Iff.rfl⟩,?_⟩
 rintro m ρ ⟨g,rfl,gr,hg,t⟩
 have gm:=bR.mp gr
 have at1:=aY9 (els:=els) gm.1 (by rw [B.len]; omega)
 refine⟨_,rfl,_,rfl,_,_,_,rfl,rfl,at1,rfl,_,rfl,?_⟩
 cases e:cZ els g with
 | none=>
  refine bD ⟨_,rfl,trivial,q g ((B.rt.root g).mp ?_) t⟩
  have:=bg9 hg
  rw [e] at this
  exact this
 | some p=>
  rw [e] at hg at1
  obtain ⟨j,w,jm,hj,gn⟩:=B.rt.par m g p hg
  have pr:=B.rt.inr (bg9 hj)
  refine bH ⟨_,rfl,_,rfl,_,_,_,rfl,rfl,at1,trivial,j,jm,p,rfl,pr,?_,t.trans fun U c=>?_⟩
  ·rw [hj,(B.iff.mp (bg9 hj)).2]
  ·exact⟨fun z=>c _ z _ gn pr,fun z=>c _ z _ (jG gn) gr⟩
theorem ai1 {n:Nat}{ls:List (Int × Int)}{els els':List (Option Int)}{O:List Int} (B:kQ n ls els O) (F:ah6 n ls els'):els'=els:=by
 obtain ⟨l,P,R,ok⟩:=F
 refine List.ext_getElem (by rw [l,B.len]) fun i h1 h2=>?_
 have hr:(i:Int) ∈ rng n:=bR.mpr ⟨by omega,by omega⟩
 have:=ok _ _ ((aY4 B.rt R).mp (B.pair hr))
 unfold cZ at this
 rw [bk1,bh7,bh7,bg7 h1,bg7 h2] at this
 exact this
theorem zN (p:PV × PV->Bool) (hp:∀ o,p (gO o,gO o)=true):∀ l:List (Option Int),((bC l).zip (bC l)).all p=true
 | []=>rfl
 | x :: r=>by
  show (((gO x,gO x) :: (bC r).zip (bC r)).all p)=true
  rw [bt6,hp x,zN p hp r]; rfl
theorem ai2 (els:List (Option Int)):e9 3 (.lst (bC els)) (.lst (bC els))=true:=zN (fun p=>e9 2 p.1 p.2) (fun o=>by cases o <;> rfl) els
theorem ai3 (els:List (Option Int)):cB 3 (.lst (bC els)) (.lst (bC els))=true:=by
 have:((((bC els).zip (bC els)).all fun p=>cB 2 p.1 p.2) && (bC els).length == (bC els).length)=true:=by
  rw [zN (fun p=>cB 2 p.1 p.2) (fun o=>by
   cases o with
   | none=>rfl
   | some i=>show cB 2 (.int i) (.int i)=true; rw [Q8]; exact bp0 i) els]
  simp
 exact this
noncomputable def pZ:bL:=fun xs Q=>∃ ws ls,xs = [bG ws ls]/\Wb ws ls/\cM ws.length ls/\bM ws.length ls/\Q (.bl true)
noncomputable def zO (K:PySem.W.Frag):aK:=(aB (b6 1 (b7 (aD nX (a7 (a5 0) a9)) (qC (.int 0))))
 (aB (b6 2 (aD iY (a7 (a5 0) a9)))
 (aB (dB 3 (aD (kR fun _=>False) (a7 (a5 0) a9)))
 (aB (bX (kA (gL (aZ (iH K "bool" (a5 2)))) (kA (gL (lH (a5 2))) (kA (gL (aZ (iH K "list" (a5 3)))) (aZ (q2 (lK 2 true) (a5 3) (a5 1)))))) (bN (qC (.bl false))) cF)
 (aB (yU 3 4 (k9 (aZ (R6 (a5 4) (qC .non))) (gL (aZ (aD sZ (a7 (a5 4) a9))))) (qC (.bl false)))
 (aB (gN 3 (qC (.int 7)))
 (bN (q2 (lK 2 false) (aD (kR fun _=>False) (a7 (a5 0) a9)) (a5 1)))))))))
theorem ba9 {K:PySem.W.Frag} (kb:PySem.W.kitOne K (.type "bool") (.type "bool")=some true) (kl:PySem.W.kitOne K (.type "list") (.type "list")=some true):cR (zO K) ["web","due","told","found","elder"] pZ:=by
 rintro xs Q ⟨ws,ls,rfl,wb,lk,wd,q⟩
 have few:=wb.few
 show zO K _ [some (.sh (flat (bG ws ls)) (bG ws ls)),none,none,none,none]
 rw [sR]
 refine⟨_,rfl,ws,ls,rfl,wb,lk,wd,fun els O B=>⟨_,_,_,rfl,rfl,rfl,trivial,?_⟩⟩
 refine⟨_,rfl,ws,ls,rfl,wb,fun _=>⟨trivial,?_⟩,fun no=>absurd wd no⟩
 have lo:(bC els).length=ws.length:=by unfold bC; rw [bh1]; exact B.len
 refine⟨_,rfl,ws,ls,rfl,wb,lk,fun _ els' F=>?_,fun no=>absurd wd no⟩
 cases ai1 B F
 refine⟨rfl,tX _,?_⟩
 refine⟨_,rfl,_,_,rfl,kb,_,rfl,bD ?_⟩
 refine⟨_,rfl,_,rfl,bD ?_⟩
 refine⟨_,rfl,_,_,rfl,kl,_,rfl,bD ?_⟩
 refine⟨_,rfl,_,rfl,.inr ⟨_,_,rfl,rfl⟩,ai2 els,_,rfl,?_⟩
 show if (!cB 3 (.lst (bC els)) (.lst (bC els)))=true then _ else _
 rw [ai3]
 refine bD ?_
 have fin:∀ y4:Option Slot,(aB (gN 3 (qC (.int 7))) (bN (q2 (lK 2 false) (aD (kR fun _=>False) (a7 (a5 0) a9)) (a5 1)))) { nx:=fun _=>Q .non,rt:=Q } [some (.sh true (bG ws ls)),some (.sh true (.lst (bC els))),some (.sh true (.bl true)),some (.own (.lst (bC els))),y4]:=fun y4=>by
  refine⟨_,rfl,trivial,by rw [lo]; omega,?_⟩
  refine⟨_,rfl,ws,ls,rfl,wb,lk,fun _ els' F=>?_,fun no=>absurd wd no⟩
  cases ai1 B F
  refine⟨_,rfl,.inr ⟨_,_,rfl,rfl⟩,ai2 els,trivial,?_⟩
  show Q (.bl (cB 3 (.lst (bC els)) (.lst (bC els))))
  rw [ai3]
  exact q
 refine⟨bC els,rfl,by decide,tX _,fun x hx=>?_,fin _,fun o=>fin _⟩
 obtain ⟨o,_,rfl⟩:=bi8.mp hx
 refine⟨_,rfl,rfl,_,rfl,?_⟩
 cases o with
 | none=>exact bD (bD trivial)
 | some i=>exact bH ⟨_,rfl,_,rfl,_,rfl,bD trivial⟩
noncomputable abbrev u5:bL:=ac2 12
noncomputable abbrev ai4:aK:=ac5 tI
theorem bb0:cR ai4 ["script","most","many","sparse","digits","cells","k","links","counts","other","number","one","draw","wants"] u5:=aU2 (by decide) fun m h=>aU3 (by omega)
noncomputable def zP:bL:=Z4
noncomputable def zQ (K:PySem.W.Frag):aK:=(aB (bX (aZ (wT (aD pY (a7 (a5 7) (a7 (a5 4) a9))) (aD pY (a7 (a5 7) (a7 (a5 5) a9))))) (bN (aD pZ (a7 (a5 8) a9))) cF)
 (aB (b6 9 (aD iY (a7 (a5 8) a9)))
 (bN (lD (iH K "bool" (a5 9)) (lD (rK (a5 9)) (aD m8 (a7 (a5 8) a9)))))))
noncomputable def ai5 (K:PySem.W.Frag):aK:=(aB (b6 6 (g6 (a7 (aD mT (a7 (a5 4) (a7 (a5 5) a9))) (a7 (aD mU (a7 (a5 4) (a7 (a5 5) a9))) a9))))
 (aB (bX (aZ (q2 yT (a5 6) (b7 (a5 1) (qC (.int 1))))) (bN (qC (.bl true))) cF)
 (aB (b6 7 (b7 (aD nX (a7 (a5 1) a9)) (qC (.int 0))))
 (aB (b6 8 (g6 (a7 (b7 (a5 1) (qC (.int 0))) (a7 (aD jM (a7 (aD zJ (a7 (Z9 (b7 (a5 1) (qC (.int 1))) (g6 (a7 (a5 6) a9))) a9)) a9)) a9))))
 (zQ K)))))
noncomputable def ai6 (K:PySem.W.Frag):aK:=(aB (b6 1 (aD tV (a7 (a5 0) (a7 (qC (.int 40)) a9))))
 (aB (bX (kA (gL (aZ (aD pZ (a7 (a5 1) a9)))) (gL (aZ (aD u0 (a7 (aD u5 (a7 (a5 0) (a7 (qC (.int 12)) a9))) a9))))) (bN (qC (.bl false))) cF)
 (aB (b6 2 (aD dJ (a7 (b7 (a5 1) (qC (.int 0))) a9)))
 (aB (bX (aZ (p7 (a5 2) (qC (.int 2)))) (bN (qC (.bl true))) cF)
 (aB (b6 3 (aD eD (a7 (a5 0) (a7 (qC (.int 3)) a9))))
 (aB (b6 4 (cC (a5 3) (a5 2)))
 (aB (b6 5 (cC (cG (cG (a5 4) (qC (.int 1))) (cC (fC (a5 3) (qC (.int 41))) (lM (a5 2) (qC (.int 1))))) (a5 2)))
 (ai5 K))))))))
section
variable {ws : List Int} {ls rs : List (Int × Int)} {els : List (Option Int)} {O : List Int} {a b : Int} {Q : PV → Prop} {s0 s2 s3 s6 : Option Slot}
theorem bb1 {K:PySem.W.Frag} (kb:PySem.W.kitOne K (.type "bool") (.type "bool")=some true) (n40:ws.length<=40) (wb':Wb ws rs) (lk':cM ws.length rs) (B:kQ ws.length ls els O) (ha:a ∈ rng ws.length) (hb:b ∈ rng ws.length) (yes : ¬ cE ls (rng ws.length) a b->bM ws.length rs) (no:cE ls (rng ws.length) a b->¬ bM ws.length rs) (q:Q (.bl true)) :
  zQ K { nx:=fun _=>Q .non,rt:=Q } [s0,some (.sh true (bG ws ls)),s2,s3,si a,si b,s6,some (.sh true (.lst (bC els))),some (.sh true (bG ws rs)),none]:=by
 refine⟨_,rfl,_,rfl,ws.length,ls,els,O,a,rfl,n40,B,ha,fun r1 h1 t1=>?_⟩
 refine⟨_,rfl,_,rfl,ws.length,ls,els,O,b,rfl,n40,B,hb,fun r2 h2 t2=>.inl ⟨_,_,rfl,rfl,_,rfl,?_⟩⟩
 show if (!decide (r1=r2))=true then _ else _
 by_cases c:r1=r2
 ·rw [bg8 c]
  have n:=no (t1.trans (by rw [c]; exact t2.symm))
  refine bD ?_
  refine⟨_,rfl,ws,rs,rfl,wb',fun w=>absurd w n,fun _=>⟨trivial,?_⟩⟩
  refine⟨_,rfl,_,_,rfl,kb,_,rfl,bH ⟨_,rfl,_,rfl,_,rfl,bH ?_⟩⟩
  exact⟨_,rfl,ws,rs,rfl,wb',lk',n,trivial,q⟩
 ·rw [bh5 c]
  have y:=yes fun t=>c (ah3 (fF _) h1 h2 ((t1.symm.trans t).trans t2))
  exact bH ⟨_,rfl,ws,rs,rfl,wb',lk',y,trivial,q⟩
theorem bb2 {K:PySem.W.Frag}{c:Int} (kb:PySem.W.kitOne K (.type "bool") (.type "bool")=some true) (wb:Wb ws ls) (lk:cM ws.length ls) (wd:bM ws.length ls) (ha:a ∈ rng ws.length) (hb:b ∈ rng ws.length) (ne:a ≠ b) (q:Q (.bl true)) :
  ai5 K { nx:=fun _=>Q .non,rt:=Q } [s0,some (.sh true (bG ws ls)),s2,s3,si a,si b,none,none,none,none]:=by
 have few:=wb.few
 have am:=bR.mp ha
 have bm:=bR.mp hb
 have lsl:ls.length<=ws.length:=by unfold bM at wd; omega
 let l:Int × Int:=(if b < a then b else a,if b > a then b else a)
 have l1:l.1=if b < a then b else a:=rfl
 have l2:l.2=if b > a then b else a:=rfl
 have lr:l.1 ∈ rng ws.length/\l.2 ∈ rng ws.length/\l.1 < l.2:=by
  rw [l1,l2]
  by_cases z:b < a
  ·rw [if_pos z,if_neg (by omega)]; exact⟨hb,ha,z⟩
  ·rw [if_neg z,if_pos (by omega)]; exact⟨ha,hb,by omega⟩
 have tl:cE ls (rng ws.length) l.1 l.2 ↔ cE ls (rng ws.length) a b:=by
  rw [l1,l2]
  by_cases z:b < a
  ·rw [if_pos z,if_neg (by omega)]; exact⟨fun t=>t.symm,fun t=>t.symm⟩
  ·rw [if_neg z,if_pos (by omega)]
 refine⟨_,rfl,_,rfl,_,_,rfl,_,rfl,_,rfl,_,_,rfl,by show 2<=1000; decide,rfl,trivial,?_⟩
 show (aB _ _) _ [_,_,_,_,_,_,some (Slot.sh true (.tup [.int l.1,.int l.2])),_,_,_]
 refine⟨_,rfl,_,rfl,_,_,_,rfl,rfl,rfl,two l,ls.map two,rfl,by rw [<- lW]; rfl,_,rfl,?_⟩
 have mi:two l ∈ ls.map two ↔ l ∈ ls:=⟨fun z=>by
  obtain ⟨m,hm,e⟩:=bi8.mp z
  unfold two at e
  have e1:m.1=l.1:=by injection e
  have e2:m.2=l.2:=by injection e with _ e; injection e
  rw [<- show m=l from Prod.ext e1 e2]; exact hm,fun z=>bi8.mpr ⟨l,z,rfl⟩⟩
 by_cases c:two l ∈ ls.map two
 ·rw [bg8 c]
  exact bH ⟨trivial,q⟩
 rw [bh5 c]
 have nl:l ∉ ls:=fun z=>c (mi.mpr z)
 refine bD ?_
 refine⟨_,rfl,ws,ls,rfl,wb,lk,wd,fun els O B=>⟨_,_,_,rfl,rfl,rfl,trivial,?_⟩⟩
 refine⟨_,rfl,_,_,_,rfl,rfl,rfl,_,rfl,_,_,_,rfl,rfl,rfl,_,rfl,by show 1<=1000; decide,rfl,bE ls,bE [l],rfl,rfl,kL _,kL _,by rw [xR,xR,bk8]; omega,?_⟩
 refine⟨(ls ++ [l]).map two,by rw [<- lW,aV7]; rfl,by rw [bh1,bi4,bk8]; omega,fun y hy=>by obtain ⟨l,_,rfl⟩:=bi8.mp hy; exact List.cons_ne_nil _ _,fun Z pz so=>?_⟩
 obtain ⟨rs,rfl,pm⟩:=xW pz
 rw [<- lW]
 refine⟨⟨_,_,rfl,rfl,kL _,?_⟩,fun ns z=>by cases z⟩
 refine⟨by show 2<=1000; decide,?_,trivial,?_⟩
 ·show (flats (intz ws) && (flats (bE rs) && true))=true
  rw [dX,show flats (bE rs)=true from kL rs]; rfl
 show zQ K _ [_,_,_,_,_,_,_,_,some (Slot.sh true (bG ws rs)),_]
 have nd:rs.Nodup:=pm.nodup_iff.mpr (bp5.mpr ⟨lk.2.2.imp fun {a b} h e=>by subst e; unfold iK at h; omega,bo4.mpr ⟨(fun z=>by cases z),List.nodup_nil⟩,fun a ha b hb e=>by rw [bg6.mp hb] at e; exact nl (e ▸ ha)⟩)
 have inn:∀ m ∈ rs,0<=m.1/\m.1 < m.2/\m.2 < (ws.length:Int):=fun m hm=>by
  rcases bh6.mp (pm.mem_iff.mp hm) with z | z
  ·exact lk.1 m z
  ·rw [bg6.mp z]
   have x1:=bR.mp lr.1
   have x2:=bR.mp lr.2.1
   exact⟨x1.1,lr.2.2,x2.2⟩
 have lk':cM ws.length rs:=⟨inn,by rw [pm.length_eq,bi4,bk8]; omega,Z2 so nd⟩
 have wb':Wb ws rs:=⟨few,lk'.2.1,fun m hm=>by have:=inn m hm; omega⟩
 refine bb1 kb few wb' lk' B ha hb (fun t=>aZ9 wd pm lr.1 lr.2.1 fun z=>t (tl.mp z)) (fun t=>ah5 nd (pm.mem_iff.mpr (bi9 _ (bg6.mpr rfl))) (fun m hm=>⟨pm.mem_iff.mpr (bj3 _ hm),fun e=>nl (e ▸ hm)⟩) (tl.mpr t)) q
end
theorem bb3 {a k n:Int} (a0:0<=a) (a1:a < n) (k1:1<=k) (k2:k < n):a ≠ (a+k) % n:=by
 by_cases z:a+k < n
 ·rw [Int.emod_eq_of_lt (by omega) z]; omega
 ·rw [<- Int.sub_emod_right,Int.emod_eq_of_lt (by omega) (by omega)]; omega
theorem bb4 {K:PySem.W.Frag} (kb:PySem.W.kitOne K (.type "bool") (.type "bool")=some true):cR (ai6 K) ["script","web","many","cell","one","other","pair","elders","more","told"] zP:=by
 rintro xs Q ⟨ns,rfl,hl,q⟩
 refine⟨_,rfl,ns,40,rfl,hl,by decide,by decide,fun n ws ls n1 w lk wd=>⟨trivial,?_⟩⟩
 have wl:=w.many
 have wb:Wb ws ls:=w.wb (by omega)
 have en:ws.length=n:=by omega
 subst en
 have few:=wb.few
 refine⟨_,rfl,ws,ls,rfl,wb,lk,wd,_,rfl,bD ?_⟩
 refine⟨_,rfl,ns,12,rfl,hl,by decide,by decide,fun m vs ks m0 m1 v=>?_⟩
 have vl:=v.many
 have vb:Wb vs ks:=v.wb (by omega)
 have vk:cM vs.length ks:=⟨fun l hl=>by have:=v.inn l hl; omega,v.most,v.ord⟩
 refine⟨vs,ks,rfl,vb,vk,_,rfl,bD ?_⟩
 refine⟨_,rfl,_,_,_,rfl,rfl,rfl,_,_,rfl,rfl,trivial,?_⟩
 rw [bP]
 refine⟨_,rfl,_,_,rfl,rfl,_,rfl,?_⟩
 by_cases c:(ws.length:Int) < 2
 ·rw [bg8 c]
  exact bH ⟨trivial,q⟩
 rw [bh5 c]
 refine bD ?_
 refine⟨_,rfl,_,ns,3,rfl,.inl rfl,by decide,trivial,?_⟩
 generalize ns.getD (3:Int).toNat 0=x
 have n0:(0:Int) < (ws.length:Int):=by omega
 have a0:=bo6 x (show (ws.length:Int) ≠ 0 by omega)
 have a1:=br2 x n0
 have d0:=bo6 (x / 41) (show (ws.length:Int) - 1 ≠ 0 by omega)
 have d1:=br2 (x / 41) (show (0:Int) < (ws.length:Int) - 1 by omega)
 refine⟨_,rfl,_,rfl,_,_,rfl,rfl,n0,trivial,?_⟩
 refine⟨_,rfl,_,_,rfl,rfl,_,rfl,_,_,rfl,rfl,⟨by decide,by decide⟩,_,rfl,_,_,rfl,rfl,_,_,rfl,rfl,(by show (0:Int) < (ws.length:Int) - 1; omega),_,_,rfl,rfl,_,rfl,_,_,rfl,rfl,n0,trivial,?_⟩
 have b0:=bo6 (x % (ws.length:Int)+1+x / 41 % ((ws.length:Int) - 1)) (show (ws.length:Int) ≠ 0 by omega)
 have b1:=br2 (x % (ws.length:Int)+1+x / 41 % ((ws.length:Int) - 1)) n0
 have ne:=bb3 a0 a1 (show 1<=1+x / 41 % ((ws.length:Int) - 1) by omega) (by omega)
 rw [<- Int.add_assoc] at ne
 exact bb2 (c:=x) kb wb lk wd (bR.mpr ⟨a0,a1⟩) (bR.mpr ⟨b0,b1⟩) ne q
end Core
namespace K_k48
open PySem PySem.W L2 PP Core
theorem _root_.L2.FnScope.au {N P:List Str}{s:Scope} (a:s.kind=.function:=by rfl) (b:s.isCoroutine=false:=by rfl) (c:s.isGenerator=false:=by rfl) (d:N.Nodup:=by decide +kernel) (e:N.take P.length=P:=by rfl) (f:∀ x∈P,s.names.lookup x=some .local∨s.names.lookup x=some .cell:=by decide +kernel) (g:∀ y∈s.names,y.2≠.free:=by decide +kernel):FnScope N P s:=⟨a,b,c,d,e,f,g⟩
noncomputable def bB (i:Nat):Stmt:=PySem.Challenge.pw_kindleweb_k48_woods_and_elders.main.body.getD i (.Pass ⟨0,0,0,0⟩)
structure FK (K:Frag) (n:Str) (i:Nat) (f:Addr) (d:FuncData):Prop where
 a:nsIn K mainGlobals n=some (some (.ref f))
 F:eZ K n n (bB i) f d
structure FM (K:Frag) (mg:Str->Option Value) (n:Str) (i:Nat) (f:Addr) (d:FuncData):Prop where
 F:eZ K n n (bB i) f d
 m:mg n=some (.ref f)
theorem FK.M {K:Frag}{mg:Str->Option Value}{n:Str}{i:Nat}{f:Addr}{d:FuncData}{h:Heap} (z:FK K n i f d) (X:K.In h) (G:h.Ns mainGlobals mg):FM K mg n i f d:=⟨z.F,mg_of X G z.a⟩
noncomputable abbrev Hb (x:Str) (ps:List Str) (i:Nat):Prop:=∀ (kV doc pm:Value) (an:Option Addr) (cdv ct:Value) (us:List Value),us.length=ps.length->bindArgs (fnOf x x (jD (bB i)) (eY (bB i)) (aY (bB i)) .none kV doc pm an cdv ct) ⟨us,[]⟩=pure (ps.zip us)
theorem zR {A:Around}{k:Nat} (hr:cA k A):A.units+3 < cLine:=by have:=hr.units; omega
section
variable {P : Program} {w : World} {K : Frag} {mg : Str → Option Value} {base : Heap} {f : Addr} {fd : FuncData} {k i : Nat} {x : Str} {ps N : List Str}
theorem Df.au {p:bL} (F:FM K mg x i f fd) (S:FnScope N ps (aY (bB i))) (body:∀ (cdv:Value) (A:Around) (outer:List Env) (s:Shared) (H:Hp) (E:XK),cA k (A.deeper (PyProof.Rows.envOfC x (aY (bB i)) s.heap.objs.size f cdv))->∃ t,fD (dM dQ P w K mg base N x (aY (bB i)) f cdv A outer s H E).nox (eY (bB i)) t/\∀ xs Q,p xs Q->t { nx:=fun _=>Q .non,rt:=Q } (gA N xs)) (hb:Hb x ps i:=by intro _ _ _ _ _ _ us hl; first | (obtain ⟨_,rfl⟩:=nN hl; rfl) | (obtain ⟨_,_,rfl⟩:=yI hl; rfl) | (obtain ⟨_,_,_,rfl⟩:=us3 hl; rfl) | (obtain ⟨_,_,_,_,rfl⟩:=us4 hl; rfl) | (obtain ⟨_,_,_,_,_,rfl⟩:=us5 hl; rfl)) (len:∀ xs Q,p xs Q->xs.length=ps.length:=by intro xs Q h; repeat (first | (obtain ⟨rfl,_⟩:=h; rfl) | (obtain ⟨_,h⟩:=h))):Df P w K mg base (k+1) x ps p:=
 Df.of F.F F.m S hb len body
theorem cS.au {p:eS} (F:FM K mg x i f fd) (S:FnScope N ps (aY (bB i))) (t:(Str->Prop)->aK) (rd:∀ Ep xs Q,p Ep xs Q->t Ep { nx:=fun _=>Q .non,rt:=Q } (gA N xs)) (body:∀ (cdv:Value) (A:Around) (outer:List Env) (s:Shared) (H:Hp) (E:XK) (Ep:Str->Prop),cA k (A.deeper (PyProof.Rows.envOfC x (aY (bB i)) s.heap.objs.size f cdv))->nG (dM (eC P w) P w K mg base N x (aY (bB i)) f cdv A outer s H E) (EX K H Ep)->fD (dM (eC P w) P w K mg base N x (aY (bB i)) f cdv A outer s H E) (eY (bB i)) (t Ep)) (hb:Hb x ps i:=by intro _ _ _ _ _ _ us hl; first | (obtain ⟨_,rfl⟩:=nN hl; rfl) | (obtain ⟨_,_,rfl⟩:=yI hl; rfl) | (obtain ⟨_,_,_,rfl⟩:=us3 hl; rfl) | (obtain ⟨_,_,_,_,rfl⟩:=us4 hl; rfl) | (obtain ⟨_,_,_,_,_,rfl⟩:=us5 hl; rfl)) (len:∀ Ep xs Q,p Ep xs Q->xs.length=ps.length:=by intro Ep xs Q h; repeat (first | (obtain ⟨rfl,_⟩:=h; rfl) | (obtain ⟨_,h⟩:=h))):cS P w K mg base (k+1) x ps p:=
 cS.of F.F F.m S hb t len rd body
end
section
variable {P : Program} {w : World} {K : Frag} {mg : Str → Option Value} {base : Heap} {f : Addr} {fd : FuncData}
theorem nd2:(["ahead","behind"]:List Str).Nodup:=by decide +kernel
noncomputable abbrev ai7:Stmt:=bB 6
theorem scR:FnScope ["things"] ["things"] (aY ai7):=.au
theorem zT {ns:List Int}{i:Nat}{x y:V} (h1:(ns.map V.int)[i]? = some x) (h2:((ns.map V.int).drop 1)[i]? = some y):∃ p q:Int,x = .int p/\y = .int q/\(ns.zip (ns.drop 1))[i]? = some (p,q):=by
 rw [bh9] at h1
 rw [<- List.map_drop,bh9] at h2
 cases e1:ns[i]? with
 | none=>rw [e1] at h1; cases h1
 | some p=>
  cases e2:(ns.drop 1)[i]? with
  | none=>rw [e2] at h2; cases h2
  | some q=>
   rw [e1] at h1; rw [e2] at h2
   exact⟨p,q,(bj9 h1).symm,(bj9 h2).symm,List.getElem?_zip_eq_some.mpr ⟨e1,e2⟩⟩
theorem bb5 (B:Bt mg) (F:eZ K "rises" "rises" ai7 f fd):cP P w K mg base dQ 1 f fd ["things"] (Y9 K):=by
 refine F.ok scR (fun vs H Q E h=>?_) (fun cdv A outer s H vs Q E hr h=>?_)
 ·obtain ⟨a,ns,rfl,_⟩:=h
  rfl
 obtain ⟨a,ns,rfl,hS,hn,q⟩:=h
 have lz:((ns.map V.int).drop 1).length<=sizeLine:=bl7 (hG (by rw [bs4,bh1]; omega))
 have lz2:((ns.map V.int).drop 1).length<=(ns.map V.int).length:=by rw [bs4]; omega
 have lz3:(ns.zip (ns.drop 1)).length=((ns.map V.int).drop 1).length:=by rw [List.length_zip,bs4,bs4,bh1]; omega
 rcases hS with hS | hS
 ·refine⟨_,j5 (kX (oD (w5 rfl) rfl B.all PyProof.Rows.boot_all (cO (K7 (N:=["ahead","behind"]) (fr:=[none,none]) rfl (cV.of rfl rfl) (ay7 rfl B.zip (cO (pv 0) (cO (uX N8 (pv 0) (uW kT) E9) dL)))
   ⟨fun _ _ _ _=>show PG _ _ (mD K 2 (i9 (cU 0) (i9 (cU 1) mB))) from mE rfl (gU (eJ (i:=0) nd2 rfl (Or.inl rfl) (.inr rfl)) (gU (eJ (i:=1) nd2 rfl (Or.inl rfl) (.inr rfl)) mC)),fun _ _ _ _=>oJ,fun _ _ _ _=>uN qJ (pv 0) (pv 1) (gH _)⟩) dL))),?_⟩
  refine⟨_,rfl,_,rfl,1,rfl,a,_,rfl,hS,fun p hp=>?_,fun e=>?_⟩
  ·have s1:=bI hp (.tup (eL (ns.map V.int) (some 1) none))
   have hb:aJ K (upd H p (.tup (eL (ns.map V.int) (some 1) none))) p ((ns.map V.int).drop 1):=aJ.of (by rw [bK,wA])
   refine⟨a,p,_,_,rfl,s1.tup hS,hb,w9 (N7 (s1.tup hS) hb lz2) (fun i acc _=>acc=((ns.zip (ns.drop 1)).take i).map fun (p:Int × Int)=>V.bl (decide (p.1 < p.2))) lz (fun _ _=>rfl) (fun _ _ _ _ _ h=>h) (fun i x acc D H' hi hR c hP=>?_) (fun D acc H' hD sm hDa hlen hP=>?_)⟩
   ·obtain ⟨T,x1,y1,rfl,hT,h1,h2⟩:=hR
    obtain ⟨m,k,rfl,rfl,hz⟩:=zT h1 h2
    refine⟨T,_,rfl,aJ.of hT,rfl,_,_,rfl,_,_,rfl,rfl,((Wk.refl _).set (i:=0) rfl).set (i:=1) rfl,oP ⟨_,rfl,_,rfl,_,_,rfl,rfl,c.yes (aA.refl _) ?_⟩⟩
    rw [sQ hz,hP]
   ·refine⟨D,(ns.zip (ns.drop 1)).map fun (p:Int × Int)=>decide (p.1 < p.2),rfl,aN.of ?_,q _ (s1.trans sm)⟩
    rw [hDa,hP,<- lz3,bs5,bq7]; rfl
  ·have hb:aJ K H a ((ns.map V.int).drop 1):=by
    have:(ns.map V.int).drop 1=ns.map V.int:=by rw [<- wA]; exact e
    rw [this]; exact hS
   refine⟨a,a,_,_,rfl,hS,hb,w9 (N7 hS hb lz2) (fun i acc _=>acc=((ns.zip (ns.drop 1)).take i).map fun (p:Int × Int)=>V.bl (decide (p.1 < p.2))) lz (fun _ _=>rfl) (fun _ _ _ _ _ h=>h) (fun i x acc D H' hi hR c hP=>?_) (fun D acc H' hD sm hDa hlen hP=>?_)⟩
   ·obtain ⟨T,x1,y1,rfl,hT,h1,h2⟩:=hR
    obtain ⟨m,k,rfl,rfl,hz⟩:=zT h1 h2
    refine⟨T,_,rfl,aJ.of hT,rfl,_,_,rfl,_,_,rfl,rfl,((Wk.refl _).set (i:=0) rfl).set (i:=1) rfl,oP ⟨_,rfl,_,rfl,_,_,rfl,rfl,c.yes (aA.refl _) ?_⟩⟩
    rw [sQ hz,hP]
   ·refine⟨D,(ns.zip (ns.drop 1)).map fun (p:Int × Int)=>decide (p.1 < p.2),rfl,aN.of ?_,q _ sm⟩
    rw [hDa,hP,<- lz3,bs5,bq7]; rfl
 ·refine⟨_,j5 (kX (oD (w5 rfl) rfl B.all PyProof.Rows.boot_all (cO (K7 (N:=["ahead","behind"]) (fr:=[none,none]) rfl (cV.of rfl rfl) (az3 rfl B.zip (cO (pv 0) (cO (uX F9 (pv 0) (uW kT) E9) dL)))
   ⟨fun _ _ _ _=>show PG _ _ (mD K 2 (i9 (cU 0) (i9 (cU 1) mB))) from mE rfl (gU (eJ (i:=0) nd2 rfl (Or.inl rfl) (.inr rfl)) (gU (eJ (i:=1) nd2 rfl (Or.inl rfl) (.inr rfl)) mC)),fun _ _ _ _=>oJ,fun _ _ _ _=>uN qJ (pv 0) (pv 1) (gH _)⟩) dL))),?_⟩
  refine⟨_,rfl,_,rfl,1,rfl,a,_,rfl,hS,fun p hp=>?_⟩
  have s1:=bI hp (.lst (eL (ns.map V.int) (some 1) none))
  have hb:aN K (upd H p (.lst (eL (ns.map V.int) (some 1) none))) p ((ns.map V.int).drop 1):=aN.of (by rw [bK,wA])
  refine⟨a,p,_,_,rfl,s1.seq hS,hb,w9 (az4 (s1.seq hS) hb lz2) (fun i acc _=>acc=((ns.zip (ns.drop 1)).take i).map fun (p:Int × Int)=>V.bl (decide (p.1 < p.2))) lz (fun _ _=>rfl) (fun _ _ _ _ _ h=>h) (fun i x acc D H' hi hR c hP=>?_) (fun D acc H' hD sm hDa hlen hP=>?_)⟩
  ·obtain ⟨T,x1,y1,rfl,hT,h1,h2⟩:=hR
   obtain ⟨m,k,rfl,rfl,hz⟩:=zT h1 h2
   refine⟨T,_,rfl,aJ.of hT,rfl,_,_,rfl,_,_,rfl,rfl,((Wk.refl _).set (i:=0) rfl).set (i:=1) rfl,oP ⟨_,rfl,_,rfl,_,_,rfl,rfl,c.yes (aA.refl _) ?_⟩⟩
   rw [sQ hz,hP]
  ·refine⟨D,(ns.zip (ns.drop 1)).map fun (p:Int × Int)=>decide (p.1 < p.2),rfl,aN.of ?_,q _ (s1.trans sm)⟩
   rw [hDa,hP,<- lz3,bs5,bq7]; rfl
noncomputable abbrev ai8:Stmt:=bB 8
theorem u6:FnScope ["web","around","one","other"] ["web"] (aY ai8):=.au
theorem bb6 (F:eZ K "near_lists" "near_lists" ai8 f fd):cP P w K mg base dQ 1 f fd ["web"] t7:=by
 refine F.ok u6 (fun vs H Q E h=>?_) (fun cdv A outer s H vs Q E hr h=>?_)
 ·obtain ⟨v,ws,ls,rfl,_⟩:=h
  rfl
 obtain ⟨v,ws,ls,rfl,W,hn,hm,hin,q⟩:=h
 refine⟨_,kU (K8 (i:=1) (N:=["want"]) (fr:=[none]) rfl (cV.of rfl rfl) (qG (jA oF (pv 0) kT (fun _ _=>rfl)))
   ⟨fun _ _ _ _=>eJ (i:=0) (bj8 _ _) rfl (Or.inl rfl) (.inr rfl),fun _ _ _ _=>oJ,fun _ _ _ _=>uS dL⟩ u6.nd rfl rfl rfl)
  (kU (qI bu9 rfl (qG (jA oF (pv 0) kT (fun _ _=>rfl))) (mE (n:=2) rfl (gU (eJ (i:=2) u6.nd rfl (Or.inl rfl) (.inr rfl)) (gU (eJ (i:=3) u6.nd rfl (Or.inl rfl) (.inr rfl)) mC)) )
   (kU (kW (l9 bp1 bt8 bt9 mJ (jA oE (pv 1) (pv 2) (fun _ _=>rfl)) (cO (pv 3) dL)))
   (j5 (kW (l9 bp1 bt8 bt9 mJ (jA oE (pv 1) (pv 3) (fun _ _=>rfl)) (cO (pv 2) dL))))))
  (j5 (kX (pv 1)))),?_⟩
 obtain ⟨a,p,q',ys,rfl,ha,hp,hq,hL⟩:=W.at_
 have lw:(ws.map V.int).length=ws.length:=bh1 _
 refine⟨_,rfl,a,_,_,_,rfl,rfl,aJ.of ha,rfl,p,rfl,⟨_,aJ.of hp⟩,L7 (L5 (aJ.of hp)) (fun i acc H'=>∃ bs:List Addr,acc=bs.map V.ref/\bs.length=i/\bs.Nodup/\∀ b ∈ bs,H b=none/\H' b=some (.lst [])) (by rw [lw]; exact bl7 (qQ hn))
  (fun D hD=>⟨[],rfl,rfl,List.nodup_nil,fun _ z=>nomatch z⟩) (fun i x acc D H' hx c hPv=>?_) (fun D acc H' hD sm hDa hlen hPv=>?_)⟩
 ·obtain ⟨bs,rfl,hbl,nd,hb⟩:=hPv
  refine⟨N1 (n:=none),oP ⟨bk7 _,fun r hr'=>?_⟩⟩
  have hrD:r ≠ D:=fun z=>by rw [z,c.acc] at hr'; cases hr'
  have hrH:H r=none:=c.same.free hr'
  refine c.yes (bI hr' _) ⟨bs ++ [r],by simp,by simp [hbl],?_,fun b hm=>?_⟩
  ·refine bp5.mpr ⟨nd,bj8 _ _,fun b hb1 b' hb2 e=>?_⟩
   rw [bg6.mp hb2] at e
   rw [e] at hb1
   rw [(hb r hb1).2] at hr'; cases hr'
  ·rcases bh6.mp hm with hm | hm
   ·have hbD:b ≠ D:=fun z=>by
     rw [z] at hm
     have:=(hb D hm).2
     rw [c.acc] at this
     have:bs.map V.ref = []:=by injection this with e1; injection e1
     have:bs = []:=List.map_eq_nil_iff.mp this
     rw [this] at hm; simp at hm
    refine⟨(hb b hm).1,?_⟩
    rw [aW hbD,aW (dP (hb b hm).2 hr')]
    exact (hb b hm).2
   ·rw [bg6.mp hm]
    exact⟨hrH,by rw [aW hrD,bK]⟩
 ·obtain ⟨bs,rfl,hbl,nd,hb⟩:=hPv
  rw [lw] at hbl
  have R0:iD H H' D bs (fun k=>aR (ls.take 0) k):=by
   refine⟨hD,fun b hm=>⟨(hb b hm).1,fun z=>?_⟩,nd,hDa,fun k b hk=>(hb b (bg9 hk)).2,sm⟩
   rw [z] at hm
   have:=(hb D hm).2
   rw [hDa] at this
   have:bs.map V.ref = []:=by injection this with e1; injection e1
   have:bs = []:=List.map_eq_nil_iff.mp this
   rw [this] at hm; simp at hm
  have lL:=hL.length
  refine⟨_,rfl,a,_,_,_,rfl,rfl,aJ.of (sm _ _ ha),rfl,q',rfl,⟨_,aJ.of (sm _ _ hq)⟩,B5 (K:=K) (a:=q') (xs:=ys) (fun i σ H2=>∃ x y:Option V,σ = [some (.ref a),some (.ref D),x,y]/\iD H H2 D bs (fun k=>aR (ls.take i) k))
   ⟨none,none,rfl,R0⟩ (fun i σ H2 _ ⟨_,_,_,R⟩=>aJ.of (R.same _ _ hq)) ?_ ?_⟩
  ·rintro i y σ H2 hi ⟨x1,x2,rfl,R⟩
   obtain ⟨l,b,hl,rfl,hbt⟩:=hL.get hi
   have hlm:l ∈ ls:=bg9 hl
   obtain ⟨⟨h1,h2⟩,h3,h4⟩:=hin l hlm
   have k1:l.1.toNat < bs.length:=by omega
   have k2:l.2.toNat < bs.length:=by omega
   have e1:bs[l.1.toNat]? = some (bs[l.1.toNat]):=bg7 k1
   have e2:bs[l.2.toNat]? = some (bs[l.2.toNat]):=bg7 k2
   refine⟨b,_,rfl,aJ.of (R.same _ _ hbt),rfl,_,_,rfl,_,_,rfl,rfl,?_⟩
   refine⟨_,rfl,_,rfl,D,_,_,.ref bs[l.1.toNat],rfl,rfl,aN.of R.row,mO h1 (by rw [bh9,e1]; rfl),k8 (aN.of (R.rows _ _ e1)),_,rfl,_,_,_,rfl,rfl,R.rows _ _ e1,?_,?_⟩
   ·rw [bh1]
    have:=rB (ls.take i) (l.1.toNat:Nat)
    rw [br4] at this
    exact hG (by omega)
   ·have R1:=R.app e1 l.2
    refine⟨_,rfl,_,rfl,D,_,_,.ref bs[l.2.toNat],rfl,rfl,aN.of R1.row,mO h3 (by rw [bh9,e2]; rfl),k8 (aN.of (R1.rows _ _ e2)),_,rfl,_,_,_,rfl,rfl,R1.rows _ _ e2,?_,?_⟩
    ·rw [bh1]
     have:=rB (ls.take i) (l.2.toNat:Nat)
     rw [br4] at this
     split
     ·rw [bi4,bk8]; exact hG (by omega)
     ·exact hG (by omega)
    ·have R2:=R1.app e2 l.1
     refine⟨_,_,rfl,R2.congr fun k hk=>?_⟩
     rw [N4 hl]
     have c1:(k=l.1.toNat) ↔ l.1=(k:Int):=by omega
     have c2:(k=l.2.toNat) ↔ l.2=(k:Int):=by omega
     by_cases d1:k=l.1.toNat
     ·by_cases d2:k=l.2.toNat
      ·rw [if_pos d2,if_pos d1,if_pos (c1.mp d1),if_pos (c2.mp d2)]; simp
      ·rw [if_neg d2,if_pos d1,if_pos (c1.mp d1),if_neg (fun z=>d2 (c2.mpr z))]; simp
     ·by_cases d2:k=l.2.toNat
      ·rw [if_pos d2,if_neg d1,if_neg (fun z=>d1 (c1.mpr z)),if_pos (c2.mp d2)]; simp
      ·rw [if_neg d2,if_neg d1,if_neg (fun z=>d1 (c1.mpr z)),if_neg (fun z=>d2 (c2.mpr z))]; simp
  ·
   rintro σ H2 ⟨x1,x2,rfl,R⟩
   refine⟨_,rfl,q D bs H2 hbl ?_⟩
   rw [lL,bs5] at R
   exact R
noncomputable abbrev ai9:Stmt:=bB 33
theorem u7:FnScope ["web","beside","one","other"] ["web"] (aY ai9):=.au
theorem bb7 (F:eZ K "_law_beside" "_law_beside" ai9 f fd):cP P w K mg base dQ 1 f fd ["web"] t7:=by
 refine F.ok u7 (fun vs H Q E h=>?_) (fun cdv A outer s H vs Q E hr h=>?_)
 ·obtain ⟨v,ws,ls,rfl,_⟩:=h
  rfl
 obtain ⟨v,ws,ls,rfl,W,hn,hm,hin,q⟩:=h
 refine⟨_,kU (K8 (i:=1) (N:=["hearth"]) (fr:=[none]) rfl (cV.of rfl rfl) (qG (jA oF (pv 0) kT (fun _ _=>rfl)))
   ⟨fun _ _ _ _=>eJ (i:=0) (bj8 _ _) rfl (Or.inl rfl) (.inr rfl),fun _ _ _ _=>oJ,fun _ _ _ _=>uS dL⟩ u7.nd rfl rfl rfl)
  (kU (qI bu9 rfl (qG (jA oF (pv 0) kT (fun _ _=>rfl))) (mE (n:=2) rfl (gU (eJ (i:=2) u7.nd rfl (Or.inl rfl) (.inr rfl)) (gU (eJ (i:=3) u7.nd rfl (Or.inl rfl) (.inr rfl)) mC)) )
   (kU (kW (l9 bp1 bt8 bt9 mJ (jA oE (pv 1) (pv 2) (fun _ _=>rfl)) (cO (pv 3) dL)))
   (j5 (kW (l9 bp1 bt8 bt9 mJ (jA oE (pv 1) (pv 3) (fun _ _=>rfl)) (cO (pv 2) dL))))))
  (j5 (kX (pv 1)))),?_⟩
 obtain ⟨a,p,q',ys,rfl,ha,hp,hq,hL⟩:=W.at_
 have lw:(ws.map V.int).length=ws.length:=bh1 _
 refine⟨_,rfl,a,_,_,_,rfl,rfl,aJ.of ha,rfl,p,rfl,⟨_,aJ.of hp⟩,L7 (L5 (aJ.of hp)) (fun i acc H'=>∃ bs:List Addr,acc=bs.map V.ref/\bs.length=i/\bs.Nodup/\∀ b ∈ bs,H b=none/\H' b=some (.lst [])) (by rw [lw]; exact bl7 (qQ hn))
  (fun D hD=>⟨[],rfl,rfl,List.nodup_nil,fun _ z=>nomatch z⟩) (fun i x acc D H' hx c hPv=>?_) (fun D acc H' hD sm hDa hlen hPv=>?_)⟩
 ·obtain ⟨bs,rfl,hbl,nd,hb⟩:=hPv
  refine⟨N1 (n:=none),oP ⟨bk7 _,fun r hr'=>?_⟩⟩
  have hrD:r ≠ D:=fun z=>by rw [z,c.acc] at hr'; cases hr'
  have hrH:H r=none:=c.same.free hr'
  refine c.yes (bI hr' _) ⟨bs ++ [r],by simp,by simp [hbl],?_,fun b hm=>?_⟩
  ·refine bp5.mpr ⟨nd,bj8 _ _,fun b hb1 b' hb2 e=>?_⟩
   rw [bg6.mp hb2] at e
   rw [e] at hb1
   rw [(hb r hb1).2] at hr'; cases hr'
  ·rcases bh6.mp hm with hm | hm
   ·have hbD:b ≠ D:=fun z=>by
     rw [z] at hm
     have:=(hb D hm).2
     rw [c.acc] at this
     have:bs.map V.ref = []:=by injection this with e1; injection e1
     have:bs = []:=List.map_eq_nil_iff.mp this
     rw [this] at hm; simp at hm
    refine⟨(hb b hm).1,?_⟩
    rw [aW hbD,aW (dP (hb b hm).2 hr')]
    exact (hb b hm).2
   ·rw [bg6.mp hm]
    exact⟨hrH,by rw [aW hrD,bK]⟩
 ·obtain ⟨bs,rfl,hbl,nd,hb⟩:=hPv
  rw [lw] at hbl
  have R0:iD H H' D bs (fun k=>aR (ls.take 0) k):=by
   refine⟨hD,fun b hm=>⟨(hb b hm).1,fun z=>?_⟩,nd,hDa,fun k b hk=>(hb b (bg9 hk)).2,sm⟩
   rw [z] at hm
   have:=(hb D hm).2
   rw [hDa] at this
   have:bs.map V.ref = []:=by injection this with e1; injection e1
   have:bs = []:=List.map_eq_nil_iff.mp this
   rw [this] at hm; simp at hm
  have lL:=hL.length
  refine⟨_,rfl,a,_,_,_,rfl,rfl,aJ.of (sm _ _ ha),rfl,q',rfl,⟨_,aJ.of (sm _ _ hq)⟩,B5 (K:=K) (a:=q') (xs:=ys) (fun i σ H2=>∃ x y:Option V,σ = [some (.ref a),some (.ref D),x,y]/\iD H H2 D bs (fun k=>aR (ls.take i) k))
   ⟨none,none,rfl,R0⟩ (fun i σ H2 _ ⟨_,_,_,R⟩=>aJ.of (R.same _ _ hq)) ?_ ?_⟩
  ·rintro i y σ H2 hi ⟨x1,x2,rfl,R⟩
   obtain ⟨l,b,hl,rfl,hbt⟩:=hL.get hi
   have hlm:l ∈ ls:=bg9 hl
   obtain ⟨⟨h1,h2⟩,h3,h4⟩:=hin l hlm
   have k1:l.1.toNat < bs.length:=by omega
   have k2:l.2.toNat < bs.length:=by omega
   have e1:bs[l.1.toNat]? = some (bs[l.1.toNat]):=bg7 k1
   have e2:bs[l.2.toNat]? = some (bs[l.2.toNat]):=bg7 k2
   refine⟨b,_,rfl,aJ.of (R.same _ _ hbt),rfl,_,_,rfl,_,_,rfl,rfl,?_⟩
   refine⟨_,rfl,_,rfl,D,_,_,.ref bs[l.1.toNat],rfl,rfl,aN.of R.row,mO h1 (by rw [bh9,e1]; rfl),k8 (aN.of (R.rows _ _ e1)),_,rfl,_,_,_,rfl,rfl,R.rows _ _ e1,?_,?_⟩
   ·rw [bh1]
    have:=rB (ls.take i) (l.1.toNat:Nat)
    rw [br4] at this
    exact hG (by omega)
   ·have R1:=R.app e1 l.2
    refine⟨_,rfl,_,rfl,D,_,_,.ref bs[l.2.toNat],rfl,rfl,aN.of R1.row,mO h3 (by rw [bh9,e2]; rfl),k8 (aN.of (R1.rows _ _ e2)),_,rfl,_,_,_,rfl,rfl,R1.rows _ _ e2,?_,?_⟩
    ·rw [bh1]
     have:=rB (ls.take i) (l.2.toNat:Nat)
     rw [br4] at this
     split
     ·rw [bi4,bk8]; exact hG (by omega)
     ·exact hG (by omega)
    ·have R2:=R1.app e2 l.1
     refine⟨_,_,rfl,R2.congr fun k hk=>?_⟩
     rw [N4 hl]
     have c1:(k=l.1.toNat) ↔ l.1=(k:Int):=by omega
     have c2:(k=l.2.toNat) ↔ l.2=(k:Int):=by omega
     by_cases d1:k=l.1.toNat
     ·by_cases d2:k=l.2.toNat
      ·rw [if_pos d2,if_pos d1,if_pos (c1.mp d1),if_pos (c2.mp d2)]; simp
      ·rw [if_neg d2,if_pos d1,if_pos (c1.mp d1),if_neg (fun z=>d2 (c2.mpr z))]; simp
     ·by_cases d2:k=l.2.toNat
      ·rw [if_pos d2,if_neg d1,if_neg (fun z=>d1 (c1.mpr z)),if_pos (c2.mp d2)]; simp
      ·rw [if_neg d2,if_neg d1,if_neg (fun z=>d1 (c1.mpr z)),if_neg (fun z=>d2 (c2.mpr z))]; simp
  ·
   rintro σ H2 ⟨x1,x2,rfl,R⟩
   refine⟨_,rfl,q D bs H2 hbl ?_⟩
   rw [lL,bs5] at R
   exact R
theorem bb8:FnScope ["web"] ["web"] (aY (bB 7)):=.au
theorem bb9 (B:Bt mg) (F:FM K mg "hearths_in" 7 f fd)  : Df P w K mg base 1 "hearths_in" ["web"] iW:=
 Df.au F bb8 (fun cdv A outer s H E hr=>by
  exact⟨(X9),(aT (c8 (gC B (a8 (bF (qv 0) aG) aC)))),aL8⟩)
theorem aj0:FnScope ["hearths","inside","hearth"] ["hearths"] (aY (bB 12)):=.au
theorem bc0 (B:Bt mg) (F:FM K mg "marked" 12 f fd)  : Df P w K mg base 1 "marked" ["hearths"] nH:=
 Df.au F aj0 (fun cdv A outer s H E hr=>by
  have nd:=aj0.nd
  have hu:=vE hr
  exact⟨(Y5),(aE (dZ (i:=1) nd S7)
   (aE (i5 2 nd (i4 (qv 0))
    (aT (S8 hu (i:=1) (qv 2) fN)))
   (aT (nA 1)))),aM5⟩)
theorem bc1:FnScope ["around","hearth","elder"] ["around","hearth","elder"] (aY (bB 22)):=.au
theorem bc2 (B:Bt mg) (F:FM K mg "children_of" 22 f fd)  : Df P w K mg base 1 "children_of" ["around","hearth","elder"] tS:=
 Df.au F bc1 (fun cdv A outer s H E hr=>by
  exact⟨(ae3),(aT (c8 (T9 (N:=["other","elder"]) (fr:=[none,some 2]) (i4 (bF (qv 0) (qv 1))) (fun _ _ _ _=>(aT6 (qv 0) (qv 1))) (fun _ _ _ _=>(qv 0))))),aX0⟩)
theorem bc3:FnScope ["script","k"] ["script","k"] (aY (bB 26)):=.au
theorem bc4 (B:Bt mg) (F:FM K mg "_law_cell_at" 26 f fd)  : Df P w K mg base 1 "_law_cell_at" ["script","k"] eD:=
 Df.au F bc3 (fun cdv A outer s H E hr=>by
  exact⟨(Y6),(aE (dE (rS (qv 1) (gC B (a8 (qv 0) aC))) (aT (c8 (bF (qv 0) (qv 1)))) dD)
   (aT (c8 aG))),aM8⟩)
theorem aj1:FnScope ["number","k","turn"] ["number","k"] (aY (bB 27)):=.au
theorem bc5 (B:Bt mg) (F:FM K mg "_law_mixed" 27 f fd)  : Df P w K mg base 1 "_law_mixed" ["number","k"] iX:=
 Df.au F aj1 (fun cdv A outer s H E hr=>by
  have nd:=aj1.nd
  exact⟨(ac0),(aE (b9 (i:=2) nd (dC (cX (cX (cX (dC (qv 0) aG) (p9 (p9 aG (qv 1)) (qv 1))) (p9 aG (qv 1))) aG) aG))
   (aE (b9 (i:=2) nd (dC (p9 (qv 2) aG) aG))
   (aT (c8 (dC (p9 (qv 2) (qv 2)) aG))))),aT7⟩)
theorem bc6:FnScope ["found"] ["found"] (aY (bB 28)):=.au
theorem bc7 (B:Bt mg) (F:FM K mg "_law_whole" 28 f fd)  : Df P w K mg base 1 "_law_whole" ["found"] sZ:=
 Df.au F bc6 (fun cdv A outer s H E hr=>by
  exact⟨(Y7 K),(aT (c8 (pE (aG1 B (qv 0)) (pD (S6 (rV B (qv 0))))))),aM9 (nI K).ii (nI K).ib⟩)
theorem aj2:FnScope ["elders","hearth"] ["elders","hearth"] (aY (bB 37)):=.au
theorem bc8 (B:Bt mg) (F:FM K mg "_law_root" 37 f fd)  : Df P w K mg base 1 "_law_root" ["elders","hearth"] pY:=
 Df.au F aj2 (fun cdv A outer s H E hr=>by
  have nd:=aj2.nd
  exact⟨(ai0),(aE (pF bu9 (S2 (bF (qv 0) (qv 1)) mY)
    (aT (b9 (i:=1) nd (bF (qv 0) (qv 1)))))
   (aT (nA 1))),ba8⟩)
theorem bc9:FnScope ["web","number"] ["web","number"] (aY (bB 9)):=.au
theorem bd0 (B:Bt mg) (F:FM K mg "is_hearth" 9 f fd) (d_hearths_in:Df P w K mg base 1 "hearths_in" ["web"] iW):Df P w K mg base 2 "is_hearth" ["web","number"] sS:=
 Df.au F bc9 (fun cdv A outer s H E hr=>by
  exact⟨(Y0),(aT (c8 (pE (aF1 (qv 1) aG) (pD (aF0 (qv 1) (b8 d_hearths_in hr (a8 (qv 0) aC))))))),aL9⟩)
theorem aj3:FnScope ["hearths","some","gone"] ["hearths","some"] (aY (bB 13)):=.au
theorem bd1 (B:Bt mg) (F:FM K mg "without" 13 f fd) (d_marked:Df P w K mg base 1 "marked" ["hearths"] nH):Df P w K mg base 2 "without" ["hearths","some"] nK:=
 Df.au F aj3 (fun cdv A outer s H E hr=>by
  have nd:=aj3.nd
  have hu:=vE hr
  exact⟨(aa0),(aE (b9 (i:=2) nd (b8 d_marked hr (a8 (qv 1) aC)))
   (aT (c8 (kH B (a8 (T9 (N:=["hearth","gone"]) (fr:=[none,some 2]) (i4 (qv 0)) (fun _ _ _ _=>(S3 hu (qv 0) (qv 1))) (fun _ _ _ _=>(qv 0))) aC))))),aP4⟩)
theorem aj4:FnScope ["around","hearths","inside","reached","waiting","hearth","other"] ["around","hearths"] (aY (bB 17)):=.au
theorem bd2 (B:Bt mg) (F:FM K mg "first_piece" 17 f fd) (d_marked:Df P w K mg base 1 "marked" ["hearths"] nH):Df P w K mg base 2 "first_piece" ["around","hearths"] tK:=
 Df.au F aj4 (fun cdv A outer s H E hr=>by
  have nd:=aj4.nd
  have hu:=vE hr
  exact⟨(ab7),(aE (b9 (i:=2) nd (b8 d_marked hr (a8 (qv 1) aC)))
   (aE (dZ (i:=3) nd (aS1 (bF (qv 1) aG)))
   (aE (dZ (i:=4) nd (gB (a8 (bF (qv 1) aG) aC)))
   (aE (pF bu9 (pA (qv 4))
    (aE (aS2 nd 4 5)
    (aT (i5 6 nd (i4 (bF (qv 0) (qv 5)))
     (aT (dE (pC (S5 (aF3 hu (qv 6) (qv 2)) (S4 (S3 hu (qv 6) (qv 3))))) (aE (S8 hu (i:=3) (qv 6) fN)
      (aT (jP 4 (qv 6)))) dD))))))
   (aT (c8 (kH B (a8 (aQ1 B rfl (a8 (qv 3) aC)) aC)))))))),aS6⟩)
theorem aj5:FnScope ["script","most","number"] ["script","most"] (aY (bB 29)):=.au
theorem bd3 (B:Bt mg) (F:FM K mg "_law_hearths" 29 f fd) (d__law_cell_at:Df P w K mg base 1 "_law_cell_at" ["script","k"] eD):Df P w K mg base 2 "_law_hearths" ["script","most"] nR:=
 Df.au F aj5 (fun cdv A outer s H E hr=>by
  have nd:=aj5.nd
  exact⟨(ac1),(aE (b9 (i:=2) nd (b8 d__law_cell_at hr (a8 (qv 0) (a8 aG aC))))
   (aE (dE (kF (dC (qv 2) aG) aG) (aT (c8 (rT B rfl (a8 (qv 1) (a8 (rU B rfl (a8 aG (a8 (mZ (gC B (a8 (qv 0) aC)) aG) aC))) aC))))) dD)
   (aE (dE (kF (dC (qv 2) aG) aG) (aT (c8 (dC (cX (hZ (qv 2) aG) aG) (cX (qv 1) aG)))) dD)
   (aT (c8 (dC (cX (hZ (qv 2) aG) aG) (cX (rT B rfl (a8 aG (a8 (qv 1) aC))) aG))))))),aT8⟩)
theorem aj6:FnScope ["script","many","digits","places","number","k","spot"] ["script","many","digits"] (aY (bB 31)):=.au
theorem bd4 (B:Bt mg) (F:FM K mg "_law_places" 31 f fd) (d__law_cell_at:Df P w K mg base 1 "_law_cell_at" ["script","k"] eD) (d__law_mixed:Df P w K mg base 1 "_law_mixed" ["number","k"] iX):Df P w K mg base 2 "_law_places" ["script","many","digits"] tU:=
 Df.au F aj6 (fun cdv A outer s H E hr=>by
  have nd:=aj6.nd
  exact⟨(ae9),(aE (dZ (i:=3) nd (xS B (qv 1)))
   (aE (b9 (i:=4) nd (b8 d__law_cell_at hr (a8 (qv 0) (a8 aG aC))))
   (aE (dE (kF (dC (hZ (b8 d__law_cell_at hr (a8 (qv 0) (a8 aG aC))) aG) aG) aG) (aE (dZ (i:=3) nd (gB aC))
    (aT (i5 5 nd (lP rfl B.range (qv 1))
     (aE (b9 (i:=6) nd (b8 d__law_mixed hr (a8 (b8 d__law_cell_at hr (a8 (qv 0) (a8 aG aC))) (a8 (cX (qv 5) aG) aC))))
     (aE (dE (pA (qv 2)) (aE (b9 (i:=6) nd (qv 4))
      (aT (b9 (i:=4) nd (hZ (qv 4) (cX (qv 5) aG))))) dD)
     (aT (aR5 3 (dC (qv 6) (cX (qv 5) aG)) (qv 5)))))))) dD)
   (aT (nA 3))))),aX7⟩)
theorem aj7:FnScope ["web","beside","elders","order","root","at","other"] ["web"] (aY (bB 34)):=.au
theorem bd5 (B:Bt mg) (F:FM K mg "_law_elders" 34 f fd) (d__law_beside:Df P w K mg base 1 "_law_beside" ["web"] ac7):Df P w K mg base 2 "_law_elders" ["web"] nX:=
 Df.au F aj7 (fun cdv A outer s H E hr=>by
  have nd:=aj7.nd
  exact⟨(ag8),(aE (b9 (i:=1) nd (b8 d__law_beside hr (a8 (qv 0) aC)))
   (aE (dZ (i:=2) nd (pR (gB (a8 mY aC)) (gC B (a8 (bF (qv 0) aG) aC))))
   (aE (dZ (i:=3) nd (gB aC))
   (aE (i5 4 nd (lP rfl B.range (gC B (a8 (bF (qv 0) aG) aC)))
    (aT (dE (T4 (qv 4) (qv 3)) (aE (jP 3 (qv 4))
     (aE (b9 (i:=5) nd (mZ (gC B (a8 (qv 3) aC)) aG))
     (aT (pF bu9 (rS (qv 5) (gC B (a8 (qv 3) aC)))
      (aE (i5 6 nd (i4 (bF (qv 1) (bF (qv 3) (qv 5))))
       (aT (dE (T4 (qv 6) (qv 3)) (aE (lQ (i:=2) (qv 6) (bF (qv 3) (qv 5)))
        (aT (jP 3 (qv 6)))) dD)))
      (aT (b9 (i:=5) nd (cX (qv 5) aG)))))))) dD)))
   (aT (wX 2 (wX 3 (c8 (aF5 (a8 (qv 2) (a8 (qv 3) aC))))))))))),aY8⟩)
theorem bd6:FnScope ["web","numbers"] ["web","numbers"] (aY (bB 10)):=.au
theorem bd7 (B:Bt mg) (F:FM K mg "is_set" 10 f fd) (d_rises:Df P w K mg base 1 "rises" ["things"] xO) (d_is_hearth:Df P w K mg base 2 "is_hearth" ["web","number"] sS):Df P w K mg base 3 "is_set" ["web","numbers"] sT:=
 Df.au F bd6 (fun cdv A outer s H E hr=>by
  exact⟨(Y1),(aT (c8 (pE (b8 d_rises hr (a8 (qv 1) aC)) (pD (aF7 B rfl (a8 (x8 (N:=["number","web"]) (fr:=[none,some 0]) (i4 (qv 1)) (fun _ _ _ _=>(b8 d_is_hearth hr (a8 (qv 1) (a8 (qv 0) aC))))) aC)))))),aM0⟩)
theorem bd8:FnScope ["web","some"] ["web","some"] (aY (bB 14)):=.au
theorem bd9 (B:Bt mg) (F:FM K mg "all_but" 14 f fd) (d_without:Df P w K mg base 2 "without" ["hearths","some"] nK) (d_hearths_in:Df P w K mg base 1 "hearths_in" ["web"] iW):Df P w K mg base 3 "all_but" ["web","some"] tJ:=
 Df.au F bd8 (fun cdv A outer s H E hr=>by
  exact⟨(ab5),(aT (c8 (b8 d_without hr (a8 (xS B (b8 d_hearths_in hr (a8 (qv 0) aC))) (a8 (qv 1) aC))))),aR9⟩)
theorem aj8:FnScope ["script","most","many","sparse","digits","cells","k","links","counts","other","number","one","draw","wants"] ["script","most"] (aY (bB 30)):=.au
theorem be0 (B:Bt mg) (F:FM K mg "_law_web" 30 f fd) (d__law_hearths:Df P w K mg base 2 "_law_hearths" ["script","most"] nR) (d__law_cell_at:Df P w K mg base 1 "_law_cell_at" ["script","k"] eD) (d__law_mixed:Df P w K mg base 1 "_law_mixed" ["number","k"] iX):Df P w K mg base 3 "_law_web" ["script","most"] u5:=
 Df.au F aj8 (fun cdv A outer s H E hr=>by
  have nd:=aj8.nd
  exact⟨(ai4),(aE (b9 (i:=2) nd (b8 d__law_hearths hr (a8 (qv 0) (a8 (qv 1) aC))))
   (aE (b9 (i:=3) nd (cX aG (dC (b8 d__law_cell_at hr (a8 (qv 0) (a8 aG aC))) aG)))
   (aE (b9 (i:=4) nd (wV (dC (hZ (b8 d__law_cell_at hr (a8 (qv 0) (a8 aG aC))) aG) aG) aG))
   (aE (dZ (i:=5) nd (T8 (qv 0) (rW aG) (rW (cX aG (qv 2)))))
   (aE (i5 6 nd (wY rfl B.range (gC B (a8 (qv 5) aC)) (qv 2))
    (aT (jP 5 (b8 d__law_mixed hr (a8 (b8 d__law_cell_at hr (a8 (qv 0) (a8 aG aC))) (a8 (qv 6) aC))))))
   (aE (dZ (i:=7) nd (gB aC))
   (aE (dZ (i:=8) nd (pR (gB (a8 aG aC)) (qv 2)))
   (aE (i5 9 nd (lP rfl B.range (qv 2))
    (aE (b9 (i:=10) nd (hZ (bF (qv 5) (qv 9)) aG))
    (aT (i5 11 nd (lP rfl B.range (qv 9))
     (aE (b9 (i:=12) nd (qv 10))
     (aE (b9 (i:=10) nd (hZ (qv 10) (qv 3)))
     (aE (dE (iT (jO (qv 4))) (aT (b9 (i:=12) nd (b8 d__law_mixed hr (a8 (bF (qv 5) (qv 9)) (a8 (cX (qv 11) aG) aC))))) dD)
     (aT (dE (kF (dC (qv 12) (qv 3)) aG) (aE (jP 7 (iI (a8 (qv 11) (a8 (qv 9) aC))))
      (aE (lQ (i:=8) (qv 11) (cX (bF (qv 8) (qv 11)) aG))
      (aT (lQ (i:=8) (qv 9) (cX (bF (qv 8) (qv 9)) aG))))) dD)))))))))
   (aE (aG6 (i:=13) nd (N:=["k","cells","counts"]) (fr:=[none,some 5,some 8]) (lP rfl B.range (qv 2)) (fun _ _ _ _=>(dC (bF (qv 1) (qv 0)) (cX (bF (qv 2) (qv 0)) aG))))
   (aT (c8 (iI (a8 (kH B (a8 (qv 13) aC)) (a8 (kH B (a8 (aR7 B (a8 (qv 7) aC)) aC)) aC)))))))))))))),bb0⟩)
theorem aj9:FnScope ["script","most","many","digits","links","counts","cells","k","number","elder","places","wants","pairs"] ["script","most"] (aY (bB 32)):=.au
theorem be1 (B:Bt mg) (F:FM K mg "_law_wood" 32 f fd) (d__law_hearths:Df P w K mg base 2 "_law_hearths" ["script","most"] nR) (d__law_cell_at:Df P w K mg base 1 "_law_cell_at" ["script","k"] eD) (d__law_mixed:Df P w K mg base 1 "_law_mixed" ["number","k"] iX) (d__law_places:Df P w K mg base 2 "_law_places" ["script","many","digits"] tU):Df P w K mg base 3 "_law_wood" ["script","most"] tV:=
 Df.au F aj9 (fun cdv A outer s H E hr=>by
  have nd:=aj9.nd
  exact⟨(ag1),(aE (b9 (i:=2) nd (b8 d__law_hearths hr (a8 (qv 0) (a8 (qv 1) aC))))
   (aE (b9 (i:=3) nd (wV (dC (hZ (b8 d__law_cell_at hr (a8 (qv 0) (a8 aG aC))) aG) aG) aG))
   (aE (dZ (i:=4) nd (gB aC))
   (aE (dZ (i:=5) nd (pR (gB (a8 aG aC)) (qv 2)))
   (aE (dZ (i:=6) nd (T8 (qv 0) (rW aG) (rW (cX aG (qv 2)))))
   (aE (i5 7 nd (wY rfl B.range (gC B (a8 (qv 6) aC)) (qv 2))
    (aT (jP 6 (b8 d__law_mixed hr (a8 (b8 d__law_cell_at hr (a8 (qv 0) (a8 aG aC))) (a8 (qv 7) aC))))))
   (aE (i5 7 nd (wY rfl B.range aG (qv 2))
    (aE (b9 (i:=8) nd (b8 d__law_mixed hr (a8 (bF (qv 6) (qv 7)) (a8 (qv 7) aC))))
    (aE (dE (pA (qv 3)) (aT (b9 (i:=8) nd (hZ (bF (qv 6) (qv 7)) aG))) dD)
    (aT (dE (aF2 (dC (qv 8) aG) aG) (aE (b9 (i:=9) nd (dC (hZ (qv 8) aG) (qv 7)))
     (aE (dE (kF (dC (b8 d__law_cell_at hr (a8 (qv 0) (a8 aG aC))) aG) aG) (aT (b9 (i:=9) nd (rU B rfl (a8 aG (a8 (mZ (mZ (qv 7) aG) (dC (hZ (qv 8) aG) aG)) aC))))) dD)
     (aE (jP 4 (iI (a8 (qv 9) (a8 (qv 7) aC))))
     (aE (lQ (i:=5) (qv 9) (cX (bF (qv 5) (qv 9)) aG))
     (aT (lQ (i:=5) (qv 7) (cX (bF (qv 5) (qv 7)) aG))))))) dD)))))
   (aE (b9 (i:=10) nd (b8 d__law_places hr (a8 (qv 0) (a8 (qv 2) (a8 (qv 3) aC)))))
   (aE (dZ (i:=11) nd (pR (gB (a8 aG aC)) (qv 2)))
   (aE (i5 7 nd (lP rfl B.range (qv 2))
    (aT (lQ (i:=11) (bF (qv 10) (qv 7)) (dC (bF (qv 6) (qv 7)) (cX (bF (qv 5) (qv 7)) aG)))))
   (aE (wX 4 (aO8 (i:=12) nd (N:=["one","other","places"]) (fr:=[none,none,some 10]) (i4 (qv 4)) (fun _ _ _ _=>(iI (a8 (rT B rfl (a8 (bF (qv 2) (qv 0)) (a8 (bF (qv 2) (qv 1)) aC))) (a8 (rU B rfl (a8 (bF (qv 2) (qv 0)) (a8 (bF (qv 2) (qv 1)) aC))) aC))))))
   (aT (c8 (iI (a8 (kH B (a8 (qv 11) aC)) (a8 (kH B (a8 (aN7 B (a8 (qv 12) aC)) aC)) aC)))))))))))))))),aY3⟩)
theorem be2:FnScope ["web","hearths"] ["web","hearths"] (aY (bB 11)):=.au
theorem be3 (B:Bt mg) (F:FM K mg "made_set" 11 f fd) (d_is_set:Df P w K mg base 3 "is_set" ["web","numbers"] sT) (x_BadSet:Xc K mg base "BadSet"):cS P w K mg base 4 "made_set" ["web","hearths"] tH:=
 cS.au F be2 ab4 aR3 (fun cdv A outer s H E Ep hr hX=>by
  exact (aE (dE (iT (jO (b8 d_is_set hr (a8 (qv 0) (a8 (qv 1) aC))))) (aT (aa5 hX x_BadSet (a8 R9 aC))) dD)
   (aT (c8 (kH B (a8 (qv 1) aC))))))
theorem ak0:FnScope ["web","block","around","left","pieces","piece"] ["web","block"] (aY (bB 16)):=.au
theorem be4 (B:Bt mg) (F:FM K mg "cold_pieces" 16 f fd) (d_near_lists:Df P w K mg base 1 "near_lists" ["web"] jU) (d_made_set:cS P w K mg base 4 "made_set" ["web","hearths"] tH) (d_first_piece:Df P w K mg base 2 "first_piece" ["around","hearths"] tK) (d_without:Df P w K mg base 2 "without" ["hearths","some"] nK):cS P w K mg base 5 "cold_pieces" ["web","block"] tL:=
 cS.au F ak0 aT2 aT3 (fun cdv A outer s H E Ep hr hX=>by
  have nd:=ak0.nd
  exact (aE (b9 (i:=2) nd (b8 d_near_lists hr (a8 (qv 0) aC)))
   (aE (b9 (i:=3) nd (yA hX d_made_set hr (a8 (qv 0) (a8 (qv 1) aC))))
   (aE (dZ (i:=4) nd (gB aC))
   (aE (pF hX.own (pA (qv 3))
    (aE (b9 (i:=5) nd (b8 d_first_piece hr (a8 (qv 2) (a8 (qv 3) aC))))
    (aE (jP 4 (qv 5))
    (aT (b9 (i:=3) nd (b8 d_without hr (a8 (qv 3) (a8 (qv 5) aC))))))))
   (aT (nA 4)))))))
theorem be5:FnScope ["web"] ["web"] (aY (bB 20)):=.au
theorem be6 (B:Bt mg) (F:FM K mg "all_pieces" 20 f fd) (d_cold_pieces:cS P w K mg base 5 "cold_pieces" ["web","block"] tL) (d_all_but:Df P w K mg base 3 "all_but" ["web","some"] tJ):Df P w K mg base 6 "all_pieces" ["web"] nU:=
 Df.au F be5 (fun cdv A outer s H E hr=>by
  exact⟨(ad6),(aT (c8 (yB d_cold_pieces hr (a8 (qv 0) (a8 (b8 d_all_but hr (a8 (qv 0) (a8 (iI aC) aC))) aC))))),aW4⟩)
theorem be7:FnScope ["web"] ["web"] (aY (bB 19)):=.au
theorem be8 (B:Bt mg) (F:FM K mg "is_wood" 19 f fd) (d_hearths_in:Df P w K mg base 1 "hearths_in" ["web"] iW) (d_all_pieces:Df P w K mg base 6 "all_pieces" ["web"] nU):Df P w K mg base 7 "is_wood" ["web"] iY:=
 Df.au F be7 (fun cdv A outer s H E hr=>by
  exact⟨(ae2),(aT (c8 (wV (gC B (a8 (bF (qv 0) aG) aC)) (mZ (b8 d_hearths_in hr (a8 (qv 0) aC)) (gC B (a8 (b8 d_all_pieces hr (a8 (qv 0) aC)) aC)))))),aW9⟩)
theorem ak1:FnScope ["web","around","pairs","turn","hearth"] ["web"] (aY (bB 21)):=.au
theorem be9 (B:Bt mg) (F:FM K mg "from_roots" 21 f fd) (d_is_wood:Df P w K mg base 7 "is_wood" ["web"] iY) (d_near_lists:Df P w K mg base 1 "near_lists" ["web"] jU) (d_all_pieces:Df P w K mg base 6 "all_pieces" ["web"] nU) (d_children_of:Df P w K mg base 1 "children_of" ["around","hearth","elder"] tS) (x_NotWood:Xc K mg base "NotWood"):cS P w K mg base 8 "from_roots" ["web"] nY:=
 cS.au F ak1 ag9 aZ1 (fun cdv A outer s H E Ep hr hX=>by
  have nd:=ak1.nd
  exact (aE (dE (iT (jO (b8 d_is_wood hr (a8 (qv 0) aC)))) (aT (aa5 hX x_NotWood (a8 R9 aC))) dD)
   (aE (b9 (i:=1) nd (b8 d_near_lists hr (a8 (qv 0) aC)))
   (aE (aG7 (i:=2) nd (N:=["piece"]) (fr:=[none]) (i4 (b8 d_all_pieces hr (a8 (qv 0) aC))) (fun _ _ _ _=>(iI (a8 (bF (qv 0) aG) (a8 mY aC)))))
   (aE (b9 (i:=3) nd aG)
   (aE (pF hX.own (rS (qv 3) (gC B (a8 (qv 2) aC)))
    (aE (b9 (i:=4) nd (bF (bF (qv 2) (qv 3)) aG))
    (aE (aG9 2 (x8 (N:=["child","hearth"]) (fr:=[none,some 4]) (i4 (b8 d_children_of hr (a8 (qv 1) (a8 (qv 4) (a8 (bF (bF (qv 2) (qv 3)) aG) aC))))) (fun _ _ _ _=>(iI (a8 (qv 0) (a8 (qv 1) aC))))))
    (aT (b9 (i:=3) nd (cX (qv 3) aG))))))
   (aT (nA 2))))))))
theorem ak2:FnScope ["web","elders","hearth","elder"] ["web"] (aY (bB 23)):=.au
theorem bf0 (B:Bt mg) (F:FM K mg "elders_of" 23 f fd) (d_hearths_in:Df P w K mg base 1 "hearths_in" ["web"] iW) (d_from_roots:cS P w K mg base 8 "from_roots" ["web"] nY):cS P w K mg base 9 "elders_of" ["web"] kR:=
 cS.au F ak2 ah7 ba3 (fun cdv A outer s H E Ep hr hX=>by
  have nd:=ak2.nd
  exact (aE (dZ (i:=1) nd (pR (gB (a8 mY aC)) (b8 d_hearths_in hr (a8 (qv 0) aC))))
   (aE (x6 2 3 (hp:=hX.own) nd (i4 (yA hX d_from_roots hr (a8 (qv 0) aC)))
    (aT (lQ (i:=1) (qv 2) (qv 3))))
   (aT (nA 1)))))
theorem ak3:FnScope ["web","around","waiting","taken","hearth","elder","children","lacking","block","child","pairs"] ["web"] (aY (bB 24)):=.au
theorem bf1 (B:Bt mg) (F:FM K mg "apart_paper" 24 f fd) (d_near_lists:Df P w K mg base 1 "near_lists" ["web"] jU) (d_from_roots:cS P w K mg base 8 "from_roots" ["web"] nY) (rv:mg "reversed" = none):cS P w K mg base 9 "apart_paper" ["web"] tZ:=
 cS.au F ak3 ah8 ba4 (fun cdv A outer s H E Ep hr hX=>by
  have nd:=ak3.nd
  exact (aE (b9 (i:=1) nd (b8 d_near_lists hr (a8 (qv 0) aC)))
   (aE (dZ (i:=2) nd S7)
   (aE (dZ (i:=3) nd (gB aC))
   (aE (x6 4 5 (hp:=hX.own) nd (aV4 rv (yA hX d_from_roots hr (a8 (qv 0) aC)))
    (aE lO
    (aE lO
    (aE lO
    (aE lO
    (aT lO))))))
   (aE lO
   (aT lO)))))))
theorem ak4:FnScope ["web","which","kinds","e"] ["web"] (aY (bB 35)):=.au
theorem bf2 (B:Bt mg) (F:FM K mg "_law_refused" 35 f fd) (d_elders_of:cS P w K mg base 9 "elders_of" ["web"] kR) (d_apart_paper:cS P w K mg base 9 "apart_paper" ["web"] tZ) (cat_HearthError:yE K mg "HearthError") (is_BadWeb:pT K mg "BadWeb") (is_NotWood:pT K mg "NotWood") (is_ValueError:yG K mg):Df P w K mg base 10 "_law_refused" ["web"] m8:=
 Df.au F ak4 (fun cdv A outer s H E hr=>by
  have nd:=ak4.nd
  have hu3:=zR hr
  exact⟨(zL),(aE (i5 1 nd (lP rfl B.range aG)
    (aE (b9 (i:=2) nd mY)
    (aE (aQ7 3 cat_HearthError nd (aQ5 (fun _=>(kF (qv 1) aG)) (aa7 d_elders_of hr (fun _=>(a8 (qv 0) aC))) (aa7 d_apart_paper hr (fun _=>(a8 (qv 0) aC)))) (fun _=>(aT (b9 (i:=2) nd (gB (a8 (ab0 B is_NotWood (qv 3)) (a8 (ab0 B is_BadWeb (qv 3)) (a8 (aR1 B is_ValueError (qv 3)) aC))))))))
    (aT (dE (T7 hu3 (qv 2) (gB (a8 fN (a8 fN (a8 fN aC))))) (aT (c8 fN)) dD)))))
   (aT (c8 fN))),ba5⟩)
theorem ak5:FnScope ["web","due","told","found","elder"] ["web"] (aY (bB 38)):=.au
theorem bf3 (B:Bt mg) (F:FM K mg "_law_elders_right" 38 f fd) (d__law_elders:Df P w K mg base 2 "_law_elders" ["web"] nX) (d_is_wood:Df P w K mg base 7 "is_wood" ["web"] iY) (d_elders_of:cS P w K mg base 9 "elders_of" ["web"] kR) (d__law_whole:Df P w K mg base 1 "_law_whole" ["found"] sZ):Df P w K mg base 10 "_law_elders_right" ["web"] pZ:=
 Df.au F ak5 (fun cdv A outer s H E hr=>by
  have nd:=ak5.nd
  have hu3:=zR hr
  exact⟨(zO K),(aE (b9 (i:=1) nd (bF (b8 d__law_elders hr (a8 (qv 0) aC)) aG))
   (aE (b9 (i:=2) nd (b8 d_is_wood hr (a8 (qv 0) aC)))
   (aE (dZ (i:=3) nd (yB d_elders_of hr (a8 (qv 0) aC)))
   (aE (dE (pC (pB (iT (jO (rV B (qv 2)))) (pB (iT (pA (qv 2))) (pB (iT (jO (aG2 B (qv 3)))) (wW (T7 hu3 (qv 3) (qv 1))))))) (aT (c8 fN)) dD)
   (aE (aV0 3 4 nd (pC (S5 (S2 (qv 4) mY) (S4 (iT (jO (b8 d__law_whole hr (a8 (qv 4) aC))))))) fN)
   (aE (jP 3 aG)
   (aT (c8 (aG5 hu3 (yB d_elders_of hr (a8 (qv 0) aC)) (qv 1)))))))))),ba9 (nI K).bb (nI K).ll⟩)
theorem ak6:FnScope ["web","names","due","one","other","told"] ["web"] (aY (bB 36)):=.au
theorem bf4 (B:Bt mg) (F:FM K mg "_law_any_good" 36 f fd) (d_is_wood:Df P w K mg base 7 "is_wood" ["web"] iY) (d__law_refused:Df P w K mg base 10 "_law_refused" ["web"] m8):Df P w K mg base 11 "_law_any_good" ["web"] u0:=
 Df.au F ak6 (fun cdv A outer s H E hr=>by
  have nd:=ak6.nd
  exact⟨(zM K),(aE (b9 (i:=1) nd (xS B (gC B (a8 (bF (qv 0) aG) aC))))
   (aE (b9 (i:=2) nd fN)
   (aE (x6 3 4 nd (i4 (bF (qv 0) aG))
    (aE (dE (kF (bF (qv 1) (qv 3)) (bF (qv 1) (qv 4))) (aT (b9 (i:=2) nd fN)) dD)
    (aT (b9 (i:=1) nd (x8 (N:=["name","names","one","other"]) (fr:=[none,some 1,some 3,some 4]) (i4 (qv 1)) (fun _ _ _ _=>(ba2 (kF (qv 0) (bF (qv 1) (qv 3))) (bF (qv 1) (qv 2)) (qv 0))))))))
   (aE (b9 (i:=5) nd (b8 d_is_wood hr (a8 (qv 0) aC)))
   (aE (dE (pC (pB (iT (jO (rV B (qv 5)))) (wW (S0 (qv 5) (qv 2))))) (aT (c8 fN)) dD)
   (aT (c8 (aF4 (qv 2) (pD (b8 d__law_refused hr (a8 (qv 0) aC))))))))))),ba7 (nI K).bb⟩)
theorem ak7:FnScope ["script","web","many","cell","one","other","pair","elders","more","told"] ["script"] (aY (bB 39)):=.au
theorem bf5 (B:Bt mg) (F:eZ K "law" "law" (bB 39) f fd) (d__law_wood:Df P w K mg base 3 "_law_wood" ["script","most"] tV) (d__law_elders_right:Df P w K mg base 10 "_law_elders_right" ["web"] pZ) (d__law_any_good:Df P w K mg base 11 "_law_any_good" ["web"] u0) (d__law_web:Df P w K mg base 3 "_law_web" ["script","most"] u5) (d__law_cell_at:Df P w K mg base 1 "_law_cell_at" ["script","k"] eD) (d__law_elders:Df P w K mg base 2 "_law_elders" ["web"] nX) (d__law_root:Df P w K mg base 1 "_law_root" ["elders","hearth"] pY) (d_is_wood:Df P w K mg base 7 "is_wood" ["web"] iY) (d__law_refused:Df P w K mg base 10 "_law_refused" ["web"] m8):cP P w K mg base dQ 12 f fd ["script"] (oT K zP):=
 aO2 F ak7 (fun xs Q h=>by unfold zP at h; repeat (first | (obtain ⟨rfl,_⟩:=h; rfl) | (obtain ⟨_,h⟩:=h))) (fun cdv A outer s H E hr=>by
  have nd:=ak7.nd
  have hu3:=zR hr
  exact⟨(ai6 K),(aE (b9 (i:=1) nd (b8 d__law_wood hr (a8 (qv 0) (a8 aG aC))))
   (aE (dE (pC (pB (iT (jO (b8 d__law_elders_right hr (a8 (qv 1) aC)))) (wW (iT (jO (b8 d__law_any_good hr (a8 (b8 d__law_web hr (a8 (qv 0) (a8 aG aC))) aC))))))) (aT (c8 fN)) dD)
   (aE (b9 (i:=2) nd (gC B (a8 (bF (qv 1) aG) aC)))
   (aE (dE (rS (qv 2) aG) (aT (c8 fN)) dD)
   (aE (b9 (i:=3) nd (b8 d__law_cell_at hr (a8 (qv 0) (a8 aG aC))))
   (aE (b9 (i:=4) nd (dC (qv 3) (qv 2)))
   (aE (b9 (i:=5) nd (dC (cX (cX (qv 4) aG) (dC (hZ (qv 3) aG) (mZ (qv 2) aG))) (qv 2)))
   (aE (b9 (i:=6) nd (iI (a8 (rT B rfl (a8 (qv 4) (a8 (qv 5) aC))) (a8 (rU B rfl (a8 (qv 4) (a8 (qv 5) aC))) aC))))
   (aE (dE (aU7 hu3 (qv 6) (bF (qv 1) aG)) (aT (c8 fN)) dD)
   (aE (b9 (i:=7) nd (bF (b8 d__law_elders hr (a8 (qv 1) aC)) aG))
   (aE (b9 (i:=8) nd (iI (a8 (bF (qv 1) aG) (a8 (kH B (a8 (aZ6 B (a8 (aP1 (bF (qv 1) aG) (iI (a8 (qv 6) aC))) aC)) aC)) aC))))
   (aE (dE (S0 (b8 d__law_root hr (a8 (qv 7) (a8 (qv 4) aC))) (b8 d__law_root hr (a8 (qv 7) (a8 (qv 5) aC)))) (aT (c8 (b8 d__law_elders_right hr (a8 (qv 8) aC)))) dD)
   (aE (b9 (i:=9) nd (b8 d_is_wood hr (a8 (qv 8) aC)))
   (aT (c8 (pE (rV B (qv 9)) (pE (S6 (qv 9)) (pD (b8 d__law_refused hr (a8 (qv 8) aC)))))))))))))))))))),bb4 (nI K).bb⟩)
end
set_option autoImplicit true in
theorem bf6 {l:OpenLaw}{w:World}{K:Frag}{h:Heap}{mg:Str->Option Value} (X:K.In h) (G:h.Ns mainGlobals mg) (hfa:mg "law" = some (.ref fa))
  (h0:FK K "rises" 6 f0 d0)
  (h1:FK K "hearths_in" 7 f1 d1)
  (h2:FK K "near_lists" 8 f2 d2)
  (h3:FK K "marked" 12 f3 d3)
  (h4:FK K "children_of" 22 f4 d4)
  (h5:FK K "_law_cell_at" 26 f5 d5)
  (h6:FK K "_law_mixed" 27 f6 d6)
  (h7:FK K "_law_whole" 28 f7 d7)
  (h8:FK K "_law_beside" 33 f8 d8)
  (h9:FK K "_law_root" 37 f9 d9)
  (h10:FK K "is_hearth" 9 f10 d10)
  (h11:FK K "without" 13 f11 d11)
  (h12:FK K "first_piece" 17 f12 d12)
  (h13:FK K "_law_hearths" 29 f13 d13)
  (h14:FK K "_law_places" 31 f14 d14)
  (h15:FK K "_law_elders" 34 f15 d15)
  (h16:FK K "is_set" 10 f16 d16)
  (h17:FK K "all_but" 14 f17 d17)
  (h18:FK K "_law_web" 30 f18 d18)
  (h19:FK K "_law_wood" 32 f19 d19)
  (h20:FK K "made_set" 11 f20 d20)
  (h21:FK K "cold_pieces" 16 f21 d21)
  (h22:FK K "all_pieces" 20 f22 d22)
  (h23:FK K "is_wood" 19 f23 d23)
  (h24:FK K "from_roots" 21 f24 d24)
  (h25:FK K "elders_of" 23 f25 d25)
  (h26:FK K "apart_paper" 24 f26 d26)
  (h27:FK K "_law_refused" 35 f27 d27)
  (h28:FK K "_law_elders_right" 38 f28 d28)
  (h29:FK K "_law_any_good" 36 f29 d29)
  (a30:nsIn K mainGlobals "law" = some (some (.ref f30))) (l30:K.lookup f30=some ⟨oc30,od30,.func (fnOf "law" "law" (jD (bB 39)) (eY (bB 39)) (aY (bB 39)) .none kV30 dc30 pm30 an30 cd30 ct30),sl30⟩) (c30:codeIn K cd30 "law" = true) (k30:keepIn K (.ref f30)=true)
  (z_len:nsIn K mainGlobals "len" = some none)
  (z_range:nsIn K mainGlobals "range" = some none)
  (z_tuple:nsIn K mainGlobals "tuple" = some none)
  (z_list:nsIn K mainGlobals "list" = some none)
  (z_sorted:nsIn K mainGlobals "sorted" = some none)
  (z_all:nsIn K mainGlobals "all" = some none)
  (z_any:nsIn K mainGlobals "any" = some none)
  (z_zip:nsIn K mainGlobals "zip" = some none)
  (z_min:nsIn K mainGlobals "min" = some none)
  (z_max:nsIn K mainGlobals "max" = some none)
  (z_sum:nsIn K mainGlobals "sum" = some none)
  (z_isinstance:nsIn K mainGlobals "isinstance" = some none)
  (z_int:nsIn K mainGlobals "int" = some none)
  (z_bool:nsIn K mainGlobals "bool" = some none)
  (z_enumerate:nsIn K mainGlobals "enumerate" = some none)
  (z_reversed:nsIn K mainGlobals "reversed" = some none)
  {C_HearthError C_BadWeb C_BadSet C_NotWood:Addr}
  (aX_HE:nsIn K mainGlobals "HearthError" = some (some (.ref C_HearthError)))
  (aX_BW:nsIn K mainGlobals "BadWeb" = some (some (.ref C_BadWeb)))
  (aX_BS:nsIn K mainGlobals "BadSet" = some (some (.ref C_BadSet)))
  (aX_NW:nsIn K mainGlobals "NotWood" = some (some (.ref C_NotWood)))
  (zX_BO:nsIn K mainGlobals "BadOrder" = some none)
  (zX_BP:nsIn K mainGlobals "BadPrices" = some none)
  (zX_BB:nsIn K mainGlobals "BadBoard" = some none)
  (zX_BD:nsIn K mainGlobals "BadDeed" = some none)
  (zX_NP:nsIn K mainGlobals "NoPaper" = some none)
  (zX_NS:nsIn K mainGlobals "NoSuch" = some none)
  (zX_TM:nsIn K mainGlobals "TooMany" = some none)
  (zX_NT:nsIn K mainGlobals "NoText" = some none)
  (zX_OR:nsIn K mainGlobals "OddRound" = some none)
  (y_fg:specialIn K (.builtin "object.__class__") "__get__" = some (some (.builtin "getset_descriptor.__get__")))
  (y_ft:takesIn K (.builtin "object.__class__")=some true)
  (z_VE:nsIn K mainGlobals "ValueError" = some none)
  (y1_HE:isClsIn K C_HearthError=true)
  (y2_HE:typeIn K (.ref C_HearthError)=some (.type "type"))
  (y3_HE:findIn K (.ref C_HearthError) "__getattribute__" = some (some (.builtin "BaseException.__getattribute__")))
  (y4_HE:findIn K (.ref C_HearthError) "__getattr__" = some none)
  (y5_HE:findIn K (.ref C_HearthError) "__class__" = some (some (.builtin "object.__class__")))
  (y6_HE:mroIn K C_HearthError (.type "object")=some true)
  (y7_HE:mroIn K C_HearthError (.type "BaseException")=some true)
  (y1_BW:isClsIn K C_BadWeb=true)
  (y2_BW:typeIn K (.ref C_BadWeb)=some (.type "type"))
  (y3_BW:findIn K (.ref C_BadWeb) "__getattribute__" = some (some (.builtin "BaseException.__getattribute__")))
  (y4_BW:findIn K (.ref C_BadWeb) "__getattr__" = some none)
  (y5_BW:findIn K (.ref C_BadWeb) "__class__" = some (some (.builtin "object.__class__")))
  (y6_BW:mroIn K C_BadWeb (.type "object")=some true)
  (y7_BW:mroIn K C_BadWeb (.type "BaseException")=some true)
  (y1_BS:isClsIn K C_BadSet=true)
  (y2_BS:typeIn K (.ref C_BadSet)=some (.type "type"))
  (y3_BS:findIn K (.ref C_BadSet) "__getattribute__" = some (some (.builtin "BaseException.__getattribute__")))
  (y4_BS:findIn K (.ref C_BadSet) "__getattr__" = some none)
  (y5_BS:findIn K (.ref C_BadSet) "__class__" = some (some (.builtin "object.__class__")))
  (y6_BS:mroIn K C_BadSet (.type "object")=some true)
  (y7_BS:mroIn K C_BadSet (.type "BaseException")=some true)
  (y1_NW:isClsIn K C_NotWood=true)
  (y2_NW:typeIn K (.ref C_NotWood)=some (.type "type"))
  (y3_NW:findIn K (.ref C_NotWood) "__getattribute__" = some (some (.builtin "BaseException.__getattribute__")))
  (y4_NW:findIn K (.ref C_NotWood) "__getattr__" = some none)
  (y5_NW:findIn K (.ref C_NotWood) "__class__" = some (some (.builtin "object.__class__")))
  (y6_NW:mroIn K C_NotWood (.type "object")=some true)
  (y7_NW:mroIn K C_NotWood (.type "BaseException")=some true)
  (sB_HE:subIn K (.ref C_HearthError) (.type "BaseException")=some true)
  (s_BW_HE:subIn K (.ref C_BadWeb) (.ref C_HearthError)=some true)
  (s_BS_HE:subIn K (.ref C_BadSet) (.ref C_HearthError)=some true)
  (s_NW_HE:subIn K (.ref C_NotWood) (.ref C_HearthError)=some true)
  (sN_BW:subIn K (.type "NoneType") (.ref C_BadWeb)=some false)
  (s_BS_BW:subIn K (.ref C_BadSet) (.ref C_BadWeb)=some false)
  (n_BS_BW:(C_BadSet == C_BadWeb)=false)
  (s_NW_BW:subIn K (.ref C_NotWood) (.ref C_BadWeb)=some false)
  (n_NW_BW:(C_NotWood == C_BadWeb)=false)
  (sN_NW:subIn K (.type "NoneType") (.ref C_NotWood)=some false)
  (s_BW_NW:subIn K (.ref C_BadWeb) (.ref C_NotWood)=some false)
  (n_BW_NW:(C_BadWeb == C_NotWood)=false)
  (s_BS_NW:subIn K (.ref C_BadSet) (.ref C_NotWood)=some false)
  (n_BS_NW:(C_BadSet == C_NotWood)=false)
  (sV_BW:subIn K (.ref C_BadWeb) (.type "ValueError")=some true)
  (sV_BS:subIn K (.ref C_BadSet) (.type "ValueError")=some true)
  (sV_NW:subIn K (.ref C_NotWood) (.type "ValueError")=some true)
  (q_BS:excIn K C_BadSet [.type "ValueError",.type "Exception",.type "BaseException",.type "object"] "ValueError.__new__" = true)
  (q_NW:excIn K C_NotWood [.type "ValueError",.type "Exception",.type "BaseException",.type "object"] "ValueError.__new__" = true)
  : ∃ fd:FuncData,(∀ (s:Shared) (v:Value),BindsTo s fd ⟨[v],[]⟩ [("script",v)])/\∀ base:Heap,K.In base->base.Ns mainGlobals mg->cP l.prog w K mg base dQ 12 fa fd ["script"] (t8 K):=by
 have e:=hfa.symm.trans (mg_of X G a30)
 cases e
 have F30:=aw0 (st:=bB 39) l30 c30 k30
 have m30:=mg_of X G a30
 have B:Bt mg:=⟨mg_none_of X G z_len,mg_none_of X G z_range,mg_none_of X G z_tuple,mg_none_of X G z_list,mg_none_of X G z_sorted,mg_none_of X G z_all,mg_none_of X G z_any,mg_none_of X G z_zip,mg_none_of X G z_min,mg_none_of X G z_max,mg_none_of X G z_sum,mg_none_of X G z_isinstance,mg_none_of X G z_int,mg_none_of X G z_bool,mg_none_of X G z_enumerate⟩
 have rv:=mg_none_of X G z_reversed
 refine⟨fnOf "law" "law" (jD (bB 39)) (eY (bB 39)) (aY (bB 39)) .none kV30 dc30 pm30 an30 cd30 ct30,fun s v=>.of_eq rfl,fun base KB _=>?_⟩
 have XK_HearthError:kM K C_HearthError:=⟨y1_HE,y2_HE,y3_HE,y4_HE,y5_HE,y_fg,y_ft,y6_HE,y7_HE⟩
 have XK_BadWeb:kM K C_BadWeb:=⟨y1_BW,y2_BW,y3_BW,y4_BW,y5_BW,y_fg,y_ft,y6_BW,y7_BW⟩
 have XK_BadSet:kM K C_BadSet:=⟨y1_BS,y2_BS,y3_BS,y4_BS,y5_BS,y_fg,y_ft,y6_BS,y7_BS⟩
 have XK_NotWood:kM K C_NotWood:=⟨y1_NW,y2_NW,y3_NW,y4_NW,y5_NW,y_fg,y_ft,y6_NW,y7_NW⟩
 have cat_HearthError:yE K mg "HearthError":=⟨C_HearthError,mg_of X G aX_HE,⟨y1_HE,y2_HE,sB_HE⟩,fun n C h2 h1=>by
  obtain ⟨hm,hb⟩:=tF h2
  simp only [nL,bi0,bk3,br1] at hm
  rcases hm with rfl | rfl | rfl | rfl | rfl | rfl | rfl | rfl | rfl | rfl | rfl | rfl
  ·rw [aX_BW] at h1; cases h1; exact s_BW_HE
  ·rw [aX_BS] at h1; cases h1; exact s_BS_HE
  ·rw [zX_BO] at h1; cases h1
  ·rw [zX_BP] at h1; cases h1
  ·rw [zX_BB] at h1; cases h1
  ·rw [zX_BD] at h1; cases h1
  ·rw [aX_NW] at h1; cases h1; exact s_NW_HE
  ·rw [zX_NP] at h1; cases h1
  ·rw [zX_NS] at h1; cases h1
  ·rw [zX_TM] at h1; cases h1
  ·rw [zX_NT] at h1; cases h1
  ·rw [zX_OR] at h1; cases h1⟩
 have is_BadWeb:pT K mg "BadWeb":=⟨C_BadWeb,mg_of X G aX_BW,fun z=>(by cases z),(fun n C b h1 h2=>by
  obtain ⟨hm,hb⟩:=tF h2
  simp only [nL,bi0,bk3,br1] at hm
  rcases hm with rfl | rfl | rfl | rfl | rfl | rfl | rfl | rfl | rfl | rfl | rfl | rfl
  ·rw [aX_BW] at h1; cases h1; rw [hb,show (("BadWeb" : Str) == "BadWeb" || ("BadWeb" : Str) == "HearthError" || ("BadWeb" : Str) == "ValueError")=true by decide]; exact⟨XK_BadWeb.exc,ab2⟩
  ·rw [aX_BS] at h1; cases h1; rw [hb,show (("BadSet" : Str) == "BadWeb" || ("BadWeb" : Str) == "HearthError" || ("BadWeb" : Str) == "ValueError")=false by decide]; exact⟨XK_BadSet.exc,tG XK_BadWeb n_BS_BW s_BS_BW⟩
  ·rw [zX_BO] at h1; cases h1
  ·rw [zX_BP] at h1; cases h1
  ·rw [zX_BB] at h1; cases h1
  ·rw [zX_BD] at h1; cases h1
  ·rw [aX_NW] at h1; cases h1; rw [hb,show (("NotWood" : Str) == "BadWeb" || ("BadWeb" : Str) == "HearthError" || ("BadWeb" : Str) == "ValueError")=false by decide]; exact⟨XK_NotWood.exc,tG XK_BadWeb n_NW_BW s_NW_BW⟩
  ·rw [zX_NP] at h1; cases h1
  ·rw [zX_NS] at h1; cases h1
  ·rw [zX_TM] at h1; cases h1
  ·rw [zX_NT] at h1; cases h1
  ·rw [zX_OR] at h1; cases h1),ab3 XK_BadWeb sN_BW⟩
 have is_NotWood:pT K mg "NotWood":=⟨C_NotWood,mg_of X G aX_NW,fun z=>(by cases z),(fun n C b h1 h2=>by
  obtain ⟨hm,hb⟩:=tF h2
  simp only [nL,bi0,bk3,br1] at hm
  rcases hm with rfl | rfl | rfl | rfl | rfl | rfl | rfl | rfl | rfl | rfl | rfl | rfl
  ·rw [aX_BW] at h1; cases h1; rw [hb,show (("BadWeb" : Str) == "NotWood" || ("NotWood" : Str) == "HearthError" || ("NotWood" : Str) == "ValueError")=false by decide]; exact⟨XK_BadWeb.exc,tG XK_NotWood n_BW_NW s_BW_NW⟩
  ·rw [aX_BS] at h1; cases h1; rw [hb,show (("BadSet" : Str) == "NotWood" || ("NotWood" : Str) == "HearthError" || ("NotWood" : Str) == "ValueError")=false by decide]; exact⟨XK_BadSet.exc,tG XK_NotWood n_BS_NW s_BS_NW⟩
  ·rw [zX_BO] at h1; cases h1
  ·rw [zX_BP] at h1; cases h1
  ·rw [zX_BB] at h1; cases h1
  ·rw [zX_BD] at h1; cases h1
  ·rw [aX_NW] at h1; cases h1; rw [hb,show (("NotWood" : Str) == "NotWood" || ("NotWood" : Str) == "HearthError" || ("NotWood" : Str) == "ValueError")=true by decide]; exact⟨XK_NotWood.exc,ab2⟩
  ·rw [zX_NP] at h1; cases h1
  ·rw [zX_NS] at h1; cases h1
  ·rw [zX_TM] at h1; cases h1
  ·rw [zX_NT] at h1; cases h1
  ·rw [zX_OR] at h1; cases h1),ab3 XK_NotWood sN_NW⟩
 have is_ValueError:yG K mg:=⟨mg_none_of X G z_VE,fun z=>(by cases z),(fun n C b h1 h2=>by
  obtain ⟨hm,hb⟩:=tF h2
  simp only [nL,bi0,bk3,br1] at hm
  rcases hm with rfl | rfl | rfl | rfl | rfl | rfl | rfl | rfl | rfl | rfl | rfl | rfl
  ·rw [aX_BW] at h1; cases h1; rw [hb,show (("BadWeb" : Str) == "ValueError" || ("ValueError" : Str) == "HearthError" || ("ValueError" : Str) == "ValueError")=true by decide]; exact⟨XK_BadWeb.exc,yH sV_BW⟩
  ·rw [aX_BS] at h1; cases h1; rw [hb,show (("BadSet" : Str) == "ValueError" || ("ValueError" : Str) == "HearthError" || ("ValueError" : Str) == "ValueError")=true by decide]; exact⟨XK_BadSet.exc,yH sV_BS⟩
  ·rw [zX_BO] at h1; cases h1
  ·rw [zX_BP] at h1; cases h1
  ·rw [zX_BB] at h1; cases h1
  ·rw [zX_BD] at h1; cases h1
  ·rw [aX_NW] at h1; cases h1; rw [hb,show (("NotWood" : Str) == "ValueError" || ("ValueError" : Str) == "HearthError" || ("ValueError" : Str) == "ValueError")=true by decide]; exact⟨XK_NotWood.exc,yH sV_NW⟩
  ·rw [zX_NP] at h1; cases h1
  ·rw [zX_NS] at h1; cases h1
  ·rw [zX_TM] at h1; cases h1
  ·rw [zX_NT] at h1; cases h1
  ·rw [zX_OR] at h1; cases h1),aR2⟩
 have x_BadSet:Xc K mg base "BadSet":=⟨C_BadSet,_,_,_,_,ab1 KB (mg_of X G aX_BS) q_BS,PySem.F.excBase_ValueError,aX_BS⟩
 have x_NotWood:Xc K mg base "NotWood":=⟨C_NotWood,_,_,_,_,ab1 KB (mg_of X G aX_NW) q_NW,PySem.F.excBase_ValueError,aX_NW⟩
 have D0:=aN8 (bb5 (P:=l.prog) (w:=w) (base:=base) B h0.F) (h0.F.binds (ps:=["things"]) fun _ _ _ _ _ _ us hl=>by obtain ⟨_,rfl⟩:=nN hl; rfl) h0.F.kp (mg_of X G h0.a)
 have D1:=bb9 (P:=l.prog) (w:=w) (base:=base) B (h1.M X G)
 have D2:=aN9 (bb6 (P:=l.prog) (w:=w) (mg:=mg) (base:=base) h2.F) (h2.F.binds (ps:=["web"]) fun _ _ _ _ _ _ us hl=>by obtain ⟨_,rfl⟩:=nN hl; rfl) h2.F.kp (mg_of X G h2.a)
 have D3:=bc0 (P:=l.prog) (w:=w) (base:=base) B (h3.M X G)
 have D4:=bc2 (P:=l.prog) (w:=w) (base:=base) B (h4.M X G)
 have D5:=bc4 (P:=l.prog) (w:=w) (base:=base) B (h5.M X G)
 have D6:=bc5 (P:=l.prog) (w:=w) (base:=base) B (h6.M X G)
 have D7:=bc7 (P:=l.prog) (w:=w) (base:=base) B (h7.M X G)
 have D8:=aU4 (bb7 (P:=l.prog) (w:=w) (mg:=mg) (base:=base) h8.F) (h8.F.binds (ps:=["web"]) fun _ _ _ _ _ _ us hl=>by obtain ⟨_,rfl⟩:=nN hl; rfl) h8.F.kp (mg_of X G h8.a)
 have D9:=bc8 (P:=l.prog) (w:=w) (base:=base) B (h9.M X G)
 have D10:=bd0 (P:=l.prog) (w:=w) (base:=base) B (h10.M X G) D1
 have D11:=bd1 (P:=l.prog) (w:=w) (base:=base) B (h11.M X G) D3
 have D12:=bd2 (P:=l.prog) (w:=w) (base:=base) B (h12.M X G) D3
 have D13:=bd3 (P:=l.prog) (w:=w) (base:=base) B (h13.M X G) D5
 have D14:=bd4 (P:=l.prog) (w:=w) (base:=base) B (h14.M X G) D5 D6
 have D15:=bd5 (P:=l.prog) (w:=w) (base:=base) B (h15.M X G) D8
 have D16:=bd7 (P:=l.prog) (w:=w) (base:=base) B (h16.M X G) D0 D10
 have D17:=bd9 (P:=l.prog) (w:=w) (base:=base) B (h17.M X G) D11 D1
 have D18:=be0 (P:=l.prog) (w:=w) (base:=base) B (h18.M X G) D13 D5 D6
 have D19:=be1 (P:=l.prog) (w:=w) (base:=base) B (h19.M X G) D13 D5 D6 D14
 have D20:=be3 (P:=l.prog) (w:=w) (base:=base) B (h20.M X G) D16 x_BadSet
 have D21:=be4 (P:=l.prog) (w:=w) (base:=base) B (h21.M X G) D2 D20 D12 D11
 have D22:=be6 (P:=l.prog) (w:=w) (base:=base) B (h22.M X G) D21 D17
 have D23:=be8 (P:=l.prog) (w:=w) (base:=base) B (h23.M X G) D1 D22
 have D24:=be9 (P:=l.prog) (w:=w) (base:=base) B (h24.M X G) D23 D2 D22 D4 x_NotWood
 have D25:=bf0 (P:=l.prog) (w:=w) (base:=base) B (h25.M X G) D1 D24
 have D26:=bf1 (P:=l.prog) (w:=w) (base:=base) B (h26.M X G) D2 D24 rv
 have D27:=bf2 (P:=l.prog) (w:=w) (base:=base) B (h27.M X G) D25 D26 cat_HearthError is_BadWeb is_NotWood is_ValueError
 have D28:=bf3 (P:=l.prog) (w:=w) (base:=base) B (h28.M X G) D15 D23 D25 D7
 have D29:=bf4 (P:=l.prog) (w:=w) (base:=base) B (h29.M X G) D23 D27
 exact aO3 (bf5 B F30 D19 D28 D29 D18 D5 D15 D9 D23 D27)
theorem bf7 {l:OpenLaw}{q:Program}{loose:List Str}{XP:(Str->Option Value)->Heap->Prop}{YP:World->Heap->Prop}{d:DefRec}{K:Params->Frag} (hn:l.most=some 63) (hdf:d.params.defaults = [])
  (hY:∀ (w:World) (h:Heap),YP w h->(K w.params).In h)
  (F:∀ (w:World) (mg:Str->Option Value) (fa:Addr) (h:Heap),(K w.params).In h->h.Ns mainGlobals mg->mg d.name=some (.ref fa)->
   ∃ fd:FuncData,(∀ (s:Shared) (u:Value),BindsTo s fd ⟨[u],[]⟩ [("script",u)])/\∀ base:Heap,(K w.params).In base->base.Ns mainGlobals mg->cP l.prog w (K w.params) mg base dQ 12 fa fd ["script"] (t8 (K w.params))) :
  WalkO q loose XP YP l.row.toRowW d [] (fun f vs=>PySem.call f vs):=
 L2.av8 (n:=63) (k:=12) (x:="script") (CX:=fun _=>dQ) (sp:=fun w=>t8 (K w.params)) hn (by decide) hdf ⟨rfl,by decide,by decide⟩ hY F (fun _ _ a ns hl hO hS=>⟨a,ns,rfl,aO4 hO hS,hl,fun _=>rfl⟩) fun _ _ _ _ _ z=>z
end K_k48
open PySem PySem.W PyProof.Rows
theorem PySem.W.Fast.te13052408679150730464 : True := trivial
theorem PySem.W.Fast.te16555476440528808052 : True := trivial
theorem PySem.W.Fast.te5369427470323729400 : True := trivial
set_option maxRecDepth 100000 in
set_option maxHeartbeats 0 in
theorem PySem.Challenge.cw_kindleweb_k48_woods_and_elders_holds : PySem.Challenge.rw_kindleweb_k48_woods_and_elders.Holds := by
 w_on; o_law; k_head; (case hw => w_witness2)
 k_fill
 refine K_k48.bf7 (l := PySem.Challenge.rw_kindleweb_k48_woods_and_elders) rfl rfl (fun w h Y => PySem.W.kIn_of Y) ?F
 case F =>
  intro w mg fa h KX G hmg
  refine' K_k48.bf6 KX G hmg ?h0 ?h1 ?h2 ?h3 ?h4 ?h5 ?h6 ?h7 ?h8 ?h9 ?h10 ?h11 ?h12 ?h13 ?h14 ?h15 ?h16 ?h17 ?h18 ?h19 ?h20 ?h21 ?h22 ?h23 ?h24 ?h25 ?h26 ?h27 ?h28 ?h29 ?a30 ?l30 ?c30 ?k30 ?z_len ?z_range ?z_tuple ?z_list ?z_sorted ?z_all ?z_any ?z_zip ?z_min ?z_max ?z_sum ?z_isinstance ?z_int ?z_bool ?z_enumerate ?z_reversed ?aX_HE ?aX_BW ?aX_BS ?aX_NW ?zX_BO ?zX_BP ?zX_BB ?zX_BD ?zX_NP ?zX_NS ?zX_TM ?zX_NT ?zX_OR ?y_fg ?y_ft ?z_VE ?y1_HE ?y2_HE ?y3_HE ?y4_HE ?y5_HE ?y6_HE ?y7_HE ?y1_BW ?y2_BW ?y3_BW ?y4_BW ?y5_BW ?y6_BW ?y7_BW ?y1_BS ?y2_BS ?y3_BS ?y4_BS ?y5_BS ?y6_BS ?y7_BS ?y1_NW ?y2_NW ?y3_NW ?y4_NW ?y5_NW ?y6_NW ?y7_NW ?sB_HE ?s_BW_HE ?s_BS_HE ?s_NW_HE ?sN_BW ?s_BS_BW ?n_BS_BW ?s_NW_BW ?n_NW_BW ?sN_NW ?s_BW_NW ?n_BW_NW ?s_BS_NW ?n_BS_NW ?sV_BW ?sV_BS ?sV_NW ?q_BS ?q_NW
  (case h0 | h1 | h2 | h3 | h4 | h5 | h6 | h7 | h8 | h9 | h10 | h11 | h12 | h13 | h14 | h15 | h16 | h17 | h18 | h19 | h20 | h21 | h22 | h23 | h24 | h25 | h26 | h27 | h28 | h29 => exact ⟨by k_is, ⟨⟨_, _, _, _, _, _, _, _, _, rfl, by k_is, by k_is⟩, by k_is⟩⟩)
  (case a30|l30|c30|k30|z_len|z_range|z_tuple|z_list|z_sorted|z_all|z_any|z_zip|z_min|z_max|z_sum|z_isinstance|z_int|z_bool|z_enumerate|z_reversed|aX_HE|aX_BW|aX_BS|aX_NW|zX_BO|zX_BP|zX_BB|zX_BD|zX_NP|zX_NS|zX_TM|zX_NT|zX_OR|y_fg|y_ft|z_VE|y1_HE|y2_HE|y3_HE|y4_HE|y5_HE|y6_HE|y7_HE|y1_BW|y2_BW|y3_BW|y4_BW|y5_BW|y6_BW|y7_BW|y1_BS|y2_BS|y3_BS|y4_BS|y5_BS|y6_BS|y7_BS|y1_NW|y2_NW|y3_NW|y4_NW|y5_NW|y6_NW|y7_NW|sB_HE|s_BW_HE|s_BS_HE|s_NW_HE|sN_BW|s_BS_BW => k_is)
  (case n_BS_BW => decide)
  (case s_NW_BW => k_is)
  (case n_NW_BW => decide)
  (case sN_NW|s_BW_NW => k_is)
  (case n_BW_NW => decide)
  (case s_BS_NW => k_is)
  (case n_BS_NW => decide)
  (case sV_BW|sV_BS|sV_NW => k_is)
  (case q_BS|q_NW => k_exc)


