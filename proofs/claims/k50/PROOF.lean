import PyProof.Rows.All
import Wide.All
import OpenK.AllK
import Wide.FinOn
import Lean
import PyProof.EqAt
import PyProof.EqKinds
import PyProof.TupleCall
import PyProof.NeKinds
import PyProof.Draws
import PyProof.ZipIter
import PyProof.DictUpdate
import PyProof.AutoSeq1
import PyProof.ListRange
import PyProof.ListMulRoad
import PyProof.FactsAll.tuple_2
import PyProof.Rows.SortShell
import PyProof.EnumFor
import PyProof.EnumMake
import PyProof.EnumStmt
import PyProof.Rows.SortWalk
import KE.KDictList
import PyProof.SumAny
import PyProof.ConsumeWalk
import PyProof.WalksMore
import PyProof.Rows.TupAssign
import PyProof.ExcArgsOwn
import PySem.Challenge.RW_kindleweb_k50_apart_papers_judged
set_option Elab.async false
set_option linter.all false
set_option maxRecDepth 100000
set_option maxHeartbeats 4000000
section
open PySem PySem.Spec PyProof.Rows
noncomputable def bn3:=@wpAny_bind
noncomputable def bn4:=@decide_eq_true
noncomputable def bn5:=@List.size_toArray
noncomputable def bn6:=@Heap.get?_push_of_some
noncomputable def bn7:=@List.length_map
noncomputable def bn8:=@List.getElem?_eq_some_iff
noncomputable def bn9:=@decide_eq_false
noncomputable def bo0:=@List.length_append
noncomputable def bo1:=@List.getElem?_eq_getElem
noncomputable def bo2:=@List.mem_singleton
noncomputable def bo3:=@List.mem_cons
noncomputable def bo4:=@List.mem_cons_self
noncomputable def bo5:=@List.mem_cons_of_mem
noncomputable def bo6:=@List.mem_append
noncomputable def bo7:=@Nat.le_refl
noncomputable def bo8:=@List.getElem?_map
noncomputable def bo9:=@wpAny_pure
noncomputable def bp0:=@List.mem_of_getElem?
noncomputable def bp1:=@List.map_append
noncomputable def bp2:=@List.not_mem_nil
noncomputable def bp3:=@List.mem_filter
noncomputable def bp4:=@Nat.lt_of_lt_of_le
noncomputable def bp5:=@Heap.lt_size
noncomputable def bp6:=@List.mem_map
noncomputable def bp7:=@Heap.get?_push_size
noncomputable def bp8:=@List.length_cons
noncomputable def bp9:=@Bool.false_ne_true
noncomputable def bq0:=@List.getD_eq_getElem?_getD
noncomputable def bq2:=@List.pairwise_singleton
noncomputable def bq3:=@Option.some.inj
noncomputable def bq4:=@Bool.false_eq_true
noncomputable def bq7:=@Int.toNat_natCast
noncomputable def bq8:=@List.getElem?_set_ne
noncomputable def br0:=@List.mem_append_right
noncomputable def br1:=@List.length_singleton
noncomputable def br3:=@Bool.and_eq_true
noncomputable def br5:=@List.take_of_length_le
noncomputable def br6:=@List.append_nil
noncomputable def br7:=@Nat.ne_of_lt
noncomputable def br8:=@List.mem_append_left
noncomputable def br9:=@Nat.zero_le
noncomputable def bs0:=@List.length_set
noncomputable def bs1:=@List.take_add_one
noncomputable def bs2:=@Nat.le_trans
noncomputable def bs3:=@of_decide_eq_true
noncomputable def bs5:=@List.take_length
noncomputable def bs6:=@or_false
noncomputable def bs8:=@List.map_cons
noncomputable def bt0:=@Nat.lt_irrefl
noncomputable def bt1:=@List.length_filter_le
noncomputable def bt3:=@Bool.eq_iff_iff
noncomputable def bt4:=@PySem.mem_of_lookup
noncomputable def bt5:=@Nat.le_of_lt
noncomputable def bt6:=@PyProof.Rows.callWith_type1
noncomputable def bt8:=@List.length_take
noncomputable def bt9:=@Nat.le_add_right
noncomputable def bu0:=@List.nodup_cons
noncomputable def bu1:=@List.nodup_append
noncomputable def bu2:=@wpAny_field
noncomputable def bu3:=@wpAny_callSpecial?_slot
noncomputable def bu6:=@Classical.byContradiction
noncomputable def bu7:=@PySem.W.kia_one
noncomputable def bu8:=@wpAny_call_entry
noncomputable def bu9:=@List.lookup_cons
noncomputable def bv0:=@List.getElem?_set_self
noncomputable def bv1:=@if_false
noncomputable def bv2:=@List.Pairwise.nil
noncomputable def bv3:=@decide_eq_true_eq
noncomputable def bv4:=@wpAny_setField_rec
noncomputable def bv5:=@List.map_map
noncomputable def bv6:=@PySem.F.plainAttrs_list
noncomputable def bv7:=@wpAny_newObj_type
noncomputable def bv9:=@List.getElem?_append_left
noncomputable def bw1:=@Nat.ne_of_gt
noncomputable def bw2:=@Int.emod_nonneg
noncomputable def bw3:=@beq_self_eq_true
noncomputable def bw4:=@List.all_eq_true
noncomputable def bw6:=@List.replicate_succ
noncomputable def bw7:=@List.filter_eq_self
noncomputable def bw9:=@wpAny_mono
noncomputable def bx0:=@List.pairwise_map
noncomputable def bx1:=@Int.ne_of_lt
noncomputable def bx2:=@List.getElem?_cons_succ
noncomputable def bx3:=@of_decide_eq_false
noncomputable def bx4:=@wpAny_holding
noncomputable def bx5:=@List.length_drop
noncomputable def bx6:=@List.filter_cons
noncomputable def bx7:=@List.filter_eq_nil_iff
noncomputable def bx9:=@List.flatten_cons
noncomputable def by0:=@List.mem_range
noncomputable def by3:=@List.find?_cons
noncomputable def by5:=@Int.emod_lt_of_pos
noncomputable def by9:=@Bool.and_false
noncomputable def bz0:=@Bool.eq_false_iff
noncomputable def bz1:=@Heap.size_push
noncomputable def bz2:=@List.length_range
noncomputable def bz4:=@PyProof.Rows.slot_tuple_getitem
noncomputable def bz6:=@List.length_replicate
noncomputable def bz7:=@List.mem_iff_getElem?
noncomputable def bA1:=@PySem.F.slot_list_append
noncomputable def bA2:=@PySem.F.type_list_append
noncomputable def bA3:=@PyProof.Rows.boot_sorted
noncomputable def bA8:=@wpAny_truthy_bool
noncomputable def bA9:=@List.filter_congr
noncomputable def bB0:=@decide_eq_false_iff_not
noncomputable def bB1:=@List.filter_cons_of_neg
noncomputable def bB2:=@List.length_eq_zero_iff
noncomputable def bB4:=@Array.getD_eq_getD_getElem?
noncomputable def bB5:=@Int.zero_add
noncomputable def bB8:=@List.all_cons
noncomputable def bB9:=@Bool.and_true
noncomputable def bC0:=@Nat.le_of_not_lt
noncomputable def bC1:=@wpAny_pyIter_tuple
noncomputable def bC3:=@True.intro
noncomputable def bC4:=@wpAny_seqItems
noncomputable def bC5:=@List.pairwise_cons
noncomputable def bC6:=@List.take_append_drop
noncomputable def bC7:=@List.getElem?_eq_none
noncomputable def bC8:=@wpAny_passesOwn
noncomputable def bD0:=@PassesOwn.never
noncomputable def bD4:=@List.getElem?_inj
noncomputable def bD6:=@Int.le_refl
end
namespace L2
open PySem PySem.Spec PyProof.Rows
noncomputable abbrev aE:=Sum Int Str
noncomputable def nC:aE->Value->Bool
 | .inl k,v=>Value.isInt k v
 | .inr x,v=>Value.isStrOf x v
noncomputable def an9 (w:World):aE->Int
 | .inl k=>hashInt k
 | .inr x=>hashStr w x
theorem jR:∀ {k:aE}{v:Value},nC k v=true->(∃ i t,k=Sum.inl i/\v=Value.int i t) ∨ (∃ x t,k=Sum.inr x/\v=Value.str x t)
 | .inl i,v,h=>by
  obtain ⟨t,e⟩:=Value.isInt_shape (k:=i) (v:=v) h
  exact .inl ⟨i,t,rfl,e⟩
 | .inr x,v,h=>by
  obtain ⟨t,e⟩:=Value.isStrOf_shape (x:=x) (v:=v) h
  exact .inr ⟨x,t,rfl,e⟩
theorem ao0 (i:Int) (t:Tok):nC (.inl i) (.int i t)=true:=by simp [nC,Value.isInt]
theorem ao1 (x:Str) (t:Tok):nC (.inr x) (.str x t)=true:=by simp [nC,Value.isStrOf]
theorem ao2 (a b:Int):decide ((Sum.inl a:aE)=Sum.inl b)=(a == b):=by
 by_cases e:a=b
 ·subst e; simp
 ·have h : ¬ (Sum.inl a:aE)=Sum.inl b:=fun q=>e (Sum.inl.inj q)
  rw [bn9 h]
  exact (beq_eq_false_iff_ne.mpr e).symm
theorem ao3 (a b:Str):decide ((Sum.inr a:aE)=Sum.inr b)=decide (a=b):=by
 by_cases e:a=b
 ·subst e; simp
 ·have h : ¬ (Sum.inr a:aE)=Sum.inr b:=fun q=>e (Sum.inr.inj q)
  rw [bn9 h,bn9 e]
theorem ao4 (a:Int) (b:Str):decide ((Sum.inl a:aE)=Sum.inr b)=false:=bn9 (fun q=>nomatch q)
theorem ao5 (a:Str) (b:Int):decide ((Sum.inr a:aE)=Sum.inl b)=false:=bn9 (fun q=>nomatch q)
noncomputable def eN (prog:Program) (w:World):PySem.KeyKind prog w aE where
 is:=nC
 hash:=an9 w
 inj:=fun v a b ha hb=>by
  rcases jR ha with ⟨i,t,rfl,rfl⟩ | ⟨x,t,rfl,rfl⟩
  ·rcases jR hb with ⟨j,u,rfl,e⟩ | ⟨y,u,rfl,e⟩
   ·injection e with e1 _; rw [e1]
   ·exact nomatch e
  ·rcases jR hb with ⟨j,u,rfl,e⟩ | ⟨y,u,rfl,e⟩
   ·exact nomatch e
   ·injection e with e1 _; rw [e1]
 byValue:=fun k v h=>by
  rcases jR h with ⟨i,t,rfl,rfl⟩ | ⟨x,t,rfl,rfl⟩ <;> rfl
 pyHash:=fun hv h=>by
  rcases jR hv with ⟨i,t,rfl,rfl⟩ | ⟨x,t,rfl,rfl⟩
  ·exact wpAny_pyHash_int h
  ·exact wpAny_pyHash_str h
 eqBool:=fun hu hv h=>by
  rcases jR hu with ⟨i,t,rfl,rfl⟩ | ⟨x,t,rfl,rfl⟩
  ·rcases jR hv with ⟨j,u,rfl,rfl⟩ | ⟨y,u,rfl,rfl⟩
   ·rw [ao2] at h; exact wpAny_eqBool_int h
   ·rw [ao4] at h; exact SeqAt.EqAt.int_str i t y u _ _ _ _ h
  ·rcases jR hv with ⟨j,u,rfl,rfl⟩ | ⟨y,u,rfl,rfl⟩
   ·rw [ao5] at h; exact SeqAt.EqAt.str_int x t j u _ _ _ _ h
   ·rw [ao3] at h; exact wpAny_eqBool_str h
 «strs»:=fun k x t v h=>by
  rcases jR h with ⟨i,u,rfl,e⟩ | ⟨y,u,rfl,e⟩
  ·exact nomatch e
  ·injection e with e1 _
   subst e1
   cases v <;> rfl
theorem ao6 (prog:Program) (w:World) (i:Int) (t:Tok):(eN prog w).is (.inl i) (.int i t)=true:=ao0 i t
theorem ao7 (prog:Program) (w:World) (x:Str) (t:Tok):(eN prog w).is (.inr x) (.str x t)=true:=ao1 x t
inductive V where
 | non | bl (b:Bool) | int (i:Int) | str (x:Str) | byt (b:Array UInt8) | flt (b:UInt64) | ref (a:Addr) | ty (n:String)
 deriving DecidableEq
noncomputable def b5:V->Value->Prop
 | .non,u=>u=Value.none
 | .bl b,u=>u=Value.bool b
 | .int i,u=>∃ t,u=Value.int i t
 | .str x,u=>∃ t,u=Value.str x t
 | .byt b,u=>∃ t,u=Value.bytes b t
 | .flt b,u=>∃ t,u=Value.float b t
 | .ref a,u=>u=Value.ref a
 | .ty n,u=>u=Value.type n
noncomputable abbrev aR:List V->List Value->Prop:=Paired b5
theorem aR.length {xs:List V}{us:List Value} (r:aR xs us):xs.length=us.length:=Paired.length r
theorem aR.get:∀ {xs:List V}{us:List Value}{i:Nat}{x:V},aR xs us->xs[i]? = some x->∃ u,us[i]? = some u/\b5 x u
 | _,_,_,_,.nil,e=>by simp at e
 | _,_,0,_,.cons r _,e=>by simp at e; subst e; exact⟨_,rfl,r⟩
 | _,_,i+1,x,.cons _ t,e=>by
  obtain ⟨u,h1,h2⟩:=aR.get (i:=i) (x:=x) t (by simpa using e)
  exact⟨u,by simpa using h1,h2⟩
theorem aR.set {x:V}{u:Value} (r:b5 x u):∀ {xs:List V}{us:List Value} (i:Nat),aR xs us->aR (xs.set i x) (us.set i u)
 | _,_,_,.nil=>.nil
 | _,_,0,.cons _ t=>.cons r t
 | _,_,i+1,.cons q t=>.cons q (aR.set r i t)
theorem aR.append:∀ {xs ys:List V}{us ws:List Value},aR xs us->aR ys ws->aR (xs ++ ys) (us ++ ws)
 | _,_,_,_,.nil,s=>s
 | _,_,_,_,.cons r t,s=>.cons r (aR.append t s)
theorem aR.take:∀ {xs:List V}{us:List Value} (n:Nat),aR xs us->aR (xs.take n) (us.take n)
 | _,_,0,_=>.nil
 | _,_,_+1,.nil=>.nil
 | _,_,n+1,.cons r t=>.cons r (aR.take n t)
theorem aR.drop:∀ {xs:List V}{us:List Value} (n:Nat),aR xs us->aR (xs.drop n) (us.drop n)
 | _,_,0,r=>r
 | _,_,_+1,.nil=>.nil
 | _,_,n+1,.cons _ t=>aR.drop n t
noncomputable def kF:Option V->Option Value->Prop
 | some v,some u=>b5 v u
 | none,none=>True
 | _,_=>False
noncomputable def KV {κ:Type}:List (κ × V)->List (κ × Value)->Prop:=Paired fun (p:κ × V) (q:κ × Value)=>p.1=q.1/\b5 p.2 q.2
noncomputable def kV:aE->V
 | .inl i=>.int i
 | .inr x=>.str x
inductive HO where
 | lst (xs:List V)
 | tup (xs:List V)
 | dK (kvs:List (aE × V)) | dT (kvs:List (List aE × V))
 | set (S:Int->Bool) (n:Nat)
 | ins (C dx:Addr) (fs:List (Str × V))
 | own (x:Addr)
 | xd (fs:List (Str × V))
 | met (f x:Addr)
 | rng (lo hi:Int)
 | frz (o:Obj) (u:HO)
 | tbl (ps:Array Value)
 | ext (φ:Heap->Prop)
noncomputable abbrev Hp:=Addr->Option HO
noncomputable def upd (H:Hp) (a:Addr) (o:HO):Hp:=fun b=>if b=a then some o else H b
theorem bN {H:Hp}{a:Addr}{o:HO}:upd H a o a=some o:=by unfold upd; rw [if_pos rfl]
theorem aX {H:Hp}{a b:Addr}{o:HO} (h:b ≠ a):upd H a o b=H b:=by unfold upd; rw [if_neg h]
theorem ao8 {H:Hp}{a b:Addr}{o u:HO} (h:H a=some o) (h':H b=some u) (d:o ≠ u):a ≠ b:=by
 intro e; subst e; rw [h] at h'; exact d (bq3 h')
theorem cK {H:Hp}{a b:Addr}{o:HO} (h:H a=some o) (h':H b=none):a ≠ b:=by
 intro e; subst e; rw [h] at h'; cases h'
noncomputable def jS (h:Heap) (a:Addr):Prop:=∀ o,h.get? a=some o->o.dict=none
theorem jS.new (h:Heap) (o:Obj) (d:o.dict=none) (s:o.isFreed=false:=by rfl):jS (h.push o) h.objs.size:=fun u e=>by
 rw [bp7 h (o:=o) s] at e
 cases e; exact d
theorem jS.stay {h h':Heap}{a:Addr}{o:Obj} (n:jS h a) (e:h.get? a=some o) (e':h'.get? a=some o):jS h' a:=fun u hu=>by
 rw [e'] at hu; cases hu; exact n _ e
section
variable (P : Program) (w : World)
noncomputable def cD (H:Hp) (h:Heap) (a:Addr):HO->Prop
 | .lst xs=>xs.length<=sizeLine/\∃ (its:List Value) (n:Nat),aR xs its/\h.get? a=some { cls:=.type "list",data:=.seq its.toArray n }
 | .tup xs=>xs.length<=sizeLine/\∃ its:List Value,aR xs its/\IsTup h a its.toArray/\jS h a
 | .dK kvs=>kvs.length<=sizeLine/\(a == sysModules)=false/\∃ vs,KV kvs vs/\h.DictOf (eN P w) a vs
 | .dT kvs=>kvs.length<=sizeLine/\(a == sysModules)=false/\∃ xs:List (List aE × Addr × Value),
   Paired (fun (p:List aE × V) (q:List aE × Addr × Value)=>p.1=q.1/\H q.2.1=some (.tup (p.1.map kV))/\b5 p.2 q.2.2) kvs xs/\
   ∃ o es ep,h.get? a=some o/\o.ExactDict/\o.data = .dict es ep/\es.toList=xs.map (entryOfKey (tupleKind (eN P w)))/\(xs.map (·.1)).Nodup
 | .set S n=>h.SetOf (intKind P w) a S n
 | .ins C dx fs=>H dx=some (.own a)/\fs.length<=1000/\dx ≠ a/\h.get? a=some (PySem.W.instObj C dx)/\
   ∃ mA,h.Ns1 dx mA/\(∀ f,kF (fs.lookup f) (mA f))/\PySem.Within mA (fs.map (·.1))
 | .own _=>∃ o,h.get? a=some o
 | .xd fs=>∃ mA,h.Ns1 a mA/\∀ f,kF (fs.lookup f) (mA f)
 | .rng lo hi=>∃ t u v,h.get? a=some { cls:=.type "range",data:=.fields #[.int lo t,.int hi u,.int 1 v] }
 | .frz o u=>h.get? a=some o/\cD H h a u
 | .tbl ps=>h.get? a=some { cls:=.none,data:=.fields ps }
 | .met f x=>h.get? a=some (PySem.W.methodObj (.ref f) (.ref x))
 | .ext φ=>φ h/\(∃ o,h.get? a=some o)/\∀ h1 h2:Heap,φ h1->(∀ o,h1.get? a=some o->h2.get? a=some o)->φ h2
noncomputable def cE (H:Hp) (h:Heap):Prop:=∀ a o,H a=some o->cD P w H h a o
end
section
variable {P : Program} {w : World} {H H' : Hp} {h h' : Heap} {a : Addr} {o : HO}
theorem cD.lt (x:cD P w H h a o):a < h.objs.size:=by
 cases o with
 | lst xs=>obtain ⟨_,_,_,_,e⟩:=x; exact bp5 e
 | tup xs=>obtain ⟨_,_,_,p,_⟩:=x; exact p.lt
 | dK kvs=>obtain ⟨_,_,_,_,o,_,_,e,_⟩:=x; exact bp5 e
 | dT kvs=>obtain ⟨_,_,_,_,o,_,_,e,_⟩:=x; exact bp5 e
 | set S n=>obtain ⟨o,_,_,_,e,_⟩:=x; exact bp5 e
 | ins C dx fs=>obtain ⟨_,_,_,e,_⟩:=x; exact bp5 e
 | own y=>obtain ⟨_,e⟩:=x; exact bp5 e
 | xd fs=>obtain ⟨_,⟨_,_,_,e,_⟩,_⟩:=x; exact bp5 e
 | rng lo hi=>obtain ⟨_,_,_,e⟩:=x; exact bp5 e
 | frz ob u=>obtain ⟨e,_⟩:=x; exact bp5 e
 | tbl ps=>exact bp5 (show h.get? a=some _ from x)
 | met f y=>exact bp5 (show h.get? a=some _ from x)
 | ext φ=>obtain ⟨_,⟨_,e⟩,_⟩:=x; exact bp5 e
theorem Paired.mapP {α β:Type}{F G:α->β->Prop}:∀ {l₁:List α}{l₂:List β},Paired F l₁ l₂->(∀ a b,F a b->G a b)->Paired G l₁ l₂
 | _,_,.nil,_=>.nil
 | _,_,.cons r t,f=>.cons (f _ _ r) (Paired.mapP t f)
theorem cD.stay (x:cD P w H h a o) (k:∀ b u,(b=a ∨ H b=some (.own a))->h.get? b=some u->h'.get? b=some u)
  (ho:∀ b,H b=some (.own a)->H' b=some (.own a)) (ht:∀ b xs,H b=some (.tup xs)->H' b=some (.tup xs)):cD P w H' h' a o:=by
 induction o with
 | lst xs=>obtain ⟨z,its,n,r,e⟩:=x; exact⟨z,its,n,r,k _ _ (.inl rfl) e⟩
 | tup xs=>obtain ⟨z,its,r,⟨ob,e,c⟩,nd⟩:=x; exact⟨z,its,r,⟨ob,k _ _ (.inl rfl) e,c⟩,nd.stay e (k _ _ (.inl rfl) e)⟩
 | dK kvs=>obtain ⟨z,y,vs,r,ob,es,ep,e,c⟩:=x; exact⟨z,y,vs,r,ob,es,ep,k _ _ (.inl rfl) e,c⟩
 | dT kvs=>
  obtain ⟨z,y,xs,r,ob,es,ep,e,c⟩:=x
  exact⟨z,y,xs,Paired.mapP r fun p q z=>⟨z.1,ht _ _ z.2.1,z.2.2⟩,ob,es,ep,k _ _ (.inl rfl) e,c⟩
 | set S n=>obtain ⟨ob,es,ep,t,e,c⟩:=x; exact⟨ob,es,ep,t,k _ _ (.inl rfl) e,c⟩
 | ins C dx fs=>
  obtain ⟨d,z,ne,e,mA,⟨od,es,ep,e2,c⟩,r⟩:=x
  exact⟨ho _ d,z,ne,k _ _ (.inl rfl) e,mA,⟨od,es,ep,k _ _ (.inr d) e2,c⟩,r⟩
 | own y=>obtain ⟨ob,e⟩:=x; exact⟨ob,k _ _ (.inl rfl) e⟩
 | xd fs=>obtain ⟨mA,⟨od,es,ep,e,c⟩,r⟩:=x; exact⟨mA,⟨od,es,ep,k _ _ (.inl rfl) e,c⟩,r⟩
 | rng lo hi=>obtain ⟨t,u,v,e⟩:=x; exact⟨t,u,v,k _ _ (.inl rfl) e⟩
 | frz ob u ih=>obtain ⟨e,q⟩:=x; exact⟨k _ _ (.inl rfl) e,ih q⟩
 | tbl ps=>
  have e:h.get? a=some { cls:=.none,data:=.fields ps }:=x
  show h'.get? a=some { cls:=.none,data:=.fields ps }
  exact k a _ (.inl rfl) e
 | met f y=>
  have e:h.get? a=some (PySem.W.methodObj (.ref f) (.ref y)):=x
  show h'.get? a=some (PySem.W.methodObj (.ref f) (.ref y))
  exact k a _ (.inl rfl) e
 | ext φ=>obtain ⟨p,⟨o,e⟩,st⟩:=x; exact⟨st _ _ p fun o q=>k _ _ (.inl rfl) q,⟨o,k _ _ (.inl rfl) e⟩,st⟩
theorem cE.lt (x:cE P w H h) (e:H a=some o):a < h.objs.size:=(x a o e).lt
theorem cE.fresh (x:cE P w H h) (e:h.objs.size<=a):H a=none:=by
 cases q:H a with
 | none=>rfl
 | some u=>exact absurd (bp4 (x.lt q) e) (bt0 _)
theorem cE.kept (x:cE P w H h) (k:∀ b u,h.get? b=some u->h'.get? b=some u):cE P w H h':=fun a o e=>
 (x a o e).stay (fun b u _ q=>k b u q) (fun _ q=>q) fun _ _ q=>q
theorem cE.laid (x:cE P w H h) (k:∀ b u,h.get? b=some u->h'.get? b=some u) (hp:h.objs.size<=a) (new:cD P w (upd H a o) h' a o):cE P w (upd H a o) h':=fun b u e=>by
 have hn:=x.fresh hp
 by_cases hb:b=a
 ·subst hb; rw [bN] at e; cases e; exact new
 ·rw [aX hb] at e
  exact (x b u e).stay (fun c v _ q=>k c v q) (fun c q=>by rw [aX (cK q hn)]; exact q) fun c xs q=>by rw [aX (cK q hn)]; exact q
end
noncomputable def Rd (H:Hp) (a:Addr) (u:HO):Prop:=H a=some u ∨ ∃ o,H a=some (.frz o u)
theorem Rd.ok {P:Program}{w:World}{H:Hp}{h:Heap}{a:Addr}{u:HO} (r:Rd H a u) (x:cE P w H h):cD P w H h a u:=by
 rcases r with r | ⟨o,r⟩
 ·exact x a u r
 ·obtain ⟨_,q⟩:=x a _ r
  exact q
noncomputable def oT:Option HO->Prop
 | some (.lst _)=>True
 | some (.dK _)=>True
 | some (.dT _)=>True
 | some (.set _ _)=>True
 | some (.ins _ _ _)=>True
 | some (.ext _)=>True
 | _=>False
section
variable {P : Program} {w : World} {H : Hp} {h h' : Heap} {x e : Addr} {o' : HO}
theorem cE.write (ok:cE P w H h) (mu:oT (H x)) (he:e=x ∨ H e=some (.own x)) (k:∀ b u,b ≠ e->h.get? b=some u->h'.get? b=some u) (heo:∃ u,h'.get? e=some u)
  (new:cD P w (upd H x o') h' x o'):cE P w (upd H x o') h':=fun b u q=>by
 have nown:∀ c y,H c=some (.own y)->c ≠ x:=fun c y r z=>by subst z; rw [r] at mu; exact mu
 have ntup:∀ c xs,H c=some (.tup xs)->c ≠ x:=fun c xs r z=>by subst z; rw [r] at mu; exact mu
 by_cases hb:b=x
 ·subst hb; rw [bN] at q; cases q; exact new
 ·rw [aX hb] at q
  by_cases hbe:b=e
  ·have q':H b=some (.own x):=by
    rcases he with z | z
    ·exact absurd (hbe.trans z) hb
    ·rw [hbe]; exact z
   rw [q] at q'; cases q'
   obtain ⟨v,hv⟩:=heo
   exact⟨v,by rw [hbe]; exact hv⟩
  ·refine (ok b u q).stay (fun c v hc r=>k c v ?_ r) (fun c r=>by rw [aX (nown c b r)]; exact r) fun c xs r=>by rw [aX (ntup c xs r)]; exact r
   rcases hc with rfl | hc
   ·exact hbe
   ·rintro rfl
    rcases he with z | z
    ·exact nown c b hc z
    ·rw [hc] at z; cases z; exact hb rfl
end
structure Un (fs ex:List Addr) (H H':Hp) (h h':Heap):Prop where
 keep:∀ b o,h.get? b=some o->H b=none->b ∉ fs->b ∉ ex->h'.get? b=some o
 slot:∀ b o,h.get? b=some o->H b=none->b ∈ fs->b ∉ ex->∃ sl,h'.get? b=some { o with slots:=sl }
 free:∀ b o,h.get? b=some o->H b=none->b ∉ ex->H' b=none
 there:∀ b o,h.get? b=some o->b ∉ ex->∃ o',h'.get? b=some o'
 tups:∀ b xs,H b=some (.tup xs)->H' b=some (.tup xs)
 frzs:∀ b o u,H b=some (.frz o u)->H' b=some (.frz o u)
 tbls:∀ b ps,H b=some (.tbl ps)->∃ more,H' b=some (.tbl (ps ++ more))
section
variable {fs fs' ex ex' : List Addr} {H H1 H2 : Hp} {h h1 h2 h' : Heap} {a x e : Addr} {o : HO}
theorem Un.any (u:Un fs ex H H1 h h1) {b:Addr}{ob:Obj} (q:h.get? b=some ob) (n:H b=none) (hx:b ∉ ex):∃ sl,h1.get? b=some { ob with slots:=sl }:=by
 by_cases hb:b ∈ fs
 ·exact u.slot b ob q n hb hx
 ·exact⟨ob.slots,u.keep b ob q n hb hx⟩
theorem Un.kept (k:∀ b u,h.get? b=some u->h'.get? b=some u):Un fs ex H H h h':=
 ⟨fun b ob q _ _ _=>k b ob q,fun b ob q _ _ _=>⟨ob.slots,k b ob q⟩,fun _ _ _ n _=>n,fun b ob q _=>⟨ob,k b ob q⟩,fun _ _ q=>q,fun _ _ _ q=>q,fun _ ps q=>⟨#[],by rw [q]; simp⟩⟩
theorem Un.refl:Un fs ex H H h h:=Un.kept fun _ _ q=>q
theorem Un.laid (k:∀ b u,h.get? b=some u->h'.get? b=some u) (hp:h.objs.size<=a) (hn:H a=none):Un fs ex H (upd H a o) h h' where
 keep:=fun b u q _ _ _=>k b u q
 slot:=fun b u q _ _ _=>⟨u.slots,k b u q⟩
 free:=fun b u q n _=>by rw [aX (br7 (bp4 (bp5 q) hp))]; exact n
 there:=fun b u q _=>⟨u,k b u q⟩
 tups:=fun b xs q=>by rw [aX (cK q hn)]; exact q
 frzs:=fun b u xs q=>by rw [aX (cK q hn)]; exact q
 tbls:=fun b ps q=>⟨#[],by rw [aX (cK q hn),q]; simp⟩
theorem Un.write (mu:oT (H x)) (he:e=x ∨ H e=some (.own x)) (k:∀ b u,b ≠ e->h.get? b=some u->h'.get? b=some u) (heo:∃ u,h'.get? e=some u):Un fs ex H (upd H x o) h h':=by
 have hx:∀ b,H b=none->b ≠ x:=fun b n z=>by subst z; rw [n] at mu; exact mu
 have hb:∀ b,H b=none->b ≠ e:=fun b n z=>by
  subst z
  rcases he with r | r
  ·exact hx b n r
  ·rw [n] at r; cases r
 have hm:∀ b u,H b=some u->¬ oT (some u)->b ≠ x:=fun b u q nm z=>by subst z; rw [q] at mu; exact nm mu
 refine⟨fun b u q n _ _=>k b u (hb b n) q,fun b u q n _ _=>⟨u.slots,k b u (hb b n) q⟩,fun b u q n _=>by rw [aX (hx b n)]; exact n,fun b u q _=>?_,
  fun b xs q=>by rw [aX (hm b _ q fun z=>z)]; exact q,fun b u xs q=>by rw [aX (hm b _ q fun z=>z)]; exact q,fun b ps q=>⟨#[],by rw [aX (hm b _ q fun z=>z),q]; simp⟩⟩
 by_cases hbe:b=e
 ·subst hbe; exact heo
 ·exact⟨u,k b u hbe q⟩
end
noncomputable def rD (h:Heap) (H:Hp):List Addr:=(List.range h.objs.size).filter fun a=>(H a).isSome
noncomputable def kG (h:Heap) (H:Hp):Heap:=PySem.W.hideAll h (rD h H)
theorem ao9 (h:Heap) (H:Hp):(kG h H).objs.size=h.objs.size:=PySem.W.hideAll_size _ _
theorem ap0 {h:Heap}{H:Hp}{b:Addr}{o:Obj} (e:h.get? b=some o) (n:H b=none):(kG h H).get? b=some o:=
 PySem.W.hideAll_get _ e fun hm=>by
  have q:(H b).isSome=true:=(bp3.mp hm).2
  rw [n] at q; simp at q
theorem ap1 {h:Heap}{H:Hp}{b:Addr}{o:Obj} (e:(kG h H).get? b=some o):h.get? b=some o/\H b=none:=by
 have e':h.get? b=some o:=PySem.W.of_hideAll (rD h H) e
 refine⟨e',?_⟩
 cases q:H b with
 | none=>rfl
 | some x=>
  have hm:b ∈ rD h H:=bp3.mpr ⟨by0.mpr (bp5 e'),by simp [q]⟩
  have z:(kG h H).get? b=none:=PySem.W.hideAll_none (rD h H) hm
  rw [z] at e; cases e
noncomputable def oU (g h:Heap) (L:Addr):List (Addr × Obj):=(List.range h.objs.size).filterMap fun a=>if a=L ∨ (g.get? a).isSome=true then none else (h.get? a).map fun o=>(a,o)
theorem uT {g h:Heap}{L a:Addr}{o:Obj} (h1:a ≠ L) (h2:g.get? a=none) (h3:h.get? a=some o):(a,o) ∈ oU g h L:=
 List.mem_filterMap.mpr ⟨a,by0.mpr (bp5 h3),by simp [h1,h2,h3]⟩
theorem ap2 {g h:Heap}{L:Addr}{p:Addr × Obj} (hp:p ∈ oU g h L):p.1 ≠ L/\g.get? p.1=none/\h.get? p.1=some p.2:=by
 obtain ⟨b,_,e⟩:=List.mem_filterMap.mp hp
 split at e
 ·cases e
 ·rename_i hn
  cases q:h.get? b with
  | none=>rw [q] at e; simp at e
  | some u=>
   rw [q] at e
   simp only [Option.map_some,Option.some.injEq] at e
   subst e
   refine⟨fun z=>hn (.inl z),?_,q⟩
   show g.get? b=none
   cases r:g.get? b with
   | none=>rfl
   | some v=>exact (hn (.inr (by simp [r]))).elim
noncomputable def dH (g h:Heap) (L d:Addr):List (Addr × Obj):=(oU g h L).filter fun p=>decide (p.1 ≠ d)
theorem B6 {g h:Heap}{L:Addr}:News g L h (oU g h L):=fun p hp=>let ⟨a,b,c⟩:=ap2 hp; ⟨c,a,b⟩
structure Mod (K:PySem.W.Frag) (mg:Str->Option Value) (base:Heap):Prop where
 kin:K.In base
 glob:base.Ns mainGlobals mg
 blt:∃ mb,base.Ns builtinsNs mb/\∀ x:Str,x ≠ "__name__"->mb x=bootBuiltins x
 nolimit:base.NoLimit
structure Cx where
 prog:Program
 w:World
 K:PySem.W.Frag
 mg:Str->Option Value
 base:Heap
 A:Around
 N:List Str
 s₀:Shared
 H₀:Hp
 env:Env
 outer:List Env
 stack:List Env
 ex:List Addr
 fn:Str->Bool
 calm:Bool
 pn:List (Addr × Obj)
 xe:Value->Shared->Prop
noncomputable def c9 (l:List Env):List Addr:=l.filterMap (·.frame)
noncomputable abbrev Cx.fs (X:Cx):List Addr:=c9 X.outer
noncomputable def i9 (sc:Scope) (x:Str):Prop:=sc.names.lookup x=some .local ∨ sc.names.lookup x=some .cell ∨ sc.names.lookup x=some .free
noncomputable def iP (sc:Scope) (x:Str):Prop:=sc.names.lookup x=some .local ∨ sc.names.lookup x=some .cell
noncomputable def ap3 (env:Env) (h:Heap) (m:Str->Option Value) (x:Str) (u:Value):Prop:=
 (env.kindOf x=some .local/\m x=some u) ∨ ((env.kindOf x=some .cell ∨ env.kindOf x=some .free)/\∃ c,env.cells.lookup x=some c/\h.IsCell c (some u))
structure Cx.Ok (X:Cx):Prop where
 mod:Mod X.K X.mg X.base
 kind:X.env.scope.kind = .function
 glob:X.env.globals=mainGlobals
 blt:X.env.builtins=builtinsNs
 above:X.s₀.heap.objs.size<=X.env.locals
 inj:∀ x y c,X.env.cells.lookup x=some c->X.env.cells.lookup y=some c->x=y
 has:∀ x,(X.env.kindOf x=some .cell ∨ X.env.kindOf x=some .free)->∃ c,X.env.cells.lookup x=some c
 cab:∀ x c,X.fn x=true->X.env.cells.lookup x=some c->X.s₀.heap.objs.size<=c
 hd:X.calm=true->X.A.handled=none
 frames:X.A.frames=some X.stack
 stk:X.stack=X.outer ∨ (X.stack=X.env :: X.outer/\X.env.frame=some X.env.locals)
 exf:∀ b ∈ X.ex,b ≠ X.env.locals/\∀ x c,X.env.cells.lookup x=some c->c ≠ b
 bs:∀ b o,X.base.get? b=some o->X.s₀.heap.get? b=some o/\X.H₀ b=none
 bsz:X.base.objs.size<=X.s₀.heap.objs.size
 noex:∀ b o,X.base.get? b=some o->b ∉ X.ex
 exfs:∀ b ∈ X.ex,b ∉ X.fs
 funs:X.s₀.heap.FunFrames X.base X.outer
 frf:∀ b ∈ X.fs,X.H₀ b=none
structure a8 (X:Cx) (pins:List (Addr × Obj)) (σ:List (Option V)) (H:Hp) (s:Shared):Prop where
 ok:X.Ok
 os:s.os=X.s₀.os
 bare:AllBare s.gens
 base:Un X.fs X.ex X.H₀ H X.s₀.heap s.heap
 loc:∃ m,s.heap.Ns X.env.locals m/\∀ (i:Nat) (x:Str) (v:V),X.N[i]? = some x->σ[i]? = some (some v)->i9 X.env.scope x->∃ u,b5 v u/\ap3 X.env s.heap m x u
 cell:∀ x c,X.env.cells.lookup x=some c->∃ v,s.heap.IsCell c v
 free:H X.env.locals=none
 freeC:∀ x c,X.env.cells.lookup x=some c->H c=none
 pin:∀ p ∈ X.pn ++ pins,s.heap.get? p.1=some p.2/\H p.1=none/\p.1 ≠ X.env.locals/\p.1 ∉ X.fs/\∀ v,p.2.data ≠ .cell v
 hok:cE X.prog X.w H s.heap
 len:σ.length=X.N.length
section
variable {X : Cx} {pins : List (Addr × Obj)} {σ : List (Option V)} {H H' : Hp} {s : Shared} {h' : Heap}
theorem Cx.Ok.nofr (ok:X.Ok) {b:Addr}{o:Obj} (e:X.base.get? b=some o):b ∉ X.fs:=fun hb=>by
 have:=(ok.funs.mem hb).1
 rw [e] at this; cases this
theorem a8.bs (I:a8 X pins σ H s):∀ b o,X.base.get? b=some o->s.heap.get? b=some o/\H b=none:=fun b o e=>
 ⟨I.base.keep b o (I.ok.bs b o e).1 (I.ok.bs b o e).2 (I.ok.nofr e) (I.ok.noex b o e),I.base.free b o (I.ok.bs b o e).1 (I.ok.bs b o e).2 (I.ok.noex b o e)⟩
theorem a8.bk (I:a8 X pins σ H s):∀ b o,X.base.get? b=some o->s.heap.get? b=some o:=fun b o e=>(I.bs b o e).1
theorem a8.mod (I:a8 X pins σ H s):Mod X.K X.mg X.base:=I.ok.mod
theorem a8.kIn (I:a8 X pins σ H s):X.K.In s.heap:=I.ok.mod.kin.keeps I.bk
theorem a8.fr (I:a8 X pins σ H s):∃ m,Fr X.base X.env.locals s.heap m:=
 let ⟨m,hn,_⟩:=I.loc
 ⟨m,hn,I.bk,bs2 I.ok.bsz I.ok.above⟩
theorem a8.lt (I:a8 X pins σ H s):X.env.locals < s.heap.objs.size:=let ⟨_,hn,_⟩:=I.loc; hn.lt
theorem a8.sz (I:a8 X pins σ H s):X.s₀.heap.objs.size<=s.heap.objs.size:=bs2 I.ok.above (bt5 I.lt)
theorem a8.nofs (I:a8 X pins σ H s) {a:Addr} (h:s.heap.objs.size<=a):a ∉ X.fs:=fun hb=>by
 obtain ⟨_,o,ho,_⟩:=I.ok.funs.mem hb
 exact absurd (bp4 (bp5 ho) (bs2 I.sz h)) (bt0 _)
theorem a8.cne (I:a8 X pins σ H s):∀ x c,X.env.cells.lookup x=some c->c ≠ X.env.locals:=fun x c e z=>by
 obtain ⟨v,o,ho,hd⟩:=I.cell x c e
 obtain ⟨m,⟨o',es,ep,ho',hd',_⟩,_⟩:=I.loc
 rw [z,ho'] at ho; cases ho; rw [hd'] at hd; cases hd
theorem a8.funs (I:a8 X pins σ H s):s.heap.FunFrames X.base X.outer:=by
 have all:∀ (l:List Env),(∀ b ∈ c9 l,b ∈ X.fs)->X.s₀.heap.FunFrames X.base l->s.heap.FunFrames X.base l:=by
  intro l
  induction l with
  | nil=>intro _ _; trivial
  | cons env r ih=>
   intro hs hl
   obtain ⟨hk,⟨L,o,hf,hn,ho,hd⟩,hr⟩:=hl
   have hL:L ∈ X.fs:=hs L (by unfold c9; rw [List.filterMap_cons,hf]; exact bo4)
   obtain ⟨sl,e⟩:=I.base.slot L o ho (I.ok.frf L hL) hL fun z=>I.ok.exfs L z hL
   exact⟨hk,⟨L,_,hf,hn,e,hd⟩,ih (fun b hb=>hs b (by unfold c9; rw [List.filterMap_cons,hf]; exact bo5 _ hb)) hr⟩
 exact all X.outer (fun _ hb=>hb) I.ok.funs
theorem a8.stack (I:a8 X pins σ H s):s.heap.FunFrames X.base X.stack:=by
 rcases I.ok.stk with e | ⟨e,hf⟩
 ·rw [e]; exact I.funs
 ·rw [e]
  obtain ⟨m,hn,_⟩:=I.loc
  refine .cons (by rw [I.ok.kind]; decide) hf hn ?_ I.funs
  exact Heap.get?_none_of_le (bs2 I.ok.bsz I.ok.above)
theorem a8.stkSub (I:a8 X pins σ H s):∀ b ∈ c9 X.stack,b ∈ X.env.locals :: X.fs:=fun b hb=>by
 rcases I.ok.stk with e | ⟨e,hf⟩
 ·rw [e] at hb; exact bo5 _ hb
 ·rw [e] at hb
  unfold c9 at hb
  rw [List.filterMap_cons,hf] at hb
  exact hb
theorem a8.stkFree (I:a8 X pins σ H s):∀ b ∈ c9 X.stack,H b=none:=fun b hb=>by
 rcases bo3.mp (I.stkSub b hb) with e | hb
 ·rw [e]; exact I.free
 ·obtain ⟨_,o,ho,_⟩:=I.ok.funs.mem hb
  exact I.base.free b o ho (I.ok.frf b hb) fun z=>I.ok.exfs b z hb
theorem a8.step {g':Array GenState}{t':Nat}{d':Drawn}{ch:List Addr} (I:a8 X pins σ H s)
  (hch:∀ b ∈ ch,(b ∈ X.ex ∨ X.s₀.heap.objs.size<=b)/\b ≠ X.env.locals/\(∀ x c,X.env.cells.lookup x=some c->c ≠ b)/\∀ p ∈ X.pn ++ pins,p.1 ≠ b)
  (keep:∀ b o,b ≠ X.env.locals->b ∉ X.fs->b ∉ ch->s.heap.get? b=some o->H b=none->h'.get? b=some o)
  (slot:∀ b o,b ≠ X.env.locals->b ∈ X.fs->b ∉ ch->s.heap.get? b=some o->H b=none->∃ sl,h'.get? b=some { o with slots:=sl }) (free:∀ b o,b ∉ ch->s.heap.get? b=some o->H b=none->H' b=none)
  (there:∀ b o,b ∉ ch->s.heap.get? b=some o->∃ o',h'.get? b=some o')
  (tups:∀ b xs,H b=some (.tup xs)->H' b=some (.tup xs)) (frzs:∀ b o u,H b=some (.frz o u)->H' b=some (.frz o u)) (tbls:∀ b ps,H b=some (.tbl ps)->∃ more,H' b=some (.tbl (ps ++ more)))
  (ns:∀ m,s.heap.Ns X.env.locals m->h'.Ns X.env.locals m) (hok:cE X.prog X.w H' h') (hg:AllBare g') :
  a8 X pins σ H' { s with heap:=h',gens:=g',drawn:=d',toks:=t' }:=by
 have neL:∀ b o,X.s₀.heap.get? b=some o->b ≠ X.env.locals:=fun b o e=>br7 (bp4 (bp5 e) I.ok.above)
 have neC:∀ b o,X.s₀.heap.get? b=some o->b ∉ X.ex->b ∉ ch:=fun b o e hx hb=>by
  rcases (hch b hb).1 with z | z
  ·exact hx z
  ·exact absurd (bp4 (bp5 e) z) (bt0 _)
 have cellK:∀ x c,X.env.cells.lookup x=some c->∀ v,s.heap.IsCell c v->h'.IsCell c v:=fun x c e v ⟨o,ho,hd⟩=>by
  have nch:c ∉ ch:=fun z=>(hch c z).2.2.1 x c e rfl
  by_cases hc:c ∈ X.fs
  ·obtain ⟨sl,q⟩:=slot c o (I.cne x c e) hc nch ho (I.freeC x c e)
   exact⟨_,q,hd⟩
  ·exact⟨o,keep c o (I.cne x c e) hc nch ho (I.freeC x c e),hd⟩
 refine⟨I.ok,I.os,hg,⟨fun b o e n hb hx=>?_,fun b o e n hb hx=>?_,fun b o e n hx=>?_,fun b o e hx=>?_,fun b xs e=>tups b xs (I.base.tups b xs e),fun b o xs e=>frzs b o xs (I.base.frzs b o xs e),fun b ps e=>?_⟩,?_,fun x c e=>?_,?_,fun x c e=>?_,fun p hp=>?_,hok,I.len⟩
 ·exact keep b o (neL b o e) hb (neC b o e hx) (I.base.keep b o e n hb hx) (I.base.free b o e n hx)
 ·obtain ⟨sl,e1⟩:=I.base.slot b o e n hb hx
  obtain ⟨sl',e2⟩:=slot b _ (neL b o e) hb (neC b o e hx) e1 (I.base.free b o e n hx)
  exact⟨sl',e2⟩
 ·obtain ⟨o',e1⟩:=I.base.there b o e hx
  exact free b o' (neC b o e hx) e1 (I.base.free b o e n hx)
 ·obtain ⟨o',e1⟩:=I.base.there b o e hx
  exact there b o' (neC b o e hx) e1
 ·obtain ⟨m1,e1⟩:=I.base.tbls b ps e
  obtain ⟨m2,e2⟩:=tbls b _ e1
  exact⟨m1 ++ m2,by rw [e2,Array.append_assoc]⟩
 ·obtain ⟨m,hn,hl⟩:=I.loc
  refine⟨m,ns m hn,fun i x v e1 e2 e3=>?_⟩
  obtain ⟨u,r,l⟩:=hl i x v e1 e2 e3
  refine⟨u,r,?_⟩
  rcases l with l | ⟨k,c,e,z⟩
  ·exact .inl l
  ·exact .inr ⟨k,c,e,cellK x c e _ z⟩
 ·obtain ⟨v,z⟩:=I.cell x c e
  exact⟨v,cellK x c e v z⟩
 ·obtain ⟨m,⟨o,_,_,ho,_⟩,_⟩:=I.loc
  exact free _ o (fun z=>(hch _ z).2.1 rfl) ho I.free
 ·obtain ⟨v,o,ho,hd⟩:=I.cell x c e
  exact free c o (fun z=>(hch c z).2.2.1 x c e rfl) ho (I.freeC x c e)
 ·obtain ⟨e,n,ne,nf,d⟩:=I.pin p hp
  have nch:p.1 ∉ ch:=fun z=>(hch p.1 z).2.2.2 p hp rfl
  exact⟨keep p.1 p.2 ne nf nch e n,free p.1 p.2 nch e n,ne,nf,d⟩
theorem a8.un {t':Nat} (I:a8 X pins σ H s) (u:Un X.fs [] H H' s.heap h') (hok:cE X.prog X.w H' h'):a8 X pins σ H' { s with heap:=h',toks:=t' }:=by
 obtain ⟨m,⟨o,es,ep,ho,r⟩,_⟩:=id I.loc
 obtain ⟨sl,hL⟩:=u.any ho I.free (by simp)
 exact I.step (g':=s.gens) (d':=s.drawn) (ch:=[]) (fun _ z=>nomatch z) (fun b o _ hb _ e n=>u.keep b o e n hb (by simp)) (fun b o _ hb _ e n=>u.slot b o e n hb (by simp)) (fun b o _ e n=>u.free b o e n (by simp)) (fun b o _ e=>u.there b o e (by simp)) u.tups u.frzs u.tbls (fun m' hm=>by
  obtain ⟨o',es',ep',ho',r'⟩:=hm
  rw [ho] at ho'; cases ho'
  exact⟨_,es',ep',hL,r'⟩) hok I.bare
theorem a8.call {g':Array GenState}{t':Nat}{d':Drawn}{ch:List Addr} (I:a8 X pins σ H s) (u:Un (c9 X.stack) ch H H' s.heap h') (hok:cE X.prog X.w H' h') (hg:AllBare g')
  (hch:∀ b ∈ ch,(b ∈ X.ex ∨ X.s₀.heap.objs.size<=b)/\b ≠ X.env.locals/\(∀ x c,X.env.cells.lookup x=some c->c ≠ b)/\∀ p ∈ X.pn ++ pins,p.1 ≠ b) :
  a8 X pins σ H' { s with heap:=h',gens:=g',drawn:=d',toks:=t' }:=by
 obtain ⟨m,⟨o,es,ep,ho,r⟩,_⟩:=id I.loc
 obtain ⟨sl,hL⟩:=u.any ho I.free fun z=>(hch _ z).2.1 rfl
 exact I.step (ch:=ch) hch (fun b o hL hb hc e n=>u.keep b o e n (fun z=>(bo3.mp (I.stkSub b z)).elim hL hb) hc) (fun b o _ _ hc e n=>u.any e n hc) (fun b o hc e n=>u.free b o e n hc) (fun b o hc e=>u.there b o e hc) u.tups u.frzs u.tbls (fun m' hm=>by
  obtain ⟨o',es',ep',ho',r'⟩:=hm
  rw [ho] at ho'; cases ho'
  exact⟨_,es',ep',hL,r'⟩) hok hg
theorem a8.turned {t':Nat}{it:Addr} (I:a8 X pins σ H s) (k:∀ b o,b ≠ it->s.heap.get? b=some o->h'.get? b=some o) (hn:H it=none) (hL:it ≠ X.env.locals)
  (h1:it ∈ X.ex ∨ X.s₀.heap.objs.size<=it) (h2:∀ x c,X.env.cells.lookup x=some c->c ≠ it) (h3:∀ p ∈ X.pn ++ pins,p.1 ≠ it):a8 X pins σ H { s with heap:=h',toks:=t' }:=by
 have nit:∀ b u,H b=some u->b ≠ it:=fun b u e z=>by rw [z,hn] at e; cases e
 refine I.step (g':=s.gens) (d':=s.drawn) (ch:=[it]) (fun b hb=>?_) (fun b o _ _ hc e _=>k b o (fun z=>hc (by simp [z])) e) (fun b o _ _ hc e _=>⟨o.slots,k b o (fun z=>hc (by simp [z])) e⟩) (fun _ _ _ _ n=>n)
  (fun b o hc e=>⟨o,k b o (fun z=>hc (by simp [z])) e⟩) (fun _ _ e=>e) (fun _ _ _ e=>e) (fun b ps e=>⟨#[],by rw [e]; simp⟩) (fun m hm=>?_) (fun b u e=>?_) I.bare
 ·have e:b=it:=by simpa using hb
  subst e
  exact⟨h1,hL,h2,h3⟩
 ·obtain ⟨o,es,ep,ho,r⟩:=hm
  exact⟨o,es,ep,k _ o (Ne.symm hL) ho,r⟩
 ·refine (I.hok b u e).stay (fun c v hc q=>k c v ?_ q) (fun _ q=>q) fun _ _ q=>q
  rcases hc with z | z
  ·rw [z]; exact nit b u e
  ·exact nit c _ z
theorem a8.tok (I:a8 X pins σ H s) (t:Nat):a8 X pins σ H { s with toks:=t }:=I.un (h':=s.heap) (t':=t) Un.refl I.hok
theorem a8.kept {t':Nat} (I:a8 X pins σ H s) (k:∀ b u,s.heap.get? b=some u->h'.get? b=some u):a8 X pins σ H { s with heap:=h',toks:=t' }:=I.un (Un.kept k) (I.hok.kept k)
theorem a8.laid {a:Addr}{o:HO}{t':Nat} (I:a8 X pins σ H s) (k:∀ b u,s.heap.get? b=some u->h'.get? b=some u) (hp:s.heap.objs.size<=a) (new:cD X.prog X.w (upd H a o) h' a o) :
  a8 X pins σ (upd H a o) { s with heap:=h',toks:=t' }:=I.un (Un.laid k hp (I.hok.fresh hp)) (I.hok.laid k hp new)
theorem a8.write {x e:Addr}{o:HO}{t':Nat} (I:a8 X pins σ H s) (mu:oT (H x)) (he:e=x ∨ H e=some (.own x)) (k:∀ b u,b ≠ e->s.heap.get? b=some u->h'.get? b=some u) (heo:∃ u,h'.get? e=some u)
  (new:cD X.prog X.w (upd H x o) h' x o):a8 X pins σ (upd H x o) { s with heap:=h',toks:=t' }:=I.un (Un.write mu he k heo) (I.hok.write mu he k heo new)
theorem a8.weak {σ':List (Option V)} (I:a8 X pins σ H s) (hl:σ'.length=σ.length) (w:∀ (i:Nat) v,σ'[i]? = some (some v)->σ[i]? = some (some v)):a8 X pins σ' H s:=
 ⟨I.ok,I.os,I.bare,I.base,let ⟨m,hn,hl'⟩:=I.loc; ⟨m,hn,fun i x v e1 e2 e3=>hl' i x v e1 (w i v e2) e3⟩,I.cell,I.free,I.freeC,I.pin,I.hok,hl.trans I.len⟩
theorem a8.pins_of {pins':List (Addr × Obj)} (I:a8 X pins σ H s) (h:∀ p ∈ pins',s.heap.get? p.1=some p.2/\H p.1=none/\p.1 ≠ X.env.locals/\p.1 ∉ X.fs/\∀ v,p.2.data ≠ .cell v):a8 X pins' σ H s:=
 ⟨I.ok,I.os,I.bare,I.base,I.loc,I.cell,I.free,I.freeC,fun p hp=>(bo6.mp hp).elim (fun z=>I.pin p (br8 _ z)) (h p),I.hok,I.len⟩
theorem uU {N:List Str} (hN:N.Nodup) {i j:Nat}{x:Str} (a:N[i]? = some x) (b:N[j]? = some x):i=j:=by
 obtain ⟨h1,e1⟩:=bn8.mp a
 obtain ⟨h2,e2⟩:=bn8.mp b
 exact (List.getElem_inj hN).mp (e1.trans e2.symm)
theorem uV {M:Model}{A:Around}{E:Value->Shared->Prop}{i:Nat}{x:Str}{v:V}{u:Value}{Q:Unit->Shared->Prop} (I:a8 X pins σ H s) (hN:X.N.Nodup) (hi:X.N[i]? = some x) (hx:iP X.env.scope x) (r:b5 v u)
  (h:∀ s',a8 X pins (σ.set i (some v)) H s'->(∃ a,Heap.SameBut a s.heap s'.heap/\(a=X.env.locals ∨ X.env.cells.lookup x=some a))->Q () s') (hf:X.fn x=true ∨ X.env.scope.names.lookup x=some .local:=by first | exact .inl rfl | exact .inr rfl | assumption):wpAny M A (storeName X.env x u) Q E s:=by
 obtain ⟨m,hn,hl⟩:=id I.loc
 have hcls:(X.env.scope.kind == .class || (X.env.scope.kind == .module && X.env.locals != X.env.globals))=false:=by rw [I.ok.kind]; rfl
 have hiσ:i < σ.length:=by rw [I.len]; exact (bn8.mp hi).1
 have cne:=I.cne
 have tracked:∀ {a:Addr}{h':Heap},(∃ o,s.heap.get? a=some o/\H a=none)->Heap.SameBut a s.heap h'->cE X.prog X.w H h':=fun {a h'} ha hs b ob e=>by
  obtain ⟨_,_,hfree⟩:=ha
  refine (I.hok b ob e).stay (fun c w' hc q=>(hs.2 c ?_).trans q) (fun _ q=>q) fun _ _ q=>q
  rintro rfl
  rcases hc with rfl | hc
  ·rw [hfree] at e; cases e
  ·rw [hfree] at hc; cases hc
 rcases hx with hk | hk
 ·refine wpAny_storeName_local hk hn (fun h' hn' hs=>?_) hcls
  obtain ⟨oL,_,_,hoL,_⟩:=id hn
  refine h _ ⟨I.ok,I.os,I.bare,⟨fun b o e n hb hx=>?_,fun b o e n hb hx=>?_,I.base.free,fun b o e hx=>?_,I.base.tups,I.base.frzs,I.base.tbls⟩,⟨_,hn',fun j y v' e1 e2 e3=>?_⟩,fun y c e=>?_,I.free,I.freeC,fun p hp=>?_,tracked ⟨oL,hoL,I.free⟩ hs,by simpa using I.len⟩ ⟨_,hs,.inl rfl⟩
  ·exact (hs.2 b (br7 (bp4 (bp5 e) I.ok.above))).trans (I.base.keep b o e n hb hx)
  ·obtain ⟨sl,e1⟩:=I.base.slot b o e n hb hx
   exact⟨sl,(hs.2 b (br7 (bp4 (bp5 e) I.ok.above))).trans e1⟩
  ·obtain ⟨o',e1⟩:=I.base.there b o e hx
   exact⟨o',(hs.2 b (br7 (bp4 (bp5 e) I.ok.above))).trans e1⟩
  ·by_cases hj:j=i
   ·subst hj
    rw [hi] at e1; cases e1
    rw [bv0 hiσ] at e2
    cases e2
    exact⟨u,r,.inl ⟨hk,by simp⟩⟩
   ·rw [bq8 (Ne.symm hj)] at e2
    obtain ⟨u',r',q⟩:=hl j y v' e1 e2 e3
    refine⟨u',r',?_⟩
    rcases q with ⟨k,e⟩ | ⟨k,c,e,z⟩
    ·refine .inl ⟨k,?_⟩
     have:y ≠ x:=fun e=>hj (uU hN e1 (e ▸ hi))
     simp [this,e]
    ·exact .inr ⟨k,c,e,z.sameBut hs (cne y c e)⟩
  ·obtain ⟨w',z⟩:=I.cell y c e
   exact⟨w',z.sameBut hs (cne y c e)⟩
  ·obtain ⟨e,n,ne,nf,d⟩:=I.pin p hp
   exact⟨(hs.2 p.1 ne).trans e,n,ne,nf,d⟩
 ·have hfn:X.fn x=true:=by
   rcases hf with z | z
   ·exact z
   ·rw [z] at hk; cases hk
  obtain ⟨c,hc⟩:=I.ok.has x (.inl hk)
  obtain ⟨w',z⟩:=I.cell x c hc
  refine wpAny_storeName_cell I.ok.kind hk hc z (fun h' hc' hs=>?_)
  obtain ⟨oc,hoc,hocd⟩:=id z
  refine h { s with heap:=h' } ⟨I.ok,I.os,I.bare,⟨fun b o e n hb hx=>?_,fun b o e n hb hx=>?_,I.base.free,fun b o e hx=>?_,I.base.tups,I.base.frzs,I.base.tbls⟩,⟨m,hn.sameBut hs (Ne.symm (cne x c hc)),fun j y v' e1 e2 e3=>?_⟩,fun y c' e=>?_,I.free,I.freeC,fun p hp=>?_,tracked ⟨oc,hoc,I.freeC x c hc⟩ hs,by simpa using I.len⟩ ⟨c,hs,.inr hc⟩
  ·exact (hs.2 b (br7 (bp4 (bp5 e) (I.ok.cab x c hfn hc)))).trans (I.base.keep b o e n hb hx)
  ·obtain ⟨sl,e1⟩:=I.base.slot b o e n hb hx
   exact⟨sl,(hs.2 b (br7 (bp4 (bp5 e) (I.ok.cab x c hfn hc)))).trans e1⟩
  ·obtain ⟨o',e1⟩:=I.base.there b o e hx
   exact⟨o',(hs.2 b (br7 (bp4 (bp5 e) (I.ok.cab x c hfn hc)))).trans e1⟩
  ·by_cases hj:j=i
   ·subst hj
    rw [hi] at e1; cases e1
    rw [bv0 hiσ] at e2
    cases e2
    exact⟨u,r,.inr ⟨.inl hk,c,hc,hc'⟩⟩
   ·rw [bq8 (Ne.symm hj)] at e2
    obtain ⟨u',r',q⟩:=hl j y v' e1 e2 e3
    refine⟨u',r',?_⟩
    rcases q with q | ⟨k,c',e,z'⟩
    ·exact .inl q
    ·refine .inr ⟨k,c',e,z'.sameBut hs ?_⟩
     rintro rfl
     exact hj (uU hN e1 (I.ok.inj _ _ _ e hc ▸ hi))
  ·by_cases hcc:c'=c
   ·subst hcc; exact⟨_,hc'⟩
   ·obtain ⟨w2,z2⟩:=I.cell y c' e
    exact⟨w2,z2.sameBut hs hcc⟩
  ·obtain ⟨e,n,ne,nf,d⟩:=I.pin p hp
   refine⟨(hs.2 p.1 ?_).trans e,n,ne,nf,d⟩
   intro q
   rw [q,hoc] at e
   have q':oc=p.2:=bq3 e
   exact d w' (by rw [<- q']; exact hocd)
theorem rE {M:Model}{A:Around}{E:Value->Shared->Prop}{i:Nat}{x:Str}{v:V}{u:Value}{Q:Unit->Shared->Prop} (I:a8 X pins σ H s) (hN:X.N.Nodup) (hi:X.N[i]? = some x) (hx:iP X.env.scope x) (r:b5 v u)
  (h:∀ s',a8 X pins (σ.set i (some v)) H s'->Q () s') (hf:X.fn x=true ∨ X.env.scope.names.lookup x=some .local:=by first | exact .inl rfl | exact .inr rfl | assumption):wpAny M A (storeName X.env x u) Q E s:=
 uV I hN hi hx r (fun s' I' _=>h s' I') hf
theorem a8.call' {s':Shared}{ch:List Addr} (I:a8 X pins σ H s) (ho:s'.os=s.os) (u:Un (c9 X.stack) ch H H' s.heap s'.heap) (hok:cE X.prog X.w H' s'.heap) (hg:AllBare s'.gens)
  (hch:∀ b ∈ ch,(b ∈ X.ex ∨ X.s₀.heap.objs.size<=b)/\b ≠ X.env.locals/\(∀ x c,X.env.cells.lookup x=some c->c ≠ b)/\∀ p ∈ X.pn ++ pins,p.1 ≠ b):a8 X pins σ H' s':=by
 obtain ⟨h',g',d',t',o'⟩:=s'
 have e:o'=s.os:=ho
 subst e
 exact I.call (g':=g') (t':=t') (d':=d') u hok hg hch
end
noncomputable abbrev XK:=Value->Option Addr->Hp->Prop
noncomputable abbrev St:=List (Option V)
noncomputable abbrev VK:=V->Hp->Prop
noncomputable abbrev TE:=St->Hp->VK->Prop
noncomputable abbrev TT:=St->Hp->(Bool->Hp->Prop)->Prop
noncomputable abbrev TA:=St->Hp->(List V->Hp->Prop)->Prop
structure cM where
 nx:St->Hp->Prop
 rt:VK
 bk:St->Hp->Prop:=fun _ _=>False
 ct:St->Hp->Prop:=fun _ _=>False
noncomputable abbrev TS:=cM->St->Hp->Prop
noncomputable def EP (X:Cx) (pins:List (Addr × Obj)) (σ:St) (Q:VK) (u:Value) (s':Shared):Prop:=∃ v H',a8 X pins σ H' s'/\b5 v u/\Q v H'
noncomputable def TP (X:Cx) (pins:List (Addr × Obj)) (σ:St) (Q:Bool->Hp->Prop) (b:Bool) (s':Shared):Prop:=∃ H',a8 X pins σ H' s'/\Q b H'
noncomputable def AP (X:Cx) (pins:List (Addr × Obj)) (σ:St) (Q:List V->Hp->Prop) (us:List Value) (s':Shared):Prop:=∃ vs H',a8 X pins σ H' s'/\aR vs us/\Q vs H'
noncomputable def SP (X:Cx) (pins:List (Addr × Obj)) (D:cM) (f:Flow) (s':Shared):Prop:=
 match f with
 | .next=>∃ σ' H',a8 X pins σ' H' s'/\D.nx σ' H'
 | .brk=>∃ σ' H',a8 X pins σ' H' s'/\D.bk σ' H'
 | .cont=>∃ σ' H',a8 X pins σ' H' s'/\D.ct σ' H'
 | .ret u=>∃ v σ' H',a8 X pins σ' H' s'/\b5 v u/\D.rt v H'
noncomputable def PE (X:Cx) (e:Expr) (t:TE):Prop:=
 ∀ (pins:List (Addr × Obj)) (s:Shared) (σ:St) (H:Hp) (Q:VK),a8 X pins σ H s->t σ H Q->wpAny (model X.prog X.w) X.A (eval e X.env) (EP X pins σ Q) X.xe s
noncomputable def PT (X:Cx) (e:Expr) (t:TT):Prop:=
 ∀ (pins:List (Addr × Obj)) (s:Shared) (σ:St) (H:Hp) (Q:Bool->Hp->Prop),a8 X pins σ H s->t σ H Q->wpAny (model X.prog X.w) X.A (isTrue e X.env (eval e X.env)) (TP X pins σ Q) X.xe s
noncomputable def PW (X:Cx) (e:Expr) (t:TT):Prop:=
 ∀ (whole:Sem Value) (pins:List (Addr × Obj)) (s:Shared) (σ:St) (H:Hp) (Q:Bool->Hp->Prop),a8 X pins σ H s->t σ H Q->wpAny (model X.prog X.w) X.A (isTrue e X.env whole) (TP X pins σ Q) X.xe s
theorem PW.pt {X:Cx}{e:Expr}{t:TT} (h:PW X e t):PT X e t:=h _
noncomputable def PA (X:Cx) (es:List Expr) (t:TA):Prop:=
 ∀ (pos:Pos) (pins:List (Addr × Obj)) (s:Shared) (σ:St) (H:Hp) (Q:List V->Hp->Prop),a8 X pins σ H s->t σ H Q->wpAny (model X.prog X.w) X.A (spliced (backTo pos (starEach es X.env))) (AP X pins σ Q) X.xe s
noncomputable def PS (X:Cx) (st:Stmt) (t:TS):Prop:=
 ∀ (pins:List (Addr × Obj)) (s:Shared) (σ:St) (H:Hp) (D:cM),a8 X pins σ H s->t D σ H->wpAny (model X.prog X.w) X.A (exec st X.env) (SP X pins D) X.xe s
noncomputable def eO (X:Cx) (st:List Stmt) (t:TS):Prop:=
 ∀ (pins:List (Addr × Obj)) (s:Shared) (σ:St) (H:Hp) (D:cM),a8 X pins σ H s->t D σ H->wpAny (model X.prog X.w) X.A (execs st X.env) (SP X pins D) X.xe s
theorem aQ {α:Type}{t:Sem α}{Q Q':α->Shared->Prop}{M:Model}{A:Around}{E:Value->Shared->Prop}{s:Shared} (h:wpAny M A t Q E s) (hQ:∀ a s,Q a s->Q' a s):wpAny M A t Q' E s:=bw9 h hQ fun _ _ x=>x
section
variable {X : Cx}
theorem bin {a b:Expr}{ta tb:TE} (ha:PE X a ta) (hb:PE X b tb) {pins:List (Addr × Obj)}{s:Shared}{σ:St}{H:Hp}{R:V->V->Hp->Prop} (I:a8 X pins σ H s) (h:ta σ H fun x H1=>tb σ H1 fun y H2=>R x y H2)
  {α:Type}{Q:α->Shared->Prop}{f:Value->Value->Sem α}
  (hf:∀ v u s2 x y H2,a8 X pins σ H2 s2->b5 x v->b5 y u->R x y H2->wpAny (model X.prog X.w) X.A (f v u) Q X.xe s2) :
  wpAny (model X.prog X.w) X.A (eval a X.env) (fun v s₁=>wpAny (model X.prog X.w) X.A (eval b X.env) (fun u s₂=>wpAny (model X.prog X.w) X.A (f v u) Q X.xe s₂) X.xe s₁) X.xe s:=by
 refine aQ (ha pins s σ H _ I h) fun v s1 ⟨x,H1,I1,r1,q1⟩=>?_
 refine aQ (hb pins s1 σ H1 _ I1 q1) fun u s2 ⟨y,H2,I2,r2,q2⟩=>?_
 exact hf v u s2 x y H2 I2 r1 r2 q2
noncomputable def j8 (i:Nat):TE:=fun σ H Q=>∃ v,σ[i]? = some (some v)/\Q v H
noncomputable def tC (v:V):TE:=fun _ H Q=>Q v H
theorem jT {i:Nat}{x:Str}{pos:Pos} (hN:X.N[i]? = some x) (hv:i9 X.env.scope x) (hd:(x == ("__debug__" : Str))=false:=by decide) (hcd:(x == ("__classdict__" : Str))=false:=by decide):PE X (.Name x pos) (j8 i):=by
 intro pins s σ H Q I h
 obtain ⟨v,e,h⟩:=h
 obtain ⟨m,hn,hl⟩:=I.loc
 obtain ⟨u,r,l⟩:=hl i x v hN e hv
 have fin:EP X pins σ Q u s:=⟨v,H,I,r,h⟩
 rcases l with ⟨hk,hm⟩ | ⟨hk,c,hc,hcell⟩
 ·exact wpAny_Name (wpAny_loadName_local I.ok.kind hk hn hm fin) hd
 ·rcases hk with hk | hk
  ·exact wpAny_Name (wpAny_loadName_cell I.ok.kind hk hc hcell fin) hd
  ·exact wpAny_Name (wpAny_loadName_free I.ok.kind hk hc hcell fin hcd) hd
theorem m9 {i j pos}:PE X (.Constant (.int i) j pos) (tC (.int i)):=fun _ _ _ H _ I h=>wpAny_Constant_int ⟨.int i,H,I.tok _,⟨_,rfl⟩,h⟩
theorem B7 {b j pos}:PE X (.Constant (.bool b) j pos) (tC (.bl b)):=fun _ _ _ H _ I h=>Constant_bool ⟨.bl b,H,I,rfl,h⟩
theorem ap4 {j pos}:PE X (.Constant .none j pos) (tC .non):=fun _ _ _ H _ I h=>Constant_none ⟨.non,H,I,rfl,h⟩
theorem ap5 {x j pos}:PE X (.Constant (.str x) j pos) (tC (.str x)):=fun _ _ _ H _ I h=>Calls.Constant_str ⟨.str x,H,I.tok _,⟨_,rfl⟩,h⟩
noncomputable def Gl (X:Cx) (x:Str):Prop:=X.env.kindOf x=some .globalImplicit
theorem oV {E:Value->Shared->Prop}{pins:List (Addr × Obj)}{s:Shared}{σ:St}{H:Hp}{x:Str}{u:Value}{pos:Pos}{Q:Value->Shared->Prop} (I:a8 X pins σ H s) (hg:Gl X x) (hm:X.mg x=some u) (h:Q u s)
  (hd:(x == ("__debug__" : Str))=false:=by decide):wpAny (model X.prog X.w) X.A (eval (.Name x pos) X.env) Q E s:=
 Calls.Name_function_global I.ok.kind hg (Calls.loadGlobal_global (by rw [I.ok.glob]; exact I.mod.glob.keeps I.bk) hm h) hd
theorem jU {E:Value->Shared->Prop}{pins:List (Addr × Obj)}{s:Shared}{σ:St}{H:Hp}{x:Str}{u:Value}{pos:Pos}{Q:Value->Shared->Prop} (I:a8 X pins σ H s) (hg:Gl X x) (hm:X.mg x=none) (hv:bootBuiltins x=some u) (h:Q u s)
  (hn:x ≠ "__name__":=by decide) (hd:(x == ("__debug__" : Str))=false:=by decide):wpAny (model X.prog X.w) X.A (eval (.Name x pos) X.env) Q E s:=by
 obtain ⟨mb,h1,h2⟩:=I.mod.blt
 exact Calls.Name_function_global I.ok.kind hg (Calls.loadGlobal_builtin (by rw [I.ok.glob]; exact I.mod.glob.keeps I.bk) hm (by rw [I.ok.blt]; exact h1.keeps I.bk) ((h2 x hn).trans hv) h) hd
theorem ap6 {x:Str}{v:V}{u:Value}{pos:Pos} (hg:Gl X x) (hm:X.mg x=some u) (r:b5 v u) (hd:(x == ("__debug__" : Str))=false:=by decide):PE X (.Name x pos) (tC v):=
 fun _ _ _ H _ I h=>oV I hg hm ⟨v,H,I,r,h⟩ hd
theorem B8 {x:Str}{v:V}{u:Value}{pos:Pos} (hg:Gl X x) (hm:X.mg x=none) (hv:bootBuiltins x=some u) (r:b5 v u) (hn:x ≠ "__name__":=by decide) (hd:(x == ("__debug__" : Str))=false:=by decide):PE X (.Name x pos) (tC v):=
 fun _ _ _ H _ I h=>jU I hg hm hv ⟨v,H,I,r,h⟩ hn hd
variable {a b : Expr} {ta tb : TE} {pos : Pos}
noncomputable def PC (X:Cx) (op:CmpOp) (a b:Expr) (t:TE):Prop:=
 ∀ (pins:List (Addr × Obj)) (s:Shared) (σ:St) (H:Hp) (Q:VK),a8 X pins σ H s->t σ H Q->
  wpAny (model X.prog X.w) X.A (eval a X.env) (fun v s₁=>wpAny (model X.prog X.w) X.A (eval b X.env) (fun u s₂=>wpAny (model X.prog X.w) X.A (compareOp op v u) (EP X pins σ Q) X.xe s₂) X.xe s₁) X.xe s
noncomputable def tB (t:TE):TT:=fun σ H Q=>t σ H fun x H1=>∃ c,x = .bl c/\Q c H1
theorem ap7 {op:CmpOp}{t:TE} (h:PC X op a b t) (h1:behindInMarks op b=false:=by first | exact nobehind _ (by decide) (by decide) | rfl):PE X (.Compare a [op] [b] pos) t:=fun pins s σ H Q I hw=>wpAny_Compare1 (h pins s σ H Q I hw) h1
theorem B9 {op:CmpOp}{t:TE} (h:PC X op a b t) (h1:behindInMarks op b=false:=by first | exact nobehind _ (by decide) (by decide) | rfl):PT X (.Compare a [op] [b] pos) (tB t):=by
 intro pins s σ H Q I hw
 refine wpAny_isTrue_Compare1 (aQ (h pins s σ H _ I hw) fun v s1 h1=>aQ h1 fun u s2 h2=>aQ h2 fun c s3 ⟨x,H1,I1,r1,q1⟩=>?_) h1
 obtain ⟨d,rfl,q⟩:=q1
 cases r1
 exact bA8 ⟨H1,I1,q⟩
theorem ap8 {e:Expr}{t:TE} (h:PE X e t) (he:∀ whole,isTrue e X.env whole=(do let v <- whole; standAt e.pos; holding [v] (truthy v)):=by intro _; rfl):PT X e (tB t):=by
 intro pins s σ H Q I hw
 refine isTrue_plain (aQ (h pins s σ H _ I hw) fun v s1 ⟨x,H1,I1,r1,q1⟩=>?_) (he _)
 obtain ⟨d,rfl,q⟩:=q1
 cases r1
 exact bA8 ⟨H1,I1,q⟩
variable {tA tB' : TT} {dH : List Expr}
noncomputable def C0 (t u:TT):TT:=fun σ H Q=>t σ H fun c H1=>if c=true then u σ H1 Q else Q false H1
noncomputable def C1 (t u:TT):TT:=fun σ H Q=>t σ H fun c H1=>if c=true then Q true H1 else u σ H1 Q
noncomputable def C2 (t:TT):TT:=fun σ H Q=>t σ H fun c H1=>Q (!c) H1
theorem ap9 (ha:PT X a tA):PW X (.BoolOp .And [a] pos) tA:=by
 intro wh pins s σ H Q I h
 refine isTrue_and (aQ (ha pins s σ H Q I h) fun c s1 e=>?_)
 cases c with
 | true=>exact isTrue_and_nil e
 | false=>exact e
theorem aq0 (ha:PT X a tA):PW X (.BoolOp .Or [a] pos) tA:=by
 intro wh pins s σ H Q I h
 refine isTrue_or (aQ (ha pins s σ H Q I h) fun c s1 e=>?_)
 cases c with
 | false=>exact isTrue_or_nil e
 | true=>exact e
theorem aq1 (ha:PT X a tA) (hb:PW X (.BoolOp .And (b :: dH) pos) tB'):PW X (.BoolOp .And (a :: b :: dH) pos) (C0 tA tB'):=by
 intro wh pins s σ H Q I h
 refine isTrue_and (aQ (ha pins s σ H _ I h) fun c s1 ⟨H1,I1,q1⟩=>?_)
 cases c with
 | true=>exact hb wh pins s1 σ H1 Q I1 q1
 | false=>exact⟨H1,I1,q1⟩
theorem aq2 (ha:PT X a tA) (hb:PW X (.BoolOp .Or (b :: dH) pos) tB'):PW X (.BoolOp .Or (a :: b :: dH) pos) (C1 tA tB'):=by
 intro wh pins s σ H Q I h
 refine isTrue_or (aQ (ha pins s σ H _ I h) fun c s1 ⟨H1,I1,q1⟩=>?_)
 cases c with
 | true=>exact⟨H1,I1,q1⟩
 | false=>exact hb wh pins s1 σ H1 Q I1 q1
theorem aq3 (ha:PT X a tA):PT X (.UnaryOp .Not a pos) (C2 tA):=by
 intro pins s σ H Q I h
 exact isTrue_not (ha pins s σ H (fun c H1=>Q (!c) H1) I h)
noncomputable def C3 (ta tb:TE):TE:=fun σ H Q=>ta σ H fun x H1=>∃ c,x = .bl c/\if c=true then tb σ H1 Q else Q (.bl false) H1
noncomputable def C4 (ta:TE):TE:=fun σ H Q=>ta σ H fun x H1=>∃ c,x = .bl c/\Q (.bl (!c)) H1
theorem aq4 {op}{t:TE} (h:PE X a t):PE X (.BoolOp op [a] pos) t:=fun pins s σ H Q I hw=>BoolOp_one (h pins s σ H Q I hw)
theorem aq5 (ha:PE X a ta) (hb:PE X (.BoolOp .And (b :: dH) pos) tb):PE X (.BoolOp .And (a :: b :: dH) pos) (C3 ta tb):=by
 intro pins s σ H Q I h
 refine BoolOp_and (aQ (ha pins s σ H _ I h) fun v s1 ⟨x,H1,I1,r1,q1⟩=>?_)
 obtain ⟨c,rfl,q1⟩:=q1
 cases r1
 refine bA8 ?_
 cases c with
 | true=>exact hb pins s1 σ H1 Q I1 q1
 | false=>exact⟨.bl false,H1,I1,rfl,q1⟩
theorem aq6 (ha:PE X a ta):PE X (.UnaryOp .Not a pos) (C4 ta):=by
 intro pins s σ H Q I h
 refine UnaryOp_ (aQ (ha pins s σ H _ I h) fun v s1 ⟨x,H1,I1,r1,q1⟩=>?_)
 obtain ⟨c,rfl,q1⟩:=q1
 cases r1
 exact not_of (bA8 ⟨.bl (!c),H1,I1,rfl,q1⟩)
end
noncomputable def aN (K:PySem.W.Frag) (H:Hp) (a:Addr) (xs:List V):Prop:=
 Rd H a (.lst xs) ∨
  ∃ (o:Obj) (its:Array Value) (n:Nat),K.lookup a=some o/\o.cls = .type "list"/\o.dict=none/\o.data = .seq its n/\its.size<=sizeLine/\aR xs its.toList
noncomputable def aM (K:PySem.W.Frag) (H:Hp) (a:Addr) (xs:List V):Prop:=
 Rd H a (.tup xs) ∨
  ∃ (o:Obj) (its:Array Value) (n:Nat),K.lookup a=some o/\o.cls = .type "tuple"/\o.data = .seq its n/\its.size<=sizeLine/\aR xs its.toList
noncomputable def aq7:Value->Option V
 | .none=>some .non
 | .bool b=>some (.bl b)
 | .int i _=>some (.int i)
 | .str x _=>some (.str x)
 | .bytes b _=>some (.byt b)
 | .float b _=>some (.flt b)
 | .ref a=>some (.ref a)
 | .type n=>some (.ty n)
 | _=>none
theorem b5.abs {x:V}{u:Value} (r:b5 x u):aq7 u=some x:=by
 cases x with
 | non=>cases r; rfl
 | bl _=>cases r; rfl
 | int _=>obtain ⟨t,rfl⟩:=r; rfl
 | str _=>obtain ⟨t,rfl⟩:=r; rfl
 | byt _=>obtain ⟨t,rfl⟩:=r; rfl
 | flt _=>obtain ⟨t,rfl⟩:=r; rfl
 | ref _=>cases r; rfl
 | ty _=>cases r; rfl
theorem b5.inj {x y:V}{u:Value} (r:b5 x u) (q:b5 y u):x=y:=bq3 (r.abs.symm.trans q.abs)
theorem aR.inj:∀ {xs ys:List V}{us:List Value},aR xs us->aR ys us->xs=ys
 | _,_,_,.nil,.nil=>rfl
 | _,_,_,.cons r t,.cons r' t'=>by rw [r.inj r',aR.inj t t']
section
variable {X : Cx} {pins : List (Addr × Obj)} {σ : St} {H : Hp} {s : Shared} {a : Addr} {xs ys : List V}
theorem aN.of {K:PySem.W.Frag} (h:H a=some (.lst xs)):aN K H a xs:=.inl (.inl h)
theorem aM.of {K:PySem.W.Frag} (h:H a=some (.tup xs)):aM K H a xs:=.inl (.inl h)
theorem a8.list (I:a8 X pins σ H s) (h:aN X.K H a xs):∃ its:List Value,aR xs its/\PlainL s.heap a its.toArray/\xs.length<=sizeLine:=by
 rcases h with h | ⟨o,its,n,hk,hc,hd,hs,hz,r⟩
 ·obtain ⟨z,its,n,r,e⟩:=h.ok I.hok
  exact⟨its,r,⟨_,n,e,rfl,rfl,rfl⟩,z⟩
 ·refine⟨its.toList,r,⟨o,n,I.kIn a o hk,hc,hd,by simpa using hs⟩,?_⟩
  have e:=r.length
  simp only [Array.length_toList] at e
  omega
theorem a8.tuple (I:a8 X pins σ H s) (h:aM X.K H a xs):∃ its:List Value,aR xs its/\IsTup s.heap a its.toArray/\xs.length<=sizeLine:=by
 rcases h with h | ⟨o,its,n,hk,hc,hs,hz,r⟩
 ·obtain ⟨z,its,r,p,_⟩:=h.ok I.hok
  exact⟨its,r,p,z⟩
 ·refine⟨its.toList,r,⟨o,I.kIn a o hk,hc,n,by simpa using hs⟩,?_⟩
  have e:=r.length
  simp only [Array.length_toList] at e
  omega
theorem a8.list_inj (I:a8 X pins σ H s) (h:aN X.K H a xs) (h':aN X.K H a ys):xs=ys:=by
 obtain ⟨its,r,⟨o,n,e,_,_,d⟩,_⟩:=I.list h
 obtain ⟨its',r',⟨o',n',e',_,_,d'⟩,_⟩:=I.list h'
 rw [e] at e'; cases e'
 rw [d] at d'
 injection d' with d1 _
 have:its=its':=by simpa using congrArg Array.toList d1
 subst this
 exact r.inj r'
theorem a8.tuple_inj (I:a8 X pins σ H s) (h:aM X.K H a xs) (h':aM X.K H a ys):xs=ys:=by
 obtain ⟨its,r,⟨o,e,_,n,d⟩,_⟩:=I.tuple h
 obtain ⟨its',r',⟨o',e',_,n',d'⟩,_⟩:=I.tuple h'
 rw [e] at e'; cases e'
 rw [d] at d'
 injection d' with d1 _
 have:its=its':=by simpa using congrArg Array.toList d1
 subst this
 exact r.inj r'
end
noncomputable abbrev Cx.wish (X:Cx) (E:Value->Shared->Prop):Cx:={ X with xe:=E }
noncomputable abbrev Cx.nox (X:Cx):Cx:=X.wish fun _ _=>False
theorem Cx.Ok.wish {X:Cx} (ok:X.Ok) (E:Value->Shared->Prop):(X.wish E).Ok:=
 ⟨ok.mod,ok.kind,ok.glob,ok.blt,ok.above,ok.inj,ok.has,ok.cab,ok.hd,ok.frames,ok.stk,ok.exf,ok.bs,ok.bsz,ok.noex,ok.exfs,ok.funs,ok.frf⟩
theorem Cx.Ok.unwish {X:Cx}{E:Value->Shared->Prop} (ok:(X.wish E).Ok):X.Ok:=
 ⟨ok.mod,ok.kind,ok.glob,ok.blt,ok.above,ok.inj,ok.has,ok.cab,ok.hd,ok.frames,ok.stk,ok.exf,ok.bs,ok.bsz,ok.noex,ok.exfs,ok.funs,ok.frf⟩
section
variable {X : Cx} {pins : List (Addr × Obj)} {σ : St} {H : Hp} {s : Shared} {E : Value → Shared → Prop}
theorem a8.wish (I:a8 X pins σ H s) (E:Value->Shared->Prop):a8 (X.wish E) pins σ H s:=⟨I.ok.wish E,I.os,I.bare,I.base,I.loc,I.cell,I.free,I.freeC,I.pin,I.hok,I.len⟩
theorem a8.unwish (I:a8 (X.wish E) pins σ H s):a8 X pins σ H s:=⟨I.ok.unwish,I.os,I.bare,I.base,I.loc,I.cell,I.free,I.freeC,I.pin,I.hok,I.len⟩
theorem SP.unwish {D:cM}{f:Flow}{s':Shared} (h:SP (X.wish E) pins D f s'):SP X pins D f s':=by
 cases f with
 | next=>obtain ⟨σ',H',I,q⟩:=h; exact⟨σ',H',I.unwish,q⟩
 | brk=>obtain ⟨σ',H',I,q⟩:=h; exact⟨σ',H',I.unwish,q⟩
 | cont=>obtain ⟨σ',H',I,q⟩:=h; exact⟨σ',H',I.unwish,q⟩
 | ret u=>obtain ⟨v,σ',H',I,r,q⟩:=h; exact⟨v,σ',H',I.unwish,r,q⟩
theorem eO.nox {st:List Stmt}{t:TS} (h:eO X.nox st t):eO X st t:=fun pins s σ H D I hw=>
 bw9 (h pins s σ H D (I.wish _) hw) (fun _ _ q=>q.unwish) fun _ _ z=>False.elim z
end
section
variable {X : Cx} {st : Stmt} {dH : List Stmt} {t u : TS} {e : Expr} {te : TE} {pos : Pos}
noncomputable def C5:TS:=fun D σ H=>D.nx σ H
noncomputable def C6 (t u:TS):TS:=fun D σ H=>t { D with nx:=u D } σ H
theorem aq8:eO X [] C5:=fun _ _ σ H _ I h=>wpAny_execs_nil ⟨σ,H,I,h⟩
theorem mC (h1:PS X st t) (h2:eO X dH u):eO X (st :: dH) (C6 t u):=by
 intro pins s σ H D I h
 refine wpAny_execs_cons (aQ (h1 pins s σ H { D with nx:=u D } I h) fun f s1 q=>?_)
 cases f with
 | next=>
  obtain ⟨σ',H',I',q⟩:=q
  exact h2 pins s1 σ' H' D I' q
 | ret v=>exact q
 | brk=>exact q
 | cont=>exact q
theorem mD (h1:PS X st t):eO X [st] t:=by
 intro pins s σ H D I h
 refine wpAny_execs_cons (aQ (h1 pins s σ H D I h) fun f s1 q=>?_)
 cases f with
 | next=>exact wpAny_execs_nil q
 | ret v=>exact q
 | brk=>exact q
 | cont=>exact q
theorem a8.quiet {pins:List (Addr × Obj)}{σ:St}{H:Hp}{s:Shared} (I:a8 X pins σ H s):interactive X.env=false:=by simp [interactive,I.ok.kind]
noncomputable def oW (te:TE):TS:=fun D σ H=>te σ H fun _ H1=>D.nx σ H1
theorem lC (he:PE X e te) (hs:swapsWith e none pos.line X.env=pure false:=by rfl):PS X (.Expr e pos) (oW te):=by
 intro pins s σ H D I h
 exact wpAny_Expr_any (aQ (he pins s σ H _ I h) fun v s1 ⟨x,H1,I1,r1,q1⟩=>⟨σ,H1,I1,q1⟩) I.quiet hs
noncomputable def uW (te:TE):TS:=fun D σ H=>te σ H D.rt
theorem nD (he:PE X e te):PS X (.Return (some e) pos) (uW te):=by
 intro pins s σ H D I h
 exact wpAny_Return_some (aQ (he pins s σ H _ I h) fun v s1 ⟨x,H1,I1,r1,q1⟩=>⟨x,σ,H1,I1,r1,q1⟩)
noncomputable def C7 (c:TT) (t u:TS):TS:=fun D σ H=>c σ H fun b H1=>if b=true then t D σ H1 else u D σ H1
theorem aq9 {c:Expr}{a b:List Stmt}{tc:TT} (hc:PT X c tc) (ha:eO X a t) (hb:eO X b u):PS X (.If c a b pos) (C7 tc t u):=by
 intro pins s σ H D I h
 refine wpAny_If (aQ (hc pins s σ H _ I h) fun d s1 ⟨H1,I1,q1⟩=>?_)
 cases d with
 | true=>exact ha pins s1 σ H1 D I1 q1
 | false=>exact hb pins s1 σ H1 D I1 q1
noncomputable def ar0:TS:=fun _ _ _=>False
theorem ar1:PS X st ar0:=fun _ _ _ _ _ _ h=>h.elim
end
noncomputable abbrev TG:=V->St->Hp->(St->Hp->Prop)->Prop
noncomputable abbrev mE:=List V->St->Hp->(St->Hp->Prop)->Prop
noncomputable def PG (X:Cx) (target:Expr) (t:TG):Prop:=
 ∀ (pins:List (Addr × Obj)) (s:Shared) (σ:St) (H:Hp) (v:V) (u:Value) (Q:St->Hp->Prop),a8 X pins σ H s->b5 v u->t v σ H Q->
  wpAny (model X.prog X.w) X.A (assign target X.env u) (fun _ s'=>∃ σ' H',a8 X pins σ' H' s'/\Q σ' H') X.xe s
noncomputable def rF (X:Cx) (ts:List Expr) (t:mE):Prop:=
 ∀ (pins:List (Addr × Obj)) (s:Shared) (σ:St) (H:Hp) (vs:List V) (us:List Value) (Q:St->Hp->Prop),a8 X pins σ H s->aR vs us->t vs σ H Q->
  wpAny (model X.prog X.w) X.A (assignInOrder ((assignEach ts X.env).map (·.2)) us) (fun _ s'=>∃ σ' H',a8 X pins σ' H' s'/\Q σ' H') X.xe s
noncomputable abbrev uX:=V->V->V->Hp->(Hp->Prop)->Prop
noncomputable def C8 (X:Cx) (t:uX):Prop:=
 ∀ (pins:List (Addr × Obj)) (s:Shared) (σ:St) (H:Hp) (o i v:V) (ov iv u:Value) (Q:Hp->Prop),a8 X pins σ H s->b5 o ov->b5 i iv->b5 v u->t o i v H Q->
  wpAny (model X.prog X.w) X.A (setItem ov iv u) (fun _ s'=>∃ H',a8 X pins σ H' s'/\Q H') X.xe s
section
variable {X : Cx} {pos : Pos}
noncomputable def cQ (i:Nat):TG:=fun v σ H Q=>Q (σ.set i (some v)) H
theorem eZ {i:Nat}{x:Str} (hN:X.N.Nodup) (hi:X.N[i]? = some x) (hx:iP X.env.scope x) (hf:X.fn x=true ∨ X.env.scope.names.lookup x=some .local:=by first | exact .inl rfl | exact .inr rfl | assumption):PG X (.Name x pos) (cQ i):=by
 intro pins s σ H v u Q I r h
 exact wpAny_assign_Name (rE I hN hi hx r (fun s' I'=>⟨_,H,I',h⟩) hf)
noncomputable def lD:mE:=fun vs σ H Q=>vs = []/\Q σ H
noncomputable def gK (t:TG) (u:mE):mE:=fun vs σ H Q=>∃ v r,vs=v :: r/\t v σ H fun σ' H'=>u r σ' H' Q
theorem mF:rF X [] lD:=by
 intro pins s σ H vs us Q I r h
 obtain ⟨e,h⟩:=h
 subst e
 cases r
 exact assignInOrder_nil ⟨σ,H,I,h⟩
theorem gW {e:Expr}{es:List Expr}{t:TG}{u:mE} (h1:PG X e t) (h2:rF X es u)
  (hs:(assignEach (e :: es) X.env).map (·.2)=assign e X.env :: (assignEach es X.env).map (·.2):=by rfl):rF X (e :: es) (gK t u):=by
 intro pins s σ H vs us Q I r h
 obtain ⟨v,vr,e1,h⟩:=h
 subst e1
 cases r with
 | cons r rr=>
  rw [hs]
  refine assignInOrder_cons (aQ (h1 pins s σ H _ _ _ I r h) fun _ s1 ⟨σ1,H1,I1,q1⟩=>?_)
  exact h2 pins s1 σ1 H1 _ _ Q I1 rr q1
noncomputable def lE (K:PySem.W.Frag) (n:Nat) (t:mE):TG:=fun v σ H Q=>∃ a xs,v = .ref a/\aM K H a xs/\xs.length=n/\t xs σ H Q
theorem mG {es:List Expr}{k:Nat}{t:mE}{n:Nat} (hc:X.calm=true) (h:rF X es t)
  (hn:(assignEach es X.env).length=n:=by rfl) (hst:(assignEach es X.env).findIdx? (·.1)=none:=by rfl):PG X (.Tuple es k pos) (lE X.K n t):=by
 intro pins s σ H v u Q I r hw
 obtain ⟨a,xs,e1,hq,hl,hw⟩:=hw
 subst e1
 cases r
 obtain ⟨its,rv,ht,hz⟩:=I.tuple hq
 refine assign_Tuple_tuple (I.ok.hd hc) ht (by simp [hn,<- hl,rv.length]) hst fun h' hx=>?_
 have I1:a8 X pins σ H { s with heap:=h' }:=I.kept (t':=s.toks) fun b o e=>hx b o (br7 (bp5 e)) e
 exact h pins _ σ H xs _ Q I1 (by simpa using rv) hw
noncomputable def uY (to ti:TE) (t:uX):TG:=fun v σ H Q=>to σ H fun o H1=>ti σ H1 fun i H2=>t o i v H2 fun H3=>Q σ H3
theorem ar2 {o i:Expr}{to ti:TE}{t:uX} (ho:PE X o to) (hi:PE X i ti) (hs:C8 X t)
  (ha:∀ v,assign (.Subscript o i pos) X.env v=(do
   let ov <- holding [v] (eval o X.env)
   let iv <- holding [v,ov] (eval i X.env)
   standAt pos
   holding [v,ov,iv] (setItem ov iv v)
   release [v,ov,iv] []):=by intro _; rfl):PG X (.Subscript o i pos) (uY to ti t):=by
 intro pins s σ H v u Q I r h
 rw [ha]
 refine bn3 (bx4 (aQ (ho pins s σ H _ I h) fun ov s1 ⟨x,H1,I1,r1,q1⟩=>?_))
 refine bn3 (bx4 (aQ (hi pins s1 σ H1 _ I1 q1) fun iv s2 ⟨y,H2,I2,r2,q2⟩=>?_))
 refine bn3 (wpAny_standAt (bn3 (bx4 (aQ (hs pins s2 σ H2 x y v ov iv u _ I2 r1 r2 r q2) fun _ s3 ⟨H3,I3,q3⟩=>?_))))
 exact wpAny_release ⟨σ,H3,I3,q3⟩
noncomputable def kH (te:TE) (g:TG):TS:=fun D σ H=>te σ H fun x H1=>g x σ H1 D.nx
theorem C9 {tg e:Expr}{te:TE}{g:TG} (he:PE X e te) (hg:PG X tg g) (hs:swapsWithSole [tg] e pos.line X.env=pure false:=by rfl) (hw:swappedStores [tg] e X.env=pure none:=by rfl)
  (h1:(assignEach [tg] X.env).map (·.2) = [assign tg X.env]:=by rfl):PS X (.Assign [tg] e pos) (kH te g):=by
 intro pins s σ H D I h
 refine wpAny_Assign_stores (aQ (he pins s σ H _ I h) fun v s1 ⟨x,H1,I1,r1,q1⟩=>?_) hs hw
 rw [h1]
 exact aQ (hg pins s1 σ H1 x v _ I1 r1 q1) fun _ s2 q=>q
theorem uZ {i:Nat}{x:Str}{e:Expr}{te:TE}{pos':Pos} (hN:X.N.Nodup) (hi:X.N[i]? = some x) (hx:iP X.env.scope x) (he:PE X e te) (hs:swapsWith e (some (.Name x pos')) pos.line X.env=pure false:=by rfl) (hf:X.fn x=true ∨ X.env.scope.names.lookup x=some .local:=by first | exact .inl rfl | exact .inr rfl | assumption) :
  PS X (.Assign [.Name x pos'] e pos) (kH te (cQ i)):=by
 intro pins s σ H D I h
 refine wpAny_Assign_Name (aQ (he pins s σ H _ I h) fun v s1 ⟨y,H1,I1,r1,q1⟩=>?_) hs
 exact rE I1 hN hi hx r1 (fun s2 I2=>⟨_,H1,I2,q1⟩) hf
end
section
variable {X : Cx} {pos : Pos}
noncomputable def E1 (c:TT) (tb:TS):TS:=fun D σ H=>∃ W:Nat->St->Hp->Prop,(∃ m,W m σ H)/\∀ m σ H,W m σ H->
 c σ H fun b H1=>if b=true then ∃ N:St->Hp->Prop,(∀ σ' H',N σ' H'->∃ m',m' < m/\W m' σ' H')/\tb { D with nx:=N,ct:=N,bk:=D.nx } σ H1 else D.nx σ H1
theorem ar3 {c:Expr}{body:List Stmt}{tc:TT}{tb:TS} (hp:PassesOwn (model X.prog X.w) X.A X.env X.xe) (hc:PT X c tc) (hb:eO X body tb):PS X (.While c body [] pos) (E1 tc tb):=by
 intro pins s σ H D I h
 obtain ⟨W,⟨m0,w0⟩,turn⟩:=h
 refine wpAny_While (codeAny_whileLoop (fun n s'=>∃ σ' H',a8 X pins σ' H' s'/\W n σ' H') ?_ m0 ⟨σ,H,I,w0⟩)
 rintro n s1 ⟨σ1,H1,I1,w1⟩
 refine bC8 hp (aQ (hc pins s1 σ1 H1 _ I1 (turn n σ1 H1 w1)) fun b s2 ⟨H2,I2,q2⟩=>?_)
 cases b with
 | true=>
  obtain ⟨N,hN,q2⟩:=q2
  rw [if_pos rfl]
  refine bC8 hp (aQ (hb pins s2 σ1 H2 _ I2 q2) fun f s3 q3=>?_)
  cases f with
  | next=>
   obtain ⟨σ3,H3,I3,n3⟩:=q3
   obtain ⟨m',hm,w3⟩:=hN σ3 H3 n3
   exact⟨m',hm,σ3,H3,I3,w3⟩
  | cont=>
   obtain ⟨σ3,H3,I3,n3⟩:=q3
   obtain ⟨m',hm,w3⟩:=hN σ3 H3 n3
   exact⟨m',hm,σ3,H3,I3,w3⟩
  | brk=>exact q3
  | ret v=>exact q3
 | false=>
  rw [if_neg bp9]
  exact wpAny_execs_nil ⟨σ1,H2,I2,q2⟩
end
structure It where
 go:Nat->Hp->Prop
 yld:Nat->Hp->V->Hp->Prop
 stop:Nat->Hp->Prop
noncomputable def iQ (X:Cx) (pins:List (Addr × Obj)) (H:Hp) (b:Addr):Prop:=
 H b=none/\b ≠ X.env.locals/\b ∉ X.fs/\(b ∈ X.ex ∨ X.s₀.heap.objs.size<=b)/\(∀ x c,X.env.cells.lookup x=some c->c ≠ b)/\∀ p ∈ X.pn ++ pins,p.1 ≠ b
theorem a8.fpOk {X:Cx}{pins:List (Addr × Obj)}{σ:St}{H H':Hp}{s:Shared}{b:Addr} (I:a8 X pins σ H s) (hb:s.heap.objs.size<=b) (hn:H' b=none):iQ X pins H' b:=by
 refine⟨hn,bw1 (bp4 I.lt hb),I.nofs hb,.inr (bs2 I.sz hb),fun x c e z=>?_,fun p hp z=>?_⟩
 ·obtain ⟨v,q⟩:=I.cell x c e
  exact absurd (bp4 q.lt (by rw [z]; exact hb)) (bt0 _)
 ·exact absurd (bp4 (bp5 (I.pin p hp).1) (by rw [z]; exact hb)) (bt0 _)
structure j9 (P:Program) (w:World) (K:PySem.W.Frag) (tg:Expr) (J:It) (fp:List Addr) (it:Addr) (tn:Nat->Heap->Prop):Prop where
 mem:it ∈ fp
 obj:∀ i h,tn i h->∀ b ∈ fp,∃ o,h.get? b=some o/\∀ v,o.data ≠ .cell v
 keep:∀ i h h',tn i h->(∀ b ∈ fp,∀ o,h.get? b=some o->h'.get? b=some o)->tn i h'
 item:∀ (X:Cx),X.prog=P->X.w=w->X.K=K->X.calm=true->∀ (i:Nat) (pins:List (Addr × Obj)) (s:Shared) (σ:St) (H:Hp) (E:Value->Shared->Prop),a8 X pins σ H s->(∀ b ∈ fp,iQ X pins H b)->tn i s.heap->J.go i H->
  wpAny (model P w) X.A (pyNext (.ref it)) (fun r s1=>∃ u,r=some u/\
   wpAny (model P w) X.A (letOwnedTupleGo tg (.ref it) u) (fun _ s2=>∃ x H',a8 X pins σ H' s2/\b5 x u/\J.yld i H x H'/\tn (i+1) s2.heap/\∀ b ∈ fp,H' b=none) E s1) E s
 done:∀ (X:Cx),X.prog=P->X.w=w->X.K=K->X.calm=true->∀ (i:Nat) (pins:List (Addr × Obj)) (s:Shared) (σ:St) (H:Hp) (E:Value->Shared->Prop),a8 X pins σ H s->(∀ b ∈ fp,iQ X pins H b)->tn i s.heap->J.stop i H->
  wpAny (model P w) X.A (pyNext (.ref it)) (fun r s1=>r=none/\a8 X pins σ H s1) E s
 self:∀ (A:Around) (i:Nat) (s:Shared) (Q:Value->Shared->Prop) (E:Value->Shared->Prop),tn i s.heap->Q (.ref it) s->wpAny (model P w) A (pyIter (.ref it)) Q E s
noncomputable abbrev TI:=St->Hp->(It->Hp->Prop)->Prop
noncomputable def E2 (X:Cx) (pins:List (Addr × Obj)) (σ:St) (tg:Expr) (R:It->Hp->Prop) (itv:Value) (s2:Shared):Prop:=
 ∃ (it:Addr) (fp:List Addr) (tn:Nat->Heap->Prop) (J:It) (H':Hp),itv = .ref it/\a8 X pins σ H' s2/\j9 X.prog X.w X.K tg J fp it tn/\tn 0 s2.heap/\(∀ b ∈ fp,iQ X pins H' b)/\R J H'
noncomputable def PI (X:Cx) (tg iter:Expr) (wi:TI):Prop:=
 ∀ (pins:List (Addr × Obj)) (s:Shared) (σ:St) (H:Hp) (R:It->Hp->Prop),a8 X pins σ H s->wi σ H R->
  wpAny (model X.prog X.w) X.A (eval iter X.env) (fun v s1=>wpAny (model X.prog X.w) X.A (pyIter v) (E2 X pins σ tg R) X.xe s1) X.xe s
theorem rG {M:Model}{A:Around}{E:Value->Shared->Prop}{s:Shared}{tg:Expr}{it:Addr}{u:Value}{o:Obj}{n:String}{vs:Array Value}{Q:Unit->Shared->Prop} (ho:s.heap.get? it=some o) (hc:o.cls = .type n) (hd:o.data = .fields vs)
    (hn : ["enumerate","zip","dict_itemiterator","dict_reverseitemiterator","odict_iterator","itertools.zip_longest","itertools.pairwise"].contains n=false) (hQ:Q () s):wpAny M A (letOwnedTupleGo tg (.ref it) u) Q E s:=by
  unfold letOwnedTupleGo
  cases tg <;> first
    | exact bo9 hQ
    | (cases u <;> first
        | exact bo9 hQ
        | (refine bn3 (wpAny_load ho ?_)
           rw [hc,hd]
           show wpAny M A (if (["enumerate","zip","dict_itemiterator","dict_reverseitemiterator","odict_iterator","itertools.zip_longest","itertools.pairwise"].contains n && vs[0]? == some (rawInt _))=true then _ else _) Q E s
           rw [if_neg (by intro h; rw [hn,Bool.false_and] at h; cases h)]
           exact bo9 hQ))
noncomputable def nE (K:PySem.W.Frag) (a:Addr):It:=
 ⟨fun i H=>∃ xs x,aN K H a xs/\xs[i]? = some x,fun i H x H'=>H'=H/\∀ xs,aN K H a xs->xs[i]? = some x,fun i H=>∃ xs,aN K H a xs/\xs.length<=i⟩
noncomputable def lF (K:PySem.W.Frag) (a:Addr):It:=
 ⟨fun i H=>∃ xs x,aM K H a xs/\xs[i]? = some x,fun i H x H'=>H'=H/\∀ xs,aM K H a xs->xs[i]? = some x,fun i H=>∃ xs,aM K H a xs/\xs.length<=i⟩
noncomputable def oX (lo:Int) (n:Nat):It:=⟨fun i _=>i < n,fun i H x H'=>H'=H/\x = .int (lo+i),fun i _=>n<=i⟩
theorem ar4 {P:Program}{w:World}{K:PySem.W.Frag}{tg:Expr} (a it:Addr):j9 P w K tg (nE K a) [it] it (fun i h=>h.IsListIter it a i) where
 mem:=by simp
 obj:=fun i h st b hb=>by
  have e:b=it:=by simpa using hb
  subst e
  obtain ⟨o,e,c,d⟩:=st
  exact⟨o,e,fun v z=>by rw [d] at z; cases z⟩
 keep:=fun i h h' st k=>st.at fun o e=>k it (by simp) o e
 item:=by
  intro X hP hw hK hc i pins s σ H E I hf st hg
  subst hP hw hK
  obtain ⟨xs,x,hq,hx⟩:=hg
  obtain ⟨its,rv,p,hz⟩:=I.list hq
  obtain ⟨u,hu,ru⟩:=rv.get hx
  obtain ⟨f0,f1,f2,f3,f4,f5⟩:=hf it (by simp)
  refine wpAny_pyNext_list_item st p.isList (x:=u) (by simpa using hu) fun h' st' sb=>?_
  have I1:a8 X pins σ H { s with heap:=h' }:=I.turned (t':=s.toks) (fun b o hb e=>(sb.2 b hb).trans e) f0 f1 f3 f4 f5
  obtain ⟨o,e,c,d⟩:=id st'
  exact⟨u,rfl,rG (s:={ s with heap:=h' }) e c d (by decide) ⟨x,H,I1,ru,⟨rfl,fun ys hy=>by rw [I.list_inj hy hq]; exact hx⟩,st',fun b hb=>(hf b hb).1⟩⟩
 done:=by
  intro X hP hw hK hc i pins s σ H E I hf st hg
  subst hP hw hK
  obtain ⟨xs,hq,hx⟩:=hg
  obtain ⟨its,rv,p,hz⟩:=I.list hq
  obtain ⟨f0,f1,f2,f3,f4,f5⟩:=hf it (by simp)
  have hl:=rv.length
  exact wpAny_pyNext_list_end (I.ok.hd hc) st p.isList (by simp; omega) fun h' eb=>⟨rfl,I.turned (t':=s.toks) (fun b o hb e=>eb b o hb e) f0 f1 f3 f4 f5⟩
 self:=fun _ _ _ _ _ st h=>wpAny_pyIter_listiter st h
theorem E3 {P:Program}{w:World}{K:PySem.W.Frag}{tg:Expr} (a it:Addr):j9 P w K tg (lF K a) [it] it (fun i h=>h.IsTupleIter it a i) where
 mem:=by simp
 obj:=fun i h st b hb=>by
  have e:b=it:=by simpa using hb
  subst e
  obtain ⟨o,e,c,d⟩:=st
  exact⟨o,e,fun v z=>by rw [d] at z; cases z⟩
 keep:=fun i h h' st k=>st.at fun o e=>k it (by simp) o e
 item:=by
  intro X hP hw hK hc i pins s σ H E I hf st hg
  subst hP hw hK
  obtain ⟨xs,x,hq,hx⟩:=hg
  obtain ⟨its,rv,p,hz⟩:=I.tuple hq
  obtain ⟨u,hu,ru⟩:=rv.get hx
  obtain ⟨f0,f1,f2,f3,f4,f5⟩:=hf it (by simp)
  refine wpAny_pyNext_tuple_item st (show s.heap.IsTuple a its.toArray from p) (x:=u) (by simpa using hu) fun h' st' sb=>?_
  have I1:a8 X pins σ H { s with heap:=h' }:=I.turned (t':=s.toks) (fun b o hb e=>(sb.2 b hb).trans e) f0 f1 f3 f4 f5
  obtain ⟨o,e,c,d⟩:=id st'
  exact⟨u,rfl,rG (s:={ s with heap:=h' }) e c d (by decide) ⟨x,H,I1,ru,⟨rfl,fun ys hy=>by rw [I.tuple_inj hy hq]; exact hx⟩,st',fun b hb=>(hf b hb).1⟩⟩
 done:=by
  intro X hP hw hK hc i pins s σ H E I hf st hg
  subst hP hw hK
  obtain ⟨xs,hq,hx⟩:=hg
  obtain ⟨its,rv,p,hz⟩:=I.tuple hq
  obtain ⟨f0,f1,f2,f3,f4,f5⟩:=hf it (by simp)
  have hl:=rv.length
  exact wpAny_pyNext_tuple_end (I.ok.hd hc) st (show s.heap.IsTuple a its.toArray from p) (by simp; omega) fun h' eb=>⟨rfl,I.turned (t':=s.toks) (fun b o hb e=>eb b o hb e) f0 f1 f3 f4 f5⟩
 self:=fun _ _ _ _ _ st h=>wpAny_pyIter_tupleiter st h
theorem ar5 {P:Program}{w:World}{K:PySem.W.Frag}{tg:Expr} (it:Addr) (lo:Int) (n:Nat):j9 P w K tg (oX lo n) [it] it (fun i h=>IsRangeIter h it (lo+(i:Nat) * 1) ((n:Int) - (i:Nat)) 1) where
 mem:=by simp
 obj:=fun i h st b hb=>by
  have e:b=it:=by simpa using hb
  subst e
  exact⟨_,st,fun v z=>by
   have z':Data.fields _=Data.cell v:=z
   cases z'⟩
 keep:=fun i h h' st k=>k it (by simp) _ st
 item:=by
  intro X hP hw hK hc i pins s σ H E I hf st hg
  subst hP hw hK
  obtain ⟨f0,f1,f2,f3,f4,f5⟩:=hf it (by simp)
  have W:=Walks.range (prog:=X.prog) (w:=X.w) (I.ok.hd hc) it lo 1 n
  refine W.item i s _ _ hg st fun v h' tk hv st' kk=>?_
  obtain ⟨t,rfl⟩:=hv
  have I1:a8 X pins σ H { s with heap:=h',toks:=tk }:=I.turned (fun b o hb e=>kk b o (by simpa using hb) e) f0 f1 f3 f4 f5
  refine⟨_,rfl,rG (s:={ s with heap:=h',toks:=tk }) (n:="range_iterator") st' rfl rfl (by decide) ⟨.int (lo+i),H,I1,⟨t,?_⟩,⟨rfl,rfl⟩,st',fun b hb=>(hf b hb).1⟩⟩
  rw [Int.mul_one]
 done:=by
  intro X hP hw hK hc i pins s σ H E I hf st hg
  subst hP hw hK
  obtain ⟨f0,f1,f2,f3,f4,f5⟩:=hf it (by simp)
  exact wpAny_pyNext_range_end (I.ok.hd hc) st (by have:n<=i:=hg; omega) fun h' eb=>⟨rfl,I.turned (t':=s.toks) (fun b o hb e=>eb b o hb e) f0 f1 f3 f4 f5⟩
 self:=fun _ _ _ _ _ st h=>wpAny_pyIter_rangeiter st h
section
variable {X : Cx} {tg : Expr}
noncomputable def ar6 (K:PySem.W.Frag) (tl:TE):TI:=fun σ H R=>tl σ H fun x H1=>∃ a,x = .ref a/\(∃ xs,aM K H1 a xs)/\R (lF K a) H1
theorem rH {l:Expr}{tl:TE} (hl:PE X l tl):PI X tg l (ar6 X.K tl):=by
 intro pins s σ H R I h
 refine aQ (hl pins s σ H _ I h) fun v s1 ⟨x,H1,I1,r1,q1⟩=>?_
 obtain ⟨a,e,⟨xs,hq⟩,q⟩:=q1
 subst e
 cases r1
 obtain ⟨its,rv,p,hz⟩:=I1.tuple hq
 refine bC1 (show s1.heap.IsTuple a its.toArray from p) ?_
 refine⟨s1.heap.objs.size,[s1.heap.objs.size],_,_,H1,rfl,I1.kept (t':=s1.toks) fun b o e=>bn6 _ e,E3 a _,⟨_,bp7 _ rfl,rfl,rfl⟩,fun b hb=>?_,q⟩
 have e:b=s1.heap.objs.size:=by simpa using hb
 subst e
 exact I1.fpOk (bo7 _) (I1.hok.fresh (bo7 _))
theorem E4 {pins:List (Addr × Obj)}{σ:St}{H:Hp}{s:Shared}{R:It->Hp->Prop}{E:Value->Shared->Prop}{lo hi:Int}{t u v:Tok}{tk:Nat} (I:a8 X pins σ H s) (h1 : -(2 ^ 62)<=lo) (h2:lo < 2 ^ 62) (h3 : -(2 ^ 62)<=hi) (h4:hi < 2 ^ 62)
  (q:R (oX lo (hi - lo).toNat) H):wpAny (model X.prog X.w) X.A (pyIter (.ref s.heap.objs.size)) (E2 X pins σ tg R) E { s with heap:=s.heap.push { cls:=.type "range",data:=.fields #[.int lo t,.int hi u,.int 1 v] },toks:=tk }:=by
 refine wpAny_pyIter_range (IsRange.new ..) (small_one h1 h2 h3 h4) ?_
 have I1:a8 X pins σ H { s with heap:=s.heap.push { cls:=.type "range",data:=.fields #[.int lo t,.int hi u,.int 1 v] },toks:=tk }:=I.kept fun b o e=>bn6 _ e
 refine⟨(s.heap.push { cls:=.type "range",data:=.fields #[.int lo t,.int hi u,.int 1 v] }).objs.size,[(s.heap.push { cls:=.type "range",data:=.fields #[.int lo t,.int hi u,.int 1 v] }).objs.size],_,_,H,rfl,
  I1.kept (t':=tk) fun b o e=>bn6 _ e,ar5 _ lo (hi - lo).toNat,?_,fun b hb=>?_,q⟩
 ·have e1:lo+((0:Nat):Int) * 1=lo:=by simp
  have e2:(((hi - lo).toNat:Nat):Int) - ((0:Nat):Int)=Builtin.Range.rangeSize lo hi 1:=by rw [rangeSize_one]; split <;> omega
  show IsRangeIter _ _ (lo+((0:Nat):Int) * 1) ((((hi - lo).toNat:Nat):Int) - ((0:Nat):Int)) 1
  rw [e1,e2]
  exact bp7 _ rfl
 ·have e:b=(s.heap.push { cls:=.type "range",data:=.fields #[.int lo t,.int hi u,.int 1 v] }).objs.size:=by simpa using hb
  subst e
  exact I1.fpOk (bo7 _) (I1.hok.fresh (bo7 _))
noncomputable def E5 (ta:TA):TI:=fun σ H R=>ta σ H fun vs H1=>∃ j:Int,vs = [.int j]/\-(2 ^ 62)<=j/\j < 2 ^ 62/\R (oX 0 j.toNat) H1
noncomputable def E6 (ta:TA):TI:=fun σ H R=>ta σ H fun vs H1=>∃ i j:Int,vs = [.int i,.int j]/\(-(2 ^ 62)<=i/\i < 2 ^ 62/\-(2 ^ 62)<=j/\j < 2 ^ 62)/\R (oX i (j - i).toNat) H1
theorem ar7 {a:Expr}{ta:TA}{p pos:Pos} (hg:Gl X "range") (hm:X.mg "range" = none) (ha:PA X [a] ta) (hs:starEach [a] X.env = [(false,eval a X.env)]:=by rfl):PI X tg (.Call (.Name "range" p) [a] [] pos) (E5 ta):=by
 intro pins s σ H R I h
 refine Call_ (jU I hg hm boot_range (bt6 (aQ (ha pos pins s σ H _ I h) fun us s1 ⟨vs,H1,I1,r1,q1⟩=>?_) hs rfl))
 obtain ⟨j,e,q1,q2,q⟩:=q1
 subst e
 cases r1 with
 | cons r rr=>
  cases rr
  obtain ⟨t,rfl⟩:=r
  exact call_range_1 (E4 I1 (by omega) (by omega) q1 q2 (by simpa using q))
theorem ar8 {a b:Expr}{ta:TA}{p pos:Pos} (hg:Gl X "range") (hm:X.mg "range" = none) (ha:PA X [a,b] ta) (hs:starEach [a,b] X.env = [(false,eval a X.env),(false,eval b X.env)]:=by rfl) (hs2:starEach [b] X.env = [(false,eval b X.env)]:=by rfl) :
  PI X tg (.Call (.Name "range" p) [a,b] [] pos) (E6 ta):=by
 intro pins s σ H R I h
 refine Call_ (jU I hg hm boot_range (bt6 (aQ (ha pos pins s σ H _ I h) fun us s1 ⟨vs,H1,I1,r1,q1⟩=>?_) (by rw [hs,hs2]) (by rw [hs2]; rfl)))
 obtain ⟨i,j,e,⟨q1,q2,q3,q4⟩,q⟩:=q1
 subst e
 cases r1 with
 | cons r rr=>
  cases rr with
  | cons r' rr=>
   cases rr
   obtain ⟨t,rfl⟩:=r
   obtain ⟨t',rfl⟩:=r'
   exact call_range_2 (E4 I1 q1 q2 q3 q4 q)
noncomputable def E7 (wi:TI) (g:TG) (tb:TS):TS:=fun D σ H=>wi σ H fun J H1=>∃ W:Nat->Nat->St->Hp->Prop,(∃ m,W 0 m σ H1)/\∀ i m σ H,W i m σ H->
 (J.stop i H/\D.nx σ H) ∨ (J.go i H/\∃ N:St->Hp->Prop,(∀ σ' H',N σ' H'->∃ m',m' < m/\W (i+1) m' σ' H')/\∀ x H',J.yld i H x H'->g x σ H' fun σ2 H2=>tb { D with nx:=N,ct:=N,bk:=D.nx } σ2 H2)
noncomputable def oY (fp:List Addr) (h:Heap):List (Addr × Obj):=fp.filterMap fun b=>(h.get? b).map fun o=>(b,o)
theorem rJ {fp:List Addr}{h:Heap}{b:Addr}{o:Obj} (hb:b ∈ fp) (e:h.get? b=some o):(b,o) ∈ oY fp h:=List.mem_filterMap.mpr ⟨b,hb,by rw [e]; rfl⟩
theorem ar9 {fp:List Addr}{h:Heap}{p:Addr × Obj} (hp:p ∈ oY fp h):p.1 ∈ fp/\h.get? p.1=some p.2:=by
 obtain ⟨b,hb,e⟩:=List.mem_filterMap.mp hp
 cases q:h.get? b with
 | none=>rw [q] at e; cases e
 | some o=>
  rw [q] at e
  have e':(b,o)=p:=bq3 e
  subst e'
  exact⟨hb,q⟩
theorem a8.pinned {pins:List (Addr × Obj)}{σ:St}{H:Hp}{s:Shared}{fp:List Addr} (I:a8 X pins σ H s) (hf:∀ b ∈ fp,iQ X pins H b) (ho:∀ b ∈ fp,∃ o,s.heap.get? b=some o/\∀ v,o.data ≠ .cell v):a8 X (pins ++ oY fp s.heap) σ H s:=
 I.pins_of fun p hp=>(bo6.mp hp).elim (fun z=>I.pin p (br0 _ z)) fun z=>by
  obtain ⟨hb,e⟩:=ar9 z
  obtain ⟨f0,f1,f2,_⟩:=hf p.1 hb
  obtain ⟨o,e',d⟩:=ho p.1 hb
  rw [e] at e'; cases e'
  exact⟨e,f0,f1,f2,d⟩
theorem a8.unpinned {pins pl:List (Addr × Obj)}{σ:St}{H:Hp}{s:Shared} (I:a8 X (pins ++ pl) σ H s):a8 X pins σ H s:=I.pins_of fun p hp=>I.pin p (br0 _ (br8 _ hp))
theorem v0 {iter:Expr}{body:List Stmt}{wi:TI}{g:TG}{tb:TS}{pos:Pos} (hp:PassesOwn (model X.prog X.w) X.A X.env X.xe) (hc:X.calm=true) (hi:PI X tg iter wi) (hg:PG X tg g) (hb:eO X body tb)
  (hs:∀ x,foldedSetIterable iter X.env x=pure x:=by intro _; rfl):PS X (.For tg iter body [] pos) (E7 wi g tb):=by
 intro pins s σ H D I h
 refine wpAny_For (aQ (hi pins s σ H _ I h) fun v s1 h1=>aQ h1 fun itv s2 h2=>?_) hs
 obtain ⟨it,fp,tn,J,H2,e,I2,T,st2,f2,W,⟨m0,w0⟩,turn⟩:=h2
 subst e
 have stat:∀ {H':Hp},(∀ b ∈ fp,H' b=none)->∀ b ∈ fp,iQ X pins H' b:=fun hn b hb=>⟨hn b hb,(f2 b hb).2⟩
 refine codeAny_forLoop_any (fun n s'=>∃ i σ' H',a8 X pins σ' H' s'/\tn i s'.heap/\(∀ b ∈ fp,H' b=none)/\W i n σ' H') ?_ m0 ⟨0,σ,H2,I2,st2,fun b hb=>(f2 b hb).1,w0⟩
 rintro n s3 ⟨i,σ3,H3,I3,st3,fr3,w3⟩
 rcases turn i n σ3 H3 w3 with ⟨stop,qn⟩ | ⟨go,N,hN,step⟩
 ·refine bC8 hp (aQ (T.done X rfl rfl rfl hc i pins s3 σ3 H3 X.xe I3 (stat fr3) st3 stop) fun r s4 ⟨hr,I4⟩=>?_)
  subst hr
  exact wpAny_execs_nil ⟨σ3,H3,I4,qn⟩
 ·refine bC8 hp (aQ (T.item X rfl rfl rfl hc i pins s3 σ3 H3 X.xe I3 (stat fr3) st3 go) fun r s4 ⟨u,hr,h4⟩=>?_)
  subst hr
  refine bC8 hp (aQ h4 fun _ s5 ⟨x,H5,I5,r5,y5,st5,fr5⟩=>?_)
  have I5':=I5.pinned (stat fr5) (T.obj _ _ st5)
  refine bC8 hp (aQ (hg _ s5 σ3 H5 x u _ I5' r5 (step x H5 y5)) fun _ s6 ⟨σ6,H6,I6,q6⟩=>?_)
  refine bC8 hp (aQ (hb _ s6 σ6 H6 _ I6 q6) fun f s7 q7=>?_)
  have again:∀ {σ7:St}{H7:Hp},a8 X (pins ++ oY fp s5.heap) σ7 H7 s7->N σ7 H7->∃ m,m < n/\∃ i σ' H',a8 X pins σ' H' s7/\tn i s7.heap/\(∀ b ∈ fp,H' b=none)/\W i m σ' H':=fun {σ7 H7} I7 n7=>by
   obtain ⟨m',hm,w7⟩:=hN σ7 H7 n7
   refine⟨m',hm,i+1,σ7,H7,I7.unpinned,T.keep _ _ _ st5 fun b hb o e=>(I7.pin (b,o) (br0 _ (br0 _ (rJ hb e)))).1,fun b hb=>?_,w7⟩
   obtain ⟨o,e,d⟩:=T.obj _ _ st5 b hb
   exact (I7.pin (b,o) (br0 _ (br0 _ (rJ hb e)))).2.1
  cases f with
  | next=>obtain ⟨σ7,H7,I7,n7⟩:=q7; exact again I7 n7
  | cont=>obtain ⟨σ7,H7,I7,n7⟩:=q7; exact again I7 n7
  | brk=>obtain ⟨σ7,H7,I7,q7⟩:=q7; exact⟨σ7,H7,I7.unpinned,q7⟩
  | ret v=>obtain ⟨x7,σ7,H7,I7,r7,q7⟩:=q7; exact⟨x7,σ7,H7,I7.unpinned,r7,q7⟩
end
theorem bm9 {K:PySem.W.Frag}{a:Addr}{xs:List V}{g:TG}{tb:TS}{D:cM}{σ:St}{H:Hp} (Pv:Nat->St->Hp->Prop) (h0:Pv 0 σ H) (hl:∀ i σ H,i<=xs.length->Pv i σ H->aN K H a xs)
  (hs:∀ i x σ H,xs[i]? = some x->Pv i σ H->g x σ H fun σ2 H2=>tb { D with nx:=Pv (i+1),ct:=Pv (i+1),bk:=D.nx } σ2 H2) (hd:∀ σ H,Pv xs.length σ H->D.nx σ H) :
  ∃ W:Nat->Nat->St->Hp->Prop,(∃ m,W 0 m σ H)/\∀ i m σ H,W i m σ H->
   ((nE K a).stop i H/\D.nx σ H) ∨ ((nE K a).go i H/\∃ N:St->Hp->Prop,(∀ σ' H',N σ' H'->∃ m',m' < m/\W (i+1) m' σ' H')/\∀ x H',(nE K a).yld i H x H'->g x σ H' fun σ2 H2=>tb { D with nx:=N,ct:=N,bk:=D.nx } σ2 H2):=by
 refine⟨fun i m σ H=>m=xs.length - i/\i<=xs.length/\Pv i σ H,⟨xs.length,by simp,br9 _,h0⟩,?_⟩
 rintro i m σ H ⟨rfl,hi,p⟩
 have q:=hl i σ H hi p
 by_cases hlt:i < xs.length
 ·refine .inr ⟨⟨xs,xs[i],q,by simp [hlt]⟩,Pv (i+1),fun σ' H' p'=>⟨xs.length - (i+1),by omega,rfl,hlt,p'⟩,fun x H' y=>?_⟩
  obtain ⟨e,y⟩:=y
  subst e
  exact hs i x σ _ (y xs q) p
 ·have e:i=xs.length:=by omega
  subst e
  exact .inl ⟨⟨xs,q,bo7 _⟩,hd σ H p⟩
theorem E8 {K:PySem.W.Frag}{a:Addr}{xs:List V}{g:TG}{tb:TS}{D:cM}{σ:St}{H:Hp} (Pv:Nat->St->Hp->Prop) (h0:Pv 0 σ H) (hl:∀ i σ H,i<=xs.length->Pv i σ H->aM K H a xs)
  (hs:∀ i x σ H,xs[i]? = some x->Pv i σ H->g x σ H fun σ2 H2=>tb { D with nx:=Pv (i+1),ct:=Pv (i+1),bk:=D.nx } σ2 H2) (hd:∀ σ H,Pv xs.length σ H->D.nx σ H) :
  ∃ W:Nat->Nat->St->Hp->Prop,(∃ m,W 0 m σ H)/\∀ i m σ H,W i m σ H->
   ((lF K a).stop i H/\D.nx σ H) ∨ ((lF K a).go i H/\∃ N:St->Hp->Prop,(∀ σ' H',N σ' H'->∃ m',m' < m/\W (i+1) m' σ' H')/\∀ x H',(lF K a).yld i H x H'->g x σ H' fun σ2 H2=>tb { D with nx:=N,ct:=N,bk:=D.nx } σ2 H2):=by
 refine⟨fun i m σ H=>m=xs.length - i/\i<=xs.length/\Pv i σ H,⟨xs.length,by simp,br9 _,h0⟩,?_⟩
 rintro i m σ H ⟨rfl,hi,p⟩
 have q:=hl i σ H hi p
 by_cases hlt:i < xs.length
 ·refine .inr ⟨⟨xs,xs[i],q,by simp [hlt]⟩,Pv (i+1),fun σ' H' p'=>⟨xs.length - (i+1),by omega,rfl,hlt,p'⟩,fun x H' y=>?_⟩
  obtain ⟨e,y⟩:=y
  subst e
  exact hs i x σ _ (y xs q) p
 ·have e:i=xs.length:=by omega
  subst e
  exact .inl ⟨⟨xs,q,bo7 _⟩,hd σ H p⟩
noncomputable abbrev R2:=V->V->Hp->VK->Prop
noncomputable def cF (X:Cx) (f:Value->Value->Sem Value) (r:R2):Prop:=
 ∀ (pins:List (Addr × Obj)) (s:Shared) (σ:St) (H:Hp) (x y:V) (v u:Value) (Q:VK),a8 X pins σ H s->b5 x v->b5 y u->r x y H Q->
  wpAny (model X.prog X.w) X.A (f v u) (EP X pins σ Q) X.xe s
noncomputable def v3 (X:Cx) (f:Value->Sem Value) (r:V->Hp->VK->Prop):Prop:=
 ∀ (pins:List (Addr × Obj)) (s:Shared) (σ:St) (H:Hp) (x:V) (v:Value) (Q:VK),a8 X pins σ H s->b5 x v->r x H Q->
  wpAny (model X.prog X.w) X.A (f v) (EP X pins σ Q) X.xe s
noncomputable def dN (X:Cx) (f:Value) (r:List V->Hp->VK->Prop):Prop:=
 ∀ (pins:List (Addr × Obj)) (s:Shared) (σ:St) (H:Hp) (xs:List V) (us:List Value) (Q:VK),a8 X pins σ H s->aR xs us->r xs H Q->
  wpAny (model X.prog X.w) X.A (call f us) (EP X pins σ Q) X.xe s
noncomputable def as0 (X:Cx) (r:V->Hp->(Bool->Hp->Prop)->Prop):Prop:=
 ∀ (pins:List (Addr × Obj)) (s:Shared) (σ:St) (H:Hp) (x:V) (v:Value) (Q:Bool->Hp->Prop),a8 X pins σ H s->b5 x v->r x H Q->
  wpAny (model X.prog X.w) X.A (truthy v) (TP X pins σ Q) X.xe s
noncomputable def oZ (r:R2) (ta tb:TE):TE:=fun σ H Q=>ta σ H fun x H1=>tb σ H1 fun y H2=>r x y H2 Q
noncomputable def tUn (r:V->Hp->VK->Prop) (ta:TE):TE:=fun σ H Q=>ta σ H fun x H1=>r x H1 Q
noncomputable def rI (C:Int->Int->Prop) (g:Int->Int->V):R2:=fun x y H Q=>∃ i j,x = .int i/\y = .int j/\C i j/\Q (g i j) H
noncomputable def jA (g:Int->Int->V):R2:=fun x y H Q=>∃ i j,x = .int i/\y = .int j/\Q (g i j) H
noncomputable def rU (g:Int->V):V->Hp->VK->Prop:=fun x H Q=>∃ i,x = .int i/\Q (g i) H
section
variable {X : Cx} {a b c : Expr} {ta tb tc : TE} {pos : Pos}
theorem v4 (ha:PE X a ta) (hb:PE X b tb) {pins:List (Addr × Obj)}{s:Shared}{σ:St}{H:Hp}{R:V->V->Hp->Prop} (I:a8 X pins σ H s)
  (h:ta σ H fun x H1=>tb σ H1 fun y H2=>R x y H2) {Q:Value->Shared->Prop}{f:Value->Value->Sem Value}
  (hf:∀ v u s2 x y H2,a8 X pins σ H2 s2->b5 x v->b5 y u->R x y H2->wpAny (model X.prog X.w) X.A (f v u) Q X.xe s2) :
  wpAny (model X.prog X.w) X.A (eval a X.env) (fun v s₁=>wpAny (model X.prog X.w) X.A (eval b X.env) (fun u s₂=>wpAny (model X.prog X.w) X.A (f v u) Q X.xe s₂) X.xe s₁) X.xe s:=by
 refine aQ (ha pins s σ H _ I h) fun v s1 ⟨x,H1,I1,r1,q1⟩=>?_
 refine aQ (hb pins s1 σ H1 _ I1 q1) fun u s2 ⟨y,H2,I2,r2,q2⟩=>?_
 exact hf v u s2 x y H2 I2 r1 r2 q2
theorem as1 {op:Operator}{r:R2} (ho:cF X (binaryOp op) r) (ha:PE X a ta) (hb:PE X b tb):PE X (.BinOp a op b pos) (oZ r ta tb):=by
 intro pins s σ H Q I h
 exact wpAny_BinOp (v4 ha hb I h fun v u s2 x y H2 I2 rx ry q=>ho pins s2 σ H2 x y v u Q I2 rx ry q)
theorem as2 {op:UnaryOp}{r:V->Hp->VK->Prop} (ho:v3 X (unaryOp op) r) (ha:PE X a ta):PE X (.UnaryOp op a pos) (tUn r ta):=by
 intro pins s σ H Q I h
 exact UnaryOp_ (aQ (ha pins s σ H _ I h) fun v s1 ⟨x,H1,I1,r1,q1⟩=>ho pins s1 σ H1 x v Q I1 r1 q1)
theorem p5 {f:Value->Value->Sem Value}{C:Int->Int->Prop}{g:Int->Int->Int}
  (rule:∀ (i j:Int) (t u:Tok) (s:Shared) (Q:Value->Shared->Prop) (E:Value->Shared->Prop),C i j->Q (.int (g i j) s.toks) { s with toks:=s.toks+1 }->wpAny (model X.prog X.w) X.A (f (.int i t) (.int j u)) Q E s) :
  cF X f (rI C fun i j=>.int (g i j)):=by
 intro pins s σ H x y v u Q I rx ry h
 obtain ⟨i,j,rfl,rfl,hc,q⟩:=h
 obtain ⟨t,rfl⟩:=rx
 obtain ⟨t',rfl⟩:=ry
 exact rule i j t t' s _ _ hc ⟨.int (g i j),H,I.tok _,⟨_,rfl⟩,q⟩
theorem v7 {f:Value->Value->Sem Value}{g:Int->Int->Int}
  (rule:∀ (i j:Int) (t u:Tok) (s:Shared) (Q:Value->Shared->Prop) (E:Value->Shared->Prop),Q (.int (g i j) s.toks) { s with toks:=s.toks+1 }->wpAny (model X.prog X.w) X.A (f (.int i t) (.int j u)) Q E s) :
  cF X f (jA fun i j=>.int (g i j)):=by
 intro pins s σ H x y v u Q I rx ry h
 obtain ⟨i,j,rfl,rfl,q⟩:=h
 obtain ⟨t,rfl⟩:=rx
 obtain ⟨t',rfl⟩:=ry
 exact rule i j t t' s _ _ ⟨.int (g i j),H,I.tok _,⟨_,rfl⟩,q⟩
theorem rK {f:Value->Value->Sem Value}{g:Int->Int->Bool}
  (rule:∀ (i j:Int) (t u:Tok) (s:Shared) (Q:Value->Shared->Prop) (E:Value->Shared->Prop),Q (.bool (g i j)) s->wpAny (model X.prog X.w) X.A (f (.int i t) (.int j u)) Q E s) :
  cF X f (jA fun i j=>.bl (g i j)):=by
 intro pins s σ H x y v u Q I rx ry h
 obtain ⟨i,j,rfl,rfl,q⟩:=h
 obtain ⟨t,rfl⟩:=rx
 obtain ⟨t',rfl⟩:=ry
 exact rule i j t t' s _ _ ⟨.bl (g i j),H,I,rfl,q⟩
noncomputable def v8 (i j:Int):Prop:=0 < j/\j < 1073741824
noncomputable def v9 (i j:Int):Prop:=0<=j/\j<=1000000/\i.natAbs < 2 ^ 64
noncomputable def p6 (i j:Int):Prop:=(-(2 ^ 64) < i/\i < 2 ^ 64) ∨ (-(2 ^ 64) < j/\j < 2 ^ 64)
theorem p6.ok {i j:Int} (h:p6 i j):IntMulOk i j:=by
 rcases h with ⟨h1,h2⟩ | ⟨h1,h2⟩
 ·exact .of_left (intBits_le_64 h1 h2)
 ·exact .of_right (intBits_le_64 h1 h2)
theorem as3 (k:Nat):(0:Int)<=2 ^ k:=by
 rw [two_pow_cast]
 exact Int.natCast_nonneg _
theorem as4:cF X (binaryOp .Add) (jA fun i j=>.int (i+j)):=v7 fun _ _ _ _ _ _ _ q=>add_int q
theorem as5:cF X (binaryOp .Sub) (jA fun i j=>.int (i - j)):=v7 fun _ _ _ _ _ _ _ q=>sub_int q
theorem as6:cF X (binaryOp .Mult) (rI p6 fun i j=>.int (i * j)):=p5 fun _ _ _ _ _ _ _ hc q=>mul_int q hc.ok
theorem as7:cF X (binaryOp .FloorDiv) (rI v8 fun i j=>.int (i / j)):=p5 fun i j _ _ _ _ _ hc q=>by
 have h1:(0:Int) < j:=hc.1
 have h2:j < 1073741824:=hc.2
 exact floordiv_int (by omega) (by rw [Int.fdiv_eq_ediv_of_nonneg i (by omega)]; exact q) (.inl (PyProof.noPylong_small (by omega)))
theorem as8:cF X (binaryOp .Mod) (rI (fun _ j=>0 < j) fun i j=>.int (i % j)):=p5 fun i j _ _ _ _ _ hc q=>by
 have h1:(0:Int) < j:=hc
 exact mod_int' (by omega) (by rw [Int.fmod_eq_emod_of_nonneg i (by omega)]; exact q)
theorem as9:cF X (binaryOp .Pow) (rI v9 fun i j=>.int (i ^ j.toNat)):=p5 fun _ _ _ _ _ _ _ hc q=>pow_int_small hc.1 hc.2.1 hc.2.2 q
theorem at2:cF X (binaryOp .RShift) (rI (fun _ j=>0<=j) fun i j=>.int (i / 2 ^ j.toNat)):=p5 fun i j _ _ _ _ _ hc q=>
 rshift_int hc (by rw [Int.fdiv_eq_ediv_of_nonneg i (as3 _)]; exact q)
theorem at3:cF X (binaryOp .BitAnd) (jA fun i j=>.int (Builtin.bitAnd i j)):=v7 fun _ _ _ _ _ _ _ q=>and_int q
theorem unI {f:Value->Sem Value}{g:Int->Int}
  (rule:∀ (i:Int) (t:Tok) (s:Shared) (Q:Value->Shared->Prop) (E:Value->Shared->Prop),Q (.int (g i) s.toks) { s with toks:=s.toks+1 }->wpAny (model X.prog X.w) X.A (f (.int i t)) Q E s) :
  v3 X f (rU fun i=>.int (g i)):=by
 intro pins s σ H x v Q I rx h
 obtain ⟨i,rfl,q⟩:=h
 obtain ⟨t,rfl⟩:=rx
 exact rule i t s _ _ ⟨.int (g i),H,I.tok _,⟨_,rfl⟩,q⟩
theorem at4:v3 X (unaryOp .USub) (rU fun i=>.int (-i)):=unI fun _ _ _ _ _ q=>neg_int q
end
noncomputable def E9:V->V->Bool
 | .non,.non=>true | .non,.int _=>true | .int _,.non=>true | .non,.bl _=>true | .bl _,.non=>true | .non,.str _=>true | .str _,.non=>true
 | .int _,.int _=>true | .bl _,.bl _=>true | .str _,.str _=>true | .byt _,.byt _=>true
 | .int _,.str _=>true | .str _,.int _=>true | .bl _,.str _=>true | .str _,.bl _=>true
 | _,_=>false
noncomputable def F0:R2:=fun x y H Q=>E9 x y=true/\Q (.bl (decide (x=y))) H
noncomputable def vA:R2:=fun x y H Q=>E9 x y=true/\Q (.bl (!decide (x=y))) H
theorem F1 {i j:Int}:decide (V.int i=V.int j)=(i == j):=by
 rw [bt3]
 simp
theorem F3 {i j:Bool}:decide (V.bl i=V.bl j)=(i == j):=by
 rw [bt3]
 simp
theorem F4 {i j:Str}:decide (V.str i=V.str j)=(i == j):=by
 rw [bt3]
 simp
theorem F5 {i j:Array UInt8}:decide (V.byt i=V.byt j)=(i.toList == j.toList):=by
 rw [bt3]
 cases i
 cases j
 simp
section
variable {X : Cx} {a b c : Expr} {ta tb tc : TE} {pos : Pos}
theorem cG {pins:List (Addr × Obj)}{σ:St}{H:Hp}{s:Shared}{Q:VK}{k k':Bool} (I:a8 X pins σ H s) (q:Q (.bl k) H) (e:k=k'):EP X pins σ Q (.bool k') s:=by
 subst e
 exact⟨.bl k,H,I,rfl,q⟩
theorem F6:cF X (compareOp .Eq) F0:=by
 intro pins s σ H x y v u Q I rx ry h
 obtain ⟨hs,q⟩:=h
 cases x with
 | non=>
  cases rx
  cases y with
  | non=>cases ry; exact PySem.EqNone.eq_none_none (cG I q (by simp))
  | bl j=>cases ry; exact PySem.EqNone.eq_none_bool (cG I q (by simp))
  | int j=>obtain ⟨t',rfl⟩:=ry; exact PySem.EqNone.eq_none_int (cG I q (by simp))
  | str j=>obtain ⟨t',rfl⟩:=ry; exact PySem.EqNone.eq_none_str (cG I q (by simp))
  | _=>exact absurd (show false=true from hs) bp9
 | bl i=>
  cases rx
  cases y with
  | non=>cases ry; exact PySem.EqNone.eq_bool_none (cG I q (by simp))
  | bl j=>cases ry; exact eq_bool (cG I q F3)
  | str j=>obtain ⟨t',rfl⟩:=ry; exact PySem.EqMixed.eq_bool_str (cG I q (by simp))
  | _=>exact absurd (show false=true from hs) bp9
 | int i=>
  obtain ⟨t,rfl⟩:=rx
  cases y with
  | non=>cases ry; exact PySem.EqNone.eq_int_none (cG I q (by simp))
  | int j=>obtain ⟨t',rfl⟩:=ry; exact eq_int (cG I q F1)
  | str j=>obtain ⟨t',rfl⟩:=ry; exact PySem.EqMixed.eq_int_str (cG I q (by simp))
  | _=>exact absurd (show false=true from hs) bp9
 | str i=>
  obtain ⟨t,rfl⟩:=rx
  cases y with
  | non=>cases ry; exact PySem.EqNone.eq_str_none (cG I q (by simp))
  | bl j=>cases ry; exact PySem.EqMixed.eq_str_bool (cG I q (by simp))
  | int j=>obtain ⟨t',rfl⟩:=ry; exact PySem.EqMixed.eq_str_int (cG I q (by simp))
  | str j=>obtain ⟨t',rfl⟩:=ry; exact eq_str (cG I q F4)
  | _=>exact absurd (show false=true from hs) bp9
 | byt i=>
  obtain ⟨t,rfl⟩:=rx
  cases y with
  | byt j=>obtain ⟨t',rfl⟩:=ry; exact PySem.W.eq_bytes (cG I q F5)
  | _=>exact absurd (show false=true from hs) bp9
 | _=>cases y <;> exact absurd (show false=true from hs) bp9
theorem F7:cF X (compareOp .NotEq) vA:=by
 intro pins s σ H x y v u Q I rx ry h
 obtain ⟨hs,q⟩:=h
 cases x with
 | non=>
  cases rx
  cases y with
  | non=>cases ry; exact PySem.EqNone.ne_none_none (cG I q (by simp))
  | bl j=>cases ry; exact PySem.EqNone.ne_none_bool (cG I q (by simp))
  | int j=>obtain ⟨t',rfl⟩:=ry; exact PySem.EqNone.ne_none_int (cG I q (by simp))
  | str j=>obtain ⟨t',rfl⟩:=ry; exact PySem.EqNone.ne_none_str (cG I q (by simp))
  | _=>exact absurd (show false=true from hs) bp9
 | bl i=>
  cases rx
  cases y with
  | non=>cases ry; exact PySem.EqNone.ne_bool_none (cG I q (by simp))
  | bl j=>cases ry; exact ne_bool (cG I q (congrArg not F3))
  | str j=>obtain ⟨t',rfl⟩:=ry; exact PySem.EqMixed.ne_bool_str (cG I q (by simp))
  | _=>exact absurd (show false=true from hs) bp9
 | int i=>
  obtain ⟨t,rfl⟩:=rx
  cases y with
  | non=>cases ry; exact PySem.EqNone.ne_int_none (cG I q (by simp))
  | int j=>obtain ⟨t',rfl⟩:=ry; exact ne_int (cG I q (congrArg not F1))
  | str j=>obtain ⟨t',rfl⟩:=ry; exact PySem.EqMixed.ne_int_str (cG I q (by simp))
  | _=>exact absurd (show false=true from hs) bp9
 | str i=>
  obtain ⟨t,rfl⟩:=rx
  cases y with
  | non=>cases ry; exact PySem.EqNone.ne_str_none (cG I q (by simp))
  | bl j=>cases ry; exact PySem.EqMixed.ne_str_bool (cG I q (by simp))
  | int j=>obtain ⟨t',rfl⟩:=ry; exact PySem.EqMixed.ne_str_int (cG I q (by simp))
  | str j=>obtain ⟨t',rfl⟩:=ry; exact ne_str (cG I q (congrArg not F4))
  | _=>exact absurd (show false=true from hs) bp9
 | byt i=>
  obtain ⟨t,rfl⟩:=rx
  cases y with
  | byt j=>obtain ⟨t',rfl⟩:=ry; exact PySem.W.ne_bytes (cG I q (congrArg not F5))
  | _=>exact absurd (show false=true from hs) bp9
 | _=>cases y <;> exact absurd (show false=true from hs) bp9
theorem rL:cF X (compareOp .Lt) (jA fun i j=>.bl (decide (i < j))):=rK fun _ _ _ _ _ _ _ q=>lt_int q
theorem at5:cF X (compareOp .LtE) (jA fun i j=>.bl (decide (i<=j))):=rK fun _ _ _ _ _ _ _ q=>le_int q
theorem at6:cF X (compareOp .Gt) (jA fun i j=>.bl (decide (j < i))):=rK fun _ _ _ _ _ _ _ q=>gt_int q
theorem F8:cF X (compareOp .GtE) (jA fun i j=>.bl (decide (j<=i))):=rK fun _ _ _ _ _ _ _ q=>ge_int q
theorem at7:cF X (compareOp .IsNot) (fun x y H Q=>y = .non/\Q (.bl (!decide (x = .non))) H):=by
 intro pins s σ H x y v u Q I rx ry h
 obtain ⟨rfl,q⟩:=h
 cases ry
 refine isnot_none_gen (cG I q ?_)
 cases x <;> first
  | (cases rx; rfl)
  | (obtain ⟨t,rfl⟩:=rx; rfl)
theorem gL (b:Expr) {op:CmpOp} (h:op ≠ .In:=by decide) (h2:op ≠ .NotIn:=by decide):behindInMarks op b=false:=by
 have e1:(op == CmpOp.In)=false:=by cases op <;> first | rfl | exact absurd rfl h
 have e2:(op == CmpOp.NotIn)=false:=by cases op <;> first | rfl | exact absurd rfl h2
 cases b <;> simp [behindInMarks,e1,e2]
theorem vB {op:CmpOp}{r:R2} (ho:cF X (compareOp op) r) (ha:PE X a ta) (hb:PE X b tb) (hm:behindInMarks op b=false):PE X (.Compare a [op] [b] pos) (oZ r ta tb):=by
 intro pins s σ H Q I h
 exact wpAny_Compare1 (v4 ha hb I h fun v u s2 x y H2 I2 rx ry q=>ho pins s2 σ H2 x y v u Q I2 rx ry q) hm
noncomputable def at8 (t:TE):TT:=fun σ H Q=>t σ H fun x H'=>∃ k,x = .bl k/\Q k H'
theorem at9 {op:CmpOp}{r:R2} (ho:cF X (compareOp op) r) (ha:PE X a ta) (hb:PE X b tb) (hm:behindInMarks op b=false):PT X (.Compare a [op] [b] pos) (at8 (oZ r ta tb)):=by
 intro pins s σ H Q I h
 refine wpAny_isTrue_Compare1 (aQ (ha pins s σ H _ I h) fun v s1 ⟨x,H1,I1,r1,q1⟩=>aQ (hb pins s1 σ H1 _ I1 q1) fun u s2 ⟨y,H2,I2,r2,q2⟩=>
  aQ (ho pins s2 σ H2 x y v u _ I2 r1 r2 q2) fun c s3 ⟨z,H3,I3,r3,k,e,q3⟩=>?_) hm
 subst e
 cases r3
 exact bA8 ⟨H3,I3,q3⟩
noncomputable def vC (K:PySem.W.Frag) (x:V) (H:Hp) (k:Bool):Prop:=
 match x with
 | .non=>k=false
 | .bl b=>k=b
 | .int i=>k=(i != 0)
 | .str y=>y.length<=sizeLine/\k=((y.length:Int) != 0)
 | .byt y=>y.size<=sizeLine/\k=((y.size:Int) != 0)
 | .ref p=>(∃ xs,aN K H p xs/\k = !xs.isEmpty) ∨ (∃ xs,aM K H p xs/\k = !xs.isEmpty) ∨ ∃ kvs,H p=some (.dK kvs)/\k = !kvs.isEmpty
 | _=>False
theorem au0 {κ:Type}{kvs:List (κ × V)}{vs:List (κ × Value)} (r:KV kvs vs):(!vs.isEmpty) = !kvs.isEmpty:=by
 cases r <;> rfl
theorem F9 {xs:List V}{its:List Value} (r:aR xs its):(!its.toArray.isEmpty) = !xs.isEmpty:=by
 cases r <;> simp
theorem nF:(sizeLine:Nat) < 2 ^ 63:=by rw [sizeLine_eq]; decide
theorem au1:as0 X (fun x H Q=>∃ k,vC X.K x H k/\Q k H):=by
 intro pins s σ H x v Q I rx h
 obtain ⟨k,e,q⟩:=h
 have hl:=nF
 have hs:sizeLine=16777216:=sizeLine_eq
 cases x with
 | non=>
  cases rx
  have e':k=false:=e
  subst e'
  exact truthy_none ⟨H,I,q⟩
 | bl b=>
  cases rx
  have e':k=b:=e
  subst e'
  exact bA8 ⟨H,I,q⟩
 | int i=>
  obtain ⟨t,rfl⟩:=rx
  have e':k=(i != 0):=e
  subst e'
  exact PySem.P.truthy_int ⟨H,I,q⟩
 | str y=>
  obtain ⟨t,rfl⟩:=rx
  obtain ⟨hy,e'⟩:y.length<=sizeLine/\k=((y.length:Int) != 0):=e
  subst e'
  exact PySem.P.truthy_str (by omega) ⟨H,I.tok _,q⟩
 | byt y=>
  obtain ⟨t,rfl⟩:=rx
  obtain ⟨hy,e'⟩:y.size<=sizeLine/\k=((y.size:Int) != 0):=e
  subst e'
  exact PySem.W.truthy_bytes (by omega) ⟨H,I.tok _,q⟩
 | ref p=>
  cases rx
  have e':(∃ xs,aN X.K H p xs/\k = !xs.isEmpty) ∨ (∃ xs,aM X.K H p xs/\k = !xs.isEmpty) ∨ ∃ kvs,H p=some (.dK kvs)/\k = !kvs.isEmpty:=e
  rcases e' with ⟨xs,hx,e'⟩ | ⟨xs,hx,e'⟩ | ⟨kvs,hx,e'⟩
  ·subst e'
   obtain ⟨its,r,pl,hz⟩:=I.list hx
   have hlen:=r.length
   exact wpAny_truthy_list pl.isList (by simp only [bn5]; omega) ⟨H,I.tok _,by rw [F9 r]; exact q⟩
  ·subst e'
   obtain ⟨its,r,pl,hz⟩:=I.tuple hx
   have hlen:=r.length
   exact truthy_tuple pl (by simp only [bn5]; omega) ⟨H,I.tok _,by rw [F9 r]; exact q⟩
  ·subst e'
   obtain ⟨hz,hS,vs,r,m⟩:kvs.length<=sizeLine/\(p == sysModules)=false/\∃ vs,KV kvs vs/\s.heap.DictOf (eN X.prog X.w) p vs:=I.hok p _ hx
   have hlen:kvs.length=vs.length:=Paired.length r
   exact wpAny_truthy_dict hS m (by omega) ⟨H,I.tok _,by rw [au0 r]; exact q⟩
 | _=>exact (show False from e).elim
theorem au2 (ha:PE X a ta) (he:∀ whole,isTrue a X.env whole=(do let v <- whole; standAt a.pos; holding [v] (truthy v))) :
  PT X a (fun σ H Q=>ta σ H fun x H'=>∃ k,vC X.K x H' k/\Q k H'):=by
 intro pins s σ H Q I h
 exact isTrue_plain (aQ (ha pins s σ H _ I h) fun v s1 ⟨x,H1,I1,r1,q1⟩=>au1 pins s1 σ H1 x v Q I1 r1 q1) (he _)
theorem jV {x:V}{us:List Value} (r:aR [x] us):∃ u,us = [u]/\b5 x u:=by
 cases r with
 | cons r1 r2=>cases r2; exact⟨_,rfl,r1⟩
theorem p9 {x y:V}{us:List Value} (r:aR [x,y] us):∃ u w',us = [u,w']/\b5 x u/\b5 y w':=by
 cases r with
 | cons r1 r2=>
  cases r2 with
  | cons r3 r4=>cases r4; exact⟨_,_,rfl,r1,r3⟩
theorem au3 (hc:X.calm=true):dN X (.builtin "max") (fun xs H Q=>∃ i j,xs = [.int i,.int j]/\Q (.int (if j > i then j else i)) H):=by
 intro pins s σ H xs us Q I r h
 obtain ⟨i,j,rfl,q⟩:=h
 obtain ⟨u,w',rfl,⟨t,rfl⟩,⟨t',rfl⟩⟩:=p9 r
 refine max_two_ints (I.ok.hd hc) fun h' tk k=>⟨_,H,I.kept k,?_,q⟩
 by_cases hj:j > i
 ·rw [if_pos hj,if_pos hj]; exact⟨_,rfl⟩
 ·rw [if_neg hj,if_neg hj]; exact⟨_,rfl⟩
theorem au4 (hc:X.calm=true):dN X (.builtin "min") (fun xs H Q=>∃ i j,xs = [.int i,.int j]/\Q (.int (if j < i then j else i)) H):=by
 intro pins s σ H xs us Q I r h
 obtain ⟨i,j,rfl,q⟩:=h
 obtain ⟨u,w',rfl,⟨t,rfl⟩,⟨t',rfl⟩⟩:=p9 r
 refine min_two_ints (I.ok.hd hc) fun h' tk k=>⟨_,H,I.kept k,?_,q⟩
 by_cases hj:j < i
 ·rw [if_pos hj,if_pos hj]; exact⟨_,rfl⟩
 ·rw [if_neg hj,if_neg hj]; exact⟨_,rfl⟩
end
structure vD (h:Heap) (x dx C:Addr) (mA:Str->Option Value):Prop where
 obj:h.get? x=some (PySem.W.instObj C dx)
 ns:h.Ns1 dx mA
 ne:dx ≠ x
theorem au5 {h:Heap}{dx:Addr}{mA:Str->Option Value} (n:h.Ns1 dx mA):∃ od,h.get? dx=some od/\∀ name,PySem.W.lookIn name od=some (mA name):=by
 obtain ⟨o,es,ep,ho,hd,hk,_,hm⟩:=n
 refine⟨o,ho,fun name=>?_⟩
 have e:=hm name
 unfold nsFind findBy at e
 rw [<- Array.find?_toList] at e
 unfold PySem.W.lookIn
 rw [hd]
 dsimp only
 split
 ·rename_i y q
  rw [q] at e
  exact congrArg some e
 ·rename_i q
  rw [q] at e
  have a:es.toList.any (·.refKey)=false:=by
   rw [List.any_eq_false]
   intro y hy
   obtain ⟨z,t,hkey⟩:=hk y (Array.mem_toList_iff.mp hy)
   simp [DictEntry.refKey,hkey]
  have a' : ¬ es.toList.any (·.refKey)=true:=by rw [a]; exact bp9
  rw [if_neg a']
  exact congrArg some e
theorem vD.look {h:Heap}{x dx C:Addr}{mA:Str->Option Value} (I:vD h x dx C mA):∃ od,PySem.W.InstAt h x (PySem.W.instObj C dx) C (some od)/\∀ name,PySem.W.lookIn name od=some (mA name):=
 let ⟨od,ho,hl⟩:=au5 I.ns
 ⟨od,⟨I.obj,rfl,rfl,ho⟩,hl⟩
section
variable {P : Program} {w : World} {H H' : Hp} {h h' : Heap} {a C dx : Addr} {fs fs' : List (Str × V)}
theorem au6 (hok:cE P w H h) (e:H a=some (.ins C dx fs)):∃ mA,vD h a dx C mA/\(∀ f,kF (fs.lookup f) (mA f))/\PySem.Within mA (fs.map (·.1))/\fs.length<=1000/\H dx=some (.own a):=by
 obtain ⟨d,z,ne,ob,mA,n,r,q⟩:=(show cD P w H h a (.ins C dx fs) from hok a _ e)
 exact⟨mA,⟨ob,n,ne⟩,r,q,z,d⟩
end
structure vE (K:PySem.W.Frag) (C:Addr):Prop where
 pg:PySem.W.plainGet K C Str.empty=true
 hd:PySem.W.hasDictIn K C=true
 po:PySem.W.plainOver K C=true
 sa:PySem.W.findIn K (.ref C) "__setattr__" = some (some (.builtin "object.__setattr__"))
theorem vE.get {K:PySem.W.Frag}{C:Addr} (c:vE K C) (f:Str):PySem.W.plainGet K C f=true:=c.pg
section
variable {X : Cx} {pins : List (Addr × Obj)} {σ : St} {H : Hp} {s : Shared} {A : Around} {E : Value → Shared → Prop} {Q : Value → Shared → Prop} {c : Value} {b : Bool}
inductive gX (K:PySem.W.Frag) (H:Hp):V->Value->Prop where
 | non:gX K H .non (.type "NoneType")
 | bl (x:Bool):gX K H (.bl x) (.type "bool")
 | int (i:Int):gX K H (.int i) (.type "int")
 | str (x:Str):gX K H (.str x) (.type "str")
 | flt (x:UInt64):gX K H (.flt x) (.type "float")
 | lst {a:Addr}{xs:List V} (e:H a=some (.lst xs)):gX K H (.ref a) (.type "list")
 | frz {a:Addr}{o:Obj}{xs:List V} (e:H a=some (.frz o (.lst xs))):gX K H (.ref a) (.type "list")
 | tup {a:Addr}{xs:List V} (e:H a=some (.tup xs)):gX K H (.ref a) (.type "tuple")
 | dK {a:Addr}{kvs:List (aE × V)} (e:H a=some (.dK kvs)):gX K H (.ref a) (.type "dict")
 | dT {a:Addr}{kvs:List (List aE × V)} (e:H a=some (.dT kvs)):gX K H (.ref a) (.type "dict")
 | ins {a C dx:Addr}{fs:List (Str × V)} (e:H a=some (.ins C dx fs)) (cl:vE K C) (ha:PySem.W.findIn K (.ref C) "__class__" = some (some (.builtin "object.__class__")))
   (hn:PySem.W.specialIn K (.builtin "object.__class__") "__get__" = some (some (.builtin "getset_descriptor.__get__"))) (htk:PySem.W.takesIn K (.builtin "object.__class__")=some true)
   (hm:PySem.W.mroIn K C (.type "object")=some true):gX K H (.ref a) (.ref C)
theorem au7 {x:V}{u t:Value} (I:a8 X pins σ H s) (rx:b5 x u) (ty:gX X.K H x t) (e:PySem.W.kitOne X.K t c=some b) (h:∀ tk,Q (.bool b) { s with toks:=tk }) :
  wpAny (model X.prog X.w) A (call (.builtin "isinstance") [u,c]) Q E s:=by
 cases ty with
 | non=>cases (show u=Value.none from rx); exact bu7 PySem.W.kitx_none I.kIn bC3 e (fun z=>nomatch z) h
 | bl y=>cases (show u=Value.bool y from rx); exact bu7 PySem.W.kitx_bool I.kIn bC3 e (fun z=>nomatch z) h
 | int i=>obtain ⟨t,q⟩:=(show ∃ t,u=Value.int i t from rx); cases q; exact bu7 PySem.W.kitx_int I.kIn bC3 e (fun z=>nomatch z) h
 | str y=>obtain ⟨t,q⟩:=(show ∃ t,u=Value.str y t from rx); cases q; exact bu7 PySem.W.kitx_str I.kIn bC3 e (fun z=>nomatch z) h
 | flt y=>obtain ⟨t,q⟩:=(show ∃ t,u=Value.float y t from rx); cases q; exact bu7 PySem.W.kitx_float I.kIn bC3 e (fun z=>nomatch z) h
 | @lst a xs ea=>
  cases (show u=Value.ref a from rx)
  obtain ⟨_,_,n,_,h1⟩:=(show cD X.prog X.w H s.heap a (.lst xs) from I.hok a _ ea)
  exact bu7 PySem.W.kitx_list I.kIn ⟨_,h1,rfl⟩ e (fun z=>nomatch z) h
 | @frz a ob xs ea=>
  cases (show u=Value.ref a from rx)
  obtain ⟨_,_,_,n,_,h1⟩:=(show cD X.prog X.w H s.heap a (.frz ob (.lst xs)) from I.hok a _ ea)
  exact bu7 PySem.W.kitx_list I.kIn ⟨_,h1,rfl⟩ e (fun z=>nomatch z) h
 | @tup a xs ea=>
  cases (show u=Value.ref a from rx)
  obtain ⟨_,_,_,p,_⟩:=(show cD X.prog X.w H s.heap a (.tup xs) from I.hok a _ ea)
  obtain ⟨o,h1,h2,_⟩:=p
  exact bu7 PySem.W.kitx_tuple I.kIn ⟨o,h1,h2⟩ e (fun z=>nomatch z) h
 | @dK a kvs ea=>
  cases (show u=Value.ref a from rx)
  obtain ⟨_,_,vs,_,p⟩:=(show cD X.prog X.w H s.heap a (.dK kvs) from I.hok a _ ea)
  obtain ⟨o,es,ep,h1,h2,_⟩:=p
  exact bu7 PySem.W.kitx_dict I.kIn ⟨o,h1,h2.1⟩ e (fun z=>nomatch z) h
 | @dT a kvs ea=>
  cases (show u=Value.ref a from rx)
  obtain ⟨_,_,xs,_,o,es,ep,h1,h2,_⟩:=(show cD X.prog X.w H s.heap a (.dT kvs) from I.hok a _ ea)
  exact bu7 PySem.W.kitx_dict I.kIn ⟨o,h1,h2.1⟩ e (fun z=>nomatch z) h
 | @ins a C dx fs ea cl ha hn htk hm=>
  cases (show u=Value.ref a from rx)
  obtain ⟨mA,O,_⟩:=au6 I.hok ea
  obtain ⟨od,J,_⟩:=O.look
  exact bu7 (PySem.W.kitx_own (cl.get _) cl.hd ha hn htk hm) I.kIn J e (fun z=>nomatch z) h
end
structure cL (k:Nat) (A:Around):Prop where
 hd:A.handled=none
 dp:A.depth+3 * k+5 < recursionLimit
 un:A.units+16 * k+200 < cLine
theorem cL.mono {j k:Nat}{A:Around} (r:cL k A) (h:j<=k):cL j A:=⟨r.hd,by have:=r.dp; omega,by have:=r.un; omega⟩
theorem cL.deeper {k:Nat}{A:Around} (r:cL (k+1) A) (env:Env):cL k (A.deeper env):=
 ⟨r.hd,by have:=r.dp; show A.depth+1+3 * k+5 < _; omega,by have:=r.un; show A.units+3+16 * k+200 < _; omega⟩
theorem cL.depth {k:Nat}{A:Around} (r:cL k A):A.depth < recursionLimit:=by have:=r.dp; omega
theorem cL.units {k:Nat}{A:Around} (r:cL k A):A.units+64 < cLine:=by have:=r.un; omega
noncomputable def kI:TA:=fun _ H Q=>Q [] H
noncomputable def jB (ta:TE) (tr:TA):TA:=fun σ H Q=>ta σ H fun x H1=>tr σ H1 fun xs H2=>Q (x :: xs) H2
section
variable {X : Cx} {e : Expr} {es : List Expr} {te : TE} {t : TA} {pos : Pos}
theorem dP:PA X [] kI:=fun _ _ _ _ H Q I h=>Calls.spliced_nil ⟨[],H,I,.nil,h⟩
theorem cW (ha:PE X e te) (hr:PA X es t) (hs:starEach (e :: es) X.env=(false,eval e X.env) :: starEach es X.env:=by rfl):PA X (e :: es) (jB te t):=by
 intro pos pins s σ H Q I h
 rw [hs]
 show wpAny _ _ (spliced ((false,eval e X.env) :: backTo pos (starEach es X.env))) _ _ s
 refine Calls.spliced_cons (aQ (ha pins s σ H _ I h) fun u s1 ⟨x,H1,I1,r1,q1⟩=>?_)
 exact aQ (hr pos pins s1 σ H1 _ I1 q1) fun us s2 ⟨xs,H2,I2,r2,q2⟩=>⟨x :: xs,H2,I2,.cons r1 r2,q2⟩
noncomputable def G0 (t:TA):TE:=fun σ H Q=>t σ H fun xs H1=>xs.length<=sizeLine/\∀ p,H1 p=none->Q (.ref p) (upd H1 p (.tup xs))
noncomputable def G1 (t:TA):TE:=fun σ H Q=>t σ H fun xs H1=>xs.length<=sizeLine/\∀ p,H1 p=none->Q (.ref p) (upd H1 p (.lst xs))
theorem au8 {x1} (h:PA X es t):PE X (.Tuple es x1 pos) (G0 t):=by
 intro pins s σ H Q I hq
 refine wpAny_Tuple_spliced (aQ (h pos pins s σ H _ I hq) fun us s1 ⟨xs,H1,I1,r,z,q⟩=>⟨by rw [<- r.length]; exact z,?_⟩)
 have hf:H1 s1.heap.objs.size=none:=I1.hok.fresh (bo7 _)
 refine⟨.ref s1.heap.objs.size,upd H1 s1.heap.objs.size (.tup xs),I1.laid (t':=s1.toks) (fun b u e=>bn6 _ e) (bo7 _) ?_,rfl,q _ hf⟩
 exact⟨z,us,r,⟨_,bp7 _ rfl,rfl,_,rfl⟩,jS.new _ _ rfl⟩
theorem vF (h:PA X es t):PE X (.List es pos) (G1 t):=by
 intro pins s σ H Q I hq
 refine wpAny_List_spliced (aQ (h pos pins s σ H _ I hq) fun us s1 ⟨xs,H1,I1,r,z,q⟩=>⟨by rw [<- r.length]; exact z,?_⟩)
 have hf:H1 s1.heap.objs.size=none:=I1.hok.fresh (bo7 _)
 refine⟨.ref s1.heap.objs.size,upd H1 s1.heap.objs.size (.lst xs),I1.laid (t':=s1.toks) (fun b u e=>bn6 _ e) (bo7 _) ?_,rfl,q _ hf⟩
 exact⟨z,us,0,r,bp7 _ rfl⟩
end
noncomputable abbrev Sp:=List V->Hp->VK->XK->Prop
noncomputable abbrev iR:=List Env->Hp->Shared->XK->Value->Shared->Prop
structure rM (P:Program) (w:World) (K:PySem.W.Frag) (mg:Str->Option Value) (base:Heap) (A:Around) (outer:List Env) (s:Shared) (H:Hp):Prop where
 frames:A.frames=some outer
 mod:Mod K mg base
 bs:∀ b o,base.get? b=some o->s.heap.get? b=some o/\H b=none
 bsz:base.objs.size<=s.heap.objs.size
 funs:s.heap.FunFrames base outer
 frf:∀ b ∈ c9 outer,H b=none
 hok:cE P w H s.heap
 bare:AllBare s.gens
noncomputable def CE (outer:List Env) (P:Program) (w:World) (H:Hp) (s:Shared) (Q:VK) (u:Value) (s':Shared):Prop:=
 ∃ v H',s'.os=s.os/\AllBare s'.gens/\Un (c9 outer) [] H H' s.heap s'.heap/\cE P w H' s'.heap/\b5 v u/\Q v H'
noncomputable def CR (CX:iR) (outer:List Env) (P:Program) (w:World) (H:Hp) (s:Shared) (Q:VK) (E:XK) (r:Result) (s':Shared):Prop:=
 match r with
 | .ok (.ret u)=>CE outer P w H s Q u s'
 | .ok _=>False
 | .error e=>CX outer H s E e s'
structure dD (P:Program) (w:World) (K:PySem.W.Frag) (mg:Str->Option Value) (base:Heap) (CX:iR) (k:Nat) (f:Addr) (fd:FuncData) (ps:List Str) (sp:Sp):Prop where
 len:∀ vs H Q E,sp vs H Q E->vs.length=ps.length
 run:∀ (A:Around) (outer:List Env) (s:Shared) (H:Hp) (args:Args) (us:List Value) (vs:List V) (Q:VK) (E:XK),cL k A->rM P w K mg base A outer s H->BindsTo s fd args (ps.zip us)->aR vs us->sp vs H Q E->
  codeAny (model P w) A (.call (.ref f) args) (CR CX outer P w H s Q E) s
theorem dD.imp {P:Program}{w:World}{K:PySem.W.Frag}{mg:Str->Option Value}{base:Heap}{CX:iR}{k:Nat}{f:Addr}{fd:FuncData}{ps:List Str}{sp sp':Sp} (F:dD P w K mg base CX k f fd ps sp)
  (h:∀ vs H Q E,sp' vs H Q E->sp vs H Q E):dD P w K mg base CX k f fd ps sp':=
 ⟨fun vs H Q E q=>F.len vs H Q E (h _ _ _ _ q),fun A outer s H args us vs Q E hr he hb hv hs=>F.run A outer s H args us vs Q E hr he hb hv (h _ _ _ _ hs)⟩
section
variable {X : Cx} {pins : List (Addr × Obj)} {σ : St} {H : Hp} {s s' : Shared}
theorem a8.env0 (I:a8 X pins σ H s):rM X.prog X.w X.K X.mg X.base X.A X.stack s H:=
 ⟨I.ok.frames,I.ok.mod,I.bs,bs2 I.ok.bsz I.sz,I.stack,I.stkFree,I.hok,I.bare⟩
theorem a8.after {Q:VK}{u:Value} (I:a8 X pins σ H s) (h:CE X.stack X.prog X.w H s Q u s'):EP X pins σ Q u s':=by
 obtain ⟨v,H',os,bare,un,hok,r,q⟩:=h
 obtain ⟨hh,g,d,t,os'⟩:=s'
 obtain rfl:os'=s.os:=os
 exact⟨v,H',I.call (h':=hh) (g':=g) (d':=d) (t':=t) (ch:=[]) un hok bare (fun b z=>absurd z (by simp)),r,q⟩
end
noncomputable def vG (sp:Sp) (dvs:List V) (E:XK) (t:TA):TE:=fun σ H Q=>t σ H fun vs H1=>sp (vs ++ dvs) H1 Q E
noncomputable def jC (K:PySem.W.Frag) (fd:FuncData) (ps:List Str) (ds:List Value):Prop:=
 ∀ (s:Shared) (us:List Value),K.In s.heap->(us ++ ds).length=ps.length->BindsTo s fd ⟨us,[]⟩ (ps.zip (us ++ ds))
theorem jC.all {K:PySem.W.Frag}{fd:FuncData}{ps:List Str} (h:∀ us:List Value,us.length=ps.length->bindArgs fd ⟨us,[]⟩=pure (ps.zip us)):jC K fd ps []:=fun s us _ hl=>by
 rw [br6] at hl ⊢
 exact .of_eq (h us hl)
noncomputable def pA (CX:iR) (X:Cx) (E:XK):Prop:=∀ (pins:List (Addr × Obj)) (σ:St) (H:Hp) (s:Shared) (e:Value) (s':Shared),a8 X pins σ H s->CX X.stack H s E e s'->X.xe e s'
section
variable {X : Cx} {CX : iR} {k : Nat} {f C : Addr} {fd : FuncData} {ps : List Str} {sp : Sp} {dvs : List V} {ds : List Value} {E : XK} {x m : Str} {p pos apos : Pos} {e o : Expr} {es : List Expr} {ta : TE} {t : TA}
theorem au9 {pins:List (Addr × Obj)}{σ:St}{H:Hp}{s:Shared}{Q:VK}{us:List Value}{vs:List V} (F:dD X.prog X.w X.K X.mg X.base CX k f fd ps sp) (hr:cL k X.A) (hb:jC X.K fd ps ds) (hd:aR dvs ds) (hx:pA CX X E)
  (I:a8 X pins σ H s) (r:aR vs us) (h:sp (vs ++ dvs) H Q E):wpAny (model X.prog X.w) X.A (call (.ref f) us) (EP X pins σ Q) X.xe s:=by
 have r2:aR (vs ++ dvs) (us ++ ds):=r.append hd
 have hl:(us ++ ds).length=ps.length:=by rw [<- r2.length]; exact F.len _ _ _ _ h
 refine wpAny_call (codeAny_mono (F.run X.A X.stack s H ⟨us,[]⟩ (us ++ ds) (vs ++ dvs) Q E hr I.env0 (hb s us I.kIn hl) r2 h) fun r s' hq=>?_)
 cases r with
 | error e=>exact hx pins σ H s e s' I hq
 | ok fl=>
  cases fl with
  | ret u=>exact I.after hq
  | next=>exact False.elim hq
  | brk=>exact False.elim hq
  | cont=>exact False.elim hq
theorem vH (F:dD X.prog X.w X.K X.mg X.base CX k f fd ps sp) (hr:cL k X.A) (hg:Gl X x) (hm:X.mg x=some (.ref f)) (hk:PySem.W.keepIn X.K (.ref f)=true) (hb:jC X.K fd ps ds) (hd:aR dvs ds) (hx:pA CX X E)
  (ha:PA X (e :: es) t) (hdb:(x == ("__debug__" : Str))=false:=by decide) (he:starEach (e :: es) X.env=(false,eval e X.env) :: starEach es X.env:=by rfl) (hpl:(backTo pos (starEach es X.env)).any (·.1)=false:=by rfl) :
  PE X (.Call (.Name x p) (e :: es) [] pos) (vG sp dvs E t):=by
 intro pins s σ H Q I h
 refine wpAny_Call_Name_kw (oV I hg hm ?_ hdb)
 refine PySem.W.callWith_K (h₀:=X.base) I.ok.mod.kin hk (aQ (ha pos pins s σ H _ I h) fun us s1 ⟨vs,H1,I1,r,q⟩=>⟨I1.kIn,?_⟩) he hpl
 exact au9 F hr hb hd hx I1 r q
end
noncomputable def PK (X:Cx) (kws:List Keyword) (t:TA):Prop:=
 ∀ (pos:Pos) (pins:List (Addr × Obj)) (s:Shared) (σ:St) (H:Hp) (Q:List V->Hp->Prop),a8 X pins σ H s->t σ H Q->wpAny (model X.prog X.w) X.A (evalAll ((backToKw pos (keywordEach kws X.env)).map (·.2))) (AP X pins σ Q) X.xe s
structure FnScope (N P:List Str) (sc:Scope):Prop where
 kind:sc.kind = .function
 co:sc.isCoroutine=false
 gen:sc.isGenerator=false
 nd:N.Nodup
 pre:N.take P.length=P
 par:∀ x ∈ P,sc.names.lookup x=some .local ∨ sc.names.lookup x=some .cell
 nofree:∀ y ∈ sc.names,y.2 ≠ .free
theorem G2 {kindOf:Str->Option NameKind}{x:Str}:∀ {binds:List (Str × Value)}{m:Str->Option Value},(∀ v,(x,v) ∉ binds)->bindL kindOf binds m x=m x
 | [],_,_=>rfl
 | (n,v) :: r,m,h=>by
  unfold bindL
  rw [G2 fun w hw=>h w (bo5 _ hw)]
  split
  ·have:x ≠ n:=by rintro rfl; exact h v bo4
   simp [this]
  ·rfl
theorem G3 {kindOf:Str->Option NameKind}{x:Str}:∀ {binds:List (Str × Value)}{m:Str->Option Value},(∀ v,(x,v) ∉ binds)->bindC kindOf binds m x=m x
 | [],_,_=>rfl
 | (n,v) :: r,m,h=>by
  unfold bindC
  rw [G3 fun w hw=>h w (bo5 _ hw)]
  split
  ·rfl
  ·have:x ≠ n:=by rintro rfl; exact h v bo4
   simp [this]
theorem G4 {kindOf:Str->Option NameKind}{x:Str}{v:Value}:∀ {P:List Str}{vs:List Value}{i:Nat}{m:Str->Option Value},P.Nodup->P[i]? = some x->vs[i]? = some v->kindOf x=some .local->
  bindL kindOf (P.zip vs) m x=some v
 | [],_,_,_,_,h,_,_=>by simp at h
 | _ :: _,[],_,_,_,_,h,_=>by simp at h
 | p :: P,w :: vs,0,m,nd,h1,h2,hk=>by
  simp at h1 h2; subst h1; subst h2
  show bindL kindOf ((p,w) :: P.zip vs) m p=_
  unfold bindL
  rw [G2 fun v hv=>(bu0.mp nd).1 (List.of_mem_zip hv).1,if_pos hk]
  simp
 | p :: P,w :: vs,i+1,m,nd,h1,h2,hk=>by
  show bindL kindOf ((p,w) :: P.zip vs) m x=_
  unfold bindL
  exact G4 (i:=i) (bu0.mp nd).2 (by simpa using h1) (by simpa using h2) hk
theorem G5 {kindOf:Str->Option NameKind}{x:Str}{v:Value}:∀ {P:List Str}{vs:List Value}{i:Nat}{m:Str->Option Value},P.Nodup->P[i]? = some x->vs[i]? = some v->kindOf x ≠ some .local->
  bindC kindOf (P.zip vs) m x=some v
 | [],_,_,_,_,h,_,_=>by simp at h
 | _ :: _,[],_,_,_,_,h,_=>by simp at h
 | p :: P,w :: vs,0,m,nd,h1,h2,hk=>by
  simp at h1 h2; subst h1; subst h2
  show bindC kindOf ((p,w) :: P.zip vs) m p=_
  unfold bindC
  rw [G3 fun v hv=>(bu0.mp nd).1 (List.of_mem_zip hv).1,if_neg hk]
  simp
 | p :: P,w :: vs,i+1,m,nd,h1,h2,hk=>by
  show bindC kindOf ((p,w) :: P.zip vs) m x=_
  unfold bindC
  exact G5 (i:=i) (bu0.mp nd).2 (by simpa using h1) (by simpa using h2) hk
noncomputable def start (N:List Str) (vs:List V):St:=vs.map some ++ List.replicate (N.length - vs.length) none
noncomputable def e8 (CX:iR) (P:Program) (w:World) (K:PySem.W.Frag) (mg:Str->Option Value) (base:Heap) (N:List Str) (qual:Str) (scope:Scope) (f:Addr) (cd:Value) (A:Around) (outer:List Env) (s:Shared) (H:Hp) (E:XK):Cx where
 prog:=P
 w:=w
 K:=K
 mg:=mg
 base:=base
 A:=A.deeper (envOfC qual scope s.heap.objs.size f cd)
 N:=N
 s₀:=s
 H₀:=H
 env:=envOfC qual scope s.heap.objs.size f cd
 outer:=outer
 stack:=envOfC qual scope s.heap.objs.size f cd :: outer
 ex:=[]
 calm:=true
 fn:=fun _=>true
 pn:=[]
 xe:=fun e s'=>wpAny (model P w) (A.deeper (envOfC qual scope s.heap.objs.size f cd)) (leaving (envOfC qual scope s.heap.objs.size f cd) e) (fun _ s''=>CX outer H s E e s'') (fun e' s''=>CX outer H s E e' s'') s'
theorem G6 {sc:Scope}{n:Nat}{x:Str} (h:sc.names.lookup x=some .cell):∃ c,(cellsFrom n sc.names []).lookup x=some c:=by
 have q:=PySem.W.cellsFrom_some sc.names n [] (.inl h)
 exact Option.isSome_iff_exists.mp q
theorem av0 {CX:iR}{P:Program}{w:World}{K:PySem.W.Frag}{mg:Str->Option Value}{base:Heap}{N ps:List Str}{qual:Str}{scope:Scope}{f:Addr}{cd:Value}{A:Around}{outer:List Env}{s s1:Shared}{H:Hp}{E:XK}{us:List Value}{vs:List V}
  (S:FnScope N ps scope) (hd:A.handled=none) (e0:rM P w K mg base A outer s H) (hl:vs.length=ps.length) (r:aR vs us)
  (x:InCallC s s.heap.objs.size (bindL (envOfC qual scope s.heap.objs.size f cd).kindOf (ps.zip us) fun _=>none) (cellsFrom (s.heap.objs.size+1) scope.names []) (bindC (envOfC qual scope s.heap.objs.size f cd).kindOf (ps.zip us) fun _=>none) s1) :
  a8 (e8 CX P w K mg base N qual scope f cd A outer s H E) [] (start N vs) H s1:=by
 have hpl:ps.length<=N.length:=by have:=congrArg List.length S.pre; rw [bt8] at this; omega
 obtain ⟨h1,tk,rfl,hk⟩:=x.done
 have noA:∀ b:Addr,b ∉ (e8 CX P w K mg base N qual scope f cd A outer s H E).ex:=fun b z=>absurd (show b ∈ ([]:List Addr) from z) (by simp)
 refine⟨⟨e0.mod,S.kind,rfl,rfl,bo7 _,fun y z c h1 h2=>?_,fun y hy=>?_,fun y c _ h=>?_,fun _=>hd,Around.frames_deeper e0.frames,.inr ⟨rfl,rfl⟩,fun b z=>absurd z (noA b),e0.bs,e0.bsz,fun b _ _=>noA b,fun b z=>absurd z (noA b),e0.funs,e0.frf⟩,
  rfl,e0.bare,Un.kept hk,⟨_,x.toInCall.ns,fun i y v h1 h2 h3=>?_⟩,fun y c h=>⟨_,x.cell y c h⟩,e0.hok.fresh (bo7 _),fun y c h=>?_,fun p hp=>absurd (show p ∈ ([]:List (Addr × Obj)) from hp) (by simp),e0.hok.kept hk,?_⟩
 ·exact name_of_addr x.apart (bt4 h1) (bt4 h2)
 ·have hy:scope.names.lookup y=some .cell ∨ scope.names.lookup y=some .free:=hy
  rcases hy with hy | hy
  ·exact G6 hy
  ·exact absurd rfl (S.nofree _ (bt4 hy))
 ·exact bt5 (x.above y c (bt4 h))
 ·have hi:i < vs.length:=by
   unfold start at h2
   by_cases hi:i < vs.length
   ·exact hi
   ·rw [List.getElem?_append_right (by simpa using hi)] at h2
    rw [List.getElem?_replicate] at h2
    split at h2 <;> cases h2
  have ha:vs[i]? = some v:=by
   unfold start at h2
   rw [bv9 (by simpa using hi),bo8] at h2
   cases e:vs[i]? with
   | none=>rw [e] at h2; cases h2
   | some a=>rw [e] at h2; cases h2; rfl
  obtain ⟨u,hu,rv⟩:=r.get ha
  have hp:ps[i]? = some y:=by
   rw [<- S.pre,List.getElem?_take_of_lt (by omega)]; exact h1
  have ndP:ps.Nodup:=by rw [<- S.pre]; exact S.nd.sublist (List.take_sublist _ _)
  refine⟨u,rv,?_⟩
  rcases S.par y (bp0 hp) with k | k
  ·exact .inl ⟨k,G4 ndP hp hu k⟩
  ·obtain ⟨c,e⟩:=G6 (n:=s.heap.objs.size+1) k
   refine .inr ⟨.inl k,c,e,?_⟩
   have q:=x.cell y c e
   rw [G5 ndP hp hu (by show scope.names.lookup y ≠ _; rw [k]; decide)] at q
   exact q
 ·exact e0.hok.fresh (bt5 (x.above y c (bt4 h)))
 ·unfold start
  show _=N.length
  rw [bo0,bn7,bz6]
  omega
theorem G7 {CX:iR}{P:Program}{w:World}{K:PySem.W.Frag}{mg:Str->Option Value}{base:Heap}{k:Nat}{f:Addr}{name qual:Str}{params:Arguments}{body:List Stmt}{scope:Scope}{dV kV doc pm cdv ct oc:Value}{an od:Option Addr}
  {osl:Array (Option Value)}{N ps:List Str}{sp:Sp} (lk:K.lookup f=some ⟨oc,od,.func (PySem.W.fnOf name qual params body scope dV kV doc pm an cdv ct),osl⟩) (hcd:PySem.W.codeIn K cdv qual=true) (S:FnScope N ps scope)
  (len:∀ vs H Q E,sp vs H Q E->vs.length=ps.length)
  (hbody:∀ (A:Around) (outer:List Env) (s:Shared) (H:Hp) (vs:List V) (Q:VK) (E:XK),cL k (A.deeper (envOfC qual scope s.heap.objs.size f cdv))->sp vs H Q E->
   ∃ t,eO (e8 CX P w K mg base N qual scope f cdv A outer s H E) body t/\t { nx:=fun _ H'=>Q .non H',rt:=Q } (start N vs) H) :
  dD P w K mg base CX (k+1) f (PySem.W.fnOf name qual params body scope dV kV doc pm an cdv ct) ps sp:=by
 refine⟨len,fun A outer s H args us vs Q E hr e0 hb r hsp=>?_⟩
 have hl:=len _ _ _ _ hsp
 have KX:K.In s.heap:=e0.mod.kin.keeps fun b o e=>(e0.bs b o e).1
 have lim:s.heap.NoLimit:=e0.mod.nolimit.keeps fun b o e=>(e0.bs b o e).1
 have hkind:∀ y ∈ ps.zip us,scope.names.lookup y.1=some .local ∨ (scope.names.lookup y.1=some .cell/\((cellsFrom (s.heap.objs.size+1) scope.names []).lookup y.1).isSome=true):=fun ⟨n,v⟩ hy=>by
  rcases S.par n (List.of_mem_zip hy).1 with q | q
  ·exact .inl q
  ·exact .inr ⟨q,PySem.W.cellsFrom_some _ _ _ (.inl q)⟩
 refine codeAny_call_function hr.depth (KX _ _ lk) rfl S.co S.gen rfl (PySem.W.codeRec_of KX hcd) (hb _ _ _ _ ?_)
 refine wpAny_newFunctionEnv_cells S.kind hkind fun env he s1 x=>?_
 subst he
 refine⟨lim.keeps x.toInCall.keep,codeAny_func ?_⟩
 obtain ⟨t,ht,hq⟩:=hbody A outer s H vs Q E (hr.deeper _) hsp
 have I:a8 (e8 CX P w K mg base N qual scope f cdv A outer s H E) [] (start N vs) H s1:=av0 S hr.hd e0 hl r x
 refine bw9 (ht [] s1 (start N vs) H _ I hq) (fun fl s' hs=>?_) fun e s' hs=>hs
 have fin:∀ {σ':St}{H':Hp}{v:V}{u:Value},a8 (e8 CX P w K mg base N qual scope f cdv A outer s H E) [] σ' H' s'->b5 v u->Q v H'->CE outer P w H s Q u s':=
  fun {σ' H' v u} J rv q=>⟨v,H',J.os,J.bare,J.base,J.hok,rv,q⟩
 cases fl with
 | ret u=>
  obtain ⟨v,σ',H',J,rv,q⟩:=hs
  exact fin J rv q
 | next=>
  obtain ⟨σ',H',J,q⟩:=hs
  exact fin (v:=V.non) (u:=Value.none) J rfl q
 | brk=>
  obtain ⟨_,_,_,q⟩:=hs
  exact False.elim q
 | cont=>
  obtain ⟨_,_,_,q⟩:=hs
  exact False.elim q
section
variable {X : Cx} {x : Str} {p pos : Pos} {e : Expr} {es : List Expr} {t : TA} {id T : String} {r : List V → Hp → VK → Prop}
noncomputable def vI (r:List V->Hp->VK->Prop) (t:TA):TE:=fun σ H Q=>t σ H fun vs H1=>r vs H1 Q
theorem pB (hc:dN X (.builtin id) r) (hg:Gl X x) (hm:X.mg x=none) (hv:bootBuiltins x=some (.builtin id)) (ha:PA X (e :: es) t) (hn:x ≠ "__name__":=by decide) (hdb:(x == ("__debug__" : Str))=false:=by decide)
  (he:starEach (e :: es) X.env=(false,eval e X.env) :: starEach es X.env:=by rfl) (hpl:(backTo pos (starEach es X.env)).any (·.1)=false:=by rfl):PE X (.Call (.Name x p) (e :: es) [] pos) (vI r t):=by
 intro pins s σ H Q I h
 refine wpAny_Call_Name_kw (jU I hg hm hv ?_ hn hdb)
 exact PyProof.Rows.callWith_builtin1 (aQ (ha pos pins s σ H _ I h) fun us s1 ⟨vs,H1,I1,r1,q1⟩=>hc pins s1 σ H1 vs us Q I1 r1 q1) he hpl
theorem G8 (hc:dN X (.type T) r) (hg:Gl X x) (hm:X.mg x=none) (hv:bootBuiltins x=some (.type T)) (ha:PA X (e :: es) t) (hn:x ≠ "__name__":=by decide) (hdb:(x == ("__debug__" : Str))=false:=by decide)
  (he:starEach (e :: es) X.env=(false,eval e X.env) :: starEach es X.env:=by rfl) (hpl:(backTo pos (starEach es X.env)).any (·.1)=false:=by rfl):PE X (.Call (.Name x p) (e :: es) [] pos) (vI r t):=by
 intro pins s σ H Q I h
 refine wpAny_Call_Name_kw (jU I hg hm hv ?_ hn hdb)
 exact bt6 (aQ (ha pos pins s σ H _ I h) fun us s1 ⟨vs,H1,I1,r1,q1⟩=>hc pins s1 σ H1 vs us Q I1 r1 q1) he hpl
end
end L2
namespace HT
open PySem PyProof.Rows
noncomputable def fX:List Int->List Int->Bool
 | [],[]=>false
 | [],_ :: _=>true
 | _ :: _,[]=>false
 | x :: xs,y :: ys=>if x=y then fX xs ys else decide (x < y)
theorem pC (x y:Int) (xs ys:List Int):fX (x :: xs) (y :: ys)=if x=y then fX xs ys else decide (x < y):=rfl
section
variable {prog : Program} {w : World} {A : Around} {E : Value → Shared → Prop} {s : Shared}
theorem av1 {t b:Addr}{vs ws:List Value}{Q:Value->Shared->Prop} (ht:IsTup s.heap t vs.toArray) (hb:IsTup s.heap b ws.toArray) (hv:vs ≠ [])
  (h1:ws = []->Q (.ref t) s) (h2:ws ≠ []->Q (.ref s.heap.objs.size) { s with heap:=s.heap.push { cls:=.type "tuple",data:=.seq (vs ++ ws).toArray } })
  (hsz:vs.length+ws.length<=sizeLine):wpAny (model prog w) A (binaryOp .Add (.ref t) (.ref b)) Q E s:=by
 obtain ⟨⟨cls,dd,data,sl⟩,ho,hc,n,hd⟩:=id ht
 obtain ⟨⟨cls2,dd2,data2,sl2⟩,ho2,hc2,n2,hd2⟩:=id hb
 simp only at hc hd hc2 hd2
 subst hc hd hc2 hd2
 have e:vs.toArray ++ ws.toArray=(vs ++ ws).toArray:=by simp
 by_cases hw:ws = []
 ·exact concat_meets ⟨_,ho,rfl⟩ ⟨_,ho2,rfl⟩ noFill_tuple_add seq_tuple_add PySem.F.slot_tuple_add PySem.F.entry_tuple_add (PySem.F.args_tuple_add_2 _ _)
   (tuple_addW1 t b vs.toArray ws.toArray n n2 dd dd2 sl sl2 (by simpa using hv) (by simp [hw])) ⟨ho,ho2,h1 hw⟩
 ·refine concat_meets ⟨_,ho,rfl⟩ ⟨_,ho2,rfl⟩ noFill_tuple_add seq_tuple_add PySem.F.slot_tuple_add PySem.F.entry_tuple_add (PySem.F.args_tuple_add_2 _ _)
   (tuple_addW2 t b vs.toArray ws.toArray n n2 dd dd2 sl sl2 (by simpa using hv) (by simpa using hw) (by rw [bn5,bn5]; exact hsz)) ⟨ho,ho2,?_⟩
  rw [e]
  exact h2 hw
noncomputable def bB (n d:Nat):Option Int->Nat
 | none=>d
 | some v=>if v < 0 then (v+(n:Int)).toNat else min v.toNat n
theorem av2 (n d k:Nat):bB n d (some (k:Int))=min k n:=by
 show (if (k:Int) < 0 then ((k:Int)+(n:Int)).toNat else min (k:Int).toNat n)=min k n
 rw [if_neg (by omega),bq7]
theorem av3 (n d:Nat) (hd:d<=n) (o:Option Int):bB n d o<=n:=by
 cases o with
 | none=>exact hd
 | some v=>
  show (if v < 0 then (v+(n:Int)).toNat else min v.toNat n)<=n
  by_cases hv:v < 0
  ·rw [if_pos hv]; omega
  ·rw [if_neg hv]; exact Nat.min_le_right _ _
theorem G9 (v:Int) (n d:Nat):(if v < 0 then max (v+(n:Int)) 0 else min v (n:Int))=((bB n d (some v):Nat):Int):=by
 show (if v < 0 then max (v+(n:Int)) 0 else min v (n:Int))=(((if v < 0 then (v+(n:Int)).toNat else min v.toNat n):Nat):Int)
 by_cases hv:v < 0
 ·simp only [if_pos hv]; omega
 ·simp only [if_neg hv]; omega
theorem av4 (lo hi:Option Int) (n:Nat):Builtin.Slice.sliceAdjust lo hi 1 (n:Int)=(((bB n 0 lo:Nat):Int),((bB n n hi:Nat):Int)):=by
 have h1 : ¬ ((1:Int) < 0):=by omega
 unfold Builtin.Slice.sliceAdjust
 simp only [h1,bv1]
 refine Prod.ext ?_ ?_
 ·cases lo with
  | none=>rfl
  | some v=>exact G9 v n 0
 ·cases hi with
  | none=>rfl
  | some v=>exact G9 v n n
theorem av5 (i j:Nat):Builtin.Slice.slicePlaces (i:Int) (j:Int) 1=j - i:=by
 unfold Builtin.Slice.slicePlaces
 have h1:(1:Int) > 0:=by omega
 simp only [h1,if_true,Int.ediv_one]
 split <;> omega
theorem J0 {v:Value}{o:Option Int}{Q:Option Int->Shared->Prop} (p:IsPart v o) (h:Q o s):wpAny (model prog w) A (Builtin.Slice.slicePartIndex v) Q E s:=by
 cases p with
 | none=>exact slicePart_none h
 | int i t=>exact slicePart_int h
theorem J1 {sl:Addr}{vl vu:Value}{lo hi:Option Int}{n:Nat}{Q:Int × Int × Nat->Shared->Prop} (hs:s.heap.IsSliceOf sl vl vu .none) (pl:IsPart vl lo) (pu:IsPart vu hi)
  (h:Q (((bB n 0 lo:Nat):Int),1,bB n n hi - bB n 0 lo) s):wpAny (model prog w) A (Builtin.Slice.sliceApplied (.ref sl) (pure (n:Int))) Q E s:=by
 obtain ⟨os,hos,hcs,hds⟩:=id hs
 unfold Builtin.Slice.sliceApplied Builtin.Slice.sliceFields
 refine bn3 (bn3 (bu2 hos hds (x:=vl) rfl (bn3 (bu2 hos hds (x:=vu) rfl (bn3 (bu2 hos hds (x:=.none) rfl (bo9 ?_)))))))
 refine bn3 (slicePart_none ?_)
 show wpAny _ _ (if ((1:Int) == 0)=true then _ else _) _ _ s
 rw [if_neg (by decide)]
 refine bn3 (J0 pl (bn3 (J0 pu (bn3 (bo9 ?_)))))
 show wpAny _ _ (match Builtin.Slice.sliceAdjust lo hi 1 (n:Int) with | (lo,hi)=>pure (lo,(1:Int),Builtin.Slice.slicePlaces lo hi 1)) _ _ s
 rw [av4 lo hi n]
 show wpAny _ _ (pure (((bB n 0 lo:Nat):Int),(1:Int),Builtin.Slice.slicePlaces ((bB n 0 lo:Nat):Int) ((bB n n hi:Nat):Int) 1)) _ _ s
 rw [av5]
 exact bo9 h
theorem av6 (xs:Array Value) (i k:Nat):((List.range k).filterMap fun (m:Nat)=>xs[((i:Int)+(m:Int) * 1).toNat]?).toArray=((xs.toList.drop i).take k).toArray:=by
 have e:(fun (m:Nat)=>xs[((i:Int)+(m:Int) * 1).toNat]?)=fun m=>xs[i+m]?:=by
  funext m
  have:((i:Int)+(m:Int) * 1).toNat=i+m:=by omega
  rw [this]
 rw [e]
 have:=pick_run xs i k
 rw [List.filterMap_map] at this
 have e2:((fun x=>xs[x]?) ∘ fun x=>i+x)=fun m=>xs[i+m]?:=rfl
 rw [e2] at this
 rw [this]
theorem av7 {t sl:Addr}{items:Array Value}{vl vu:Value}{lo hi:Option Int}{Q:Value->Shared->Prop} (ht:IsTup s.heap t items) (hs:s.heap.IsSliceOf sl vl vu .none) (pl:IsPart vl lo) (pu:IsPart vu hi)
  (hw : ¬ (bB items.size 0 lo=0/\bB items.size items.size hi=items.size))
  (h:Q (.ref s.heap.objs.size) { s with heap:=s.heap.push { cls:=.type "tuple",data:=.seq ((items.toList.drop (bB items.size 0 lo)).take (bB items.size items.size hi - bB items.size 0 lo)).toArray } })
  (hsz:items.size<=sizeLine):wpAny (model prog w) A (getItem (.ref t) (.ref sl)) Q E s:=by
 have htake:sizeOk (.seq ((items.toList.drop (bB items.size 0 lo)).take (bB items.size items.size hi - bB items.size 0 lo)).toArray):=by
  show ((items.toList.drop (bB items.size 0 lo)).take (bB items.size items.size hi - bB items.size 0 lo)).toArray.size<=sizeLine
  rw [bn5,bt8,bx5,Array.length_toList]
  omega
 have hj:bB items.size items.size hi<=items.size:=av3 _ _ (bo7 _) hi
 obtain ⟨os,hos,hcs,hds⟩:=id hs
 have hTs:s.TypeIs (.ref sl) "slice":=⟨os,hos,hcs⟩
 unfold getItem
 try with_reducible refine bx4 ?_
 first | refine bn3 (bo9 ?_) | skip
 refine bn3 (wpAny_sequenceKey ht.typeIs (by decide) ?_)
 refine bn3 (bu3 (name:=Str.ofString "__getitem__") ht.typeIs bz4
  (bu8 bz4 ht.typeIs entry_tuple_getitem ?_ (args_tuple_getitem _ _)))
 show wpAny _ _ (Builtin.Tuple.tupleItemsOf (.ref t) >>= _) _ _ s
 refine bn3 (tupleItemsOf_ ht ?_)
 refine bn3 (wpAny_typeOf hTs ?_)
 rw [if_pos (by decide)]
 refine bn3 (J1 hs pl pu ?_)
 have hno : ¬ ((((bB items.size 0 lo:Nat):Int) == 0 && (1:Int) == 1 && (bB items.size items.size hi - bB items.size 0 lo) == items.size)=true):=by
  intro q
  rw [br3,br3] at q
  have q1:((bB items.size 0 lo:Nat):Int)=0:=eq_of_beq q.1.1
  have q2:bB items.size items.size hi - bB items.size 0 lo=items.size:=eq_of_beq q.2
  exact hw ⟨by omega,by omega⟩
 show wpAny _ _ (if (((bB items.size 0 lo:Nat):Int) == 0 && (1:Int) == 1 && (bB items.size items.size hi - bB items.size 0 lo) == items.size)=true then _ else _) _ _ s
 rw [if_neg hno,av6]
 first
  | exact bn3 (m:=Builtin.Tuple.tupleExact _) (bv7 (bo9 ⟨_,rfl,bo9 h⟩) htake)
  | exact bn3 (m:=Builtin.Tuple.tupleExact _) (bv7 (bn3 (bo9 (bo9 ⟨_,rfl,bo9 h⟩))) htake)
  | exact bn3 (bn3 (m:=Builtin.Tuple.tupleExact _) (bv7 (bo9 (bo9 ⟨_,rfl,bo9 h⟩)) htake))
  | exact bn3 (bn3 (m:=Builtin.Tuple.tupleExact _) (bv7 (bo9 ⟨_,rfl,bo9 h⟩) htake))
end
end HT
namespace L2
open PySem PySem.Spec PyProof.Rows
noncomputable abbrev TO:=St->Hp->(Option Int->Hp->Prop)->Prop
noncomputable def PO (X:Cx) (e:Option Expr) (t:TO):Prop:=
 ∀ (pins:List (Addr × Obj)) (s:Shared) (σ:St) (H:Hp) (Q:Option Int->Hp->Prop),a8 X pins σ H s->t σ H Q->
  wpAny (model X.prog X.w) X.A (evalPart e X.env) (fun u s'=>∃ o H',a8 X pins σ H' s'/\IsPart u o/\Q o H') X.xe s
noncomputable def av8:TO:=fun _ H Q=>Q none H
noncomputable def av9 (t:TE):TO:=fun σ H Q=>t σ H fun x H1=>∃ i,x = .int i/\Q (some i) H1
theorem pD {ns:List Int}:∀ {us:List Value},aR (ns.map V.int) us->IntsAre us ns:=by
 induction ns with
 | nil=>intro us r; rw [List.map_nil] at r; cases r; exact .nil
 | cons n ns ih=>
  intro us r
  rw [bs8] at r
  cases r with
  | cons r1 r2=>
   obtain ⟨t,e⟩:=r1
   subst e
   exact .cons n t (ih r2)
section
variable {X : Cx} {e : Expr} {te : TE} {lo hi : Option Expr} {tl th : TO} {pos p2 : Pos}
theorem vJ:PO X none av8:=by
 intro pins s σ H Q I h
 rw [evalPart_none]
 exact bo9 ⟨none,H,I,.none,h⟩
theorem vK (h:PE X e te):PO X (some e) (av9 te):=by
 intro pins s σ H Q I hw
 rw [evalPart_some]
 refine aQ (h pins s σ H _ I hw) fun u s1 ⟨x,H1,I1,r1,q1⟩=>?_
 obtain ⟨i,rfl,q⟩:=q1
 obtain ⟨t,rfl⟩:=r1
 exact⟨some i,H1,I1,.int i t,q⟩
noncomputable def lG (X:Cx) (r:V->Option Int->Option Int->Hp->VK->Prop):Prop:=
 ∀ (pins:List (Addr × Obj)) (s:Shared) (σ:St) (H:Hp) (x:V) (v vl vu:Value) (lo hi:Option Int) (sl:Addr) (Q:VK),a8 X pins σ H s->b5 x v->s.heap.IsSliceOf sl vl vu .none->IsPart vl lo->IsPart vu hi->r x lo hi H Q->
  ∃ T id,typeLookup (.type T) "__getitem__" = pure (some (.builtin id))/\s.TypeIs v T/\wpAny (model X.prog X.w) X.A (getItem v (.ref sl)) (EP X pins σ Q) X.xe s
theorem lG.or {r r':V->Option Int->Option Int->Hp->VK->Prop} (h:lG X r) (h':lG X r'):lG X (fun x lo hi H Q=>r x lo hi H Q ∨ r' x lo hi H Q):=by
 intro pins s σ H x v vl vu lo hi sl Q I rx hs pl pu q
 rcases q with q | q
 ·exact h pins s σ H x v vl vu lo hi sl Q I rx hs pl pu q
 ·exact h' pins s σ H x v vl vu lo hi sl Q I rx hs pl pu q
noncomputable def tSl (r:V->Option Int->Option Int->Hp->VK->Prop) (te:TE) (tl th:TO):TE:=fun σ H Q=>te σ H fun x H1=>tl σ H1 fun l H2=>th σ H2 fun u H3=>r x l u H3 Q
theorem vL {r:V->Option Int->Option Int->Hp->VK->Prop} (hr:lG X r) (he:PE X e te) (hl:PO X lo tl) (hu:PO X hi th):PE X (.Subscript e (.Slice lo hi none p2) pos) (tSl r te tl th):=by
 intro pins s σ H Q I h
 refine Subscript_ (aQ (he pins s σ H _ I h) fun v s1 ⟨x,H1,I1,r1,q1⟩=>?_)
 refine wpAny_Slice (aQ (hl pins s1 σ H1 _ I1 q1) fun vl s2 ⟨l,H2,I2,pl,q2⟩=>aQ (hu pins s2 σ H2 _ I2 q2) fun vu s3 ⟨u,H3,I3,pu,q3⟩=>?_)
 rw [evalPart_none]
 refine bo9 ?_
 have I4:a8 X pins σ H3 { s3 with heap:=s3.heap.push { cls:=.type "slice",data:=.fields #[vl,vu,.none] } }:=I3.kept (t':=s3.toks) fun b ob q=>bn6 _ q
 obtain ⟨T,id,hT,ht,hg⟩:=hr pins { s3 with heap:=s3.heap.push { cls:=.type "slice",data:=.fields #[vl,vu,.none] } } σ H3 x v vl vu l u s3.heap.objs.size Q I4 r1 (Heap.IsSliceOf.new ..) pl pu q3
 show wpAny (model X.prog X.w) X.A (subscriptTail e (.Slice lo hi none p2) v (.ref s3.heap.objs.size)) (EP X pins σ Q) X.xe { s3 with heap:=s3.heap.push { cls:=.type "slice",data:=.fields #[vl,vu,.none] } }
 exact tail_any (ops:=[.ref s3.heap.objs.size,v]) ht hT hg (by with_unfolding_all rfl)
noncomputable def fL (xs:List V) (lo hi:Option Int):List V:=(xs.drop (HT.bB xs.length 0 lo)).take (HT.bB xs.length xs.length hi - HT.bB xs.length 0 lo)
theorem J2 (xs:List V) (lo hi:Option Int):(fL xs lo hi).length<=xs.length:=by
 unfold fL
 rw [bt8,bx5]
 omega
noncomputable def aw0 (K:PySem.W.Frag):V->Option Int->Option Int->Hp->VK->Prop:=fun x lo hi H Q=>∃ a xs,x = .ref a/\aM K H a xs/\
 ¬ (HT.bB xs.length 0 lo=0/\HT.bB xs.length xs.length hi=xs.length)/\∀ p,H p=none->Q (.ref p) (upd H p (.tup (fL xs lo hi)))
theorem aw1:lG X (aw0 X.K):=by
 intro pins s σ H x v vl vu lo hi sl Q I rx hs pl pu h
 obtain ⟨a,xs,rfl,hx,hw,q⟩:=h
 cases rx
 obtain ⟨its,r,ht,hz⟩:=I.tuple hx
 have hlen:its.toArray.size=xs.length:=by rw [bn5]; exact r.length.symm
 refine⟨"tuple",_,PyProof.Rows.slot_tuple_getitem.lookup,ht.typeIs,?_⟩
 refine HT.av7 ht hs pl pu (by rw [hlen]; exact hw) ?_ (by rw [hlen]; exact hz)
 rw [hlen]
 refine⟨.ref s.heap.objs.size,_,I.laid (t':=s.toks) (o:=.tup (fL xs lo hi)) (fun b ob q=>bn6 _ q) (bo7 _) ?_,rfl,q _ (I.hok.fresh (bo7 _))⟩
 exact⟨bs2 (J2 xs lo hi) hz,_,(r.drop (HT.bB xs.length 0 lo)).take (HT.bB xs.length xs.length hi - HT.bB xs.length 0 lo),IsTup.new _ _,jS.new _ _ rfl⟩
noncomputable def aw2 (K:PySem.W.Frag):R2:=fun x y H Q=>∃ a b xs ys,x = .ref a/\y = .ref b/\aM K H a xs/\aM K H b ys/\xs ≠ []/\xs.length+ys.length<=sizeLine/\
 (ys = []->Q (.ref a) H)/\(ys ≠ []->∀ p,H p=none->Q (.ref p) (upd H p (.tup (xs ++ ys))))
theorem aR.nil_iff {xs:List V}{us:List Value} (r:aR xs us):us = [] ↔ xs = []:=by
 cases r with
 | nil=>simp
 | cons _ _=>simp
theorem aw3:cF X (binaryOp .Add) (aw2 X.K):=by
 intro pins s σ H x y v u Q I rx ry h
 obtain ⟨a,b,xs,ys,rfl,rfl,ha,hb,hx,hz,q1,q2⟩:=h
 cases rx
 cases ry
 obtain ⟨its,r1,p1,_⟩:=I.tuple ha
 obtain ⟨its2,r2,p2,_⟩:=I.tuple hb
 refine HT.av1 p1 p2 (fun z=>hx (r1.nil_iff.mp z)) (fun z=>⟨.ref a,H,I,rfl,q1 (r2.nil_iff.mp z)⟩) (fun z=>?_) (by rw [<- r1.length,<- r2.length]; exact hz)
 refine⟨.ref s.heap.objs.size,_,I.laid (t':=s.toks) (o:=.tup (xs ++ ys)) (fun b ob q=>bn6 _ q) (bo7 _) ?_,rfl,q2 (fun w=>z (r2.nil_iff.mpr w)) _ (I.hok.fresh (bo7 _))⟩
 exact⟨by rw [bo0]; exact hz,_,r1.append r2,IsTup.new _ _,jS.new _ _ rfl⟩
end
noncomputable def gM (n:Nat) (i:Int):Option Nat:=if 0<=i then (if i < n then some i.toNat else none) else if -(n:Int)<=i then some (i+n).toNat else none
noncomputable def atI {α:Type} (xs:List α) (i:Int):Option α:=(gM xs.length i).bind fun j=>xs[j]?
theorem J3 {n:Nat}{i:Int}{j:Nat} (h:gM n i=some j):seqIndex? i n=some j/\j < n/\-(n:Int)<=i/\i < n:=by
 unfold gM at h
 by_cases h0:0<=i
 ·rw [if_pos h0] at h
  by_cases h1:i < n
  ·rw [if_pos h1] at h
   have e:i.toNat=j:=bq3 h
   exact⟨by rw [seqIndex_of h0 h1,e],by omega,by omega,h1⟩
  ·rw [if_neg h1] at h; cases h
 ·rw [if_neg h0] at h
  by_cases h1 : -(n:Int)<=i
  ·rw [if_pos h1] at h
   have e:(i+n).toNat=j:=bq3 h
   exact⟨by rw [seqIndex_neg (by omega) h1,e],by omega,h1,by omega⟩
  ·rw [if_neg h1] at h; cases h
theorem vM {α:Type}{xs:List α}{i:Int}{v:α} (h:atI xs i=some v):∃ j,seqIndex? i xs.length=some j/\xs[j]? = some v/\j < xs.length/\-(xs.length:Int)<=i/\i < xs.length:=by
 unfold atI at h
 cases e:gM xs.length i with
 | none=>rw [e] at h; cases h
 | some j=>
  rw [e] at h
  obtain ⟨h1,h2,h3,h4⟩:=J3 e
  exact⟨j,h1,h,h2,h3,h4⟩
theorem lH {α:Type}{xs:List α}{j:Nat}{v:α} (h:xs[j]? = some v):atI xs (j:Int)=some v:=by
 have hj:j < xs.length:=(bn8.mp h).1
 have e:gM xs.length (j:Int)=some j:=by
  unfold gM
  rw [if_pos (by omega),if_pos (by omega)]; simp
 unfold atI; rw [e]; exact h
noncomputable def J4 (b:Expr):Prop:=∀ o i,subscripted b false o i=operate [o,i] (getItem o i)
noncomputable def kJ (X:Cx) (r:R2):Prop:=
 ∀ (value slice:Expr) (pins:List (Addr × Obj)) (s:Shared) (σ:St) (H:Hp) (x y:V) (v u:Value) (Q:VK),a8 X pins σ H s->b5 x v->b5 y u->r x y H Q->
  subscripted slice false v u=operate [v,u] (getItem v u)->wpAny (model X.prog X.w) X.A (subscriptTail value slice v u) (EP X pins σ Q) X.xe s
noncomputable def J5 (X:Cx) (id:String) (r:V->List V->Hp->VK->Prop):Prop:=
 ∀ (pins:List (Addr × Obj)) (s:Shared) (σ:St) (H:Hp) (x:V) (xs:List V) (v:Value) (us:List Value) (Q:VK),a8 X pins σ H s->b5 x v->aR xs us->r x xs H Q->
  wpAny (model X.prog X.w) X.A (call (.builtin id) (v :: us)) (EP X pins σ Q) X.xe s
section
variable {X : Cx} {a b : Expr} {ta tb : TE} {pos : Pos}
theorem kJ.or {r r':R2} (h:kJ X r) (h':kJ X r'):kJ X (fun x y H Q=>r x y H Q ∨ r' x y H Q):=by
 intro value slice pins s σ H x y v u Q I rx ry q hs
 rcases q with q | q
 ·exact h value slice pins s σ H x y v u Q I rx ry q hs
 ·exact h' value slice pins s σ H x y v u Q I rx ry q hs
theorem kK {r:R2} (hr:kJ X r) (ha:PE X a ta) (hb:PE X b tb) (hs:J4 b):PE X (.Subscript a b pos) (oZ r ta tb):=by
 intro pins s σ H Q I h
 exact Subscript_ (v4 ha hb I h fun v u s2 x y H2 I2 rx ry q=>hr a b pins s2 σ H2 x y v u Q I2 rx ry q (hs _ _))
noncomputable def J6 (K:PySem.W.Frag):R2:=fun x y H Q=>∃ p xs i v,x = .ref p/\y = .int i/\aN K H p xs/\atI xs i=some v/\Q v H
noncomputable def J7 (K:PySem.W.Frag):R2:=fun x y H Q=>∃ p xs i v,x = .ref p/\y = .int i/\aM K H p xs/\atI xs i=some v/\Q v H
noncomputable def J8:R2:=fun x y H Q=>∃ z i c,x = .str z/\y = .int i/\z.length<=sizeLine/\atI z.cps.toList i=some c/\Q (.str ⟨#[c]⟩) H
theorem pE:kJ X (J6 X.K):=by
 intro value slice pins s σ H x y v u Q I rx ry h hs
 obtain ⟨p,xs,i,z,rfl,rfl,hq,he,q⟩:=h
 cases rx
 obtain ⟨t,rfl⟩:=ry
 obtain ⟨its,r,pl,hz⟩:=I.list hq
 obtain ⟨j,h1,h2,h3,h4,h5⟩:=vM he
 obtain ⟨w,ew,rw'⟩:=r.get h2
 have hl:=r.length
 have hn:=nF
 have fin:EP X pins σ Q w s:=⟨z,H,I,rw',q⟩
 by_cases h0:0<=i
 ·have hj:i.toNat=j:=by
   rw [seqIndex_of h0 h5] at h1
   exact bq3 h1
  exact item_listR pl.isList h0 (by omega) (by rw [hj]; simpa using ew) fin hs
 ·have hj:(i+(its.toArray.size:Int)).toNat=j:=by
   rw [seqIndex_neg (by omega) h4] at h1
   rw [bn5,<- hl]
   exact bq3 h1
  exact subscriptTail_builtinR (x:=w) pl.isList.typeIs slot_list_getitem.lookup
   (wpAny_getItem_list_neg (Q:=fun r s'=>r=w/\EP X pins σ Q r s') pl.isList (by omega) (by rw [bn5] <;> omega) (by omega) (by rw [hj]; simpa using ew) ⟨rfl,fin⟩) hs
theorem pF:kJ X (J7 X.K):=by
 intro value slice pins s σ H x y v u Q I rx ry h hs
 obtain ⟨p,xs,i,z,rfl,rfl,hq,he,q⟩:=h
 cases rx
 obtain ⟨t,rfl⟩:=ry
 obtain ⟨its,r,pl,hz⟩:=I.tuple hq
 obtain ⟨j,h1,h2,h3,h4,h5⟩:=vM he
 obtain ⟨w,ew,rw'⟩:=r.get h2
 have hl:=r.length
 have hn:=nF
 have fin:EP X pins σ Q w s:=⟨z,H,I,rw',q⟩
 exact subscriptTail_builtinR (x:=w) pl.typeIs slot_tuple_getitem.lookup
  (getItem_tuple (j:=j) (Q:=fun r s'=>r=w/\EP X pins σ Q r s') pl (by omega) (by omega) (by rw [bn5,<- hl]; exact h1) (by simpa using ew) ⟨rfl,fin⟩) hs
theorem aw4:kJ X J8:=by
 intro value slice pins s σ H x y v u Q I rx ry h hs
 obtain ⟨z,i,c,rfl,rfl,hz,he,q⟩:=h
 obtain ⟨t,rfl⟩:=rx
 obtain ⟨t',rfl⟩:=ry
 obtain ⟨j,h1,h2,h3,h4,h5⟩:=vM he
 have hl:z.cps.toList.length=z.length:=by simp [Str.length]
 rw [hl] at h1 h4 h5
 have hn:=nF
 exact tail_any (typeIs_str s z t) slot_str_getitem.lookup (getItem_str (c:=c) (by
  have e1:decide (i < -(2 ^ 63:Int))=false:=bn9 (by omega)
  have e2:decide (i >= 2 ^ 63)=false:=bn9 (by omega)
  rw [e1,e2,Bool.or_false]) (by rw [h1]; simpa using h2) ⟨.str ⟨#[c]⟩,H,I.tok _,⟨_,rfl⟩,q⟩) hs
noncomputable def K0 (K:PySem.W.Frag):R2:=fun x y H Q=>J6 K x y H Q ∨ J7 K x y H Q ∨ J8 x y H Q
theorem aw5:kJ X (K0 X.K):=pE.or (pF.or aw4)
theorem aw6 (its:List Value) (n j:Nat) (u:Value):Obj.mapSeq (·.setIfInBounds j u) { cls:=.type "list",data:=.seq its.toArray n }={ cls:=.type "list",data:=.seq (its.set j u).toArray n }:=by
 simp [Obj.mapSeq]
theorem a8.lst {pins:List (Addr × Obj)}{σ:St}{H:Hp}{s:Shared}{p:Addr}{xs:List V} (I:a8 X pins σ H s) (h:H p=some (.lst xs)) :
  ∃ (its:List Value) (n:Nat),aR xs its/\s.heap.get? p=some { cls:=.type "list",data:=.seq its.toArray n }/\xs.length<=sizeLine:=by
 obtain ⟨z,its,n,r,e⟩:=I.hok p _ h
 exact⟨its,n,r,e,z⟩
theorem a8.lstUpd {pins:List (Addr × Obj)}{σ:St}{H:Hp}{s:Shared}{p:Addr}{xs ys:List V}{its its':List Value}{n n':Nat}{f:Obj->Obj} (I:a8 X pins σ H s) (h:H p=some (.lst xs))
  (ho:s.heap.get? p=some { cls:=.type "list",data:=.seq its.toArray n }) (hf:f { cls:=.type "list",data:=.seq its.toArray n }={ cls:=.type "list",data:=.seq its'.toArray n' }) (r:aR ys its') (hz:ys.length<=sizeLine) (t:Nat) :
  a8 X pins σ (upd H p (.lst ys)) { s with heap:=s.heap.update p f,toks:=t }:=by
 have e:(s.heap.update p f).get? p=some { cls:=.type "list",data:=.seq its'.toArray n' }:=by
  rw [Heap.get?_update_self f ho (by rw [hf] <;> rfl),hf]
 refine I.write (x:=p) (e:=p) (by rw [h]; trivial) (.inl rfl) (fun b u hb q=>(Heap.get?_update_other _ _ (Ne.symm hb)).trans q) ⟨_,e⟩ ?_
 exact⟨hz,its',n',r,e⟩
noncomputable def vN:V->V->V->Hp->(Hp->Prop)->Prop:=fun o i v H Q=>∃ p xs k j,o = .ref p/\i = .int k/\H p=some (.lst xs)/\gM xs.length k=some j/\Q (upd H p (.lst (xs.set j v)))
theorem aw7:C8 X vN:=by
 intro pins s σ H o i v ov iv u Q I ro ri rv h
 obtain ⟨p,xs,k,j,rfl,rfl,hp,hj,q⟩:=h
 cases ro
 obtain ⟨t,rfl⟩:=ri
 obtain ⟨its,n,r,ho,hz⟩:=I.lst hp
 obtain ⟨h1,h2,h3,h4⟩:=J3 hj
 have hl:=r.length
 have hn:=nF
 have I':a8 X pins σ (upd H p (.lst (xs.set j v))) { s with heap:=s.heap.update p (Obj.mapSeq (·.setIfInBounds j u)) }:=
  I.lstUpd hp ho (aw6 its n j u) (r.set rv j) (by rw [bs0]; exact hz) s.toks
 by_cases h0:0<=k
 ·have hk:k.toNat=j:=by
   rw [seqIndex_of h0 h4] at h1
   exact bq3 h1
  exact PySem.W.ki_setAt ho h0 (by omega) (by rw [bn5,<- hl]; exact h4) (by rw [hk]; exact⟨_,I',q⟩)
 ·have hk:(k+(its.toArray.size:Int)).toNat=j:=by
   rw [seqIndex_neg (by omega) h3] at h1
   rw [bn5,<- hl]
   exact bq3 h1
  exact PySem.W.ki_setBack ho (by omega) (by rw [bn5,<- hl]; exact h3) (by omega) (by rw [hk]; exact⟨_,I',q⟩)
theorem aw8 (lo hi:Option Int) (n:Nat):(sliceBounds lo hi none n).1=((HT.bB n 0 lo:Nat):Int)/\(sliceBounds lo hi none n).2.1=((HT.bB n n hi:Nat):Int)/\(sliceBounds lo hi none n).2.2=1:=by
 refine⟨?_,?_,rfl⟩
 ·cases lo with
  | none=>simp [sliceBounds,HT.bB]
  | some i=>
   simp only [sliceBounds,HT.bB,Option.getD_none,show (1:Int) > 0 by decide,if_true]
   by_cases h:i < 0
   ·simp only [h,if_true] <;> omega
   ·simp only [h,bv1] <;> omega
 ·cases hi with
  | none=>simp [sliceBounds,HT.bB]
  | some i=>
   simp only [sliceBounds,HT.bB,Option.getD_none,show (1:Int) > 0 by decide,if_true]
   by_cases h:i < 0
   ·simp only [h,if_true] <;> omega
   ·simp only [h,bv1] <;> omega
theorem aw9 (its:List Value) (lo hi:Option Int):slicePick its.toArray lo hi none=((its.drop (HT.bB its.length 0 lo)).take (HT.bB its.length its.length hi - HT.bB its.length 0 lo)).toArray:=by
 obtain ⟨h1,h2,h3⟩:=aw8 lo hi its.toArray.size
 unfold slicePick
 rw [h1,h2,h3]
 simp only [sliceRange_one,pick_run,bn5] <;> rfl
noncomputable def ax0 (K:PySem.W.Frag):V->Option Int->Option Int->Hp->VK->Prop:=fun x lo hi H Q=>∃ a xs,x = .ref a/\aN K H a xs/\∀ p,H p=none->Q (.ref p) (upd H p (.lst (fL xs lo hi)))
theorem K1:lG X (ax0 X.K):=by
 intro pins s σ H x v vl vu lo hi sl Q I rx hs pl pu h
 obtain ⟨a,xs,rfl,hx,q⟩:=h
 cases rx
 obtain ⟨its,r,ht,hz⟩:=I.list hx
 have hlen:=r.length
 refine⟨"list",_,slot_list_getitem.lookup,ht.isList.typeIs,?_⟩
 refine wpAny_getItem_list_slice ht.isList hs pl pu .none (by simp) ?_ (by rw [bn5] <;> omega)
 rw [aw9,<- hlen]
 refine⟨.ref s.heap.objs.size,_,I.laid (t':=s.toks) (o:=.lst (fL xs lo hi)) (fun b ob q=>bn6 _ q) (bo7 _) ?_,rfl,q _ (I.hok.fresh (bo7 _))⟩
 exact⟨bs2 (J2 xs lo hi) hz,_,0,(r.drop (HT.bB xs.length 0 lo)).take (HT.bB xs.length xs.length hi - HT.bB xs.length 0 lo),bp7 _ rfl⟩
noncomputable def kL:V->Bool
 | .non=>true
 | .bl _=>true
 | .int _=>true
 | .str _=>true
 | _=>false
noncomputable def jD:V->V->Bool
 | .non,.non=>true
 | .bl a,.bl b=>a == b
 | .bl a,.int b=>(if a then 1 else 0) == b
 | .int a,.bl b=>a == (if b then 1 else 0)
 | .int a,.int b=>a == b
 | .str a,.str b=>a == b
 | _,_=>false
theorem ax1 {A:Around}{s:Shared}{y x:V}{u v:Value} (ry:b5 y u) (rx:b5 x v) (fy:kL y=true) (fx:kL x=true):SeqAt.EqAt A s u v (jD y x):=by
 cases y with
 | non=>
  cases ry
  cases x with
  | non=>cases rx; exact SeqAt.EqAt.same _
  | bl b=>cases rx; exact SeqAt.EqAt.none_bool b
  | int b=>obtain ⟨t,rfl⟩:=rx; exact SeqAt.EqAt.none_int b t
  | str b=>obtain ⟨t,rfl⟩:=rx; exact SeqAt.EqAt.none_str b t
  | _=>exact absurd (show false=true from fx) bp9
 | bl a=>
  cases ry
  cases x with
  | non=>cases rx; exact SeqAt.EqAt.bool_none a
  | bl b=>cases rx; exact SeqAt.EqAt.bool_bool a b
  | int b=>obtain ⟨t,rfl⟩:=rx; exact SeqAt.EqAt.bool_int a b t
  | str b=>obtain ⟨t,rfl⟩:=rx; exact SeqAt.EqAt.bool_str a b t
  | _=>exact absurd (show false=true from fx) bp9
 | int a=>
  obtain ⟨t',rfl⟩:=ry
  cases x with
  | non=>cases rx; exact SeqAt.EqAt.int_none a t'
  | bl b=>cases rx; exact SeqAt.EqAt.int_bool a t' b
  | int b=>obtain ⟨t,rfl⟩:=rx; exact SeqAt.EqAt.int_int a t' b t
  | str b=>obtain ⟨t,rfl⟩:=rx; exact SeqAt.EqAt.int_str a t' b t
  | _=>exact absurd (show false=true from fx) bp9
 | str a=>
  obtain ⟨t',rfl⟩:=ry
  cases x with
  | non=>cases rx; exact SeqAt.EqAt.str_none a t'
  | bl b=>cases rx; exact SeqAt.EqAt.str_bool a t' b
  | int b=>obtain ⟨t,rfl⟩:=rx; exact SeqAt.EqAt.str_int a t' b t
  | str b=>obtain ⟨t,rfl⟩:=rx; exact SeqAt.EqAt.str_str a t' b t
  | _=>exact absurd (show false=true from fx) bp9
 | _=>exact absurd (show false=true from fy) bp9
noncomputable def gN (x:V) (u:Value):Bool:=match u with
 | .none=>jD .non x
 | .bool b=>jD (.bl b) x
 | .int i _=>jD (.int i) x
 | .str z _=>jD (.str z) x
 | _=>false
theorem K2 {x y:V}{u:Value} (r:b5 y u) (f:kL y=true):gN x u=jD y x:=by
 cases y with
 | non=>cases r; rfl
 | bl b=>cases r; rfl
 | int i=>obtain ⟨t,rfl⟩:=r; rfl
 | str z=>obtain ⟨t,rfl⟩:=r; rfl
 | _=>exact absurd (show false=true from f) bp9
theorem pG {x:V}:∀ {xs:List V}{us:List Value},aR xs us->xs.all kL=true->us.any (gN x)=xs.any fun y=>jD y x
 | _,_,.nil,_=>rfl
 | y :: xs,u :: us,.cons r t,f=>by
  rw [bB8,br3] at f
  rw [List.any_cons,List.any_cons,K2 r f.1,pG t f.2]
theorem pH {A:Around}{s:Shared}{x:V}{v:Value} (rx:b5 x v) (fx:kL x=true):∀ {xs:List V}{us:List Value},aR xs us->xs.all kL=true->∀ u ∈ us,SeqAt.EqAt A s u v (gN x u)
 | _,_,.nil,_=>fun u hu=>by cases hu
 | y :: xs,u :: us,.cons r t,f=>fun u' hu=>by
  rw [bB8,br3] at f
  rcases bo3.mp hu with rfl | hu
  ·rw [K2 r f.1]; exact ax1 r rx f.1 fx
  ·exact pH rx fx t f.2 u' hu
noncomputable def pI (x:V) (xs:List V):Bool:=xs.any fun y=>jD y x
noncomputable def vO (K:PySem.W.Frag) (neg:Bool):R2:=fun x y H Q=>∃ p xs,y = .ref p/\(aN K H p xs ∨ aM K H p xs)/\kL x=true/\xs.all kL=true/\Q (.bl (if neg then !pI x xs else pI x xs)) H
theorem ax2:cF X (compareOp .In) (vO X.K false):=by
 intro pins s σ H x y v u Q I rx ry h
 obtain ⟨p,xs,rfl,hq,fx,fs,q⟩:=h
 cases ry
 rcases hq with hq | hq
 ·obtain ⟨its,r,pl,hz⟩:=I.list hq
  refine SeqAt.in_listAt (gN x) pl.isList (fun w hw=>pH rx fx r fs w (by simpa using hw)) ⟨.bl _,H,I,rfl,?_⟩
  rw [show its.toArray.any (gN x)=its.any (gN x) by simp,pG r fs]
  exact q
 ·obtain ⟨its,r,pl,hz⟩:=I.tuple hq
  refine SeqAt.in_tupleAt (gN x) pl (fun w hw=>pH rx fx r fs w (by simpa using hw)) ⟨.bl _,H,I,rfl,?_⟩
  rw [show its.toArray.any (gN x)=its.any (gN x) by simp,pG r fs]
  exact q
theorem ax3:cF X (compareOp .NotIn) (vO X.K true):=by
 intro pins s σ H x y v u Q I rx ry h
 obtain ⟨p,xs,rfl,hq,fx,fs,q⟩:=h
 cases ry
 rcases hq with hq | hq
 ·obtain ⟨its,r,pl,hz⟩:=I.list hq
  refine SeqAt.notIn_listAt (gN x) pl.isList (fun w hw=>pH rx fx r fs w (by simpa using hw)) ⟨.bl _,H,I,rfl,?_⟩
  rw [show its.toArray.any (gN x)=its.any (gN x) by simp,pG r fs]
  exact q
 ·obtain ⟨its,r,pl,hz⟩:=I.tuple hq
  refine SeqAt.notIn_tupleAt (gN x) pl (fun w hw=>pH rx fx r fs w (by simpa using hw)) ⟨.bl _,H,I,rfl,?_⟩
  rw [show its.toArray.any (gN x)=its.any (gN x) by simp,pG r fs]
  exact q
theorem ax4:dN X (.builtin "len") (fun xs H Q=>∃ p ys,xs = [.ref p]/\(aN X.K H p ys ∨ aM X.K H p ys)/\Q (.int ys.length) H):=by
 intro pins s σ H xs us Q I r h
 obtain ⟨p,ys,rfl,hq,q⟩:=h
 obtain ⟨u,rfl,rx⟩:=jV r
 cases rx
 have hn:=nF
 rcases hq with hq | hq
 ·obtain ⟨its,r',pl,hz⟩:=I.list hq
  have hlen:=r'.length
  exact Calls.call_len_list pl.isList (by simp only [bn5] <;> omega) ⟨.int ys.length,H,I.tok _,⟨s.toks+1,by rw [bn5,hlen]⟩,q⟩
 ·obtain ⟨its,r',pl,hz⟩:=I.tuple hq
  have hlen:=r'.length
  exact len_tuple pl (by simp only [bn5] <;> omega) ⟨.int ys.length,H,I.tok _,⟨s.toks+1,by rw [bn5,hlen]⟩,q⟩
theorem dN.or {f:Value}{r r':List V->Hp->VK->Prop} (h:dN X f r) (h':dN X f r'):dN X f (fun xs H Q=>r xs H Q ∨ r' xs H Q):=by
 intro pins s σ H xs us Q I rs q
 rcases q with q | q
 ·exact h pins s σ H xs us Q I rs q
 ·exact h' pins s σ H xs us Q I rs q
theorem ax5:dN X (.type "tuple") (fun xs H Q=>∃ p ys,xs = [.ref p]/\((aN X.K H p ys/\∀ l,H l=none->Q (.ref l) (upd H l (.tup ys))) ∨ (aM X.K H p ys/\Q (.ref p) H))):=by
 intro pins s σ H xs us Q I r h
 obtain ⟨p,ys,rfl,h⟩:=h
 obtain ⟨u,rfl,rx⟩:=jV r
 cases rx
 rcases h with ⟨hq,q⟩ | ⟨hq,q⟩
 ·obtain ⟨its,r',pl,hz⟩:=I.list hq
  have hlen:=r'.length
  refine call_tuple_list pl.isList (fun h' kp=>?_) (by simp only [bn5] <;> omega)
  have I1:a8 X pins σ H { s with heap:=h' }:=I.kept (t':=s.toks) kp
  have I2:a8 X pins σ (upd H h'.objs.size (.tup ys)) { s with heap:=h'.push { cls:=.type "tuple",data:=.seq its.toArray } }:=
   I1.laid (t':=s.toks) (fun b o e=>bn6 _ e) (bo7 _) (show cD X.prog X.w _ _ _ (.tup ys) from ⟨hz,its,r',IsTup.new _ _,jS.new _ _ rfl⟩)
  exact⟨.ref h'.objs.size,_,I2,rfl,q _ (I1.hok.fresh (bo7 _))⟩
 ·obtain ⟨its,r',pl,hz⟩:=I.tuple hq
  exact call_tuple_same pl ⟨.ref p,H,I,rfl,q⟩
noncomputable def iS (K:PySem.W.Frag) (T:String) (x:V) (H:Hp):Prop:=match x with
 | .str _=>T="str"
 | .int _=>T="int"
 | .ref p=>(T="list"/\∃ xs,aN K H p xs) ∨ (T="tuple"/\∃ o,K.lookup p=some o/\o.cls = .type "tuple"/\o.dict=none) ∨
   (T="dict"/\((∃ kvs,H p=some (.dK kvs)) ∨ ∃ kvs,H p=some (.dT kvs))) ∨ (T="set"/\∃ S n,H p=some (.set S n))
 | _=>False
theorem K3 {pins:List (Addr × Obj)}{σ:St}{H:Hp}{s:Shared}{T:String}{x:V}{v:Value} (I:a8 X pins σ H s) (r:b5 x v) (ty:iS X.K T x H) :
  s.TypeIs v T/\∀ a,v = .ref a->∃ ob,s.heap.get? a=some ob/\ob.dict=none:=by
 cases x with
 | str z=>
  obtain ⟨t,rfl⟩:=r
  cases (show T="str" from ty)
  exact⟨typeIs_str s z t,fun _ e=>nomatch e⟩
 | int i=>
  obtain ⟨t,rfl⟩:=r
  cases (show T="int" from ty)
  exact⟨typeIs_int s i t,fun _ e=>nomatch e⟩
 | ref p=>
  cases r
  rcases ty with ⟨rfl,xs,hq⟩ | ⟨rfl,o,hk,hc,hd⟩ | ⟨rfl,hk⟩ | ⟨rfl,S,n,hk⟩
  ·obtain ⟨its,_,pl,_⟩:=I.list hq
   refine⟨pl.isList.typeIs,fun a e=>?_⟩
   cases e
   obtain ⟨o,n,e,c,hd,_⟩:=pl
   exact⟨o,e,hd⟩
  ·refine⟨⟨o,I.kIn p o hk,hc⟩,fun a e=>?_⟩
   cases e
   exact⟨o,I.kIn _ o hk,hd⟩
  ·have z:∃ o,s.heap.get? p=some o/\o.ExactDict:=by
    rcases hk with ⟨kvs,hk⟩ | ⟨kvs,hk⟩
    ·obtain ⟨_,_,_,_,o,_,_,e,ex,_⟩:=I.hok p _ hk
     exact⟨o,e,ex⟩
    ·obtain ⟨_,_,_,_,o,_,_,e,ex,_⟩:=I.hok p _ hk
     exact⟨o,e,ex⟩
   obtain ⟨o,e,ex⟩:=z
   refine⟨⟨o,e,ex.1⟩,fun a e2=>?_⟩
   cases e2
   exact⟨o,e,ex.2.1⟩
  ·obtain ⟨o,_,_,_,e,ex,_⟩:=I.hok p _ hk
   refine⟨⟨o,e,ex.1⟩,fun a e2=>?_⟩
   cases e2
   exact⟨o,e,ex.2.1⟩
 | _=>exact False.elim ty
noncomputable def K4 (K:PySem.W.Frag) (T:String) (r:V->List V->Hp->VK->Prop) (to:TE):TE:=fun σ H Q=>to σ H fun x H1=>iS K T x H1/\r x [] H1 Q
noncomputable def rN (K:PySem.W.Frag) (T:String) (r:V->List V->Hp->VK->Prop) (to:TE) (t:TA):TE:=fun σ H Q=>to σ H fun x H1=>iS K T x H1/\t σ H1 fun xs H2=>r x xs H2 Q
variable {o e : Expr} {es : List Expr} {to : TE} {t : TA} {name : Str} {apos cpos : Pos} {T id : String} {r : V → List V → Hp → VK → Prop}
theorem ax6 (pa:PlainAttrs T) (slot:Slot T name id) (hty:typeOf (.builtin id)=pure (.type "method_descriptor")) (hm:J5 X id r) (ho:PE X o to)
  (hbase:attributeBase o name X.env (eval o X.env)=eval o X.env:=by rfl) (hline:(apos.endLine == cpos.line)=true:=by rfl):PE X (.Call (.Attribute o name apos) [] [] cpos) (K4 X.K T r to):=by
 intro pins s σ H Q I h
 refine wpAny_Call_method0_late hbase hline (aQ (ho pins s σ H _ I h) fun v s1 ⟨x,H1,I1,r1,ty,q1⟩=>?_)
 obtain ⟨h1,h2⟩:=K3 I1 r1 ty
 exact⟨T,id,pa,slot,hty,h1,h2,Calls.callWith_builtin rfl (PySem.evalArgs_none (hm pins s1 σ H1 x [] v [] Q I1 r1 .nil q1))⟩
theorem mH (pa:PlainAttrs T) (slot:Slot T name id) (hty:typeOf (.builtin id)=pure (.type "method_descriptor")) (hm:J5 X id r) (ho:PE X o to) (ha:PA X (e :: es) t)
  (hbase:attributeBase o name X.env (eval o X.env)=eval o X.env:=by rfl)
  (hfew:((backTo cpos (starEach (e :: es) X.env)).all (fun x=>!x.1) && (backToKw cpos (keywordEach [] X.env)).all (fun x=>x.1.isSome)
   && decide ((e :: es).length+([]:List Keyword).length+(if ([]:List Keyword).isEmpty then 0 else 1) < 30))=true:=by rfl)
  (hline:(apos.endLine == cpos.line)=true:=by rfl) (hs:starEach (e :: es) X.env=(false,eval e X.env) :: starEach es X.env:=by rfl) (hplain:(backTo cpos (starEach es X.env)).any (·.1)=false:=by rfl) :
  PE X (.Call (.Attribute o name apos) (e :: es) [] cpos) (rN X.K T r to t):=by
 intro pins s σ H Q I h
 refine wpAny_Call_method_late hbase hfew hline rfl (aQ (ho pins s σ H _ I h) fun v s1 ⟨x,H1,I1,r1,ty,q1⟩=>?_)
 obtain ⟨h1,h2⟩:=K3 I1 r1 ty
 refine⟨T,id,pa,slot,hty,h1,h2,?_⟩
 have hA:=ha cpos pins s1 σ H1 _ I1 q1
 rw [hs] at hA ⊢
 refine Calls.callWith_builtin (by show (false || (backTo cpos (starEach es X.env)).any (·.1))=false; rw [hplain] <;> rfl) (Calls.evalArgs_plain ?_)
 exact aQ hA fun us s2 ⟨vs,H2,I2,r2,q2⟩=>hm pins s2 σ H2 x vs v us Q I2 r1 r2 q2
end
noncomputable def nG (X:Cx) (id:String) (r:V->List V->Hp->VK->Prop):Prop:=
 ∀ (pins:List (Addr × Obj)) (s:Shared) (σ:St) (H:Hp) (x:V) (xs:List V) (v:Value) (us:List Value) (Q:VK),a8 X pins σ H s->b5 x v->aR xs us->r x xs H Q->
  wpAny (model X.prog X.w) X.A (call (.builtin id) (v :: us)) (EP X pins σ Q) X.xe s
theorem aR.one {x:V}{us:List Value} (h:aR [x] us):∃ u,us = [u]/\b5 x u:=by
 cases h with
 | cons r t=>
  cases t
  exact⟨_,rfl,r⟩
theorem aR.two {x y:V}{us:List Value} (h:aR [x,y] us):∃ u v,us = [u,v]/\b5 x u/\b5 y v:=by
 cases h with
 | cons r t=>
  cases t with
  | cons q t=>
   cases t
   exact⟨_,_,rfl,r,q⟩
theorem aR.zero:∀ {us:List Value},aR [] us->us = []
 | _,.nil=>rfl
theorem aR.dropLast {xs:List V}{us:List Value} (h:aR xs us):aR xs.dropLast us.dropLast:=by
 induction h with
 | nil=>exact .nil
 | cons r t ih=>
  cases t with
  | nil=>exact .nil
  | cons q t'=>exact .cons r ih
theorem aR.rep {xs:List V}{us:List Value} (h:aR xs us):∀ k:Nat,aR (List.replicate k xs).flatten (List.replicate k us).flatten
 | 0=>.nil
 | k+1=>by
  rw [bw6,bw6,bx9,bx9]
  exact aR.append h (aR.rep h k)
theorem ax7 {α:Type} (l:List α):l.eraseIdx (l.length - 1)=l.dropLast:=by
 induction l with
 | nil=>rfl
 | cons a r ih=>
  cases r with
  | nil=>rfl
  | cons b r=>
   have e:(a :: b :: r).length - 1=((b :: r).length - 1)+1:=by
    have h1:(a :: b :: r).length=r.length+2:=rfl
    have h2:(b :: r).length=r.length+1:=rfl
    omega
   rw [e,List.eraseIdx_cons_succ,ih]
   all_goals rfl
theorem K5 (its:List Value):∀ (k:Nat) (acc:List Value),
  List.foldl (fun x1 x2=>x1 ++ x2) acc.toArray (List.replicate k its.toArray)=(acc ++ (List.replicate k its).flatten).toArray
 | 0,acc=>by simp
 | k+1,acc=>by
  have e:acc.toArray ++ its.toArray=(acc ++ its).toArray:=by simp
  have e2:(acc ++ its) ++ (List.replicate k its).flatten=acc ++ (List.replicate (k+1) its).flatten:=by
   rw [bw6,bx9,List.append_assoc]
  rw [<- e2,<- K5 its k (acc ++ its),<- e,bw6,List.foldl_cons]
section
variable {X : Cx} {pins : List (Addr × Obj)} {σ : St} {H : Hp} {s : Shared} {l b : Addr} {xs ys zs : List V}
theorem a8.lset {its its':List Value}{n:Nat}{f:Array Value->Array Value}{t':Nat} (I:a8 X pins σ H s) (hH:H l=some (.lst xs))
  (e:s.heap.get? l=some { cls:=.type "list",data:=.seq its.toArray n }) (hf:f its.toArray=its'.toArray) (hv:aR ys its') (hz:ys.length<=sizeLine) :
  a8 X pins σ (upd H l (.lst ys)) { s with heap:=s.heap.update l (Obj.mapSeq f),toks:=t' }:=by
 have q:=PySem.IsL.update e f
 rw [hf] at q
 refine I.write (x:=l) (e:=l) (by rw [hH]; exact trivial) (.inl rfl) (fun b' u hb hu=>(Heap.get?_update_other s.heap (Obj.mapSeq f) (Ne.symm hb)).trans hu) ⟨_,q⟩ ?_
 exact⟨hz,its',_,hv,q⟩
theorem a8.lnew {its:List Value}{t':Nat} (I:a8 X pins σ H s) (hv:aR ys its) (hz:ys.length<=sizeLine) :
  a8 X pins σ (upd H s.heap.objs.size (.lst ys)) { s with heap:=s.heap.push { cls:=.type "list",data:=.seq its.toArray },toks:=t' }:=
 I.laid (fun _ _ q=>bn6 _ q) (bo7 _) ⟨hz,its,0,hv,bp7 _ rfl⟩
theorem a8.fresh (I:a8 X pins σ H s):H s.heap.objs.size=none:=I.hok.fresh (bo7 _)
theorem a8.lstM (I:a8 X pins σ H s) (hH:H l=some (.lst xs)):xs.length<=sizeLine/\∃ (its:List Value) (n:Nat),aR xs its/\xs.length=its.length/\s.heap.get? l=some { cls:=.type "list",data:=.seq its.toArray n }:=by
 obtain ⟨z,its,n,r,e⟩:=I.hok l _ hH
 exact⟨z,its,n,r,r.length,e⟩
theorem vP {n:Nat} (h:n<=sizeLine):Builtin.List.listTooLong n=false:=by
 unfold Builtin.List.listTooLong
 exact bn9 (by omega)
end
section
variable {X : Cx}
noncomputable def K6:V->List V->Hp->VK->Prop:=fun x vs H Q=>∃ l xs y,x = .ref l/\vs = [y]/\H l=some (.lst xs)/\xs.length < sizeLine/\Q .non (upd H l (.lst (xs ++ [y])))
theorem nH:nG X "list.append" K6:=by
 intro pins s σ H x vs v us Q I rx rv h
 obtain ⟨l,xs,y,rfl,rfl,hH,hz,q⟩:=h
 cases rx
 obtain ⟨u,rfl,ru⟩:=rv.one
 obtain ⟨z,its,n,r,hl,e⟩:=I.lstM hH
 refine call_meets F.slot_list_append ⟨_,e,rfl⟩ F.entry_list_append (F.args_list_append_2 _ _) (PySem.list_append l its.toArray n u (by rw [bn5]; omega)) ⟨e,?_⟩
 refine⟨.non,_,I.lset (its':=its ++ [u]) hH e (by simp) (r.append (.cons ru .nil)) ?_,rfl,q⟩
 rw [bo0,br1]
 omega
noncomputable def K7:V->List V->Hp->VK->Prop:=fun x vs H Q=>∃ l b xs zs,x = .ref l/\vs = [.ref b]/\H l=some (.lst xs)/\H b=some (.lst zs)/\xs.length+zs.length<=sizeLine/\Q .non (upd H l (.lst (xs ++ zs)))
theorem ax8:nG X "list.extend" K7:=by
 intro pins s σ H x vs v us Q I rx rv h
 obtain ⟨l,b,xs,zs,rfl,rfl,hH,hB,hz,q⟩:=h
 cases rx
 obtain ⟨u,rfl,ru⟩:=rv.one
 cases ru
 obtain ⟨z,its,n,r,hl,e⟩:=I.lstM hH
 obtain ⟨z2,its2,n2,r2,hl2,e2⟩:=I.lstM hB
 have hsz:its.toArray.size+its2.toArray.size<=sizeLine:=by rw [bn5,bn5]; omega
 have hlong : ¬ (!its.toArray.isEmpty && Builtin.List.listTooLong (its.toArray.size+its2.toArray.size))=true:=by
  rw [vP hsz,by9]
  exact bp9
 refine call_meets F.slot_list_extend ⟨_,e,rfl⟩ F.entry_list_extend (F.args_list_extend_2 _ _)
  (AutoSeq1.list_extend_list_list_0 l its.toArray n b its2.toArray n2 hlong (by rw [bn5]; omega) (by omega)) ⟨e,e2,?_⟩
 refine⟨.non,_,I.lset (its':=its ++ its2) hH e (by simp) (r.append r2) ?_,rfl,q⟩
 rw [bo0]
 omega
noncomputable def K8:V->List V->Hp->VK->Prop:=fun x vs H Q=>∃ l xs y,x = .ref l/\vs = []/\H l=some (.lst xs)/\xs[xs.length - 1]? = some y/\Q y (upd H l (.lst xs.dropLast))
theorem ax9:nG X "list.pop" K8:=by
 intro pins s σ H x vs v us Q I rx rv h
 obtain ⟨l,xs,y,rfl,rfl,hH,hy,q⟩:=h
 cases rx
 have hus:=rv.zero
 subst hus
 obtain ⟨z,its,n,r,hl,e⟩:=I.lstM hH
 obtain ⟨u,hu,ru⟩:=r.get hy
 have hy':its.toArray[its.toArray.size - 1]? = some u:=by
  show its.toArray[its.length - 1]? = some u
  rw [<- Array.getElem?_toList,<- hl]
  exact hu
 refine call_meets F.slot_list_pop ⟨_,e,rfl⟩ F.entry_list_pop (F.args_list_pop_1 _) (MeetsSeq.list_pop_last l its.toArray n u hy' (by rw [bn5]; omega)) ⟨e,?_⟩
 refine⟨y,_,I.lset (its':=its.dropLast) hH e ?_ r.dropLast ?_,ru,q⟩
 ·show its.toArray.eraseIdxIfInBounds (its.toArray.size - 1)=its.dropLast.toArray
  rw [bn5,List.eraseIdxIfInBounds_toArray,ax7]
 ·rw [List.length_dropLast]
  omega
noncomputable def K9:R2:=fun x y H Q=>∃ l k xs,x = .ref l/\y = .int k/\H l=some (.lst xs)/\-(2 ^ 63)<=k/\k < 2 ^ 63/\xs.length * k.toNat<=sizeLine/\
 ∀ p,H p=none->Q (.ref p) (upd H p (.lst (List.replicate k.toNat xs).flatten))
theorem ay0 {α:Type} (xs:List α) (k:Nat):(List.replicate k xs).flatten.length=k * xs.length:=by
 induction k with
 | zero=>simp
 | succ k ih=>rw [bw6,bx9,bo0,ih,Nat.succ_mul,Nat.add_comm]
theorem ay1:cF X (binaryOp .Mult) K9:=by
 intro pins s σ H x y v u Q I rx ry h
 obtain ⟨l,k,xs,rfl,rfl,hH,h1,h2,hz,q⟩:=h
 cases rx
 obtain ⟨t,rfl⟩:=ry
 obtain ⟨z,its,n,r,hl,e⟩:=I.lstM hH
 have hlen:its.toArray.size * k.toNat<=sizeLine:=by rw [bn5,<- hl]; exact hz
 have hcap : ¬ its.toArray.size * k.toNat > (2 ^ 63 - 1) / 8:=by
  have:(sizeLine:Nat)<=(2 ^ 63 - 1) / 8:=by decide
  omega
 have hfit : ¬ (!Builtin.List.listFitsIndex k)=true:=by
  rw [fitsIndex_both h1 h2]
  exact bp9
 have hlong : ¬ Builtin.List.listTooLong (its.toArray.size * k.toNat)=true:=by
  rw [vP hlen]
  exact bp9
 have hnew:List.foldl (fun x1 x2=>x1 ++ x2) #[] (List.replicate (if its.toArray.isEmpty=true then 0 else k.toNat) its.toArray)=(List.replicate k.toNat its).flatten.toArray:=by
  have f0:∀ m:Nat,List.foldl (fun x1 x2=>x1 ++ x2) #[] (List.replicate m its.toArray)=(List.replicate m its).flatten.toArray:=fun m=>by
   have:=K5 its m []
   rw [List.nil_append] at this
   exact this
  rw [f0]
  cases its with
  | nil=>simp
  | cons a r'=>rw [if_neg (by simp)]
 refine wpAny_binaryOp_repeat_ref (T:="list") (U:="int") (by decide) ⟨_,e,rfl⟩ (fun s'=>typeIs_int s' k t) noFill_list_mul F.fills_int_mul F.slot_int_rmul repeat_list F.slot_int_index.lookup
  (call_meets F.slot_int_rmul (typeIs_int s k t) F.entry_int_rmul (F.args_int_rmul_2 _ _) (int___rmul___int_list k t l its.toArray n)
   ⟨e,rfl,⟨_,e,rfl⟩,call_meets F.slot_list_mul ⟨_,e,rfl⟩ F.entry_list_mul (F.args_list_mul_2 _ _) (AutoListH.list___mul___list_int_3 l its.toArray n k t hfit hcap hlong) ⟨e,?_⟩⟩)
 rw [hnew]
 exact⟨.ref _,_,I.lnew (t':=s.toks) (r.rep k.toNat) (by rw [ay0,Nat.mul_comm]; exact hz),rfl,q _ I.fresh⟩
end
section
variable {κ : Type} [DecidableEq κ]
noncomputable def gO (kvs:List (κ × V)) (k:κ):Option V:=(kvs.find? fun kv=>decide (kv.1=k)).map (·.2)
noncomputable def fA (kvs:List (κ × V)) (k:κ) (v:V):List (κ × V):=
 if (kvs.any fun kv=>decide (kv.1=k))=true then kvs.map (fun kv=>if kv.1=k then (kv.1,v) else kv) else kvs ++ [(k,v)]
theorem vQ {p:κ × V}{r:List (κ × V)}{k:κ} (e:p.1=k):gO (p :: r) k=some p.2:=by simp [gO,by3,e]
theorem vR {p:κ × V}{r:List (κ × V)}{k:κ} (e : ¬ p.1=k):gO (p :: r) k=gO r k:=by simp [gO,by3,e]
theorem L4 (k:κ):∀ kvs:List (κ × V),(kvs.any fun kv=>decide (kv.1=k))=(gO kvs k).isSome
 | []=>rfl
 | p :: r=>by
  rw [List.any_cons]
  by_cases e:p.1=k
  ·simp only [vQ e,bn4 e,Bool.true_or,Option.isSome_some]
  ·rw [vR e,bn9 e,Bool.false_or]; exact L4 k r
theorem vS (kvs:List (κ × V)) (k:κ) (v:V):(fA kvs k v).length<=kvs.length+1:=by
 unfold fA
 split
 ·rw [bn7]; omega
 ·rw [bo0,bp8,List.length_nil]; omega
theorem kF.isSome_eq {o:Option V}{u:Option Value} (r:kF o u):o.isSome=u.isSome:=by
 cases o with
 | none=>cases u with
  | none=>rfl
  | some _=>exact (show False from r).elim
 | some _=>cases u with
  | none=>exact (show False from r).elim
  | some _=>rfl
theorem kF.getD {o:Option V}{u:Option Value}{d:V}{d':Value} (r:kF o u) (rd:b5 d d'):b5 (o.getD d) (u.getD d'):=by
 cases o with
 | none=>cases u with
  | none=>exact rd
  | some _=>exact (show False from r).elim
 | some _=>cases u with
  | none=>exact (show False from r).elim
  | some _=>exact r
theorem KV.val {kvs:List (κ × V)}{vs:List (κ × Value)} (r:KV kvs vs) (k:κ):kF (gO kvs k) (valueAt vs k):=by
 unfold KV at r
 induction r with
 | nil=>exact bC3
 | @cons p q ps qs h t ih=>
  obtain ⟨h1,h2⟩:=h
  by_cases e:p.1=k
  ·have e':q.1=k:=h1.symm.trans e
   have b:valueAt (q :: qs) k=some q.2:=by simp [valueAt,by3,e']
   rw [vQ e,b]; exact h2
  ·have e' : ¬ q.1=k:=fun z=>e (h1.trans z)
   have b:valueAt (q :: qs) k=valueAt qs k:=by simp [valueAt,by3,e']
   rw [vR e,b]; exact ih
theorem KV.any {kvs:List (κ × V)}{vs:List (κ × Value)} (r:KV kvs vs) (k:κ):(kvs.any fun kv=>decide (kv.1=k))=vs.any fun kv=>decide (kv.1=k):=by
 unfold KV at r
 induction r with
 | nil=>rfl
 | cons h t ih=>rw [List.any_cons,List.any_cons,ih,h.1]
theorem KV.repl {kvs:List (κ × V)}{vs:List (κ × Value)} (r:KV kvs vs) (k:κ) {y:V}{u:Value} (ry:b5 y u) :
  KV (kvs.map fun kv=>if kv.1=k then (kv.1,y) else kv) (vs.map fun kv=>if kv.1=k then (kv.1,u) else kv):=by
 unfold KV at r ⊢
 induction r with
 | nil=>exact .nil
 | @cons p q ps qs h t ih=>
  rw [bs8,bs8]
  refine .cons ?_ ih
  obtain ⟨h1,h2⟩:=h
  by_cases e:p.1=k
  ·rw [if_pos e,if_pos (h1.symm.trans e)]; exact⟨h1,ry⟩
  ·rw [if_neg e,if_neg (fun z=>e (h1.trans z))]; exact⟨h1,h2⟩
theorem KV.put {kvs:List (κ × V)}{vs:List (κ × Value)} (r:KV kvs vs) (k:κ) {y:V}{u:Value} (ry:b5 y u):KV (fA kvs k y) (stored vs k u):=by
 unfold fA stored
 rw [r.any k]
 by_cases e:(vs.any fun kv=>decide (kv.1=k))=true
 ·rw [if_pos e,if_pos e]; exact r.repl k ry
 ·rw [if_neg e,if_neg e]; exact Paired.snoc r ⟨rfl,ry⟩
theorem KV.length {kvs:List (κ × V)}{vs:List (κ × Value)} (r:KV kvs vs):kvs.length=vs.length:=Paired.length r
end
theorem nI {P:Program}{w:World}{k:aE}{u:Value} (r:b5 (kV k) u):(eN P w).is k u=true:=by
 cases k with
 | inl i=>obtain ⟨t,e⟩:=(show ∃ t,u=Value.int i t from r); subst e; exact ao6 P w i t
 | inr x=>obtain ⟨t,e⟩:=(show ∃ t,u=Value.str x t from r); subst e; exact ao7 P w x t
theorem L5 {P:Program}{w:World}:∀ {ks:List aE}{us:List Value},aR (ks.map kV) us->ItemsAre (eN P w) ks us
 | [],_,r=>by rw [List.map_nil] at r; cases r; exact .nil
 | k :: ks,_,r=>by
  rw [bs8] at r
  cases r with
  | cons h t=>exact .cons (nI h) (L5 t)
noncomputable abbrev KT (H:Hp):List (List aE × V)->List (List aE × Addr × Value)->Prop:=Paired fun p q=>p.1=q.1/\H q.2.1=some (.tup (p.1.map kV))/\b5 p.2 q.2.2
theorem KT.val {H:Hp}{kvs:List (List aE × V)}{xs:List (List aE × Addr × Value)} (r:KT H kvs xs) (k:List aE):kF (gO kvs k) ((atKey xs k).map (·.2)):=by
 induction r with
 | nil=>exact bC3
 | @cons p q ps qs h t ih=>
  obtain ⟨h1,_,h2⟩:=h
  by_cases e:p.1=k
  ·have e':q.1=k:=h1.symm.trans e
   have b:atKey (q :: qs) k=some q.2:=by simp [atKey,by3,e']
   rw [vQ e,b]; exact h2
  ·have e' : ¬ q.1=k:=fun z=>e (h1.trans z)
   have b:atKey (q :: qs) k=atKey qs k:=by simp [atKey,by3,e']
   rw [vR e,b]; exact ih
theorem KT.repl {H:Hp}{kvs:List (List aE × V)}{xs:List (List aE × Addr × Value)} (r:KT H kvs xs) (k:List aE) {y:V}{u:Value} (ry:b5 y u) :
  KT H (kvs.map fun kv=>if kv.1=k then (kv.1,y) else kv) (xs.map (putAt k u)):=by
 induction r with
 | nil=>exact .nil
 | @cons p q ps qs h t ih=>
  rw [bs8,bs8]
  refine .cons ?_ ih
  obtain ⟨h1,h2,h3⟩:=h
  unfold putAt
  by_cases e:p.1=k
  ·rw [if_pos e,if_pos (h1.symm.trans e)]; exact⟨h1,h2,ry⟩
  ·rw [if_neg e,if_neg (fun z=>e (h1.trans z))]; exact⟨h1,h2,h3⟩
theorem KT.put {H:Hp}{kvs:List (List aE × V)}{xs:List (List aE × Addr × Value)} (r:KT H kvs xs) (k:List aE) {b:Addr}{y:V}{u:Value} (hb:H b=some (.tup (k.map kV))) (ry:b5 y u) :
  KT H (fA kvs k y) (storedH xs k b u):=by
 have e:(kvs.any fun kv=>decide (kv.1=k))=(atKey xs k).isSome:=by
  rw [L4,(r.val k).isSome_eq,Option.isSome_map]
 unfold fA storedH
 rw [e]
 by_cases q:(atKey xs k).isSome=true
 ·rw [if_pos q,if_pos q]; exact r.repl k ry
 ·rw [if_neg q,if_neg q]; exact Paired.snoc r ⟨rfl,hb,ry⟩
theorem KT.keeps {H H':Hp}{kvs:List (List aE × V)}{xs:List (List aE × Addr × Value)} (r:KT H kvs xs) (ht:∀ b ys,H b=some (.tup ys)->H' b=some (.tup ys)):KT H' kvs xs:=
 Paired.mapP r fun _ _ z=>⟨z.1,ht _ _ z.2.1,z.2.2⟩
section
variable {P : Program} {w : World} {H : Hp} {h : Heap} {a : Addr}
theorem L6 {u:HO} (ok:cE P w H h) (e:Rd H a u):cD P w H h a u:=e.ok ok
theorem nJ {kvs:List (aE × V)} (ok:cE P w H h) (e:Rd H a (.dK kvs)):kvs.length<=sizeLine/\(a == sysModules)=false/\∃ vs,KV kvs vs/\h.DictOf (eN P w) a vs:=
 show cD P w H h a (.dK kvs) from L6 ok e
theorem rO {kvs:List (aE × V)} (ok:cE P w H h) (e:H a=some (.dK kvs)):kvs.length<=sizeLine/\(a == sysModules)=false/\∃ vs,KV kvs vs/\h.DictOf (eN P w) a vs:=nJ ok (.inl e)
theorem pJ {ks:List aE} (ok:cE P w H h) (e:H a=some (.tup (ks.map kV))):(tupleKind (eN P w)).is h ks a:=by
 obtain ⟨_,its,r,⟨o,h1,h2,n,h3⟩,_⟩:=(show cD P w H h a (.tup (ks.map kV)) from ok a _ e)
 exact⟨o,its.toArray,n,h1,h2,h3,by simpa using L5 r⟩
theorem pK {kvs:List (List aE × V)} (ok:cE P w H h) (e:Rd H a (.dT kvs)):kvs.length<=sizeLine/\(a == sysModules)=false/\
  ∃ xs,KT H kvs xs/\h.DictOfH (tupleKind (eN P w)) a xs:=by
 obtain ⟨z,y,xs,r,o,es,ep,h1,h2,h3,h4,h5⟩:=(show cD P w H h a (.dT kvs) from L6 ok e)
 refine⟨z,y,xs,r,o,es,ep,h1,h2,h3,h4,fun x hx=>?_,h5⟩
 have all:∀ {l:List (List aE × V)}{m:List (List aE × Addr × Value)},KT H l m->∀ x ∈ m,(tupleKind (eN P w)).is h x.1 x.2.1:=by
  intro l m q
  induction q with
  | nil=>intro x hx; exact nomatch hx
  | @cons p q ps qs hq t ih=>
   intro x hx
   rcases bo3.mp hx with e | hx
   ·subst e
    exact pJ ok (by rw [<- hq.1]; exact hq.2.1)
   ·exact ih x hx
 exact all r x hx
theorem ay2 {kvs:List (List aE × V)} (ok:cE P w H h) (e:H a=some (.dT kvs)):kvs.length<=sizeLine/\(a == sysModules)=false/\
  ∃ xs,KT H kvs xs/\h.DictOfH (tupleKind (eN P w)) a xs:=pK ok (.inl e)
end
noncomputable def iA (H:Hp) (a:Addr) (y:V) (r:Option V):Prop:=
 (∃ kvs k,Rd H a (.dK kvs)/\y=kV k/\r=gO kvs k) ∨ ∃ kvs k b,Rd H a (.dT kvs)/\y = .ref b/\H b=some (.tup (k.map kV))/\r=gO kvs k
noncomputable def pL (H:Hp) (a:Addr) (y v:V) (H':Hp):Prop:=
 (∃ kvs k,H a=some (.dK kvs)/\y=kV k/\kvs.length < sizeLine/\H'=upd H a (.dK (fA kvs k v))) ∨
 ∃ kvs k b,H a=some (.dT kvs)/\y = .ref b/\H b=some (.tup (k.map kV))/\kvs.length < sizeLine/\H'=upd H a (.dT (fA kvs k v))
theorem iA.k {H:Hp}{a:Addr}{kvs:List (aE × V)}{k:aE} (e:H a=some (.dK kvs)):iA H a (kV k) (gO kvs k):=.inl ⟨kvs,k,.inl e,rfl,rfl⟩
theorem iA.t {H:Hp}{a b:Addr}{kvs:List (List aE × V)}{k:List aE} (e:H a=some (.dT kvs)) (eb:H b=some (.tup (k.map kV))):iA H a (.ref b) (gO kvs k):=.inr ⟨kvs,k,b,.inl e,rfl,eb,rfl⟩
theorem pL.k {H:Hp}{a:Addr}{kvs:List (aE × V)}{k:aE}{v:V} (e:H a=some (.dK kvs)) (hl:kvs.length < sizeLine):pL H a (kV k) v (upd H a (.dK (fA kvs k v))):=.inl ⟨kvs,k,e,rfl,hl,rfl⟩
section
variable {X : Cx} {pins : List (Addr × Obj)} {σ : St} {H : Hp} {s : Shared} {a : Addr} {y v : V} {u r : Value} {o : Option V} {A : Around} {E : Value → Shared → Prop}
theorem a8.big (I:a8 X pins σ H s):sysModules < s.heap.objs.size:=by
 have h:mainGlobals < s.heap.objs.size:=(I.mod.glob.keeps I.bk).lt
 exact Nat.lt_trans (by decide) h
theorem ay3 {Q:Value->Shared->Prop} (hu:A.units+1 < cLine) (I:a8 X pins σ H s) (g:iA H a y o) (ry:b5 y u) (h:∀ s',a8 X pins σ H s'->Q (.bool o.isSome) s') :
  wpAny (model X.prog X.w) A (compareOp .In u (.ref a)) Q E s:=by
 rcases g with ⟨kvs,k,e,ey,l⟩ | ⟨kvs,k,b,e,ey,eb,l⟩
 ·subst ey
  obtain ⟨z,hd,vs,rel,dd⟩:=nJ I.hok e
  refine wpAny_in_of (nI ry) hd dd.mapOf ?_
  rw [<- (rel.val k).isSome_eq,<- l]
  exact h _ (I.tok _)
 ·subst ey
  cases (show u=Value.ref b from ry)
  obtain ⟨z,hd,xs,rel,dd⟩:=pK I.hok e
  refine wpAny_in_heap (tupleKind_room_in1 hu) (pJ I.hok eb) hd dd ?_
  have q:=(rel.val k).isSome_eq
  rw [Option.isSome_map] at q
  rw [<- q,<- l]
  exact h _ (I.tok _)
theorem ay4 {Q:Value->Shared->Prop} (hu:A.units+1 < cLine) (I:a8 X pins σ H s) (g:iA H a y o) (ry:b5 y u) (h:∀ s',a8 X pins σ H s'->Q (.bool (!o.isSome)) s') :
  wpAny (model X.prog X.w) A (compareOp .NotIn u (.ref a)) Q E s:=by
 rcases g with ⟨kvs,k,e,ey,l⟩ | ⟨kvs,k,b,e,ey,eb,l⟩
 ·subst ey
  obtain ⟨z,hd,vs,rel,dd⟩:=nJ I.hok e
  refine wpAny_notIn_of (nI ry) hd dd.mapOf ?_
  rw [<- (rel.val k).isSome_eq,<- l]
  exact h _ (I.tok _)
 ·subst ey
  cases (show u=Value.ref b from ry)
  obtain ⟨z,hd,xs,rel,dd⟩:=pK I.hok e
  refine wpAny_notIn_heap (tupleKind_room_in1 hu) (pJ I.hok eb) hd dd ?_
  have q:=(rel.val k).isSome_eq
  rw [Option.isSome_map] at q
  rw [<- q,<- l]
  exact h _ (I.tok _)
theorem rP {h':Heap}{t':Nat}{ob:HO} (I:a8 X pins σ H s) (mu:oT (H a)) (hs:Heap.SameBut a s.heap h') (he:∃ q,h'.get? a=some q) (new:cD X.prog X.w (upd H a ob) h' a ob) :
  a8 X pins σ (upd H a ob) { s with heap:=h',toks:=t' }:=
 I.write (x:=a) (e:=a) mu (.inl rfl) (fun b q hb z=>(hs.2 b hb).trans z) he new
theorem vT {P:Program}{w:World}{H':Hp}{h':Heap}{kvs:List (aE × V)}{vs:List (aE × Value)} (z:kvs.length<=sizeLine) (hd:(a == sysModules)=false) (rel:KV kvs vs) (dd:h'.DictOf (eN P w) a vs) :
  cD P w H' h' a (.dK kvs):=⟨z,hd,vs,rel,dd⟩
theorem ay5 {H':Hp}{Q:Unit->Shared->Prop} (hu:A.units+1 < cLine) (I:a8 X pins σ H s) (g:pL H a y v H') (ry:b5 y u) (rv:b5 v r) (h:∀ s',a8 X pins σ H' s'->Q () s') :
  wpAny (model X.prog X.w) A (setItem (.ref a) u r) Q E s:=by
 rcases g with ⟨kvs,k,e,ey,l,eH⟩ | ⟨kvs,k,b,e,ey,eb,l,eH⟩
 ·subst ey eH
  obtain ⟨z,hd,vs,rel,dd⟩:=rO I.hok e
  have hz:vs.length<=sizeLine:=by rw [<- rel.length]; exact z
  have hl:(fA kvs k v).length<=sizeLine:=by have:=vS kvs k v; omega
  refine wpAny_setItem_pairs (hsz:=hz) (nI ry) dd fun h' dd' hs=>h _ ?_
  have he:∃ q,h'.get? a=some q:=let ⟨q,_,_,hq,_⟩:=dd'; ⟨q,hq⟩
  exact rP I (by rw [e]; exact bC3) hs he (vT hl hd (rel.put k rv) dd')
 ·subst ey eH
  cases (show u=Value.ref b from ry)
  obtain ⟨z,hd,xs,rel,dd⟩:=ay2 I.hok e
  have hz:xs.length<=sizeLine:=by rw [<- Paired.length rel]; exact z
  have hl:(fA kvs k v).length<=sizeLine:=by have:=vS kvs k v; omega
  refine wpAny_setItem_heap (hsz:=hz) (tupleKind_room_in1 hu) (pJ I.hok eb) dd fun h' dd' hs=>h _ ?_
  obtain ⟨q,es,ep,hq,h2,h3,h4,_,h5⟩:=dd'
  refine rP I (by rw [e]; exact bC3) hs ⟨q,hq⟩ ⟨hl,hd,_,(rel.put k eb rv).keeps fun c ys ec=>?_,q,es,ep,hq,h2,h3,h4,h5⟩
  rw [aX (ao8 ec e (fun z=>nomatch z))]
  exact ec
end
section
variable {X : Cx} {pins : List (Addr × Obj)} {σ : St} {H : Hp} {s : Shared} {a : Addr} {kvs : List (aE × V)} {k : aE} {u : Value} {A : Around} {E : Value → Shared → Prop}
theorem ay6 {Q:Value->Shared->Prop} (I:a8 X pins σ H s) (e:Rd H a (.dK kvs)) (h:∀ t s',a8 X pins σ H s'->Q (.int kvs.length t) s'):wpAny (model X.prog X.w) A (call (.builtin "len") [.ref a]) Q E s:=by
 obtain ⟨z,hd,vs,rel,dd⟩:=nJ I.hok e
 refine call_len_dict hd dd (by rw [<- rel.length]; rw [sizeLine_eq] at z; omega) ?_
 rw [<- rel.length]
 exact h _ _ (I.tok _)
end
noncomputable def L7 (ty td:TE):TE:=fun σ H Q=>ty σ H fun y H1=>td σ H1 fun x H2=>∃ a o,x = .ref a/\iA H2 a y o/\Q (.bl o.isSome) H2
noncomputable def L8 (ty td:TE):TE:=fun σ H Q=>ty σ H fun y H1=>td σ H1 fun x H2=>∃ a o,x = .ref a/\iA H2 a y o/\Q (.bl (!o.isSome)) H2
noncomputable def L9 (td ty tv:TE):TS:=fun D σ H=>tv σ H fun v H1=>td σ H1 fun x H2=>ty σ H2 fun y H3=>∃ a H4,x = .ref a/\pL H3 a y v H4/\D.nx σ H4
section
variable {X : Cx} {o i e value : Expr} {pos pos' tpos : Pos} {td ty tv : TE}
theorem ay7 (hu:X.A.units+1 < cLine) (hi:PE X i ty) (ho:PE X o td):PC X .In i o (L7 ty td):=by
 intro pins s σ H Q I h
 refine aQ (hi pins s σ H _ I h) fun iv s1 ⟨y,H1,I1,ry,q1⟩=>aQ (ho pins s1 σ H1 _ I1 q1) fun u s2 ⟨x,H2,I2,rx,a,ov,ex,g,q2⟩=>?_
 subst ex
 obtain rfl:u=Value.ref a:=rx
 exact ay3 hu I2 g ry fun s3 I3=>⟨.bl ov.isSome,H2,I3,rfl,q2⟩
theorem M0 (hu:X.A.units+1 < cLine) (hi:PE X i ty) (ho:PE X o td):PC X .NotIn i o (L8 ty td):=by
 intro pins s σ H Q I h
 refine aQ (hi pins s σ H _ I h) fun iv s1 ⟨y,H1,I1,ry,q1⟩=>aQ (ho pins s1 σ H1 _ I1 q1) fun u s2 ⟨x,H2,I2,rx,a,ov,ex,g,q2⟩=>?_
 subst ex
 obtain rfl:u=Value.ref a:=rx
 exact ay4 hu I2 g ry fun s3 I3=>⟨.bl (!ov.isSome),H2,I3,rfl,q2⟩
theorem ay8 (hu:X.A.units+1 < cLine) (ho:PE X o td) (hi:PE X i ty) (hv:PE X value tv) (hs:swapsWith value (some (.Subscript o i pos')) pos.line X.env=pure false) :
  PS X (.Assign [.Subscript o i pos'] value pos) (L9 td ty tv):=by
 intro pins s σ H D I h
 refine wpAny_Assign_Subscript (aQ (hv pins s σ H _ I h) fun r s1 ⟨v,H1,I1,rv,q1⟩=>aQ (ho pins s1 σ H1 _ I1 q1) fun u s2 ⟨x,H2,I2,rx,q2⟩=>aQ (hi pins s2 σ H2 _ I2 q2) fun iv s3 ⟨y,H3,I3,ry,a,H4,ex,g,q3⟩=>?_) hs
 subst ex
 obtain rfl:u=Value.ref a:=rx
 exact ay5 hu I3 g ry rv fun s4 I4=>⟨σ,H4,I4,q3⟩
end
theorem M3 {P:Program}{w:World}{H:Hp} (h:Heap) (hb:sysModules < h.objs.size):cD P w H (h.push { cls:=.type "dict",data:=.dict #[] }) h.objs.size (.dK []):=
 ⟨br9 _,beq_eq_false_iff_ne.mpr (Ne.symm (br7 hb)),[],.nil,Heap.DictOf.new h⟩
noncomputable def M4:TE:=fun _ H Q=>∀ p,H p=none->Q (.ref p) (upd H p (.dK []))
section
variable {X : Cx} {pos : Pos}
theorem ay9:PE X (.Dict [] [] pos) M4:=fun pins s σ H Q I h=>
 wpAny_Dict_empty ⟨.ref s.heap.objs.size,_,I.laid (a:=s.heap.objs.size) (o:=.dK []) (t':=s.toks) (fun _ _ q=>bn6 _ q) (bo7 _) (M3 s.heap I.big),rfl,h _ (I.hok.fresh (bo7 _))⟩
end
noncomputable def vU:List (TE × TE)->St->Hp->(List (V × V)->Hp->Prop)->Prop
 | [],_,H,Q=>Q [] H
 | (tk,tv) :: r,σ,H,Q=>tk σ H fun x H1=>tv σ H1 fun y H2=>vU r σ H2 fun ps H3=>Q ((x,y) :: ps) H3
noncomputable abbrev VV:List (V × V)->List (Value × Value)->Prop:=Paired fun p q=>b5 p.1 q.1/\b5 p.2 q.2
noncomputable def rQ (X:Cx) (pos:Pos) (keys:List (Option Expr)) (values:List Expr) (trs:List (TE × TE)):Prop:=
 ∀ (pins:List (Addr × Obj)) (s:Shared) (σ:St) (H:Hp) (Q:List (V × V)->Hp->Prop),a8 X pins σ H s->vU trs σ H Q->
  wpAny (model X.prog X.w) X.A (evalPairs (pairTrees keys values X.env pos)) (fun vs s'=>∃ ps H',a8 X pins σ H' s'/\VV ps vs/\Q ps H') X.xe s
theorem az0 {X:Cx}{pos:Pos}:rQ X pos [] [] []:=fun pins s σ H Q I h=>pairTrees_nil_walk ⟨[],H,I,.nil,h⟩
theorem az1 {X:Cx}{pos:Pos}{k v:Expr}{ks:List (Option Expr)}{vs:List Expr}{tk tv:TE}{trs:List (TE × TE)} (hk:PE X k tk) (hv:PE X v tv) (hr:rQ X pos ks vs trs) :
  rQ X pos (some k :: ks) (v :: vs) ((tk,tv) :: trs):=fun pins s σ H Q I h=>
 pairTrees_cons_walk (aQ (hk pins s σ H _ I h) fun u s1 ⟨x,H1,I1,rx,q1⟩=>aQ (hv pins s1 σ H1 _ I1 q1) fun w2 s2 ⟨y,H2,I2,ry,q2⟩=>
  aQ (hr pins s2 σ H2 _ I2 q2) fun ws s3 ⟨ps,H3,I3,rel,q3⟩=>⟨(x,y) :: ps,H3,I3,.cons ⟨rx,ry⟩ rel,q3⟩)
noncomputable def jW (kvs more:List (aE × V)):List (aE × V):=more.foldl (fun acc kv=>fA acc kv.1 kv.2) kvs
theorem KV.merge:∀ {more:List (aE × V)}{rs:List (aE × Value)}{kvs:List (aE × V)}{vs:List (aE × Value)},KV more rs->KV kvs vs->KV (jW kvs more) (merged vs rs):=by
 intro more rs kvs vs r
 unfold KV at r
 induction r generalizing kvs vs with
 | nil=>intro q; exact q
 | @cons p q ps qs h t ih=>
  intro r0
  have e:KV (fA kvs p.1 p.2) (stored vs q.1 q.2):=by
   have:=r0.put p.1 h.2
   rw [<- h.1]; exact this
  exact ih e
theorem vV:∀ (more kvs:List (aE × V)),(jW kvs more).length<=kvs.length+more.length
 | [],kvs=>by show kvs.length<=kvs.length+0; omega
 | p :: r,kvs=>by
  have h1:=vV r (fA kvs p.1 p.2)
  have h2:=vS kvs p.1 p.2
  show (jW (fA kvs p.1 p.2) r).length<=_
  rw [bp8]; omega
theorem M5 {P:Program}{w:World}:∀ {kvs:List (aE × V)}{ws:List (Value × Value)},VV (kvs.map fun kv=>(kV kv.1,kv.2)) ws->∃ rs,Carries (eN P w) ws rs/\KV kvs rs
 | [],_,r=>by rw [List.map_nil] at r; cases r; exact⟨[],bC3,.nil⟩
 | p :: kvs,_,r=>by
  rw [bs8] at r
  cases r with
  | @cons a b as bs h t=>
   obtain ⟨rs,c,q⟩:=M5 (P:=P) (w:=w) t
   obtain ⟨b1,b2⟩:=b
   exact⟨(p.1,b2) :: rs,⟨nI h.1,rfl,c⟩,.cons ⟨rfl,h.2⟩ q⟩
noncomputable def M6 (trs:List (TE × TE)):TE:=fun σ H Q=>∀ p,H p=none->vU trs σ (upd H p (.dK [])) fun ps H2=>H2 p=some (.dK [])/\∃ kvs:List (aE × V),ps=kvs.map (fun kv=>(kV kv.1,kv.2))/\kvs.length<=15/\Q (.ref p) (upd H2 p (.dK (jW [] kvs)))
theorem az2 {X:Cx}{pos:Pos}{keys:List (Option Expr)}{values:List Expr}{trs:List (TE × TE)} (h:rQ X pos keys values trs) (hall:keys.all (·.isSome)=true) (hl:keys.length=values.length) (h0:keys ≠ [])
  (h15:keys.length<=15):PE X (.Dict keys values pos) (M6 trs):=by
 intro pins s σ H Q I q
 have hn:=I.hok.fresh (bo7 s.heap.objs.size)
 have I1:=I.laid (a:=s.heap.objs.size) (o:=.dK []) (h':=s.heap.push { cls:=.type "dict",data:=.dict #[] }) (t':=s.toks) (fun _ _ q=>bn6 _ q) (bo7 _) (M3 s.heap I.big)
 refine wpAny_Dict_walk (knd:=eN X.prog X.w) hall hl h0 h15 (aQ (h pins _ σ _ _ I1 (q _ hn)) fun ws s2 ⟨ps,H2,I2,rel,e,kvs,ep,lk,q2⟩=>?_)
 subst ep
 obtain ⟨rs,c,rk⟩:=M5 (P:=X.prog) (w:=X.w) rel
 obtain ⟨z,hd,vs0,r0,dd⟩:=rO I2.hok e
 cases r0
 refine⟨rs,c,dd,fun h' dd' hs=>⟨.ref s.heap.objs.size,_,?_,rfl,q2⟩⟩
 have hz:(jW [] kvs).length<=sizeLine:=by
  have h1:=vV kvs []
  rw [List.length_nil] at h1
  rw [sizeLine_eq]; omega
 have he:∃ q,h'.get? s.heap.objs.size=some q:=let ⟨q,_,_,hq,_⟩:=dd'; ⟨q,hq⟩
 exact rP I2 (by rw [e]; exact bC3) hs he (vT hz hd (rk.merge .nil) dd')
structure M1 (X:Cx) (o:Expr) (m:Str) (apos:Pos) (e:Expr) (cpos:Pos):Prop where
 base:attributeBase o m X.env (eval o X.env)=eval o X.env
 few:((backTo cpos (starEach [e] X.env)).all (fun x=>!x.1) && (backToKw cpos (keywordEach [] X.env)).all (fun x=>x.1.isSome)
  && decide (([e]:List Expr).length+([]:List Keyword).length+(if ([]:List Keyword).isEmpty then 0 else 1) < 30))=true
 line:(apos.endLine == cpos.line)=true
 trees:backTo cpos (starEach [e] X.env) = [(false,eval e X.env)]
structure M2 (X:Cx) (o:Expr) (m:Str) (apos:Pos) (e f:Expr) (cpos:Pos):Prop where
 base:attributeBase o m X.env (eval o X.env)=eval o X.env
 few:((backTo cpos (starEach [e,f] X.env)).all (fun x=>!x.1) && (backToKw cpos (keywordEach [] X.env)).all (fun x=>x.1.isSome)
  && decide (([e,f]:List Expr).length+([]:List Keyword).length+(if ([]:List Keyword).isEmpty then 0 else 1) < 30))=true
 line:(apos.endLine == cpos.line)=true
 trees:backTo cpos (starEach [e,f] X.env) = [(false,eval e X.env),(false,eval f X.env)]
noncomputable def vW (H:Hp) (a:Addr):Prop:=(∃ kvs,Rd H a (.dK kvs)) ∨ ∃ kvs,Rd H a (.dT kvs)
theorem M7 {X:Cx}{pins:List (Addr × Obj)}{σ:St}{H:Hp}{s:Shared}{a:Addr} (I:a8 X pins σ H s) (d:vW H a) :
  s.TypeIs (.ref a) "dict"/\(∀ b,Value.ref a = .ref b->∃ ob,s.heap.get? b=some ob/\ob.dict=none)/\(a == sysModules)=false:=by
 rcases d with ⟨kvs,e⟩ | ⟨kvs,e⟩
 ·obtain ⟨_,hd,vs,_,dd⟩:=nJ I.hok e
  refine⟨dd.typeIs,fun b q=>?_,hd⟩
  cases q
  obtain ⟨ob,_,_,h1,h2,_⟩:=dd
  exact⟨ob,h1,h2.2.1⟩
 ·obtain ⟨_,hd,xs,_,dd⟩:=pK I.hok e
  refine⟨dd.typeIs,fun b q=>?_,hd⟩
  cases q
  obtain ⟨ob,_,_,h1,h2,_⟩:=dd
  exact⟨ob,h1,h2.2.1⟩
section
variable {X : Cx} {pins : List (Addr × Obj)} {σ : St} {H : Hp} {s : Shared} {a : Addr} {y d : V} {u r : Value} {o : Option V} {A : Around} {E : Value → Shared → Prop}
theorem az3 {Q:Value->Shared->Prop} (hu:A.units+1 < cLine) (I:a8 X pins σ H s) (g:iA H a y o) (ry:b5 y u) (rd:b5 d r) (h:∀ w' s',a8 X pins σ H s'->b5 (o.getD d) w'->Q w' s') :
  wpAny (model X.prog X.w) A (call (.builtin "dict.get") [.ref a,u,r]) Q E s:=by
 rcases g with ⟨kvs,k,e,ey,l⟩ | ⟨kvs,k,b,e,ey,eb,l⟩
 ·subst ey
  obtain ⟨z,hd,vs,rel,dd⟩:=nJ I.hok e
  refine call_meetsIn PySem.F.slot_dict_get dd.typeIs PySem.F.entry_dict_get (PySem.F.args_dict_get_3 _ _ _) (meets_dict_get_default (eN X.prog X.w) a (nI ry) hd r) ⟨_,dd.mapOf,h _ _ (I.tok _) ?_⟩
  rw [l]
  exact (rel.val k).getD rd
 ·subst ey
  cases (show u=Value.ref b from ry)
  obtain ⟨z,hd,xs,rel,dd⟩:=pK I.hok e
  refine call_meetsIn PySem.F.slot_dict_get dd.typeIs PySem.F.entry_dict_get (PySem.F.args_dict_get_3 _ _ _) (meetsH_dict_get_default (tupleKind (eN X.prog X.w)) a b hd r) ⟨tupleKind_room_in1 hu,k,xs,pJ I.hok eb,dd,h _ _ (I.tok _) ?_⟩
  rw [l]
  exact (rel.val k).getD rd
end
noncomputable def M8 (td ty tx:TE):TE:=fun σ H Q=>td σ H fun x H1=>∃ a,x = .ref a/\vW H1 a/\ty σ H1 fun y H2=>tx σ H2 fun z H3=>∃ o,iA H3 a y o/\Q (o.getD z) H3
section
variable {X : Cx} {o e f : Expr} {apos cpos : Pos} {td ty tx : TE}
theorem az4 (hu:X.A.units+1 < cLine) (ho:PE X o td) (he:PE X e ty) (hf:PE X f tx) (m:M2 X o "get" apos e f cpos):PE X (.Call (.Attribute o "get" apos) [e,f] [] cpos) (M8 td ty tx):=by
 intro pins s σ H Q I h
 refine wpAny_Call_method m.base m.few m.line PySem.F.plainAttrs_dict PySem.F.slot_dict_get PySem.F.type_dict_get (aQ (ho pins s σ H _ I h) fun u s1 ⟨x,H1,I1,rx,a,ex,d,q1⟩=>?_)
 subst ex
 obtain rfl:u=Value.ref a:=rx
 obtain ⟨t1,t2,_⟩:=M7 I1 d
 refine⟨t1,t2,?_⟩
 rw [m.trees]
 refine Calls.callWith_builtin rfl (Calls.evalArgs_plain (Calls.spliced_cons (aQ (he pins s1 σ H1 _ I1 q1) fun iv s2 ⟨y,H2,I2,ry,q2⟩=>
  Calls.spliced_cons (aQ (hf pins s2 σ H2 _ I2 q2) fun fv s3 ⟨z,H3,I3,rz,ov,g,q3⟩=>Calls.spliced_nil ?_))))
 exact az3 hu I3 g ry rz fun w' s4 I4 rw'=>⟨_,H3,I4,rw',q3⟩
end
end L2
namespace Att
open PySem PySem.W PySem.Calls PyProof.Rows
theorem az5 {P:Params}{h:Heap}:∀ (ns:List Int) (vs:List Value),WellAll P h vs (ns.map WData.int)->IntsAre vs ns:=by
 intro ns
 induction ns with
 | nil=>
  intro vs w
  rw [List.map_nil] at w
  cases w
  exact .nil
 | cons n ns ih=>
  intro vs w
  rw [bs8] at w
  cases w with
  | cons a b=>
   cases a
   exact .cons _ _ (ih _ b)
theorem M9 {l:OpenLaw}{n:Nat} (hn:l.most=some n) {P:Params}{h:Heap}{args:List WData}{vals:List Value}
  (hpre:l.row.toRowW.claim.pre args=true) (hwl:WellAll P h vals args) :
  ∃ a vs ns,vals = [Value.ref a]/\args = [WData.list (ns.map WData.int)]/\h.get? a=some { cls:=.type "list",data:=.seq vs.toArray }/\IntsAre vs ns/\ns.length<=n:=by
 have hsh:WShape.hasAll [] args [.list .int]=true:=(pre_splitW hpre).1
 have hc:l.pre.holds [] { args:=args }=true:=(pre_splitW hpre).2
 obtain ⟨d,r,rfl,h1,h2⟩:=hasAllW_cons hsh
 obtain rfl:=hasAllW_nil h2
 obtain ⟨xs,rfl,h3⟩:=hasW_list h1
 obtain ⟨ns,rfl⟩:=items_int h3
 have hlen:ns.length<=n:=by
  unfold OpenLaw.pre at hc
  have h4:(WTm.not (.lt (.lit (.int (n:Int))) (.len (.arg 0)))).holds [] { args:=[.list (ns.map .int)] }=true:=by
   have h4:=(holds_andW hc).1
   rw [hn] at h4
   exact h4
  have h5:=condW_of h4 (w_not (w_lt w_lit (w_len_list (w_arg rfl))))
  rw [bn7] at h5
  refine bC0 fun q=>?_
  have q':(n:Int) < ((ns.length:Nat):Int):=by omega
  first
   | (rw [bn4 q'] at h5; exact absurd h5 (by decide))
   | (simp at h5; omega)
 cases hwl with
 | cons w1 w2=>
  cases w2
  cases w1 with
  | list ho hall=>exact⟨_,_,ns,rfl,rfl,ho,az5 ns _ hall,hlen⟩
theorem N0 (l:OpenLaw) (args:List WData):l.row.toRowW.claim.post args (.bool true) args=true:=
 postW_of (r:=l.row.toRowW) (X:=(true == true))
  (show WShape.has [] (.bool true) .bool=true by first | rfl | decide | simp [WShape.has,WShape.arms,WShape.armsAll])
  (show (WTm.eq .res (.lit (.bool true))).value [] { args:=args,res:=some (.bool true),after:=args }=some (.bool (true == true)) from w_eq_bool (w_res rfl) w_lit) rfl
theorem bn0 {l:OpenLaw}{n:Nat}{q:Program}{loose:List Str}{XP:(Str->Option Value)->Heap->Prop}{YP:World->Heap->Prop}{d:DefRec}{x:Str}
  (hn:l.most=some n) (hdf:d.params.defaults = [])
  (hbind:∀ pm cd doc v:Value,bindArgs (docDef d.name d.params d.body d.scope pm cd doc) ⟨[v],[]⟩=pure [(x,v)])
  (hx:d.scope.names.lookup x=some .local ∨ d.scope.names.lookup x=some .cell)
  (hk:d.scope.kind = .function) (hco:d.scope.isCoroutine=false) (hgen:d.scope.isGenerator=false)
  (body:∀ (w:World) (s₀ s₁ s:Shared) (mg mb:Str->Option Value) (fa:Addr) (o:Obj) (pm cd doc:Value) (a:Addr) (vs:List Value) (ns:List Int),
   Ground q loose [] XP w s₀ mg mb s₁.heap->YP w s₁.heap->
   s₁.heap.get? fa=some o->o.data = .func (docDef d.name d.params d.body d.scope pm cd doc)->s₁.heap.CodeRec cd d.name->mg d.name=some (.ref fa)->
   s₁.heap.get? a=some { cls:=.type "list",data:=.seq vs.toArray }->IntsAre vs ns->ns.length<=n->
   s.gens = #[]->s.os=s₁.os->
   Fr s₁.heap s₁.heap.objs.size s.heap (bindL (envOfC d.name d.scope s₁.heap.objs.size fa cd).kindOf [(x,.ref a)] fun _=>none)->
   Cl s₁.heap.objs.size (cellsFrom (s₁.heap.objs.size+1) d.scope.names []) s.heap (bindC (envOfC d.name d.scope s₁.heap.objs.size fa cd).kindOf [(x,.ref a)] fun _=>none)->
   wpAny (model l.prog w) (callerA.deeper (envOfC d.name d.scope s₁.heap.objs.size fa cd)) (execs d.body (envOfC d.name d.scope s₁.heap.objs.size fa cd))
    (fun f s'=>f = .ret (.bool true)/\OldK s₁.heap s'.heap/\s'.os=s₁.os/\AllBare s'.gens) (fun _ _=>False) s) :
  WalkO q loose XP YP l.row.toRowW d [] (fun f vs=>PySem.call f vs):=by
 intro w s₀ s₁ mg mb G Y fa o pm cd doc dV kV ho hd hcd hD hmg hg args vals as hpre hlay hrd hwl hlo
 obtain rfl:dV = .none:=Dflts.none hD hdf
 obtain rfl:kV = .none:=Dflts.noKw hD
 obtain ⟨a,vs,ns,rfl,rfl,hobj,hints,hlen⟩:=M9 hn hpre hwl
 refine enter_call ?_
 refine call_cells_ret (o:=o) (by rw [depth_caller]; decide) ho (fd_plain hd) G.T.nolimit hcd (hbind pm cd doc (.ref a)) (fun y hy=>?_) (fun h₁ tk F X=>?_) hco hgen hk
 ·obtain rfl:y=(x,Value.ref a):=bo2.mp hy
  rcases hx with e | e
  ·exact .inl e
  ·exact .inr ⟨e,cellsFrom_some _ _ _ (.inl e)⟩
 ·refine bw9 (body w s₀ s₁ { s₁ with heap:=h₁,toks:=tk } mg mb fa o pm cd doc a vs ns G Y ho (fd_plain hd) hcd hmg hobj hints hlen hg rfl F X) (fun f s' hq=>?_) (fun _ _ hq=>hq)
  obtain ⟨rfl,h2,h3,h4⟩:=hq
  exact⟨.inl ⟨.bool true,.bool true,[],rfl,fun _=>rfl,.bool true,N0 l _,fun _=>⟨bv2,fun _ hm=>(nomatch hm)⟩⟩,h2,h3,h4⟩
theorem az6 {l:OpenLaw}{n:Nat}{q:Program}{loose:List Str}{XP:(Str->Option Value)->Heap->Prop}{YP:World->Heap->Prop}{d:DefRec}
  (hn:l.most=some n) (hdf:d.params.defaults = [])
  (call:∀ (w:World) (s₀ s₁:Shared) (mg mb:Str->Option Value) (fa:Addr) (o:Obj) (pm cd doc:Value) (a:Addr) (vs:List Value) (ns:List Int),
   Ground q loose [] XP w s₀ mg mb s₁.heap->YP w s₁.heap->
   s₁.heap.get? fa=some o->o.data = .func (docDef d.name d.params d.body d.scope pm cd doc)->s₁.heap.CodeRec cd d.name->mg d.name=some (.ref fa)->
   s₁.heap.get? a=some { cls:=.type "list",data:=.seq vs.toArray }->IntsAre vs ns->ns.length<=n->s₁.gens = #[]->
   codeAny (model l.prog w) callerA (.call (.ref fa) ⟨[.ref a],[]⟩) (fun r s'=>r = .ok (.ret (.bool true))/\OldK s₁.heap s'.heap/\s'.os=s₁.os/\AllBare s'.gens) s₁) :
  WalkO q loose XP YP l.row.toRowW d [] (fun f vs=>PySem.call f vs):=by
 intro w s₀ s₁ mg mb G Y fa o pm cd doc dV kV ho hd hcd hD hmg hg args vals as hpre hlay hrd hwl hlo
 obtain rfl:dV = .none:=Dflts.none hD hdf
 obtain rfl:kV = .none:=Dflts.noKw hD
 obtain ⟨a,vs,ns,rfl,rfl,hobj,hints,hlen⟩:=M9 hn hpre hwl
 refine enter_call (codeAny_mono (call w s₀ s₁ mg mb fa o pm cd doc a vs ns G Y ho (fd_plain hd) hcd hmg hobj hints hlen hg) fun r s' hq=>?_)
 obtain ⟨rfl,h2,h3,h4⟩:=hq
 exact⟨.inl ⟨.bool true,.bool true,[],rfl,fun _=>rfl,.bool true,N0 l _,fun _=>⟨bv2,fun _ hm=>(nomatch hm)⟩⟩,h2,h3,h4⟩
end Att
namespace L2
open PySem PySem.Spec PyProof.Rows
theorem pM:∀ {vs:List Value}{ns:List Int},IntsAre vs ns->aR (ns.map V.int) vs
 | _,_,.nil=>.nil
 | _,_,.cons n t h=>.cons ⟨t,rfl⟩ (pM h)
noncomputable def rR (H:Hp):Prop:=∀ b,H b=none ∨ ∃ o xs,H b=some (.frz o (.lst xs))
theorem az7 {P:Program}{w:World}{K:PySem.W.Frag}{mg mb:Str->Option Value}{CX:iR}{k:Nat}{fa a:Addr}{fd:FuncData}{x:Str}{sp:Sp}{s₁:Shared}{vs:List Value}{ns:List Int}
  (KX:K.In s₁.heap) (hns:s₁.heap.Ns mainGlobals mg) (hb:s₁.heap.Ns builtinsNs mb) (hbb:∀ x:Str,x ≠ "__name__"->mb x=bootBuiltins x) (hlim:s₁.heap.NoLimit) (hg:s₁.gens = #[])
  (ha:s₁.heap.get? a=some { cls:=.type "list",data:=.seq vs.toArray }) (hi:IntsAre vs ns) (hl:ns.length<=sizeLine) (hr:cL k callerA)
  (F:∀ base:Heap,K.In base->base.Ns mainGlobals mg->dD P w K mg base CX k fa fd [x] sp) (hbind:∀ (s:Shared) (u:Value),BindsTo s fd ⟨[u],[]⟩ [(x,u)])
  (hsp:∀ H:Hp,rR H->aN K H a (ns.map V.int)->sp [.ref a] H (fun v _=>v = .bl true) fun _ _ _=>False)
  (hCX:∀ H e s',CX [] H s₁ (fun _ _ _=>False) e s'->False) :
  codeAny (model P w) callerA (.call (.ref fa) ⟨[.ref a],[]⟩) (fun r s'=>r = .ok (.ret (.bool true))/\OldK s₁.heap s'.heap/\s'.os=s₁.os/\AllBare s'.gens) s₁:=by
 have rv:=pM hi
 have lenV:=hi.length
 have core:∀ H:Hp,rR H->aN K H a (ns.map V.int)->cE P w H s₁.heap->(∀ b,H b ≠ none->b=a)->(H a ≠ none->K.lookup a=none)->
   codeAny (model P w) callerA (.call (.ref fa) ⟨[.ref a],[]⟩) (fun r s'=>r = .ok (.ret (.bool true))/\OldK s₁.heap s'.heap/\s'.os=s₁.os/\AllBare s'.gens) s₁:=by
  intro H hO hS hok hA hK
  have base_of:∀ {b:Addr}{o:Obj},s₁.heap.get? b=some o->H b=none->(kG s₁.heap H).get? b=some o:=fun e n=>ap0 e n
  have noA:∀ {b:Addr}{o:Obj}{es:Array DictEntry}{ep:Nat},s₁.heap.get? b=some o->o.data = .dict es ep->H b=none:=fun {b o es ep} e d=>by
   cases q:H b with
   | none=>rfl
   | some u=>
    have e':b=a:=hA b (by rw [q]; simp)
    subst e'
    rw [ha] at e; cases e
    have d':Data.seq vs.toArray _=Data.dict es ep:=d
    cases d'
  have nsK:∀ {b:Addr}{m:Str->Option Value},s₁.heap.Ns b m->(kG s₁.heap H).Ns b m:=fun {b m} ⟨o,es,ep,e,d,r⟩=>⟨o,es,ep,base_of e (noA e d),d,r⟩
  have hKb:K.In (kG s₁.heap H):=fun b o e=>base_of (KX b o e) (by
   cases q:H b with
   | none=>rfl
   | some u=>
    have e':b=a:=hA b (by rw [q]; simp)
    subst e'
    rw [hK (by rw [q]; simp)] at e; cases e)
  have hM:Mod K mg (kG s₁.heap H):=⟨hKb,nsK hns,⟨mb,nsK hb,hbb⟩,let ⟨mc,h1,h2⟩:=hlim; ⟨mc,nsK h1,h2⟩⟩
  have e0:rM P w K mg (kG s₁.heap H) callerA [] s₁ H:=⟨rfl,hM,fun b o e=>ap1 e,Nat.le_of_eq (ao9 _ _),trivial,fun b hb=>absurd (show b ∈ ([]:List Addr) from hb) (by simp),hok,.of_eq hg⟩
  refine codeAny_mono ((F _ hKb (nsK hns)).run callerA [] s₁ H ⟨[.ref a],[]⟩ [.ref a] [.ref a] _ _ hr e0 (hbind s₁ (.ref a)) (.cons rfl .nil) (hsp H hO hS)) fun r s' h=>?_
  cases r with
  | error e=>exact (hCX H e s' h).elim
  | ok fl=>
   cases fl with
   | next=>exact False.elim h
   | brk=>exact False.elim h
   | cont=>exact False.elim h
   | ret u=>
    obtain ⟨v,H',os,bare,un,hok',r',q⟩:=h
    have q':v = .bl true:=q
    subst q'
    obtain rfl:u=Value.bool true:=r'
    refine⟨rfl,OldK.of_keep fun b o e=>?_,os,bare⟩
    cases q:H b with
    | none=>exact un.keep b o e q (by intro z; exact absurd (show b ∈ ([]:List Addr) from z) (by simp)) (by simp)
    | some u=>
     rcases hO b with z | ⟨ob,xs,z⟩
     ·rw [q] at z; cases z
     ·have z2:=un.frzs b ob _ z
      obtain ⟨e1,_⟩:=hok b _ z
      obtain ⟨e2,_⟩:=hok' b _ z2
      rw [e] at e1; cases e1
      exact e2
 cases hk:K.lookup a with
 | some o=>
  have e:=KX a o hk
  rw [ha] at e
  cases e
  refine core (fun _=>none) (fun _=>.inl rfl) (.inr ⟨_,vs.toArray,_,hk,rfl,rfl,rfl,by rw [bn5,lenV]; exact hl,by simpa using rv⟩) (fun b u z=>by have z':(none:Option HO)=some u:=z; cases z') (fun b z=>absurd rfl z) fun z=>absurd rfl z
 | none=>
  refine core (fun b=>if b=a then some (.frz { cls:=.type "list",data:=.seq vs.toArray } (.lst (ns.map V.int))) else none) (fun b=>?_) (.inl (.inr ⟨{ cls:=.type "list",data:=.seq vs.toArray },if_pos rfl⟩)) (fun b u z=>?_) (fun b z=>?_) fun _=>hk
  ·by_cases hb:b=a
   ·exact .inr ⟨_,_,if_pos hb⟩
   ·exact .inl (if_neg hb)
  ·by_cases hb:b=a
   ·have z':=(if_pos hb).symm.trans z
    cases z'
    subst hb
    exact⟨ha,by rw [bn7]; exact hl,vs,_,rv,ha⟩
   ·have z':=(if_neg hb).symm.trans z
    cases z'
  ·by_cases hb:b=a
   ·exact hb
   ·exact absurd (if_neg hb) z
theorem az8 {l:PySem.W.OpenLaw}{n k:Nat}{q:Program}{loose:List Str}{XP:(Str->Option Value)->Heap->Prop}{YP:World->Heap->Prop}{d:DefRec}{K:Params->PySem.W.Frag}{CX:World->iR}{sp:World->Sp}{x:Str}
  (hn:l.most=some n) (hn2:n<=sizeLine) (hdf:d.params.defaults = []) (hr:cL k callerA)
  (hY:∀ (w:World) (h:Heap),YP w h->(K w.params).In h)
  (F:∀ (w:World) (mg:Str->Option Value) (fa:Addr) (h:Heap),(K w.params).In h->h.Ns mainGlobals mg->mg d.name=some (.ref fa)->
   ∃ fd:FuncData,(∀ (s:Shared) (u:Value),BindsTo s fd ⟨[u],[]⟩ [(x,u)])/\
    ∀ base:Heap,(K w.params).In base->base.Ns mainGlobals mg->dD l.prog w (K w.params) mg base (CX w) k fa fd [x] (sp w))
  (hsp:∀ (w:World) (H:Hp) (a:Addr) (ns:List Int),ns.length<=n->rR H->aN (K w.params) H a (ns.map V.int)->sp w [.ref a] H (fun v _=>v = .bl true) fun _ _ _=>False)
  (hCX:∀ (w:World) (H:Hp) (s:Shared) (e:Value) (s':Shared),CX w [] H s (fun _ _ _=>False) e s'->False) :
  PySem.W.WalkO q loose XP YP l.row.toRowW d [] (fun f vs=>PySem.call f vs):=by
 refine Att.az6 hn hdf fun w s₀ s₁ mg mb fa o pm cd doc a vs ns G Y ho hd hcd hmg hobj hints hlen hg=>?_
 have KX:=hY w _ Y
 obtain ⟨fd,hb,hF⟩:=F w mg fa _ KX G.T.g hmg
 exact az7 KX G.T.g G.T.b G.T.builtins G.T.nolimit hg hobj hints (bs2 hlen hn2) hr hF hb (fun H hO hS=>hsp w H a ns hlen hO hS) fun H e s'=>hCX w H s₁ e s'
noncomputable def kM (s:Stmt):Arguments:=match s with
 | .FunctionDef _ a _ _ _ _ _ _ _ _=>a
 | _=>{ posonlyargs:=[],args:=[],vararg:=none,kwonlyargs:=[],kw_defaults:=[],kwarg:=none,defaults:=[] }
noncomputable def fY (s:Stmt):List Stmt:=match s with
 | .FunctionDef _ _ b _ _ _ _ _ _ _=>b
 | _=>[]
noncomputable def aY (s:Stmt):Scope:=match s with
 | .FunctionDef _ _ _ _ _ _ sc _ _ _=>sc
 | _=>{ kind:=.function,names:=[],isGenerator:=false,isCoroutine:=false }
noncomputable abbrev eB:iR:=fun _ _ _ _ _ _=>False
noncomputable abbrev E0:XK:=fun _ _ _=>False
theorem az9 {X:Cx}:pA eB X E0:=fun _ _ _ _ _ _ _ h=>h.elim
structure fZ (K:PySem.W.Frag) (x qual:Str) (st:Stmt) (f:Addr) (fd:FuncData):Prop where
 ex:∃ (oc:Value) (od:Option Addr) (kV doc pm:Value) (an:Option Addr) (cdv ct:Value) (osl:Array (Option Value)),
  fd=PySem.W.fnOf x qual (kM st) (fY st) (aY st) .none kV doc pm an cdv ct/\K.lookup f=some ⟨oc,od,.func fd,osl⟩/\PySem.W.codeIn K cdv qual=true
 kp:PySem.W.keepIn K (.ref f)=true
section
variable {P : Program} {w : World} {K : PySem.W.Frag} {mg : Str → Option Value} {base : Heap}
theorem fZ.ok {x qual:Str}{st:Stmt}{f:Addr}{fd:FuncData}{N ps:List Str}{k:Nat}{sp:Sp} (F:fZ K x qual st f fd) (S:FnScope N ps (aY st)) (len:∀ vs H Q E,sp vs H Q E->vs.length=ps.length)
  (hbody:∀ (cdv:Value) (A:Around) (outer:List Env) (s:Shared) (H:Hp) (vs:List V) (Q:VK) (E:XK),cL k (A.deeper (envOfC qual (aY st) s.heap.objs.size f cdv))->sp vs H Q E->
   ∃ t,eO (e8 eB P w K mg base N qual (aY st) f cdv A outer s H E).nox (fY st) t/\t { nx:=fun _ H'=>Q .non H',rt:=Q } (start N vs) H):dD P w K mg base eB (k+1) f fd ps sp:=by
 obtain ⟨oc,od,kV,doc,pm,an,cdv,ct,osl,rfl,lk,hcd⟩:=F.ex
 refine G7 lk hcd S len fun A outer s H vs Q E hr hsp=>?_
 obtain ⟨t,h,q⟩:=hbody cdv A outer s H vs Q E hr hsp
 exact⟨t,h.nox,q⟩
theorem fZ.binds {x qual:Str}{st:Stmt}{f:Addr}{fd:FuncData}{ps:List Str} (F:fZ K x qual st f fd)
  (h:∀ (kV doc pm:Value) (an:Option Addr) (cdv ct:Value) (us:List Value),us.length=ps.length->bindArgs (PySem.W.fnOf x qual (kM st) (fY st) (aY st) .none kV doc pm an cdv ct) ⟨us,[]⟩=pure (ps.zip us)):jC K fd ps []:=by
 obtain ⟨oc,od,kV,doc,pm,an,cdv,ct,osl,rfl,lk,hcd⟩:=F.ex
 exact .all (h kV doc pm an cdv ct)
theorem aA0 {x qual:Str}{st:Stmt}{f:Addr}{oc:Value}{od an:Option Addr}{osl:Array (Option Value)}{kV doc pm cdv ct:Value} (l:K.lookup f=some ⟨oc,od,.func (PySem.W.fnOf x qual (kM st) (fY st) (aY st) .none kV doc pm an cdv ct),osl⟩)
  (c:PySem.W.codeIn K cdv qual=true) (k:PySem.W.keepIn K (.ref f)=true):fZ K x qual st f (PySem.W.fnOf x qual (kM st) (fY st) (aY st) .none kV doc pm an cdv ct):=⟨⟨oc,od,kV,doc,pm,an,cdv,ct,osl,rfl,l,c⟩,k⟩
end
theorem lI {A:Around}{k:Nat} (hr:cL k A):A.units+1 < cLine:=Nat.lt_of_le_of_lt (Nat.add_le_add_left (by decide:1<=64) _) hr.units
theorem nK {n:Nat} (h:n<=1000):n < sizeLine:=Nat.lt_of_le_of_lt h (by decide)
section
variable {X : Cx}
theorem pv (i:Nat) {x:Str}{pos:Pos} (hN:X.N[i]? = some x:=by rfl) (hv:i9 X.env.scope x:=by first | exact Or.inl rfl | exact Or.inr (Or.inl rfl) | exact Or.inr (Or.inr rfl)) (hd:(x == ("__debug__" : Str))=false:=by decide)
  (hcd:(x == ("__classdict__" : Str))=false:=by decide):PE X (.Name x pos) (j8 i):=jT hN hv hd hcd
theorem aA1:dN X (.builtin "len") (fun xs H Q=>∃ a kvs,xs = [V.ref a]/\H a=some (.dK kvs)/\Q (.int kvs.length) H):=by
 intro pins s σ H xs us Q I r h
 obtain ⟨a,kvs,rfl,ha,q⟩:=h
 obtain ⟨u,rfl,ru⟩:=jV r
 cases ru
 exact ay6 I (.inl ha) fun t s' I'=>⟨.int kvs.length,H,I',⟨t,rfl⟩,q⟩
end
theorem b8 {A B:Prop} (h:B):if false=true then A else B:=by
 rw [if_neg bp9]
 exact h
theorem b9 {A B:Prop} (h:A):if true=true then A else B:=by
 rw [if_pos rfl]
 exact h
noncomputable def aG (H H':Hp):Prop:=∀ b o,H b=some o->H' b=some o
theorem aG.refl (H:Hp):aG H H:=fun _ _ h=>h
theorem aG.trans {H H1 H2:Hp} (a:aG H H1) (b:aG H1 H2):aG H H2:=fun c o h=>b c o (a c o h)
theorem aG.free {H H':Hp} (e:aG H H') {l:Addr} (h:H' l=Option.none):H l=Option.none:=by
 cases q:H l with
 | none=>rfl
 | some o=>
  rw [e l o q] at h
  cases h
theorem aG.seq {K:PySem.W.Frag}{H H':Hp}{a:Addr}{xs:List V} (e:aG H H') (h:aN K H a xs):aN K H' a xs:=by
 rcases h with (h | ⟨o,h⟩) | h
 ·exact .inl (.inl (e _ _ h))
 ·exact .inl (.inr ⟨o,e _ _ h⟩)
 ·exact .inr h
noncomputable def fM (cells:List (Str × Addr)):List (Str × NameKind)->List (Str × Addr)->List (Str × Addr)
 | [],cs=>cs
 | (n,k) :: r,cs=>fM cells r (if k == .free then (n,(cells.lookup n).getD 0) :: cs else cs)
theorem vX {env:Env}:∀ (ns:List (Str × NameKind)) (cs:List (Str × Addr)),(∀ x ∈ ns,x.2 = .free->∃ c,env.cells.lookup x.1=some c)->
  (forIn ns cs (fun (x:Str × NameKind) r=>(match x with
   | (name,kind)=>if (kind == .free)=true then (do let y <- cellOf env name; pure (ForInStep.yield ((name,y) :: r))) else pure (ForInStep.yield r)):_->_->Sem _))=(pure (fM env.cells ns cs):Sem (List (Str × Addr)))
 | [],cs,_=>by rw [List.forIn_nil]; rfl
 | (n,k) :: r,cs,h=>by
  rw [List.forIn_cons]
  have hr:∀ x ∈ r,x.2 = .free->∃ c,env.cells.lookup x.1=some c:=fun x hx=>h x (bo5 _ hx)
  cases hk:(k == NameKind.free) with
  | true=>
   have e:k = .free:=by simpa using hk
   obtain ⟨c,hc⟩:=h (n,k) bo4 e
   simp only [hk,if_true]
   have e1:cellOf env n=pure c:=by unfold cellOf; rw [hc]
   rw [e1]
   show ((pure c >>= fun y=>pure (ForInStep.yield ((n,y) :: cs))) >>= _:Sem _)=_
   rw [pure_bind,pure_bind]
   have:=vX (env:=env) r ((n,c) :: cs) hr
   refine this.trans ?_
   unfold fM
   simp only [hk,if_true,hc,Option.getD_some]
   cases r <;> rfl
  | false=>
   simp only [hk,bq4,bv1]
   rw [pure_bind]
   have:=vX (env:=env) r cs hr
   refine this.trans ?_
   conv=>rhs; unfold fM
   simp only [hk,bq4,bv1]
theorem rS {scope:Scope}{env:Env} (h:∀ x ∈ scope.names,x.2 = .free->∃ c,env.cells.lookup x.1=some c):closureFor scope env=pure (fM env.cells scope.names []):=by
 have e:=vX (env:=env) scope.names [] h
 unfold closureFor
 rw [show (pure (fM env.cells scope.names []):Sem (List (Str × Addr)))=(pure (fM env.cells scope.names []) >>= pure) by rw [pure_bind]]
 rw [<- e]
theorem rT {cells:List (Str × Addr)}:∀ (ns:List (Str × NameKind)) (cs:List (Str × Addr)) {x:Str}{c:Addr},(∀ y ∈ ns,y.2 = .free->∃ c,cells.lookup y.1=some c)->
  (∀ x c,cs.lookup x=some c->cells.lookup x=some c)->(fM cells ns cs).lookup x=some c->cells.lookup x=some c
 | [],cs,x,c,_,hc,h=>hc x c h
 | (n,k) :: r,cs,x,c,hn,hc,h=>by
  unfold fM at h
  have hr:∀ y ∈ r,y.2 = .free->∃ c,cells.lookup y.1=some c:=fun y hy=>hn y (bo5 _ hy)
  cases hk:(k == NameKind.free) with
  | false=>
   simp only [hk,bq4,bv1] at h
   exact rT r cs hr hc h
  | true=>
   simp only [hk,if_true] at h
   refine rT r _ hr (fun y d e=>?_) h
   obtain ⟨c0,h0⟩:=hn (n,k) bo4 (by simpa using hk)
   have h0:cells.lookup n=some c0:=h0
   rw [h0] at e
   rw [bu9] at e
   by_cases hyn:y=n
   ·subst hyn
    simp only [bw3,Option.getD_some] at e
    rw [h0]; exact e
   ·have:(y == n)=false:=beq_eq_false_iff_ne.mpr hyn
    simp only [this] at e
    exact hc y d e
theorem vY {cells:List (Str × Addr)}:∀ (ns:List (Str × NameKind)) (cs:List (Str × Addr)) {x:Str},((x,NameKind.free) ∈ ns ∨ ∃ c,cs.lookup x=some c)->∃ c,(fM cells ns cs).lookup x=some c
 | [],cs,x,h=>by
  rcases h with h | h
  ·simp at h
  ·exact h
 | (n,k) :: r,cs,x,h=>by
  unfold fM
  refine vY r _ ?_
  rcases h with h | ⟨c,h⟩
  ·rcases bo3.mp h with e | e
   ·cases e
    exact .inr ⟨_,by simp [bu9]; rfl⟩
   ·exact .inl e
  ·right
   cases hk:(k == NameKind.free) with
   | false=>exact⟨c,by simpa [hk] using h⟩
   | true=>
    simp only [if_true]
    rw [bu9]
    by_cases hxn:(x == n)=true
    ·simp only [hxn]; exact⟨_,rfl⟩
    ·simp only [bz0.mpr hxn]; exact⟨c,h⟩
theorem rV {env:Env}:∀ {names:List (Str × NameKind)}{x:Str}{k:NameKind},(names.map fun (n,k)=>if (k == NameKind.free && env.scope.kind == .function && env.kindOf n == some .cell) then (n,NameKind.cell) else (n,k)).lookup x=some k->
  names.lookup x=some k ∨ (names.lookup x=some .free/\k = .cell)
 | [],_,_,h=>by simp at h
 | (n,q) :: r,x,k,h=>by
  have ih:=@rV env r x k
  rw [bs8] at h
  by_cases hx:(x == n)=true
  ·have e:x=n:=by simpa using hx
   subst e
   by_cases hc:(q == NameKind.free && env.scope.kind == .function && env.kindOf x == some .cell)=true
   ·simp only [hc,if_true,bu9,bw3] at h
    have hq:q = .free:=by simp at hc; exact hc.1.1
    exact .inr ⟨by simp [bu9,hq],(bq3 h).symm⟩
   ·simp only [hc,bq4,bv1,bu9,bw3] at h
    exact .inl (by simp [bu9]; exact bq3 h)
  ·have hx':(x == n)=false:=bz0.mpr hx
   have h':(r.map fun (n,k)=>if (k == NameKind.free && env.scope.kind == .function && env.kindOf n == some .cell) then (n,NameKind.cell) else (n,k)).lookup x=some k:=by
    by_cases hc:(q == NameKind.free && env.scope.kind == .function && env.kindOf n == some .cell)=true
    ·simp only [hc,if_true,bu9,hx'] at h; exact h
    ·simp only [hc,bq4,bv1,bu9,hx'] at h; exact h
   simp only [bu9,hx']
   exact ih h'
noncomputable def gY (fr:List (Option Nat)) (σ:St):St:=fr.map fun o=>o.bind fun j=>(σ[j]?).join
noncomputable def Wk (σ₁ σ₂:St):Prop:=σ₁.length=σ₂.length/\∀ (i:Nat) v,σ₁[i]? = some (some v)->σ₂[i]? = some (some v)
theorem Wk.refl (σ:St):Wk σ σ:=⟨rfl,fun _ _ h=>h⟩
theorem Wk.set {σ τ:St}{i:Nat}{v:V} (h:Wk σ τ) (hi:σ[i]? = some none):Wk σ (τ.set i (some v)):=by
 refine⟨by rw [bs0]; exact h.1,fun j w e=>?_⟩
 by_cases hj:j=i
 ·subst hj; rw [hi] at e; cases e
 ·rw [bq8 (Ne.symm hj)]; exact h.2 j w e
theorem kN:∀ (ns:List (Str × NameKind)) (n:Nat) (cs:List (Str × Addr)),cellsFrom n ns cs=cellsFrom n ns [] ++ cs
 | [],_,_=>rfl
 | (x,k) :: r,n,cs=>by
  unfold cellsFrom
  split
  ·rw [kN r (n+1) ((x,n) :: cs),kN r (n+1) [(x,n)]]; simp
  ·exact kN r n cs
theorem vZ:∀ (ns:List (Str × NameKind)) (n:Nat) {x:Str}{c:Addr},(x,c) ∈ cellsFrom n ns []->(x,NameKind.cell) ∈ ns
 | [],_,_,_,h=>by simp [cellsFrom] at h
 | (y,k) :: r,n,x,c,h=>by
  unfold cellsFrom at h
  split at h
  ·rename_i hk
   rw [kN] at h
   rcases bo6.mp h with z | z
   ·exact bo5 _ (vZ r _ z)
   ·rw [bo2] at z
    cases z
    have:k = .cell:=by simpa using hk
    rw [this]; exact bo4
  ·exact bo5 _ (vZ r _ h)
theorem rW:∀ (ns:List (Str × NameKind)) (n:Nat) {x:Str},(x,NameKind.cell) ∈ ns->∃ c,(x,c) ∈ cellsFrom n ns []
 | (y,k) :: r,n,x,h=>by
  unfold cellsFrom
  rcases bo3.mp h with z | z
  ·cases z
   rw [if_pos (by rfl),kN]
   exact⟨n,br0 _ (by simp)⟩
  ·split
   ·obtain ⟨c,hc⟩:=rW r (n+1) z
    rw [kN]
    exact⟨c,br8 _ hc⟩
   ·exact rW r n z
theorem w4 {α:Type}:∀ {l:List (Str × α)}{x:Str}{c:α},(x,c) ∈ l->∃ d,l.lookup x=some d
 | (y,v) :: r,x,c,h=>by
  rw [bu9]
  cases hb:x == y with
  | true=>exact⟨v,rfl⟩
  | false=>
   rcases bo3.mp h with z | z
   ·cases z; simp at hb
   ·exact w4 z
theorem rX {α:Type}{x:Str}:∀ (l r:List (Str × α)),(l ++ r).lookup x=(match l.lookup x with | some v=>some v | none=>r.lookup x)
 | [],_=>rfl
 | (y,v) :: l,r=>by
  rw [List.cons_append,bu9,bu9]
  cases hb:x == y with
  | true=>rfl
  | false=>exact rX l r
noncomputable def iT (X:Cx) (scope:Scope) (C:Addr):List (Str × Addr):=cellsFrom (C+1) scope.names (fM X.env.cells scope.names [])
theorem mI {X:Cx}{scope:Scope}{C:Addr}{x:Str}{c:Addr} (h:(iT X scope C).lookup x=some c) :
  (x,c) ∈ cellsFrom (C+1) scope.names [] ∨ ((∀ d,(x,d) ∉ cellsFrom (C+1) scope.names [])/\(fM X.env.cells scope.names []).lookup x=some c):=by
 unfold iT at h
 rw [kN,rX] at h
 cases e:(cellsFrom (C+1) scope.names []).lookup x with
 | some v=>rw [e] at h; cases h; exact .inl (bt4 e)
 | none=>
  rw [e] at h
  refine .inr ⟨fun d hd=>?_,h⟩
  obtain ⟨d',z⟩:=w4 hd
  rw [e] at z; cases z
theorem aA2 {X:Cx}{scope:Scope}{C:Addr}{x:Str}{c:Addr} (hn:(x,NameKind.cell) ∉ scope.names) (h:(fM X.env.cells scope.names []).lookup x=some c):(iT X scope C).lookup x=some c:=by
 unfold iT
 rw [kN,rX]
 cases e:(cellsFrom (C+1) scope.names []).lookup x with
 | some v=>exact absurd (vZ _ _ (bt4 e)) hn
 | none=>exact h
theorem N1 {X:Cx}{scope:Scope}{C:Addr}{x:Str} (h:(x,NameKind.cell) ∈ scope.names ∨ ∃ c,(fM X.env.cells scope.names []).lookup x=some c):∃ c,(iT X scope C).lookup x=some c:=by
 unfold iT
 rw [kN,rX]
 cases e:(cellsFrom (C+1) scope.names []).lookup x with
 | some v=>exact⟨v,rfl⟩
 | none=>
  rcases h with h | h
  ·obtain ⟨c,hc⟩:=rW scope.names (C+1) h
   obtain ⟨d,hd⟩:=w4 hc
   rw [e] at hd; cases hd
  ·exact h
noncomputable def bZ (X:Cx) (scope:Scope) (N:List Str) (s:Shared) (H:Hp) (C:Addr) (fp:List Addr) (E:Value->Shared->Prop):Cx:=
 { X with N:=N,s₀:=s,H₀:=H,env:=compEnvC scope (iT X scope C) C X.env,outer:=X.stack,ex:=fp,fn:=fun x=>scope.names.lookup x == some .cell,pn:=[],xe:=E }
structure cX (X:Cx) (scope:Scope) (N:List Str) (fr:List (Option Nat)):Prop where
 kind:scope.kind = .function
 own:∀ y ∈ scope.names,y.2 = .cell->scope.names.lookup y.1=some .cell
 names:∀ y ∈ scope.names,y.2 = .local->scope.names.lookup y.1=some .local
 free:∀ y ∈ scope.names,y.2 = .free->X.env.scope.names.lookup y.1=some .cell ∨ X.env.scope.names.lookup y.1=some .free
 len:fr.length=N.length
 from_:∀ (i j:Nat),fr[i]? = some (some j)->∃ x,N[i]? = some x/\X.N[j]? = some x/\scope.names.lookup x=some .free
section
variable {X : Cx} {pins : List (Addr × Obj)} {σ : St} {H : Hp} {s : Shared} {scope : Scope} {N : List Str} {fr : List (Option Nat)}
theorem cX.cells (S:cX X scope N fr) (I:a8 X pins σ H s):∀ y ∈ scope.names,y.2 = .free->∃ c,X.env.cells.lookup y.1=some c:=fun y hy hk=>I.ok.has y.1 (S.free y hy hk)
theorem aA3 {C D:Addr}{fp:List Addr}{E:Value->Shared->Prop}{h1:Heap}{tk:Nat}{m:Str->Option Value} (S:cX X scope N fr) (I:a8 X pins σ H s)
  (hf:∀ b ∈ fp,iQ X pins H b) (hfl:∀ b ∈ fp,b < s.heap.objs.size) (hD:s.heap.objs.size<=D) (hC:s.heap.objs.size<=C) (hDC:D < C)
  (old:∀ b o,s.heap.get? b=some o->h1.get? b=some o) (hns:h1.Ns C m) (hacc:h1.get? D=some { cls:=.type "list",data:=.seq #[] 0 }) (hco:CellsOk h1 (C+1) (cellsFrom (C+1) scope.names [])) :
  a8 (bZ X scope N s H C fp E) [] (gY fr σ) (upd H D (.lst [])) { s with heap:=h1,toks:=tk }:=by
 have hHD:H D=none:=I.hok.fresh hD
 have cl:=S.cells I
 have cs:∀ {x:Str}{c:Addr},(fM X.env.cells scope.names []).lookup x=some c->X.env.cells.lookup x=some c:=fun {x c} h=>rT scope.names [] cl (fun _ _ z=>by simp at z) h
 have clt:∀ {x:Str}{c:Addr},X.env.cells.lookup x=some c->c < s.heap.objs.size:=fun {x c} h=>by obtain ⟨v,z⟩:=I.cell x c h; exact z.lt
 have nge:∀ {x:Str}{c:Addr},(x,c) ∈ cellsFrom (C+1) scope.names []->C < c:=fun {x c} h=>(hco.empty x c h).2
 refine⟨⟨I.ok.mod,?_,I.ok.glob,I.ok.blt,hC,?_,?_,?_,I.ok.hd,I.ok.frames,.inl rfl,?_,I.bs,bs2 I.ok.bsz I.sz,?_,?_,I.stack,I.stkFree⟩,rfl,I.bare,Un.laid old hD hHD,⟨m,hns,?_⟩,?_,?_,?_,fun p hp=>absurd (show p ∈ ([]:List (Addr × Obj)) from hp) (by simp),?_,?_⟩
 ·exact S.kind
 ·intro x y c h1 h2
  rcases mI h1 with a | ⟨_,a⟩ <;> rcases mI h2 with b | ⟨_,b⟩
  ·exact name_of_addr hco.apart a b
  ·exact absurd (bp4 (Nat.lt_trans (nge a) (clt (cs b))) hC) (bt0 _)
  ·exact absurd (bp4 (Nat.lt_trans (nge b) (clt (cs a))) hC) (bt0 _)
  ·exact I.ok.inj x y c (cs a) (cs b)
 ·intro x hx
  have hx:(relabel scope X.env).names.lookup x=some .cell ∨ (relabel scope X.env).names.lookup x=some .free:=hx
  have fin:(x,NameKind.free) ∈ scope.names->∃ c,(iT X scope C).lookup x=some c:=fun z=>N1 (.inr (vY scope.names [] (.inl z)))
  rcases hx with hx | hx
  ·rcases rV hx with z | z
   ·exact N1 (.inl (bt4 z))
   ·exact fin (bt4 z.1)
  ·rcases rV hx with z | z
   ·exact fin (bt4 z)
   ·exact absurd z.2 (by decide)
 ·intro x c hx h
  have hx:(scope.names.lookup x == some NameKind.cell)=true:=hx
  have hx:scope.names.lookup x=some .cell:=by simpa using hx
  rcases mI h with a | ⟨a,_⟩
  ·exact bs2 hC (bt5 (nge a))
  ·obtain ⟨d,hd⟩:=rW scope.names (C+1) (bt4 hx)
   exact absurd hd (a d)
 ·intro b hb
  refine⟨br7 (bp4 (hfl b hb) hC),fun x c e=>?_⟩
  rcases mI e with a | ⟨_,a⟩
  ·exact bw1 (Nat.lt_trans (bp4 (hfl b hb) hC) (nge a))
  ·exact (hf b hb).2.2.2.2.1 x c (cs a)
 ·intro b o e hb
  rcases (hf b hb).2.2.2.1 with z | z
  ·exact I.ok.noex b o e z
  ·exact absurd (bp4 (bp5 e) (bs2 I.ok.bsz z)) (bt0 _)
 ·intro b hb z
  rcases bo3.mp (I.stkSub b z) with e | e
  ·exact (hf b hb).2.1 e
  ·exact (hf b hb).2.2.1 e
 ·intro i x v e1 e2 e3
  have e2:(fr.map fun o=>o.bind fun j=>(σ[j]?).join)[i]? = some (some v):=e2
  rw [bo8] at e2
  cases ef:fr[i]? with
  | none=>rw [ef] at e2; cases e2
  | some o=>
   rw [ef] at e2
   cases o with
   | none=>cases e2
   | some j=>
    have e2:some ((σ[j]?).join)=some (some v):=e2
    have ej:σ[j]? = some (some v):=by
     cases q:σ[j]? with
     | none=>rw [q] at e2; cases e2
     | some w=>rw [q] at e2; cases w with
      | none=>cases e2
      | some w=>cases e2; rfl
    obtain ⟨y,a1,a2,a4⟩:=S.from_ i j ef
    have e1:N[i]? = some x:=e1
    rw [e1] at a1
    cases a1
    have a3:(x,NameKind.free) ∈ scope.names:=bt4 a4
    have vis:i9 X.env.scope x:=(S.free _ a3 rfl).elim (fun z=>.inr (.inl z)) fun z=>.inr (.inr z)
    obtain ⟨m0,hn0,hl0⟩:=I.loc
    obtain ⟨u,r,l⟩:=hl0 j x v a2 ej vis
    refine⟨u,r,.inr ⟨?_,?_⟩⟩
    ·have e3:(relabel scope X.env).names.lookup x=some .local ∨ (relabel scope X.env).names.lookup x=some .cell ∨ (relabel scope X.env).names.lookup x=some .free:=e3
     rcases e3 with z | z | z
     ·rcases rV z with y | y
      ·rw [a4] at y; cases y
      ·exact absurd y.2 (by decide)
     ·exact .inl z
     ·exact .inr z
    ·obtain ⟨c,hc⟩:=vY (cells:=X.env.cells) scope.names [] (x:=x) (.inl a3)
     refine⟨c,aA2 (fun z=>by have:=S.own _ z rfl; rw [a4] at this; cases this) hc,?_⟩
     have hc':=cs hc
     have S1:=S.free (x,.free) a3 rfl
     rcases l with ⟨k,_⟩ | ⟨_,c2,hc2,z⟩
     ·have k:X.env.scope.names.lookup x=some .local:=k
      rcases S1 with q | q <;> (have q:X.env.scope.names.lookup x=_:=q; rw [k] at q; cases q)
     ·rw [hc'] at hc2; cases hc2
      obtain ⟨oc,ho,hd⟩:=z
      exact⟨oc,old c oc ho,hd⟩
 ·intro x c e
  rcases mI e with a | ⟨_,a⟩
  ·exact⟨_,(hco.empty x c a).1⟩
  ·obtain ⟨v,oc,ho,hd⟩:=I.cell x c (cs a)
   exact⟨v,oc,old c oc ho,hd⟩
 ·show upd H D (.lst []) C=none
  rw [aX (bw1 hDC)]; exact I.hok.fresh hC
 ·intro x c e
  show upd H D (.lst []) c=none
  rcases mI e with a | ⟨_,a⟩
  ·rw [aX (bw1 (Nat.lt_trans hDC (nge a)))]; exact I.hok.fresh (bs2 hC (bt5 (nge a)))
  ·have q:=cs a
   rw [aX (br7 (bp4 (clt q) hD))]
   exact I.freeC x c q
 ·exact I.hok.laid old hD ⟨br9 _,[],0,.nil,hacc⟩
 ·show (gY fr σ).length=N.length
  unfold gY; rw [bn7]; exact S.len
end
noncomputable def lJ (X:Cx) (ifs:List Expr) (t:TT):Prop:=
 ∀ (pins:List (Addr × Obj)) (s:Shared) (σ:St) (H:Hp) (Q:Bool->Hp->Prop),a8 X pins σ H s->t σ H Q->
  wpAny (model X.prog X.w) X.A (forIn ifs true fun c r=>if r=true then do let ok <- isTrue c X.env (eval c X.env); pure (ForInStep.yield ok) else pure (ForInStep.yield r)) (TP X pins σ Q) X.xe s
noncomputable def w5:TT:=fun _ H Q=>Q true H
theorem pN {X:Cx}:lJ X [] w5:=fun _ _ _ H _ I h=>wpAny_tests_nil ⟨H,I,h⟩
theorem aA4 {X:Cx}{c:Expr}{t:TT} (h:PT X c t):lJ X [c] t:=fun pins s σ H Q I hq=>wpAny_tests_one (h pins s σ H Q I hq)
section
variable {prog : Program} {w : World} {A : Around}
noncomputable def w6 (prog:Program) (w:World) (A:Around) (elt tg:Expr) (ifs:List Expr) (it acc:Value) (env:Env) (lost:Value->Shared->Prop) (stop next:Shared->Prop) (s:Shared):Prop:=
 let M:=model prog w
 let tests:Sem Bool:=forIn ifs true fun c r=>if r=true then do let ok <- isTrue c env (eval c env); pure (ForInStep.yield ok) else pure (ForInStep.yield r)
 let put:Shared->Prop:=wpAny M A (eval elt env) (fun x=>wpAny M A (call (.builtin "list.append") [acc,x]) (fun _=>next) lost) lost
 let taken:Value->Shared->Prop:=fun v=>wpAny M A (letOwnedTupleGo tg it v) (fun _=>wpAny M A (assign tg env v) (fun _=>wpAny M A tests (fun ok s'=>if ok=true then put s' else next s') lost) lost) lost
 wpAny M A (pyNext it) (fun r s'=>match r with
  | none=>stop s'
  | some v=>taken v s') lost s
theorem aA5 {R:Result->Shared->Prop}{s:Shared}{elt tg iter:Expr}{ifs:List Expr}{scope:Scope}{pos:Pos}{it acc:Value}{env:Env} (I:Nat->Shared->Prop)
  (turn:∀ n s,I n s->w6 prog w A elt tg ifs it acc env (notedBy (model prog w) A env fun e=>R (.error e)) (R (.ok .next)) (fun s'=>∃ m,m < n/\I m s') s) (n:Nat) (h:I n s) :
  codeAny (model prog w) A (.compLoop (.ListComp elt [⟨tg,iter,ifs,0⟩] scope pos) 0 it acc env) R s:=by
 apply codeAny_loop rfl I _ n h
 intro k s1 h1
 change wpAny _ A ((compTurn _ 0 it acc env).onRaise (fun x=>do noteFrame x env; theTreesLotGoes x)) _ _ s1
 apply wpAny_noted
 rw [compTurn_list]
 have t:=turn k s1 h1
 unfold w6 at t
 apply bn3
 apply wpAny_standAt
 apply bn3
 refine bw9 t (fun r s2 h2=>?_) fun _ _ z=>z
 cases r with
 | none=>exact bo9 h2
 | some v=>
  apply bn3
  refine bw9 h2 (fun _ s3 h3=>?_) fun _ _ z=>z
  apply bn3
  refine bw9 h3 (fun _ s4 h4=>?_) fun _ _ z=>z
  apply bn3
  refine bw9 h4 (fun ok s5 h5=>?_) fun _ _ z=>z
  cases ok with
  | false=>exact bo9 ⟨rfl,h5⟩
  | true=>
   apply bn3
   apply bn3
   refine bw9 h5 (fun x s6 h6=>?_) fun _ _ z=>z
   apply bn3
   exact bw9 h6 (fun _ s7 h7=>bo9 (bo9 ⟨rfl,h7⟩)) fun _ _ z=>z
end
noncomputable def pO (g:TG) (tc:TT) (te:TE) (σ0:St) (J:It) (D:Addr) (Q:VK) (W:Nat->Nat->List V->Hp->Prop):Prop:=
 ∀ i m acc H',W i m acc H'->H' D=some (.lst acc)/\((J.stop i H'/\Q (.ref D) H') ∨ (J.go i H'/\∀ x H2,J.yld i H' x H2->g x σ0 H2 fun σ2 H3=>Wk σ0 σ2/\tc σ2 H3 fun b H4=>
  if b=true then te σ2 H4 fun v H5=>H5 D=some (.lst acc)/\acc.length < sizeLine/\∃ m',m' < m/\W (i+1) m' (acc ++ [v]) (upd H5 D (.lst (acc ++ [v]))) else ∃ m',m' < m/\W (i+1) m' acc H4))
noncomputable def N3 (wi:TI) (fr:List (Option Nat)) (g:TG) (tc:TT) (te:TE):TE:=fun σ H Q=>wi σ H fun J H1=>∀ D,H1 D=none->
 ∃ W:Nat->Nat->List V->Hp->Prop,(∃ m,W 0 m [] (upd H1 D (.lst [])))/\pO g tc te (gY fr σ) J D Q W
section
variable {M : Model} {A : Around} {E : Value → Shared → Prop} {s : Shared}
theorem aA6 {scope:Scope}{globals:Addr}{cl:List (Str × Addr)}{qual:Str}{func:Option Addr}{code:Value}{builtins:Addr}{outer:Env}{Q:Env->Shared->Prop}
  (hQ:∀ h',h'.Ns s.heap.objs.size (fun _=>none)->(∀ b o,s.heap.get? b=some o->h'.get? b=some o)->CellsOk h' (s.heap.objs.size+1) (cellsFrom (s.heap.objs.size+1) scope.names [])->
   Q (newEnv scope s.heap.objs.size globals (cellsFrom (s.heap.objs.size+1) scope.names cl) qual func code (some outer) builtins) { s with heap:=h' }) :
  wpAny M A (newFunctionEnv scope globals cl [] qual func code (some outer) builtins) Q E s:=by
 simp only [newFunctionEnv,Option.isSome_some,if_true]
 refine bn3 (wpAny_alloc ?_)
 refine bn3 (wpAny_layCells _ (fun name kind cells=>by cases hkc:kind == NameKind.cell <;> simp [hkc]) _ _ _ _ ?_)
 have ok:=cellsFrom_ok scope.names (s.heap.push { cls:=.type "dict",data:=.dict #[] }) (s.heap.objs.size+1) [] ⟨fun _ _ hm=>(nomatch hm),bv2⟩ (by rw [bz1]; exact bo7 _)
 rw [bz1] at ok
 rw [show ({ s with heap:=s.heap.push { cls:=.type "dict",data:=.dict #[] } }:Shared).heap.objs.size=s.heap.objs.size+1 from bz1 ..]
 rw [List.forIn_nil]
 refine bn3 (bo9 (bo9 (hQ _ ((Heap.Ns.new s.heap (.type "dict")).keeps (pushCells_keeps _ _)) (fun b o e=>pushCells_keeps _ _ b o (bn6 _ e)) ok)))
end
section
variable {X : Cx} {pins : List (Addr × Obj)} {σ : St} {H : Hp} {s : Shared} {scope : Scope} {N : List Str} {fr : List (Option Nat)} {tg iter elt : Expr} {ifs : List Expr} {pos : Pos} {wi : TI} {g : TG} {tc : TT} {te : TE}
structure nL (X:Cx) (scope:Scope) (N:List Str) (tg:Expr) (ifs:List Expr) (elt:Expr) (s:Shared) (H:Hp) (g:TG) (tc:TT) (te:TE):Prop where
 tg:∀ (C:Addr) (fp:List Addr),PG (bZ X scope N s H C fp fun _ _=>False) tg g
 ifs:∀ (C:Addr) (fp:List Addr),lJ (bZ X scope N s H C fp fun _ _=>False) ifs tc
 elt:∀ (C:Addr) (fp:List Addr),PE (bZ X scope N s H C fp fun _ _=>False) elt te
structure eC (X:Cx) (scope:Scope) (N:List Str) (tg:Expr) (ifs:List Expr) (elt:Expr) (g:TG) (tc:TT) (te:TE):Prop where
 tg:∀ (s:Shared) (H:Hp) (C:Addr) (fp:List Addr),PG (bZ X scope N s H C fp fun _ _=>False) tg g
 ifs:∀ (s:Shared) (H:Hp) (C:Addr) (fp:List Addr),lJ (bZ X scope N s H C fp fun _ _=>False) ifs tc
 elt:∀ (s:Shared) (H:Hp) (C:Addr) (fp:List Addr),PE (bZ X scope N s H C fp fun _ _=>False) elt te
theorem eC.at (B:eC X scope N tg ifs elt g tc te) (s:Shared) (H:Hp):nL X scope N tg ifs elt s H g tc te:=⟨B.tg s H,B.ifs s H,B.elt s H⟩
theorem aA7 {C:Addr}{fp:List Addr}{E:Value->Shared->Prop}{pins':List (Addr × Obj)}{σ':St}{H':Hp}{s':Shared} (I:a8 X pins σ H s) (hf:∀ b ∈ fp,iQ X pins H b) (I':a8 (bZ X scope N s H C fp E) pins' σ' H' s'):a8 X pins σ H' s':=
 I.call' (ch:=fp) I'.os I'.base I'.hok I'.bare fun b hb=>⟨(hf b hb).2.2.2.1,(hf b hb).2.1,(hf b hb).2.2.2.2.1,(hf b hb).2.2.2.2.2⟩
theorem rY {Rr:Value->Addr->Result->Shared->Prop}{J:It}{fp:List Addr}{it:Addr}{tn:Nat->Heap->Prop}{Q:VK}
  (hc:X.calm=true) (S:cX X scope N fr) (B:nL X scope N tg ifs elt s H g tc te) (I:a8 X pins σ H s) (T:j9 X.prog X.w X.K tg J fp it tn) (hst:tn 0 s.heap) (hf:∀ b ∈ fp,iQ X pins H b)
  (h:∀ D,H D=none->∃ W:Nat->Nat->List V->Hp->Prop,(∃ m,W 0 m [] (upd H D (.lst [])))/\pO g tc te (gY fr σ) J D Q W)
  (hend:∀ (D C:Addr) (s':Shared) (H':Hp) (m:Str->Option Value),s.heap.objs.size<=C->s.heap.objs.size<=D->a8 X pins σ H' s'->s'.heap.Ns C m->H' C=none->Q (.ref D) H'->Rr (.ref D) C (.ok .next) s') :
  wpAny (model X.prog X.w) X.A (newList []) (fun acc s₃=>wpAny (model X.prog X.w) X.A (newFunctionEnv scope X.env.globals (fM X.env.cells scope.names []) [] X.env.qual none .none (some X.env)) (fun cenv s₄=>
   codeAny (model X.prog X.w) X.A (.compStart (.ListComp elt [⟨tg,iter,ifs,0⟩] scope pos) 0 (.ref it) acc { cenv with scope:=relabel scope X.env }) (Rr acc cenv.locals) s₄) X.xe s₃) X.xe s:=by
 refine bv7 (aA6 (fun h₁ hns₁ keep₁ hco₁=>?_))
 dsimp only at hns₁ keep₁ hco₁ ⊢
 generalize hH2:s.heap.push { cls:=.type "list",dict:=none,data:=.seq ([]:List Value).toArray }=H2 at hns₁ keep₁ hco₁ ⊢
 have hC:H2.objs.size=s.heap.objs.size+1:=by rw [<- hH2,bz1]
 have hDC:s.heap.objs.size < H2.objs.size:=by rw [hC]; exact Nat.lt_succ_self _
 have hCle:s.heap.objs.size<=H2.objs.size:=by rw [hC]; exact Nat.le_succ _
 have old:∀ b o,s.heap.get? b=some o->h₁.get? b=some o:=fun b o e=>keep₁ b o (hH2 ▸ bn6 _ e)
 have hacc:h₁.get? s.heap.objs.size=some { cls:=.type "list",data:=.seq #[] 0 }:=keep₁ _ _ (hH2 ▸ bp7 _ rfl)
 have hfl:∀ b ∈ fp,b < s.heap.objs.size:=fun b hb=>by obtain ⟨o,e,_⟩:=T.obj _ _ hst b hb; exact bp5 e
 obtain ⟨W,⟨m0,w0⟩,turn⟩:=h s.heap.objs.size (I.hok.fresh (bo7 _))
 have st1:tn 0 h₁:=T.keep _ _ _ hst fun b _ o e=>old b o e
 have fr0:∀ b ∈ fp,upd H s.heap.objs.size (.lst []) b=none:=fun b hb=>by rw [aX (br7 (hfl b hb))]; exact (hf b hb).1
 have stat:∀ {H':Hp},(∀ b ∈ fp,H' b=none)->∀ b ∈ fp,iQ (bZ X scope N s H H2.objs.size fp fun _ _=>False) [] H' b:=fun {H'} hn b hb=>by
  have f:=hf b hb
  refine⟨hn b hb,br7 (bp4 (hfl b hb) hCle),fun z=>?_,.inl hb,fun x c e=>(mI e).elim (fun z=>bw1 (Nat.lt_trans (bp4 (hfl b hb) hCle) (hco₁.empty x c z).2)) fun z=>f.2.2.2.2.1 x c (rT scope.names [] (S.cells I) (fun _ _ z=>by simp at z) z.2),fun p hp=>absurd (show p ∈ ([]:List (Addr × Obj)) from hp) (by simp)⟩
  rcases bo3.mp (I.stkSub b z) with e | e
  ·exact f.2.1 e
  ·exact f.2.2.1 e
 generalize hX:bZ X scope N s H H2.objs.size fp (fun _ _=>False)=Y at stat
 have I0:a8 Y [] (gY fr σ) (upd H s.heap.objs.size (.lst [])) { s with heap:=h₁ }:=hX ▸ aA3 S I hf hfl (bo7 _) hCle hDC old hns₁ hacc hco₁
 have bt:PG Y tg g:=hX ▸ B.tg H2.objs.size fp
 have bi:lJ Y ifs tc:=hX ▸ B.ifs H2.objs.size fp
 have be:PE Y elt te:=hX ▸ B.elt H2.objs.size fp
 have eP:Y.prog=X.prog:=by rw [<- hX]; rfl
 have ew:Y.w=X.w:=by rw [<- hX]; rfl
 have eK:Y.K=X.K:=by rw [<- hX]; rfl
 have eA:Y.A=X.A:=by rw [<- hX]; rfl
 have eE:Y.env=compEnvC scope (iT X scope H2.objs.size) H2.objs.size X.env:=by rw [<- hX]; rfl
 have eX:Y.xe=fun _ _=>False:=by rw [<- hX]; rfl
 have ec:Y.calm=true:=by rw [<- hX]; exact hc
 have never:∀ {E:Value->Shared->Prop} (e:Value) (s':Shared),Y.xe e s'->E e s':=fun {E} e s' z=>by rw [eX] at z; exact z.elim
 have out:∀ {pins' σ' H' s'},a8 Y pins' σ' H' s'->a8 X pins σ H' s':=fun {_ _ _ _} I'=>aA7 (C:=H2.objs.size) (E:=fun _ _=>False) (scope:=scope) (N:=N) I hf (hX ▸ I')
 have loop:codeAny (model X.prog X.w) X.A (.compLoop (.ListComp elt [⟨tg,iter,ifs,0⟩] scope pos) 0 (.ref it) (.ref s.heap.objs.size) (compEnvC scope (iT X scope H2.objs.size) H2.objs.size X.env))
   (Rr (.ref s.heap.objs.size) H2.objs.size) { s with heap:=h₁ }:=by
  refine aA5 (fun n s'=>∃ i acc H',a8 Y [] (gY fr σ) H' s'/\tn i s'.heap/\(∀ b ∈ fp,H' b=none)/\W i n acc H') ?_ m0 ⟨0,[],_,I0,st1,fr0,w0⟩
  rintro n s3 ⟨i,acc,H3,I3,st3,fr3,w3⟩
  unfold w6
  dsimp only
  obtain ⟨hD3,step⟩:=turn i n acc H3 w3
  rcases step with ⟨stop,qn⟩ | ⟨go,step⟩
  ·have z:=T.done Y eP ew eK ec i [] s3 _ H3 (notedBy (model X.prog X.w) X.A (compEnvC scope (iT X scope H2.objs.size) H2.objs.size X.env) fun e s'=>Rr (.ref s.heap.objs.size) H2.objs.size (.error e) s') I3 (stat fr3) st3 stop
   rw [eA] at z
   refine aQ z fun r s4 ⟨hr,I4⟩=>?_
   subst hr
   obtain ⟨m4,hn4,_⟩:=I4.loc
   rw [eE] at hn4
   have f4:=I4.free
   rw [eE] at f4
   exact hend _ _ s4 H3 m4 hCle (bo7 _) (out I4) hn4 f4 qn
  ·have z:=T.item Y eP ew eK ec i [] s3 _ H3 (notedBy (model X.prog X.w) X.A (compEnvC scope (iT X scope H2.objs.size) H2.objs.size X.env) fun e s'=>Rr (.ref s.heap.objs.size) H2.objs.size (.error e) s') I3 (stat fr3) st3 go
   rw [eA] at z
   refine aQ z fun r s4 ⟨u,hr,h4⟩=>?_
   subst hr
   refine aQ h4 fun _ s5 ⟨x,H5,I5,r5,y5,st5,fr5⟩=>?_
   have I5':=I5.pinned (stat fr5) (T.obj _ _ st5)
   have q1:=bt _ s5 _ H5 x u _ I5' r5 (step x H5 y5)
   rw [eP,ew,eA,eE] at q1
   refine bw9 q1 (fun _ s6 ⟨σ6,H6,I6,wk,q6⟩=>?_) never
   have q2:=bi _ s6 σ6 H6 _ I6 q6
   rw [eP,ew,eA,eE] at q2
   refine bw9 q2 (fun b s7 ⟨H7,I7,q7⟩=>?_) never
   have again:∀ {H8:Hp}{s8:Shared}{acc':List V},a8 Y ([] ++ oY fp s5.heap) σ6 H8 s8->(∃ m',m' < n/\W (i+1) m' acc' H8)->∃ m,m < n/\∃ i acc H',a8 Y [] (gY fr σ) H' s8/\tn i s8.heap/\(∀ b ∈ fp,H' b=none)/\W i m acc H':=fun {H8 s8 acc'} I8 n8=>by
    obtain ⟨m',hm,w8⟩:=n8
    refine⟨m',hm,i+1,acc',H8,(I8.unpinned).weak wk.1 wk.2,T.keep _ _ _ st5 fun b hb o e=>(I8.pin (b,o) (br0 _ (br0 _ (rJ hb e)))).1,fun b hb=>?_,w8⟩
    obtain ⟨o,e,d⟩:=T.obj _ _ st5 b hb
    exact (I8.pin (b,o) (br0 _ (br0 _ (rJ hb e)))).2.1
   cases b with
   | false=>
    rw [if_neg bp9] at q7 ⊢
    exact again I7 q7
   | true=>
    rw [if_pos rfl] at q7 ⊢
    have q3:=be _ s7 σ6 H7 _ I7 q7
    rw [eP,ew,eA,eE] at q3
    refine bw9 q3 (fun v s8 ⟨y,H8,I8,r8,hD8,hz8,q8⟩=>?_) never
    have q4:=nH _ s8 σ6 H8 (.ref s.heap.objs.size) [y] (.ref s.heap.objs.size) [v] (fun _ H9=>∃ m',m' < n/\W (i+1) m' (acc ++ [y]) H9) I8 rfl (.cons r8 .nil) ⟨_,_,_,rfl,rfl,hD8,hz8,q8⟩
    rw [eP,ew,eA] at q4
    exact bw9 q4 (fun _ s9 ⟨_,H9,I9,_,q9⟩=>again I9 q9) never
 exact codeAny_compStart_list loop (T.self _ 0 _ _ _ st1 loop)
end
section
variable {X : Cx} {scope : Scope} {N : List Str} {fr : List (Option Nat)} {tg iter elt : Expr} {ifs : List Expr} {pos : Pos} {wi : TI} {g : TG} {tc : TT} {te : TE}
theorem a8.drop {pins:List (Addr × Obj)}{σ:St}{H H':Hp}{s s':Shared}{C:Addr}{h':Heap} (I0:a8 X pins σ H s) (hC:s.heap.objs.size<=C) {σ':St} (I:a8 X pins σ' H' s') (hn:H' C=none) (sb:Heap.SameBut C s'.heap h'):a8 X pins σ' H' { s' with heap:=h' }:=by
 refine I.turned (t':=s'.toks) (it:=C) (fun b o hb e=>(sb.2 b hb).trans e) hn (bw1 (bp4 I0.lt hC)) (.inr (bs2 I0.sz hC)) (fun x c e z=>?_) fun p hp z=>?_
 ·obtain ⟨v,q⟩:=I0.cell x c e
  exact absurd (bp4 q.lt (by rw [z]; exact hC)) (bt0 _)
 ·exact absurd (bp4 (bp5 (I0.pin p hp).1) (by rw [z]; exact hC)) (bt0 _)
theorem N4 (hc:X.calm=true) (S:cX X scope N fr) (hi:PI X tg iter wi) (B:eC X scope N tg ifs elt g tc te)
  (hs:∀ x,foldedSetIterable iter X.env x=pure x:=by intro _; rfl):PE X (.ListComp elt [⟨tg,iter,ifs,0⟩] scope pos) (N3 wi fr g tc te):=by
 intro pins s σ H Q I h
 rw [eval_ListComp]
 refine wpAny_comprehension_free (use:=none) rfl hs (rS (S.cells I)) S.kind S.names (aQ (hi pins s σ H _ I h) fun v s1 h1=>aQ h1 fun itv s2 h2=>?_)
 obtain ⟨it,fp,tn,J,H2,e,I2,T,st2,f2,hW⟩:=h2
 subst e
 refine rY (Rr:=fun acc C=>compPost (model X.prog X.w) X.A X.xe none (EP X pins σ Q) acc C) hc S (B.at _ _) I2 T st2 f2 hW ?_
 intro D C s' H' m hC hD I' hns hHC q
 exact⟨m,hns,fun h' sb=>⟨.ref D,H',I2.drop hC I' hHC sb,rfl,q⟩⟩
theorem N5 {i:Nat}{x:Str}{px spos:Pos} (hc:X.calm=true) (S:cX X scope N fr) (hi:PI X tg iter wi) (B:eC X scope N tg ifs elt g tc te) (hN:X.N.Nodup) (hix:X.N[i]? = some x) (hx:X.env.scope.names.lookup x=some .local)
  (hsw:swapsWith (.ListComp elt [⟨tg,iter,ifs,0⟩] scope pos) (some (.Name x px)) spos.line X.env=pure true) (hs:∀ x,foldedSetIterable iter X.env x=pure x:=by intro _; rfl) :
  PS X (.Assign [.Name x px] (.ListComp elt [⟨tg,iter,ifs,0⟩] scope pos) spos) (kH (N3 wi fr g tc te) (cQ i)):=by
 intro pins s σ H D I h
 rw [exec_Assign_Name_used _ _ _ _ hsw]
 refine bn3 (wpAny_standAt (bn3 ?_))
 show wpAny _ _ (do let _ <- comprehension (.ListComp elt [⟨tg,iter,ifs,0⟩] scope pos) scope X.env _ (newList []) false (eval iter X.env) (some (assign (.Name x px) X.env))) _ _ s
 refine bn3 (bw9 (wpAny_comprehension_free (Q:=fun _ s'=>SP X pins D .next s') (use:=some (assign (.Name x px) X.env)) rfl hs (rS (S.cells I)) S.kind S.names (aQ (hi pins s σ H _ I h) fun v s1 h1=>aQ h1 fun itv s2 h2=>?_))
  (fun _ s' hq=>bo9 (bo9 hq)) fun _ _ e=>e)
 obtain ⟨it,fp,tn,J,H2,e,I2,T,st2,f2,hW⟩:=h2
 subst e
 refine rY (Rr:=fun acc C=>compPost (model X.prog X.w) X.A X.xe (some (assign (.Name x px) X.env)) (fun _ s'=>SP X pins D .next s') acc C) hc S (B.at _ _) I2 T st2 f2 hW ?_
 intro D' C s' H' m hC hD I' hns hHC q
 refine wpAny_assign_Name (uV I' hN hix (.inl hx) (v:=.ref D') rfl (fun s'' I'' sb=>?_) (.inr hx))
 obtain ⟨a,sb,ha⟩:=sb
 have hCa:C ≠ a:=by
  rcases ha with z | z
  ·rw [z]; exact bw1 (bp4 I2.lt hC)
  ·intro e; subst e
   obtain ⟨v,q⟩:=I2.cell x _ z
   exact absurd (bp4 q.lt hC) (bt0 _)
 exact⟨m,hns.sameBut sb hCa,fun h' sb'=>⟨_,H',I2.drop hC I'' hHC sb',q⟩⟩
variable {gh : Hp → TG} {tch : Hp → TT} {teh : Hp → TE}
noncomputable def w9 (wi:TI) (fr:List (Option Nat)) (gh:Hp->TG) (tch:Hp->TT) (teh:Hp->TE):TE:=fun σ H Q=>wi σ H fun J H1=>∀ D,H1 D=none->
 ∃ W:Nat->Nat->List V->Hp->Prop,(∃ m,W 0 m [] (upd H1 D (.lst [])))/\pO (gh H1) (tch H1) (teh H1) (gY fr σ) J D Q W
theorem wA (hc:X.calm=true) (S:cX X scope N fr) (hi:PI X tg iter wi) (B:∀ (s:Shared) (H:Hp),nL X scope N tg ifs elt s H (gh H) (tch H) (teh H))
  (hs:∀ x,foldedSetIterable iter X.env x=pure x:=by intro _; rfl):PE X (.ListComp elt [⟨tg,iter,ifs,0⟩] scope pos) (w9 wi fr gh tch teh):=by
 intro pins s σ H Q I h
 rw [eval_ListComp]
 refine wpAny_comprehension_free (use:=none) rfl hs (rS (S.cells I)) S.kind S.names (aQ (hi pins s σ H _ I h) fun v s1 h1=>aQ h1 fun itv s2 h2=>?_)
 obtain ⟨it,fp,tn,J,H2,e,I2,T,st2,f2,hW⟩:=h2
 subst e
 refine rY (Rr:=fun acc C=>compPost (model X.prog X.w) X.A X.xe none (EP X pins σ Q) acc C) hc S (B _ _) I2 T st2 f2 hW ?_
 intro D C s' H' m hC hD I' hns hHC q
 exact⟨m,hns,fun h' sb=>⟨.ref D,H',I2.drop hC I' hHC sb,rfl,q⟩⟩
theorem wB {i:Nat}{x:Str}{px spos:Pos} (hc:X.calm=true) (S:cX X scope N fr) (hi:PI X tg iter wi) (B:∀ (s:Shared) (H:Hp),nL X scope N tg ifs elt s H (gh H) (tch H) (teh H)) (hN:X.N.Nodup) (hix:X.N[i]? = some x) (hx:X.env.scope.names.lookup x=some .local)
  (hsw:swapsWith (.ListComp elt [⟨tg,iter,ifs,0⟩] scope pos) (some (.Name x px)) spos.line X.env=pure true) (hs:∀ x,foldedSetIterable iter X.env x=pure x:=by intro _; rfl) :
  PS X (.Assign [.Name x px] (.ListComp elt [⟨tg,iter,ifs,0⟩] scope pos) spos) (kH (w9 wi fr gh tch teh) (cQ i)):=by
 intro pins s σ H D I h
 rw [exec_Assign_Name_used _ _ _ _ hsw]
 refine bn3 (wpAny_standAt (bn3 ?_))
 show wpAny _ _ (do let _ <- comprehension (.ListComp elt [⟨tg,iter,ifs,0⟩] scope pos) scope X.env _ (newList []) false (eval iter X.env) (some (assign (.Name x px) X.env))) _ _ s
 refine bn3 (bw9 (wpAny_comprehension_free (Q:=fun _ s'=>SP X pins D .next s') (use:=some (assign (.Name x px) X.env)) rfl hs (rS (S.cells I)) S.kind S.names (aQ (hi pins s σ H _ I h) fun v s1 h1=>aQ h1 fun itv s2 h2=>?_))
  (fun _ s' hq=>bo9 (bo9 hq)) fun _ _ e=>e)
 obtain ⟨it,fp,tn,J,H2,e,I2,T,st2,f2,hW⟩:=h2
 subst e
 refine rY (Rr:=fun acc C=>compPost (model X.prog X.w) X.A X.xe (some (assign (.Name x px) X.env)) (fun _ s'=>SP X pins D .next s') acc C) hc S (B _ _) I2 T st2 f2 hW ?_
 intro D' C s' H' m hC hD I' hns hHC q
 refine wpAny_assign_Name (uV I' hN hix (.inl hx) (v:=.ref D') rfl (fun s'' I'' sb=>?_) (.inr hx))
 obtain ⟨a,sb,ha⟩:=sb
 have hCa:C ≠ a:=by
  rcases ha with z | z
  ·rw [z]; exact bw1 (bp4 I2.lt hC)
  ·intro e; subst e
   obtain ⟨v,q⟩:=I2.cell x _ z
   exact absurd (bp4 q.lt hC) (bt0 _)
 exact⟨m,hns.sameBut sb hCa,fun h' sb'=>⟨_,H',I2.drop hC I'' hHC sb',q⟩⟩
end
theorem bP {H:Hp}{p:Addr} (h:H p=none) (o:HO):aG H (upd H p o):=fun b u q=>by rw [aX (cK q h)]; exact q
theorem aG.tup {K:PySem.W.Frag}{H H':Hp}{a:Addr}{xs:List V} (e:aG H H') (h:aM K H a xs):aM K H' a xs:=by
 rcases h with (h | ⟨o,h⟩) | h
 ·exact .inl (.inl (e _ _ h))
 ·exact .inl (.inr ⟨o,e _ _ h⟩)
 ·exact .inr h
structure N6 (H:Hp) (J:It) (xs:List V):Prop where
 go:∀ i H',aG H H'->i < xs.length->J.go i H'
 yld:∀ i H' x H2,aG H H'->J.yld i H' x H2->i < xs.length->xs[i]? = some x/\H2=H'
 stop:∀ H',aG H H'->J.stop xs.length H'
theorem N7 {K:PySem.W.Frag}{H:Hp}{a:Addr}{xs:List V} (h:aM K H a xs):N6 H (lF K a) xs:=
 ⟨fun i H' e hi=>⟨xs,xs[i],e.tup h,by simp [hi]⟩,fun i H' x H2 e y hi=>⟨y.2 xs (e.tup h),y.1⟩,fun H' e=>⟨xs,e.tup h,bo7 _⟩⟩
noncomputable def kO (lo:Int) (n:Nat):List V:=(List.range n).map fun (i:Nat)=>V.int (lo+(i:Int))
theorem wC (lo:Int) (n:Nat):(kO lo n).length=n:=by unfold kO; rw [bn7,bz2]
noncomputable def CW (H1:Hp) (D:Addr) (n:Nat) (Pv:Nat->List V->Hp->Prop):Nat->Nat->List V->Hp->Prop:=fun i m acc H'=>m=n - i/\i<=n/\acc.length<=i/\aG H1 H'/\H' D=some (.lst acc)/\Pv i acc H'
noncomputable def wE (H1:Hp) (D:Addr) (n:Nat) (Pv:Nat->List V->Hp->Prop) (i:Nat) (acc:List V) (v:V) (H5:Hp):Prop:=H5 D=some (.lst acc)/\acc.length < sizeLine/\∃ m',m' < n - i/\CW H1 D n Pv (i+1) m' (acc ++ [v]) (upd H5 D (.lst (acc ++ [v])))
noncomputable def N8 (H1:Hp) (D:Addr) (n:Nat) (Pv:Nat->List V->Hp->Prop) (i:Nat) (acc:List V) (H4:Hp):Prop:=∃ m',m' < n - i/\CW H1 D n Pv (i+1) m' acc H4
structure rZ (H1:Hp) (D:Addr) (n i:Nat) (acc:List V) (H':Hp):Prop where
 lt:i < n
 few:acc.length<=i
 sz:n<=sizeLine
 same:aG H1 H'
 new:H1 D=none
 acc:H' D=some (.lst acc)
theorem rZ.yes {H1:Hp}{D:Addr}{n i:Nat}{acc:List V}{H' H5:Hp}{Pv:Nat->List V->Hp->Prop}{v:V} (c:rZ H1 D n i acc H') (s:aG H' H5) (p:Pv (i+1) (acc ++ [v]) (upd H5 D (.lst (acc ++ [v])))):wE H1 D n Pv i acc v H5:=by
 refine⟨s _ _ c.acc,Nat.lt_of_le_of_lt c.few (bp4 c.lt c.sz),_,?_,rfl,c.lt,?_,fun b o e=>?_,bN,p⟩
 ·have:=c.lt; omega
 ·rw [bo0,br1]; exact Nat.succ_le_succ c.few
 ·rw [aX (cK e c.new)]; exact s _ _ (c.same _ _ e)
theorem N9 {H1:Hp}{J:It}{xs:List V}{g:TG}{tc:TT}{te:TE}{σ0:St}{Q:VK} (O:N6 H1 J xs) (Pv:Nat->List V->Hp->Prop) (hn:xs.length<=sizeLine)
  (h0:∀ D,H1 D=none->Pv 0 [] (upd H1 D (.lst [])))
  (hs:∀ i x acc D H',xs[i]? = some x->rZ H1 D xs.length i acc H'->Pv i acc H'->g x σ0 H' fun σ2 H3=>Wk σ0 σ2/\tc σ2 H3 fun b H4=>
   if b=true then te σ2 H4 fun v H5=>wE H1 D xs.length Pv i acc v H5 else N8 H1 D xs.length Pv i acc H4)
  (hd:∀ D acc H',H1 D=none->aG H1 H'->H' D=some (.lst acc)->acc.length<=xs.length->Pv xs.length acc H'->Q (.ref D) H') :
  ∀ D,H1 D=none->∃ W:Nat->Nat->List V->Hp->Prop,(∃ m,W 0 m [] (upd H1 D (.lst [])))/\pO g tc te σ0 J D Q W:=by
 intro D hD
 refine⟨CW H1 D xs.length Pv,⟨xs.length,rfl,br9 _,bo7 _,bP hD _,bN,h0 D hD⟩,?_⟩
 rintro i m acc H' ⟨rfl,hi,ha,sm,hDa,p⟩
 refine⟨hDa,?_⟩
 by_cases hlt:i < xs.length
 ·refine .inr ⟨O.go i H' sm hlt,fun x H2 y=>?_⟩
  obtain ⟨hx,e⟩:=O.yld i H' x H2 sm y hlt
  subst e
  exact hs i x acc D H2 hx ⟨hlt,ha,hn,sm,hD,hDa⟩ p
 ·have e:i=xs.length:=by omega
  subst e
  exact .inl ⟨O.stop H' sm,hd D acc H' hD sm hDa ha p⟩
end L2
namespace Srt
open PySem PySem.W PyProof.Rows
noncomputable abbrev G (p:Array Nat) (i:Nat):Nat:=p.getD i 0
theorem pP {p q:Array Nat}{i j:Nat} (h:p[i]? = q[j]?):G p i=G q j:=by
 unfold G; rw [bB4,bB4,h]
theorem wF {p:Array Nat}{i j:Nat} (hj:j<=p.size) (k:Nat):G (kas_rev p i j) k=if i<=k/\k < j then G p (i+j - 1 - k) else G p k:=by
 have e:=getElem?_mirror_all (i:=i) hj k
 unfold kas_rev
 by_cases h1:i<=k/\k < j
 ·rw [if_pos h1] at e ⊢; exact pP e
 ·rw [if_neg h1] at e ⊢; exact pP e
theorem aA8 {p:Array Nat}{src d:Nat} (hs:src < p.size) (hd:d<=src) (k:Nat):G (bubble p src d) k=if k=src - d then G p src else if src - d < k/\k<=src then G p (k - 1) else G p k:=by
 have e:=getElem?_bubble hs d hd k
 by_cases h1:k=src - d
 ·rw [if_pos h1] at e ⊢; exact pP e
 ·rw [if_neg h1] at e ⊢
  by_cases h2:src - d < k/\k<=src
  ·rw [if_pos h2] at e ⊢; exact pP e
  ·rw [if_neg h2] at e ⊢; exact pP e
noncomputable def PP (n:Nat) (p:Array Nat):Prop:=p.toList.Perm (List.range n)
theorem PP.size {n:Nat}{p:Array Nat} (h:PP n p):p.size=n:=by
 have:=h.length_eq
 rw [bz2] at this
 simpa using this
theorem PP.lt {n:Nat}{p:Array Nat} (h:PP n p) {k:Nat} (hk:k < n):G p k < n:=by
 have hs:=h.size
 have hk':k < p.toList.length:=by simpa [hs] using hk
 have e:G p k=p.toList[k]:=by
  unfold G; rw [bB4]; simp [hs,hk]
 have m:p.toList[k] ∈ p.toList:=List.getElem_mem hk'
 rw [e]
 exact by0.mp (h.mem_iff.mp m)
theorem PP.of {n:Nat}{p q:Array Nat} (h:PP n p) (e:q.Perm p):PP n q:=(Array.perm_iff_toList_perm.mp e).trans h
theorem PP.rev {n:Nat}{p:Array Nat} (h:PP n p) (i j:Nat):PP n (kas_rev p i j):=h.of (mirror_perm _ _ _ _)
theorem PP.bub {n:Nat}{p:Array Nat} (h:PP n p) (i j:Nat):PP n (bubble p i j):=h.of (bubble_perm _ _ _)
structure sA (c:Nat->Nat->Bool):Prop where
 asym:∀ {i j},c i j=true->c j i=false
 ntr:∀ {i j k},c i j=false->c j k=false->c i k=false
section
variable {c : Nat → Nat → Bool} (O : sA c)
noncomputable def Le (c:Nat->Nat->Bool) (i j:Nat):Prop:=c j i=false
include O
theorem le_refl (i:Nat):Le c i i:=by
 unfold Le
 cases h:c i i with
 | false=>rfl
 | true=>have:=O.asym h; rw [h] at this; exact this
theorem le_trans {i j k:Nat} (h1:Le c i j) (h2:Le c j k):Le c i k:=O.ntr h2 h1
theorem sB {i j:Nat} (h:c i j=true):Le c i j:=O.asym h
omit O
noncomputable def gZ (c:Nat->Nat->Bool) (p:Array Nat) (n:Nat):Prop:=∀ a b,a<=b->b < n->Le c (G p a) (G p b)
noncomputable def lK (c:Nat->Nat->Bool) (p:Array Nat) (n:Nat):Prop:=∀ a b,a<=b->b < n->Le c (G p b) (G p a)
include O
theorem aA9 {p:Array Nat}{n:Nat} (h:gZ c p n) (h1:1<=n) (hl:Le c (G p (n - 1)) (G p n)):gZ c p (n+1):=fun a b hab hb=>by
 by_cases hbn:b < n
 ·exact h a b hab hbn
 ·have e:b=n:=by omega
  subst e
  by_cases han:a=b
  ·subst han; exact le_refl O _
  ·exact le_trans O (h a (b - 1) (by omega) (by omega)) hl
theorem sC {p:Array Nat}{n:Nat} (h:lK c p n) (h1:1<=n) (hl:Le c (G p n) (G p (n - 1))):lK c p (n+1):=fun a b hab hb=>by
 by_cases hbn:b < n
 ·exact h a b hab hbn
 ·have e:b=n:=by omega
  subst e
  by_cases han:a=b
  ·subst han; exact le_refl O _
  ·exact le_trans O hl (h a (b - 1) (by omega) (by omega))
omit O
noncomputable def cH {α:Type} (n:Nat) (c:Nat->Nat->Bool) (R:α->Prop):KasT α->Prop
 | .ret a=>R a
 | .ask i j k=>i < n/\j < n/\cH n c R (k (c i j))
theorem cH.mono {α:Type}{n:Nat}{R R':α->Prop} (h:∀ a,R a->R' a):∀ (t:KasT α),cH n c R t->cH n c R' t
 | .ret a,q=>h a q
 | .ask i j k,q=>⟨q.1,q.2.1,cH.mono h (k (c i j)) q.2.2⟩
theorem cH.bind {α β:Type}{n:Nat}{R:α->Prop}{R':β->Prop}{f:α->KasT β} (h:∀ a,R a->cH n c R' (f a)):∀ (t:KasT α),cH n c R t->cH n c R' (t.bind f)
 | .ret a,q=>h a q
 | .ask i j k,q=>⟨q.1,q.2.1,cH.bind h (k (c i j)) q.2.2⟩
theorem cH.run {α:Type}{n:Nat}{R:α->Prop}{I:Shared->Prop}{cmp:Nat->Nat->(Bool->Shared->Prop)->Shared->Prop}{Q:α->Shared->Prop}
  (hc:∀ i j C s,i < n->j < n->I s->(∀ s',I s'->C (c i j) s')->cmp i j C s) (hQ:∀ a s,R a->I s->Q a s):∀ (t:KasT α) (s:Shared),I s->cH n c R t->t.kasWp cmp Q s
 | .ret a,s,hI,q=>hQ a s q hI
 | .ask i j k,s,hI,q=>hc i j _ s q.1 q.2.1 hI fun s' hI'=>cH.run hc hQ (k (c i j)) s' hI' q.2.2
include O
theorem wG {n:Nat}{p:Array Nat} (hp:PP n p):∀ (f m:Nat),1<=m->m+f<=n->gZ c p m->cH n c (fun r=>m<=r/\r<=m+f/\gZ c p r/\(r < m+f->c (G p r) (G p (r - 1))=true)) (kas_asc p f m)
 | 0,m,_,_,h=>⟨bo7 _,bo7 _,h,fun z=>absurd z (bt0 _)⟩
 | f+1,m,h1,h2,h=>by
  refine⟨hp.lt (by omega),hp.lt (by omega),?_⟩
  by_cases hc:c (p.getD m 0) (p.getD (m - 1) 0)=true
  ·simp only [hc,if_true]
   exact⟨bo7 _,by omega,h,fun _=>hc⟩
  ·have hc':c (p.getD m 0) (p.getD (m - 1) 0)=false:=bz0.mpr hc
   simp only [hc',bq4,bv1]
   refine cH.mono (fun r q=>⟨by omega,by omega,q.2.2.1,fun z=>q.2.2.2 (by omega)⟩) _ (wG hp f (m+1) (by omega) (by omega) (aA9 O h h1 hc'))
omit O
noncomputable def mJ (c:Nat->Nat->Bool) (i j:Nat):Prop:=Le c i j/\Le c j i
include O
theorem wH {p q:Array Nat}{n:Nat} (h:lK c p n) (e:∀ k,k < n->mJ c (G q k) (G p k)):lK c q n:=fun a b hab hb=>
 le_trans O (e b hb).1 (le_trans O (h a b hab hb) (e a (by omega)).2)
theorem O0 {n m i:Nat}{p:Array Nat} (hp:PP n p) (hm:m<=n) (h:∀ a,i<=a->a < m->mJ c (G p a) (G p (m - 1))):∀ k,mJ c (G (kas_rev p i m) k) (G p k):=fun k=>by
 rw [wF (by rw [hp.size]; exact hm)]
 by_cases hk:i<=k/\k < m
 ·rw [if_pos hk]
  have h1:=h (i+m - 1 - k) (by omega) (by omega)
  have h2:=h k hk.1 hk.2
  exact⟨le_trans O h1.1 h2.2,le_trans O h2.1 h1.2⟩
 ·rw [if_neg hk]; exact⟨le_refl O _,le_refl O _⟩
omit O
noncomputable def DI (c:Nat->Nat->Bool) (n:Nat) (p:Array Nat) (m q:Nat):Prop:=PP n p/\1<=m/\m<=n/\lK c p m/\q+1<=m/\∀ a,m - (q+1)<=a->a < m->mJ c (G p a) (G p (m - 1))
include O
theorem O1 {n m q:Nat}{p:Array Nat} (h:DI c n p m q):PP n (kas_rev p (m - (q+1)) m)/\∀ k,mJ c (G (kas_rev p (m - (q+1)) m) k) (G p k):=
 ⟨h.1.rev _ _,O0 O h.1 h.2.2.1 h.2.2.2.2.2⟩
theorem sD {n:Nat}:∀ (f:Nat) (p:Array Nat) (m q:Nat),m+f<=n->DI c n p m q->cH n c (fun r=>DI c n r.1 r.2.1 r.2.2) (kas_desc f p m q)
 | 0,p,m,q,_,h=>h
 | f+1,p,m,q,hf,h=>by
  have hp:=h.1
  have h1:=h.2.1
  refine⟨hp.lt (by omega),hp.lt (by omega),?_⟩
  by_cases hc:c (p.getD m 0) (p.getD (m - 1) 0)=true
  ·simp only [hc,if_true]
   have dn:lK c p (m+1):=sC O h.2.2.2.1 h1 (sB O hc)
   by_cases hq:q > 0
   ·simp only [hq,if_true]
    obtain ⟨pr,er⟩:=O1 O h
    refine sD f _ (m+1) 0 (by omega) ⟨pr,by omega,by omega,wH O dn fun k _=>er k,by omega,fun a h1 h2=>?_⟩
    have e:a=m+1 - 1:=by omega
    rw [e]; exact⟨le_refl O _,le_refl O _⟩
   ·simp only [hq,bv1]
    refine sD f p (m+1) 0 (by omega) ⟨hp,by omega,by omega,dn,by omega,fun a h1 h2=>?_⟩
    have e:a=m+1 - 1:=by omega
    rw [e]; exact⟨le_refl O _,le_refl O _⟩
  ·have hc':c (p.getD m 0) (p.getD (m - 1) 0)=false:=bz0.mpr hc
   simp only [hc',bq4,bv1]
   refine⟨hp.lt (by omega),hp.lt (by omega),?_⟩
   by_cases hd:c (p.getD (m - 1) 0) (p.getD m 0)=true
   ·simp only [hd,if_true]
    exact h
   ·have hd':c (p.getD (m - 1) 0) (p.getD m 0)=false:=bz0.mpr hd
    simp only [hd',bq4,bv1]
    have ee:mJ c (G p (m - 1)) (G p m):=⟨hc',hd'⟩
    refine sD f p (m+1) (q+1) (by omega) ⟨hp,by omega,by omega,sC O h.2.2.2.1 h1 ee.2,by have:=h.2.2.2.2.1; omega,fun a h1 h2=>?_⟩
    rw [Nat.add_sub_cancel]
    by_cases ha:a=m
    ·rw [ha]; exact⟨le_refl O _,le_refl O _⟩
    ·have z:=h.2.2.2.2.2 a (by omega) (by omega)
     exact⟨le_trans O z.1 ee.1,le_trans O ee.2 z.2⟩
omit O
noncomputable def CI (c:Nat->Nat->Bool) (n:Nat) (r:Nat × Array Nat):Prop:=PP n r.2/\1<=r.1/\r.1<=n/\gZ c r.2 r.1
include O
theorem O2 {n m:Nat}{p:Array Nat} (hp:PP n p) (h1:1<=m) (hm:m<=n) (h:lK c p m):cH n c (CI c n) (kas_tail3 m n p):=by
 have ha:gZ c (kas_rev p 0 m) m:=fun a b hab hb=>by
  rw [wF (by rw [hp.size]; exact hm),wF (by rw [hp.size]; exact hm),if_pos ⟨br9 _,by omega⟩,if_pos ⟨br9 _,hb⟩]
  exact h _ _ (by omega) (by omega)
 refine cH.bind (R:=fun r=>m<=r/\r<=m+(n - m)/\gZ c (kas_rev p 0 m) r/\_) (fun r q=>?_) _ (wG O (hp.rev 0 m) (n - m) m h1 (by omega) ha)
 exact⟨hp.rev _ _,by have:=q.1; omega,by have:=q.2.1; omega,q.2.2.1⟩
theorem O3 {n m:Nat}{p:Array Nat} (hp:PP n p) (h1:1<=m) (hm:m+1<=n) (h:lK c p (m+1)):cH n c (CI c n) (kas_descPart m n p):=by
 refine cH.bind (R:=fun r=>DI c n r.1 r.2.1 r.2.2) (fun r q=>?_) _ (sD O (n - (m+1)) p (m+1) 0 (by omega) ⟨hp,by omega,hm,h,by omega,fun a h1 h2=>?_⟩)
 ·by_cases hq:r.2.2 > 0
  ·rw [if_pos hq]
   obtain ⟨pr,er⟩:=O1 O q
   exact O2 O pr q.2.1 q.2.2.1 (wH O q.2.2.2.1 fun k _=>er k)
  ·rw [if_neg hq]
   exact O2 O q.1 q.2.1 q.2.2.1 q.2.2.2.1
 ·have e:a=m+1 - 1:=by omega
  rw [e]; exact⟨le_refl O _,le_refl O _⟩
theorem aB0 {n:Nat}{p:Array Nat} (hp:PP n p) (hn:1<=n):cH n c (CI c n) (kas_count n p):=by
 have a1:gZ c p 1:=fun a b hab hb=>by
  have e1:a=0:=by omega
  have e2:b=0:=by omega
  rw [e1,e2]; exact le_refl O _
 refine cH.bind (R:=fun r=>1<=r/\r<=1+(n - 1)/\gZ c p r/\(r < 1+(n - 1)->c (G p r) (G p (r - 1))=true)) (fun m q=>?_) _ (wG O hp (n - 1) 1 (bo7 _) (by omega) a1)
 obtain ⟨q1,q2,q3,q4⟩:=q
 by_cases hm:(m == n)=true
 ·rw [if_pos hm]
  exact⟨hp,q1,by omega,q3⟩
 ·rw [if_neg hm]
  have hne:m ≠ n:=by simpa using hm
  have hc:=q4 (by omega)
  by_cases h1:m > 1
  ·rw [if_pos h1]
   refine⟨hp.lt (by omega),hp.lt (by omega),?_⟩
   by_cases hd:c (p.getD 0 0) (p.getD (m - 1) 0)=true
   ·simp only [hd,if_true]
    exact⟨hp,q1,by omega,q3⟩
   ·have hd':c (p.getD 0 0) (p.getD (m - 1) 0)=false:=bz0.mpr hd
    simp only [hd',bq4,bv1]
    have eq:∀ a,0<=a->a < m->mJ c (G p a) (G p (m - 1)):=fun a _ ha=>⟨q3 a (m - 1) (by omega) (by omega),le_trans O hd' (q3 0 a (br9 _) ha)⟩
    have er:=O0 O hp (by omega:m<=n) eq
    refine O3 O (hp.rev 0 m) q1 (by omega) (wH O (p:=p) ?_ fun k _=>er k)
    refine sC O (fun a b hab hb=>?_) q1 (sB O hc)
    exact le_trans O (eq b (br9 _) hb).1 (eq a (br9 _) (by omega)).2
  ·rw [if_neg h1]
   have e:m=1:=by omega
   subst e
   refine O3 O hp (bo7 _) (by omega) (sC O (fun a b hab hb=>?_) (bo7 _) (sB O hc))
   have e1:a=0:=by omega
   have e2:b=0:=by omega
   rw [e1,e2]; exact le_refl O _
theorem wI {n k:Nat}{p:Array Nat} (hp:PP n p) (hk:k < n) (ha:gZ c p k):∀ (f l r:Nat),l<=r->r<=k->r - l<=f->(∀ a,a < l->Le c (G p a) (G p k))->(∀ a,r<=a->a < k->Le c (G p k) (G p a))->
  cH n c (fun l=>l<=k/\(∀ a,a < l->Le c (G p a) (G p k))/\∀ a,l<=a->a < k->Le c (G p k) (G p a)) (kas_place p k f l r)
 | 0,l,r,h1,h2,h3,hl,hr=>⟨by omega,hl,fun a h4 h5=>hr a (by omega) h5⟩
 | f+1,l,r,h1,h2,h3,hl,hr=>by
  unfold kas_place
  by_cases hlr:l >= r
  ·rw [if_pos hlr]
   exact⟨by omega,hl,fun a h4 h5=>hr a (by omega) h5⟩
  ·rw [if_neg hlr]
   refine⟨hp.lt hk,hp.lt (by omega),?_⟩
   by_cases hc:c (p.getD k 0) (p.getD ((l+r) / 2) 0)=true
   ·simp only [hc,if_true]
    exact wI hp hk ha f l ((l+r) / 2) (by omega) (by omega) (by omega) hl fun a h4 h5=>le_trans O (sB O hc) (ha _ _ h4 h5)
   ·have hc':c (p.getD k 0) (p.getD ((l+r) / 2) 0)=false:=bz0.mpr hc
    simp only [hc',bq4,bv1]
    exact wI hp hk ha f ((l+r) / 2+1) r (by omega) h2 (by omega) (fun a h4=>le_trans O (ha a ((l+r) / 2) (by omega) (by omega)) hc') hr
theorem O4 {n:Nat}:∀ (f:Nat) (p:Array Nat) (k:Nat),PP n p->k+f<=n->gZ c p k->cH n c (fun q=>PP n q/\gZ c q (k+f)) (kas_bin f p k)
 | 0,p,k,hp,_,h=>⟨hp,h⟩
 | f+1,p,k,hp,hk,h=>by
  refine cH.bind (R:=fun l=>l<=k/\(∀ a,a < l->Le c (G p a) (G p k))/\∀ a,l<=a->a < k->Le c (G p k) (G p a)) (fun l q=>?_) _ (wI O hp (by omega) h k 0 k (br9 _) (bo7 _) (by omega) (fun a z=>absurd z (Nat.not_lt_zero _)) fun a h1 h2=>absurd h2 (by omega))
  obtain ⟨q1,q2,q3⟩:=q
  have e:∀ a,G (bubble p k (k - l)) a=if a=l then G p k else if l < a/\a<=k then G p (a - 1) else G p a:=fun a=>by
   rw [aA8 (by rw [hp.size]; omega) (by omega),show k - (k - l)=l by omega]
  refine cH.mono (fun r z=>⟨z.1,by rw [show k+(f+1)=k+1+f by omega]; exact z.2⟩) _ (O4 f _ (k+1) (hp.bub _ _) (by omega) fun a b hab hb=>?_)
  rw [e,e]
  by_cases ha:a=l
  ·rw [if_pos ha]
   by_cases hb':b=l
   ·rw [if_pos hb']; exact le_refl O _
   ·rw [if_neg hb',if_pos (by omega)]; exact q3 _ (by omega) (by omega)
  ·rw [if_neg ha]
   by_cases ha2:l < a/\a<=k
   ·rw [if_pos ha2,if_neg (by omega),if_pos (by omega)]
    exact h _ _ (by omega) (by omega)
   ·rw [if_neg ha2]
    by_cases hb':b=l
    ·rw [if_pos hb']; exact q2 a (by omega)
    ·rw [if_neg hb']
     by_cases hb2:l < b/\b<=k
     ·rw [if_pos hb2]; exact h _ _ (by omega) (by omega)
     ·rw [if_neg hb2]; exact h _ _ hab (by omega)
theorem O5 {n:Nat} (hn:1<=n):cH n c (fun q=>PP n q/\gZ c q n) (kas_sort n):=by
 have hp:PP n (List.toArray (List.range n)):=by unfold PP; simp
 refine cH.bind (R:=CI c n) (fun r q=>?_) _ (aB0 O hp hn)
 obtain ⟨q1,q2,q3,q4⟩:=q
 by_cases h:r.1 < n
 ·rw [if_pos h]
  have e:max r.1 1=r.1:=by omega
  rw [e]
  exact cH.mono (fun p z=>⟨z.1,by rw [show r.1+(n - r.1)=n by omega] at z; exact z.2⟩) _ (O4 O (n - r.1) r.2 r.1 q1 (by omega) q4)
 ·rw [if_neg h]
  have e:r.1=n:=by omega
  exact⟨q1,by rw [e] at q4; exact q4⟩
end
end Srt
namespace L2
open PySem PySem.Spec PyProof.Rows
theorem cD.there {P:Program}{w:World}{H:Hp}{h:Heap}{a:Addr}{o:HO} (x:cD P w H h a o):∃ u,h.get? a=some u:=by
 cases o with
 | lst xs=>obtain ⟨_,_,_,_,e⟩:=x; exact⟨_,e⟩
 | tup xs=>obtain ⟨_,_,_,⟨o,e,_⟩,_⟩:=x; exact⟨_,e⟩
 | dK kvs=>obtain ⟨_,_,_,_,o,_,_,e,_⟩:=x; exact⟨_,e⟩
 | dT kvs=>obtain ⟨_,_,_,_,o,_,_,e,_⟩:=x; exact⟨_,e⟩
 | set S n=>obtain ⟨o,_,_,_,e,_⟩:=x; exact⟨_,e⟩
 | ins C dx fs=>obtain ⟨_,_,_,e,_⟩:=x; exact⟨_,e⟩
 | own y=>exact x
 | xd fs=>obtain ⟨_,⟨_,_,_,e,_⟩,_⟩:=x; exact⟨_,e⟩
 | rng lo hi=>obtain ⟨_,_,_,e⟩:=x; exact⟨_,e⟩
 | frz ob u=>obtain ⟨e,_⟩:=x; exact⟨_,e⟩
 | tbl ps=>exact⟨_,(show h.get? a=some _ from x)⟩
 | met f y=>exact⟨_,(show h.get? a=some _ from x)⟩
 | ext φ=>obtain ⟨_,z,_⟩:=x; exact z
section
variable {X : Cx} {pins : List (Addr × Obj)} {σ : St} {H : Hp} {s : Shared} {h' : Heap} {a : Addr} {o : HO} {t' : Nat}
theorem a8.laidF (I:a8 X pins σ H s) (hn:s.heap.get? a=none) (k:∀ b u,b ≠ X.env.locals->s.heap.get? b=some u->h'.get? b=some u) (ns:∀ m,s.heap.Ns X.env.locals m->h'.Ns X.env.locals m)
  (new:cD X.prog X.w (upd H a o) h' a o):H a=none/\a8 X pins σ (upd H a o) { s with heap:=h',toks:=t' }:=by
 have hHn:H a=none:=by
  cases q:H a with
  | none=>rfl
  | some u=>obtain ⟨z,e⟩:=(I.hok a u q).there; rw [hn] at e; cases e
 have ne:∀ b u,s.heap.get? b=some u->b ≠ a:=fun b u e z=>by rw [z,hn] at e; cases e
 have hL:=I.free
 refine⟨hHn,I.step (g':=s.gens) (d':=s.drawn) (ch:=[]) (fun _ z=>nomatch z) (fun b o' h1 _ _ e _=>k b o' h1 e) (fun b o' h1 _ _ e _=>⟨o'.slots,k b o' h1 e⟩) (fun b o' _ e n=>by rw [aX (ne b o' e)]; exact n) (fun b o' _ e=>?_)
  (fun b xs q=>by rw [aX (cK q hHn)]; exact q) (fun b u xs q=>by rw [aX (cK q hHn)]; exact q) (fun b ps q=>⟨#[],by rw [aX (cK q hHn),q]; simp⟩) ns (fun b u q=>?_) I.bare⟩
 ·by_cases hb:b=X.env.locals
  ·obtain ⟨m,hm,_⟩:=I.loc
   obtain ⟨o2,_,_,e2,_⟩:=ns m hm
   exact⟨o2,by rw [hb]; exact e2⟩
  ·exact⟨o',k b o' hb e⟩
 ·by_cases hb:b=a
  ·subst hb; rw [bN] at q; cases q; exact new
  ·rw [aX hb] at q
   refine (I.hok b u q).stay (fun c v hc e=>k c v ?_ e) (fun c e=>by rw [aX (cK e hHn)]; exact e) fun c xs e=>by rw [aX (cK e hHn)]; exact e
   rcases hc with z | z
   ·rw [z]; intro y; rw [y,hL] at q; cases q
   ·intro y; rw [y,hL] at z; cases z
theorem a8.newsAll (I:a8 X pins σ H s) {news:List (Addr × Obj)}{m:Str->Option Value} (hs:∀ p ∈ oU X.base s.heap X.env.locals,p ∈ news) (F:Fr X.base X.env.locals h' m) (N:News X.base X.env.locals h' news) :
  ∀ b o,b ≠ X.env.locals->s.heap.get? b=some o->h'.get? b=some o:=fun b o h1 e=>by
 cases q:X.base.get? b with
 | some u=>
  have:=I.bk b u q
  rw [e] at this; cases this
  exact F.keep b _ q
 | none=>exact (N (b,o) (hs _ (uT h1 q e))).1
end
theorem O6 {α:Type}{d:α} (l:List α) {p:List Nat} (h:p.Perm (List.range l.length)):(p.map fun i=>l.getD i d).Perm l:=by
 have e:(List.range l.length).map (fun i=>l.getD i d)=l:=by
  apply List.ext_getElem
  ·simp
  ·intro i h1 h2
   simp at h1
   simp [h1]
 have:=h.map fun i=>l.getD i d
 rw [e] at this
 exact this
theorem sE:∀ {xs:List V}{us:List Value} (i:Nat),i < xs.length->aR xs us->b5 (xs.getD i .non) (us.getD i Value.none)
 | _,_,_,h,.nil=>by simp at h
 | _,_,0,_,.cons r _=>by simpa using r
 | _,_,i+1,h,.cons _ t=>by
  have:=sE i (by simpa using h) t
  simpa using this
theorem wJ {xs:List V}{us:List Value} (r:aR xs us):∀ {p:List Nat},(∀ i ∈ p,i < xs.length)->aR (p.map fun i=>xs.getD i .non) (p.map fun i=>us.getD i Value.none)
 | [],_=>.nil
 | i :: p,h=>.cons (sE i (h i bo4) r) (wJ r fun j hj=>h j (bo5 _ hj))
theorem O7 {α:Type}:∀ l:List α,(l.zip l).map (·.2)=l
 | []=>rfl
 | a :: l=>by
  show a :: ((l.zip l).map (·.2))=a :: l
  rw [O7 l]
theorem aB1 {prog:Program}{w:World}{A:Around}{E:Value->Shared->Prop}{s:Shared}{a:Addr}{vs:List Value}{n:Nat}{P:PySem.Fin->Shared->Prop} (e:s.heap.get? a=some (seqObj "list" vs.toArray n)) (few:vs.length < 2)
  (q:P (.done (.ret .none)) { s with heap:=sortedHeap s.heap a vs vs.toArray }):wpAny (model prog w) A (Builtin.«list.sort» ⟨[.ref a],[]⟩) P E s:=by
 have big:vs.length<=sizeLine:=bs2 (bt5 few) (by decide)
 have la:=bp5 e
 have c:vs.toArray.size < 2:=by simpa using few
 have same:(arrOf (SortSt.mk' general' (vs.toArray.zip vs.toArray) #[] 7 none)).map (·.2)=vs.toArray:=by
  change (vs.toArray.zip vs.toArray).map (·.2)=vs.toArray
  apply Array.ext'
  simpa using O7 vs
 obtain ⟨k,ek⟩:∃ k,(s.heap.update a (Obj.mapSeq fun _=>#[])).get? a=some (seqObj "list" #[] k):=⟨_,get?_update_seq e fun _=>#[]⟩
 have there:(((s.heap.update a (Obj.mapSeq fun _=>#[])).push (seqObj "tuple" vs.toArray 0)).push (seqObj "list" #[] 0)).get? a=some (seqObj "list" #[] k):=
  bn6 _ (bn6 _ ek)
 rw [list_sort_plain]
 apply bn3
 apply listItems_at e rfl
 apply bn3
 refine listUpdate_at e rfl ?_ (by simpa using big) (br9 _)
 apply bn3
 apply seqEpoch_at ek rfl
 apply bn3
 refine wpAny_newTuple ?_ big
 apply bn3
 refine wpAny_newList ?_ (br9 _)
 apply bx4
 simp only [c,if_true,StateT.run_pure]
 apply bn3
 apply bo9
 apply bn3
 apply bo9
 apply bn3
 apply seqEpoch_at there rfl
 apply bn3
 refine listUpdate_at there rfl ?_ (br9 _) (by rw [same,bn5]; exact Nat.le_succ_of_le big)
 rw [same]
 simp only [bne_self_eq_false,bq4,bv1]
 exact bo9 q
theorem O8 {prog:Program}{w:World}{A:Around}{E:Value->Shared->Prop}{s:Shared}{l:Addr}{vs:List Value}{Q:Value->Shared->Prop} (hl:s.heap.IsList l vs.toArray) (few:vs.length < 2)
  (q:Q (.ref (s.heap.objs.size+1)) { s with heap:=sortedAll s.heap vs vs.toArray }):wpAny (model prog w) A (call (.builtin "sorted") [.ref l]) Q E s:=by
 have big:vs.length<=sizeLine:=bs2 (bt5 few) (by decide)
 apply Calls.call_function_entry kind_sorted plain_sorted entry_sorted (args_sorted1 _)
 simp only [Builtin.«sorted»]
 apply bn3 (m:=checkCount "sorted" 1 1 _)
 apply bo9
 apply bn3
 refine collect_list hl ?_ big
 apply bn3
 refine wpAny_newList ?_ big
 have one:((s.heap.push (seqObj "list" #[] 0)).update s.heap.objs.size (Obj.mapSeq (· ++ vs.toArray))).objs.size=s.heap.objs.size+1:=(Heap.size_update _ _ _).trans (size_push' _ _)
 have at1:(((s.heap.push (seqObj "list" #[] 0)).update s.heap.objs.size (Obj.mapSeq (· ++ vs.toArray))).push (seqObj "list" vs.toArray 0)).get? (s.heap.objs.size+1)=some (seqObj "list" vs.toArray 0):=one ▸ bp7 _ rfl
 change wpAny _ _ _ _ _ { s with heap:=((s.heap.push (seqObj "list" #[] 0)).update s.heap.objs.size (Obj.mapSeq (· ++ vs.toArray))).push (seqObj "list" vs.toArray 0) }
 rw [one]
 apply bn3
 apply bx4
 refine bu8 slot_list_sort ⟨_,at1,rfl⟩ entry_list_sort ?_ (args_list_sort _)
 refine aB1 at1 few ⟨_,rfl,?_⟩
 exact bo9 ⟨_,rfl,q⟩
noncomputable def O9 (K:PySem.W.Frag):List V->Hp->VK->Prop:=fun xs H Q=>∃ a ns,xs = [.ref a]/\aN K H a (ns.map V.int)/\ns.length < 64/\∀ l (ms:List Int),H l=none->ms.Perm ns->ms.Pairwise (· <= ·)->Q (.ref l) (upd H l (.lst (ms.map V.int)))
theorem P0 {X:Cx}:dN X (.builtin "sorted") (O9 X.K):=by
 intro pins s σ H xs us Q I r h
 obtain ⟨a,ns,rfl,hs,h64,q⟩:=h
 obtain ⟨u,rfl,ru⟩:=jV r
 cases ru
 obtain ⟨its,rv,p,hz⟩:=I.list hs
 have hl:=rv.length
 rw [bn7] at hl
 refine sorted_ints p.isList (pD rv) (by omega) fun out ns' a1 a2 a3=>?_
 obtain ⟨e,he⟩:=sortedAll_at s.heap its out
 have hn:s.heap.objs.size<=s.heap.objs.size+1:=Nat.le_succ _
 have hlen:ns'.length=ns.length:=a2.length_eq
 refine⟨.ref (s.heap.objs.size+1),upd H (s.heap.objs.size+1) (.lst (ns'.map V.int)),I.laid (t':=s.toks) (fun _ _=>sortedAll_old) hn ⟨?_,out.toList,e,pM a1,by simpa using he⟩,rfl,q _ ns' (I.hok.fresh hn) a2 a3⟩
 rw [bn7,hlen]
 exact bt5 (nK (by omega))
theorem P3:∀ {a b:List Int},HT.fX a b=true->HT.fX b a=false
 | [],[],h=>by cases h
 | [],_ :: _,_=>rfl
 | _ :: _,[],h=>by cases h
 | x :: xs,y :: ys,h=>by
  rw [HT.pC] at h ⊢
  by_cases e:x=y
  ·rw [if_pos e] at h; rw [if_pos e.symm]; exact P3 h
  ·rw [if_neg e] at h; rw [if_neg (Ne.symm e)]
   have:=bs3 h
   exact bn9 (by omega)
theorem P4:∀ {a b c:List Int},HT.fX a b=false->HT.fX b c=false->HT.fX a c=false
 | [],[],c,_,h=>h
 | [],_ :: _,_,h,_=>by cases h
 | _ :: _,[],[],_,_=>rfl
 | _ :: _,[],_ :: _,_,h=>by cases h
 | _ :: _,_ :: _,[],_,_=>rfl
 | x :: xs,y :: ys,z :: zs,h1,h2=>by
  rw [HT.pC] at h1 h2 ⊢
  by_cases e1:x=y
  ·rw [if_pos e1] at h1
   by_cases e2:y=z
   ·rw [if_pos e2] at h2; rw [if_pos (e1.trans e2)]; exact P4 h1 h2
   ·rw [if_neg e2] at h2; rw [if_neg (by rw [e1]; exact e2)]; rw [e1]; exact h2
  ·rw [if_neg e1] at h1
   have k1:=bx3 h1
   by_cases e2:y=z
   ·rw [<- e2,if_neg e1]; exact h1
   ·rw [if_neg e2] at h2
    have k2:=bx3 h2
    rw [if_neg (by omega)]
    exact bn9 (by omega)
section
variable {prog : Program} {w : World} {A : Around} {s : Shared} {Q : Bool → Shared → Prop}
theorem P5:∀ {us ws:List Value}{xs ys:List Int} (i:Nat),IntsAre us xs->IntsAre ws ys->Q (HT.fX xs ys) s->PySem.W.KatLex prog w A true (decide (us.length < ws.length)) Q (us.zip ws) i s
 | _,_,_,_,_,.nil,.nil,h=>h
 | _,_,_,_,_,.nil,.cons _ _ _,h=>h
 | _,_,_,_,_,.cons _ _ _,.nil,h=>h
 | _,_,_,_,i,.cons (vs:=us) x t hx,.cons (vs:=ws) y u hy,h=>by
  refine PySem.W.kat_cons (wpAny_eqBool_int ?_)
  rw [HT.pC] at h
  by_cases e:x=y
  ·rw [if_pos e] at h
   have eb:(x == y)=true:=by simpa using e
   rw [eb]
   refine PySem.W.kat_yes ?_
   have e2:decide ((Value.int x t :: us).length < (Value.int y u :: ws).length)=decide (us.length < ws.length):=by simp
   rw [e2]
   exact P5 (i+1) hx hy h
  ·rw [if_neg e] at h
   have eb:(x == y)=false:=by simpa using e
   rw [eb]
   refine PySem.W.kat_no ?_
   cases hi:(true && i == 0) with
   | true=>exact PySem.W.kat_lt_int h
   | false=>exact PySem.W.kat_one _ _ (lt_int h)
end
noncomputable def P6 (K:PySem.W.Frag):List V->Hp->VK->Prop:=fun xs H Q=>∃ (a:Addr) (ys:List V) (key:V->List Int),xs = [.ref a]/\aN K H a ys/\ys.length < 64/\(∀ y ∈ ys,∃ b,y = .ref b/\aM K H b ((key y).map V.int)/\key y ≠ [])/\
 ∀ l (zs:List V),H l=none->zs.Perm ys->zs.Pairwise (fun u v=>HT.fX (key v) (key u)=false)->Q (.ref l) (upd H l (.lst zs))
theorem P7 {c:Nat->Nat->Bool}{R:V->V->Prop}{ys:List V}{p:Array Nat}{n:Nat} (hp:Srt.PP n p) (ha:Srt.gZ c p n) (hR:∀ i j,Srt.Le c i j->R (ys.getD i .non) (ys.getD j .non)) :
  (p.toList.map fun i=>ys.getD i .non).Pairwise R:=by
 rw [bx0,List.pairwise_iff_getElem]
 intro i j hi hj hij
 have hs:=hp.size
 have h1:i < n:=by rw [<- hs]; simpa using hi
 have h2:j < n:=by rw [<- hs]; simpa using hj
 have q:=ha i j (bt5 hij) h2
 have e:∀ k (hk:k < p.toList.length),Srt.G p k=p.toList[k]:=fun k hk=>by
  have hk':k < p.size:=by simpa using hk
  unfold Srt.G; rw [bB4]; simp [hk']
 rw [e i hi,e j hj] at q
 exact hR _ _ q
theorem aB2 {X:Cx}:dN X (.builtin "sorted") (P6 X.K):=by
 intro pins s σ H xs us Q I r h
 obtain ⟨a,ys,key,rfl,hs,h64,hk,q⟩:=h
 obtain ⟨u,rfl,ru⟩:=jV r
 cases ru
 obtain ⟨its,rv,p,hz⟩:=I.list hs
 have hl:=rv.length
 by_cases h2:its.length < 2
 ·
  refine O8 p.isList h2 ?_
  obtain ⟨e,he⟩:=sortedAll_at s.heap its its.toArray
  have hn:s.heap.objs.size<=s.heap.objs.size+1:=Nat.le_succ _
  refine⟨.ref (s.heap.objs.size+1),upd H (s.heap.objs.size+1) (.lst ys),I.laid (t':=s.toks) (fun _ _=>sortedAll_old) hn ⟨hz,its,e,rv,he⟩,rfl,q _ ys (I.hok.fresh hn) (List.Perm.refl _) ?_⟩
  match ys,hl with
  | [],_=>exact bv2
  | [_],_=>exact bq2 _ _
  | _ :: _ :: _,hl=>simp at hl; omega
 ·obtain ⟨m,F⟩:=I.fr
  have hL:∀ {b:Addr}{k:List Int},aM X.K H b (k.map V.int)->b ≠ X.env.locals:=fun {b k} z e=>by
   obtain ⟨its',_,⟨ob,e1,c1,_⟩,_⟩:=I.tuple z
   obtain ⟨m',⟨o',es',ep',e2,d2,_⟩,_⟩:=I.loc
   rcases z with (z | ⟨_,z⟩) | ⟨o3,its3,n3,z3,zc,zd,_⟩
   ·rw [e,I.free] at z; cases z
   ·rw [e,I.free] at z; cases z
   ·have:=I.kIn b o3 z3
    rw [e,e2] at this
    cases this
    rw [d2] at zd; cases zd
  refine PySem.W.kat_sorted F (B6 (g:=X.base) (h:=s.heap) (L:=X.env.locals)) p.isList (by omega) (by omega) fun D e1 h' F' N' hD=>?_
  have keep:=I.newsAll (fun p hp=>bo5 _ hp) F' N'
  have look:∀ i,i < ys.length->∃ (b:Addr) (ob:Obj) (us:List Value) (n:Nat),its.getD i Value.none = .ref b/\h'.get? b=some ob/\ob.cls = .type "tuple"/\ob.data = .seq us.toArray n/\IntsAre us (key (ys.getD i .non))/\key (ys.getD i .non) ≠ []:=fun i hi=>by
   have hy:ys.getD i .non ∈ ys:=by
    rw [bq0,bo1 hi]; exact List.getElem_mem hi
   obtain ⟨b,eb,sq,ne⟩:=hk _ hy
   have rr:=sE i hi rv
   rw [eb] at rr
   have rr:its.getD i Value.none = .ref b:=rr
   obtain ⟨us,ru,⟨ob,e1,c1,n1,d1⟩,_⟩:=I.tuple sq
   exact⟨b,ob,us,n1,rr,keep b ob (hL sq) e1,c1,d1,pD ru,ne⟩
  have firsts:∀ {xs:List V}{vs:List Value},aR xs vs->(∀ y ∈ xs,∃ b,y = .ref b/\aM X.K H b ((key y).map V.int)/\key y ≠ [])->∃ fs:List Value,PySem.W.KatTups h' vs fs/\fs.length=vs.length/\∀ v ∈ fs,∃ i t,v=Value.int i t:=by
   intro xs vs r
   induction r with
   | nil=>intro _; exact⟨[],PySem.W.KatTups.nil,rfl,fun _ z=>nomatch z⟩
   | @cons x v xs vs rx rt ih=>
    intro hh
    obtain ⟨fs,t1,t2,t3⟩:=ih fun y hy=>hh y (bo5 _ hy)
    obtain ⟨b,eb,sq,ne⟩:=hh x bo4
    subst eb
    cases rx
    obtain ⟨us,ru,⟨ob,e1,c1,n1,d1⟩,_⟩:=I.tuple sq
    have ia:=pD ru
    generalize key (V.ref b)=kk at ia ne
    cases ia with
    | nil=>exact absurd rfl ne
    | @cons n t vs0 ns0 ht=>
     exact⟨Value.int n t :: fs,PySem.W.KatTups.cons (keep b ob (hL sq) e1) c1 d1 (by simp) t1,by simp [t2],fun v hv=>(bo3.mp hv).elim (fun z=>⟨n,t,z⟩) (t3 v)⟩
  obtain ⟨fs,t1,t2,t3⟩:=firsts rv hk
  refine PySem.W.kat_kind (T:=.type "int") t1 (by omega) (fun v hv=>?_) (by decide) ?_
  ·obtain ⟨i,t,rfl⟩:=t3 v hv
   exact PySem.W.Looks.now
  let c:Nat->Nat->Bool:=fun i j=>HT.fX (key (ys.getD i .non)) (key (ys.getD j .non))
  have O:Srt.sA c:=⟨fun h=>P3 h,fun h1 h2=>P4 h1 h2⟩
  have ok:=Srt.O5 (n:=its.length) O (by omega)
  refine Srt.cH.run (I:=fun s'=>s'={ s with heap:=h' }) (fun i j C s' hi hj hI hC=>?_) (fun pa s' hR hI=>?_) _ _ rfl ok
  ·subst hI
   obtain ⟨b1,o1,u1,n1,g1,g2,_,g4,g5,_⟩:=look i (by omega)
   obtain ⟨b2,o2,u2,n2,k1,k2,_,k4,k5,_⟩:=look j (by omega)
   show wpAny _ _ (keyLt' (tuples' (Value.type "int" != Value.type "tuple")) (its.getD i Value.none) (its.getD j Value.none)) _ _ _
   rw [g1,k1]
   have eT:(Value.type "int" != Value.type "tuple")=true:=by decide
   rw [eT]
   refine PySem.W.kat_lt g2 g4 k2 k4 ?_
   have:=P5 (prog:=X.prog) (w:=X.w) (A:=X.A.in1.in1) (s:={ s with heap:=h' }) (Q:=C) 0 g5 k5 (hC _ rfl)
   simpa using this
  ·subst hI
   obtain ⟨hp,hasc⟩:=hR
   refine PySem.W.KasFin.intro F' N' (PySem.W.UpdF.head fun p hp=>br7 (hD p hp)) fun h2 cc F2 N2=>?_
   have keep2:=I.newsAll (fun p hp=>bo5 _ hp) F2 N2
   have hDn:s.heap.get? D=none:=by
    cases z:s.heap.get? D with
    | none=>rfl
    | some o=>
     obtain ⟨_,n1,n2⟩:=N2 (D,_) bo4
     exact absurd (hD _ (uT n1 n2 z)) (bt0 _)
   have hpl:∀ i ∈ pa.toList,i < ys.length:=fun i hi=>by
    have:=by0.mp (hp.mem_iff.mp hi); omega
   have hp':pa.toList.Perm (List.range ys.length):=by rw [hl]; exact hp
   have pm:=O6 (d:=V.non) ys hp'
   obtain ⟨hDo,hDL,hDb⟩:=N2 (D,_) bo4
   obtain ⟨hHD,I2⟩:=I.laidF (t':=s.toks) (a:=D) (o:=.lst (pa.toList.map fun i=>ys.getD i .non)) hDn keep2 (fun m' hm'=>by
     have e:m'=m:=funext fun nm=>Heap.Ns.agree hm' F.ns nm
     rw [e]; exact F2.ns) ⟨by rw [pm.length_eq]; exact hz,_,cc,wJ rv hpl,hDo⟩
   exact⟨.ref D,_,I2,rfl,q D _ hHD pm (P7 hp hasc fun i j hle=>hle)⟩
end L2
namespace Raw
open PySem PySem.W PySem.Calls PyProof.Rows
noncomputable def iU (h:Heap) (d:Addr) (es:Array DictEntry) (ep:Nat):Prop:=∃ o,h.get? d=some o/\o.ExactDict/\o.data = .dict es ep
theorem iU.ty {s:Shared}{d:Addr}{es:Array DictEntry}{ep:Nat} (x:iU s.heap d es ep):s.TypeIs (.ref d) "dict":=x.elim fun o y=>⟨o,y.1,y.2.1.1⟩
theorem iU.lt {h:Heap}{d:Addr}{es:Array DictEntry}{ep:Nat} (x:iU h d es ep):d < h.objs.size:=x.elim fun _ y=>bp5 y.1
theorem iU.keep {h h':Heap}{d:Addr}{es:Array DictEntry}{ep:Nat} (x:iU h d es ep) (k:∀ o,h.get? d=some o->h'.get? d=some o):iU h' d es ep:=x.elim fun o y=>⟨o,k o y.1,y.2⟩
section
variable {prog : Program} {w : World} {A : Around} {E : Value → Shared → Prop} {s : Shared} {d it : Addr} {es : Array DictEntry} {ep i : Nat}
theorem made (far:(d == sysModules)=false) (x:iU s.heap d es ep) {Q:Value->Shared->Prop}
  (q:Q (.ref s.heap.objs.size) { s with heap:=s.heap.push { cls:=.type "dict_keyiterator",data:=.fields #[.ref d,.int 0 0,.int es.size 0,.int ep 0] } }):wpAny (model prog w) A (pyIter (.ref d)) Q E s:=by
 have T:=x.ty
 obtain ⟨o,e1,e2,e3⟩:=x
 apply wpAny_pyIter_slot T PySem.F.slot_dict_iter
 apply bu8 PySem.F.slot_dict_iter T PySem.F.entry_dict_iter _ (PySem.F.args_dict_iter_1 _)
 simp only [Builtin.«dict.__iter__»,Builtin.Dict.dictSlotNone]
 apply bn3
 apply bn3
 apply wpAny_notOrdered_dict T
 apply bo9
 change wpAny _ _ (Builtin.Dict.showsAll d >>= _) _ _ s
 have far':Builtin.Dict.showsAll d=pure ():=by
  unfold Builtin.Dict.showsAll
  simp only [far,bq4,bv1]
 rw [far',pure_bind]
 apply bn3
 apply wpAny_dictEntries e1 e3
 apply bn3
 apply wpAny_dictEpoch e1 e3
 apply bn3
 refine bv7 (bo9 ?_)
 refine⟨.ref s.heap.objs.size,rfl,"dict_keyiterator",_,⟨_,bp7 _ rfl,rfl⟩,PySem.F.slot_dict_keyiterator_next.lookup,?_⟩
 simpa only [rawInt] using q
theorem turn (hh:A.handled=none) (hi:s.heap.IsKeyIter it d i es.size ep) (x:iU s.heap d es ep) {Q:Option Value->Shared->Prop}
  (yes:∀ (lt:i < es.size) h',h'.IsKeyIter it d (i+1) es.size ep->Heap.SameBut it s.heap h'->Q (some es[i].key) { s with heap:=h' })
  (no:es.size<=i->∀ h',Heap.ExtBut it s.heap h'->Q none { s with heap:=h' }):wpAny (model prog w) A (pyNext (.ref it)) Q E s:=by
 have T:=hi.typeIs
 obtain ⟨oi,f1,f2,f3⟩:=hi
 obtain ⟨o,e1,e2,e3⟩:=x
 have slot:=PySem.F.slot_dict_keyiterator_next
 have plain:Builtin.Dict_items.ownsTuple "dict_keyiterator" = false:=by decide
 have isref:(Value.ref d == Value.none)=false:=rfl
 have nn : ¬ (i:Int) < 0:=by omega
 unfold pyNext
 apply bn3
 apply wpAny_attempt
 apply bu3 (name:=Str.ofString "__next__") T slot
 apply bu8 slot T PySem.F.entry_dict_keyiterator_next _ (PySem.F.args_dict_keyiterator_next_1 _)
 apply bn3
 apply bo9
 apply bn3
 apply bn3
 apply bn3
 first
  | apply wpAny_typeNameOfWhole_keyiter T
  | apply wpAny_typeNameOf_keyiter T
 apply bo9
 apply bn3
 apply wpAny_fieldsOf f1 f3
 simp only [plain,bq4,bv1]
 change wpAny _ _ (if (Value.ref d == Value.none)=true then _ else _) _ _ s
 have adr:Builtin.Dict_items.addrOf (Value.ref d)=pure d:=rfl
 simp only [isref,bq4,bv1,adr,pure_bind]
 apply bn3
 apply wpAny_dictEntries e1 e3
 simp only [bne_self_eq_false,bq4,bv1]
 apply bn3
 apply wpAny_dictEpoch e1 e3
 simp only [bne_self_eq_false,bq4,bv1]
 apply bo9
 simp only [nn,bv1,bq7]
 by_cases lt:i < es.size
 ·simp only [Array.getElem?_eq_getElem lt]
  apply bn3
  apply bn3
  first
   | apply wpAny_typeNameOfWhole_keyiter T
   | apply wpAny_typeNameOf_keyiter T
  apply bo9
  apply bn3
  apply wpAny_isOneOf_keyiter T
  change wpAny _ _ (setField (.ref it) 1 (rawInt ((i:Int)+1)) >>= _) _ _ s
  apply bn3
  refine wpAny_setField f1 f3 (by simp) ?_
  have again:(s.heap.update it (Obj.mapFields (·.setIfInBounds 1 (rawInt ((i:Int)+1))))).IsKeyIter it d (i+1) es.size ep:=by
   refine⟨_,Heap.get?_update_self _ f1 (Obj.isFreed_of_fields (Obj.data_mapFields f3 _)),?_,?_⟩
   ·rw [Obj.cls_mapFields]; exact f2
   ·rw [Obj.data_mapFields f3]; simp [rawInt]
  apply bn3
  apply bx4
  apply bn3
  refine wpAny_isOneOf_keyiter (s:={ s with heap:=s.heap.update it (Obj.mapFields (·.setIfInBounds 1 (rawInt ((i:Int)+1)))) }) again.typeIs ?_
  change wpAny _ _ (pure es[i].key) _ _ _
  apply bo9
  apply bo9
  exact⟨es[i].key,rfl,bo9 (yes lt _ again (Heap.SameBut.update ..))⟩
 ·have ge:es.size<=i:=bC0 lt
  simp only [Array.getElem?_eq_none ge]
  apply bn3
  apply bn3
  first
   | apply wpAny_typeNameOfWhole_keyiter T
   | apply wpAny_typeNameOf_keyiter T
  apply bo9
  change wpAny _ _ (setField (.ref it) 0 .none >>= _) _ _ s
  apply bn3
  refine wpAny_setField f1 f3 (by simp) ?_
  apply bn3
  simp only [newExc,newTuple]
  apply bn3
  refine bv7 ?_ (by size_fits)
  apply bn3
  refine wpAny_of_eq (a:=Value.none) (by first | rfl | (simp only [firstArgMember]; rfl)) ?_
  refine bv7 ?_ (by size_fits)
  unfold raiseNew
  apply bn3
  apply wpAny_handled
  have quiet:A.in1.handled=none:=hh
  rw [quiet]
  refine wpAny_throw ?_
  apply bn3
  refine wpAny_isInstance (T:="StopIteration") (b:=true) ⟨_,bp7 _ rfl,rfl⟩ isSubtype_stop ?_
  exact bo9 (no ge _ (((Heap.SameBut.update ..).extBut.push _).push _))
theorem aB3 (hh:A.handled=none) (ne:d ≠ it):Walks prog w A it [it,d] [it] es.size (fun i v=>∃ lt:i < es.size,es[i].key=v) (fun i h=>h.IsKeyIter it d i es.size ep/\iU h d es ep) where
 sub:=by intro b hb; rw [bo2.mp hb]; exact bo4
 frame:=by
  intro i h h' st hk
  exact⟨st.1.at (hk it bo4),st.2.keep (hk d (bo5 _ bo4))⟩
 item:=by
  intro i s Q E lt st hQ
  refine turn hh st.1 st.2 (fun lt' h' again sb=>?_) fun ge=>absurd lt (Nat.not_lt.mpr ge)
  exact hQ _ h' s.toks ⟨lt',rfl⟩ ⟨again,st.2.keep fun o e=>sb.extBut d o ne e⟩ fun b o hb e=>sb.extBut b o (fun z=>hb (bo2.mpr z)) e
 done:=by
  intro s Q E st hQ
  refine turn hh st.1 st.2 (fun lt=>absurd lt (bt0 _)) fun _ h' eb=>?_
  exact hQ h' s.toks fun b o hb e=>eb b o (fun z=>hb (bo2.mpr z)) e
 self:=by intro i s Q E st hQ; exact wpAny_pyIter_keyiter st.1 hQ
theorem aB4 (far:(d == sysModules)=false):KdlSrc prog w "dict" d d es.size (fun i v=>∃ lt:i < es.size,es[i].key=v) (fun h=>iU h d es ep) where
 type:=fun _ x=>x.ty
 there:=fun _ x=>⟨x.lt,x.lt⟩
 keep:=fun _ _ x k=>x.keep (k d (.inl rfl))
 notList:=by decide
 notTuple:=by decide
 hint:=fun _ _ _ _ x q=>kdl_hint_dict x.ty q
 iter:=fun _ _ hh x=>⟨_,_,fun _ _ q=>made far x q,aB3 hh (br7 x.lt),⟨_,bp7 _ rfl,rfl,rfl⟩,x.keep fun o e=>bn6 _ e⟩
end
end Raw
namespace L2
open PySem PySem.Spec PyProof.Rows
section
variable {X : Cx} {pins : List (Addr × Obj)} {σ : St} {H : Hp} {s : Shared} {a : Addr}
theorem aB5 {kvs:List (aE × V)} (I:a8 X pins σ H s) (h:H a=some (.dK kvs)):∃ es ep,Raw.iU s.heap a es ep/\(a == sysModules)=false/\aR (kvs.map fun p=>kV p.1) (es.toList.map (·.key))/\kvs.length<=sizeLine:=by
 obtain ⟨z,far,vs,rel,o,es,ep,e1,e2,e3,kk,pr,nd⟩:=(show cD X.prog X.w H s.heap a (.dK kvs) from I.hok a _ h)
 refine⟨es,ep,⟨o,e1,e2,e3⟩,far,?_,z⟩
 clear z far e1 e2 e3 kk nd h
 generalize es.toList=l at pr
 induction pr generalizing kvs with
 | nil=>cases rel; exact .nil
 | @cons e k es' kvs' h1 h2 _ ih=>
  cases rel with
  | @cons p q ps qs r rs=>
   refine .cons ?_ (ih rs)
   obtain ⟨r1,_⟩:=r
   show b5 (kV p.1) e.key
   rw [r1]
   rcases jR h1 with ⟨n,t,e4,e5⟩ | ⟨x,t,e4,e5⟩
   ·rw [e4,e5]; exact⟨t,rfl⟩
   ·rw [e4,e5]; exact⟨t,rfl⟩
theorem aB6 {es:Array DictEntry}{acc:Array Value} (h:ItemsOf (fun i v=>∃ lt:i < es.size,es[i].key=v) acc es.size):acc.toList=es.toList.map (·.key):=by
 apply List.ext_getElem?
 intro j
 have h1:=h.1
 by_cases hj:j < es.size
 ·have hj':j < acc.size:=by rw [h1]; exact hj
  obtain ⟨_,e⟩:=h.2 j acc[j] (by simp [hj'])
  rw [bo8]
  simp [hj,hj',e]
 ·have hj' : ¬ j < acc.size:=by rw [h1]; exact hj
  rw [bo8]
  simp [bC0 hj,bC0 hj']
end
section
variable {X : Cx}
theorem aB7:dN X (.builtin "isinstance") (fun xs H Q=>∃ x t n b,xs = [x,.ty n]/\gX X.K H x t/\PySem.W.kitOne X.K t (.type n)=some b/\Q (.bl b) H):=by
 intro pins s σ H xs us Q I r h
 obtain ⟨x,t,n,b,rfl,ty,e,q⟩:=h
 obtain ⟨u,u',rfl,ru,ru'⟩:=p9 r
 cases ru'
 exact au7 I ru ty e fun tk=>⟨.bl b,H,I.tok tk,rfl,q⟩
end
noncomputable def P8 (outer:List (Str × NameKind)) (XN:List Str) (names:List (Str × NameKind)) (N:List Str) (fr:List (Option Nat)):Bool:=
 names.all (fun y=>!(y.2 == .cell) || names.lookup y.1 == some .cell) && names.all (fun y=>!(y.2 == .local) || names.lookup y.1 == some .local) &&
 names.all (fun y=>!(y.2 == .free) || (outer.lookup y.1 == some .cell || outer.lookup y.1 == some .free)) && fr.length == N.length &&
 (fr.zip N).all (fun p=>match p.1 with
  | none=>true
  | some j=>XN[j]? == some p.2 && names.lookup p.2 == some .free)
theorem cX.of {X:Cx}{scope:Scope}{N:List Str}{fr:List (Option Nat)} (hk:scope.kind = .function) (h:P8 X.env.scope.names X.N scope.names N fr=true):cX X scope N fr:=by
 unfold P8 at h
 simp only [br3] at h
 obtain ⟨⟨⟨⟨h1,h2⟩,h3⟩,h4⟩,h5⟩:=h
 refine⟨hk,fun y hy e=>?_,fun y hy e=>?_,fun y hy e=>?_,by simpa using h4,fun i j e=>?_⟩
 ·have:=bw4.mp h1 y hy
  rw [e] at this; simpa using this
 ·have:=bw4.mp h2 y hy
  rw [e] at this; simpa using this
 ·have:=bw4.mp h3 y hy
  rw [e] at this; simpa using this
 ·have hl:fr.length=N.length:=by simpa using h4
  have hi:i < fr.length:=(bn8.mp e).1
  have m:(some j,N[i]'(by omega)) ∈ fr.zip N:=by
   have:(fr.zip N)[i]? = some (some j,N[i]'(by omega)):=by
    rw [List.getElem?_zip_eq_some]
    exact⟨e,by simp⟩
   exact bp0 this
  have:=bw4.mp h5 _ m
  simp only [br3,beq_iff_eq] at this
  exact⟨N[i]'(by omega),by simp,this.1,this.2⟩
theorem P9 {n:Option V}{r:St}{v:V}:Wk (none :: r) (some v :: r):=(Wk.refl (none :: r)).set (i:=0) rfl
noncomputable def pQ (H:Hp) (ys:List V) (ls:List (Int × Int)):Prop:=Paired (fun y l=>∃ b,y = .ref b/\H b=some (.tup [.int l.1,.int l.2])) ys ls
structure Q0 (H:Hp) (v:V) (ws:List Int) (ls:List (Int × Int)):Prop where
 at_:∃ a p q ys,v = .ref a/\H a=some (.tup [.ref p,.ref q])/\H p=some (.tup (ws.map V.int))/\H q=some (.tup ys)/\pQ H ys ls
theorem pQ.get {H:Hp}:∀ {ys:List V}{ls:List (Int × Int)}{i:Nat}{y:V},pQ H ys ls->ys[i]? = some y->∃ l b,ls[i]? = some l/\y = .ref b/\H b=some (.tup [.int l.1,.int l.2])
 | _,_,_,_,.nil,e=>by simp at e
 | _,_,0,_,.cons (b:=l) ⟨b,h1,h2⟩ _,e=>by simp at e; subst e; exact⟨l,b,rfl,h1,h2⟩
 | _,_,i+1,_,.cons _ t,e=>by
  obtain ⟨l,b,h1,h2⟩:=pQ.get (i:=i) t (by simpa using e)
  exact⟨l,b,by simpa using h1,h2⟩
noncomputable def aO (ls:List (Int × Int)) (k:Int):List Int:=ls.flatMap fun l=>(if l.1=k then [l.2] else []) ++ (if l.2=k then [l.1] else [])
theorem aB8 (ls:List (Int × Int)) (l:Int × Int) (k:Int):aO (ls ++ [l]) k=aO ls k ++ ((if l.1=k then [l.2] else []) ++ (if l.2=k then [l.1] else [])):=by
 unfold aO; rw [List.flatMap_append]; simp
theorem Q2 {ls:List (Int × Int)}{i:Nat}{l:Int × Int} (h:ls[i]? = some l) (k:Int):aO (ls.take (i+1)) k=aO (ls.take i) k ++ ((if l.1=k then [l.2] else []) ++ (if l.2=k then [l.1] else [])):=by
 rw [bs1,h]; exact aB8 _ _ _
structure jE (H H':Hp) (r:Addr) (bs:List Addr) (f:Nat->List Int):Prop where
 new:H r=none
 news:∀ b ∈ bs,H b=none/\b ≠ r
 nd:bs.Nodup
 row:H' r=some (.lst (bs.map V.ref))
 rows:∀ (k:Nat) (b:Addr),bs[k]? = some b->H' b=some (.lst ((f k).map V.int))
 same:aG H H'
theorem jE.congr {H H':Hp}{r:Addr}{bs:List Addr}{f g:Nat->List Int} (h:jE H H' r bs f) (e:∀ k,k < bs.length->f k=g k):jE H H' r bs g:=
 ⟨h.new,h.news,h.nd,h.row,fun k b hb=>by rw [<- e k (bn8.mp hb).1]; exact h.rows k b hb,h.same⟩
theorem jE.app {H H':Hp}{r:Addr}{bs:List Addr}{f:Nat->List Int} (h:jE H H' r bs f) {k:Nat}{b:Addr} (hb:bs[k]? = some b) (x:Int) :
  jE H (upd H' b (.lst ((f k).map V.int ++ [V.int x]))) r bs (fun j=>if j=k then f j ++ [x] else f j):=by
 have hm:b ∈ bs:=bp0 hb
 refine⟨h.new,h.news,h.nd,by rw [aX (Ne.symm (h.news b hm).2)]; exact h.row,fun j c hc=>?_,fun c o e=>by rw [aX (cK e (h.news b hm).1)]; exact h.same c o e⟩
 by_cases hj:j=k
 ·subst hj
  rw [hb] at hc; cases hc
  rw [bN,if_pos rfl]; simp
 ·rw [if_neg hj]
  have ne:c ≠ b:=fun z=>by
   subst z
   obtain ⟨i1,e1⟩:=bn8.mp hb
   obtain ⟨i2,e2⟩:=bn8.mp hc
   refine hj (Nat.le_antisymm (bC0 fun z=>?_) (bC0 fun z=>?_))
   ·exact List.pairwise_iff_getElem.mp h.nd _ _ i1 i2 z (e1.trans e2.symm)
   ·exact List.pairwise_iff_getElem.mp h.nd _ _ i2 i1 z (e2.trans e1.symm)
  rw [aX ne]; exact h.rows j c hc
theorem lM (ls:List (Int × Int)) (k:Int):(aO ls k).length<=2 * ls.length:=by
 induction ls with
 | nil=>exact bo7 _
 | cons l r ih=>
  have e:aO (l :: r) k=((if l.1=k then [l.2] else []) ++ (if l.2=k then [l.1] else [])) ++ aO r k:=rfl
  rw [e,bo0,bo0,bp8]
  have h1:(if l.1=k then [l.2] else []).length<=1:=by split <;> simp
  have h2:(if l.2=k then [l.1] else []).length<=1:=by split <;> simp
  omega
theorem mK {α:Type}{xs:List α}{i:Int}{v:α} (h0:0<=i) (h:xs[i.toNat]? = some v):atI xs i=some v:=by
 have:=lH h
 rwa [show ((i.toNat:Nat):Int)=i by omega] at this
theorem iV {n:Nat} (h:n<=16000000):n < sizeLine:=by rw [sizeLine_eq]; omega
theorem pR {σ:St}{H:Hp}{A B:Hp->Prop} (h:A H):w5 σ H fun b H4=>if b=true then A H4 else B H4:=by
 show if true=true then A H else B H
 rw [if_pos rfl]; exact h
theorem lN {K:PySem.W.Frag}{H:Hp}{p:Addr}{xs:List V} (h:aN K H p xs):iS K "list" (.ref p) H:=.inl ⟨rfl,xs,h⟩
theorem wK {l:Int × Int}{k x:Int}:x ∈ (if l.1=k then [l.2] else []) ++ (if l.2=k then [l.1] else []) ↔ (l.1=k/\x=l.2) ∨ (l.2=k/\x=l.1):=by
 rw [bo6]
 by_cases h1:l.1=k <;> by_cases h2:l.2=k <;> simp [h1,h2]
theorem eD {ls:List (Int × Int)}{k x:Int}:x ∈ aO ls k ↔ (k,x) ∈ ls ∨ (x,k) ∈ ls:=by
 unfold aO
 rw [List.mem_flatMap]
 constructor
 ·rintro ⟨l,hl,hx⟩
  rcases wK.mp hx with ⟨h1,h2⟩ | ⟨h1,h2⟩
  ·left; rw [<- h1,h2]; exact hl
  ·right; rw [<- h1,h2]; exact hl
 ·rintro (h | h)
  ·exact⟨_,h,wK.mpr (.inl ⟨rfl,rfl⟩)⟩
  ·exact⟨_,h,wK.mpr (.inr ⟨rfl,rfl⟩)⟩
theorem nM {ls:List (Int × Int)}{k x:Int} (h:x ∈ aO ls k):k ∈ aO ls x:=eD.mpr (eD.mp h).symm
end L2
namespace Zp
open PySem PyProof.Rows
section
variable {prog : Program} {w : World} {A : Around} {E : Value → Shared → Prop} {s : Shared}
theorem Q3 {it t:Addr}{i:Nat}{items:Array Value}{x:Value}{Q:Value->Shared->Prop} (hi:s.heap.IsTupleIter it t i) (ht:s.heap.IsTuple t items) (hx:items[i]? = some x)
  (q:∀ h',h'.IsTupleIter it t (i+1)->Heap.SameBut it s.heap h'->Q x { s with heap:=h' }):wpAny (model prog w) A (Builtin.SmallTypes.nextOf (.ref it)) Q E s:=by
 have T:=hi.typeIs
 obtain ⟨o,e1,e2,e3⟩:=hi
 obtain ⟨u,f1,_,k,f3⟩:=ht
 have slot:=PySem.F.slot_tuple_iterator_next
 have isref:(Value.ref t == Value.none)=false:=rfl
 unfold Builtin.SmallTypes.nextOf
 apply bn3
 apply bu3 (name:=Str.ofString "__next__") T slot
 apply bu8 slot T PySem.F.entry_tuple_iterator_next _ (PySem.F.args_tuple_iterator_next_1 _)
 change wpAny _ _ (field (.ref it) 0 >>= _) _ _ s
 apply bn3
 refine bu2 e1 e3 (x:=.ref t) rfl ?_
 change wpAny _ _ (if (Value.ref t == Value.none)=true then _ else _) _ _ s
 simp only [isref,bq4,bv1]
 change wpAny _ _ (field (.ref it) 1 >>= _) _ _ s
 apply bn3
 refine bu2 e1 e3 (x:=.int i 0) rfl ?_
 change wpAny _ _ (seqItems? (.ref t) >>= _) _ _ s
 apply bn3
 apply bC4 f1 f3
 simp only [bq7,hx]
 apply bn3
 refine wpAny_setField e1 e3 (by simp) ?_
 apply bo9
 refine⟨x,rfl,bo9 (q _ ⟨_,Heap.get?_update_self _ e1 (Obj.isFreed_of_fields (Obj.data_mapFields e3 _)),?_,?_⟩ (Heap.SameBut.update ..))⟩
 ·rw [Obj.cls_mapFields]; exact e2
 ·rw [Obj.data_mapFields e3]; simp [rawInt]
theorem Q4 {it t:Addr}{i:Nat}{items:Array Value}{Q:Value->Shared->Prop} (hh:A.handled=none) (hi:s.heap.IsTupleIter it t i) (ht:s.heap.IsTuple t items) (hx:items[i]? = none)
  (q:∀ h' e,Heap.ExtBut it s.heap h'->(∃ o,h'.get? e=some o/\o.cls = .type "StopIteration")->E (.ref e) { s with heap:=h' }):wpAny (model prog w) A (Builtin.SmallTypes.nextOf (.ref it)) Q E s:=by
 have T:=hi.typeIs
 obtain ⟨o,e1,e2,e3⟩:=hi
 obtain ⟨u,f1,_,k,f3⟩:=ht
 have slot:=PySem.F.slot_tuple_iterator_next
 have isref:(Value.ref t == Value.none)=false:=rfl
 unfold Builtin.SmallTypes.nextOf
 apply bn3
 apply bu3 (name:=Str.ofString "__next__") T slot
 apply bu8 slot T PySem.F.entry_tuple_iterator_next _ (PySem.F.args_tuple_iterator_next_1 _)
 change wpAny _ _ (field (.ref it) 0 >>= _) _ _ s
 apply bn3
 refine bu2 e1 e3 (x:=.ref t) rfl ?_
 change wpAny _ _ (if (Value.ref t == Value.none)=true then _ else _) _ _ s
 simp only [isref,bq4,bv1]
 change wpAny _ _ (field (.ref it) 1 >>= _) _ _ s
 apply bn3
 refine bu2 e1 e3 (x:=.int i 0) rfl ?_
 change wpAny _ _ (seqItems? (.ref t) >>= _) _ _ s
 apply bn3
 apply bC4 f1 f3
 simp only [bq7,hx]
 apply bn3
 apply wpAny_rule
 apply bn3
 refine wpAny_setField e1 e3 (by simp) ?_
 apply bn3
 simp only [newExc,newTuple]
 apply bn3
 refine bv7 ?_ (by size_fits)
 apply bn3
 refine wpAny_of_eq (a:=Value.none) (by first | rfl | (simp only [firstArgMember]; rfl)) ?_
 refine bv7 ?_ (by size_fits)
 unfold raiseNew
 apply bn3
 apply wpAny_handled
 have quiet:A.in1.handled=none:=hh
 rw [quiet]
 refine wpAny_throw ?_
 exact q _ _ (((Heap.SameBut.update ..).extBut.push _).push _) ⟨_,bp7 _ rfl,rfl⟩
theorem aB9 (hh:A.handled=none) (it t:Addr) (ne:t ≠ it) (items:Array Value):Draws prog w A it [it,t] items.size (fun i v=>items[i]? = some v) (fun i h=>h.IsTupleIter it t i/\h.IsTuple t items) where
 live:=fun _ _ st=>st.1.elim fun o y=>⟨o,y.1⟩
 frame:=fun _ _ _ st k=>⟨st.1.at fun o e=>k it bo4 o e,st.2.elim fun o y=>⟨o,k t (bo5 _ bo4) o y.1,y.2⟩⟩
 item:=fun i s Q E lt st q=>Q3 st.1 st.2 (Array.getElem?_eq_getElem lt) fun h' again sb=>q _ h' s.toks (Array.getElem?_eq_getElem lt) ⟨again,st.2.elim fun o y=>⟨o,sb.extBut t o ne y.1,y.2⟩⟩ sb
 done:=fun s Q E st q=>Q4 hh st.1 st.2 (Array.getElem?_eq_none (bo7 _)) q
end
structure Ap (z TI TO i1 i2:Addr) (fp1 fp2:List Addr):Prop where
 TIz:TI ≠ z
 TOz:TO ≠ z
 TITO:TI ≠ TO
 z1:z ∉ fp1
 z2:z ∉ fp2
 o1:TO ∉ fp1
 o2:TO ∉ fp2
 t1:TI ∉ fp1
 t2:TI ∉ fp2
 m1:i1 ∈ fp1
 m2:i2 ∈ fp2
 n1:i1 ∉ fp2
 n2:i2 ∉ fp1
structure wL (z TI TO i1 i2:Addr) (St1 St2:Nat->Heap->Prop) (f0:Value) (i j:Nat) (h:Heap):Prop where
 zz:IsZip h z TI TO f0
 ti:IsPair h TI (.ref i1) (.ref i2)
 to_:∃ a b,IsPair h TO a b
 s1:St1 i h
 s2:St2 j h
section
variable {prog : Program} {w : World} {A : Around} {E : Value → Shared → Prop} {s : Shared} {z TI TO i1 i2 : Addr} {fp1 fp2 : List Addr} {n1 n2 : Nat} {P1 P2 : Nat → Value → Prop} {St1 St2 : Nat → Heap → Prop}
theorem nN (ap:Ap z TI TO i1 i2 fp1 fp2) {b:Addr} (h:b ∉ fp1):b ≠ i1:=fun e=>h (e ▸ ap.m1)
theorem sF (ap:Ap z TI TO i1 i2 fp1 fp2) {b:Addr} (h:b ∉ fp2):b ≠ i2:=fun e=>h (e ▸ ap.m2)
theorem item (D1:Draws prog w A.in1 i1 fp1 n1 P1 St1) (D2:Draws prog w A.in1 i2 fp2 n2 P2 St2) (ap:Ap z TI TO i1 i2 fp1 fp2) {i:Nat} (l1:i < n1) (l2:i < n2) (st:wL z TI TO i1 i2 St1 St2 .none i i s.heap) {Q:Option Value->Shared->Prop}
  (q:∀ x y h' tk,P1 i x->P2 i y->wL z TI TO i1 i2 St1 St2 (rawInt s.heap.objs.size) (i+1) (i+1) h'->IsPair h' s.heap.objs.size x y->(∀ c o,c ≠ z->c ≠ TO->c ≠ i1->c ≠ i2->s.heap.get? c=some o->h'.get? c=some o)->
   h'.objs.size=s.heap.objs.size+1->Q (some (.ref s.heap.objs.size)) { s with heap:=h',toks:=tk }):wpAny (model prog w) A (pyNext (.ref z)) Q E s:=by
 obtain ⟨hz,hti,⟨a,b,hto⟩,h1,h2⟩:=st
 have T:s.TypeIs (.ref z) "zip":=⟨_,hz,rfl⟩
 have slot:=PySem.F.slot_zip_next
 unfold pyNext
 apply bn3
 apply wpAny_attempt
 apply bu3 (name:=Str.ofString "__next__") T slot
 apply bu8 slot T PySem.F.entry_zip_next _ (PySem.F.args_zip_next_1 _)
 change wpAny _ _ (field (.ref z) 2 >>= _) _ _ _
 apply bn3
 refine bu2 hz rfl (x:=.bool false) rfl ?_
 change wpAny _ _ (field (.ref z) 3 >>= _) _ _ _
 apply bn3
 refine bu2 hz rfl (x:=.ref TI) rfl ?_
 apply bn3
 apply bC4 hti rfl
 change wpAny _ _ (Builtin.SmallTypes.ownedTupleIsFree (.ref z) >>= _) _ _ _
 apply bn3
 unfold Builtin.SmallTypes.ownedTupleIsFree
 apply bn3
 refine bu2 hz rfl (x:=.none) rfl (bo9 ?_)
 simp only [if_true]
 apply bn3
 apply wpAny_rule
 apply bn3
 refine bu2 hz rfl (x:=.ref TO) rfl ?_
 apply bn3
 refine bv4 hz (by simp) fun g1 hz1 sb1=>?_
 have k1:∀ c o,c ≠ z->s.heap.get? c=some o->g1.get? c=some o:=fun c o c1 e=>sb1.extBut c o c1 e
 apply bn3
 simp only [List.zipIdx_cons,List.zipIdx_nil,List.forIn_cons,List.forIn_nil]
 apply bn3
 apply bn3
 apply wpAny_onRaise
 change wpAny _ _ (Builtin.SmallTypes.nextOf (.ref i1) >>= _) _ _ _
 apply bn3
 refine D1.item i { s with heap:=g1 } _ _ l1 (D1.frame _ _ _ h1 fun c hc o e=>k1 c o (fun y=>ap.z1 (y ▸ hc)) e) fun x g2 tk2 px st1 sb2=>bo9 ?_
 have k2:∀ c o,c ≠ z->c ≠ i1->s.heap.get? c=some o->g2.get? c=some o:=fun c o c1 c2 e=>sb2.extBut c o c2 (k1 c o c1 e)
 have to2:IsPair g2 TO a b:=k2 _ _ ap.TOz (nN ap ap.o1) hto
 apply bn3
 apply bC4 to2 rfl
 apply bn3
 refine wpAny_updateSeq_pair to2 fun g3 to3 sb3=>?_
 have to3:IsPair g3 TO x b:=to3
 apply bn3
 apply wpAny_letGo
 apply bo9
 apply bn3
 apply bn3
 apply wpAny_onRaise
 change wpAny _ _ (Builtin.SmallTypes.nextOf (.ref i2) >>= _) _ _ _
 apply bn3
 have k3:∀ c o,c ≠ z->c ≠ i1->c ≠ TO->s.heap.get? c=some o->g3.get? c=some o:=fun c o c1 c2 c3 e=>sb3.extBut c o c3 (k2 c o c1 c2 e)
 refine D2.item i { s with heap:=g3,toks:=tk2 } _ _ l2 (D2.frame _ _ _ h2 fun c hc o e=>k3 c o (fun y=>ap.z2 (y ▸ hc)) (fun y=>ap.n1 (y ▸ hc)) (fun y=>ap.o2 (y ▸ hc)) e) fun y g4 tk4 py st2 sb4=>bo9 ?_
 have to4:IsPair g4 TO x b:=sb4.extBut _ _ (sF ap ap.o2) to3
 apply bn3
 apply bC4 to4 rfl
 apply bn3
 refine wpAny_updateSeq_pair to4 fun g5 to5 sb5=>?_
 have to5:IsPair g5 TO x y:=to5
 apply bn3
 apply wpAny_letGo
 apply bo9
 apply bo9
 apply bn3
 apply bC4 to5 rfl
 apply bn3
 refine wpAny_newTuple ?_ (by show 2<=sizeLine; decide)
 have size:g5.objs.size=s.heap.objs.size:=by rw [sb5.1,sb4.1,sb3.1,sb2.1,sb1.1]
 have k5:∀ c o,c ≠ z->c ≠ TO->c ≠ i1->c ≠ i2->s.heap.get? c=some o->g5.get? c=some o:=fun c o c1 c2 c3 c4 e=>sb5.extBut c o c2 (sb4.extBut c o c4 (k3 c o c1 c3 c2 e))
 have z5:IsZip g5 z TI TO .ellipsis:=sb5.extBut _ _ (Ne.symm ap.TOz) (sb4.extBut _ _ (sF ap ap.z2) (sb3.extBut _ _ (Ne.symm ap.TOz) (sb2.extBut _ _ (nN ap ap.z1) hz1)))
 change wpAny _ _ (Builtin.SmallTypes.ownedTupleHandOut (.ref z) (.ref g5.objs.size) >>= _) _ _ _
 apply bn3
 unfold Builtin.SmallTypes.ownedTupleHandOut
 apply bn3
 have z6:IsZip (g5.push { cls:=.type "tuple",data:=.seq #[x,y] }) z TI TO .ellipsis:=bn6 _ z5
 refine bv4 z6 (by simp) fun g7 z7 sb7=>?_
 have z7:IsZip g7 z TI TO (rawInt g5.objs.size):=z7
 refine bv4 z7 (by simp) fun g8 z8 sb8=>?_
 have z8:IsZip g8 z TI TO (rawInt g5.objs.size):=z8
 have zlt:z < g5.objs.size:=bp5 z5
 have up:∀ c o,c ≠ z->g5.get? c=some o->g8.get? c=some o:=fun c o c1 e=>sb8.extBut c o c1 (sb7.extBut c o c1 (bn6 _ e))
 have p8:IsPair g8 g5.objs.size x y:=sb8.extBut _ _ (bw1 zlt) (sb7.extBut _ _ (bw1 zlt) (bp7 _ rfl))
 have s8:g8.objs.size=g5.objs.size+1:=by rw [sb8.1,sb7.1,bz1]
 have f1:St1 (i+1) g8:=D1.frame _ _ _ st1 fun c hc o e=>up c o (fun y=>ap.z1 (y ▸ hc)) (sb5.extBut c o (fun y=>ap.o1 (y ▸ hc)) (sb4.extBut c o (fun y=>ap.n2 (y ▸ hc)) (sb3.extBut c o (fun y=>ap.o1 (y ▸ hc)) e)))
 have f2:St2 (i+1) g8:=D2.frame _ _ _ st2 fun c hc o e=>up c o (fun y=>ap.z2 (y ▸ hc)) (sb5.extBut c o (fun y=>ap.o2 (y ▸ hc)) e)
 have ti8:IsPair g8 TI (.ref i1) (.ref i2):=up _ _ ap.TIz (k5 _ _ ap.TIz ap.TITO (nN ap ap.t1) (sF ap ap.t2) hti)
 rw [size] at z8 p8 s8
 apply bo9
 refine⟨_,rfl,bo9 ?_⟩
 change Q (some (.ref g5.objs.size)) _
 rw [size]
 exact q x y g8 tk4 px py ⟨z8,ti8,⟨x,y,up _ _ ap.TOz to5⟩,f1,f2⟩ p8 (fun c o c1 c2 c3 c4 e=>up c o c1 (k5 c o c1 c2 c3 c4 e)) s8
theorem fin (D1:Draws prog w A.in1 i1 fp1 n1 P1 St1) (D2:Draws prog w A.in1 i2 fp2 n2 P2 St2) (ap:Ap z TI TO i1 i2 fp1 fp2) {i:Nat} (le:i=n1 ∨ (i < n1/\i=n2)) (st:wL z TI TO i1 i2 St1 St2 .none i i s.heap) {Q:Option Value->Shared->Prop}
  (q:∀ h' tk,(∀ c o,c ≠ z->c ≠ TO->c ≠ i1->c ≠ i2->s.heap.get? c=some o->h'.get? c=some o)->Q none { s with heap:=h',toks:=tk }):wpAny (model prog w) A (pyNext (.ref z)) Q E s:=by
 obtain ⟨hz,hti,⟨a,b,hto⟩,h1,h2⟩:=st
 have T:s.TypeIs (.ref z) "zip":=⟨_,hz,rfl⟩
 have slot:=PySem.F.slot_zip_next
 unfold pyNext
 apply bn3
 apply wpAny_attempt
 apply bu3 (name:=Str.ofString "__next__") T slot
 apply bu8 slot T PySem.F.entry_zip_next _ (PySem.F.args_zip_next_1 _)
 change wpAny _ _ (field (.ref z) 2 >>= _) _ _ _
 apply bn3
 refine bu2 hz rfl (x:=.bool false) rfl ?_
 change wpAny _ _ (field (.ref z) 3 >>= _) _ _ _
 apply bn3
 refine bu2 hz rfl (x:=.ref TI) rfl ?_
 apply bn3
 apply bC4 hti rfl
 change wpAny _ _ (Builtin.SmallTypes.ownedTupleIsFree (.ref z) >>= _) _ _ _
 apply bn3
 unfold Builtin.SmallTypes.ownedTupleIsFree
 apply bn3
 refine bu2 hz rfl (x:=.none) rfl (bo9 ?_)
 simp only [if_true]
 apply bn3
 apply wpAny_rule
 apply bn3
 refine bu2 hz rfl (x:=.ref TO) rfl ?_
 apply bn3
 refine bv4 hz (by simp) fun g1 hz1 sb1=>?_
 have k1:∀ c o,c ≠ z->s.heap.get? c=some o->g1.get? c=some o:=fun c o c1 e=>sb1.extBut c o c1 e
 apply bn3
 simp only [List.zipIdx_cons,List.zipIdx_nil,List.forIn_cons,List.forIn_nil]
 apply bn3
 apply bn3
 apply wpAny_onRaise
 change wpAny _ _ (Builtin.SmallTypes.nextOf (.ref i1) >>= _) _ _ _
 apply bn3
 have z1:IsZip g1 z TI TO .ellipsis:=hz1
 rcases le with rfl | ⟨lt,rfl⟩
 ·refine D1.done { s with heap:=g1 } _ _ (D1.frame _ _ _ h1 fun c hc o e=>k1 c o (fun y=>ap.z1 (y ▸ hc)) e) fun g2 e eb ex=>?_
  have z2:IsZip g2 z TI TO .ellipsis:=eb _ _ (nN ap ap.z1) z1
  refine bv4 z2 (by simp) fun g3 z3 sb3=>?_
  obtain ⟨oe,eo,co⟩:=ex
  have ne:e ≠ z:=fun y=>by
   rw [y,z2] at eo
   have:=bq3 eo
   rw [<- this] at co; exact absurd (show Value.type "zip" = Value.type "StopIteration" from co) (by decide)
  apply bn3
  refine wpAny_isInstance (T:="StopIteration") (b:=true) ⟨oe,sb3.extBut _ _ ne eo,co⟩ isSubtype_stop ?_
  exact bo9 (q g3 s.toks fun c o c1 _ c3 _ e=>sb3.extBut c o c1 (eb c o c3 (k1 c o c1 e)))
 ·refine D1.item i { s with heap:=g1 } _ _ lt (D1.frame _ _ _ h1 fun c hc o e=>k1 c o (fun y=>ap.z1 (y ▸ hc)) e) fun x g2 tk2 px st1 sb2=>bo9 ?_
  have k2:∀ c o,c ≠ z->c ≠ i1->s.heap.get? c=some o->g2.get? c=some o:=fun c o c1 c2 e=>sb2.extBut c o c2 (k1 c o c1 e)
  have to2:IsPair g2 TO a b:=k2 _ _ ap.TOz (nN ap ap.o1) hto
  apply bn3
  apply bC4 to2 rfl
  apply bn3
  refine wpAny_updateSeq_pair to2 fun g3 to3 sb3=>?_
  apply bn3
  apply wpAny_letGo
  apply bo9
  apply bn3
  apply bn3
  apply wpAny_onRaise
  change wpAny _ _ (Builtin.SmallTypes.nextOf (.ref i2) >>= _) _ _ _
  apply bn3
  have k3:∀ c o,c ≠ z->c ≠ i1->c ≠ TO->s.heap.get? c=some o->g3.get? c=some o:=fun c o c1 c2 c3 e=>sb3.extBut c o c3 (k2 c o c1 c2 e)
  refine D2.done { s with heap:=g3,toks:=tk2 } _ _ (D2.frame _ _ _ h2 fun c hc o e=>k3 c o (fun y=>ap.z2 (y ▸ hc)) (fun y=>ap.n1 (y ▸ hc)) (fun y=>ap.o2 (y ▸ hc)) e) fun g4 e eb ex=>?_
  have z4:IsZip g4 z TI TO .ellipsis:=eb _ _ (sF ap ap.z2) (sb3.extBut _ _ (Ne.symm ap.TOz) (sb2.extBut _ _ (nN ap ap.z1) z1))
  refine bv4 z4 (by simp) fun g5 z5 sb5=>?_
  obtain ⟨oe,eo,co⟩:=ex
  have ne:e ≠ z:=fun y=>by
   rw [y,z4] at eo
   have:=bq3 eo
   rw [<- this] at co; exact absurd (show Value.type "zip" = Value.type "StopIteration" from co) (by decide)
  apply bn3
  refine wpAny_isInstance (T:="StopIteration") (b:=true) ⟨oe,sb5.extBut _ _ ne eo,co⟩ isSubtype_stop ?_
  exact bo9 (q g5 tk2 fun c o c1 c2 c3 c4 e=>sb5.extBut c o c1 (eb c o c4 (k3 c o c1 c3 c2 e)))
end
noncomputable def iB (h:Heap) (t u:Addr):Heap:=
 ((((h.push { cls:=.type "tuple_iterator",data:=.fields #[.ref t,.int 0 0] }).push { cls:=.type "tuple_iterator",data:=.fields #[.ref u,.int 0 0] }).push { cls:=.type "tuple",data:=.seq #[.ref h.objs.size,.ref (h.objs.size+1)] }).push
  { cls:=.type "tuple",data:=.seq #[.none,.none] }).push { cls:=.type "zip",data:=.fields #[.none,.bool false,.bool false,.ref (h.objs.size+2),.ref (h.objs.size+3)] }
theorem aC0 (t u:Addr) (xs ys:Array Value):Meets (Builtin.«zip.__new__» ⟨[.type "zip",.ref t,.ref u],[]⟩) (fun _ R s=>s.heap.IsTuple t xs/\s.heap.IsTuple u ys/\R (.ok (.ret (.ref (s.heap.objs.size+4)))) { s with heap:=iB s.heap t u }):=
 .of_wp fun prog w A R s h=>by
  obtain ⟨hp,g,d,tk,os⟩:=s
  obtain ⟨ht,hu,h⟩:=h
  have sub:=sub_zip
  have a1:Heap.IsTuple (Shared.heap ⟨hp,g,d,tk,os⟩) t xs:=ht
  have a2:Heap.IsTuple (Shared.heap ⟨hp.push { cls:=.type "tuple_iterator",data:=.fields #[.ref t,.int 0 0] },g,d,tk,os⟩) u ys:=hu.elim fun o y=>⟨o,bn6 _ y.1,y.2⟩
  wp_walk using bC1 a1,bC1 a2
  have e:∀ (o:Obj) (k:Heap),(k.push o).objs.size=k.objs.size+1:=fun o k=>bz1 ..
  refine⟨_,rfl,?_⟩
  simp only [iB,e] at h ⊢
  exact h
section
variable {prog : Program} {w : World} {A : Around} {E : Value → Shared → Prop} {s : Shared}
theorem aC1 {t u:Addr}{xs ys:Array Value}{Q:Value->Shared->Prop} (ht:s.heap.IsTuple t xs) (hu:s.heap.IsTuple u ys)
  (q:∀ h',IsZip h' (s.heap.objs.size+4) (s.heap.objs.size+2) (s.heap.objs.size+3) .none->IsPair h' (s.heap.objs.size+2) (.ref s.heap.objs.size) (.ref (s.heap.objs.size+1))->
   IsPair h' (s.heap.objs.size+3) .none .none->h'.IsTupleIter s.heap.objs.size t 0->h'.IsTupleIter (s.heap.objs.size+1) u 0->(∀ c o,s.heap.get? c=some o->h'.get? c=some o)->Q (.ref (s.heap.objs.size+4)) { s with heap:=h' }) :
  wpAny (model prog w) A (call (.type "zip") [.ref t,.ref u]) Q E s:=by
 refine callType_new PySem.F.called_zip (by decide) (PySem.F.typeCall_zip_2 _ _) (PySem.F.newCall_zip_2 _ _) (fun obj=>PySem.F.args_object_init_3 obj _ _) PySem.F.entry_zip_new (aC0 t u xs ys) ⟨ht,hu,?_⟩
 have e:∀ (o:Obj) (k:Heap),(k.push o).objs.size=k.objs.size+1:=fun o k=>bz1 ..
 have p0:∀ (k:Heap) (o:Obj) (m:Nat),o.isFreed=false->m=k.objs.size->(k.push o).get? m=some o:=fun k o m f z=>by rw [z]; exact bp7 _ f
 have g0:(iB s.heap t u).get? s.heap.objs.size=some { cls:=.type "tuple_iterator",data:=.fields #[.ref t,.int 0 0] }:=by
  unfold iB
  exact bn6 _ (bn6 _ (bn6 _ (bn6 _ (p0 _ _ _ rfl rfl))))
 have g1:(iB s.heap t u).get? (s.heap.objs.size+1)=some { cls:=.type "tuple_iterator",data:=.fields #[.ref u,.int 0 0] }:=by
  unfold iB
  exact bn6 _ (bn6 _ (bn6 _ (p0 _ _ _ rfl (by simp only [e]))))
 have g2:(iB s.heap t u).get? (s.heap.objs.size+2)=some { cls:=.type "tuple",data:=.seq #[.ref s.heap.objs.size,.ref (s.heap.objs.size+1)] }:=by
  unfold iB
  exact bn6 _ (bn6 _ (p0 _ _ _ rfl (by simp only [e])))
 have g3:(iB s.heap t u).get? (s.heap.objs.size+3)=some { cls:=.type "tuple",data:=.seq #[.none,.none] }:=by
  unfold iB
  exact bn6 _ (p0 _ _ _ rfl (by simp only [e]))
 have g4:(iB s.heap t u).get? (s.heap.objs.size+4)=some { cls:=.type "zip",data:=.fields #[.none,.bool false,.bool false,.ref (s.heap.objs.size+2),.ref (s.heap.objs.size+3)] }:=by
  unfold iB
  exact p0 _ _ _ rfl (by simp only [e])
 refine⟨⟨_,g4,rfl⟩,q _ g4 g2 g3 ⟨_,g0,rfl,rfl⟩ ⟨_,g1,rfl,rfl⟩ fun c o z=>?_⟩
 unfold iB
 exact bn6 _ (bn6 _ (bn6 _ (bn6 _ (bn6 _ z))))
end
end Zp
namespace L2
open PySem PySem.Spec PyProof.Rows
noncomputable def wM (K:PySem.W.Frag) (a b:Addr):It:=
  ⟨fun i H=>∃ xs ys x y,aM K H a xs/\aM K H b ys/\xs[i]? = some x/\ys[i]? = some y,
   fun i H v H'=>∃ T x y,H T=none/\v = .ref T/\H'=upd H T (.tup [x,y])/\∀ xs ys,aM K H a xs->aM K H b ys->xs[i]? = some x/\ys[i]? = some y,
   fun i H=>∃ xs ys,aM K H a xs/\aM K H b ys/\(i=xs.length ∨ (i < xs.length/\i=ys.length))⟩
noncomputable def Sq (t:Bool) (K:PySem.W.Frag) (H:Hp) (a:Addr) (xs:List V):Prop:=match t with
 | true=>aM K H a xs
 | false=>aN K H a xs
noncomputable def iC (t:Bool) (h:Heap) (i a:Addr) (n:Nat):Prop:=match t with
 | true=>h.IsTupleIter i a n
 | false=>h.IsListIter i a n
noncomputable def Q5 (t:Bool) (h:Heap) (a:Addr) (xs:Array Value):Prop:=match t with
 | true=>h.IsTuple a xs
 | false=>h.IsList a xs
theorem iC.at {h h':Heap}{i a:Addr}{n:Nat}:∀ {t:Bool},iC t h i a n->(∀ o,h.get? i=some o->h'.get? i=some o)->iC t h' i a n
 | true,x,k=>Heap.IsTupleIter.at x k
 | false,x,k=>Heap.IsListIter.at x k
theorem iC.ob {h:Heap}{i a:Addr}{n:Nat}:∀ {t:Bool},iC t h i a n->∃ o,h.get? i=some o/\∀ v,o.data ≠ .cell v
 | true,⟨o,f,_,d⟩=>⟨o,f,fun v q=>by rw [d] at q; cases q⟩
 | false,⟨o,f,_,d⟩=>⟨o,f,fun v q=>by rw [d] at q; cases q⟩
theorem iC.draws {prog:Program}{w:World}{A:Around}:∀ (t:Bool) (hh:A.handled=none) (it a:Addr) (ne:a ≠ it) (items:Array Value),Draws prog w A it [it,a] items.size (fun i v=>items[i]? = some v) (fun i h=>iC t h it a i/\Q5 t h a items)
 | true,hh,it,a,ne,items=>Zp.aB9 hh it a ne items
 | false,hh,it,a,ne,items=>Draws.list hh it a ne items
section
variable {X : Cx} {pins : List (Addr × Obj)} {σ : St} {H : Hp} {s : Shared} {a : Addr} {xs ys : List V}
theorem Sq.get (I:a8 X pins σ H s):∀ {t:Bool},Sq t X.K H a xs->∃ us,aR xs us/\Q5 t s.heap a us.toArray
 | true,h=>by obtain ⟨us,r,p,_⟩:=I.tuple h; exact⟨us,r,p⟩
 | false,h=>by obtain ⟨us,r,p,_⟩:=I.list h; exact⟨us,r,p.isList⟩
theorem Sq.inj (I:a8 X pins σ H s):∀ {t:Bool},Sq t X.K H a xs->Sq t X.K H a ys->xs=ys
 | true,h,g=>I.tuple_inj h g
 | false,h,g=>I.list_inj h g
theorem Sq.off (I:a8 X pins σ H s) (he:H a=none) (hb:X.base.get? a=none):∀ {t:Bool},Sq t X.K H a xs->False
 | true,h=>by
  rcases h with (h | ⟨_,h⟩) | ⟨o,_,_,h,_⟩
  ·rw [he] at h; cases h
  ·rw [he] at h; cases h
  ·have:=I.ok.mod.kin a o h
   rw [hb] at this; cases this
 | false,h=>by
  rcases h with (h | ⟨_,h⟩) | ⟨o,_,_,h,_⟩
  ·rw [he] at h; cases h
  ·rw [he] at h; cases h
  ·have:=I.ok.mod.kin a o h
   rw [hb] at this; cases this
end
noncomputable def aC2 (t1 t2:Bool) (K:PySem.W.Frag) (a b:Addr):It:=
  ⟨fun i H=>∃ xs ys x y,Sq t1 K H a xs/\Sq t2 K H b ys/\xs[i]? = some x/\ys[i]? = some y,
   fun i H v H'=>∃ T x y,H T=none/\v = .ref T/\H'=upd H T (.tup [x,y])/\∀ xs ys,Sq t1 K H a xs->Sq t2 K H b ys->xs[i]? = some x/\ys[i]? = some y,
   fun i H=>∃ xs ys,Sq t1 K H a xs/\Sq t2 K H b ys/\(i=xs.length ∨ (i < xs.length/\i=ys.length))⟩
structure wN (t1 t2:Bool) (z TI TO i1 i2 a b:Addr) (i:Nat) (h:Heap):Prop where
 zz:IsZip h z TI TO .none
 ti:IsPair h TI (.ref i1) (.ref i2)
 to_:∃ x y,IsPair h TO x y
 s1:iC t1 h i1 a i
 s2:iC t2 h i2 b i
theorem Q6 (t1 t2:Bool) {P:Program}{w:World}{K:PySem.W.Frag}{elts:List Expr}{k:Nat}{pos:Pos} (a b z TI TO i1 i2:Addr) (d : [z,TI,TO,i1,i2].Nodup) :
  j9 P w K (.Tuple elts k pos) (aC2 t1 t2 K a b) [z,TI,TO,i1,i2] z (wN t1 t2 z TI TO i1 i2 a b):=by
 have nd:z ≠ TI/\z ≠ TO/\z ≠ i1/\z ≠ i2/\TI ≠ TO/\TI ≠ i1/\TI ≠ i2/\TO ≠ i1/\TO ≠ i2/\i1 ≠ i2:=by
  simp only [bu0,bo3,bp2,bs6,not_or] at d
  obtain ⟨⟨a1,a2,a3,a4⟩,⟨b1,b2,b3⟩,⟨c1,c2⟩,e1,_⟩:=d
  exact⟨a1,a2,a3,a4,b1,b2,b3,c1,c2,e1⟩
 obtain ⟨n1,n2,n3,n4,n5,n6,n7,n8,n9,n10⟩:=nd
 have offBase:∀ {X:Cx}{pins:List (Addr × Obj)}{σ:St}{H:Hp}{s:Shared},a8 X pins σ H s->(∀ c ∈ [z,TI,TO,i1,i2],iQ X pins H c)->∀ c ∈ [z,TI,TO,i1,i2],X.base.get? c=none:=by
  intro X pins σ H s I hf c hc
  cases q:X.base.get? c with
  | none=>rfl
  | some o=>
   rcases (hf c hc).2.2.2.1 with h | h
   ·exact absurd h (I.ok.noex c o q)
   ·exact absurd (bp4 (bp5 q) (bs2 I.ok.bsz h)) (bt0 _)
 have off:∀ {t:Bool}{X:Cx}{pins:List (Addr × Obj)}{σ:St}{H:Hp}{s:Shared}{c:Addr}{zs:List V},a8 X pins σ H s->(∀ c ∈ [z,TI,TO,i1,i2],iQ X pins H c)->Sq t X.K H c zs->c ∉ [z,TI,TO,i1,i2]:=by
  intro t X pins σ H s c zs I hf hc hm
  exact Sq.off I (hf c hm).1 (offBase I hf c hm) hc
 have ap:∀ {c e:Addr},c ∉ [z,TI,TO,i1,i2]->e ∉ [z,TI,TO,i1,i2]->Zp.Ap z TI TO i1 i2 [i1,c] [i2,e]:=fun {c e} hc he=>by
  simp only [bo3,bp2,bs6,not_or] at hc he
  obtain ⟨c1,c2,c3,c4,c5⟩:=hc
  obtain ⟨e1,e2,e3,e4,e5⟩:=he
  have two:∀ {q u v:Addr},q ≠ u->q ≠ v->q ∉ [u,v]:=fun {q u v} h1 h2 hm=>by
   simp only [bo3,bp2,bs6] at hm
   exact hm.elim h1 h2
  exact⟨n1.symm,n2.symm,n5,two n3 (Ne.symm c1),two n4 (Ne.symm e1),two n8 (Ne.symm c3),two n9 (Ne.symm e3),two n6 (Ne.symm c2),two n7 (Ne.symm e2),bo4,bo4,two n10 (Ne.symm e4),two n10.symm (Ne.symm c5)⟩
 refine⟨by simp,fun i h st c hc=>?_,fun i h h' st kp=>?_,?_,?_,fun A i s Q E st q=>wpAny_pyIter_zip st.zz q⟩
 ·simp only [bo3,bp2,bs6] at hc
  obtain ⟨x,y,to⟩:=st.to_
  rcases hc with rfl | rfl | rfl | rfl | rfl
  ·exact⟨_,st.zz,fun v q=>by cases q⟩
  ·exact⟨_,st.ti,fun v q=>by cases q⟩
  ·exact⟨_,to,fun v q=>by cases q⟩
  ·exact st.s1.ob
  ·exact st.s2.ob
 ·obtain ⟨x,y,to⟩:=st.to_
  exact⟨kp z (by simp) _ st.zz,kp TI (by simp) _ st.ti,⟨x,y,kp TO (by simp) _ to⟩,st.s1.at fun o e=>kp i1 (by simp) o e,st.s2.at fun o e=>kp i2 (by simp) o e⟩
 ·
  intro X hP hw hK hc i pins s σ H E I hf st hg
  subst hP hw hK
  obtain ⟨xs,ys,x,y,ha,hb,hx,hy⟩:=hg
  obtain ⟨us,ru,pu⟩:=Sq.get I ha
  obtain ⟨vs,rv,pv'⟩:=Sq.get I hb
  obtain ⟨ux,eux,rux⟩:=ru.get hx
  obtain ⟨vy,evy,rvy⟩:=rv.get hy
  have fa:=off I hf ha
  have fb:=off I hf hb
  have hh:X.A.in1.handled=none:=I.ok.hd hc
  have l1:i < us.toArray.size:=by simpa using (bn8.mp eux).1
  have l2:i < vs.toArray.size:=by simpa using (bn8.mp evy).1
  have fa':a ≠ i1:=fun q=>fa (by rw [q]; simp)
  have fb':b ≠ i2:=fun q=>fb (by rw [q]; simp)
  have D1:=iC.draws t1 (prog:=X.prog) (w:=X.w) hh i1 a fa' us.toArray
  have D2:=iC.draws t2 (prog:=X.prog) (w:=X.w) hh i2 b fb' vs.toArray
  refine Zp.item D1 D2 (ap fa fb) l1 l2 ⟨st.zz,st.ti,st.to_,⟨st.s1,pu⟩,⟨st.s2,pv'⟩⟩ fun p q h' tk hp hq st' pr kp sz=>⟨_,rfl,?_⟩
  obtain rfl:p=ux:=by
   have:us.toArray[i]? = some ux:=by simpa using eux
   rw [this] at hp; exact (bq3 hp).symm
  obtain rfl:q=vy:=by
   have:vs.toArray[i]? = some vy:=by simpa using evy
   rw [this] at hq; exact (bq3 hq).symm
  refine wpAny_letOwnedTupleGo_zip (s:={ s with heap:=h',toks:=tk }) st'.zz fun g zz sb=>?_
  have hzl:z < s.heap.objs.size:=bp5 st.zz
  have up:∀ c o,c ≠ z->c ≠ TO->c ≠ i1->c ≠ i2->s.heap.get? c=some o->g.get? c=some o:=fun c o c1 c2 c3 c4 e=>sb.extBut c o c1 (kp c o c1 c2 c3 c4 e)
  have hT:H s.heap.objs.size=none:=I.hok.fresh (bo7 _)
  have prG:IsPair g s.heap.objs.size p q:=sb.extBut _ _ (bw1 hzl) pr
  have fpn:∀ c u,H c=some u->c ∉ [z,TI,TO,i1,i2]:=fun c u e hm=>by rw [(hf c hm).1] at e; cases e
  have upH:∀ c o u,H c=some u->s.heap.get? c=some o->g.get? c=some o:=fun c o u e z=>by
   have:=fpn c u e
   simp only [bo3,bp2,bs6,not_or] at this
   exact up c o this.1 this.2.2.1 this.2.2.2.1 this.2.2.2.2 z
  have ns:∀ m,s.heap.Ns X.env.locals m->g.Ns X.env.locals m:=fun m hm=>by
   obtain ⟨o,es,ep,e1,e2⟩:=hm
   exact⟨o,es,ep,up _ o (Ne.symm (hf z (by simp)).2.1) (Ne.symm (hf TO (by simp)).2.1) (Ne.symm (hf i1 (by simp)).2.1) (Ne.symm (hf i2 (by simp)).2.1) e1,e2⟩
  have I2:a8 X pins σ (upd H s.heap.objs.size (.tup [x,y])) { s with heap:=g,toks:=tk }:=by
   refine I.step (g':=s.gens) (d':=s.drawn) (ch:=[z,TO,i1,i2]) (fun c hc'=>?_) (fun c o _ _ hc' e _=>?_) (fun c o _ _ hc' e _=>⟨o.slots,?_⟩) (fun c o _ e n=>?_) (fun c o hc' e=>⟨o,?_⟩)
    (fun c zs e=>by rw [aX (cK e hT)]; exact e) (fun c u zs e=>by rw [aX (cK e hT)]; exact e) (fun c ps e=>⟨#[],by rw [aX (cK e hT),e]; simp⟩) ns (fun c u e=>?_) I.bare
   ·have hm:c ∈ [z,TI,TO,i1,i2]:=by
     simp only [bo3,bp2,bs6] at hc' ⊢
     rcases hc' with h | h | h | h <;> simp [h]
    exact⟨(hf c hm).2.2.2.1,(hf c hm).2.1,(hf c hm).2.2.2.2.1,(hf c hm).2.2.2.2.2⟩
   ·simp only [bo3,bp2,bs6,not_or] at hc'
    exact up c o hc'.1 hc'.2.1 hc'.2.2.1 hc'.2.2.2 e
   ·simp only [bo3,bp2,bs6,not_or] at hc'
    exact up c o hc'.1 hc'.2.1 hc'.2.2.1 hc'.2.2.2 e
   ·rw [aX (br7 (bp5 e))]; exact n
   ·simp only [bo3,bp2,bs6,not_or] at hc'
    exact up c o hc'.1 hc'.2.1 hc'.2.2.1 hc'.2.2.2 e
   ·by_cases hcT:c=s.heap.objs.size
    ·subst hcT
     rw [bN] at e; cases e
     exact⟨by show 2<=sizeLine; decide,[p,q],.cons rux (.cons rvy .nil),⟨_,prG,rfl,_,rfl⟩,fun u e=>by rw [prG] at e; cases e; rfl⟩
    ·rw [aX hcT] at e
     refine (I.hok c u e).stay (fun c' o' hc2 q'=>?_) (fun c' q'=>by rw [aX (cK q' hT)]; exact q') fun c' zs q'=>by rw [aX (cK q' hT)]; exact q'
     rcases hc2 with rfl | hc2
     ·exact upH _ _ _ e q'
     ·exact upH _ _ _ hc2 q'
  obtain ⟨x',y',to'⟩:=st'.to_
  refine⟨.ref s.heap.objs.size,_,I2,rfl,⟨_,x,y,hT,rfl,rfl,fun xs' ys' ha' hb'=>?_⟩,⟨zz,sb.extBut _ _ n1.symm st'.ti,⟨x',y',sb.extBut _ _ n2.symm to'⟩,st'.s1.1.at fun o e=>sb.extBut _ o n3.symm e,st'.s2.1.at fun o e=>sb.extBut _ o n4.symm e⟩,fun c hc'=>?_⟩
  ·rw [Sq.inj I ha' ha,Sq.inj I hb' hb]; exact⟨hx,hy⟩
  ·obtain ⟨o,e,_⟩:∃ o,s.heap.get? c=some o/\True:=by
    simp only [bo3,bp2,bs6] at hc'
    obtain ⟨x2,y2,to2⟩:=st.to_
    obtain ⟨o1,f1,_⟩:=st.s1.ob
    obtain ⟨o2,f2,_⟩:=st.s2.ob
    rcases hc' with rfl | rfl | rfl | rfl | rfl
    ·exact⟨_,st.zz,trivial⟩
    ·exact⟨_,st.ti,trivial⟩
    ·exact⟨_,to2,trivial⟩
    ·exact⟨_,f1,trivial⟩
    ·exact⟨_,f2,trivial⟩
   rw [aX (br7 (bp5 e))]; exact (hf c hc').1
 ·
  intro X hP hw hK hc i pins s σ H E I hf st hg
  subst hP hw hK
  obtain ⟨xs,ys,ha,hb,hi⟩:=hg
  obtain ⟨us,ru,pu⟩:=Sq.get I ha
  obtain ⟨vs,rv,pv'⟩:=Sq.get I hb
  have fa:=off I hf ha
  have fb:=off I hf hb
  have hh:X.A.in1.handled=none:=I.ok.hd hc
  have fa':a ≠ i1:=fun q=>fa (by rw [q]; simp)
  have fb':b ≠ i2:=fun q=>fb (by rw [q]; simp)
  have D1:=iC.draws t1 (prog:=X.prog) (w:=X.w) hh i1 a fa' us.toArray
  have D2:=iC.draws t2 (prog:=X.prog) (w:=X.w) hh i2 b fb' vs.toArray
  have e1:=ru.length
  have e2:=rv.length
  refine Zp.fin D1 D2 (ap fa fb) (by simp only [bn5]; omega) ⟨st.zz,st.ti,st.to_,⟨st.s1,pu⟩,⟨st.s2,pv'⟩⟩ fun g tk kp=>⟨rfl,?_⟩
  have fpn:∀ c u,H c=some u->c ∉ [z,TI,TO,i1,i2]:=fun c u e hm=>by rw [(hf c hm).1] at e; cases e
  have upH:∀ c o u,H c=some u->s.heap.get? c=some o->g.get? c=some o:=fun c o u e z=>by
   have:=fpn c u e
   simp only [bo3,bp2,bs6,not_or] at this
   exact kp c o this.1 this.2.2.1 this.2.2.2.1 this.2.2.2.2 z
  have ns:∀ m,s.heap.Ns X.env.locals m->g.Ns X.env.locals m:=fun m hm=>by
   obtain ⟨o,es,ep,e1,e2⟩:=hm
   exact⟨o,es,ep,kp _ o (Ne.symm (hf z (by simp)).2.1) (Ne.symm (hf TO (by simp)).2.1) (Ne.symm (hf i1 (by simp)).2.1) (Ne.symm (hf i2 (by simp)).2.1) e1,e2⟩
  refine I.step (g':=s.gens) (d':=s.drawn) (ch:=[z,TO,i1,i2]) (fun c hc'=>?_) (fun c o _ _ hc' e _=>?_) (fun c o _ _ hc' e _=>⟨o.slots,?_⟩) (fun c o _ e n=>n) (fun c o hc' e=>⟨o,?_⟩)
   (fun c zs e=>e) (fun c u zs e=>e) (fun c ps e=>⟨#[],by rw [e]; simp⟩) ns (fun c u e=>?_) I.bare
  ·have hm:c ∈ [z,TI,TO,i1,i2]:=by
    simp only [bo3,bp2,bs6] at hc' ⊢
    rcases hc' with h | h | h | h <;> simp [h]
   exact⟨(hf c hm).2.2.2.1,(hf c hm).2.1,(hf c hm).2.2.2.2.1,(hf c hm).2.2.2.2.2⟩
  ·simp only [bo3,bp2,bs6,not_or] at hc'
   exact kp c o hc'.1 hc'.2.1 hc'.2.2.1 hc'.2.2.2 e
  ·simp only [bo3,bp2,bs6,not_or] at hc'
   exact kp c o hc'.1 hc'.2.1 hc'.2.2.1 hc'.2.2.2 e
  ·simp only [bo3,bp2,bs6,not_or] at hc'
   exact kp c o hc'.1 hc'.2.1 hc'.2.2.1 hc'.2.2.2 e
  ·refine (I.hok c u e).stay (fun c' o' hc2 q'=>?_) (fun _ q'=>q') fun _ _ q'=>q'
   rcases hc2 with rfl | hc2
   ·exact upH _ _ _ e q'
   ·exact upH _ _ _ hc2 q'
noncomputable abbrev aC3:=wN true true
theorem aC4 {P:Program}{w:World}{K:PySem.W.Frag}{elts:List Expr}{k:Nat}{pos:Pos} (a b z TI TO i1 i2:Addr) (d : [z,TI,TO,i1,i2].Nodup) :
  j9 P w K (.Tuple elts k pos) (wM K a b) [z,TI,TO,i1,i2] z (aC3 z TI TO i1 i2 a b):=Q6 true true a b z TI TO i1 i2 d
section
variable {X : Cx}
noncomputable def aC5 (K:PySem.W.Frag) (ta:TA):TI:=fun σ H R=>ta σ H fun vs H1=>∃ a b xs ys,vs = [.ref a,.ref b]/\aM K H1 a xs/\aM K H1 b ys/\R (wM K a b) H1
theorem aC6 {elts:List Expr}{kt:Nat}{pt:Pos}{a b:Expr}{ta:TA}{p pos:Pos} (hg:Gl X "zip") (hm:X.mg "zip" = none) (ha:PA X [a,b] ta) (hs:starEach [a,b] X.env = [(false,eval a X.env),(false,eval b X.env)]:=by rfl) (hs2:starEach [b] X.env = [(false,eval b X.env)]:=by rfl) :
  PI X (.Tuple elts kt pt) (.Call (.Name "zip" p) [a,b] [] pos) (aC5 X.K ta):=by
 intro pins s σ H R I h
 refine Call_ (jU I hg hm PyProof.Rows.boot_zip (bt6 (aQ (ha pos pins s σ H _ I h) fun us s1 ⟨vs,H1,I1,r1,q1⟩=>?_) (by rw [hs,hs2]) (by rw [hs2]; rfl)))
 obtain ⟨a',b',xs,ys,e,h1,h2,q⟩:=q1
 subst e
 cases r1 with
 | cons r rr=>
  cases rr with
  | cons r' rr=>
   cases rr
   cases r
   cases r'
   obtain ⟨us,_,p1,_⟩:=I1.tuple h1
   obtain ⟨ws,_,p2,_⟩:=I1.tuple h2
   refine Zp.aC1 p1 p2 fun h' z ti to s1' s2' kp=>wpAny_pyIter_zip z ?_
   have fresh:∀ k,H1 (s1.heap.objs.size+k)=none:=fun k=>I1.hok.fresh (bt9 _ _)
   refine⟨s1.heap.objs.size+4,[s1.heap.objs.size+4,s1.heap.objs.size+2,s1.heap.objs.size+3,s1.heap.objs.size,s1.heap.objs.size+1],_,_,H1,rfl,I1.kept (t':=s1.toks) kp,
    aC4 a' b' _ _ _ _ _ (by simp),⟨z,ti,⟨_,_,to⟩,s1',s2'⟩,fun c hc=>?_,q⟩
   simp only [bo3,bp2,bs6] at hc
   rcases hc with rfl | rfl | rfl | rfl | rfl
   ·exact I1.fpOk (bt9 _ _) (fresh 4)
   ·exact I1.fpOk (bt9 _ _) (fresh 2)
   ·exact I1.fpOk (bt9 _ _) (fresh 3)
   ·exact I1.fpOk (bo7 _) (fresh 0)
   ·exact I1.fpOk (bt9 _ _) (fresh 1)
theorem wO (hc:X.calm=true):dN X (.builtin "all") (fun xs H Q=>∃ (a:Addr) (bs:List Bool),xs = [.ref a]/\aN X.K H a (bs.map V.bl)/\Q (.bl (bs.all id)) H):=by
 intro pins s σ H xs us Q I r h
 obtain ⟨a,bs,rfl,hq,q⟩:=h
 obtain ⟨u,rfl,ru⟩:=jV r
 cases ru
 obtain ⟨its,rv,p,hz⟩:=I.list hq
 have hl:=rv.length
 rw [bn7] at hl
 have hlt:a < s.heap.objs.size:=by obtain ⟨o,e,_⟩:=p.isList; exact bp5 e
 refine call_all_walk (wpAny_pyIter_list p.isList ?_)
 have hh:X.A.in1.handled=none:=I.ok.hd hc
 refine⟨s.heap.objs.size,_,_,_,_,_,fun i=>bs.getD i false,rfl,Walks.list hh s.heap.objs.size a (br7 hlt) its.toArray,⟨⟨_,bp7 _ rfl,rfl,rfl⟩,p.isList.push _⟩,?_,fun h' tk kp=>?_⟩
 ·intro i v s' Q' E' hP hQ'
  have hi:its[i]? = some v:=by simpa using hP
  have hil:i < bs.length:=by rw [hl]; exact (bn8.mp hi).1
  obtain ⟨u,e1,e2⟩:=rv.get (i:=i) (x:=.bl bs[i]) (by simp [hil])
  rw [hi] at e1; cases e1
  cases e2
  have:bs.getD i false=bs[i]:=by rw [bq0,bo1 hil]; rfl
  have hQ2:Q' (bs.getD i false) s':=hQ'
  rw [this] at hQ2
  exact bA8 hQ2
 ·have all_eq:(List.range its.toArray.size).all (fun i=>bs.getD i false)=bs.all id:=by
   rw [bn5,<- hl]
   clear q rv hz hl hq hlt p hh kp
   induction bs with
   | nil=>rfl
   | cons b r ih=>
    rw [bp8,List.range_succ_eq_map,bB8,List.all_map,bB8,<- ih]
    rfl
  rw [all_eq]
  refine⟨.bl (bs.all id),H,I.kept (t':=tk) (h':=h') fun b o e=>kp b o (fun z=>?_) (bn6 _ e),rfl,q⟩
  rw [bo2.mp z] at e
  exact absurd (bp5 e) (bt0 _)
end
structure wP (H:Hp) (J:It) (n:Nat) (R:Nat->V->Hp->Prop):Prop where
 go:∀ i H',aG H H'->i < n->J.go i H'
 yld:∀ i H' x H2,aG H H'->J.yld i H' x H2->i < n->aG H' H2/\R i x H2
 stop:∀ H',aG H H'->J.stop n H'
theorem wQ {H1:Hp}{J:It}{n:Nat}{R:Nat->V->Hp->Prop}{g:TG}{tc:TT}{te:TE}{σ0:St}{Q:VK} (O:wP H1 J n R) (Pv:Nat->List V->Hp->Prop) (hn:n<=sizeLine)
  (h0:∀ D,H1 D=none->Pv 0 [] (upd H1 D (.lst [])))
  (mono:∀ i acc H' H2,aG H' H2->Pv i acc H'->Pv i acc H2)
  (hs:∀ i x acc D H',i < n->R i x H'->rZ H1 D n i acc H'->Pv i acc H'->g x σ0 H' fun σ2 H3=>Wk σ0 σ2/\tc σ2 H3 fun b H4=>
   if b=true then te σ2 H4 fun v H5=>wE H1 D n Pv i acc v H5 else N8 H1 D n Pv i acc H4)
  (hd:∀ D acc H',H1 D=none->aG H1 H'->H' D=some (.lst acc)->acc.length<=n->Pv n acc H'->Q (.ref D) H') :
  ∀ D,H1 D=none->∃ W:Nat->Nat->List V->Hp->Prop,(∃ m,W 0 m [] (upd H1 D (.lst [])))/\pO g tc te σ0 J D Q W:=by
 intro D hD
 refine⟨CW H1 D n Pv,⟨n,rfl,br9 _,bo7 _,bP hD _,bN,h0 D hD⟩,?_⟩
 rintro i m acc H' ⟨rfl,hi,ha,sm,hDa,p⟩
 refine⟨hDa,?_⟩
 by_cases hlt:i < n
 ·refine .inr ⟨O.go i H' sm hlt,fun x H2 y=>?_⟩
  obtain ⟨s2,r2⟩:=O.yld i H' x H2 sm y hlt
  exact hs i x acc D H2 hlt r2 ⟨hlt,ha,hn,sm.trans s2,hD,s2 _ _ hDa⟩ (mono i acc H' H2 s2 p)
 ·have e:i=n:=by omega
  subst e
  exact .inl ⟨O.stop H' sm,hd D acc H' hD sm hDa ha p⟩
theorem Q7 {K:PySem.W.Frag}{H:Hp}{a b:Addr}{xs ys:List V} (ha:aM K H a xs) (hb:aM K H b ys) (hl:ys.length<=xs.length) :
  wP H (wM K a b) ys.length (fun i v H2=>∃ T x y,v = .ref T/\H2 T=some (.tup [x,y])/\xs[i]? = some x/\ys[i]? = some y):=by
 refine⟨fun i H' sm hi=>⟨xs,ys,xs[i]'(by omega),ys[i],sm.tup ha,sm.tup hb,by simp,by simp⟩,fun i H' v H2 sm y hi=>?_,fun H' sm=>⟨xs,ys,sm.tup ha,sm.tup hb,by omega⟩⟩
 obtain ⟨T,x,y',hT,hv,e,hxy⟩:=y
 subst e
 obtain ⟨h1,h2⟩:=hxy xs ys (sm.tup ha) (sm.tup hb)
 exact⟨bP hT _,T,x,y',hv,bN,h1,h2⟩
end L2
namespace HT
open PySem PyProof.Rows
section
variable {prog : Program} {w : World} {A : Around} {E : Value → Shared → Prop} {s : Shared}
theorem aC7 {t sl:Addr}{items:Array Value}{vl vu:Value}{lo hi:Option Int}{Q:Value->Shared->Prop} (ht:IsTup s.heap t items) (hs:s.heap.IsSliceOf sl vl vu .none) (pl:IsPart vl lo) (pu:IsPart vu hi)
  (h1:bB items.size 0 lo=0) (h2:bB items.size items.size hi=items.size) (h:Q (.ref t) s):wpAny (model prog w) A (getItem (.ref t) (.ref sl)) Q E s:=by
 obtain ⟨o,e1,e2,e3⟩:=id hs
 have T:s.TypeIs (.ref sl) "slice":=⟨o,e1,e2⟩
 unfold getItem
 try with_reducible refine bx4 ?_
 first | refine bn3 (bo9 ?_) | skip
 apply bn3
 apply wpAny_sequenceKey ht.typeIs (by decide)
 apply bn3
 apply bu3 (name:=Str.ofString "__getitem__") ht.typeIs bz4
 apply bu8 bz4 ht.typeIs entry_tuple_getitem _ (args_tuple_getitem _ _)
 change wpAny _ _ (Builtin.Tuple.tupleItemsOf (.ref t) >>= _) _ _ s
 apply bn3
 apply tupleItemsOf_ ht
 apply bn3
 apply wpAny_typeOf T
 rw [if_pos (by decide)]
 apply bn3
 apply J1 hs pl pu
 rw [h1,h2]
 have yes:((((0:Nat):Int) == 0 && (1:Int) == 1 && (items.size - 0) == items.size)=true):=by simp
 change wpAny _ _ (if ((((0:Nat):Int) == 0 && (1:Int) == 1 && (items.size - 0) == items.size)=true) then _ else _) _ _ s
 rw [if_pos yes]
 apply bn3
 unfold Builtin.Tuple.tupleIsExact
 apply bn3
 apply wpAny_typeOf ht.typeIs
 apply bo9
 change wpAny _ _ (rule "tuple.getitem.whole" >>= fun _=>ret (Value.ref t)) _ _ s
 apply bn3
 apply wpAny_rule
 exact bo9 ⟨_,rfl,bo9 h⟩
end
end HT
namespace L2
open PySem PySem.Spec PyProof.Rows
section
variable {X : Cx}
noncomputable def aC8 (K:PySem.W.Frag):V->Option Int->Option Int->Hp->VK->Prop:=fun x lo hi H Q=>∃ a xs,x = .ref a/\aM K H a xs/\(∀ p,H p=none->Q (.ref p) (upd H p (.tup (fL xs lo hi))))/\(fL xs lo hi=xs->Q (.ref a) H)
theorem Q8:lG X (aC8 X.K):=by
 intro pins s σ H x v vl vu lo hi sl Q I rx hs pl pu h
 obtain ⟨a,xs,ex,hx,q1,q2⟩:=h
 by_cases hw:HT.bB xs.length 0 lo=0/\HT.bB xs.length xs.length hi=xs.length
 ·subst ex
  cases rx
  obtain ⟨its,r,ht,hz⟩:=I.tuple hx
  have hlen:its.toArray.size=xs.length:=by rw [bn5]; exact r.length.symm
  refine⟨"tuple",_,PyProof.Rows.slot_tuple_getitem.lookup,ht.typeIs,?_⟩
  refine HT.aC7 ht hs pl pu (by rw [hlen]; exact hw.1) (by rw [hlen]; exact hw.2) ⟨.ref a,H,I,rfl,q2 ?_⟩
  unfold fL
  rw [hw.1,hw.2]
  simp
 ·exact aw1 pins s σ H x v vl vu lo hi sl Q I rx hs pl pu ⟨a,xs,ex,hx,hw,q1⟩
end
theorem wR (xs:List V):fL xs (some 1) none=xs.drop 1:=by
 unfold fL
 have e1:HT.bB xs.length 0 (some 1)=min 1 xs.length:=HT.av2 xs.length 0 1
 have e2:HT.bB xs.length xs.length none=xs.length:=rfl
 rw [e1,e2]
 cases xs with
 | nil=>rfl
 | cons x r=>
  have:min 1 (x :: r).length=1:=by simp
  rw [this]
  simp
noncomputable def wS (K:PySem.W.Frag) (a b:Addr):It:=
  ⟨fun i H=>∃ xs ys x y,aN K H a xs/\aN K H b ys/\xs[i]? = some x/\ys[i]? = some y,
   fun i H v H'=>∃ T x y,H T=none/\v = .ref T/\H'=upd H T (.tup [x,y])/\∀ xs ys,aN K H a xs->aN K H b ys->xs[i]? = some x/\ys[i]? = some y,
   fun i H=>∃ xs ys,aN K H a xs/\aN K H b ys/\(i=xs.length ∨ (i < xs.length/\i=ys.length))⟩
noncomputable abbrev aC9:=wN false false
theorem aD0 {P:Program}{w:World}{K:PySem.W.Frag}{elts:List Expr}{k:Nat}{pos:Pos} (a b z TI TO i1 i2:Addr) (d : [z,TI,TO,i1,i2].Nodup) :
  j9 P w K (.Tuple elts k pos) (wS K a b) [z,TI,TO,i1,i2] z (aC9 z TI TO i1 i2 a b):=Q6 false false a b z TI TO i1 i2 d
section
variable {X : Cx}
noncomputable def aD1 (K:PySem.W.Frag) (ta:TA):TI:=fun σ H R=>ta σ H fun vs H1=>∃ a b xs ys,vs = [.ref a,.ref b]/\aN K H1 a xs/\aN K H1 b ys/\R (wS K a b) H1
theorem aD2 {elts:List Expr}{kt:Nat}{pt:Pos}{a b:Expr}{ta:TA}{p pos:Pos} (hg:Gl X "zip") (hm:X.mg "zip" = none) (ha:PA X [a,b] ta) (hs:starEach [a,b] X.env = [(false,eval a X.env),(false,eval b X.env)]:=by rfl) (hs2:starEach [b] X.env = [(false,eval b X.env)]:=by rfl) :
  PI X (.Tuple elts kt pt) (.Call (.Name "zip" p) [a,b] [] pos) (aD1 X.K ta):=by
 intro pins s σ H R I h
 refine Call_ (jU I hg hm PyProof.Rows.boot_zip (bt6 (aQ (ha pos pins s σ H _ I h) fun us s1 ⟨vs,H1,I1,r1,q1⟩=>?_) (by rw [hs,hs2]) (by rw [hs2]; rfl)))
 obtain ⟨a',b',xs,ys,e,h1,h2,q⟩:=q1
 subst e
 cases r1 with
 | cons r rr=>
  cases rr with
  | cons r' rr=>
   cases rr
   cases r
   cases r'
   obtain ⟨us,_,p1,_⟩:=I1.list h1
   obtain ⟨ws,_,p2,_⟩:=I1.list h2
   refine call_zip_2 p1.isList p2.isList fun h' z ti to s1' s2' _ kp=>wpAny_pyIter_zip z ?_
   have fresh:∀ k,H1 (s1.heap.objs.size+k)=none:=fun k=>I1.hok.fresh (bt9 _ _)
   refine⟨s1.heap.objs.size+4,[s1.heap.objs.size+4,s1.heap.objs.size+2,s1.heap.objs.size+3,s1.heap.objs.size,s1.heap.objs.size+1],_,_,H1,rfl,I1.kept (t':=s1.toks) kp,
    aD0 a' b' _ _ _ _ _ (by simp),⟨z,ti,⟨_,_,to⟩,s1',s2'⟩,fun c hc=>?_,q⟩
   simp only [bo3,bp2,bs6] at hc
   rcases hc with rfl | rfl | rfl | rfl | rfl
   ·exact I1.fpOk (bt9 _ _) (fresh 4)
   ·exact I1.fpOk (bt9 _ _) (fresh 2)
   ·exact I1.fpOk (bt9 _ _) (fresh 3)
   ·exact I1.fpOk (bo7 _) (fresh 0)
   ·exact I1.fpOk (bt9 _ _) (fresh 1)
end
theorem aD3 {K:PySem.W.Frag}{H:Hp}{a b:Addr}{xs ys:List V} (ha:aN K H a xs) (hb:aN K H b ys) (hl:ys.length<=xs.length) :
  wP H (wS K a b) ys.length (fun i v H2=>∃ T x y,v = .ref T/\H2 T=some (.tup [x,y])/\xs[i]? = some x/\ys[i]? = some y):=by
 refine⟨fun i H' sm hi=>⟨xs,ys,xs[i]'(by omega),ys[i],sm.seq ha,sm.seq hb,by simp,by simp⟩,fun i H' v H2 sm y hi=>?_,fun H' sm=>⟨xs,ys,sm.seq ha,sm.seq hb,by omega⟩⟩
 obtain ⟨T,x,y',hT,hv,e,hxy⟩:=y
 subst e
 obtain ⟨h1,h2⟩:=hxy xs ys (sm.seq ha) (sm.seq hb)
 exact⟨bP hT _,T,x,y',hv,bN,h1,h2⟩
section
variable {X : Cx} {pins : List (Addr × Obj)} {σ : St} {H : Hp} {s : Shared} {a b : Addr} {A : Around} {E : Value → Shared → Prop}
theorem aD4 {kvs more:List (aE × V)}{Q:Value->Shared->Prop} (I:a8 X pins σ H s) (ea:H a=some (.dK kvs)) (eb:H b=some (.dK more)) (hne:a ≠ b) (hl:kvs.length+more.length<=sizeLine)
  (h:∀ s',a8 X pins σ (upd H a (.dK (jW kvs more))) s'->Q .none s'):wpAny (model X.prog X.w) A (call (.builtin "dict.update") [.ref a,.ref b]) Q E s:=by
 obtain ⟨z,hd,vs,rel,dd⟩:=rO I.hok ea
 obtain ⟨z2,hd2,rs,rel2,dd2⟩:=rO I.hok eb
 have l1:=rel.length
 have l2:=rel2.length
 refine call_meetsIn PySem.F.slot_dict_update dd.typeIs PySem.F.entry_dict_update (PySem.F.args_dict_update_2 _ _) (meets_dict_update (eN X.prog X.w) a b hne hd2) ⟨vs,rs,dd,dd2,by omega,fun h' dd' _ hs=>h _ ?_⟩
 have he:∃ q,h'.get? a=some q:=let ⟨q,_,_,hq,_⟩:=dd'; ⟨q,hq⟩
 refine rP I (by rw [ea]; exact bC3) hs he (vT ?_ hd (rel2.merge rel) dd')
 have:=vV more kvs
 omega
end
noncomputable def Q9 (td ty:TE):TE:=fun σ H Q=>td σ H fun x H1=>∃ a,x = .ref a/\vW H1 a/\ty σ H1 fun y H2=>∃ (b:Addr) (kvs more:List (aE × V)),y = .ref b/\a ≠ b/\H2 a=some (.dK kvs)/\H2 b=some (.dK more)/\kvs.length+more.length<=sizeLine/\Q .non (upd H2 a (.dK (jW kvs more)))
section
variable {X : Cx} {o e : Expr} {apos cpos : Pos} {td ty : TE}
theorem aD5 (ho:PE X o td) (he:PE X e ty) (m:M1 X o "update" apos e cpos):PE X (.Call (.Attribute o "update" apos) [e] [] cpos) (Q9 td ty):=by
 intro pins s σ H Q I h
 refine wpAny_Call_method m.base m.few m.line PySem.F.plainAttrs_dict PySem.F.slot_dict_update PySem.F.type_dict_update (aQ (ho pins s σ H _ I h) fun u s1 ⟨x,H1,I1,rx,a,ex,d,q1⟩=>?_)
 subst ex
 obtain rfl:u=Value.ref a:=rx
 obtain ⟨t1,t2,_⟩:=M7 I1 d
 refine⟨t1,t2,?_⟩
 rw [m.trees]
 refine Calls.callWith_builtin rfl (Calls.evalArgs_plain (Calls.spliced_cons (aQ (he pins s1 σ H1 _ I1 q1) fun iv s2 ⟨y,H2,I2,ry,b,kvs,more,ey,ne,ea,eb,l,q2⟩=>Calls.spliced_nil ?_)))
 subst ey
 obtain rfl:iv=Value.ref b:=ry
 exact aD4 I2 ea eb ne l fun s3 I3=>⟨.non,_,I3,rfl,q2⟩
end
theorem aD6 (l:Addr) (items:Array Value) (n:Nat) (b:Addr) (items2:Array Value) (n2:Nat) (dd:Option Addr) (ss:Array (Option Value)) (h0 : ¬(!items.isEmpty && Builtin.List.listTooLong (items.size+items2.size))=true) (h1:items.size<=sizeLine) (h2:items.size+items2.size<=sizeLine+1) :
  Meets (Builtin.«list.extend» ⟨[.ref l,.ref b],[]⟩) (fun _ R s=>s.heap.get? l=some { cls:=.type "list",dict:=none,data:=.seq items n,slots:=#[] }/\s.heap.get? b=some { cls:=.type "tuple",dict:=dd,data:=.seq items2 n2,slots:=ss }/\R (.ok (.ret Value.none)) { s with heap:=s.heap.update l (Obj.mapSeq fun x=>x ++ items2),toks:=s.toks }):=
 .of_wp fun prog w A R s h=>by
  obtain ⟨hp,g,d,tk,os⟩:=s; obtain ⟨hl,hb,h⟩:=h; have f2:=AutoSeq1.sub_tuple_tuple; have f3:=AutoSeq1.sub_list_list; have f4:=AutoSeq1.sub_tuple_list; have f5:=AutoSeq1.sub_list_tuple
  have hz':(items ++ items2).size<=sizeLine+1:=by rw [Array.size_append]; exact h2
  wp_walk using (wpAny_updateSeq hl rfl (hz:=h1) (_hz':=hz')),AutoSeq1.wpAny_loadPart' hl,AutoSeq1.wpAny_loadPart' hb
  exact⟨_,rfl,h⟩
noncomputable def R3 (K:PySem.W.Frag):V->List V->Hp->VK->Prop:=fun x vs H Q=>∃ (l b:Addr) (xs zs:List V),x = .ref l/\vs = [.ref b]/\H l=some (.lst xs)/\aM K H b zs/\xs.length+zs.length<=sizeLine/\Q .non (upd H l (.lst (xs ++ zs)))
theorem aD7 {X:Cx}:nG X "list.extend" (R3 X.K):=by
 intro pins s σ H x vs v us Q I rx rv h
 obtain ⟨l,b,xs,zs,rfl,rfl,hH,hB,hz,q⟩:=h
 cases rx
 obtain ⟨u,rfl,ru⟩:=rv.one
 cases ru
 obtain ⟨z,its,n,r,hl,e⟩:=I.lstM hH
 obtain ⟨its2,r2,⟨⟨cls,dd,data,ss⟩,e2,hc,n2,hd⟩,z2⟩:=I.tuple hB
 cases hc
 cases hd
 have hl2:=r2.length
 have hsz:its.toArray.size+its2.toArray.size<=sizeLine:=by rw [bn5,bn5]; omega
 have hlong : ¬ (!its.toArray.isEmpty && Builtin.List.listTooLong (its.toArray.size+its2.toArray.size))=true:=by
  rw [vP hsz,by9]
  exact bp9
 refine call_meets F.slot_list_extend ⟨_,e,rfl⟩ F.entry_list_extend (F.args_list_extend_2 _ _)
  (aD6 l its.toArray n b its2.toArray n2 dd ss hlong (by rw [bn5]; omega) (by omega)) ⟨e,e2,?_⟩
 refine⟨.non,_,I.lset (its':=its ++ its2) hH e (by simp) (r.append r2) ?_,rfl,q⟩
 rw [bo0]
 omega
end L2
namespace PP
open PySem L2
inductive PV where
 | non | bl (b:Bool) | int (i:Int) | str (x:Str) | tup (xs:List PV) | lst (xs:List PV)
 | dK (kvs:List (aE × PV)) | dT (kvs:List (List aE × PV)) | scr (ns:List Int) | kt (xs:List PV) | exc (c:Str) | fK (kvs:List (aE × PV)) | fT (kvs:List (List aE × PV))
mutual
noncomputable def flat:PV->Bool
 | .tup xs=>flats xs
 | .lst _=>false
 | .dK _=>false
 | .dT _=>false
 | .non=>true
 | .bl _=>true
 | .int _=>true
 | .str _=>true
 | .scr _=>true
 | .kt xs=>flats xs
 | .exc _=>true
 | .fK _=>false
 | .fT _=>false
noncomputable def flats:List PV->Bool
 | []=>true
 | x :: r=>flat x && flats r
end
noncomputable def kQ (K:PySem.W.Frag) (H:Hp) (a:Addr) (ns:List Int):Prop:=(∃ o,H a=some (.frz o (.lst (ns.map V.int)))) ∨
  ∃ (o:Obj) (its:Array Value) (n:Nat),K.lookup a=some o/\o.cls = .type "list"/\o.dict=none/\o.data = .seq its n/\its.size<=sizeLine/\aR (ns.map V.int) its.toList
noncomputable def nO (K:PySem.W.Frag) (a:Addr) (us:List V):Prop:=∃ (o:Obj) (its:Array Value) (n:Nat),K.lookup a=some o/\o.cls = .type "tuple"/\o.data = .seq its n/\its.size<=sizeLine/\aR us its.toList
mutual
inductive aK (K:PySem.W.Frag) (M:Addr->Prop) (H:Hp):V->PV->Prop
 | non:aK K M H .non .non
 | bl (b:Bool):aK K M H (.bl b) (.bl b)
 | int (i:Int):aK K M H (.int i) (.int i)
 | str (x:Str):aK K M H (.str x) (.str x)
 | tup {a:Addr}{us:List V}{xs:List PV}:H a=some (.tup us)->Reps K M H us xs->aK K M H (.ref a) (.tup xs)
 | lst {a:Addr}{us:List V}{xs:List PV}:M a->H a=some (.lst us)->Reps K M H us xs->aK K M H (.ref a) (.lst xs)
 | dK {a:Addr}{kvs:List (aE × V)}{ps:List (aE × PV)}:M a->H a=some (.dK kvs)->kvs.map (·.1)=ps.map (·.1)->Reps K M H (kvs.map (·.2)) (ps.map (·.2))->aK K M H (.ref a) (.dK ps)
 | dT {a:Addr}{kvs:List (List aE × V)}{ps:List (List aE × PV)}:M a->H a=some (.dT kvs)->kvs.map (·.1)=ps.map (·.1)->Reps K M H (kvs.map (·.2)) (ps.map (·.2))->aK K M H (.ref a) (.dT ps)
 | scr {a:Addr}{ns:List Int}:kQ K H a ns->aK K M H (.ref a) (.scr ns)
 | kt {a:Addr}{us:List V}{xs:List PV}:nO K a us->Reps K M H us xs->aK K M H (.ref a) (.kt xs)
 | exc {a C:Addr}{o:Obj}{c:Str}:H a=some (.frz o (.own a))->PySem.W.nsIn K mainGlobals c=some (some (.ref C))->o.cls = .ref C->aK K M H (.ref a) (.exc c)
 | fK {a:Addr}{o:Obj}{kvs:List (aE × V)}{ps:List (aE × PV)}:H a=some (.frz o (.dK kvs))->kvs.map (·.1)=ps.map (·.1)->Reps K M H (kvs.map (·.2)) (ps.map (·.2))->aK K M H (.ref a) (.fK ps)
 | fT {a:Addr}{o:Obj}{kvs:List (List aE × V)}{ps:List (List aE × PV)}:H a=some (.frz o (.dT kvs))->kvs.map (·.1)=ps.map (·.1)->Reps K M H (kvs.map (·.2)) (ps.map (·.2))->aK K M H (.ref a) (.fT ps)
inductive Reps (K:PySem.W.Frag) (M:Addr->Prop) (H:Hp):List V->List PV->Prop
 | nil:Reps K M H [] []
 | cons {v:V}{x:PV}{vs:List V}{xs:List PV}:aK K M H v x->Reps K M H vs xs->Reps K M H (v :: vs) (x :: xs)
end
structure jF (M M':Addr->Prop) (H H':Hp):Prop where
 lst:∀ a us,M a->H a=some (.lst us)->M' a/\H' a=some (.lst us)
 dK:∀ a kvs,M a->H a=some (.dK kvs)->M' a/\H' a=some (.dK kvs)
 dT:∀ a kvs,M a->H a=some (.dT kvs)->M' a/\H' a=some (.dT kvs)
 tup:∀ a us,H a=some (.tup us)->H' a=some (.tup us)
 frz:∀ a o u,H a=some (.frz o u)->H' a=some (.frz o u)
theorem kQ.keep {K:PySem.W.Frag}{H H':Hp}{a:Addr}{ns:List Int} (k:∀ a o u,H a=some (.frz o u)->H' a=some (.frz o u)) (h:kQ K H a ns):kQ K H' a ns:=
 h.elim (fun ⟨o,e⟩=>.inl ⟨o,k _ _ _ e⟩) .inr
mutual
theorem aK.keep {K:PySem.W.Frag}{M M':Addr->Prop}{H H':Hp} (k:jF M M' H H'):∀ {v:V}{x:PV},aK K M H v x->aK K M' H' v x
 | _,_,.non=>.non
 | _,_,.bl b=>.bl b
 | _,_,.int i=>.int i
 | _,_,.str x=>.str x
 | _,_,.tup h r=>.tup (k.tup _ _ h) (Reps.keep k r)
 | _,_,.lst m h r=>.lst (k.lst _ _ m h).1 (k.lst _ _ m h).2 (Reps.keep k r)
 | _,_,.dK m h e r=>.dK (k.dK _ _ m h).1 (k.dK _ _ m h).2 e (Reps.keep k r)
 | _,_,.dT m h e r=>.dT (k.dT _ _ m h).1 (k.dT _ _ m h).2 e (Reps.keep k r)
 | _,_,.scr h=>.scr (h.keep k.frz)
 | _,_,.kt h r=>.kt h (Reps.keep k r)
 | _,_,.exc h e c=>.exc (k.frz _ _ _ h) e c
 | _,_,.fK h e r=>.fK (k.frz _ _ _ h) e (Reps.keep k r)
 | _,_,.fT h e r=>.fT (k.frz _ _ _ h) e (Reps.keep k r)
theorem Reps.keep {K:PySem.W.Frag}{M M':Addr->Prop}{H H':Hp} (k:jF M M' H H'):∀ {vs:List V}{xs:List PV},Reps K M H vs xs->Reps K M' H' vs xs
 | _,_,.nil=>.nil
 | _,_,.cons r t=>.cons (aK.keep k r) (Reps.keep k t)
end
mutual
theorem aK.flat {K:PySem.W.Frag}{M M':Addr->Prop}{H:Hp}{v:V}{x:PV} (f:flat x=true) (r:aK K M H v x):aK K M' H v x:=by
 cases r with
 | non=>exact .non
 | bl b=>exact .bl b
 | int i=>exact .int i
 | str x=>exact .str x
 | tup h r=>exact .tup h (Reps.flat (by unfold PP.flat at f; exact f) r)
 | lst m h r=>unfold PP.flat at f; cases f
 | dK m h e r=>unfold PP.flat at f; cases f
 | dT m h e r=>unfold PP.flat at f; cases f
 | scr h=>exact .scr h
 | kt h r=>exact .kt h (Reps.flat (by unfold PP.flat at f; exact f) r)
 | exc h e c=>exact .exc h e c
 | fK h e r=>unfold PP.flat at f; cases f
 | fT h e r=>unfold PP.flat at f; cases f
theorem Reps.flat {K:PySem.W.Frag}{M M':Addr->Prop}{H:Hp}{vs:List V}{xs:List PV} (f:flats xs=true) (r:Reps K M H vs xs):Reps K M' H vs xs:=by
 cases r with
 | nil=>exact .nil
 | cons r t=>
  unfold PP.flats at f
  rw [br3] at f
  exact .cons (aK.flat f.1 r) (Reps.flat f.2 t)
end
theorem jF.same {M M':Addr->Prop}{H H':Hp} (s:aG H H') (m:∀ a,M a->M' a):jF M M' H H':=
 ⟨fun a _ h e=>⟨m a h,s _ _ e⟩,fun a _ h e=>⟨m a h,s _ _ e⟩,fun a _ h e=>⟨m a h,s _ _ e⟩,fun _ _ e=>s _ _ e,fun _ _ _ e=>s _ _ e⟩
theorem aK.same {K:PySem.W.Frag}{M M':Addr->Prop}{H H':Hp}{v:V}{x:PV} (r:aK K M H v x) (s:aG H H') (m:∀ a,M a->M' a):aK K M' H' v x:=r.keep (.same s m)
theorem Reps.same {K:PySem.W.Frag}{M M':Addr->Prop}{H H':Hp}{v:List V}{x:List PV} (r:Reps K M H v x) (s:aG H H') (m:∀ a,M a->M' a):Reps K M' H' v x:=r.keep (.same s m)
noncomputable def iW:HO->Bool
 | .lst _=>true
 | .dK _=>true
 | .dT _=>true
 | _=>false
theorem jF.upd {M M':Addr->Prop}{H:Hp}{a:Addr}{o o':HO} (h:H a=some o') (mu:iW o'=true) (m:∀ b,M b->b ≠ a/\M' b):jF M M' H (upd H a o):=
 ⟨fun b _ hb e=>⟨(m b hb).2,by rw [aX (m b hb).1]; exact e⟩,fun b _ hb e=>⟨(m b hb).2,by rw [aX (m b hb).1]; exact e⟩,fun b _ hb e=>⟨(m b hb).2,by rw [aX (m b hb).1]; exact e⟩,
  fun b _ e=>by rw [aX (fun z=>by rw [z,h] at e; cases e; cases mu)]; exact e,
  fun b _ _ e=>by rw [aX (fun z=>by rw [z,h] at e; cases e; cases mu)]; exact e⟩
theorem Reps.length {K:PySem.W.Frag}{M:Addr->Prop}{H:Hp}:∀ {vs:List V}{xs:List PV},Reps K M H vs xs->vs.length=xs.length
 | _,_,.nil=>rfl
 | _,_,.cons _ t=>congrArg (· + 1) t.length
theorem Reps.get {K:PySem.W.Frag}{M:Addr->Prop}{H:Hp}:∀ {vs:List V}{xs:List PV}{i:Nat}{v:V},Reps K M H vs xs->vs[i]? = some v->∃ x,xs[i]? = some x/\aK K M H v x
 | _,_,_,_,.nil,e=>by simp at e
 | _,_,0,_,.cons r _,e=>by simp at e; subst e; exact⟨_,rfl,r⟩
 | _,_,i+1,v,.cons _ t,e=>by
  rw [bx2] at e
  obtain ⟨x,h1,h2⟩:=t.get e
  exact⟨x,by rw [bx2]; exact h1,h2⟩
theorem Reps.at {K:PySem.W.Frag}{M:Addr->Prop}{H:Hp}:∀ {vs:List V}{xs:List PV}{i:Nat}{x:PV},Reps K M H vs xs->xs[i]? = some x->∃ v,vs[i]? = some v/\aK K M H v x
 | _,_,_,_,.nil,e=>by simp at e
 | _,_,0,_,.cons r _,e=>by simp at e; subst e; exact⟨_,rfl,r⟩
 | _,_,i+1,v,.cons _ t,e=>by
  rw [bx2] at e
  obtain ⟨x,h1,h2⟩:=t.at e
  exact⟨x,by rw [bx2]; exact h1,h2⟩
theorem Reps.append {K:PySem.W.Frag}{M:Addr->Prop}{H:Hp}:∀ {vs:List V}{xs:List PV}{us:List V}{ys:List PV},Reps K M H vs xs->Reps K M H us ys->Reps K M H (vs ++ us) (xs ++ ys)
 | _,_,_,_,.nil,s=>s
 | _,_,_,_,.cons r t,s=>.cons r (t.append s)
theorem Reps.set {K:PySem.W.Frag}{M:Addr->Prop}{H:Hp}{v:V}{x:PV} (q:aK K M H v x):∀ (i:Nat) {vs:List V}{xs:List PV},Reps K M H vs xs->Reps K M H (vs.set i v) (xs.set i x)
 | _,_,_,.nil=>.nil
 | 0,_,_,.cons r t=>.cons q t
 | i+1,_,_,.cons r t=>.cons r (Reps.set q i t)
theorem Reps.take {K:PySem.W.Frag}{M:Addr->Prop}{H:Hp}:∀ (n:Nat) {vs:List V}{xs:List PV},Reps K M H vs xs->Reps K M H (vs.take n) (xs.take n)
 | 0,_,_,_=>by simp; exact .nil
 | _+1,_,_,.nil=>.nil
 | n+1,_,_,.cons r t=>.cons r (Reps.take n t)
theorem Reps.drop {K:PySem.W.Frag}{M:Addr->Prop}{H:Hp}:∀ (n:Nat) {vs:List V}{xs:List PV},Reps K M H vs xs->Reps K M H (vs.drop n) (xs.drop n)
 | 0,_,_,r=>r
 | _+1,_,_,.nil=>.nil
 | n+1,_,_,.cons _ t=>Reps.drop n t
noncomputable abbrev intz (ns:List Int):List PV:=ns.map PV.int
theorem Reps.intz {K:PySem.W.Frag}{M:Addr->Prop}{H:Hp}:∀ (ns:List Int),Reps K M H (ns.map V.int) (intz ns)
 | []=>.nil
 | n :: r=>.cons (.int n) (Reps.intz r)
theorem Reps.ofInts {K:PySem.W.Frag}{M:Addr->Prop}{H:Hp}:∀ {ns:List Int}{us:List V},Reps K M H us (PP.intz ns)->us=ns.map V.int
 | [],_,.nil=>rfl
 | n :: r,_,.cons q t=>by
  cases q
  rw [Reps.ofInts t]; rfl
theorem bJ:∀ (ns:List Int),flats (intz ns)=true
 | []=>rfl
 | n :: r=>by show (flat (.int n) && flats (intz r))=true; rw [bJ r]; rfl
inductive Tg | rd | sh | nw | fr
inductive Slot | sh (g:Bool) (x:PV) | own (x:PV)
noncomputable def Slot.val:Slot->PV
 | .sh _ x=>x
 | .own x=>x
noncomputable def Slot.tag:Slot->Tg
 | .sh true _=>.nw
 | .sh false _=>.sh
 | .own _=>.rd
noncomputable abbrev bQ:=List (Option Slot)
noncomputable def Ms (H0:Hp) (W:Addr->Prop):Bool->Addr->Prop
 | false,a=>¬ W a
 | true,a=>¬ W a/\H0 a=none
noncomputable def Mg (H0:Hp) (W:Addr->Prop) (Hs:Hp):Tg->Addr->Prop
 | .rd,_=>True
 | .sh,a=>¬ W a
 | .nw,a=>¬ W a/\H0 a=none
 | .fr,a=>Hs a=none
noncomputable def jG (K:PySem.W.Frag) (M:Addr->Prop) (H:Hp) (a:Addr):PV->Prop
 | .lst xs=>∃ us,H a=some (.lst us)/\Reps K M H us xs
 | .dK ps=>∃ kvs,H a=some (.dK kvs)/\kvs.map (·.1)=ps.map (·.1)/\Reps K M H (kvs.map (·.2)) (ps.map (·.2))
 | .dT ps=>∃ kvs,H a=some (.dT kvs)/\kvs.map (·.1)=ps.map (·.1)/\Reps K M H (kvs.map (·.2)) (ps.map (·.2))
 | _=>False
noncomputable def R4 (K:PySem.W.Frag) (H0:Hp) (W:Addr->Prop) (H:Hp) (v:V):Slot->Prop
 | .sh g x=>aK K (Ms H0 W g) H v x
 | .own x=>∃ a,v = .ref a/\W a/\jG K (Ms H0 W true) H a x
structure PX (K:PySem.W.Frag) (H0:Hp) (W:Addr->Prop) (σ:St) (ρ:bQ) (H:Hp):Prop where
 len:ρ.length=σ.length
 same:aG H0 H
 wm:∀ a,W a->H0 a=none/\∃ o,H a=some o/\iW o=true
 sl:∀ (i:Nat) (m:Slot),ρ[i]? = some (some m)->∃ v,σ[i]? = some (some v)/\R4 K H0 W H v m
 dis:∀ (i j:Nat) (x y:PV) (a:Addr),ρ[i]? = some (some (.own x))->ρ[j]? = some (some (.own y))->σ[i]? = some (some (.ref a))->σ[j]? = some (some (.ref a))->i=j
theorem jG.keep {K:PySem.W.Frag}{M M':Addr->Prop}{H H':Hp}{a:Addr} (k:jF M M' H H') (ha:∀ o,H a=some o->H' a=some o):∀ {x:PV},jG K M H a x->jG K M' H' a x
 | .lst _,⟨us,e,r⟩=>⟨us,ha _ e,r.keep k⟩
 | .dK _,⟨us,e,q,r⟩=>⟨us,ha _ e,q,r.keep k⟩
 | .dT _,⟨us,e,q,r⟩=>⟨us,ha _ e,q,r.keep k⟩
theorem jG.at {K:PySem.W.Frag}{M:Addr->Prop}{H:Hp}{a:Addr}:∀ {x:PV},jG K M H a x->∃ o,H a=some o/\iW o=true
 | .lst _,⟨us,e,r⟩=>⟨_,e,rfl⟩
 | .dK _,⟨us,e,q,r⟩=>⟨_,e,rfl⟩
 | .dT _,⟨us,e,q,r⟩=>⟨_,e,rfl⟩
theorem jG.rep {K:PySem.W.Frag}{M M':Addr->Prop}{H:Hp}{a:Addr} (m:∀ b,M b->M' b) (ha:M' a):∀ {x:PV},jG K M H a x->aK K M' H (.ref a) x
 | .lst _,⟨us,e,r⟩=>.lst ha e (r.same (aG.refl _) m)
 | .dK _,⟨us,e,q,r⟩=>.dK ha e q (r.same (aG.refl _) m)
 | .dT _,⟨us,e,q,r⟩=>.dT ha e q (r.same (aG.refl _) m)
section
variable {K : PySem.W.Frag} {H0 : Hp} {W W' : Addr → Prop} {σ : St} {ρ : bQ} {H H' : Hp}
theorem PX.mono (p:PX K H0 W σ ρ H) (s:aG H H'):PX K H0 W σ ρ H':=by
 refine⟨p.len,p.same.trans s,fun a h=>⟨(p.wm a h).1,let ⟨o,e,m⟩:=(p.wm a h).2; ⟨o,s _ _ e,m⟩⟩,fun i m h=>?_,p.dis⟩
 obtain ⟨v,e,r⟩:=p.sl i m h
 refine⟨v,e,?_⟩
 cases m with
 | sh g x=>exact aK.same r s fun _ z=>z
 | own x=>
  obtain ⟨a,e1,e2,r⟩:=r
  exact⟨a,e1,e2,r.keep (.same s fun _ z=>z) fun _ z=>s _ _ z⟩
theorem PX.new (p:PX K H0 W σ ρ H) {a:Addr} (h:H a=none) : ¬ W a/\H0 a=none:=
 ⟨fun z=>(by obtain ⟨_,o,e,_⟩:=p.wm a z; rw [h] at e; cases e),p.same.free h⟩
theorem Mg.back {g:Tg}{H1:Hp} (s:aG H H1) {a:Addr} (h:Mg H0 W H1 g a):Mg H0 W H g a:=by
 cases g with
 | fr=>exact s.free h
 | rd=>exact h
 | sh=>exact h
 | nw=>exact h
end
noncomputable abbrev PK:=PV->Tg->Prop
noncomputable abbrev aH:=bQ->PK->Prop
noncomputable abbrev cY:=bQ->(Bool->Prop)->Prop
noncomputable abbrev dI:=bQ->(List (PV × Tg)->Prop)->Prop
inductive jH (K:PySem.W.Frag) (H0:Hp) (W:Addr->Prop) (Hs H:Hp):List V->List (PV × Tg)->Prop
 | nil:jH K H0 W Hs H [] []
 | cons {v:V}{x:PV}{g:Tg}{vs:List V}{xs:List (PV × Tg)}:aK K (Mg H0 W Hs g) H v x->jH K H0 W Hs H vs xs->jH K H0 W Hs H (v :: vs) ((x,g) :: xs)
noncomputable def sG (K:PySem.W.Frag) (H0:Hp) (W:Addr->Prop) (H:Hp) (Q:PK) (Q':VK):Prop:=∀ v H' x g,aG H H'->aK K (Mg H0 W H g) H' v x->Q x g->Q' v H'
noncomputable def LE (X:Cx) (t:aH):TE:=fun σ H Q'=>∃ (W:Addr->Prop) (ρ:bQ) (Q:PK),PX X.K X.H₀ W σ ρ H/\t ρ Q/\sG X.K X.H₀ W H Q Q'
noncomputable def LT (X:Cx) (t:cY):TT:=fun σ H Q'=>∃ (W:Addr->Prop) (ρ:bQ) (Q:Bool->Prop),PX X.K X.H₀ W σ ρ H/\t ρ Q/\∀ b H',aG H H'->Q b->Q' b H'
noncomputable def LA (X:Cx) (t:dI):TA:=fun σ H Q'=>∃ (W:Addr->Prop) (ρ:bQ) (Q:List (PV × Tg)->Prop),PX X.K X.H₀ W σ ρ H/\t ρ Q/\∀ vs H' xs,aG H H'->jH X.K X.H₀ W H H' vs xs->Q xs->Q' vs H'
theorem jH.same {K:PySem.W.Frag}{H0:Hp}{W:Addr->Prop}{Hs Hs' H H':Hp} (s:aG H H') (b:aG Hs' Hs):∀ {vs:List V}{xs:List (PV × Tg)},jH K H0 W Hs H vs xs->jH K H0 W Hs' H' vs xs
 | _,_,.nil=>.nil
 | _,_,.cons r t=>.cons (r.same s fun _ z=>Mg.back b z) (t.same s b)
theorem jH.any {K:PySem.W.Frag}{H0:Hp}{W:Addr->Prop}{Hs H:Hp}:∀ {vs:List V}{xs:List (PV × Tg)},jH K H0 W Hs H vs xs->Reps K (fun _=>True) H vs (xs.map (·.1))
 | _,_,.nil=>.nil
 | _,_,.cons r t=>.cons (r.same (aG.refl _) fun _ _=>trivial) t.any
noncomputable def Nw:Tg->PV->Prop
 | .fr,_=>True
 | .nw,_=>True
 | _,x=>flat x=true
section
variable {K : PySem.W.Frag} {H0 Hs H : Hp} {W : Addr → Prop} {σ : St} {ρ : bQ}
theorem Nw.rep {g:Tg}{x:PV}{v:V} (px:PX K H0 W σ ρ Hs) (n:Nw g x) (r:aK K (Mg H0 W Hs g) H v x):aK K (Ms H0 W true) H v x:=by
 cases g with
 | fr=>exact r.same (aG.refl _) fun a z=>px.new z
 | nw=>exact r.same (aG.refl _) fun a z=>z
 | sh=>exact r.flat n
 | rd=>exact r.flat n
theorem R5 {v:V}{m:Slot} (r:R4 K H0 W H v m):aK K (Mg H0 W Hs m.tag) H v m.val:=by
 cases m with
 | sh g x=>
  cases g with
  | true=>exact aK.same r (aG.refl _) fun _ z=>z
  | false=>exact aK.same r (aG.refl _) fun _ z=>z
 | own x=>
  obtain ⟨a,rfl,_,r⟩:=r
  exact r.rep (fun _ _=>trivial) trivial
end
section
variable {X : Cx} {σ : St} {H : Hp} {Q' : VK} {ta tb : aH}
noncomputable def a5 (i:Nat):aH:=fun ρ Q=>∃ m,ρ[i]? = some (some m)/\Q m.val m.tag
noncomputable def qC (x:PV):aH:=fun _ Q=>Q x .fr
theorem aD8 {i:Nat} (h:LE X (a5 i) σ H Q'):j8 i σ H Q':=by
 obtain ⟨W,ρ,Q,px,⟨m,e,q⟩,k⟩:=h
 obtain ⟨v,ev,r⟩:=px.sl i m e
 exact⟨v,ev,k v H _ _ (aG.refl _) (R5 r) q⟩
theorem sH {x:PV}{v:V} (hr:∀ M,aK X.K M H v x) (h:LE X (qC x) σ H Q'):tC v σ H Q':=by
 obtain ⟨W,ρ,Q,px,q,k⟩:=h
 exact k v H _ _ (aG.refl _) (hr _) q
noncomputable def g9 (X:Cx) (R:PV->Tg->PV->Tg->PK->Prop) (r:R2):Prop:=∀ (W:Addr->Prop) (Hs H:Hp) (u v:V) (x y:PV) (g g':Tg) (Q:PK) (Q':VK),aG Hs H->
 (∀ a,Hs a=none->¬ W a/\X.H₀ a=none)->aK X.K (Mg X.H₀ W Hs g) H u x->aK X.K (Mg X.H₀ W Hs g') H v y->R x g y g' Q->(∀ w H' z gz,aG H H'->aK X.K (Mg X.H₀ W Hs gz) H' w z->Q z gz->Q' w H')->r u v H Q'
noncomputable def q2 (R:PV->Tg->PV->Tg->PK->Prop) (ta tb:aH):aH:=fun ρ Q=>ta ρ fun x g=>tb ρ fun y g'=>R x g y g' Q
theorem sI {R:PV->Tg->PV->Tg->PK->Prop}{r:R2} (c:g9 X R r) (h:LE X (q2 R ta tb) σ H Q'):oZ r (LE X ta) (LE X tb) σ H Q':=by
 obtain ⟨W,ρ,Q,px,q,k⟩:=h
 refine⟨W,ρ,_,px,q,fun u H1 x g s1 r1 q1=>⟨W,ρ,_,px.mono s1,q1,fun v H2 y g' s2 r2 q2=>?_⟩⟩
 exact c W H H2 u v x y g g' Q Q' (s1.trans s2) (fun a z=>px.new z) (r1.same s2 fun _ z=>z) (r2.same (aG.refl _) fun _ z=>Mg.back s1 z) q2 fun w H' z gz s3 r3 q3=>k w H' z gz ((s1.trans s2).trans s3) r3 q3
noncomputable def RI (C:Int->Int->Prop) (f:Int->Int->PV):PV->Tg->PV->Tg->PK->Prop:=fun x _ y _ Q=>∃ i j,x = .int i/\y = .int j/\C i j/\Q (f i j) .fr
noncomputable def fB (f:Int->Int->PV):PV->Tg->PV->Tg->PK->Prop:=fun x _ y _ Q=>∃ i j,x = .int i/\y = .int j/\Q (f i j) .fr
theorem pS {C:Int->Int->Prop}{f:Int->Int->Int}:g9 X (RI C fun i j=>.int (f i j)) (rI C fun i j=>.int (f i j)):=by
 rintro W Hs H u v x y g g' Q Q' s n r1 r2 ⟨i,j,rfl,rfl,c,q⟩ k
 cases r1; cases r2
 exact⟨i,j,rfl,rfl,c,k _ _ _ _ (aG.refl _) (.int _) q⟩
theorem wT {f:Int->Int->Int}:g9 X (fB fun i j=>.int (f i j)) (jA fun i j=>.int (f i j)):=by
 rintro W Hs H u v x y g g' Q Q' s n r1 r2 ⟨i,j,rfl,rfl,q⟩ k
 cases r1; cases r2
 exact⟨i,j,rfl,rfl,k _ _ _ _ (aG.refl _) (.int _) q⟩
theorem nP {f:Int->Int->Bool}:g9 X (fB fun i j=>.bl (f i j)) (jA fun i j=>.bl (f i j)):=by
 rintro W Hs H u v x y g g' Q Q' s n r1 r2 ⟨i,j,rfl,rfl,q⟩ k
 cases r1; cases r2
 exact⟨i,j,rfl,rfl,k _ _ _ _ (aG.refl _) (.bl _) q⟩
noncomputable def mL (neg:Bool):PV->Tg->PV->Tg->PK->Prop:=fun x _ y _ Q=>(∃ i j,x = .int i/\y = .int j/\Q (.bl (if neg=true then !decide (i=j) else decide (i=j))) .fr) ∨ (∃ i j,x = .bl i/\y = .bl j/\Q (.bl (if neg=true then !decide (i=j) else decide (i=j))) .fr)
theorem R6 (i j:Int):decide (V.int i=V.int j)=decide (i=j):=by
 rw [bt3,bv3,bv3]; exact⟨fun z=>V.int.inj z,fun z=>congrArg V.int z⟩
theorem R7 (i j:Bool):decide (V.bl i=V.bl j)=decide (i=j):=by
 rw [bt3,bv3,bv3]; exact⟨fun z=>V.bl.inj z,fun z=>congrArg V.bl z⟩
theorem R8:g9 X (mL false) F0:=by
 rintro W Hs H u v x y g g' Q Q' s n r1 r2 (⟨i,j,rfl,rfl,q⟩ | ⟨i,j,rfl,rfl,q⟩) k
 ·cases r1; cases r2
  exact⟨rfl,by rw [R6]; exact k _ _ _ _ (aG.refl _) (.bl _) q⟩
 ·cases r1; cases r2
  exact⟨rfl,by rw [R7]; exact k _ _ _ _ (aG.refl _) (.bl _) q⟩
theorem aD9:g9 X (mL true) vA:=by
 rintro W Hs H u v x y g g' Q Q' s n r1 r2 (⟨i,j,rfl,rfl,q⟩ | ⟨i,j,rfl,rfl,q⟩) k
 ·cases r1; cases r2
  exact⟨rfl,by rw [R6]; exact k _ _ _ _ (aG.refl _) (.bl _) q⟩
 ·cases r1; cases r2
  exact⟨rfl,by rw [R7]; exact k _ _ _ _ (aG.refl _) (.bl _) q⟩
noncomputable def aT (t:aH):cY:=fun ρ Q=>t ρ fun x _=>∃ b,x = .bl b/\Q b
theorem sJ {t:aH}{Q':Bool->Hp->Prop} (h:LT X (aT t) σ H Q'):LE X t σ H fun x H'=>∃ k,x = .bl k/\Q' k H':=by
 obtain ⟨W,ρ,Q,px,q,k⟩:=h
 refine⟨W,ρ,_,px,q,?_⟩
 rintro v H1 x g s r ⟨b,rfl,q⟩
 cases r
 exact⟨b,rfl,k _ _ s q⟩
noncomputable def kR (t u:cY):cY:=fun ρ Q=>t ρ fun c=>if c=true then u ρ Q else Q false
noncomputable def gP (t u:cY):cY:=fun ρ Q=>t ρ fun c=>if c=true then Q true else u ρ Q
noncomputable def eQ (t:cY):cY:=fun ρ Q=>t ρ fun c=>Q (!c)
variable {t u : cY} {Qb : Bool → Hp → Prop}
theorem aE0 (h:LT X (kR t u) σ H Qb):C0 (LT X t) (LT X u) σ H Qb:=by
 obtain ⟨W,ρ,Q,px,q,k⟩:=h
 refine⟨W,ρ,_,px,q,fun b H1 s1 q1=>?_⟩
 cases b with
 | true=>exact b9 ⟨W,ρ,Q,px.mono s1,by simpa using q1,fun b H2 s2 q2=>k _ _ (s1.trans s2) q2⟩
 | false=>exact b8 (k _ _ s1 (by simpa using q1))
theorem aE1 (h:LT X (gP t u) σ H Qb):C1 (LT X t) (LT X u) σ H Qb:=by
 obtain ⟨W,ρ,Q,px,q,k⟩:=h
 refine⟨W,ρ,_,px,q,fun b H1 s1 q1=>?_⟩
 cases b with
 | false=>exact b8 ⟨W,ρ,Q,px.mono s1,by simpa using q1,fun b H2 s2 q2=>k _ _ (s1.trans s2) q2⟩
 | true=>exact b9 (k _ _ s1 (by simpa using q1))
theorem aE2 (h:LT X (eQ t) σ H Qb):C2 (LT X t) σ H Qb:=by
 obtain ⟨W,ρ,Q,px,q,k⟩:=h
 exact⟨W,ρ,_,px,q,fun b H1 s1 q1=>k _ _ s1 q1⟩
noncomputable def nQ (ta tb:aH):aH:=fun ρ Q=>ta ρ fun x _=>∃ c,x = .bl c/\if c=true then tb ρ Q else Q (.bl false) .fr
noncomputable def wU (ta:aH):aH:=fun ρ Q=>ta ρ fun x _=>∃ c,x = .bl c/\Q (.bl (!c)) .fr
theorem sG.back {K:PySem.W.Frag}{H0:Hp}{W:Addr->Prop}{H H1:Hp}{Q:PK} (k:sG K H0 W H Q Q') (s:aG H H1):sG K H0 W H1 Q Q':=fun v H' x g s' r q=>k v H' x g (s.trans s') (r.same (aG.refl _) fun _ z=>Mg.back s z) q
theorem aE3 (h:LE X (nQ ta tb) σ H Q'):C3 (LE X ta) (LE X tb) σ H Q':=by
 obtain ⟨W,ρ,Q,px,q,k⟩:=h
 refine⟨W,ρ,_,px,q,?_⟩
 rintro v H1 x g s1 r ⟨c,rfl,q⟩
 cases r
 refine⟨c,rfl,?_⟩
 cases c with
 | true=>exact b9 ⟨W,ρ,Q,px.mono s1,by simpa using q,k.back s1⟩
 | false=>exact b8 (k _ _ _ _ s1 (.bl _) (by simpa using q))
theorem aE4 (h:LE X (wU ta) σ H Q'):C4 (LE X ta) σ H Q':=by
 obtain ⟨W,ρ,Q,px,q,k⟩:=h
 refine⟨W,ρ,_,px,q,?_⟩
 rintro v H1 x g s1 r ⟨c,rfl,q⟩
 cases r
 exact⟨c,rfl,k _ _ _ _ s1 (.bl _) q⟩
noncomputable def a9:dI:=fun _ Q=>Q []
noncomputable def a6 (te:aH) (tr:dI):dI:=fun ρ Q=>te ρ fun x g=>tr ρ fun xs=>Q ((x,g) :: xs)
variable {Qa : List V → Hp → Prop} {tr : dI}
theorem aE5 (h:LA X a9 σ H Qa):kI σ H Qa:=by
 obtain ⟨W,ρ,Q,px,q,k⟩:=h
 exact k _ _ _ (aG.refl _) .nil q
theorem aE6 (h:LA X (a6 ta tr) σ H Qa):jB (LE X ta) (LA X tr) σ H Qa:=by
 obtain ⟨W,ρ,Q,px,q,k⟩:=h
 refine⟨W,ρ,_,px,q,fun v H1 x g s1 r1 q1=>⟨W,ρ,_,px.mono s1,q1,fun vs H2 xs s2 r2 q2=>?_⟩⟩
 exact k _ _ _ (s1.trans s2) (.cons (r1.same s2 fun _ z=>z) (r2.same (aG.refl _) s1)) q2
noncomputable def c7 (t:dI):aH:=fun ρ Q=>t ρ fun xs=>xs.length<=1000/\flats (xs.map (·.1))=true/\Q (.tup (xs.map (·.1))) .fr
noncomputable def eR (t:dI):aH:=fun ρ Q=>t ρ fun xs=>xs.length<=1000/\flats (xs.map (·.1))=true/\Q (.lst (xs.map (·.1))) .fr
theorem jH.length {K:PySem.W.Frag}{H0:Hp}{W:Addr->Prop}{Hs H:Hp}:∀ {vs:List V}{xs:List (PV × Tg)},jH K H0 W Hs H vs xs->vs.length=xs.length
 | _,_,.nil=>rfl
 | _,_,.cons _ t=>congrArg (· + 1) t.length
theorem wV {n:Nat} (h:n<=1000):n<=sizeLine:=bt5 (nK h)
theorem aE7 (h:LE X (c7 tr) σ H Q'):G0 (LA X tr) σ H Q':=by
 obtain ⟨W,ρ,Q,px,q,k⟩:=h
 refine⟨W,ρ,_,px,q,?_⟩
 rintro vs H1 xs s1 r ⟨hl,n,q⟩
 refine⟨by rw [r.length]; exact wV hl,fun p hp=>k _ _ _ .fr (s1.trans (bP hp _)) (.tup bN ?_) q⟩
 exact (r.any.flat n).same (bP hp _) fun _ z=>z
theorem aE8 (h:LE X (eR tr) σ H Q'):G1 (LA X tr) σ H Q':=by
 obtain ⟨W,ρ,Q,px,q,k⟩:=h
 refine⟨W,ρ,_,px,q,?_⟩
 rintro vs H1 xs s1 r ⟨hl,n,q⟩
 refine⟨by rw [r.length]; exact wV hl,fun p hp=>k _ _ _ .fr (s1.trans (bP hp _)) (.lst (s1.free hp) bN ?_) q⟩
 exact (r.any.flat n).same (bP hp _) fun _ z=>z
noncomputable def iD (X:Cx) (R:List PV->(PV->Prop)->Prop) (r:List V->Hp->VK->Prop):Prop:=∀ (H:Hp) (vs:List V) (xs:List PV) (Q:PV->Prop) (Q':VK),Reps X.K (fun _=>True) H vs xs->R xs Q->
 (∀ w H' z,aG H H'->aK X.K (fun a=>H a=none) H' w z->Q z->Q' w H')->r vs H Q'
noncomputable def aB (R:List PV->(PV->Prop)->Prop) (t:dI):aH:=fun ρ Q=>t ρ fun xs=>R (xs.map (·.1)) fun z=>Q z .fr
theorem R9 {R:List PV->(PV->Prop)->Prop}{r:List V->Hp->VK->Prop} (c:iD X R r) (h:LE X (aB R tr) σ H Q'):vI r (LA X tr) σ H Q':=by
 obtain ⟨W,ρ,Q,px,q,k⟩:=h
 refine⟨W,ρ,_,px,q,fun vs H1 xs s1 r1 q1=>c H1 vs _ _ Q' r1.any q1 fun w H' z s2 r2 q2=>k w H' z .fr (s1.trans s2) (r2.same (aG.refl _) fun _ z=>s1.free z) q2⟩
end
structure hG where
 nx:bQ->Prop
 rt:PV->Prop
 bk:bQ->Prop:=fun _=>False
 ct:bQ->Prop:=fun _=>False
noncomputable abbrev aI:=hG->bQ->Prop
noncomputable def Ev (W:Addr->Prop) (H:Hp) (W':Addr->Prop) (H':Hp):Prop:=∀ b o,H b=some o->¬ W b->H' b=some o/\¬ W' b
theorem Ev.trans {W W1 W2:Addr->Prop}{H H1 H2:Hp} (a:Ev W H W1 H1) (b:Ev W1 H1 W2 H2):Ev W H W2 H2:=fun c o h n=>let ⟨h1,n1⟩:=a c o h n; b c o h1 n1
theorem Ev.same {W:Addr->Prop}{H H':Hp} (s:aG H H'):Ev W H W H':=fun c o h n=>⟨s _ _ h,n⟩
theorem Ev.refl (W:Addr->Prop) (H:Hp):Ev W H W H:=Ev.same (aG.refl _)
structure pT (X:Cx) (W:Addr->Prop) (H:Hp) (D':hG) (D:cM):Prop where
 nx:∀ W' σ' H' ρ',Ev W H W' H'->PX X.K X.H₀ W' σ' ρ' H'->D'.nx ρ'->D.nx σ' H'
 rt:∀ v H' x,aG X.H₀ H'->aK X.K (fun a=>X.H₀ a=none) H' v x->D'.rt x->D.rt v H'
 bk:∀ W' σ' H' ρ',Ev W H W' H'->PX X.K X.H₀ W' σ' ρ' H'->D'.bk ρ'->D.bk σ' H'
 ct:∀ W' σ' H' ρ',Ev W H W' H'->PX X.K X.H₀ W' σ' ρ' H'->D'.ct ρ'->D.ct σ' H'
theorem pT.step {X:Cx}{W W1:Addr->Prop}{H H1:Hp}{D':hG}{D:cM} (k:pT X W H D' D) (e:Ev W H W1 H1):pT X W1 H1 D' D:=
 ⟨fun W' σ' H' ρ' e'=>k.nx W' σ' H' ρ' (e.trans e'),k.rt,fun W' σ' H' ρ' e'=>k.bk W' σ' H' ρ' (e.trans e'),fun W' σ' H' ρ' e'=>k.ct W' σ' H' ρ' (e.trans e')⟩
noncomputable def LS (X:Cx) (t:aI):TS:=fun D σ H=>∃ (W:Addr->Prop) (ρ:bQ) (D':hG),PX X.K X.H₀ W σ ρ H/\t D' ρ/\pT X W H D' D
theorem gA {α:Type}{l:List α}{i j:Nat}{a b:α} (h:(l.set i a)[j]? = some b):(j=i/\i < l.length/\b=a) ∨ (j ≠ i/\l[j]? = some b):=by
 by_cases e:j=i
 ·subst e
  have hl:j < (l.set j a).length:=(bn8.mp h).1
  rw [bs0] at hl
  rw [bv0 hl] at h
  exact .inl ⟨rfl,hl,(bq3 h).symm⟩
 ·rw [bq8 (Ne.symm e)] at h
  exact .inr ⟨e,h⟩
section
variable {K : PySem.W.Frag} {H0 : Hp} {W W' : Addr → Prop} {σ : St} {ρ : bQ} {H H' Hs : Hp}
theorem PX.setSh {i:Nat}{v:V}{g:Bool}{x:PV} (p:PX K H0 W σ ρ H) (r:aK K (Ms H0 W g) H v x):PX K H0 W (σ.set i (some v)) (ρ.set i (some (.sh g x))) H:=by
 refine⟨by rw [bs0,bs0]; exact p.len,p.same,p.wm,fun j m h=>?_,fun j k y z a h1 h2 h3 h4=>?_⟩
 ·rcases gA h with ⟨rfl,hl,e⟩ | ⟨hne,h⟩
  ·cases e
   rw [p.len] at hl
   exact⟨v,bv0 hl,r⟩
  ·obtain ⟨u,e,q⟩:=p.sl j m h
   exact⟨u,by rw [bq8 (Ne.symm hne)]; exact e,q⟩
 ·rcases gA h1 with ⟨_,_,e⟩ | ⟨n1,h1⟩
  ·cases e
  ·rcases gA h2 with ⟨_,_,e⟩ | ⟨n2,h2⟩
   ·cases e
   ·rw [bq8 (Ne.symm n1)] at h3
    rw [bq8 (Ne.symm n2)] at h4
    exact p.dis j k y z a h1 h2 h3 h4
theorem PX.setNone {i:Nat}{o:Option V} (p:PX K H0 W σ ρ H):PX K H0 W (σ.set i o) (ρ.set i none) H:=by
 refine⟨by rw [bs0,bs0]; exact p.len,p.same,p.wm,fun j m h=>?_,fun j k y z a h1 h2 h3 h4=>?_⟩
 ·rcases gA h with ⟨rfl,hl,e⟩ | ⟨hne,h⟩
  ·cases e
  ·obtain ⟨u,e,q⟩:=p.sl j m h
   exact⟨u,by rw [bq8 (Ne.symm hne)]; exact e,q⟩
 ·rcases gA h1 with ⟨_,_,e⟩ | ⟨n1,h1⟩
  ·cases e
  ·rcases gA h2 with ⟨_,_,e⟩ | ⟨n2,h2⟩
   ·cases e
   ·rw [bq8 (Ne.symm n1)] at h3
    rw [bq8 (Ne.symm n2)] at h4
    exact p.dis j k y z a h1 h2 h3 h4
noncomputable def nR (W:Addr->Prop) (a:Addr):Addr->Prop:=fun b=>W b ∨ b=a
theorem wW {g:Bool}{a b:Addr} (n:b ≠ a) (h:Ms H0 W g b):Ms H0 (nR W a) g b:=by
 cases g with
 | true=>exact⟨fun z=>z.elim h.1 n,h.2⟩
 | false=>exact fun z=>z.elim h n
theorem PX.setOwn {i:Nat}{a:Addr}{x:PV} (p:PX K H0 W σ ρ Hs) (s:aG Hs H) (ha:Hs a=none) (r:jG K (Ms H0 (nR W a) true) H a x):PX K H0 (nR W a) (σ.set i (some (.ref a))) (ρ.set i (some (.own x))) H:=by
 have old:∀ b o,Hs b=some o->b ≠ a:=fun b o e z=>by rw [z,ha] at e; cases e
 have kp:∀ g,jF (Ms H0 W g) (Ms H0 (nR W a) g) Hs H:=fun g=>⟨fun b _ m e=>⟨wW (old _ _ e) m,s _ _ e⟩,fun b _ m e=>⟨wW (old _ _ e) m,s _ _ e⟩,fun b _ m e=>⟨wW (old _ _ e) m,s _ _ e⟩,fun _ _ e=>s _ _ e,fun _ _ _ e=>s _ _ e⟩
 have wa : ¬ W a:=(p.new ha).1
 refine⟨by rw [bs0,bs0]; exact p.len,p.same.trans s,fun b z=>?_,fun j m h=>?_,fun j k y z b h1 h2 h3 h4=>?_⟩
 ·rcases z with z | rfl
  ·obtain ⟨h1,o,h2,h3⟩:=p.wm b z
   exact⟨h1,o,s _ _ h2,h3⟩
  ·exact⟨(p.new ha).2,r.at⟩
 ·rcases gA h with ⟨rfl,hl,e⟩ | ⟨hne,h⟩
  ·cases e
   rw [p.len] at hl
   exact⟨_,bv0 hl,a,rfl,.inr rfl,r⟩
  ·obtain ⟨u,e,q⟩:=p.sl j m h
   refine⟨u,by rw [bq8 (Ne.symm hne)]; exact e,?_⟩
   cases m with
   | sh g y=>exact aK.keep (kp g) q
   | own y=>
    obtain ⟨b,e1,e2,q⟩:=q
    exact⟨b,e1,.inl e2,q.keep (kp true) fun o z=>s _ _ z⟩
 ·have ne:∀ {j:Nat}{y:PV},ρ[j]? = some (some (.own y))->σ[j]? ≠ some (some (.ref a)):=fun {j y} h1 h2=>by
   obtain ⟨u,e,c,e1,e2,_⟩:=p.sl j _ h1
   rw [h2] at e
   cases e
   cases e1
   exact wa e2
  rcases gA h1 with ⟨e1,l1,_⟩ | ⟨n1,h1⟩
  ·rcases gA h2 with ⟨e2,_,_⟩ | ⟨n2,h2⟩
   ·rw [e1,e2]
   ·rw [e1,bv0 (by rw [<- p.len]; exact l1)] at h3
    rw [bq8 (Ne.symm n2)] at h4
    cases h3
    exact absurd h4 (ne h2)
  ·rw [bq8 (Ne.symm n1)] at h3
   rcases gA h2 with ⟨e2,l2,_⟩ | ⟨n2,h2⟩
   ·rw [e2,bv0 (by rw [<- p.len]; exact l2)] at h4
    cases h4
    exact absurd h3 (ne h1)
   ·rw [bq8 (Ne.symm n2)] at h4
    exact p.dis j k y z b h1 h2 h3 h4
theorem Ev.own {a:Addr} (s:aG Hs H) (ha:Hs a=none):Ev W Hs (nR W a) H:=fun b o e n=>⟨s _ _ e,fun z=>z.elim n fun z=>by rw [z,ha] at e; cases e⟩
theorem lO {g:Bool}{a b:Addr} (wa:W a) (h:Ms H0 W g b):b ≠ a:=by
 cases g with
 | true=>exact fun z=>h.1 (by rw [z]; exact wa)
 | false=>exact fun z=>h (by rw [z]; exact wa)
theorem PX.updOwn {i:Nat}{a:Addr}{x y:PV}{o:HO} (p:PX K H0 W σ ρ H) (hi:ρ[i]? = some (some (.own x))) (ha:σ[i]? = some (some (.ref a))) (wa:W a) (mu:iW o=true) (r:jG K (Ms H0 W true) (upd H a o) a y) :
  PX K H0 W σ (ρ.set i (some (.own y))) (upd H a o):=by
 obtain ⟨w0,o',e',mu'⟩:=p.wm a wa
 have kp:∀ g,jF (Ms H0 W g) (Ms H0 W g) H (upd H a o):=fun g=>.upd e' mu' fun b m=>⟨lO wa m,m⟩
 refine⟨by rw [bs0]; exact p.len,fun b u e=>by rw [aX (fun z=>by rw [z,w0] at e; cases e)]; exact p.same _ _ e,fun b z=>?_,fun j m h=>?_,fun j k y' z b h1 h2 h3 h4=>?_⟩
 ·by_cases e:b=a
  ·subst e; exact⟨w0,o,bN,mu⟩
  ·obtain ⟨h1,o2,h2,h3⟩:=p.wm b z
   exact⟨h1,o2,by rw [aX e]; exact h2,h3⟩
 ·rcases gA h with ⟨rfl,hl,e⟩ | ⟨hne,h⟩
  ·cases e
   exact⟨_,ha,a,rfl,wa,r⟩
  ·obtain ⟨u,e,q⟩:=p.sl j m h
   refine⟨u,e,?_⟩
   cases m with
   | sh g y=>exact aK.keep (kp g) q
   | own y=>
    obtain ⟨b,e1,e2,q⟩:=q
    have hb:b ≠ a:=fun z=>by
     subst e1
     rw [z] at e
     exact hne (p.dis j i _ _ a h hi e ha)
    exact⟨b,e1,e2,q.keep (kp true) fun o z=>by rw [aX hb]; exact z⟩
 ·have g1:∃ y,ρ[j]? = some (some (.own y)):=by
   rcases gA h1 with ⟨e,_,_⟩ | ⟨_,h⟩
   ·exact⟨x,by rw [e]; exact hi⟩
   ·exact⟨_,h⟩
  have g2:∃ y,ρ[k]? = some (some (.own y)):=by
   rcases gA h2 with ⟨e,_,_⟩ | ⟨_,h⟩
   ·exact⟨x,by rw [e]; exact hi⟩
   ·exact⟨_,h⟩
  obtain ⟨y1,g1⟩:=g1
  obtain ⟨y2,g2⟩:=g2
  exact p.dis j k y1 y2 b g1 g2 h3 h4
theorem Ev.upd {a:Addr}{o:HO} (wa:W a):Ev W H W (upd H a o):=fun b u e n=>⟨by rw [aX (fun z=>n (by rw [z]; exact wa))]; exact e,n⟩
noncomputable def pU (W:Addr->Prop) (a:Addr):Addr->Prop:=fun b=>W b/\b ≠ a
theorem wX {g:Bool}{a b:Addr} (h:Ms H0 W g b):Ms H0 (pU W a) g b:=by
 cases g with
 | true=>exact⟨fun z=>h.1 z.1,h.2⟩
 | false=>exact fun z=>h z.1
theorem PX.freeze {i:Nat}{a:Addr}{x:PV} (p:PX K H0 W σ ρ H) (hi:ρ[i]? = some (some (.own x))) (ha:σ[i]? = some (some (.ref a))):PX K H0 (pU W a) σ (ρ.set i (some (.sh true x))) H:=by
 obtain ⟨v,ev,a',e1,wa,r⟩:=p.sl i _ hi
 rw [ha] at ev
 cases ev
 cases e1
 refine⟨by rw [bs0]; exact p.len,p.same,fun b z=>p.wm b z.1,fun j m h=>?_,fun j k y' z b h1 h2 h3 h4=>?_⟩
 ·rcases gA h with ⟨rfl,hl,e⟩ | ⟨hne,h⟩
  ·cases e
   exact⟨_,ha,r.rep (M':=Ms H0 (pU W a) true) (fun b m=>wX (g:=true) m) (show Ms H0 (pU W a) true a from ⟨fun z=>z.2 rfl,(p.wm a wa).1⟩)⟩
  ·obtain ⟨u,e,q⟩:=p.sl j m h
   refine⟨u,e,?_⟩
   cases m with
   | sh g y=>exact aK.same q (aG.refl _) fun _ m=>wX m
   | own y=>
    obtain ⟨b,e1,e2,q⟩:=q
    have hb:b ≠ a:=fun z=>by
     subst e1
     rw [z] at e
     exact hne (p.dis j i _ _ a h hi e ha)
    exact⟨b,e1,⟨e2,hb⟩,q.keep (.same (aG.refl _) fun _ m=>wX m) fun _ z=>z⟩
 ·rcases gA h1 with ⟨_,_,e⟩ | ⟨_,h1⟩
  ·cases e
  ·rcases gA h2 with ⟨_,_,e⟩ | ⟨_,h2⟩
   ·cases e
   ·exact p.dis j k _ _ b h1 h2 h3 h4
theorem Ev.off {a:Addr}:Ev W H (pU W a) H:=fun b u e n=>⟨e,fun z=>n z.1⟩
end
section
variable {X : Cx} {σ : St} {H : Hp} {D : cM} {te : aH} {t u : aI}
noncomputable def bR:aI:=fun D ρ=>D.nx ρ
noncomputable def aD (t u:aI):aI:=fun D ρ=>t { D with nx:=u D } ρ
theorem aE9 (h:LS X bR D σ H):C5 D σ H:=by
 obtain ⟨W,ρ,D',px,q,k⟩:=h
 exact k.nx W σ H ρ (Ev.refl _ _) px q
theorem aF0 (h:LS X (aD t u) D σ H):C6 (LS X t) (LS X u) D σ H:=by
 obtain ⟨W,ρ,D',px,q,k⟩:=h
 exact⟨W,ρ,_,px,q,fun W' σ' H' ρ' e px' q'=>⟨W',ρ',D',px',q',k.step e⟩,k.rt,k.bk,k.ct⟩
noncomputable def wY:Tg->PV->Bool
 | .fr,_=>true
 | .nw,_=>true
 | _,x=>flat x
noncomputable def wZ:Tg->PV->Prop
 | .rd,x=>flat x=true
 | _,_=>True
theorem S0 {K:PySem.W.Frag}{H0 Hs H:Hp}{W:Addr->Prop}{σ:St}{ρ:bQ}{g:Tg}{x:PV}{v:V} (px:PX K H0 W σ ρ Hs) (n:wZ g x) (r:aK K (Mg H0 W Hs g) H v x):aK K (Ms H0 W (wY g x)) H v x:=by
 cases g with
 | fr=>exact Nw.rep (g:=.fr) px trivial r
 | nw=>exact Nw.rep (g:=.nw) px trivial r
 | sh=>
  show aK K (Ms H0 W (flat x)) H v x
  cases e:flat x with
  | true=>exact r.flat e
  | false=>exact r.same (aG.refl _) fun _ z=>z
 | rd=>exact r.flat n
noncomputable def b6 (i:Nat) (te:aH):aI:=fun D ρ=>te ρ fun x g=>wZ g x/\D.nx (ρ.set i (some (.sh (wY g x) x)))
theorem x0 {i:Nat} (h:LS X (b6 i te) D σ H):kH (LE X te) (cQ i) D σ H:=by
 obtain ⟨W,ρ,D',px,q,k⟩:=h
 refine⟨W,ρ,_,px,q,?_⟩
 rintro v H1 x g s r ⟨n,q⟩
 exact k.nx W _ H1 _ (Ev.same s) ((px.mono s).setSh (S0 px n r)) q
noncomputable def S2:PV->Bool
 | .lst xs=>flats xs
 | .dK ps=>flats (ps.map (·.2))
 | .dT ps=>flats (ps.map (·.2))
 | _=>false
theorem aF1 {K:PySem.W.Frag}{M:Addr->Prop}{H:Hp}{v:V}{x:PV} (r:aK K M H v x) (o:S2 x=true):∃ a,v = .ref a/\M a/\∀ M',jG K M' H a x:=by
 cases r with
 | lst m e r=>exact⟨_,rfl,m,fun _=>⟨_,e,r.flat o⟩⟩
 | dK m e q r=>exact⟨_,rfl,m,fun _=>⟨_,e,q,r.flat o⟩⟩
 | dT m e q r=>exact⟨_,rfl,m,fun _=>⟨_,e,q,r.flat o⟩⟩
 | _=>cases o
noncomputable def cZ (i:Nat) (te:aH):aI:=fun D ρ=>te ρ fun x g=>g = .fr/\S2 x=true/\D.nx (ρ.set i (some (.own x)))
theorem S3 {i:Nat} (h:LS X (cZ i te) D σ H):kH (LE X te) (cQ i) D σ H:=by
 obtain ⟨W,ρ,D',px,q,k⟩:=h
 refine⟨W,ρ,_,px,q,?_⟩
 rintro v H1 x g s r ⟨rfl,o,q⟩
 obtain ⟨a,rfl,m,w⟩:=aF1 r o
 exact k.nx _ _ H1 _ (Ev.own s m) (px.setOwn s m (w _)) q
noncomputable def sK (i:Nat) (t:aI):aI:=fun D ρ=>∃ x,ρ[i]? = some (some (.own x))/\t D (ρ.set i (some (.sh true x)))
theorem aF2 {i:Nat} (h:LS X (sK i t) D σ H):LS X t D σ H:=by
 obtain ⟨W,ρ,D',px,⟨x,hi,q⟩,k⟩:=h
 obtain ⟨v,ev,a,rfl,wa,r⟩:=px.sl i _ hi
 exact⟨_,_,D',px.freeze hi ev,q,k.step Ev.off⟩
noncomputable def bF (te:aH):aI:=fun D ρ=>te ρ fun x g=>Nw g x/\D.rt x
theorem aF3 (h:LS X (bF te) D σ H):uW (LE X te) D σ H:=by
 obtain ⟨W,ρ,D',px,q,k⟩:=h
 refine⟨W,ρ,_,px,q,?_⟩
 rintro v H1 x g s r ⟨n,q⟩
 exact k.rt v H1 x (px.same.trans s) ((Nw.rep px n r).same (aG.refl _) fun _ z=>z.2) q
noncomputable def Slot.nw:Slot->Prop
 | .own _=>True
 | .sh true _=>True
 | .sh false x=>flat x=true
noncomputable def kS (i:Nat):aI:=fun D ρ=>∃ m,ρ[i]? = some (some m)/\m.nw/\D.rt m.val
theorem aF4 {i:Nat} (h:LS X (kS i) D σ H):uW (j8 i) D σ H:=by
 obtain ⟨W,ρ,D',px,⟨m,hi,n,q⟩,k⟩:=h
 obtain ⟨v,ev,r⟩:=px.sl i _ hi
 refine⟨v,ev,k.rt v H _ px.same ?_ q⟩
 cases m with
 | own x=>
  obtain ⟨a,rfl,wa,r⟩:=r
  exact r.rep (fun _ z=>z.2) (px.wm a wa).1
 | sh g x=>
  cases g with
  | true=>exact aK.same r (aG.refl _) fun _ z=>z.2
  | false=>exact aK.flat n r
noncomputable def bL (c:cY) (t u:aI):aI:=fun D ρ=>c ρ fun b=>if b=true then t D ρ else u D ρ
theorem aF5 {c:cY} (h:LS X (bL c t u) D σ H):C7 (LT X c) (LS X t) (LS X u) D σ H:=by
 obtain ⟨W,ρ,D',px,q,k⟩:=h
 refine⟨W,ρ,_,px,q,fun b H1 s q1=>?_⟩
 cases b with
 | true=>exact b9 ⟨W,ρ,D',px.mono s,by simpa using q1,k.step (Ev.same s)⟩
 | false=>exact b8 ⟨W,ρ,D',px.mono s,by simpa using q1,k.step (Ev.same s)⟩
noncomputable def mM (c:cY) (tb:aI):aI:=fun D ρ=>∃ I:Nat->bQ->Prop,(∃ m,I m ρ)/\∀ m ρ',I m ρ'->c ρ' fun b=>if b=true then tb { D with nx:=fun ρ2=>∃ m',m' < m/\I m' ρ2,ct:=fun ρ2=>∃ m',m' < m/\I m' ρ2,bk:=D.nx } ρ' else D.nx ρ'
theorem aF6 {c:cY}{tb:aI} (h:LS X (mM c tb) D σ H):E1 (LT X c) (LS X tb) D σ H:=by
 obtain ⟨W,ρ,D',px,⟨I,⟨m0,i0⟩,turn⟩,k⟩:=h
 refine⟨fun m σ2 H2=>∃ W2 ρ2,PX X.K X.H₀ W2 σ2 ρ2 H2/\Ev W H W2 H2/\I m ρ2,⟨m0,W,ρ,px,Ev.refl _ _,i0⟩,?_⟩
 rintro m σ2 H2 ⟨W2,ρ2,px2,e2,i2⟩
 refine⟨W2,ρ2,_,px2,turn m ρ2 i2,fun b H3 s3 q3=>?_⟩
 cases b with
 | true=>
  refine b9 ⟨fun σ4 H4=>∃ W4 ρ4,PX X.K X.H₀ W4 σ4 ρ4 H4/\Ev W H W4 H4/\∃ m',m' < m/\I m' ρ4,fun σ4 H4 ⟨W4,ρ4,a,b,m',c,d⟩=>⟨m',c,W4,ρ4,a,b,d⟩,W2,ρ2,_,px2.mono s3,by simpa using q3,?_⟩
  have e3:Ev W H W2 H3:=e2.trans (Ev.same s3)
  exact⟨fun W' σ' H' ρ' e p q=>⟨W',ρ',p,e3.trans e,q⟩,k.rt,fun W' σ' H' ρ' e p q=>k.nx W' σ' H' ρ' (e3.trans e) p q,fun W' σ' H' ρ' e p q=>⟨W',ρ',p,e3.trans e,q⟩⟩
 | false=>exact b8 (k.nx W2 σ2 H3 ρ2 (e2.trans (Ev.same s3)) (px2.mono s3) (by simpa using q3))
end
theorem lim {n:Nat} (h:n<=16000000):n<=sizeLine:=bt5 (iV h)
theorem aK.sqT {K:PySem.W.Frag}{M:Addr->Prop}{H:Hp}{v:V}{xs:List PV} (r:aK K M H v (.tup xs)):∃ a us,v = .ref a/\H a=some (.tup us)/\Reps K M H us xs:=by
 cases r with
 | tup e r=>exact⟨_,_,rfl,e,r⟩
theorem aK.sqL {K:PySem.W.Frag}{M:Addr->Prop}{H:Hp}{v:V}{xs:List PV} (r:aK K M H v (.lst xs)):∃ a us,v = .ref a/\M a/\H a=some (.lst us)/\Reps K M H us xs:=by
 cases r with
 | lst m e r=>exact⟨_,_,rfl,m,e,r⟩
theorem kQ.sqL {K:PySem.W.Frag}{H:Hp}{a:Addr}{ns:List Int} (h:kQ K H a ns):aN K H a (ns.map V.int):=h.elim (fun z=>.inl (.inr z)) .inr
noncomputable def lP:PV->Option (List PV)
 | .tup xs=>some xs
 | .lst xs=>some xs
 | .scr ns=>some (intz ns)
 | .kt xs=>some xs
 | _=>none
theorem aK.seq {K:PySem.W.Frag}{M:Addr->Prop}{H:Hp}{v:V}{x:PV}{xs:List PV} (r:aK K M H v x) (e:lP x=some xs):∃ a us,v = .ref a/\(aN K H a us ∨ aM K H a us)/\Reps K M H us xs:=by
 cases r with
 | tup h r=>cases e; exact⟨_,_,rfl,.inr (aM.of h),r⟩
 | lst m h r=>cases e; exact⟨_,_,rfl,.inl (aN.of h),r⟩
 | scr h=>cases e; exact⟨_,_,rfl,.inl h.sqL,Reps.intz _⟩
 | kt h r=>cases e; exact⟨_,_,rfl,.inr (.inr h),r⟩
 | _=>cases e
section
variable {X : Cx} {σ : St} {H : Hp} {D : cM} {te ti to : aH} {t u : aI} {Q' : VK}
theorem _root_.PP.PX.updL {K:PySem.W.Frag}{H0:Hp}{W:Addr->Prop}{σ:St}{ρ:bQ}{H:Hp}{i:Nat}{a:Addr}{x:PV}{us:List V}{ys:List PV} (p:PX K H0 W σ ρ H) (hi:ρ[i]? = some (some (.own x))) (ha:σ[i]? = some (some (.ref a))) (wa:W a) (r:Reps K (Ms H0 W true) (upd H a (.lst us)) us ys) :
  PX K H0 W σ (ρ.set i (some (.own (.lst ys)))) (upd H a (.lst us)):=p.updOwn hi ha wa rfl (y:=.lst ys) ⟨us,bN,r⟩
noncomputable def iX (i:Nat) (te:aH):aI:=fun D ρ=>∃ xs,ρ[i]? = some (some (.own (.lst xs)))/\te ρ fun x g=>Nw g x/\xs.length < 16000000/\D.nx (ρ.set i (some (.own (.lst (xs ++ [x])))))
theorem aF7 {i:Nat} (h:LS X (iX i te) D σ H):oW (rN X.K "list" K6 (j8 i) (jB (LE X te) kI)) D σ H:=by
 obtain ⟨W,ρ,D',px,⟨xs,hi,q⟩,k⟩:=h
 obtain ⟨v,ev,a,rfl,wa,us,ea,r⟩:=px.sl i _ hi
 refine⟨_,ev,lN (aN.of ea),W,ρ,_,px,q,?_⟩
 rintro w H1 x g s rx ⟨n,hl,q⟩
 have ea1:=s _ _ ea
 refine⟨a,us,w,rfl,rfl,ea1,iV (by rw [r.length]; omega),?_⟩
 refine k.nx W σ _ _ ((Ev.same s).trans (Ev.upd wa)) ((px.mono s).updL hi ev wa ?_) q
 exact ((r.same s fun _ z=>z).append (.cons (Nw.rep px n rx) .nil)).keep (.upd ea1 rfl fun b m=>⟨lO wa m,m⟩)
noncomputable def S4 (K:PySem.W.Frag):V->List V->Hp->VK->Prop:=fun x vs H Q=>K7 x vs H Q ∨ R3 K x vs H Q
noncomputable def sL (i:Nat) (te:aH):aI:=fun D ρ=>∃ xs,ρ[i]? = some (some (.own (.lst xs)))/\te ρ fun y g=>∃ ys,(y = .tup ys ∨ y = .lst ys)/\(Nw g y ∨ flats ys=true)/\xs.length+ys.length<=16000000/\D.nx (ρ.set i (some (.own (.lst (xs ++ ys)))))
theorem aF8 {i:Nat} (h:LS X (sL i te) D σ H):oW (rN X.K "list" (S4 X.K) (j8 i) (jB (LE X te) kI)) D σ H:=by
 obtain ⟨W,ρ,D',px,⟨xs,hi,q⟩,k⟩:=h
 obtain ⟨v,ev,a,rfl,wa,us,ea,r⟩:=px.sl i _ hi
 refine⟨_,ev,lN (aN.of ea),W,ρ,_,px,q,?_⟩
 rintro w H1 y g s ry ⟨ys,hy,n,hl,q⟩
 have ea1:=s _ _ ea
 have key:∀ (zs:List V),Reps X.K (Ms X.H₀ W true) H1 zs ys->D.nx σ (upd H1 a (.lst (us ++ zs))):=fun zs rz=>by
  refine k.nx W σ _ _ ((Ev.same s).trans (Ev.upd wa)) ((px.mono s).updL hi ev wa ?_) q
  exact ((r.same s fun _ z=>z).append rz).keep (.upd ea1 rfl fun b m=>⟨lO wa m,m⟩)
 have lr:=r.length
 rcases hy with rfl | rfl
 ·obtain ⟨b,zs,rfl,eb,rz⟩:=ry.sqT
  have lz:=rz.length
  refine .inr ⟨a,b,us,zs,rfl,rfl,ea1,aM.of eb,lim (by omega),key zs ?_⟩
  rcases n with n | n
  ·obtain ⟨b',zs',e1,e2,rz'⟩:=(Nw.rep px n ry).sqT
   cases e1; rw [eb] at e2; cases e2; exact rz'
  ·exact rz.flat n
 ·obtain ⟨b,zs,rfl,_,eb,rz⟩:=ry.sqL
  have lz:=rz.length
  refine .inl ⟨a,b,us,zs,rfl,rfl,ea1,eb,lim (by omega),key zs ?_⟩
  rcases n with n | n
  ·obtain ⟨b',zs',e1,_,e2,rz'⟩:=(Nw.rep px n ry).sqL
   cases e1; rw [eb] at e2; cases e2; exact rz'
  ·exact rz.flat n
noncomputable def jX (i:Nat) (tk te:aH):aI:=fun D ρ=>te ρ fun x g=>∃ xs,ρ[i]? = some (some (.own (.lst xs)))/\tk ρ fun y _=>∃ n j,y = .int n/\gM xs.length n=some j/\Nw g x/\D.nx (ρ.set i (some (.own (.lst (xs.set j x)))))
theorem aF9 {i:Nat}{tk:aH} (h:LS X (jX i tk te) D σ H):kH (LE X te) (uY (j8 i) (LE X tk) vN) D σ H:=by
 obtain ⟨W,ρ,D',px,q,k⟩:=h
 refine⟨W,ρ,_,px,q,?_⟩
 rintro w H1 x g s rx ⟨xs,hi,q1⟩
 obtain ⟨v,ev,a,rfl,wa,us,ea,r⟩:=(px.mono s).sl i _ hi
 refine⟨_,ev,W,ρ,_,px.mono s,q1,?_⟩
 rintro kv H2 y gy s2 ry ⟨n,j,rfl,hj,nw,q2⟩
 cases ry
 have ea2:=s2 _ _ ea
 refine⟨a,us,n,j,rfl,rfl,ea2,by rw [r.length]; exact hj,?_⟩
 refine k.nx W σ _ _ ((Ev.same (s.trans s2)).trans (Ev.upd wa)) ((px.mono (s.trans s2)).updL hi ev wa ?_) q2
 exact (Reps.set ((Nw.rep px nw rx).same s2 fun _ z=>z) j (r.same s2 fun _ z=>z)).keep (.upd ea2 rfl fun b m=>⟨lO wa m,m⟩)
noncomputable def x3 (i j:Nat):aI:=fun D ρ=>∃ xs y,ρ[i]? = some (some (.own (.lst (xs ++ [y]))))/\D.nx ((ρ.set i (some (.own (.lst xs)))).set j (some (.sh true y)))
theorem Reps.snoc_inv {K:PySem.W.Frag}{M:Addr->Prop}{H:Hp}{us:List V}{xs:List PV}{y:PV} (r:Reps K M H us (xs ++ [y])):∃ vs v,us=vs ++ [v]/\Reps K M H vs xs/\aK K M H v y:=by
 have l:=r.length
 have h1:=r.take xs.length
 have h2:=r.drop xs.length
 rw [List.take_left] at h1
 rw [List.drop_left] at h2
 generalize hd:us.drop xs.length=ds at h2
 cases h2 with
 | cons q t=>
  cases t
  exact⟨_,_,by rw [<- hd,bC6],h1,q⟩
theorem aG0 {i j:Nat} (h:LS X (x3 i j) D σ H):kH (K4 X.K "list" K8 (j8 i)) (cQ j) D σ H:=by
 obtain ⟨W,ρ,D',px,⟨xs,y,hi,q⟩,k⟩:=h
 obtain ⟨v,ev,a,rfl,wa,us,ea,r⟩:=px.sl i _ hi
 obtain ⟨vs,w,rfl,r1,ry⟩:=r.snoc_inv
 refine⟨_,ev,lN (aN.of ea),a,_,w,rfl,rfl,ea,by simp,?_⟩
 rw [List.dropLast_concat]
 have kp:jF (Ms X.H₀ W true) (Ms X.H₀ W true) H (upd H a (.lst vs)):=.upd ea rfl fun b m=>⟨lO wa m,m⟩
 exact k.nx W _ _ _ (Ev.upd wa) ((px.updL hi ev wa (r1.keep kp)).setSh (ry.keep kp)) q
end
theorem Reps.atI {K:PySem.W.Frag}{M:Addr->Prop}{H:Hp}{us:List V}{xs:List PV}{i:Int}{z:PV} (r:Reps K M H us xs) (h:L2.atI xs i=some z):∃ v,L2.atI us i=some v/\aK K M H v z:=by
 unfold L2.atI at h ⊢
 rw [r.length]
 cases e:gM xs.length i with
 | none=>rw [e] at h; cases h
 | some j=>rw [e] at h; exact r.at h
section
variable {X : Cx} {σ : St} {H : Hp} {Q' : VK} {ta tb te : aH} {tr : dI}
noncomputable def x4:PV->Tg->PV->Tg->PK->Prop:=fun x g y _ Q=>∃ xs i z,lP x=some xs/\y = .int i/\L2.atI xs i=some z/\Q z g
theorem aG1:g9 X x4 (K0 X.K):=by
 rintro W Hs H u v x y g g' Q Q' s n r1 r2 ⟨xs,i,z,e,rfl,hz,q⟩ k
 cases r2
 obtain ⟨a,us,rfl,hs,r⟩:=r1.seq e
 obtain ⟨v,hv,rv⟩:=r.atI hz
 rcases hs with hs | hs
 ·exact .inl ⟨a,us,i,v,rfl,rfl,hs,hv,k v H z g (aG.refl _) rv q⟩
 ·exact .inr (.inl ⟨a,us,i,v,rfl,rfl,hs,hv,k v H z g (aG.refl _) rv q⟩)
noncomputable def x5:PV->Option Nat
 | .tup xs=>some xs.length
 | .lst xs=>some xs.length
 | .scr ns=>some ns.length
 | .dK ps=>some ps.length
 | .kt xs=>some xs.length
 | _=>none
noncomputable def bT:List PV->(PV->Prop)->Prop:=fun xs Q=>∃ x n,xs = [x]/\x5 x=some n/\Q (.int n)
theorem Reps.one {K:PySem.W.Frag}{M:Addr->Prop}{H:Hp}{vs:List V}{x:PV} (r:Reps K M H vs [x]):∃ v,vs = [v]/\aK K M H v x:=by
 cases r with
 | cons r t=>cases t; exact⟨_,rfl,r⟩
theorem Reps.two {K:PySem.W.Frag}{M:Addr->Prop}{H:Hp}{vs:List V}{x y:PV} (r:Reps K M H vs [x,y]):∃ v w,vs = [v,w]/\aK K M H v x/\aK K M H w y:=by
 cases r with
 | cons r t=>
  obtain ⟨w,rfl,q⟩:=t.one
  exact⟨_,_,rfl,r,q⟩
theorem aG2:iD X bT (fun xs H Q=>(∃ p ys,xs = [.ref p]/\(aN X.K H p ys ∨ aM X.K H p ys)/\Q (.int ys.length) H) ∨ ∃ a kvs,xs = [V.ref a]/\H a=some (.dK kvs)/\Q (.int kvs.length) H):=by
 rintro H vs xs Q Q' r ⟨x,n,rfl,e,q⟩ k
 obtain ⟨v,rfl,r1⟩:=r.one
 have fin:∀ {m:Nat},m=n->Q' (.int m) H:=fun {m} z=>by rw [z]; exact k _ _ _ (aG.refl _) (.int _) q
 cases r1 with
 | tup h r2=>cases e; exact .inl ⟨_,_,rfl,.inr (aM.of h),fin r2.length⟩
 | lst m h r2=>cases e; exact .inl ⟨_,_,rfl,.inl (aN.of h),fin r2.length⟩
 | scr h=>cases e; exact .inl ⟨_,_,rfl,.inl h.sqL,fin (by rw [bn7])⟩
 | kt h r2=>cases e; exact .inl ⟨_,_,rfl,.inr (.inr h),fin r2.length⟩
 | dK m h e' r=>
  cases e
  refine .inr ⟨_,_,rfl,h,fin ?_⟩
  have:=congrArg List.length e'
  rw [bn7,bn7] at this
  exact this
 | _=>cases e
noncomputable def seqT:PV->Option (List PV)
 | .kt _=>none
 | x=>lP x
noncomputable def S5:List PV->(PV->Prop)->Prop:=fun xs Q=>∃ x ys,xs = [x]/\seqT x=some ys/\flats ys=true/\Q (.tup ys)
theorem aG3:iD X (fun xs Q=>S5 xs Q/\∀ ns,xs ≠ [.scr ns]) (fun xs H Q=>∃ p ys,xs = [.ref p]/\((aN X.K H p ys/\∀ l,H l=none->Q (.ref l) (upd H l (.tup ys))) ∨ (aM X.K H p ys/\Q (.ref p) H))):=by
 rintro H vs xs Q Q' r ⟨⟨x,ys,rfl,e,f,q⟩,nsc⟩ k
 obtain ⟨v,rfl,r1⟩:=r.one
 cases r1 with
 | tup h r2=>cases e; exact⟨_,_,rfl,.inr ⟨aM.of h,k _ _ _ (aG.refl _) (.tup h (r2.flat f)) q⟩⟩
 | lst m h r2=>cases e; exact⟨_,_,rfl,.inl ⟨aN.of h,fun l hl=>k _ _ _ (bP hl _) (.tup bN ((r2.flat f).same (bP hl _) fun _ z=>z)) q⟩⟩
 | scr h=>exact absurd rfl (nsc _)
 | _=>cases e
noncomputable def sM:List PV->(PV->Prop)->Prop:=fun xs Q=>∃ ns,xs = [.lst (intz ns)]/\ns.length < 64/\∀ ms:List Int,ms.Perm ns->ms.Pairwise (· <= ·)->Q (.lst (intz ms))
theorem aG4:iD X sM (O9 X.K):=by
 rintro H vs xs Q Q' r ⟨ns,rfl,hl,q⟩ k
 obtain ⟨v,rfl,r1⟩:=r.one
 obtain ⟨a,us,rfl,_,h,r2⟩:=r1.sqL
 obtain rfl:=r2.ofInts
 exact⟨a,ns,rfl,aN.of h,hl,fun l ms hl' p o=>k _ _ _ (bP hl' _) (.lst hl' bN (Reps.intz ms)) (q ms p o)⟩
noncomputable def x6:List PV->(PV->Prop)->Prop:=fun xs Q=>∃ bs:List Bool,xs = [.lst (bs.map PV.bl)]/\Q (.bl (bs.all id))
theorem Reps.ofBls {K:PySem.W.Frag}{M:Addr->Prop}{H:Hp}:∀ {ns:List Bool}{us:List V},Reps K M H us (ns.map PV.bl)->us=ns.map V.bl
 | [],_,.nil=>rfl
 | n :: r,_,.cons q t=>by
  cases q
  rw [Reps.ofBls t]; rfl
theorem aG5:iD X x6 (fun xs H Q=>∃ (a:Addr) (bs:List Bool),xs = [.ref a]/\aN X.K H a (bs.map V.bl)/\Q (.bl (bs.all id)) H):=by
 rintro H vs xs Q Q' r ⟨bs,rfl,q⟩ k
 obtain ⟨v,rfl,r1⟩:=r.one
 obtain ⟨a,us,rfl,_,h,r2⟩:=r1.sqL
 obtain rfl:=r2.ofBls
 exact⟨a,bs,rfl,aN.of h,k _ _ _ (aG.refl _) (.bl _) q⟩
noncomputable def pV:List PV->(PV->Prop)->Prop:=fun xs Q=>∃ i j,xs = [.int i,.int j]/\Q (.int (if j < i then j else i))
noncomputable def jY:List PV->(PV->Prop)->Prop:=fun xs Q=>∃ i j,xs = [.int i,.int j]/\Q (.int (if j > i then j else i))
theorem aG6:iD X pV (fun xs H Q=>∃ i j,xs = [.int i,.int j]/\Q (.int (if j < i then j else i)) H):=by
 rintro H vs xs Q Q' r ⟨i,j,rfl,q⟩ k
 obtain ⟨v,w,rfl,r1,r2⟩:=r.two
 cases r1; cases r2
 exact⟨i,j,rfl,k _ _ _ (aG.refl _) (.int _) q⟩
theorem aG7:iD X jY (fun xs H Q=>∃ i j,xs = [.int i,.int j]/\Q (.int (if j > i then j else i)) H):=by
 rintro H vs xs Q Q' r ⟨i,j,rfl,q⟩ k
 obtain ⟨v,w,rfl,r1,r2⟩:=r.two
 cases r1; cases r2
 exact⟨i,j,rfl,k _ _ _ (aG.refl _) (.int _) q⟩
noncomputable abbrev bK:=List PV->(PV->Prop)->Prop
noncomputable def pW (K:PySem.W.Frag) (p:bK):Sp:=fun vs H Q _=>∃ xs Qp,Reps K (fun _=>True) H vs xs/\p xs Qp/\∀ v H' x,aG H H'->aK K (fun a=>H a=none) H' v x->Qp x->Q v H'
theorem aG8 {p:bK}{E:XK} (h:LE X (aB p tr) σ H Q'):vG (pW X.K p) [] E (LA X tr) σ H Q':=by
 obtain ⟨W,ρ,Q,px,q,k⟩:=h
 refine⟨W,ρ,_,px,q,fun vs H1 xs s1 r1 q1=>⟨_,_,by rw [br6]; exact r1.any,q1,fun v H' x s2 r2 q2=>k v H' x .fr (s1.trans s2) (r2.same (aG.refl _) fun _ z=>s1.free z) q2⟩⟩
noncomputable def aG9:PV->Option Bool
 | .non=>some false
 | .bl b=>some b
 | .int i=>some (i != 0)
 | .tup xs=>some (!xs.isEmpty)
 | .lst xs=>some (!xs.isEmpty)
 | .dK ps=>some (!ps.isEmpty)
 | _=>none
noncomputable def jZ (t:aH):cY:=fun ρ Q=>t ρ fun x _=>∃ b,aG9 x=some b/\Q b
theorem x8 {α β:Type}:∀ {l:List α}{m:List β},l.length=m.length->l.isEmpty=m.isEmpty
 | [],[],_=>rfl
 | _ :: _,_ :: _,_=>rfl
theorem aH0 {t:aH}{Qb:Bool->Hp->Prop} (h:LT X (jZ t) σ H Qb):LE X t σ H fun x H'=>∃ k,vC X.K x H' k/\Qb k H':=by
 obtain ⟨W,ρ,Q,px,q,k⟩:=h
 refine⟨W,ρ,_,px,q,?_⟩
 rintro v H1 x g s r ⟨b,e,q⟩
 refine⟨b,?_,k _ _ s q⟩
 cases r with
 | non=>cases e; rfl
 | bl b=>cases e; rfl
 | int i=>cases e; rfl
 | str x=>cases e
 | tup h r=>cases e; exact .inr (.inl ⟨_,aM.of h,by rw [x8 r.length]⟩)
 | lst m h r=>cases e; exact .inl ⟨_,aN.of h,by rw [x8 r.length]⟩
 | dK m h e' r=>
  cases e
  refine .inr (.inr ⟨_,h,?_⟩)
  have:=congrArg List.length e'
  rw [bn7,bn7] at this
  rw [x8 this]
 | dT m h e' r=>cases e
 | scr h=>cases e
 | kt h r=>cases e
 | exc h e' c=>cases e
 | fK h e' r=>cases e
 | fT h e' r=>cases e
noncomputable def x9:PV->Bool
 | .non=>true
 | _=>false
noncomputable def xA (neg:Bool):PV->Tg->PV->Tg->PK->Prop:=fun x _ y _ Q=>y = .non/\Q (.bl (if neg=true then !x9 x else x9 x)) .fr
theorem aH1 {K:PySem.W.Frag}{M:Addr->Prop}{H:Hp}{v:V}{x:PV} (r:aK K M H v x):decide (v = .non)=x9 x:=by
 cases r <;> rfl
theorem aH2:g9 X (xA true) (fun x y H Q=>y = .non/\Q (.bl (!decide (x = .non))) H):=by
 rintro W Hs H u v x y g g' Q Q' s n r1 r2 ⟨rfl,q⟩ k
 cases r2
 exact⟨rfl,by rw [aH1 r1]; exact k _ _ _ _ (aG.refl _) (.bl _) q⟩
end
structure nS (K:PySem.W.Frag) (H0:Hp) (W:Addr->Prop) (g:Bool) (H1:Hp) (J:It) (xs:List PV):Prop where
 go:∀ W' H' i,Ev W H1 W' H'->i < xs.length->J.go i H'
 yld:∀ W' H' i v H2,Ev W H1 W' H'->J.yld i H' v H2->i < xs.length->aG H' H2/\∃ x,xs[i]? = some x/\aK K (Ms H0 W' g) H2 v x
 stop:∀ W' H',Ev W H1 W' H'->J.stop xs.length H'
noncomputable abbrev gB:=bQ->(List PV->Bool->Prop)->Prop
noncomputable def LI (X:Cx) (t:gB):TI:=fun σ H R=>∃ (W:Addr->Prop) (ρ:bQ) (Q:List PV->Bool->Prop),PX X.K X.H₀ W σ ρ H/\t ρ Q/\∀ J H1 xs g,aG H H1->nS X.K X.H₀ W g H1 J xs->Q xs g->R J H1
theorem Ev.keep {H0:Hp}{W W':Addr->Prop}{H H':Hp}{g:Bool} (e:Ev W H W' H') (tw:∀ a,W a->∃ o,H a=some o/\iW o=true):jF (Ms H0 W g) (Ms H0 W' g) H H':=by
 have m:∀ {a:Addr}{o:HO},Ms H0 W g a->H a=some o->Ms H0 W' g a/\H' a=some o:=fun {a o} z h=>by
  cases g with
  | true=>
   obtain ⟨h1,h2⟩:=e a _ h z.1
   exact⟨⟨h2,z.2⟩,h1⟩
  | false=>
   obtain ⟨h1,h2⟩:=e a _ h z
   exact⟨h2,h1⟩
 refine⟨fun a _ z h=>m z h,fun a _ z h=>m z h,fun a _ z h=>m z h,fun a _ h=>(e a _ h fun z=>?_).1,fun a _ _ h=>(e a _ h fun z=>?_).1⟩
 ·obtain ⟨o,h',mu⟩:=tw a z; rw [h] at h'; cases h'; cases mu
 ·obtain ⟨o,h',mu⟩:=tw a z; rw [h] at h'; cases h'; cases mu
section
variable {X : Cx} {σ : St} {H : Hp} {te : aH} {tr : dI} {R : It → Hp → Prop}
noncomputable def S6 (K:PySem.W.Frag) (tl:TE):TI:=fun σ H R=>tl σ H fun x H1=>∃ a,x = .ref a/\((∃ xs,aN K H1 a xs/\R (nE K a) H1) ∨ (∃ xs,aM K H1 a xs/\R (lF K a) H1))
noncomputable def sN:Tg->List PV->Bool
 | .fr,_=>true
 | .nw,_=>true
 | _,xs=>flats xs
noncomputable def cR (te:aH):gB:=fun ρ Q=>te ρ fun x g=>∃ xs,lP x=some xs/\(g = .rd->flat x=true)/\Q xs (sN g xs)
theorem S7 {K:PySem.W.Frag}{H0:Hp}{W:Addr->Prop}{g:Bool}{H1:Hp}{a:Addr}{us:List V}{xs:List PV} (tw:∀ a,W a->∃ o,H1 a=some o/\iW o=true) (ha:∀ W' H',Ev W H1 W' H'->aN K H' a us) (r:Reps K (Ms H0 W g) H1 us xs):nS K H0 W g H1 (nE K a) xs:=by
 have lr:=r.length
 refine⟨fun W' H' i e hi=>⟨us,us[i]'(by omega),ha W' H' e,by simp⟩,fun W' H' i v H2 e y hi=>?_,fun W' H' e=>⟨us,ha W' H' e,by omega⟩⟩
 obtain ⟨rfl,y⟩:=y
 obtain ⟨x,hx,rx⟩:=r.get (y us (ha W' _ e))
 exact⟨aG.refl _,x,hx,rx.keep (e.keep tw)⟩
theorem S8 {K:PySem.W.Frag}{H0:Hp}{W:Addr->Prop}{g:Bool}{H1:Hp}{a:Addr}{us:List V}{xs:List PV} (tw:∀ a,W a->∃ o,H1 a=some o/\iW o=true) (ha:∀ W' H',Ev W H1 W' H'->aM K H' a us) (r:Reps K (Ms H0 W g) H1 us xs):nS K H0 W g H1 (lF K a) xs:=by
 have lr:=r.length
 refine⟨fun W' H' i e hi=>⟨us,us[i]'(by omega),ha W' H' e,by simp⟩,fun W' H' i v H2 e y hi=>?_,fun W' H' e=>⟨us,ha W' H' e,by omega⟩⟩
 obtain ⟨rfl,y⟩:=y
 obtain ⟨x,hx,rx⟩:=r.get (y us (ha W' _ e))
 exact⟨aG.refl _,x,hx,rx.keep (e.keep tw)⟩
theorem mO {K:PySem.W.Frag}{H0 Hs H:Hp}{W:Addr->Prop}{σ:St}{ρ:bQ}{g:Tg}{us:List V}{xs:List PV} (px:PX K H0 W σ ρ Hs) (hg:g = .rd->flats xs=true) (r:Reps K (Mg H0 W Hs g) H us xs):Reps K (Ms H0 W (sN g xs)) H us xs:=by
 cases g with
 | fr=>exact r.same (aG.refl _) fun _ z=>px.new z
 | nw=>exact r.same (aG.refl _) fun _ z=>z
 | sh=>
  show Reps K (Ms H0 W (flats xs)) H us xs
  cases e:flats xs with
  | true=>exact r.flat e
  | false=>exact r.same (aG.refl _) fun _ z=>z
 | rd=>exact r.flat (hg rfl)
theorem aH3 (h:LI X (cR te) σ H R):S6 X.K (LE X te) σ H R:=by
 obtain ⟨W,ρ,Q,px,q,k⟩:=h
 refine⟨W,ρ,_,px,q,?_⟩
 rintro v H1 x g s r ⟨xs,e,hg,q⟩
 have px1:=px.mono s
 have tw:∀ a,W a->∃ o,H1 a=some o/\iW o=true:=fun a z=>(px1.wm a z).2
 cases r with
 | tup h r=>
  cases e
  refine⟨_,rfl,.inr ⟨_,aM.of h,k _ _ _ _ s (S8 tw (fun W' H' e=>aM.of (e _ _ h fun z=>?_).1) (mO px (fun z=>by have:=hg z; unfold flat at this; exact this) r)) q⟩⟩
  obtain ⟨o,h',mu⟩:=tw _ z; rw [h] at h'; cases h'; cases mu
 | @lst a us xs' m h r=>
  cases e
  have wa : ¬ W a:=by
   cases g with
   | fr=>exact (px.new m).1
   | nw=>exact m.1
   | sh=>exact m
   | rd=>have:=hg rfl; unfold flat at this; cases this
  exact⟨_,rfl,.inl ⟨_,aN.of h,k _ _ _ _ s (S7 tw (fun W' H' e=>aN.of (e _ _ h wa).1) (mO px (fun z=>by have:=hg z; unfold flat at this; cases this) r)) q⟩⟩
 | scr h=>
  cases e
  refine⟨_,rfl,.inl ⟨_,h.sqL,k _ _ _ _ s (S7 tw (fun W' H' e=>(kQ.keep (fun a o u hz=>(e _ _ hz fun z=>?_).1) h).sqL) (mO (g:=g) px (fun z=>bJ _) (Reps.intz _))) q⟩⟩
  obtain ⟨o,h',mu⟩:=tw _ z; rw [hz] at h'; cases h'; cases mu
 | kt h r=>
  cases e
  exact⟨_,rfl,.inr ⟨_,.inr h,k _ _ _ _ s (S8 tw (fun W' H' e=>.inr h) (mO px (fun z=>by have:=hg z; unfold flat at this; exact this) r)) q⟩⟩
 | _=>cases e
noncomputable def gC (lo:Int) (n:Nat):List PV:=(List.range n).map fun (i:Nat)=>PV.int (lo+(i:Int))
theorem dQ (lo:Int) (n:Nat):(gC lo n).length=n:=by unfold gC; rw [bn7,bz2]
theorem xB {lo:Int}{n i:Nat} (h:i < n):(gC lo n)[i]? = some (.int (lo+i)):=by unfold gC; rw [bo8,List.getElem?_range h]; rfl
noncomputable def iY (te:aH):gB:=fun ρ Q=>te ρ fun x _=>∃ j:Int,x = .int j/\-1000000<=j/\j<=1000000/\Q (gC 0 j.toNat) true
noncomputable def pX (ta tb:aH):gB:=fun ρ Q=>ta ρ fun x _=>tb ρ fun y _=>∃ i j:Int,x = .int i/\y = .int j/\(-1000000<=i/\i<=1000000/\-1000000<=j/\j<=1000000)/\Q (gC i (j - i).toNat) true
theorem S9 {K:PySem.W.Frag}{H0:Hp}{W:Addr->Prop}{H1:Hp} (lo:Int) (n:Nat):nS K H0 W true H1 (oX lo n) (gC lo n):=by
 refine⟨fun W' H' i e hi=>by rw [dQ] at hi; exact hi,fun W' H' i v H2 e y hi=>?_,fun W' H' e=>by show n<=(gC lo n).length; rw [dQ]; exact bo7 _⟩
 rw [dQ] at hi
 obtain ⟨rfl,rfl⟩:=y
 exact⟨aG.refl _,_,xB hi,.int _⟩
theorem aH4 (h:LI X (iY te) σ H R):E5 (jB (LE X te) kI) σ H R:=by
 obtain ⟨W,ρ,Q,px,q,k⟩:=h
 refine⟨W,ρ,_,px,q,?_⟩
 rintro v H1 x g s r ⟨j,rfl,h1,h2,q⟩
 cases r
 exact⟨j,rfl,by omega,by omega,k _ _ _ _ s (S9 0 j.toNat) q⟩
theorem aH5 {ta tb:aH} (h:LI X (pX ta tb) σ H R):E6 (jB (LE X ta) (jB (LE X tb) kI)) σ H R:=by
 obtain ⟨W,ρ,Q,px,q,k⟩:=h
 refine⟨W,ρ,_,px,q,fun v H1 x g s r q=>⟨W,ρ,_,px.mono s,q,?_⟩⟩
 rintro w H2 y g' s2 r2 ⟨i,j,rfl,rfl,h,q⟩
 cases r; cases r2
 exact⟨i,j,rfl,by omega,k _ _ _ _ (s.trans s2) (S9 i (j - i).toNat) q⟩
end
noncomputable abbrev k6:=PV->Bool->bQ->(bQ->Prop)->Prop
noncomputable def nT (K:PySem.W.Frag) (own:Nat->Prop) (p:k6) (t:TG):Prop:=∀ (H0:Hp) (W:Addr->Prop) (σ:St) (ρ:bQ) (H:Hp) (v:V) (x:PV) (g:Bool) (Q:bQ->Prop) (Q':St->Hp->Prop),
 PX K H0 W σ ρ H->aK K (Ms H0 W g) H v x->p x g ρ Q->(∀ σ' ρ',PX K H0 W σ' ρ' H->(∀ i,¬ own i->σ'[i]? = σ[i]?)->σ'.length=σ.length->Q ρ'->Q' σ' H)->t v σ H Q'
noncomputable def bO (i:Nat):k6:=fun x g ρ Q=>Q (ρ.set i (some (.sh (g || flat x) x)))
theorem sO {K:PySem.W.Frag}{H0 H:Hp}{W:Addr->Prop}{v:V}{x:PV}{g:Bool} (r:aK K (Ms H0 W g) H v x):aK K (Ms H0 W (g || flat x)) H v x:=by
 cases g with
 | true=>exact r
 | false=>
  show aK K (Ms H0 W (flat x)) H v x
  cases e:flat x with
  | true=>exact r.flat e
  | false=>exact r
theorem pY (K:PySem.W.Frag) (i:Nat):nT K (· = i) (bO i) (cQ i):=by
 intro H0 W σ ρ H v x g Q Q' px r q k
 exact k _ _ (px.setSh (sO r)) (fun j hj=>by rw [bq8 (Ne.symm hj)]) (bs0 ..) q
noncomputable def iZ (i j:Nat):k6:=fun x g ρ Q=>∃ y z,x = .tup [y,z]/\Q ((ρ.set i (some (.sh (g || flat y) y))).set j (some (.sh (g || flat z) z)))
theorem sP (K:PySem.W.Frag) (i j:Nat):nT K (fun k=>k=i ∨ k=j) (iZ i j) (lE K 2 (gK (cQ i) (gK (cQ j) lD))):=by
 intro H0 W σ ρ H v x g Q Q' px r q k
 obtain ⟨y,z,rfl,q⟩:=q
 obtain ⟨a,us,rfl,h,r⟩:=r.sqT
 obtain ⟨u1,u2,rfl,r1,r2⟩:=r.two
 refine⟨a,_,rfl,aM.of h,rfl,u1,_,rfl,u2,_,rfl,rfl,k _ _ ((px.setSh (sO r1)).setSh (sO r2)) (fun k hk=>?_) (by rw [bs0,bs0]) q⟩
 rw [bq8 (fun e=>hk (.inr e.symm)),bq8 (fun e=>hk (.inl e.symm))]
section
variable {X : Cx} {σ : St} {H : Hp} {D : cM}
noncomputable def dJ (ti:gB) (p:k6) (tb:aI):aI:=fun D ρ=>ti ρ fun xs g=>∃ I:Nat->bQ->Prop,I 0 ρ/\(∀ i x ρ',xs[i]? = some x->I i ρ'->p x g ρ' fun ρ2=>tb { D with nx:=I (i+1),ct:=I (i+1),bk:=D.nx } ρ2)/\∀ ρ',I xs.length ρ'->D.nx ρ'
theorem aH6 {ti:gB}{p:k6}{g:TG}{tb:aI}{own:Nat->Prop} (hg:nT X.K own p g) (h:LS X (dJ ti p tb) D σ H):E7 (LI X ti) g (LS X tb) D σ H:=by
 obtain ⟨W,ρ,D',px,q,k⟩:=h
 refine⟨W,ρ,_,px,q,?_⟩
 rintro J H1 xs gb s it ⟨I,i0,turn,fin⟩
 refine⟨fun i m σ2 H2=>m=xs.length - i/\i<=xs.length/\∃ W2 ρ2,PX X.K X.H₀ W2 σ2 ρ2 H2/\Ev W H1 W2 H2/\I i ρ2,⟨xs.length,by omega,br9 _,W,ρ,px.mono s,Ev.refl _ _,i0⟩,?_⟩
 rintro i m σ2 H2 ⟨rfl,hi,W2,ρ2,px2,e2,i2⟩
 have e0:Ev W H W2 H2:=(Ev.same s).trans e2
 by_cases hlt:i < xs.length
 ·refine .inr ⟨it.go W2 H2 i e2 hlt,fun σ3 H3=>∃ W3 ρ3,PX X.K X.H₀ W3 σ3 ρ3 H3/\Ev W H1 W3 H3/\I (i+1) ρ3,fun σ3 H3 ⟨W3,ρ3,a,b,c⟩=>⟨xs.length - (i+1),by omega,rfl,hlt,W3,ρ3,a,b,c⟩,fun v H3 y=>?_⟩
  obtain ⟨s3,x,hx,rx⟩:=it.yld W2 H2 i v H3 e2 y hlt
  refine hg X.H₀ W2 σ2 ρ2 H3 v x gb _ _ (px2.mono s3) rx (turn i x ρ2 hx i2) fun σ4 ρ4 px4 _ _ q4=>?_
  have e3:Ev W H1 W2 H3:=e2.trans (Ev.same s3)
  have e3':Ev W H W2 H3:=e0.trans (Ev.same s3)
  exact⟨W2,ρ4,_,px4,q4,fun W' σ' H' ρ' e p q=>⟨W',ρ',p,e3.trans e,q⟩,k.rt,fun W' σ' H' ρ' e p q=>k.nx W' σ' H' ρ' (e3'.trans e) p q,fun W' σ' H' ρ' e p q=>⟨W',ρ',p,e3.trans e,q⟩⟩
 ·have e:i=xs.length:=by omega
  subst e
  exact .inl ⟨it.stop W2 H2 e2,k.nx W2 σ2 H2 ρ2 e0 px2 (fin ρ2 i2)⟩
end
noncomputable def nU (fr:List (Option Nat)) (ρ:bQ):bQ:=fr.map fun o=>o.bind fun j=>(ρ[j]?).join.map fun m=>Slot.sh false m.val
noncomputable def mP (D:Addr):Addr->Prop:=fun a=>a=D
theorem aH7 {K:PySem.W.Frag}{H0:Hp}{W:Addr->Prop}{σ:St}{ρ:bQ}{H1 H':Hp}{D:Addr}{acc:List V}{fr:List (Option Nat)} (px:PX K H0 W σ ρ H1) (hD:H1 D=none) (s:aG H1 H') (ha:H' D=some (.lst acc)) :
  PX K H1 (mP D) (gY fr σ) (nU fr ρ) H':=by
 have old:∀ {a:Addr}{o:HO},H1 a=some o->a ≠ D:=fun {a o} e z=>by rw [z,hD] at e; cases e
 refine⟨by unfold gY nU; rw [bn7,bn7],s,fun a z=>by cases z; exact⟨hD,_,ha,rfl⟩,fun i m h=>?_,fun i j x y a h1=>?_⟩
 ·unfold nU at h
  rw [bo8] at h
  cases ef:fr[i]? with
  | none=>rw [ef] at h; cases h
  | some o=>
   rw [ef] at h
   cases o with
   | none=>cases h
   | some j=>
    have h:some ((ρ[j]?).join.map fun m=>Slot.sh false m.val)=some (some m):=h
    cases er:ρ[j]? with
    | none=>rw [er] at h; cases h
    | some o=>
     rw [er] at h
     cases o with
     | none=>cases h
     | some m0=>
      cases h
      obtain ⟨v,ev,r⟩:=px.sl j m0 er
      refine⟨v,?_,?_⟩
      ·unfold gY
       rw [bo8,ef]
       show some ((σ[j]?).join)=_
       rw [ev]; rfl
      ·have r':aK K (fun _=>True) H1 v m0.val:=(R5 (Hs:=H1) r).same (aG.refl _) fun _ _=>trivial
       exact r'.keep ⟨fun a _ _ e=>⟨old e,s _ _ e⟩,fun a _ _ e=>⟨old e,s _ _ e⟩,fun a _ _ e=>⟨old e,s _ _ e⟩,fun _ _ e=>s _ _ e,fun _ _ _ e=>s _ _ e⟩
 ·unfold nU at h1
  rw [bo8] at h1
  cases ef:fr[i]? with
  | none=>rw [ef] at h1; cases h1
  | some o=>
   rw [ef] at h1
   cases o with
   | none=>cases h1
   | some j=>
    have h1:some ((ρ[j]?).join.map fun m=>Slot.sh false m.val)=some (some (Slot.own x)):=h1
    cases er:ρ[j]? with
    | none=>rw [er] at h1; cases h1
    | some o=>
     rw [er] at h1
     cases o with
     | none=>cases h1
     | some m0=>cases h1
section
variable {X : Cx} {σ : St} {H : Hp} {Q' : VK}
noncomputable abbrev _root_.L2.Cx.frm (X:Cx) (H1:Hp):Cx:={ X with H₀:=H1 }
noncomputable def cS (ti:gB) (fr:List (Option Nat)) (p:k6) (tc:cY) (te:aH):aH:=fun ρ Q=>ti ρ fun xs g=>xs.length<=16000000/\∃ I:Nat->List PV->Prop,I 0 []/\
 (∀ i x acc,xs[i]? = some x->I i acc->p x false (nU fr ρ) fun ρ2=>tc ρ2 fun b=>if b=true then te ρ2 fun y gy=>Nw gy y/\I (i+1) (acc ++ [y]) else I (i+1) acc)/\∀ acc,I xs.length acc->Q (.lst acc) .fr
theorem nV {ti:gB}{fr:List (Option Nat)}{p:k6}{g:TG}{tc:cY}{te:aH}{own:Nat->Prop} (hg:nT X.K own p g) (ho:∀ i,own i->fr[i]? = some none) (h:LE X (cS ti fr p tc te) σ H Q') :
  w9 (LI X ti) fr (fun _=>g) (fun H1=>LT (X.frm H1) tc) (fun H1=>LE (X.frm H1) te) σ H Q':=by
 obtain ⟨W,ρ,Q,px,q,k⟩:=h
 refine⟨W,ρ,_,px,q,?_⟩
 rintro J H1 xs gb s it ⟨hl,I,i0,turn,fin⟩ D hD
 have px1:=px.mono s
 refine⟨fun i m acc H'=>m=xs.length - i/\i<=xs.length/\aG H1 H'/\H' D=some (.lst acc)/\∃ ys,Reps X.K (Ms H1 (mP D) true) H' acc ys/\ys.length<=i/\I i ys,⟨xs.length,by omega,br9 _,bP hD _,bN,[],.nil,bo7 _,i0⟩,?_⟩
 rintro i m acc H' ⟨rfl,hi,sm,ha,ys,ry,hy,iy⟩
 refine⟨ha,?_⟩
 have ev:Ev W H1 (nR W D) H':=Ev.own sm hD
 by_cases hlt:i < xs.length
 ·refine .inr ⟨it.go _ H' i ev hlt,fun v H2 y=>?_⟩
  obtain ⟨s2,x,hx,rx⟩:=it.yld _ H' i v H2 ev y hlt
  have ha2:=s2 _ _ ha
  have pxb:PX X.K H1 (mP D) (gY fr σ) (nU fr ρ) H2:=aH7 px1 hD (sm.trans s2) ha2
  have rx':aK X.K (Ms H1 (mP D) false) H2 v x:=rx.same (aG.refl _) fun a z=>by
   cases gb with
   | true=>exact fun e=>z.1 (.inr e)
   | false=>exact fun e=>z (.inr e)
  refine hg H1 (mP D) _ _ H2 v x false _ _ pxb rx' (turn i x ys hx iy) fun σ2 ρ2 px2 hown hlen q2=>⟨⟨hlen.symm,fun j w e=>?_⟩,?_⟩
  ·by_cases oj:own j
   ·have:=ho j oj
    unfold gY at e
    rw [bo8,this] at e
    cases e
   ·rw [hown j oj]; exact e
  ·refine⟨mP D,ρ2,_,px2,q2,fun b H4 s4 q4=>?_⟩
   have ha4:=s4 _ _ ha2
   have sm4:=(sm.trans s2).trans s4
   cases b with
   | false=>
    refine b8 ⟨xs.length - (i+1),by omega,rfl,hlt,sm4,ha4,ys,ry.same (s2.trans s4) fun _ z=>z,by omega,by simpa using q4⟩
   | true=>
    refine b9 ⟨mP D,ρ2,_,px2.mono s4,by simpa using q4,?_⟩
    rintro w H5 y gy s5 ryy ⟨nw,q5⟩
    have ha5:=s5 _ _ ha4
    have lr:=ry.length
    refine⟨ha5,iV (by omega),xs.length - (i+1),by omega,rfl,hlt,fun b o e=>?_,bN,ys ++ [y],?_,by rw [bo0,br1]; omega,q5⟩
    ·rw [aX (fun z=>by rw [z,hD] at e; cases e)]
     exact s5 _ _ (sm4 _ _ e)
    ·exact ((ry.same ((s2.trans s4).trans s5) fun _ z=>z).append (.cons (Nw.rep (px2.mono s4) nw ryy) .nil)).keep (.upd ha5 rfl fun b m=>⟨m.1,m⟩)
 ·have e:i=xs.length:=by omega
  subst e
  refine .inl ⟨it.stop _ H' ev,k _ H' _ .fr (s.trans sm) (.lst (s.free hD) ha (ry.same (aG.refl _) fun _ z=>s.free z.2)) (fin ys iy)⟩
noncomputable def e9:cY:=fun _ Q=>Q true
theorem aH8 {Qb:Bool->Hp->Prop} (h:LT X e9 σ H Qb):w5 σ H Qb:=by
 obtain ⟨W,ρ,Q,px,q,k⟩:=h
 exact k _ _ (aG.refl _) q
end
section
variable {κ : Type} [DecidableEq κ]
noncomputable def bV (ps:List (κ × PV)) (k:κ):Option PV:=(ps.find? fun p=>decide (p.1=k)).map (·.2)
noncomputable def dR (ps:List (κ × PV)) (k:κ) (x:PV):List (κ × PV):=if (ps.any fun p=>decide (p.1=k))=true then ps.map (fun p=>if p.1=k then (p.1,x) else p) else ps ++ [(k,x)]
variable {K : PySem.W.Frag} {M : Addr → Prop} {H : Hp}
theorem kT (k:κ):∀ {kvs:List (κ × V)}{ps:List (κ × PV)},kvs.map (·.1)=ps.map (·.1)->Reps K M H (kvs.map (·.2)) (ps.map (·.2))->(bV ps k=none->gO kvs k=none)/\∀ x,bV ps k=some x->∃ v,gO kvs k=some v/\aK K M H v x
 | [],[],_,_=>⟨fun _=>rfl,fun x h=>by cases h⟩
 | [],_ :: _,e,_=>by cases e
 | _ :: _,[],e,_=>by cases e
 | (k1,v) :: kvs,(k2,x) :: ps,e,r=>by
  injection e with e1 e2
  have e1:k1=k2:=e1
  subst e1
  cases r with
  | cons r t=>
   obtain ⟨h1,h2⟩:=kT k e2 t
   unfold bV gO at h1 h2 ⊢
   by_cases e:k1=k
   ·simp only [by3,e,decide_true,Option.map_some]
    exact⟨fun z=>(by cases z),fun y z=>(by cases z; exact⟨v,rfl,r⟩)⟩
   ·simp only [by3,e,decide_false]
    exact⟨h1,h2⟩
theorem aH9 (k:κ) {kvs:List (κ × V)}{ps:List (κ × PV)} (e:kvs.map (·.1)=ps.map (·.1)):(kvs.any fun p=>decide (p.1=k))=ps.any fun p=>decide (p.1=k):=by
 have h1:(kvs.any fun p=>decide (p.1=k))=(kvs.map (·.1)).any fun z=>decide (z=k):=by rw [List.any_map]; rfl
 have h2:(ps.any fun p=>decide (p.1=k))=(ps.map (·.1)).any fun z=>decide (z=k):=by rw [List.any_map]; rfl
 rw [h1,h2,e]
theorem T0 (k:κ) {w:V}{y:PV} (q:aK K M H w y):∀ {kvs:List (κ × V)}{ps:List (κ × PV)},kvs.map (·.1)=ps.map (·.1)->Reps K M H (kvs.map (·.2)) (ps.map (·.2))->
  (kvs.map fun kv=>if kv.1=k then (kv.1,w) else kv).map (·.1)=(ps.map fun kv=>if kv.1=k then (kv.1,y) else kv).map (·.1)/\Reps K M H ((kvs.map fun kv=>if kv.1=k then (kv.1,w) else kv).map (·.2)) ((ps.map fun kv=>if kv.1=k then (kv.1,y) else kv).map (·.2))
 | [],[],_,_=>⟨rfl,.nil⟩
 | [],_ :: _,e,_=>by cases e
 | _ :: _,[],e,_=>by cases e
 | (k1,v) :: kvs,(k2,x) :: ps,e,r=>by
  injection e with e1 e2
  have e1:k1=k2:=e1
  subst e1
  cases r with
  | cons r t=>
   obtain ⟨h1,h2⟩:=T0 k q e2 t
   by_cases e:k1=k
   ·simp only [bs8,e,if_true]
    exact⟨by rw [h1],.cons q h2⟩
   ·simp only [bs8,e,bv1]
    exact⟨by rw [h1],.cons r h2⟩
theorem T1 (k:κ) {w:V}{y:PV} (q:aK K M H w y) {kvs:List (κ × V)}{ps:List (κ × PV)} (e:kvs.map (·.1)=ps.map (·.1)) (r:Reps K M H (kvs.map (·.2)) (ps.map (·.2))) :
  (fA kvs k w).map (·.1)=(dR ps k y).map (·.1)/\Reps K M H ((fA kvs k w).map (·.2)) ((dR ps k y).map (·.2)):=by
 unfold fA dR
 rw [aH9 k e]
 split
 ·exact T0 k q e r
 ·rw [bp1,bp1,bp1,bp1,e]
  exact⟨rfl,r.append (.cons q .nil)⟩
end
noncomputable def kP:aE->PV
 | .inl i=>.int i
 | .inr x=>.str x
theorem xC {K:PySem.W.Frag}{M:Addr->Prop}{H:Hp}{v:V}{k:aE} (r:aK K M H v (kP k)):v=kV k:=by
 cases k with
 | inl i=>cases r; rfl
 | inr x=>cases r; rfl
theorem T4 {K:PySem.W.Frag}{M:Addr->Prop}{H:Hp}:∀ {ks:List aE}{us:List V},Reps K M H us (ks.map kP)->us=ks.map kV
 | [],_,.nil=>rfl
 | k :: r,_,.cons q t=>by rw [xC q,T4 t]; rfl
noncomputable def T5:PV->PV
 | .fK ps=>.dK ps
 | .fT ps=>.dT ps
 | x=>x
noncomputable def T6 (x y:PV) (o:Option PV):Prop:=(∃ ps k,T5 x = .dK ps/\y=kP k/\o=bV ps k) ∨ (∃ ps k,T5 x = .dT ps/\y = .tup (k.map kP)/\o=bV ps k)
theorem xE {K:PySem.W.Frag}{M M2:Addr->Prop}{H:Hp}{v w:V}{x y:PV}{o:Option PV} (h:T6 x y o) (rx:aK K M H v x) (ry:aK K M2 H w y):∃ a o',v = .ref a/\iA H a w o'/\(o=none->o'=none)/\∀ z,o=some z->∃ u,o'=some u/\aK K M H u z:=by
 rcases h with ⟨ps,k,ex,rfl,rfl⟩ | ⟨ps,k,ex,rfl,rfl⟩
 ·obtain rfl:=xC ry
  cases rx with
  | dK m h e r=>cases ex; exact⟨_,_,rfl,iA.k h,(kT k e r).1,(kT k e r).2⟩
  | fK h e r=>cases ex; exact⟨_,_,rfl,.inl ⟨_,k,.inr ⟨_,h⟩,rfl,rfl⟩,(kT k e r).1,(kT k e r).2⟩
  | _=>cases ex
 ·obtain ⟨b,us,rfl,hb,rb⟩:=ry.sqT
  obtain rfl:=T4 rb
  cases rx with
  | dT m h e r=>cases ex; exact⟨_,_,rfl,iA.t h hb,(kT k e r).1,(kT k e r).2⟩
  | fT h e r=>cases ex; exact⟨_,_,rfl,.inr ⟨_,k,b,.inr ⟨_,h⟩,rfl,hb,rfl⟩,(kT k e r).1,(kT k e r).2⟩
  | _=>cases ex
section
variable {X : Cx} {σ : St} {H : Hp} {D : cM} {tk td te : aH} {Q' : VK}
noncomputable def j3 (neg:Bool) (tk td:aH):aH:=fun ρ Q=>tk ρ fun y _=>td ρ fun x _=>∃ o,T6 x y o/\Q (.bl (if neg=true then !o.isSome else o.isSome)) .fr
theorem T7 {α β:Type}{o:Option α}{o':Option β}{P:β->α->Prop} (h1:o=none->o'=none) (h2:∀ z,o=some z->∃ u,o'=some u/\P u z):o'.isSome=o.isSome:=by
 cases o with
 | none=>rw [h1 rfl]; rfl
 | some z=>obtain ⟨u,e,_⟩:=h2 z rfl; rw [e]; rfl
theorem aI0 (h:LE X (j3 false tk td) σ H Q'):L7 (LE X tk) (LE X td) σ H Q':=by
 obtain ⟨W,ρ,Q,px,q,k⟩:=h
 refine⟨W,ρ,_,px,q,fun w H1 y g s r q=>⟨W,ρ,_,px.mono s,q,?_⟩⟩
 rintro v H2 x g' s2 r2 ⟨o,ak,q⟩
 obtain ⟨a,o',rfl,dg,h1,h2⟩:=xE ak r2 (r.same s2 fun _ z=>z)
 refine⟨a,o',rfl,dg,?_⟩
 rw [T7 h1 h2]
 exact k _ _ _ .fr (s.trans s2) (.bl _) q
theorem T8 (h:LE X (j3 true tk td) σ H Q'):L8 (LE X tk) (LE X td) σ H Q':=by
 obtain ⟨W,ρ,Q,px,q,k⟩:=h
 refine⟨W,ρ,_,px,q,fun w H1 y g s r q=>⟨W,ρ,_,px.mono s,q,?_⟩⟩
 rintro v H2 x g' s2 r2 ⟨o,ak,q⟩
 obtain ⟨a,o',rfl,dg,h1,h2⟩:=xE ak r2 (r.same s2 fun _ z=>z)
 refine⟨a,o',rfl,dg,?_⟩
 rw [T7 h1 h2]
 exact k _ _ _ .fr (s.trans s2) (.bl _) q
theorem PX.updD {K:PySem.W.Frag}{H0:Hp}{W:Addr->Prop}{σ:St}{ρ:bQ}{H:Hp}{i:Nat}{a:Addr}{x:PV}{kvs:List (aE × V)}{ps:List (aE × PV)} (p:PX K H0 W σ ρ H) (hi:ρ[i]? = some (some (.own x))) (ha:σ[i]? = some (some (.ref a))) (wa:W a)
  (r:kvs.map (·.1)=ps.map (·.1)/\Reps K (Ms H0 W true) (upd H a (.dK kvs)) (kvs.map (·.2)) (ps.map (·.2))):PX K H0 W σ (ρ.set i (some (.own (.dK ps)))) (upd H a (.dK kvs)):=p.updOwn hi ha wa rfl (y:=.dK ps) ⟨kvs,bN,r⟩
theorem xF {κ α β:Type}{l:List (κ × α)}{m:List (κ × β)} (e:l.map (·.1)=m.map (·.1)):l.length=m.length:=by
 have:=congrArg List.length e
 rw [bn7,bn7] at this
 exact this
noncomputable def mQ (i:Nat) (tk te:aH):aI:=fun D ρ=>te ρ fun z g=>∃ ps,ρ[i]? = some (some (.own (.dK ps)))/\tk ρ fun y _=>∃ k,y=kP k/\Nw g z/\ps.length < 16000000/\D.nx (ρ.set i (some (.own (.dK (dR ps k z)))))
theorem aI1 {i:Nat} (h:LS X (mQ i tk te) D σ H):L9 (j8 i) (LE X tk) (LE X te) D σ H:=by
 obtain ⟨W,ρ,D',px,q,k⟩:=h
 refine⟨W,ρ,_,px,q,?_⟩
 rintro w H1 z g s rz ⟨ps,hi,q⟩
 obtain ⟨v,ev,a,rfl,wa,kvs,ea,e1,r⟩:=(px.mono s).sl i _ hi
 refine⟨_,ev,W,ρ,_,px.mono s,q,?_⟩
 rintro kv H2 y g' s2 ry ⟨kk,rfl,nw,hl,q⟩
 obtain rfl:=xC ry
 have ea2:=s2 _ _ ea
 refine⟨a,_,rfl,pL.k ea2 (iV (by rw [xF e1]; omega)),?_⟩
 refine k.nx W σ _ _ ((Ev.same (s.trans s2)).trans (Ev.upd wa)) ((px.mono (s.trans s2)).updD hi ev wa ?_) q
 obtain ⟨h1,h2⟩:=T1 kk ((Nw.rep px nw rz).same s2 fun _ z=>z) e1 (r.same s2 fun _ z=>z)
 exact⟨h1,h2.keep (.upd ea2 rfl fun b m=>⟨lO wa m,m⟩)⟩
theorem aI2 (h:LE X (qC (.dK [])) σ H Q'):M4 σ H Q':=by
 obtain ⟨W,ρ,Q,px,q,k⟩:=h
 exact fun p hp=>k _ _ _ .fr (bP hp _) (.dK hp bN rfl .nil) q
noncomputable def j4 (ps more:List (aE × PV)):List (aE × PV):=more.foldl (fun acc kv=>dR acc kv.1 kv.2) ps
theorem T9 {K:PySem.W.Frag}{M:Addr->Prop}{H:Hp}:∀ {more:List (aE × V)}{mp:List (aE × PV)}{kvs:List (aE × V)}{ps:List (aE × PV)},more.map (·.1)=mp.map (·.1)->Reps K M H (more.map (·.2)) (mp.map (·.2))->kvs.map (·.1)=ps.map (·.1)->Reps K M H (kvs.map (·.2)) (ps.map (·.2))->
  (jW kvs more).map (·.1)=(j4 ps mp).map (·.1)/\Reps K M H ((jW kvs more).map (·.2)) ((j4 ps mp).map (·.2))
 | [],[],_,_,_,_,e,r=>⟨e,r⟩
 | [],_ :: _,_,_,e,_,_,_=>by cases e
 | _ :: _,[],_,_,e,_,_,_=>by cases e
 | (k1,v) :: more,(k2,x) :: mp,kvs,ps,e,r,e',r'=>by
  injection e with e1 e2
  have e1:k1=k2:=e1
  subst e1
  cases r with
  | cons q t=>
   obtain ⟨h1,h2⟩:=T1 k1 q e' r'
   exact T9 (more:=more) (mp:=mp) e2 t h1 h2
noncomputable def sQ (i:Nat) (te:aH):aI:=fun D ρ=>∃ ps,ρ[i]? = some (some (.own (.dK ps)))/\te ρ fun y g=>∃ mp,y = .dK mp/\(g = .fr ∨ (g = .nw/\False))/\ps.length+mp.length<=16000000/\D.nx (ρ.set i (some (.own (.dK (j4 ps mp)))))
theorem aI3 {i:Nat} (h:LS X (sQ i te) D σ H):oW (Q9 (j8 i) (LE X te)) D σ H:=by
 obtain ⟨W,ρ,D',px,⟨ps,hi,q⟩,k⟩:=h
 obtain ⟨v,ev,a,rfl,wa,kvs,ea,e1,r⟩:=px.sl i _ hi
 refine⟨_,ev,a,rfl,.inl ⟨kvs,.inl ea⟩,W,ρ,_,px,q,?_⟩
 rintro w H1 y g s ry ⟨mp,rfl,hg,hl,q⟩
 rcases hg with rfl | ⟨_,z⟩
 ·cases ry with
  | @dK b more _ m hb e2 rb=>
   have hab:a ≠ b:=fun z=>by subst z; rw [show H a=none from m] at ea; cases ea
   have ea1:=s _ _ ea
   refine⟨b,kvs,more,rfl,hab,ea1,hb,lim (by rw [xF e1,xF e2]; exact hl),?_⟩
   refine k.nx W σ _ _ ((Ev.same s).trans (Ev.upd wa)) ((px.mono s).updD hi ev wa ?_) q
   obtain ⟨h1,h2⟩:=T9 e2 (rb.same (M':=Ms X.H₀ W true) (aG.refl _) fun _ z=>px.new z) e1 (r.same s fun _ z=>z)
   exact⟨h1,h2.keep (.upd ea1 rfl fun b m=>⟨lO wa m,m⟩)⟩
 ·exact z.elim
end
noncomputable def dE:Nat->PV->PV->Bool
 | _,.non,.non=>true
 | _,.bl a,.bl b=>a == b
 | _,.int a,.int b=>a == b
 | _,.str a,.str b=>a == b
 | n+1,.tup xs,.tup ys=>(xs.zip ys).all (fun p=>dE n p.1 p.2) && xs.length == ys.length
 | n+1,.lst xs,.lst ys=>(xs.zip ys).all (fun p=>dE n p.1 p.2) && xs.length == ys.length
 | n+1,.kt xs,.kt ys=>(xs.zip ys).all (fun p=>dE n p.1 p.2) && xs.length == ys.length
 | _,_,_=>false
noncomputable def gD:Nat->PV->PV->Bool
 | _,.non,.non=>true
 | _,.bl _,.bl _=>true
 | _,.int _,.int _=>true
 | _,.str _,.str _=>true
 | _,.non,.int _=>true
 | _,.int _,.non=>true
 | n+1,.tup xs,.tup ys=>(xs.zip ys).all (fun p=>gD n p.1 p.2)
 | n+1,.lst xs,.lst ys=>(xs.zip ys).all (fun p=>gD n p.1 p.2)
 | n+1,.kt xs,.kt ys=>(xs.zip ys).all (fun p=>gD n p.1 p.2)
 | _+1,.non,.tup _=>true
 | _+1,.tup _,.non=>true
 | _,_,_=>false
theorem aI4 (n:Nat) (a b:Int):dE n (.int a) (.int b)=(a == b):=by cases n <;> rfl
theorem U0 (n:Nat):∀ (a b:List Int),((((intz a).zip (intz b)).all fun p=>dE n p.1 p.2) && (intz a).length == (intz b).length)=decide (a=b)
 | [],[]=>rfl
 | [],_ :: _=>by simp
 | _ :: _,[]=>by simp
 | x :: a,y :: b=>by
  have ih:=U0 n a b
  simp only [bs8,List.zip_cons_cons,bB8,bp8,aI4] at ih ⊢
  by_cases e:x=y
  ·subst e
   have:((intz a).length+1 == (intz b).length+1)=((intz a).length == (intz b).length):=by simp
   rw [this,bw3,Bool.true_and,ih]
   simp
  ·have:(x == y)=false:=beq_eq_false_iff_ne.mpr e
   rw [this,Bool.false_and,Bool.false_and]
   simp [e]
theorem aI5 (n:Nat) (a b:List Int):dE (n+1) (.tup (intz a)) (.tup (intz b))=decide (a=b):=U0 n a b
theorem U1 (n:Nat):∀ (a b:List Int),(((intz a).zip (intz b)).all fun p=>gD n p.1 p.2)=true
 | [],_=>by simp
 | _ :: _,[]=>by simp
 | x :: a,y :: b=>by
  simp only [bs8,List.zip_cons_cons,bB8,U1 n a b,bB9]
  cases n <;> rfl
theorem aI6 (n:Nat) (a b:List Int):gD (n+1) (.tup (intz a)) (.tup (intz b))=true:=U1 n a b
noncomputable def nW (ta:aH):aH:=fun ρ Q=>ta ρ fun x _=>∃ i,x = .int i/\Q (.int (-i)) .fr
noncomputable def pZ (neg:Bool):PV->Tg->PV->Tg->PK->Prop:=fun x _ y _ Q=>∃ i ns,x = .int i/\lP y=some (intz ns)/\Q (.bl (if neg=true then !decide (i ∈ ns) else decide (i ∈ ns))) .fr
noncomputable def U2:PV->Option String
 | .non=>some "NoneType"
 | .bl _=>some "bool"
 | .int _=>some "int"
 | .str _=>some "str"
 | .tup _=>some "tuple"
 | .kt _=>some "tuple"
 | .lst _=>some "list"
 | _=>none
noncomputable def mR (K:PySem.W.Frag) (n:String) (te:aH):aH:=fun ρ Q=>te ρ fun x _=>∃ T b,U2 x=some T/\PySem.W.kitOne K (.type T) (.type n)=some b/\Q (.bl b) .fr
noncomputable def qA (n:Nat) (neg:Bool):PV->Tg->PV->Tg->PK->Prop:=fun x _ y _ Q=>((∃ xs ys,x = .tup xs/\y = .tup ys) ∨ (∃ xs ys,x = .lst xs/\y = .lst ys))/\gD (n+1) x y=true/\Q (.bl (if neg=true then !dE (n+1) x y else dE (n+1) x y)) .fr
noncomputable abbrev nX:=bQ->(Option Int->Prop)->Prop
noncomputable def fC (xs:List PV) (lo hi:Option Int):List PV:=(xs.drop (HT.bB xs.length 0 lo)).take (HT.bB xs.length xs.length hi - HT.bB xs.length 0 lo)
noncomputable def aI7:PV->List PV->PV
 | .tup _,ys=>.tup ys
 | .kt _,ys=>.tup ys
 | _,ys=>.lst ys
noncomputable def hJ:nX:=fun _ Q=>Q none
noncomputable def fD (te:aH):nX:=fun ρ Q=>te ρ fun x _=>∃ i,x = .int i/\Q (some i)
noncomputable def gE (te:aH) (tl th:nX):aH:=fun ρ Q=>te ρ fun x _=>tl ρ fun lo=>th ρ fun hi=>∃ xs,seqT x=some xs/\flats xs=true/\Q (aI7 x (fC xs lo hi)) .fr
noncomputable def hV (N:List Str) (xs:List PV):bQ:=xs.map (fun x=>some (.sh (flat x) x)) ++ List.replicate (N.length - xs.length) none
noncomputable abbrev cA (ta tb:aH):aH:=q2 (fB fun i j=>.int (i+j)) ta tb
noncomputable abbrev lQ (ta tb:aH):aH:=q2 (fB fun i j=>.int (i - j)) ta tb
noncomputable abbrev qB (ta tb:aH):aH:=q2 (RI p6 fun i j=>.int (i * j)) ta tb
noncomputable abbrev eF (ta tb:aH):aH:=q2 (RI v8 fun i j=>.int (i / j)) ta tb
noncomputable abbrev bW (ta tb:aH):aH:=q2 (RI (fun _ j=>0 < j) fun i j=>.int (i % j)) ta tb
noncomputable abbrev aI8 (ta tb:aH):aH:=q2 (RI v9 fun i j=>.int (i ^ j.toNat)) ta tb
noncomputable abbrev aI9 (ta tb:aH):aH:=q2 (RI (fun _ j=>0<=j) fun i j=>.int (i / 2 ^ j.toNat)) ta tb
noncomputable abbrev qD (ta tb:aH):aH:=q2 (fB fun i j=>.bl (decide (i < j))) ta tb
noncomputable abbrev qLe (ta tb:aH):aH:=q2 (fB fun i j=>.bl (decide (i<=j))) ta tb
noncomputable abbrev jI (ta tb:aH):aH:=q2 (fB fun i j=>.bl (decide (j < i))) ta tb
noncomputable abbrev qE (ta tb:aH):aH:=q2 (fB fun i j=>.bl (decide (j<=i))) ta tb
noncomputable abbrev dA (ta tb:aH):aH:=q2 (mL false) ta tb
noncomputable abbrev xG (ta tb:aH):aH:=q2 (mL true) ta tb
noncomputable abbrev aJ0 (ta tb:aH):aH:=q2 (xA true) ta tb
noncomputable abbrev bE (ta tb:aH):aH:=q2 x4 ta tb
noncomputable def eS:List PV->(PV->Prop)->Prop:=fun xs Q=>S5 xs Q/\∀ ns,xs ≠ [.scr ns]
noncomputable def U3:aI:=fun _ _=>False
noncomputable def QE (X:Cx) (e:Expr) (t:aH):Prop:=PE X e (LE X t)
noncomputable def QT (X:Cx) (e:Expr) (t:cY):Prop:=PT X e (LT X t)
noncomputable def QW (X:Cx) (e:Expr) (t:cY):Prop:=PW X e (LT X t)
noncomputable def QA (X:Cx) (es:List Expr) (t:dI):Prop:=PA X es (LA X t)
noncomputable def QS (X:Cx) (st:Stmt) (t:aI):Prop:=PS X st (LS X t)
noncomputable def gF (X:Cx) (st:List Stmt) (t:aI):Prop:=eO X st (LS X t)
noncomputable def QI (X:Cx) (tg iter:Expr) (t:gB):Prop:=PI X tg iter (LI X t)
section
variable {X : Cx}
theorem cN {e:Expr}{t t':TE} (h:PE X e t) (m:∀ σ H Q,t' σ H Q->t σ H Q):PE X e t':=fun pins s σ H Q I q=>h pins s σ H Q I (m σ H Q q)
theorem nY {e:Expr}{t t':TT} (h:PT X e t) (m:∀ σ H Q,t' σ H Q->t σ H Q):PT X e t':=fun pins s σ H Q I q=>h pins s σ H Q I (m σ H Q q)
theorem U4 {e:Expr}{t t':TT} (h:PW X e t) (m:∀ σ H Q,t' σ H Q->t σ H Q):PW X e t':=fun wh pins s σ H Q I q=>h wh pins s σ H Q I (m σ H Q q)
theorem U5 {e:List Expr}{t t':TA} (h:PA X e t) (m:∀ σ H Q,t' σ H Q->t σ H Q):PA X e t':=fun pos pins s σ H Q I q=>h pos pins s σ H Q I (m σ H Q q)
theorem dS {e:Stmt}{t t':TS} (h:PS X e t) (m:∀ D σ H,t' D σ H->t D σ H):PS X e t':=fun pins s σ H D I q=>h pins s σ H D I (m D σ H q)
theorem xH {e:List Stmt}{t t':TS} (h:eO X e t) (m:∀ D σ H,t' D σ H->t D σ H):eO X e t':=fun pins s σ H D I q=>h pins s σ H D I (m D σ H q)
theorem qF {tg e:Expr}{t t':TI} (h:PI X tg e t) (m:∀ σ H R,t' σ H R->t σ H R):PI X tg e t':=fun pins s σ H R I q=>h pins s σ H R I (m σ H R q)
variable {a b c e o : Expr} {es dH : List Expr} {ta tb te to tk : aH} {tr : dI} {tA tB' tc : cY} {pos p2 px : Pos} {st : Stmt} {sts : List Stmt} {t u : aI}
theorem qv (i:Nat) {x:Str}{pos:Pos} (hN:X.N[i]? = some x:=by rfl) (hv:i9 X.env.scope x:=by first | exact Or.inl rfl | exact Or.inr (Or.inl rfl) | exact Or.inr (Or.inr rfl)) (hd:(x == ("__debug__" : Str))=false:=by decide)
  (hcd:(x == ("__classdict__" : Str))=false:=by decide):QE X (.Name x pos) (a5 i):=cN (jT hN hv hd hcd) fun _ _ _=>aD8
theorem aC {i j}:QE X (.Constant (.int i) j pos) (qC (.int i)):=cN m9 fun _ _ _=>sH fun _=>.int i
theorem dL {i j}:QE X (.Constant (.bool i) j pos) (qC (.bl i)):=cN B7 fun _ _ _=>sH fun _=>.bl i
theorem sR {j}:QE X (.Constant .none j pos) (qC .non):=cN ap4 fun _ _ _=>sH fun _=>.non
theorem xI {i j}:QE X (.Constant (.str i) j pos) (qC (.str i)):=cN ap5 fun _ _ _=>sH fun _=>.str i
theorem k7 {op:Operator}{R:PV->Tg->PV->Tg->PK->Prop}{r:R2} (ho:cF X (binaryOp op) r) (cv:g9 X R r) (ha:QE X a ta) (hb:QE X b tb):QE X (.BinOp a op b pos) (q2 R ta tb):=cN (as1 ho ha hb) fun _ _ _=>sI cv
theorem cO (ha:QE X a ta) (hb:QE X b tb):QE X (.BinOp a .Add b pos) (q2 (fB fun i j=>.int (i+j)) ta tb):=k7 as4 wT ha hb
theorem mS (ha:QE X a ta) (hb:QE X b tb):QE X (.BinOp a .Sub b pos) (q2 (fB fun i j=>.int (i - j)) ta tb):=k7 as5 wT ha hb
theorem qG (ha:QE X a ta) (hb:QE X b tb):QE X (.BinOp a .Mult b pos) (q2 (RI p6 fun i j=>.int (i * j)) ta tb):=k7 as6 pS ha hb
theorem gG (ha:QE X a ta) (hb:QE X b tb):QE X (.BinOp a .FloorDiv b pos) (q2 (RI v8 fun i j=>.int (i / j)) ta tb):=k7 as7 pS ha hb
theorem cI (ha:QE X a ta) (hb:QE X b tb):QE X (.BinOp a .Mod b pos) (q2 (RI (fun _ j=>0 < j) fun i j=>.int (i % j)) ta tb):=k7 as8 pS ha hb
theorem aJ1 (ha:QE X a ta) (hb:QE X b tb):QE X (.BinOp a .Pow b pos) (q2 (RI v9 fun i j=>.int (i ^ j.toNat)) ta tb):=k7 as9 pS ha hb
theorem aJ2 (ha:QE X a ta) (hb:QE X b tb):QE X (.BinOp a .RShift b pos) (q2 (RI (fun _ j=>0<=j) fun i j=>.int (i / 2 ^ j.toNat)) ta tb):=k7 at2 pS ha hb
theorem qH {op:CmpOp}{R:PV->Tg->PV->Tg->PK->Prop}{r:R2} (ho:cF X (compareOp op) r) (cv:g9 X R r) (ha:QE X a ta) (hb:QE X b tb) (hm:behindInMarks op b=false):QE X (.Compare a [op] [b] pos) (q2 R ta tb):=cN (vB ho ha hb hm) fun _ _ _=>sI cv
theorem k8 {op:CmpOp}{R:PV->Tg->PV->Tg->PK->Prop}{r:R2} (ho:cF X (compareOp op) r) (cv:g9 X R r) (ha:QE X a ta) (hb:QE X b tb) (hm:behindInMarks op b=false):QT X (.Compare a [op] [b] pos) (aT (q2 R ta tb)):=nY (at9 ho ha hb hm) fun _ _ _ h=>sI cv (sJ h)
theorem aJ3 (ha:QE X a ta) (hb:QE X b tb):QE X (.Compare a [.Lt] [b] pos) (q2 (fB fun i j=>.bl (decide (i < j))) ta tb):=qH rL nP ha hb (gL _)
theorem U6 (ha:QE X a ta) (hb:QE X b tb):QE X (.Compare a [.GtE] [b] pos) (q2 (fB fun i j=>.bl (decide (j<=i))) ta tb):=qH F8 nP ha hb (gL _)
theorem qI (ha:QE X a ta) (hb:QE X b tb):QE X (.Compare a [.Eq] [b] pos) (q2 (mL false) ta tb):=qH F6 R8 ha hb (gL _)
theorem sS (ha:QE X a ta) (hb:QE X b tb):QT X (.Compare a [.Lt] [b] pos) (aT (q2 (fB fun i j=>.bl (decide (i < j))) ta tb)):=k8 rL nP ha hb (gL _)
theorem aJ4 (ha:QE X a ta) (hb:QE X b tb):QT X (.Compare a [.LtE] [b] pos) (aT (q2 (fB fun i j=>.bl (decide (i<=j))) ta tb)):=k8 at5 nP ha hb (gL _)
theorem qJ (ha:QE X a ta) (hb:QE X b tb):QT X (.Compare a [.Gt] [b] pos) (aT (q2 (fB fun i j=>.bl (decide (j < i))) ta tb)):=k8 at6 nP ha hb (gL _)
theorem xJ (ha:QE X a ta) (hb:QE X b tb):QT X (.Compare a [.GtE] [b] pos) (aT (q2 (fB fun i j=>.bl (decide (j<=i))) ta tb)):=k8 F8 nP ha hb (gL _)
theorem gH (ha:QE X a ta) (hb:QE X b tb):QT X (.Compare a [.Eq] [b] pos) (aT (q2 (mL false) ta tb)):=k8 F6 R8 ha hb (gL _)
theorem xK (ha:QE X a ta) (hb:QE X b tb):QT X (.Compare a [.NotEq] [b] pos) (aT (q2 (mL true) ta tb)):=k8 F7 aD9 ha hb (gL _)
theorem aJ5 (ha:QE X a ta) (hb:QE X b tb):QT X (.Compare a [.IsNot] [b] pos) (aT (q2 (xA true) ta tb)):=k8 at7 aH2 ha hb (gL _)
theorem xN (hu:X.A.units+1 < cLine) (hk:QE X a tk) (hd:QE X b te) (hm:behindInMarks .In b=false:=by rfl):QT X (.Compare a [.In] [b] pos) (aT (j3 false tk te)):=nY (B9 (ay7 hu hk hd) hm) fun _ _ _ h=>aI0 (sJ h)
theorem xO (hu:X.A.units+1 < cLine) (hk:QE X a tk) (hd:QE X b te) (hm:behindInMarks .NotIn b=false:=by rfl):QT X (.Compare a [.NotIn] [b] pos) (aT (j3 true tk te)):=nY (B9 (M0 hu hk hd) hm) fun _ _ _ h=>T8 (sJ h)
theorem aJ6 (hu:X.A.units+1 < cLine) (hk:QE X a tk) (hd:QE X b te) (hm:behindInMarks .NotIn b=false:=by rfl):QE X (.Compare a [.NotIn] [b] pos) (j3 true tk te):=cN (ap7 (M0 hu hk hd) hm) fun _ _ _ h=>T8 h
theorem fE (h:QE X e te) (he:∀ whole,isTrue e X.env whole=(do let v <- whole; standAt e.pos; holding [v] (truthy v)):=by intro _; rfl):QT X e (aT te):=nY (ap8 h he) fun _ _ _ h=>sJ h
theorem lR (h:QE X e te) (he:∀ whole,isTrue e X.env whole=(do let v <- whole; standAt e.pos; holding [v] (truthy v)):=by intro _; rfl):QT X e (jZ te):=nY (au2 h he) fun _ _ _ h=>aH0 h
theorem xP (ha:QT X a tA):QW X (.BoolOp .And [a] pos) tA:=ap9 ha
theorem lS (ha:QT X a tA):QW X (.BoolOp .Or [a] pos) tA:=aq0 ha
theorem xQ (ha:QT X a tA) (hb:QW X (.BoolOp .And (b :: dH) pos) tB'):QW X (.BoolOp .And (a :: b :: dH) pos) (kR tA tB'):=U4 (aq1 ha hb) fun _ _ _=>aE0
theorem iE (ha:QT X a tA) (hb:QW X (.BoolOp .Or (b :: dH) pos) tB'):QW X (.BoolOp .Or (a :: b :: dH) pos) (gP tA tB'):=U4 (aq2 ha hb) fun _ _ _=>aE1
theorem jJ (h:QW X e tA):QT X e tA:=PW.pt h
theorem fN (ha:QT X a tA):QT X (.UnaryOp .Not a pos) (eQ tA):=nY (aq3 ha) fun _ _ _=>aE2
theorem sT {op} (h:QE X a ta):QE X (.BoolOp op [a] pos) ta:=aq4 h
theorem sV (ha:QE X a ta) (hb:QE X (.BoolOp .And (b :: dH) pos) tb):QE X (.BoolOp .And (a :: b :: dH) pos) (nQ ta tb):=cN (aq5 ha hb) fun _ _ _=>aE3
theorem aJ7 (ha:QE X a ta):QE X (.UnaryOp .Not a pos) (wU ta):=cN (aq6 ha) fun _ _ _=>aE4
theorem aA:QA X [] a9:=U5 dP fun _ _ _=>aE5
theorem a7 (ha:QE X e te) (hr:QA X es tr) (hs:starEach (e :: es) X.env=(false,eval e X.env) :: starEach es X.env:=by rfl):QA X (e :: es) (a6 te tr):=U5 (cW ha hr hs) fun _ _ _=>aE6
theorem cT {x1} (h:QA X es tr):QE X (.Tuple es x1 pos) (c7 tr):=cN (au8 h) fun _ _ _=>aE7
theorem gI (h:QA X es tr):QE X (.List es pos) (eR tr):=cN (vF h) fun _ _ _=>aE8
theorem bG (ha:QE X a ta) (hb:QE X b tb) (hs:J4 b:=by exact fun _ _=>rfl):QE X (.Subscript a b pos) (q2 x4 ta tb):=cN (kK aw5 ha hb hs) fun _ _ _=>sI aG1
theorem qK:QE X (.Dict [] [] pos) (qC (.dK [])):=cN ay9 fun _ _ _=>aI2
theorem kU {x:Str}{id:String}{R:List PV->(PV->Prop)->Prop}{r:List V->Hp->VK->Prop} (hc:dN X (.builtin id) r) (cv:iD X R r) (hg:Gl X x) (hm:X.mg x=none) (hv:bootBuiltins x=some (.builtin id)) (ha:QA X (e :: es) tr) (hn:x ≠ "__name__":=by decide) (hdb:(x == ("__debug__" : Str))=false:=by decide)
  (he:starEach (e :: es) X.env=(false,eval e X.env) :: starEach es X.env:=by rfl) (hpl:(backTo pos (starEach es X.env)).any (·.1)=false:=by rfl):QE X (.Call (.Name x p2) (e :: es) [] pos) (aB R tr):=cN (pB hc hg hm hv ha hn hdb he hpl) fun _ _ _=>R9 cv
theorem aJ8 {x:Str}{T:String}{R:List PV->(PV->Prop)->Prop}{r:List V->Hp->VK->Prop} (hc:dN X (.type T) r) (cv:iD X R r) (hg:Gl X x) (hm:X.mg x=none) (hv:bootBuiltins x=some (.type T)) (ha:QA X (e :: es) tr) (hn:x ≠ "__name__":=by decide) (hdb:(x == ("__debug__" : Str))=false:=by decide)
  (he:starEach (e :: es) X.env=(false,eval e X.env) :: starEach es X.env:=by rfl) (hpl:(backTo pos (starEach es X.env)).any (·.1)=false:=by rfl):QE X (.Call (.Name x p2) (e :: es) [] pos) (aB R tr):=cN (G8 hc hg hm hv ha hn hdb he hpl) fun _ _ _=>R9 cv
theorem cB:gF X [] bR:=xH aq8 fun _ _ _=>aE9
theorem aF (h1:QS X st t) (h2:gF X sts u):gF X (st :: sts) (aD t u):=xH (mC h1 h2) fun _ _ _=>aF0
theorem aJ (h1:QS X st t):gF X [st] t:=mD h1
theorem aJ9:QS X st U3:=dS ar1 fun _ _ _ ⟨_,_,_,_,h,_⟩=>h
theorem bC {i:Nat}{x:Str} (hN:X.N.Nodup) (he:QE X e te) (hi:X.N[i]? = some x:=by rfl) (hx:iP X.env.scope x:=by first | exact Or.inl rfl | exact Or.inr rfl) (hs:swapsWith e (some (.Name x p2)) pos.line X.env=pure false:=by rfl) (hf:X.fn x=true ∨ X.env.scope.names.lookup x=some .local:=by first | exact .inl rfl | exact .inr rfl) :
  QS X (.Assign [.Name x p2] e pos) (b6 i te):=dS (uZ hN hi hx he hs hf) fun _ _ _=>x0
theorem dU {i:Nat}{x:Str} (hN:X.N.Nodup) (he:QE X e te) (hi:X.N[i]? = some x:=by rfl) (hx:iP X.env.scope x:=by first | exact Or.inl rfl | exact Or.inr rfl) (hs:swapsWith e (some (.Name x p2)) pos.line X.env=pure false:=by rfl) (hf:X.fn x=true ∨ X.env.scope.names.lookup x=some .local:=by first | exact .inl rfl | exact .inr rfl) :
  QS X (.Assign [.Name x p2] e pos) (cZ i te):=dS (uZ hN hi hx he hs hf) fun _ _ _=>S3
theorem U7 (i:Nat) (h:QS X st t):QS X st (sK i t):=dS h fun _ _ _=>aF2
theorem bH (he:QE X e te):QS X (.Return (some e) pos) (bF te):=dS (nD he) fun _ _ _=>aF3
theorem mT (i:Nat) {x:Str} (hN:X.N[i]? = some x:=by rfl) (hv:i9 X.env.scope x:=by first | exact Or.inl rfl | exact Or.inr (Or.inl rfl) | exact Or.inr (Or.inr rfl)) (hd:(x == ("__debug__" : Str))=false:=by decide) (hcd:(x == ("__classdict__" : Str))=false:=by decide) :
  QS X (.Return (some (.Name x p2)) pos) (kS i):=dS (nD (jT hN hv hd hcd)) fun _ _ _=>aF4
theorem c8 {sa sb:List Stmt} (hc:QT X c tc) (ha:gF X sa t) (hb:gF X sb u):QS X (.If c sa sb pos) (bL tc t u):=dS (aq9 hc ha hb) fun _ _ _=>aF5
theorem qL {body:List Stmt} (hp:PassesOwn (model X.prog X.w) X.A X.env X.xe) (hc:QT X c tc) (hb:gF X body t):QS X (.While c body [] pos) (mM tc t):=dS (ar3 hp hc hb) fun _ _ _=>aF6
theorem lT (i:Nat) {x:Str}{apos cpos xpos:Pos} (he:QE X e te) (hN:X.N[i]? = some x:=by rfl) (hv:i9 X.env.scope x:=by first | exact Or.inl rfl | exact Or.inr (Or.inl rfl) | exact Or.inr (Or.inr rfl)) (hd:(x == ("__debug__" : Str))=false:=by decide) (hcd:(x == ("__classdict__" : Str))=false:=by decide)
  (hbase:attributeBase (.Name x xpos) "append" X.env (eval (.Name x xpos) X.env)=eval (.Name x xpos) X.env:=by rfl)
  (hfew:((backTo cpos (starEach [e] X.env)).all (fun x=>!x.1) && (backToKw cpos (keywordEach [] X.env)).all (fun x=>x.1.isSome) && decide (([e]:List Expr).length+([]:List Keyword).length+(if ([]:List Keyword).isEmpty then 0 else 1) < 30))=true:=by rfl)
  (hline:(apos.endLine == cpos.line)=true:=by rfl) (hs:starEach [e] X.env=(false,eval e X.env) :: starEach [] X.env:=by rfl) (hplain:(backTo cpos (starEach [] X.env)).any (·.1)=false:=by rfl)
  (hsw:swapsWith (.Call (.Attribute (.Name x xpos) "append" apos) [e] [] cpos) none pos.line X.env=pure false:=by rfl) :
  QS X (.Expr (.Call (.Attribute (.Name x xpos) "append" apos) [e] [] cpos) pos) (iX i te):=
 dS (lC (mH bv6 bA1 bA2 nH (jT hN hv hd hcd) (cW he dP hs) hbase hfew hline hs hplain) hsw) fun _ _ _=>aF7
theorem qM {i:Nat}{x:Str}{xpos tpos:Pos} (hu:X.A.units+1 < cLine) (hk:QE X a tk) (he:QE X e te) (hN:X.N[i]? = some x:=by rfl) (hv:i9 X.env.scope x:=by first | exact Or.inl rfl | exact Or.inr (Or.inl rfl) | exact Or.inr (Or.inr rfl)) (hd:(x == ("__debug__" : Str))=false:=by decide) (hcd:(x == ("__classdict__" : Str))=false:=by decide)
  (hs:swapsWith e (some (.Subscript (.Name x xpos) a tpos)) pos.line X.env=pure false:=by rfl):QS X (.Assign [.Subscript (.Name x xpos) a tpos] e pos) (mQ i tk te):=dS (ay8 hu (jT hN hv hd hcd) hk he hs) fun _ _ _=>aI1
theorem aK0 {tg l:Expr}{tl:TE} (hl:PE X l tl):PI X tg l (S6 X.K tl):=by
 intro pins s σ H R I h
 refine aQ (hl pins s σ H _ I h) fun v s1 ⟨x,H1,I1,r1,q1⟩=>?_
 obtain ⟨a,e,q⟩:=q1
 subst e
 cases r1
 rcases q with ⟨xs,hq,q⟩ | ⟨xs,hq,q⟩
 ·obtain ⟨its,rv,p,hz⟩:=I1.list hq
  refine wpAny_pyIter_list p.isList ?_
  refine⟨s1.heap.objs.size,[s1.heap.objs.size],_,_,H1,rfl,I1.kept (t':=s1.toks) fun b o e=>bn6 _ e,ar4 a _,⟨_,bp7 _ rfl,rfl,rfl⟩,fun b hb=>?_,q⟩
  have e:b=s1.heap.objs.size:=by simpa using hb
  subst e
  exact I1.fpOk (bo7 _) (I1.hok.fresh (bo7 _))
 ·obtain ⟨its,rv,p,hz⟩:=I1.tuple hq
  refine bC1 (show s1.heap.IsTuple a its.toArray from p) ?_
  refine⟨s1.heap.objs.size,[s1.heap.objs.size],_,_,H1,rfl,I1.kept (t':=s1.toks) fun b o e=>bn6 _ e,E3 a _,⟨_,bp7 _ rfl,rfl,rfl⟩,fun b hb=>?_,q⟩
  have e:b=s1.heap.objs.size:=by simpa using hb
  subst e
  exact I1.fpOk (bo7 _) (I1.hok.fresh (bo7 _))
theorem dF {tg l:Expr} (hl:QE X l te):QI X tg l (cR te):=qF (aK0 hl) fun _ _ _=>aH3
theorem k9 {tg:Expr} (hg:Gl X "range") (hm:X.mg "range" = none) (ha:QE X a ta) (hs:starEach [a] X.env = [(false,eval a X.env)]:=by rfl):QI X tg (.Call (.Name "range" p2) [a] [] pos) (iY ta):=qF (ar7 hg hm (cW ha dP hs) hs) fun _ _ _=>aH4
theorem xR {tg:Expr} (hg:Gl X "range") (hm:X.mg "range" = none) (ha:QE X a ta) (hb:QE X b tb) (hs:starEach [a,b] X.env = [(false,eval a X.env),(false,eval b X.env)]:=by rfl) (hs2:starEach [b] X.env = [(false,eval b X.env)]:=by rfl) :
  QI X tg (.Call (.Name "range" p2) [a,b] [] pos) (pX ta tb):=qF (ar8 hg hm (cW ha (cW hb dP hs2) (by rw [hs,hs2])) hs hs2) fun _ _ _=>aH5
theorem U8 {tg:Expr}{body:List Stmt}{ti:gB}{p:k6}{g:TG}{own:Nat->Prop} (hp:PassesOwn (model X.prog X.w) X.A X.env X.xe) (hc:X.calm=true) (hi:QI X tg e ti) (hg:PG X tg g) (ht:nT X.K own p g) (hb:gF X body t)
  (hs:∀ x,foldedSetIterable e X.env x=pure x:=by intro _; rfl):QS X (.For tg e body [] pos) (dJ ti p t):=dS (v0 hp hc hi hg hb hs) fun _ _ _=>aH6 ht
end
section
variable {X : Cx} {pins : List (Addr × Obj)} {σ : St} {H : Hp} {s : Shared} {K : PySem.W.Frag} {M M' : Addr → Prop}
theorem nO.inj {a:Addr}{us ws:List V} (h:nO K a us) (h':nO K a ws):us=ws:=by
 obtain ⟨o,its,n,e1,_,e2,_,v⟩:=h
 obtain ⟨o',its',n',e1',_,e2',_,v'⟩:=h'
 rw [e1] at e1'; cases e1'
 rw [e2] at e2'; cases e2'
 exact v.inj v'
theorem Reps.self_of {n:Nat} (ih:∀ {v:V}{x y:PV},aK K M H v x->aK K M' H v y->gD n x y=true->dE n x y=true):∀ {vs:List V}{xs ys:List PV},Reps K M H vs xs->Reps K M' H vs ys->((xs.zip ys).all fun p=>gD n p.1 p.2)=true->(((xs.zip ys).all fun p=>dE n p.1 p.2) && xs.length == ys.length)=true
 | _,_,_,.nil,.nil,_=>rfl
 | _,_,_,.cons r t,.cons r' t',o=>by
  simp only [List.zip_cons_cons,bB8,br3] at o
  have h1:=ih r r' o.1
  have h2:=Reps.self_of ih t t' o.2
  simp only [List.zip_cons_cons,bB8,h1,Bool.true_and,bp8] at h2 ⊢
  rw [<- h2]
  congr 1
  simp
theorem aK.self:∀ (n:Nat) {v:V}{x y:PV},aK K M H v x->aK K M' H v y->gD n x y=true->dE n x y=true:=by
 intro n
 induction n with
 | zero=>
  intro v x y r r' o
  cases r with
  | non=>cases r'; rfl
  | bl b=>cases r'; exact bw3 b
  | int i=>cases r'; exact bw3 i
  | str z=>cases r'; exact bw3 z
  | _=>cases o
 | succ n ih=>
  intro v x y r r' o
  cases r with
  | non=>cases r'; rfl
  | bl b=>cases r'; exact bw3 b
  | int i=>cases r'; exact bw3 i
  | str z=>cases r'; exact bw3 z
  | tup h rr=>
   cases r' with
   | tup h' rr'=>rw [h] at h'; cases h'; exact Reps.self_of ih rr rr' o
   | _=>cases o
  | lst _ h rr=>
   cases r' with
   | lst _ h' rr'=>rw [h] at h'; cases h'; exact Reps.self_of ih rr rr' o
   | _=>cases o
  | kt h rr=>
   cases r' with
   | kt h' rr'=>cases nO.inj h h'; exact Reps.self_of ih rr rr' o
   | _=>cases o
  | _=>cases o
theorem Reps.self (n:Nat) {vs:List V}{xs ys:List PV} (r:Reps K M H vs xs) (r':Reps K M' H vs ys) (o:((xs.zip ys).all fun p=>gD n p.1 p.2)=true):(((xs.zip ys).all fun p=>dE n p.1 p.2) && xs.length == ys.length)=true:=Reps.self_of (aK.self n) r r' o
theorem kW (n:Nat) (xs ys:List PV):(List.range (min xs.length ys.length)).all (fun j=>dE n (xs.getD j .non) (ys.getD j .non))=(xs.zip ys).all fun p=>dE n p.1 p.2:=by
 rw [bt3]
 simp only [bw4,by0]
 constructor
 ·intro h p hp
  obtain ⟨j,hj,e⟩:=List.getElem_of_mem hp
  have hj':j < min xs.length ys.length:=by simpa using hj
  have:=h j hj'
  rw [List.getElem_zip] at e
  subst e
  have h1:j < xs.length:=by omega
  have h2:j < ys.length:=by omega
  simpa [bq0,h1,h2] using this
 ·intro h j hj
  have h1:j < xs.length:=by omega
  have h2:j < ys.length:=by omega
  have hz:j < (xs.zip ys).length:=by simp; omega
  have:=h _ (List.getElem_mem hz)
  rw [List.getElem_zip] at this
  simpa [bq0,h1,h2] using this
theorem aK1 (I:a8 X pins σ H s):∀ (n:Nat) {A:Around}{v w:V}{x y:PV}{a b:Value},A.units+n < cLine->aK X.K M H v x->aK X.K M' H w y->b5 v a->b5 w b->gD n x y=true->SeqAt.EqAt A s a b (dE n x y):=by
 intro n
 induction n with
 | zero=>
  intro A v w x y a b hu rx ry ra rb o
  cases rx with
  | non=>
   cases ra
   cases ry with
   | non=>cases rb; exact SeqAt.EqAt.same _
   | int i=>obtain ⟨t',rfl⟩:=rb; exact SeqAt.EqAt.none_int _ _
   | _=>cases o
  | bl i=>
   cases ra
   cases ry with
   | bl j=>cases rb; exact SeqAt.EqAt.bool_bool _ _
   | _=>cases o
  | int i=>
   obtain ⟨t,rfl⟩:=ra
   cases ry with
   | int j=>obtain ⟨t',rfl⟩:=rb; exact SeqAt.EqAt.int_int _ _ _ _
   | non=>cases rb; exact SeqAt.EqAt.int_none _ _
   | _=>cases o
  | str i=>
   obtain ⟨t,rfl⟩:=ra
   cases ry with
   | str j=>obtain ⟨t',rfl⟩:=rb; exact SeqAt.EqAt.str_str _ _ _ _
   | _=>cases o
  | _=>cases o
 | succ n ih=>
  intro A v w x y a b hu rx ry ra rb o
  have items:∀ {us ws:List V}{xs ys:List PV}{its its2:List Value},Reps X.K M H us xs->Reps X.K M' H ws ys->aR us its->aR ws its2->((xs.zip ys).all fun p=>gD n p.1 p.2)=true->
    ∀ j (h1:j < its.toArray.size) (h2:j < its2.toArray.size),SeqAt.EqAt A.in1 s its.toArray[j] its2.toArray[j] (dE n (xs.getD j .non) (ys.getD j .non)):=fun {us ws xs ys its its2} r1 r2 v1 v2 ok j h1 h2=>by
   have l1:=v1.length
   have l2:=v2.length
   have m1:=r1.length
   have m2:=r2.length
   have k1:j < its.length:=by simpa using h1
   have k2:j < its2.length:=by simpa using h2
   have j1:j < us.length:=by omega
   have j2:j < ws.length:=by omega
   have i1:j < xs.length:=by omega
   have i2:j < ys.length:=by omega
   obtain ⟨u,hu',ru⟩:=v1.get (bo1 j1)
   obtain ⟨u2,hu2',ru2⟩:=v2.get (bo1 j2)
   obtain ⟨x,hx,rx⟩:=r1.get (bo1 j1)
   obtain ⟨y,hy,ry⟩:=r2.get (bo1 j2)
   have e1:its.toArray[j]=u:=by
    rw [bo1 k1] at hu'
    simpa using hu'
   have e2:its2.toArray[j]=u2:=by
    rw [bo1 k2] at hu2'
    simpa using hu2'
   have ok':gD n x y=true:=by
    rw [bw4] at ok
    have hz:j < (xs.zip ys).length:=by simp; omega
    have:=ok _ (List.getElem_mem hz)
    rw [List.getElem_zip] at this
    rw [bo1 i1] at hx
    rw [bo1 i2] at hy
    cases hx; cases hy
    exact this
   rw [e1,e2]
   have g1:xs.getD j .non=x:=by rw [bq0,hx]; rfl
   have g2:ys.getD j .non=y:=by rw [bq0,hy]; rfl
   rw [g1,g2]
   exact ih (by show A.units+1+n < cLine; omega) rx ry ru ru2 ok'
  have huA:A.units < cLine:=by omega
  cases rx with
  | @kt p us xs h1 r1=>
   obtain ⟨its,v1,p1,_⟩:=I.tuple (.inr h1)
   cases (show a=Value.ref p from ra)
   cases ry with
   | @kt p2 ws ys h2 r2=>
    obtain ⟨its2,v2,p2',_⟩:=I.tuple (.inr h2)
    cases (show b=Value.ref p2 from rb)
    by_cases e:p=p2
    ·subst e
     have:=aK.self (K:=X.K) (M:=M) (M':=M') (n+1) (.kt h1 r1) (.kt h2 r2) o
     rw [this]
     exact SeqAt.EqAt.same _
    ·have:=SeqAt.RcAt.tuples p1 p2' huA (items r1 r2 v1 v2 o)
     refine .of_refs e ?_
     have l1:=v1.length
     have l2:=v2.length
     have m1:=r1.length
     have m2:=r2.length
     rw [bn5,bn5,<- l1,<- l2,m1,m2,kW] at this
     exact this
   | _=>cases o
  | @tup p us xs h1 r1=>
   obtain ⟨its,v1,p1,_⟩:=I.tuple (aM.of (K:=X.K) h1)
   cases (show a=Value.ref p from ra)
   cases ry with
   | @tup p2 ws ys h2 r2=>
    obtain ⟨its2,v2,p2',_⟩:=I.tuple (aM.of (K:=X.K) h2)
    cases (show b=Value.ref p2 from rb)
    by_cases e:p=p2
    ·subst e
     have:=aK.self (K:=X.K) (M:=M) (M':=M') (n+1) (.tup h1 r1) (.tup h2 r2) o
     rw [this]
     exact SeqAt.EqAt.same _
    ·have:=SeqAt.RcAt.tuples p1 p2' huA (items r1 r2 v1 v2 o)
     refine .of_refs e ?_
     have l1:=v1.length
     have l2:=v2.length
     have m1:=r1.length
     have m2:=r2.length
     rw [bn5,bn5,<- l1,<- l2,m1,m2,kW] at this
     exact this
   | non=>cases rb; exact SeqAt.EqAt.tuple_none p1 huA
   | _=>cases o
  | @lst p us xs _ h1 r1=>
   obtain ⟨its,v1,p1,_⟩:=I.list (aN.of (K:=X.K) h1)
   cases (show a=Value.ref p from ra)
   cases ry with
   | @lst p2 ws ys _ h2 r2=>
    obtain ⟨its2,v2,p2',_⟩:=I.list (aN.of (K:=X.K) h2)
    cases (show b=Value.ref p2 from rb)
    have l1:=v1.length
    have l2:=v2.length
    have m1:=r1.length
    have m2:=r2.length
    by_cases e:p=p2
    ·subst e
     rw [h1] at h2; cases h2
     have:=Reps.self n r1 r2 o
     show SeqAt.EqAt A s _ _ ((xs.zip ys).all (fun p=>dE n p.1 p.2) && xs.length == ys.length)
     rw [this]
     exact SeqAt.EqAt.same _
    ·refine .of_refs e ?_
     by_cases hl:xs.length=ys.length
     ·have:=SeqAt.RcAt.lists p1.isList p2'.isList (by rw [bn5,bn5]; omega) huA (items r1 r2 v1 v2 o)
      have hm:min xs.length ys.length=its.length:=by omega
      rw [bn5,<- hm,kW] at this
      show SeqAt.RcAt A s _ _ ((xs.zip ys).all (fun p=>dE n p.1 p.2) && xs.length == ys.length)
      rw [show (xs.length == ys.length)=true by simpa using hl,bB9]
      exact this
     ·have:=SeqAt.RcAt.lists_lengths (A:=A) p1.isList p2'.isList (by rw [bn5,bn5]; simp; omega) huA
      show SeqAt.RcAt A s _ _ ((xs.zip ys).all (fun p=>dE n p.1 p.2) && xs.length == ys.length)
      rw [show (xs.length == ys.length)=false by simpa using hl,by9]
      exact this
   | _=>cases o
  | non=>
   cases ra
   cases ry with
   | non=>cases rb; exact SeqAt.EqAt.same _
   | int i=>obtain ⟨t',rfl⟩:=rb; exact SeqAt.EqAt.none_int _ _
   | @tup p2 ws ys h2 r2=>
    obtain ⟨its2,v2,p2',_⟩:=I.tuple (aM.of (K:=X.K) h2)
    cases (show b=Value.ref p2 from rb)
    exact SeqAt.EqAt.none_tuple p2' huA
   | _=>cases o
  | bl i=>
   cases ra
   cases ry with
   | bl j=>cases rb; exact SeqAt.EqAt.bool_bool _ _
   | _=>cases o
  | int i=>
   obtain ⟨t,rfl⟩:=ra
   cases ry with
   | int j=>obtain ⟨t',rfl⟩:=rb; exact SeqAt.EqAt.int_int _ _ _ _
   | non=>cases rb; exact SeqAt.EqAt.int_none _ _
   | _=>cases o
  | str i=>
   obtain ⟨t,rfl⟩:=ra
   cases ry with
   | str j=>obtain ⟨t',rfl⟩:=rb; exact SeqAt.EqAt.str_str _ _ _ _
   | _=>cases o
  | _=>cases o
end
structure Bt (mg:Str->Option Value):Prop where
 len:mg "len" = none
 range:mg "range" = none
 tuple:mg "tuple" = none
 list:mg "list" = none
 sorted:mg "sorted" = none
 all:mg "all" = none
 any:mg "any" = none
 zip:mg "zip" = none
 min:mg "min" = none
 max:mg "max" = none
 sum:mg "sum" = none
 isinst:mg "isinstance" = none
 int:mg "int" = none
 bool:mg "bool" = none
 enum:mg "enumerate" = none
section
variable {X : Cx} {a b c e o : Expr} {es dH : List Expr} {ta tb te to tk : aH} {tr : dI} {tA tB' tc : cY} {pos p2 px : Pos} {st : Stmt} {sts : List Stmt} {t u : aI}
theorem cJ (B:Bt X.mg) (ha:QA X [e] tr) (hg:Gl X "len":=by rfl) (he:starEach [e] X.env=(false,eval e X.env) :: starEach [] X.env:=by rfl) (hpl:(backTo pos (starEach [] X.env)).any (·.1)=false:=by rfl):QE X (.Call (.Name "len" p2) [e] [] pos) (aB bT tr):=
 kU (ax4.or aA1) aG2 hg B.len PySem.boot_len ha (he:=he) (hpl:=hpl)
theorem fO (B:Bt X.mg) (ha:QA X [e] tr) (hg:Gl X "tuple":=by rfl) (he:starEach [e] X.env=(false,eval e X.env) :: starEach [] X.env:=by rfl) (hpl:(backTo pos (starEach [] X.env)).any (·.1)=false:=by rfl):QE X (.Call (.Name "tuple" p2) [e] [] pos) (aB eS tr):=
 aJ8 ax5 aG3 hg B.tuple PyProof.Rows.boot_tuple ha (he:=he) (hpl:=hpl)
theorem aK2 (B:Bt X.mg) (ha:QA X [e] tr) (hg:Gl X "sorted":=by rfl) (he:starEach [e] X.env=(false,eval e X.env) :: starEach [] X.env:=by rfl) (hpl:(backTo pos (starEach [] X.env)).any (·.1)=false:=by rfl):QE X (.Call (.Name "sorted" p2) [e] [] pos) (aB sM tr):=
 kU P0 aG4 hg B.sorted bA3 ha (he:=he) (hpl:=hpl)
theorem aK3 (B:Bt X.mg) (hc:X.calm=true) (ha:QA X [e] tr) (hg:Gl X "all":=by rfl) (he:starEach [e] X.env=(false,eval e X.env) :: starEach [] X.env:=by rfl) (hpl:(backTo pos (starEach [] X.env)).any (·.1)=false:=by rfl):QE X (.Call (.Name "all" p2) [e] [] pos) (aB x6 tr):=
 kU (wO hc) aG5 hg B.all PyProof.Rows.boot_all ha (he:=he) (hpl:=hpl)
theorem xS (B:Bt X.mg) (hc:X.calm=true) (ha:QA X [a,b] tr) (hg:Gl X "min":=by rfl) (he:starEach [a,b] X.env=(false,eval a X.env) :: starEach [b] X.env:=by rfl) (hpl:(backTo pos (starEach [b] X.env)).any (·.1)=false:=by rfl):QE X (.Call (.Name "min" p2) [a,b] [] pos) (aB pV tr):=
 kU (au4 hc) aG6 hg B.min PyProof.Rows.boot_min ha (he:=he) (hpl:=hpl)
theorem mU (B:Bt X.mg) (hc:X.calm=true) (ha:QA X [a,b] tr) (hg:Gl X "max":=by rfl) (he:starEach [a,b] X.env=(false,eval a X.env) :: starEach [b] X.env:=by rfl) (hpl:(backTo pos (starEach [b] X.env)).any (·.1)=false:=by rfl):QE X (.Call (.Name "max" p2) [a,b] [] pos) (aB jY tr):=
 kU (au3 hc) aG7 hg B.max PyProof.Rows.boot_max ha (he:=he) (hpl:=hpl)
theorem xT (ha:QE X a ta):QE X (.UnaryOp .USub a pos) (nW ta):=cN (as2 at4 ha) fun σ H Q' h=>by
 obtain ⟨W,ρ,Q,px,q,k⟩:=h
 refine⟨W,ρ,_,px,q,?_⟩
 rintro v H1 x g s r ⟨i,rfl,q⟩
 cases r
 exact⟨i,rfl,k _ _ _ .fr s (.int _) q⟩
theorem U9 (x:Int):∀ (xs:List Int),pI (.int x) (xs.map V.int)=decide (x ∈ xs)
 | []=>by simp [pI]
 | y :: r=>by
  have ih:=U9 x r
  unfold pI at ih ⊢
  rw [bs8,List.any_cons,ih]
  by_cases e:y=x
  ·subst e; simp [jD]
  ·have:jD (.int y) (.int x)=false:=by simpa [jD] using e
   rw [this,Bool.false_or,bt3]
   simp [Ne.symm e]
theorem V0:∀ (xs:List Int),(xs.map V.int).all kL=true
 | []=>rfl
 | _ :: r=>by rw [bs8,bB8,V0 r]; rfl
theorem V1 (neg:Bool):g9 X (pZ neg) (vO X.K neg):=by
 rintro W Hs H u v x y g g' Q Q' s n r1 r2 ⟨i,ns,rfl,e,q⟩ k
 cases r1
 obtain ⟨a,us,rfl,hs,r⟩:=r2.seq e
 obtain rfl:=r.ofInts
 refine⟨a,_,rfl,hs,rfl,V0 ns,?_⟩
 have:=k _ _ _ .fr (aG.refl _) (.bl _) q
 rw [U9]
 cases neg <;> exact this
theorem aK4 (ha:QE X a ta) (hb:QE X b tb) (hm:behindInMarks .In b=false:=by rfl):QE X (.Compare a [.In] [b] pos) (q2 (pZ false) ta tb):=qH ax2 (V1 false) ha hb hm
theorem aK5 (ha:QE X a ta) (hb:QE X b tb) (hm:behindInMarks .NotIn b=false:=by rfl):QT X (.Compare a [.NotIn] [b] pos) (aT (q2 (pZ true) ta tb)):=k8 ax3 (V1 true) ha hb hm
theorem aK.kt_ {K:PySem.W.Frag}{M:Addr->Prop}{H:Hp}{v:V}{xs:List PV} (r:aK K M H v (.kt xs)):∃ a us,v = .ref a/\nO K a us/\Reps K M H us xs:=by
 cases r with
 | kt h r=>exact⟨_,_,rfl,h,r⟩
noncomputable def V2 (K:PySem.W.Frag) (H:Hp) (x:V) (t:Value):Prop:=gX K H x t ∨ ∃ a us,x = .ref a/\aM K H a us/\t = .type "tuple"
theorem aK6:dN X (.builtin "isinstance") (fun xs H Q=>∃ x t n b,xs = [x,.ty n]/\V2 X.K H x t/\PySem.W.kitOne X.K t (.type n)=some b/\Q (.bl b) H):=by
 intro pins s σ H xs us Q I r h
 obtain ⟨x,t,n,b,rfl,ty,e,q⟩:=h
 rcases ty with ty | ⟨a,ws,rfl,hs,rfl⟩
 ·exact aB7 pins s σ H _ us Q I r ⟨x,t,n,b,rfl,ty,e,q⟩
 obtain ⟨u,u',rfl,ru,ru'⟩:=p9 r
 cases ru'
 cases (show u=Value.ref a from ru)
 obtain ⟨its,_,⟨o,h1,h2,_⟩,_⟩:=I.tuple hs
 exact bu7 PySem.W.kitx_tuple I.kIn ⟨o,h1,h2⟩ e (fun z=>nomatch z) fun tk=>⟨.bl b,H,I.tok tk,rfl,q⟩
theorem aK7 {K:PySem.W.Frag}{M:Addr->Prop}{H:Hp}{v:V}{x:PV}{T:String} (r:aK K M H v x) (e:U2 x=some T):V2 K H v (.type T):=by
 cases r with
 | non=>cases e; exact .inl .non
 | bl b=>cases e; exact .inl (.bl b)
 | int i=>cases e; exact .inl (.int i)
 | str i=>cases e; exact .inl (.str i)
 | tup h _=>cases e; exact .inl (.tup h)
 | lst _ h _=>cases e; exact .inl (.lst h)
 | kt h _=>cases e; exact .inr ⟨_,_,rfl,.inr h,rfl⟩
 | _=>cases e
theorem xV {x:Str}{n:String} (B:Bt X.mg) (hn:bootBuiltins x=some (.type n)) (hm:X.mg x=none) (ha:QE X a ta) (hg:Gl X "isinstance":=by rfl) (hgx:Gl X x:=by rfl) (hx:x ≠ "__name__":=by decide) (hdx:(x == ("__debug__" : Str))=false:=by decide)
  (he:starEach [a,.Name x px] X.env=(false,eval a X.env) :: starEach [.Name x px] X.env:=by rfl) (he2:starEach [.Name x px] X.env=(false,eval (.Name x px) X.env) :: starEach [] X.env:=by rfl) (hpl:(backTo pos (starEach [.Name x px] X.env)).any (·.1)=false:=by rfl):QE X (.Call (.Name "isinstance" p2) [a,.Name x px] [] pos) (mR X.K n ta):=
 cN (pB aK6 hg B.isinst PyProof.Rows.boot_isinstance (cW ha (cW (B8 (v:=.ty n) hgx hm hn rfl hx hdx) dP he2) he) (he:=he) (hpl:=hpl)) fun σ H Q' h=>by
  obtain ⟨W,ρ,Q,px,q,k⟩:=h
  refine⟨W,ρ,_,px,q,?_⟩
  rintro v H1 x g s r ⟨T,b,e,kt,q⟩
  exact⟨v,_,n,b,rfl,aK7 r e,kt,k _ _ _ .fr s (.bl _) q⟩
theorem aK8 (B:Bt X.mg) (ha:QE X a ta) (hg:Gl X "isinstance":=by rfl) (hgx:Gl X "int":=by rfl)
  (he:starEach [a,.Name "int" px] X.env=(false,eval a X.env) :: starEach [.Name "int" px] X.env:=by rfl) (he2:starEach [.Name "int" px] X.env=(false,eval (.Name "int" px) X.env) :: starEach [] X.env:=by rfl) (hpl:(backTo pos (starEach [.Name "int" px] X.env)).any (·.1)=false:=by rfl):QE X (.Call (.Name "isinstance" p2) [a,.Name "int" px] [] pos) (mR X.K "int" ta):=xV B PyProof.Rows.boot_int B.int ha (hg:=hg) (hgx:=hgx) (he:=he) (he2:=he2) (hpl:=hpl)
theorem aK9 (B:Bt X.mg) (ha:QE X a ta) (hg:Gl X "isinstance":=by rfl) (hgx:Gl X "bool":=by rfl)
  (he:starEach [a,.Name "bool" px] X.env=(false,eval a X.env) :: starEach [.Name "bool" px] X.env:=by rfl) (he2:starEach [.Name "bool" px] X.env=(false,eval (.Name "bool" px) X.env) :: starEach [] X.env:=by rfl) (hpl:(backTo pos (starEach [.Name "bool" px] X.env)).any (·.1)=false:=by rfl):QE X (.Call (.Name "isinstance" p2) [a,.Name "bool" px] [] pos) (mR X.K "bool" ta):=xV B PyProof.Rows.boot_bool B.bool ha (hg:=hg) (hgx:=hgx) (he:=he) (he2:=he2) (hpl:=hpl)
theorem aL0 (B:Bt X.mg) (ha:QE X a ta) (hg:Gl X "isinstance":=by rfl) (hgx:Gl X "tuple":=by rfl)
  (he:starEach [a,.Name "tuple" px] X.env=(false,eval a X.env) :: starEach [.Name "tuple" px] X.env:=by rfl) (he2:starEach [.Name "tuple" px] X.env=(false,eval (.Name "tuple" px) X.env) :: starEach [] X.env:=by rfl) (hpl:(backTo pos (starEach [.Name "tuple" px] X.env)).any (·.1)=false:=by rfl):QE X (.Call (.Name "isinstance" p2) [a,.Name "tuple" px] [] pos) (mR X.K "tuple" ta):=xV B PyProof.Rows.boot_tuple B.tuple ha (hg:=hg) (hgx:=hgx) (he:=he) (he2:=he2) (hpl:=hpl)
noncomputable def xW (K:PySem.W.Frag) (n:Nat) (neg:Bool):R2:=fun v w H Q=>∃ x y,aK K (fun _=>True) H v x/\aK K (fun _=>True) H w y/\((∃ xs ys,x = .tup xs/\y = .tup ys) ∨ (∃ xs ys,x = .lst xs/\y = .lst ys) ∨ (∃ xs ys,x = .kt xs/\y = .kt ys))/\gD (n+1) x y=true/\Q (.bl (if neg=true then !dE (n+1) x y else dE (n+1) x y)) H
theorem nZ {pins:List (Addr × Obj)}{σ:St}{H:Hp}{s:Shared}{M M':Addr->Prop} (I:a8 X pins σ H s) {n:Nat}{A:Around} (hu:A.units+(n+1) < cLine) {us ws:List V}{xs ys:List PV}{its its2:List Value} (r1:Reps X.K M H us xs) (r2:Reps X.K M' H ws ys) (v1:aR us its) (v2:aR ws its2)
  (ok:((xs.zip ys).all fun p=>gD n p.1 p.2)=true):∀ j (h1:j < its.toArray.size) (h2:j < its2.toArray.size),SeqAt.EqAt A.in1 s its.toArray[j] its2.toArray[j] (dE n (xs.getD j .non) (ys.getD j .non)):=by
 intro j h1 h2
 have l1:=v1.length
 have l2:=v2.length
 have m1:=r1.length
 have m2:=r2.length
 have k1:j < its.length:=by simpa using h1
 have k2:j < its2.length:=by simpa using h2
 have j1:j < us.length:=by omega
 have j2:j < ws.length:=by omega
 have i1:j < xs.length:=by omega
 have i2:j < ys.length:=by omega
 obtain ⟨u,hu',ru⟩:=v1.get (bo1 j1)
 obtain ⟨u2,hu2',ru2⟩:=v2.get (bo1 j2)
 obtain ⟨x,hx,rx⟩:=r1.get (bo1 j1)
 obtain ⟨y,hy,ry⟩:=r2.get (bo1 j2)
 have e1:its.toArray[j]=u:=by
  rw [bo1 k1] at hu'
  simpa using hu'
 have e2:its2.toArray[j]=u2:=by
  rw [bo1 k2] at hu2'
  simpa using hu2'
 have ok':gD n x y=true:=by
  rw [bw4] at ok
  have hz:j < (xs.zip ys).length:=by simp; omega
  have:=ok _ (List.getElem_mem hz)
  rw [List.getElem_zip] at this
  rw [bo1 i1] at hx
  rw [bo1 i2] at hy
  cases hx; cases hy
  exact this
 rw [e1,e2]
 have g1:xs.getD j .non=x:=by rw [bq0,hx]; rfl
 have g2:ys.getD j .non=y:=by rw [bq0,hy]; rfl
 rw [g1,g2]
 exact aK1 I n (by show A.units+1+n < cLine; omega) rx ry ru ru2 ok'
theorem aL1 (n:Nat) (hu:X.A.units+(n+1) < cLine):cF X (compareOp .Eq) (xW X.K n false):=by
 intro pins s σ H v w a b Q I ra rb h
 obtain ⟨x,y,rx,ry,kd,o,q⟩:=h
 have hu0:X.A.units < cLine:=by omega
 rcases kd with ⟨xs,ys,rfl,rfl⟩ | ⟨xs,ys,rfl,rfl⟩ | ⟨xs,ys,rfl,rfl⟩
 ·obtain ⟨p,us,rfl,h1,r1⟩:=rx.sqT
  obtain ⟨p2,ws,rfl,h2,r2⟩:=ry.sqT
  cases ra; cases rb
  obtain ⟨its,v1,p1,_⟩:=I.tuple (aM.of (K:=X.K) h1)
  obtain ⟨its2,v2,p2',_⟩:=I.tuple (aM.of (K:=X.K) h2)
  have l1:=v1.length
  have l2:=v2.length
  have m1:=r1.length
  have m2:=r2.length
  have:=SeqAt.RcAt.tuples p1 p2' hu0 (nZ I hu r1 r2 v1 v2 o)
  rw [bn5,bn5,<- l1,<- l2,m1,m2,kW] at this
  exact this _ _ _ _ ⟨.bl _,H,I,rfl,q⟩
 ·obtain ⟨p,us,rfl,_,h1,r1⟩:=rx.sqL
  obtain ⟨p2,ws,rfl,_,h2,r2⟩:=ry.sqL
  cases ra; cases rb
  obtain ⟨its,v1,p1,_⟩:=I.list (aN.of (K:=X.K) h1)
  obtain ⟨its2,v2,p2',_⟩:=I.list (aN.of (K:=X.K) h2)
  have l1:=v1.length
  have l2:=v2.length
  have m1:=r1.length
  have m2:=r2.length
  have q:Q (.bl ((xs.zip ys).all (fun p=>dE n p.1 p.2) && xs.length == ys.length)) H:=q
  by_cases hl:xs.length=ys.length
  ·have:=SeqAt.RcAt.lists p1.isList p2'.isList (by rw [bn5,bn5]; omega) hu0 (nZ I hu r1 r2 v1 v2 o)
   have hm:min xs.length ys.length=its.length:=by omega
   rw [bn5,<- hm,kW] at this
   rw [show (xs.length == ys.length)=true by simpa using hl,bB9] at q
   exact this _ _ _ _ ⟨.bl _,H,I,rfl,q⟩
  ·have:=SeqAt.RcAt.lists_lengths (A:=X.A) p1.isList p2'.isList (by rw [bn5,bn5]; simp; omega) hu0
   rw [show (xs.length == ys.length)=false by simpa using hl,by9] at q
   exact this _ _ _ _ ⟨.bl _,H,I,rfl,q⟩
 ·obtain ⟨p,us,rfl,h1,r1⟩:=rx.kt_
  obtain ⟨p2,ws,rfl,h2,r2⟩:=ry.kt_
  cases ra; cases rb
  obtain ⟨its,v1,p1,_⟩:=I.tuple (.inr h1)
  obtain ⟨its2,v2,p2',_⟩:=I.tuple (.inr h2)
  have l1:=v1.length
  have l2:=v2.length
  have m1:=r1.length
  have m2:=r2.length
  have:=SeqAt.RcAt.tuples p1 p2' hu0 (nZ I hu r1 r2 v1 v2 o)
  rw [bn5,bn5,<- l1,<- l2,m1,m2,kW] at this
  exact this _ _ _ _ ⟨.bl _,H,I,rfl,q⟩
theorem aL2 (n:Nat) (hu:X.A.units+(n+1) < cLine):cF X (compareOp .NotEq) (xW X.K n true):=by
 intro pins s σ H v w a b Q I ra rb h
 obtain ⟨x,y,rx,ry,kd,o,q⟩:=h
 have hu0:X.A.units < cLine:=by omega
 rcases kd with ⟨xs,ys,rfl,rfl⟩ | ⟨xs,ys,rfl,rfl⟩ | ⟨xs,ys,rfl,rfl⟩
 ·obtain ⟨p,us,rfl,h1,r1⟩:=rx.sqT
  obtain ⟨p2,ws,rfl,h2,r2⟩:=ry.sqT
  cases ra; cases rb
  obtain ⟨its,v1,p1,_⟩:=I.tuple (aM.of (K:=X.K) h1)
  obtain ⟨its2,v2,p2',_⟩:=I.tuple (aM.of (K:=X.K) h2)
  have l1:=v1.length
  have l2:=v2.length
  have m1:=r1.length
  have m2:=r2.length
  have:=SeqAt.RcNeAt.tuples p1 p2' hu0 (nZ I hu r1 r2 v1 v2 o)
  rw [bn5,bn5,<- l1,<- l2,m1,m2,kW] at this
  exact this _ _ _ _ ⟨.bl _,H,I,rfl,q⟩
 ·obtain ⟨p,us,rfl,_,h1,r1⟩:=rx.sqL
  obtain ⟨p2,ws,rfl,_,h2,r2⟩:=ry.sqL
  cases ra; cases rb
  obtain ⟨its,v1,p1,_⟩:=I.list (aN.of (K:=X.K) h1)
  obtain ⟨its2,v2,p2',_⟩:=I.list (aN.of (K:=X.K) h2)
  have l1:=v1.length
  have l2:=v2.length
  have m1:=r1.length
  have m2:=r2.length
  have q:Q (.bl (!((xs.zip ys).all (fun p=>dE n p.1 p.2) && xs.length == ys.length))) H:=q
  by_cases hl:xs.length=ys.length
  ·have:=SeqAt.RcNeAt.lists p1.isList p2'.isList (by rw [bn5,bn5]; omega) hu0 (nZ I hu r1 r2 v1 v2 o)
   have hm:min xs.length ys.length=its.length:=by omega
   rw [bn5,<- hm,kW] at this
   rw [show (xs.length == ys.length)=true by simpa using hl,bB9] at q
   exact this _ _ _ _ ⟨.bl _,H,I,rfl,q⟩
  ·have:=SeqAt.RcNeAt.lists_lengths (A:=X.A) p1.isList p2'.isList (by rw [bn5,bn5]; simp; omega) hu0
   rw [show (xs.length == ys.length)=false by simpa using hl,by9] at q
   exact this _ _ _ _ ⟨.bl _,H,I,rfl,q⟩
 ·obtain ⟨p,us,rfl,h1,r1⟩:=rx.kt_
  obtain ⟨p2,ws,rfl,h2,r2⟩:=ry.kt_
  cases ra; cases rb
  obtain ⟨its,v1,p1,_⟩:=I.tuple (.inr h1)
  obtain ⟨its2,v2,p2',_⟩:=I.tuple (.inr h2)
  have l1:=v1.length
  have l2:=v2.length
  have m1:=r1.length
  have m2:=r2.length
  have:=SeqAt.RcNeAt.tuples p1 p2' hu0 (nZ I hu r1 r2 v1 v2 o)
  rw [bn5,bn5,<- l1,<- l2,m1,m2,kW] at this
  exact this _ _ _ _ ⟨.bl _,H,I,rfl,q⟩
theorem V3 {n:Nat}{neg:Bool}:g9 X (qA n neg) (xW X.K n neg):=by
 rintro W Hs H u v x y g g' Q Q' s n r1 r2 ⟨kd,o,q⟩ k
 exact⟨x,y,r1.same (aG.refl _) fun _ _=>trivial,r2.same (aG.refl _) fun _ _=>trivial,kd.elim .inl fun z=>.inr (.inl z),o,k _ _ _ .fr (aG.refl _) (.bl _) q⟩
theorem aL3 (hu:X.A.units+3 < cLine) (ha:QE X a ta) (hb:QE X b tb):QT X (.Compare a [.NotEq] [b] pos) (aT (q2 (qA 2 true) ta tb)):=k8 (aL2 2 hu) V3 ha hb (gL _)
theorem aL4 (hu:X.A.units+3 < cLine) (ha:QE X a ta) (hb:QE X b tb):QE X (.Compare a [.Eq] [b] pos) (q2 (qA 2 false) ta tb):=qH (aL1 2 hu) V3 ha hb (gL _)
end
end PP
namespace PP
open PySem L2 PyProof.Rows
noncomputable def LO (X:Cx) (t:nX):TO:=fun σ H Q'=>∃ (W:Addr->Prop) (ρ:bQ) (Q:Option Int->Prop),PX X.K X.H₀ W σ ρ H/\t ρ Q/\∀ o H',aG H H'->Q o->Q' o H'
noncomputable def QO (X:Cx) (e:Option Expr) (t:nX):Prop:=PO X e (LO X t)
theorem Reps.cut {K:PySem.W.Frag}{M:Addr->Prop}{H:Hp}{us:List V}{xs:List PV} (r:Reps K M H us xs) (lo hi:Option Int):Reps K M H (fL us lo hi) (fC xs lo hi):=by
 unfold fL fC
 rw [r.length]
 exact (r.drop _).take _
section
variable {X : Cx} {a b c e o : Expr} {es dH : List Expr} {ta tb te to tk : aH} {tr : dI} {tA tB' tc : cY} {pos p2 px : Pos} {st : Stmt} {sts : List Stmt} {t u : aI}
theorem jK:QO X none hJ:=fun pins s σ H Q I h=>vJ pins s σ H Q I (by
 obtain ⟨W,ρ,Q1,px,q,k⟩:=h
 exact k _ _ (aG.refl _) q)
theorem gQ (h:QE X e te):QO X (some e) (fD te):=fun pins s σ H Q I hq=>vK h pins s σ H Q I (by
 obtain ⟨W,ρ,Q1,px,q,k⟩:=hq
 refine⟨W,ρ,_,px,q,?_⟩
 rintro v H1 x g s r ⟨i,rfl,q⟩
 cases r
 exact⟨i,rfl,k _ _ s q⟩)
theorem iF {lo hi:Option Expr}{tl th:nX}{sp:Pos} (he:QE X e te) (hl:QO X lo tl) (hh:QO X hi th):QE X (.Subscript e (.Slice lo hi none sp) pos) (gE te tl th):=cN (vL (K1.or Q8) he hl hh) fun σ H Q' h=>by
 obtain ⟨W,ρ,Q,px,q,k⟩:=h
 refine⟨W,ρ,_,px,q,fun v H1 x g s1 r1 q1=>⟨W,ρ,_,px.mono s1,q1,fun lo H2 s2 q2=>⟨W,ρ,_,px.mono (s1.trans s2),q2,?_⟩⟩⟩
 rintro hi H3 s3 ⟨xs,e,f,q3⟩
 have S:=(s1.trans s2).trans s3
 have r3:=r1.same (M':=Mg X.H₀ W H g) (s2.trans s3) fun _ z=>z
 cases r3 with
 | tup h r=>
  cases e
  refine .inr ⟨_,_,rfl,aM.of h,fun p hp=>k _ _ _ .fr (S.trans (bP hp _)) (.tup bN (((r.flat f).cut lo hi).same (bP hp _) fun _ z=>z)) q3,fun ec=>k _ _ _ .fr S (.tup h ?_) q3⟩
  have:=(r.flat (M':=Mg X.H₀ W H .fr) f).cut lo hi
  rw [ec] at this
  exact this
 | lst m h r=>
  cases e
  exact .inl ⟨_,_,rfl,aN.of h,fun p hp=>k _ _ _ .fr (S.trans (bP hp _)) (.lst (S.free hp) bN (((r.flat f).cut lo hi).same (bP hp _) fun _ z=>z)) q3⟩
 | scr h=>
  cases e
  exact .inl ⟨_,_,rfl,h.sqL,fun p hp=>k _ _ _ .fr (S.trans (bP hp _)) (.lst (S.free hp) bN (((Reps.intz _).cut lo hi).same (bP hp _) fun _ z=>z)) q3⟩
 | _=>cases e
structure Df (P:Program) (w:World) (K:PySem.W.Frag) (mg:Str->Option Value) (base:Heap) (k:Nat) (x:Str) (ps:List Str) (p:bK):Prop where
 ex:∃ f fd,dD P w K mg base eB k f fd ps (pW K p)/\jC K fd ps []/\PySem.W.keepIn K (.ref f)=true/\mg x=some (.ref f)
theorem aW {k j:Nat}{x:Str}{ps:List Str}{p:bK} (d:Df X.prog X.w X.K X.mg X.base k x ps p) (hr:cL j X.A) (ha:QA X (e :: es) tr) (hkj:k<=j:=by decide) (hg:Gl X x:=by rfl) (hdb:(x == ("__debug__" : Str))=false:=by decide)
  (he:starEach (e :: es) X.env=(false,eval e X.env) :: starEach es X.env:=by rfl) (hpl:(backTo pos (starEach es X.env)).any (·.1)=false:=by rfl):QE X (.Call (.Name x p2) (e :: es) [] pos) (aB p tr):=by
 obtain ⟨f,fd,F,b,kp,m⟩:=d.ex
 exact cN (vH F (hr.mono hkj) hg m kp b .nil az9 ha hdb he hpl) fun _ _ _=>aG8
theorem xX {K:PySem.W.Frag}{H:Hp}{N:List Str}{vs:List V}{xs:List PV} (r:Reps K (fun _=>True) H vs xs):PX K H (fun _=>False) (L2.start N vs) (hV N xs) H:=by
 have lr:=r.length
 have own:∀ {i:Nat}{m:Slot},(hV N xs)[i]? = some (some m)->∃ x,xs[i]? = some x/\m = .sh (flat x) x:=fun {i m} h=>by
  unfold hV at h
  by_cases hi:i < xs.length
  ·rw [bv9 (by simpa using hi),bo8] at h
   rw [bo1 hi] at h ⊢
   cases h
   exact⟨_,rfl,rfl⟩
  ·rw [List.getElem?_append_right (by simpa using hi),List.getElem?_replicate] at h
   split at h <;> cases h
 refine⟨by unfold L2.start hV; simp [lr],aG.refl _,fun a z=>z.elim,fun i m h=>?_,fun i j x y a h1=>?_⟩
 ·obtain ⟨x,hx,rfl⟩:=own h
  obtain ⟨v,hv,rx⟩:=r.at hx
  refine⟨v,?_,sO (g:=false) (rx.same (aG.refl _) fun _ _ z=>z)⟩
  have hi:i < vs.length:=(bn8.mp hv).1
  unfold L2.start
  rw [bv9 (by simpa using hi),bo8,hv]; rfl
 ·obtain ⟨x,_,e⟩:=own h1
  cases e
theorem Df.of {P:Program}{w:World}{K:PySem.W.Frag}{mg:Str->Option Value}{base:Heap}{k:Nat}{x:Str}{ps N:List Str}{p:bK}{st:Stmt}{f:Addr}{fd:FuncData} (F:fZ K x x st f fd) (m:mg x=some (.ref f)) (S:FnScope N ps (aY st))
  (hb:∀ (kV doc pm:Value) (an:Option Addr) (cdv ct:Value) (us:List Value),us.length=ps.length->bindArgs (PySem.W.fnOf x x (kM st) (fY st) (aY st) .none kV doc pm an cdv ct) ⟨us,[]⟩=pure (ps.zip us))
  (len:∀ xs Q,p xs Q->xs.length=ps.length)
  (body:∀ (cdv:Value) (A:Around) (outer:List Env) (s:Shared) (H:Hp) (E:XK),cL k (A.deeper (envOfC x (aY st) s.heap.objs.size f cdv))->
   ∃ t,gF (e8 eB P w K mg base N x (aY st) f cdv A outer s H E).nox (fY st) t/\∀ xs Q,p xs Q->t { nx:=fun _=>Q .non,rt:=Q } (hV N xs)):Df P w K mg base (k+1) x ps p:=by
 refine⟨f,fd,F.ok S (fun vs H Q E h=>?_) (fun cdv A outer s H vs Q E hr h=>?_),F.binds hb,F.kp,m⟩
 ·obtain ⟨xs,Qp,r,q,_⟩:=h
  rw [r.length]; exact len xs Qp q
 ·obtain ⟨xs,Qp,r,q,k⟩:=h
  obtain ⟨t,ht,hq⟩:=body cdv A outer s H E hr
  refine⟨_,ht,fun _=>False,hV N xs,_,xX r,hq xs Qp q,?_,?_,?_,?_⟩
  ·exact fun W' σ' H' ρ' e px q=>k _ _ _ px.same .non q
  ·exact fun v H' x s r q=>k _ _ _ s r q
  ·exact fun W' σ' H' ρ' e px q=>q
  ·exact fun W' σ' H' ρ' e px q=>q
theorem fF (i:Nat) {x:Str}{tp:Pos}{body:List Stmt}{ti:gB} (hN:X.N.Nodup) (hi:QI X (.Name x tp) e ti) (hb:gF X body t) (hx:X.N[i]? = some x:=by rfl) (hl:iP X.env.scope x:=by first | exact Or.inl rfl | exact Or.inr rfl) (hf:X.fn x=true ∨ X.env.scope.names.lookup x=some .local:=by first | exact .inl rfl | exact .inr rfl)
  (hp:PassesOwn (model X.prog X.w) X.A X.env X.xe:=by exact bD0) (hc:X.calm=true:=by rfl) (hs:∀ x,foldedSetIterable e X.env x=pure x:=by intro _; rfl):QS X (.For (.Name x tp) e body [] pos) (dJ ti (bO i) t):=
 U8 hp hc hi (eZ hN hx hl hf) (pY _ i) hb hs
theorem V4 (i j:Nat) {x y:Str}{tp xp yp:Pos}{kt:Nat}{body:List Stmt}{ti:gB} (hN:X.N.Nodup) (hi:QI X (.Tuple [.Name x xp,.Name y yp] kt tp) e ti) (hb:gF X body t) (hx:X.N[i]? = some x:=by rfl) (hy:X.N[j]? = some y:=by rfl) (hlx:iP X.env.scope x:=by first | exact Or.inl rfl | exact Or.inr rfl) (hly:iP X.env.scope y:=by first | exact Or.inl rfl | exact Or.inr rfl)
  (hfx:X.fn x=true ∨ X.env.scope.names.lookup x=some .local:=by first | exact .inl rfl | exact .inr rfl) (hfy:X.fn y=true ∨ X.env.scope.names.lookup y=some .local:=by first | exact .inl rfl | exact .inr rfl)
  (hp:PassesOwn (model X.prog X.w) X.A X.env X.xe:=by exact bD0) (hc:X.calm=true:=by rfl) (hs:∀ x,foldedSetIterable e X.env x=pure x:=by intro _; rfl):QS X (.For (.Tuple [.Name x xp,.Name y yp] kt tp) e body [] pos) (dJ ti (iZ i j) t):=
 U8 hp hc hi (mG hc (gW (eZ hN hx hlx hfx) (gW (eZ hN hy hly hfy) mF))) (sP _ i j) hb hs
noncomputable abbrev dB:Value->Shared->Prop:=fun _ _=>False
section
variable {scope : Scope} {N : List Str} {fr : List (Option Nat)} {x y : Str} {tp xp yp : Pos} {kt : Nat} {iter elt : Expr} {ti : gB}
theorem sW {ifs:List Expr}{tcs:cY} (he:∀ (s:Shared) (H:Hp) (C:Addr) (fp:List Addr),QE (bZ X scope N s H C fp dB) elt te) (hi:∀ (s:Shared) (H:Hp) (C:Addr) (fp:List Addr),lJ (bZ X scope N s H C fp dB) ifs (LT (bZ X scope N s H C fp dB) tcs))
  (hN:N.Nodup) (h0:N[0]? = some x) (hl:∀ (s:Shared) (H:Hp) (C:Addr) (fp:List Addr),(bZ X scope N s H C fp dB).env.scope.names.lookup x=some .local) (s:Shared) (H:Hp) :
  nL X scope N (.Name x tp) ifs elt s H (cQ 0) (LT (X.frm H) tcs) (LE (X.frm H) te):=
 ⟨fun C fp=>eZ (X:=bZ X scope N s H C fp dB) hN h0 (.inl (hl s H C fp)) (.inr (hl s H C fp)),fun C fp=>hi s H C fp,fun C fp=>he s H C fp⟩
theorem qN {Y:Cx}:lJ Y [] (LT Y e9):=fun pins s σ H Q I h=>pN pins s σ H Q I (aH8 h)
theorem sX (hi:QI X (.Name x tp) iter ti) (he:∀ (s:Shared) (H:Hp) (C:Addr) (fp:List Addr),QE (bZ X scope N s H C fp dB) elt te)
  (hc:X.calm=true:=by rfl) (S:cX X scope N fr:=by exact cX.of rfl rfl) (hN:N.Nodup:=by decide +kernel) (h0:N[0]? = some x:=by rfl) (hl:∀ (s:Shared) (H:Hp) (C:Addr) (fp:List Addr),(bZ X scope N s H C fp dB).env.scope.names.lookup x=some .local:=by intro _ _ _ _; rfl) (hf:fr[0]? = some none:=by rfl)
  (hs:∀ x,foldedSetIterable iter X.env x=pure x:=by intro _; rfl):QE X (.ListComp elt [⟨.Name x tp,iter,[],0⟩] scope pos) (cS ti fr (bO 0) e9 te):=
 cN (wA (gh:=fun _=>cQ 0) (tch:=fun H=>LT (X.frm H) e9) (teh:=fun H=>LE (X.frm H) te) hc S hi (sW he (fun _ _ _ _=>qN) hN h0 hl) hs) fun _ _ _=>nV (pY _ 0) (fun i e=>by subst e; exact hf)
theorem jL {c:Expr}{tcs:cY} (hi:QI X (.Name x tp) iter ti) (ht:∀ (s:Shared) (H:Hp) (C:Addr) (fp:List Addr),QT (bZ X scope N s H C fp dB) c tcs) (he:∀ (s:Shared) (H:Hp) (C:Addr) (fp:List Addr),QE (bZ X scope N s H C fp dB) elt te)
  (hc:X.calm=true:=by rfl) (S:cX X scope N fr:=by exact cX.of rfl rfl) (hN:N.Nodup:=by decide +kernel) (h0:N[0]? = some x:=by rfl) (hl:∀ (s:Shared) (H:Hp) (C:Addr) (fp:List Addr),(bZ X scope N s H C fp dB).env.scope.names.lookup x=some .local:=by intro _ _ _ _; rfl) (hf:fr[0]? = some none:=by rfl)
  (hs:∀ x,foldedSetIterable iter X.env x=pure x:=by intro _; rfl):QE X (.ListComp elt [⟨.Name x tp,iter,[c],0⟩] scope pos) (cS ti fr (bO 0) tcs te):=
 cN (wA (gh:=fun _=>cQ 0) (tch:=fun H=>LT (X.frm H) tcs) (teh:=fun H=>LE (X.frm H) te) hc S hi (sW he (fun s H C fp=>aA4 (ht s H C fp)) hN h0 hl) hs) fun _ _ _=>nV (pY _ 0) (fun i e=>by subst e; exact hf)
theorem aL5 {i:Nat}{z:Str}{zp:Pos} (nd:X.N.Nodup) (hi:QI X (.Name x tp) iter ti) (he:∀ (s:Shared) (H:Hp) (C:Addr) (fp:List Addr),QE (bZ X scope N s H C fp dB) elt te)
  (hz:X.N[i]? = some z:=by rfl) (hzl:X.env.scope.names.lookup z=some .local:=by rfl) (hsw:swapsWith (.ListComp elt [⟨.Name x tp,iter,[],0⟩] scope p2) (some (.Name z zp)) pos.line X.env=pure true:=by rfl)
  (hc:X.calm=true:=by rfl) (S:cX X scope N fr:=by exact cX.of rfl rfl) (hN:N.Nodup:=by decide +kernel) (h0:N[0]? = some x:=by rfl) (hl:∀ (s:Shared) (H:Hp) (C:Addr) (fp:List Addr),(bZ X scope N s H C fp dB).env.scope.names.lookup x=some .local:=by intro _ _ _ _; rfl) (hf:fr[0]? = some none:=by rfl)
  (hs:∀ x,foldedSetIterable iter X.env x=pure x:=by intro _; rfl):QS X (.Assign [.Name z zp] (.ListComp elt [⟨.Name x tp,iter,[],0⟩] scope p2) pos) (b6 i (cS ti fr (bO 0) e9 te)):=
 dS (wB (gh:=fun _=>cQ 0) (tch:=fun H=>LT (X.frm H) e9) (teh:=fun H=>LE (X.frm H) te) hc S hi (sW he (fun _ _ _ _=>qN) hN h0 hl) nd hz hzl hsw hs) fun D σ H h=>nV (pY _ 0) (fun i e=>by subst e; exact hf) (x0 h)
theorem aL6 {i:Nat}{z:Str}{zp:Pos} (nd:X.N.Nodup) (hi:QI X (.Name x tp) iter ti) (he:∀ (s:Shared) (H:Hp) (C:Addr) (fp:List Addr),QE (bZ X scope N s H C fp dB) elt te)
  (hz:X.N[i]? = some z:=by rfl) (hzl:X.env.scope.names.lookup z=some .local:=by rfl) (hsw:swapsWith (.ListComp elt [⟨.Name x tp,iter,[],0⟩] scope p2) (some (.Name z zp)) pos.line X.env=pure true:=by rfl)
  (hc:X.calm=true:=by rfl) (S:cX X scope N fr:=by exact cX.of rfl rfl) (hN:N.Nodup:=by decide +kernel) (h0:N[0]? = some x:=by rfl) (hl:∀ (s:Shared) (H:Hp) (C:Addr) (fp:List Addr),(bZ X scope N s H C fp dB).env.scope.names.lookup x=some .local:=by intro _ _ _ _; rfl) (hf:fr[0]? = some none:=by rfl)
  (hs:∀ x,foldedSetIterable iter X.env x=pure x:=by intro _; rfl):QS X (.Assign [.Name z zp] (.ListComp elt [⟨.Name x tp,iter,[],0⟩] scope p2) pos) (cZ i (cS ti fr (bO 0) e9 te)):=
 dS (wB (gh:=fun _=>cQ 0) (tch:=fun H=>LT (X.frm H) e9) (teh:=fun H=>LE (X.frm H) te) hc S hi (sW he (fun _ _ _ _=>qN) hN h0 hl) nd hz hzl hsw hs) fun D σ H h=>nV (pY _ 0) (fun i e=>by subst e; exact hf) (S3 h)
end
theorem aL7:nG X "list.extend" (S4 X.K):=fun pins s σ H x xs v us Q I rx rs h=>h.elim (ax8 pins s σ H x xs v us Q I rx rs) (aD7 pins s σ H x xs v us Q I rx rs)
theorem V5 (i:Nat) {x:Str}{apos cpos xpos:Pos} (he:QE X e te) (hN:X.N[i]? = some x:=by rfl) (hv:i9 X.env.scope x:=by first | exact Or.inl rfl | exact Or.inr (Or.inl rfl) | exact Or.inr (Or.inr rfl)) (hd:(x == ("__debug__" : Str))=false:=by decide) (hcd:(x == ("__classdict__" : Str))=false:=by decide)
  (hbase:attributeBase (.Name x xpos) "extend" X.env (eval (.Name x xpos) X.env)=eval (.Name x xpos) X.env:=by rfl)
  (hfew:((backTo cpos (starEach [e] X.env)).all (fun x=>!x.1) && (backToKw cpos (keywordEach [] X.env)).all (fun x=>x.1.isSome) && decide (([e]:List Expr).length+([]:List Keyword).length+(if ([]:List Keyword).isEmpty then 0 else 1) < 30))=true:=by rfl)
  (hline:(apos.endLine == cpos.line)=true:=by rfl) (hs:starEach [e] X.env=(false,eval e X.env) :: starEach [] X.env:=by rfl) (hplain:(backTo cpos (starEach [] X.env)).any (·.1)=false:=by rfl)
  (hsw:swapsWith (.Call (.Attribute (.Name x xpos) "extend" apos) [e] [] cpos) none pos.line X.env=pure false:=by rfl) :
  QS X (.Expr (.Call (.Attribute (.Name x xpos) "extend" apos) [e] [] cpos) pos) (sL i te):=
 dS (lC (mH bv6 PySem.F.slot_list_extend PySem.F.type_list_extend aL7 (jT hN hv hd hcd) (cW he dP hs) hbase hfew hline hs hplain) hsw) fun _ _ _=>aF8
theorem V6 (i:Nat) {x:Str}{apos cpos xpos:Pos} (he:QE X e te) (hm:M1 X (.Name x xpos) "update" apos e cpos:=by exact⟨rfl,rfl,rfl,rfl⟩) (hN:X.N[i]? = some x:=by rfl) (hv:i9 X.env.scope x:=by first | exact Or.inl rfl | exact Or.inr (Or.inl rfl) | exact Or.inr (Or.inr rfl)) (hd:(x == ("__debug__" : Str))=false:=by decide) (hcd:(x == ("__classdict__" : Str))=false:=by decide)
  (hsw:swapsWith (.Call (.Attribute (.Name x xpos) "update" apos) [e] [] cpos) none pos.line X.env=pure false:=by rfl):QS X (.Expr (.Call (.Attribute (.Name x xpos) "update" apos) [e] [] cpos) pos) (sQ i te):=
 dS (lC (aD5 (jT hN hv hd hcd) he hm) hsw) fun _ _ _=>aI3
theorem o0 {i:Nat}{x:Str}{xpos tpos:Pos} (hk:QE X a tk) (he:QE X e te) (hN:X.N[i]? = some x:=by rfl) (hv:i9 X.env.scope x:=by first | exact Or.inl rfl | exact Or.inr (Or.inl rfl) | exact Or.inr (Or.inr rfl)) (hd:(x == ("__debug__" : Str))=false:=by decide) (hcd:(x == ("__classdict__" : Str))=false:=by decide)
  (hp:∀ (tx:TE) (tg:TE),PE X (.Name x xpos) tx->PE X a tg->PG X (.Subscript (.Name x xpos) a tpos) (uY tx tg vN):=by intro _ _ h1 h2; exact ar2 h1 h2 aw7)
  (hs:swapsWithSole [.Subscript (.Name x xpos) a tpos] e pos.line X.env=pure false:=by rfl) (hw:swappedStores [.Subscript (.Name x xpos) a tpos] e X.env=pure none:=by rfl) :
  QS X (.Assign [.Subscript (.Name x xpos) a tpos] e pos) (jX i tk te):=dS (C9 he (hp _ _ (jT hN hv hd hcd) hk) hs hw) fun _ _ _=>aF9
end
end PP
namespace SO
open PySem PyProof.Rows
variable {rk : Keyed → Int}
section
variable {κ : SortKind} {a0 : Array Keyed} {pd : Array (Nat × Nat × Nat)} {st : SortSt} {prog : Program} {w : World} {A : Around} {E : Value → Shared → Prop} {s : Shared} {Ok : Keyed → Prop}
noncomputable abbrev DS:=Option (Option Nat) × Nat × Nat
end
noncomputable abbrev LS:=Option (Array Keyed) × Array Keyed × Nat × Nat × Nat × Nat × Nat
noncomputable abbrev LO:=Option (Array Keyed) × Array Keyed × Nat × Nat × Nat
variable {rk : Keyed → Int} {xs ys o : List Keyed} {i j : Nat}
variable {rk : Keyed → Int} {xs ys o : List Keyed} {i j : Nat}
variable {rk : Keyed → Int}
noncomputable def Ch:Nat->List (Nat × Nat)->Nat->Prop
 | a,[],b=>a=b
 | a,(p,n) :: r,b=>p=a/\0 < n/\Ch (a+n) r b
variable {rk : Keyed → Int} {κ : SortKind} {a0 : Array Keyed} {pd : Array (Nat × Nat × Nat)} {st : SortSt} {prog : Program} {w : World} {A : Around} {E : Value → Shared → Prop} {s : Shared} {Ok : Keyed → Prop}
end SO
namespace L2
open PySem PySem.Spec PyProof.Rows
theorem cD.at {P:Program}{w:World}{H:Hp}{h:Heap}{a:Addr}{o:HO} (x:cD P w H h a o):∃ ob,h.get? a=some ob:=by
 cases o with
 | lst xs=>obtain ⟨_,_,_,_,e⟩:=x; exact⟨_,e⟩
 | tup xs=>obtain ⟨_,_,_,⟨_,e,_⟩,_⟩:=x; exact⟨_,e⟩
 | dK kvs=>obtain ⟨_,_,_,_,_,_,_,e,_⟩:=x; exact⟨_,e⟩
 | dT kvs=>obtain ⟨_,_,_,_,_,_,_,e,_⟩:=x; exact⟨_,e⟩
 | set S n=>obtain ⟨_,_,_,_,e,_⟩:=x; exact⟨_,e⟩
 | ins C dx fs=>obtain ⟨_,_,_,e,_⟩:=x; exact⟨_,e⟩
 | own y=>exact x
 | xd fs=>obtain ⟨_,⟨_,_,_,e,_⟩,_⟩:=x; exact⟨_,e⟩
 | rng lo hi=>obtain ⟨_,_,_,e⟩:=x; exact⟨_,e⟩
 | frz ob u=>obtain ⟨e,_⟩:=x; exact⟨_,e⟩
 | tbl ps=>exact⟨_,x⟩
 | met f y=>exact⟨_,x⟩
 | ext φ=>exact x.2.1
structure mV (P:Program) (w:World) (outer:List Env) (H:Hp) (s:Shared) (H':Hp) (B:Heap) (a C:Addr) (s':Shared):Prop where
 os:s'.os=s.os
 bare:AllBare s'.gens
 un:Un (c9 outer) [] H H' s.heap s'.heap
 hok:cE P w H' s'.heap
 fly:∃ a0,Heap.FlyingW B outer a (.ref C) a0 s'.heap
 b0:∀ b o,s.heap.get? b=some o->b ∉ c9 outer->∃ o',B.get? b=some o'
 b1:∀ b o,s.heap.get? b=some o->H b=none->b ∉ c9 outer->B.get? b=some o
 b2:∀ b u o,H' b=some u->s'.heap.get? b=some o->B.get? b=some o
noncomputable def fG (P:Program) (w:World):iR:=fun outer H s E e s'=>∃ (H':Hp) (B:Heap) (a C:Addr),e = .ref a/\mV P w outer H s H' B a C s'/\E (.ref C) none H'
section
variable {P : Program} {w : World} {outer : List Env} {H H' : Hp} {s s' : Shared} {B h2 : Heap} {a C : Addr}
theorem mV.fresh (f:mV P w outer H s H' B a C s'):H' a=none:=by
 cases q:H' a with
 | none=>rfl
 | some u=>
  obtain ⟨ob,e⟩:=(f.hok a u q).at
  have z:=f.b2 a u ob q e
  obtain ⟨_,_,n,_⟩:=f.fly
  rw [n] at z; cases z
theorem mV.hok2 (f:mV P w outer H s H' B a C s') (k:B.StaysIn h2):cE P w H' h2:=fun b u e=>
 (f.hok b u e).stay (fun c v hc q=>by
  rcases hc with z | z
  ·subst z; exact k _ _ (f.b2 _ _ _ e q)
  ·exact k _ _ (f.b2 _ _ _ z q)) (fun _ q=>q) fun _ _ q=>q
end
section
variable {P : Program} {w : World} {K : PySem.W.Frag} {mg : Str → Option Value} {base : Heap} {N : List Str} {qual : Str} {scope : Scope} {f : Addr} {cd : Value} {A : Around} {outer : List Env} {s₀ : Shared} {H₀ : Hp} {E₀ E₁ : XK}
theorem sY {pins:List (Addr × Obj)}{σ:St}{H:Hp}{s:Shared} (I:a8 (e8 (fG P w) P w K mg base N qual scope f cd A outer s₀ H₀ E₀) pins σ H s) {b:Addr}{o:Obj} (e:s₀.heap.get? b=some o) (n:b ∉ c9 outer) :
  b ∉ c9 (envOfC qual scope s₀.heap.objs.size f cd :: outer):=fun z=>by
 rcases bo3.mp (I.stkSub b z) with y | y
 ·have l:=bp5 e
  have y:b=s₀.heap.objs.size:=y
  exact absurd l (by rw [y]; exact bt0 _)
 ·exact n y
theorem aL8 (hE:∀ c d H',E₁ c d H'->E₀ c d H'):pA (fG P w) (e8 (fG P w) P w K mg base N qual scope f cd A outer s₀ H₀ E₀) E₁:=by
 intro pins σ H s e s' I hx
 obtain ⟨H',B,a,C,e1,fl,q⟩:=hx
 subst e1
 have I':=I.call' fl.os fl.un fl.hok fl.bare (ch:=[]) (fun b z=>absurd z (by simp))
 obtain ⟨a0,fly⟩:=fl.fly
 refine wpAny_leaves_onW I.ok.frames rfl fly fun h' fly' up=>?_
 have slot:∀ b o,s₀.heap.get? b=some o->b ∈ c9 outer->∃ sl,h'.get? b=some { o with slots:=sl }:=fun b o e hb=>by
  obtain ⟨sl,e1⟩:=I'.base.slot b o e (I.ok.frf b hb) hb (fun z=>nomatch z)
  obtain ⟨_,o2,e2,nf⟩:=I.ok.funs.mem hb
  rw [show (e8 (fG P w) P w K mg base N qual scope f cd A outer s₀ H₀ E₀).s₀=s₀ from rfl,e] at e2
  cases e2
  obtain ⟨sl',e3⟩:=up b _ e1 nf
  exact⟨sl',e3⟩
 have old:∀ b o,s₀.heap.get? b=some o->H₀ b=none->b ∉ c9 outer->B.get? b=some o:=fun b o e n hb=>
  fl.b1 b o (I.base.keep b o e n hb (fun z=>nomatch z)) (I.base.free b o e n (fun z=>nomatch z)) (sY I e hb)
 have old0:∀ b o,s₀.heap.get? b=some o->b ∉ c9 outer->∃ o',B.get? b=some o':=fun b o e hb=>by
  obtain ⟨o1,e1⟩:=I.base.there b o e (fun z=>nomatch z)
  exact fl.b0 b o1 e1 (sY I e hb)
 refine⟨H',B,a,C,rfl,⟨I'.os,I'.bare,⟨fun b o e n hb _=>fly'.1 _ _ (old b o e n hb),fun b o e n hb _=>slot b o e hb,fun b o e n hx=>I'.base.free b o e n hx,fun b o e _=>?_,I'.base.tups,I'.base.frzs,I'.base.tbls⟩,fl.hok2 fly'.1,⟨a0,fly'⟩,old0,old,fun b u o e h=>?_⟩,hE _ _ _ q⟩
 ·by_cases hb:b ∈ c9 outer
  ·obtain ⟨sl,e1⟩:=slot b o e hb
   exact⟨_,e1⟩
  ·obtain ⟨o',e1⟩:=old0 b o e hb
   exact⟨o',fly'.1 _ _ e1⟩
 ·obtain ⟨ob,e1⟩:=(fl.hok b u e).at
  have e2:=fl.b2 b u ob e e1
  have e3:=fly'.1 _ _ e2
  have h:h'.get? b=some o:=h
  rw [h] at e3; cases e3; exact e2
theorem aL9 {pins:List (Addr × Obj)}{σ:St}{H:Hp}{s:Shared}{h':Heap}{e C:Addr}{args:List Value} (I:a8 (e8 (fG P w) P w K mg base N qual scope f cd A outer s₀ H₀ E₀) pins σ H s) (mx:Heap.MadeExcOf s.heap h' e (.ref C) args) (q:E₀ (.ref C) none H) :
  (e8 (fG P w) P w K mg base N qual scope f cd A outer s₀ H₀ E₀).xe (.ref e) { s with heap:=h' }:=by
 have tr:∀ b u,H b=some u->b ∉ c9 (envOfC qual scope s₀.heap.objs.size f cd :: outer):=fun b u z n=>by
  rw [I.stkFree b n] at z; cases z
 have inB:∀ b o,s.heap.get? b=some o->b ∉ c9 (envOfC qual scope s₀.heap.objs.size f cd :: outer)->(PySem.W.hideAll s.heap (c9 (envOfC qual scope s₀.heap.objs.size f cd :: outer))).get? b=some o:=fun b o z n=>PySem.W.hideAll_get _ z n
 refine wpAny_leaves_madeW (base:=PySem.W.hideAll s.heap (c9 (envOfC qual scope s₀.heap.objs.size f cd :: outer))) I.ok.frames rfl (fun b o z=>PySem.W.of_hideAll _ z) (PySem.W.funFrames_hide I.stack fun env he b hb=>List.mem_filterMap.mpr ⟨env,he,hb⟩) mx fun h'' t fly _ _ up=>?_
 have slot:∀ b o,s₀.heap.get? b=some o->b ∈ c9 outer->∃ sl,h''.get? b=some { o with slots:=sl }:=fun b o e hb=>by
  obtain ⟨sl,e1⟩:=I.base.slot b o e (I.ok.frf b hb) hb (fun z=>nomatch z)
  obtain ⟨_,o2,e2,nf⟩:=I.ok.funs.mem hb
  rw [show (e8 (fG P w) P w K mg base N qual scope f cd A outer s₀ H₀ E₀).s₀=s₀ from rfl,e] at e2
  cases e2
  obtain ⟨sl',e3⟩:=up b _ (mx.keeps _ _ e1) nf
  exact⟨sl',e3⟩
 have old:∀ b o,s₀.heap.get? b=some o->H₀ b=none->b ∉ c9 outer->(PySem.W.hideAll s.heap (c9 (envOfC qual scope s₀.heap.objs.size f cd :: outer))).get? b=some o:=fun b o e n hb=>
  inB b o (I.base.keep b o e n hb (fun z=>nomatch z)) (sY I e hb)
 have old0:∀ b o,s₀.heap.get? b=some o->b ∉ c9 outer->∃ o',(PySem.W.hideAll s.heap (c9 (envOfC qual scope s₀.heap.objs.size f cd :: outer))).get? b=some o':=fun b o e hb=>by
  obtain ⟨o1,e1⟩:=I.base.there b o e (fun z=>nomatch z)
  exact⟨o1,inB b o1 e1 (sY I e hb)⟩
 refine⟨H,_,e,C,rfl,⟨I.os,I.bare,⟨fun b o e n hb _=>fly.1 _ _ (old b o e n hb),fun b o e n hb _=>slot b o e hb,fun b o e n hx=>I.base.free b o e n hx,fun b o e _=>?_,I.base.tups,I.base.frzs,I.base.tbls⟩,fun b u z=>?_,⟨_,fly⟩,old0,old,fun b u o z h=>?_⟩,q⟩
 ·by_cases hb:b ∈ c9 outer
  ·obtain ⟨sl,e1⟩:=slot b o e hb
   exact⟨_,e1⟩
  ·obtain ⟨o',e1⟩:=old0 b o e hb
   exact⟨o',fly.1 _ _ e1⟩
 ·refine (I.hok b u z).stay (fun c v hc y=>?_) (fun _ y=>y) fun _ _ y=>y
  rcases hc with z' | z'
  ·subst z'; exact fly.1 _ _ (inB _ _ y (tr _ _ z))
  ·exact fly.1 _ _ (inB _ _ y (tr _ _ z'))
 ·obtain ⟨ob,e1⟩:=(I.hok b u z).at
  have e2:=inB b ob e1 (tr b u z)
  have e3:=fly.1 _ _ e2
  have h:h''.get? b=some o:=h
  rw [h] at e3; cases e3; exact e2
end
structure o4 (X:Cx) (E:XK):Prop where
 pass:pA (fG X.prog X.w) X E
 made:∀ (pins:List (Addr × Obj)) (σ:St) (H:Hp) (s:Shared) (h':Heap) (e C:Addr) (args:List Value),a8 X pins σ H s->Heap.MadeExcOf s.heap h' e (.ref C) args->E (.ref C) none H->X.xe (.ref e) { s with heap:=h' }
 own:PassesOwn (model X.prog X.w) X.A X.env X.xe
theorem aM0 {P:Program}{w:World}{K:PySem.W.Frag}{mg:Str->Option Value}{base:Heap}{N:List Str}{qual:Str}{scope:Scope}{f:Addr}{cd:Value}{A:Around}{outer:List Env}{s₀:Shared}{H₀:Hp}{E₀ E₁:XK} (hE:∀ c d H',E₁ c d H'->E₀ c d H') :
  o4 (e8 (fG P w) P w K mg base N qual scope f cd A outer s₀ H₀ E₀) E₁:=
 ⟨aL8 hE,fun _ _ _ _ _ _ _ _ I mx q=>aL9 I mx (hE _ _ _ q),PassesOwn.leaving⟩
noncomputable def V7 (E:XK) (C:Addr) (t:TA):TS:=fun _ σ H=>t σ H fun vs H1=>vs.length<=sizeLine/\E (.ref C) none H1
theorem aM1 {X:Cx}{E:XK}{x:Str}{C:Addr}{bm:List Value}{B newId initId:String}{np cpos pos:Pos}{e:Expr}{es:List Expr}{t:TA} (hX:o4 X E) (hc:X.calm=true) (O:OwnCls x C bm newId X.mg X.base) (FB:ExcBaseFacts B newId initId bm) (ha:PA X (e :: es) t) (hg:Gl X x)
  (hd:(x == ("__debug__" : Str))=false:=by decide) (he:starEach (e :: es) X.env=(false,eval e X.env) :: starEach es X.env:=by rfl) (hpl:(backTo cpos (starEach es X.env)).any (·.1)=false:=by rfl) :
  PS X (.Raise (some (.Call (.Name x np) (e :: es) [] cpos)) none pos) (V7 E C t):=by
 intro pins s σ H D I h
 obtain ⟨tl,Na,nm,qn,bs,hx,sn,sub,ab,col,dd,k0,k1,k2,k3,k5,mN,hC,hN,hni,T⟩:=O.obj
 refine wpAny_Raise_call_subT (nm:=nm) (q:=qn) (N:=Na) (bs:=bs) (bm:=tl) (hdct:=hx) (sn:=sn) (sub:=sub) (ab:=ab) (col:=col) (dd:=dd) (k0:=k0) (k1:=k1) (k2:=k2) (k3:=k3) (k5:=k5) FB (C:=C) (mN:=mN) (T.hasType FB.hasBase) (I.ok.hd hc) (by rw [he]; show (false || (backTo cpos (starEach es X.env)).any (·.1))=false; rw [hpl]; rfl) hni (oV I hg O.bound ⟨rfl,?_⟩ hd)
 have h1:=ha cpos pins s σ H _ I h
 rw [he] at h1 ⊢
 refine Calls.evalArgs_plain (bw9 h1 (fun us s2 h2=>?_) fun _ _ y=>y)
 obtain ⟨vs,H2,I2,r,hl,q⟩:=h2
 have r:aR vs us:=r
 exact⟨rfl,by show us.length<=sizeLine; rw [<- r.length]; exact hl,I2.bk _ _ hC,hN.keeps I2.bk,T.keeps I2.bk,fun h' e' mx=>hX.made pins σ H2 s2 h' e' C _ I2 mx q⟩
theorem fZ.okX {P:Program}{w:World}{K:PySem.W.Frag}{mg:Str->Option Value}{base:Heap}{x qual:Str}{st:Stmt}{f:Addr}{fd:FuncData}{N ps:List Str}{k:Nat}{sp:Sp} (F:fZ K x qual st f fd) (S:FnScope N ps (aY st)) (len:∀ vs H Q E,sp vs H Q E->vs.length=ps.length)
  (hbody:∀ (cdv:Value) (A:Around) (outer:List Env) (s:Shared) (H:Hp) (vs:List V) (Q:VK) (E:XK),cL k (A.deeper (envOfC qual (aY st) s.heap.objs.size f cdv))->sp vs H Q E->
   ∃ t,eO (e8 (fG P w) P w K mg base N qual (aY st) f cdv A outer s H E) (fY st) t/\t { nx:=fun _ H'=>Q .non H',rt:=Q } (start N vs) H):dD P w K mg base (fG P w) (k+1) f fd ps sp:=by
 obtain ⟨oc,od,kV,doc,pm,an,cdv,ct,osl,rfl,lk,hcd⟩:=F.ex
 exact G7 lk hcd S len fun A outer s H vs Q E hr hsp=>hbody cdv A outer s H vs Q E hr hsp
section
variable {X : Cx} {pins : List (Addr × Obj)} {σ : St} {H H1 H' : Hp} {s s1 s' : Shared} {B h2 : Heap} {a C : Addr}
theorem V8 {oe:Obj} (I:a8 X pins σ H1 s1) (fl:mV X.prog X.w X.stack H1 s1 H' B a C s') (st:B.StaysIn h2) (up:s'.heap.UpToSlots h2) (he:h2.get? a=some oe) :
  a8 X pins σ (upd H' a (.frz oe (.own a))) { s' with heap:=h2 }:=by
 obtain ⟨a0,fly⟩:=fl.fly
 have na:B.get? a=none:=fly.2.1
 have nf:a ∉ c9 X.stack:=fun z=>by
  obtain ⟨_,o,e,d⟩:=fly.2.2.1.mem z
  obtain ⟨o2,vs,e2,_,d2,_⟩:=fly.first
  rw [e] at e2; cases e2
  exact d vs d2
 have nb:∀ b o,s1.heap.get? b=some o->b ≠ a:=fun b o e z=>by
  subst z
  obtain ⟨o',e'⟩:=fl.b0 _ o e nf
  rw [na] at e'; cases e'
 have nt:∀ b u,H' b=some u->b ≠ a:=fun b u e z=>by
  subst z; rw [fl.fresh] at e; cases e
 have off:∀ b,b ≠ X.env.locals->b ∉ X.fs->b ∉ c9 X.stack:=fun b n1 n2 z=>(bo3.mp (I.stkSub b z)).elim n1 n2
 have slot:∀ b o,s1.heap.get? b=some o->b ∈ c9 X.stack->∃ sl,h2.get? b=some { o with slots:=sl }:=fun b o e hb=>by
  obtain ⟨sl,e1⟩:=fl.un.any e (I.stkFree b hb) (fun z=>nomatch z)
  obtain ⟨_,o2,e2,d⟩:=I.stack.mem hb
  rw [e] at e2; cases e2
  obtain ⟨sl',e3⟩:=up b _ e1 d
  exact⟨sl',e3⟩
 have ns:∀ m,s1.heap.Ns X.env.locals m->h2.Ns X.env.locals m:=fun m hm=>by
  obtain ⟨o,es,ep,e,r⟩:=hm
  obtain ⟨sl,e1⟩:=fl.un.any e I.free (fun z=>nomatch z)
  exact up.ns ⟨_,es,ep,e1,r⟩
 have hok:cE X.prog X.w (upd H' a (.frz oe (.own a))) h2:=fun b u e=>by
  by_cases hb:b=a
  ·subst hb; rw [bN] at e; cases e; exact⟨he,_,he⟩
  ·rw [aX hb] at e
   exact (fl.hok2 st b u e).stay (fun _ _ _ q=>q) (fun c q=>by rw [aX (nt c _ q)]; exact q) fun c xs q=>by rw [aX (nt c _ q)]; exact q
 have bare:=fl.bare
 have un:=fl.un
 have b0:=fl.b0
 have b1:=fl.b1
 have os:=fl.os
 clear fl fly up
 obtain ⟨hh,g,d,t,os'⟩:=s'
 obtain rfl:os'=s1.os:=os
 show a8 X pins σ _ { s1 with heap:=h2,gens:=g,drawn:=d,toks:=t }
 refine I.step (h':=h2) (g':=g) (d':=d) (t':=t) (ch:=[]) (fun _ z=>nomatch z) (fun b o n1 n2 _ e n=>st _ _ (b1 b o e n (off b n1 n2))) (fun b o n1 hb _ e n=>?_) (fun b o _ e n=>by rw [aX (nb b o e)]; exact un.free b o e n (fun z=>nomatch z)) (fun b o _ e=>?_)
  (fun b xs q=>by rw [aX (nt b _ (un.tups b xs q))]; exact un.tups b xs q) (fun b o u q=>by rw [aX (nt b _ (un.frzs b o u q))]; exact un.frzs b o u q) (fun b ps q=>by
   obtain ⟨more,q'⟩:=un.tbls b ps q
   exact⟨more,by rw [aX (nt b _ q')]; exact q'⟩) ns hok bare
 ·by_cases hs:b ∈ c9 X.stack
  ·exact slot b o e hs
  ·exact⟨o.slots,st _ _ (b1 b o e n hs)⟩
 ·by_cases hb:b ∈ c9 X.stack
  ·obtain ⟨sl,e1⟩:=slot b o e hb
   exact⟨_,e1⟩
  ·obtain ⟨o',e1⟩:=b0 b o e hb
   exact⟨o',st _ _ e1⟩
noncomputable abbrev Cx.suite (X:Cx) (a:Addr):Cx:={ X with A:=X.A.mark (some (.ref a)),calm:=false,xe:=fun _ _=>False }
theorem Cx.Ok.suite {X:Cx} (ok:X.Ok) (a:Addr):(X.suite a).Ok:=
 ⟨ok.mod,ok.kind,ok.glob,ok.blt,ok.above,ok.inj,ok.has,ok.cab,fun z=>Bool.noConfusion z,ok.frames,ok.stk,ok.exf,ok.bs,ok.bsz,ok.noex,ok.exfs,ok.funs,ok.frf⟩
theorem a8.suite (I:a8 X pins σ H s) (a:Addr):a8 (X.suite a) pins σ H s:=⟨I.ok.suite a,I.os,I.bare,I.base,I.loc,I.cell,I.free,I.freeC,I.pin,I.hok,I.len⟩
theorem a8.unsuite (I:a8 (X.suite a) pins σ H s) (ok:X.Ok):a8 X pins σ H s:=⟨ok,I.os,I.bare,I.base,I.loc,I.cell,I.free,I.freeC,I.pin,I.hok,I.len⟩
theorem sZ {M:Model}{A:Around}{E:Value->Shared->Prop}{i:Nat}{x:Str}{pos:Pos}{Q:Unit->Shared->Prop} (I:a8 X pins σ H s) (hN:X.N.Nodup) (hi:X.N[i]? = some x) (hk:X.env.scope.names.lookup x=some .local)
  (h:∀ s',a8 X pins (σ.set i none) H s'->Q () s'):wpAny M A (do bindName X.env x .none; unbindBehindTheSuite X.env x pos) Q E s:=by
 obtain ⟨m,hn,hl⟩:=id I.loc
 obtain ⟨oL,_,_,hoL,_⟩:=id hn
 have ab:∀ b o,X.s₀.heap.get? b=some o->b ≠ X.env.locals:=fun b o e=>br7 (bp4 (bp5 e) I.ok.above)
 refine wpAny_nameGoes_keeps hk hn (by rw [I.ok.kind]; rfl) fun h' v hn' hs=>?_
 refine h _ ⟨I.ok,I.os,I.bare,⟨fun b o e n hb hx=>(hs.2 b (ab b o e)).trans (I.base.keep b o e n hb hx),fun b o e n hb hx=>?_,I.base.free,fun b o e hx=>?_,I.base.tups,I.base.frzs,I.base.tbls⟩,⟨_,hn',fun j y v' e1 e2 e3=>?_⟩,fun y c e=>?_,I.free,I.freeC,fun p hp=>?_,fun b u e=>?_,by simpa using I.len⟩
 ·obtain ⟨sl,e1⟩:=I.base.slot b o e n hb hx
  exact⟨sl,(hs.2 b (ab b o e)).trans e1⟩
 ·obtain ⟨o',e1⟩:=I.base.there b o e hx
  exact⟨o',(hs.2 b (ab b o e)).trans e1⟩
 ·by_cases hj:j=i
  ·subst hj
   have hjl:j < σ.length:=by rw [I.len]; exact (bn8.mp hi).1
   rw [bv0 hjl] at e2
   cases e2
  ·rw [bq8 (Ne.symm hj)] at e2
   obtain ⟨u',r',q⟩:=hl j y v' e1 e2 e3
   refine⟨u',r',?_⟩
   rcases q with ⟨k,e⟩ | ⟨k,c,e,z⟩
   ·have ny:y ≠ x:=fun z=>hj (uU hN e1 (z ▸ hi))
    exact .inl ⟨k,by simp [ny,e]⟩
   ·exact .inr ⟨k,c,e,z.sameBut hs (I.cne y c e)⟩
 ·obtain ⟨w',z⟩:=I.cell y c e
  exact⟨w',z.sameBut hs (I.cne y c e)⟩
 ·obtain ⟨e,n,ne,nf,d⟩:=I.pin p hp
  exact⟨(hs.2 p.1 ne).trans e,n,ne,nf,d⟩
 ·refine (I.hok b u e).stay (fun c v hc q=>(hs.2 c fun z=>?_).trans q) (fun _ q=>q) fun _ _ q=>q
  subst z
  rcases hc with z | z
  ·subst z; rw [I.free] at e; cases e
  ·rw [I.free] at z; cases z
theorem aM2 {M:Model}{A:Around}{E:Value->Shared->Prop}{K:PySem.W.Frag}{e C D:Addr}{oe:Obj}{Q:Bool->Shared->Prop} (k:K.In s.heap) (he:s.heap.get? e=some oe) (hc:oe.cls = .ref C) (h1:(PySem.W.clsIn K D).isSome=true) (h2:PySem.W.typeIn K (.ref D)=some (.type "type"))
  (h3:PySem.W.subIn K (.ref D) (.type "BaseException")=some true) (h4:PySem.W.subIn K (.ref C) (.ref D)=some true) (hq:Q true s):wpAny M A (excMatches (.ref e) (.ref D)) Q E s:=by
 obtain ⟨h,g,d,t,os⟩:=s
 have k:K.In h:=k
 have he:h.get? e=some oe:=he
 have l1:PySem.W.Looks M h (isType (.ref D)) true:=by
  unfold PySem.W.clsIn at h1
  split at h1
  ·rename_i c' d' cd' sl' ho
   intro A' Q' E' s' kk q
   unfold isType loadHead
   exact bn3 (wpAny_loadPart (kk _ _ (k _ _ ho)) (bo9 q))
  ·cases h1
 have l2:PySem.W.Looks M h (typeOf (.ref D)) (.type "type"):=PySem.W.looks_typeIn k h2
 have l3:PySem.W.Looks M h (isSubtype (.ref D) (.type "BaseException")) true:=PySem.W.looks_subIn k h3
 have l4:PySem.W.Looks M h (isSubtype (.ref C) (.ref D)) true:=PySem.W.looks_subIn k h4
 have l5:PySem.W.Looks M h (typeOf (.ref e)) (.ref C):=hc ▸ (PySem.W.Looks.ld he).andThen .now
 have l6:PySem.W.Looks M h (isInstance (.ref D) (.type "tuple")) false:=l2.andThen (PySem.W.Looks.of_pure tc_notTuple)
 have l7:PySem.W.Looks M h (isExcClass (.ref D)) true:=by
  unfold isExcClass
  exact l1.andThen (by simpa using l3)
 have f:=tc_notTuple
 unfold excMatches
 repeat (first | exact hq | (with_reducible refine l2.at ?_) | (with_reducible refine l7.at ?_) | (with_reducible refine l1.at ?_) | (with_reducible refine l3.at ?_) | (with_reducible refine l5.at ?_) | (with_reducible refine l4.at ?_) | wp_step)
end
noncomputable def xY (D:cM) (i:Nat):cM:={ nx:=fun σ H=>D.nx (σ.set i none) H,rt:=D.rt,bk:=fun σ H=>D.bk (σ.set i none) H,ct:=fun σ H=>D.ct (σ.set i none) H }
section
variable {X : Cx} {pins : List (Addr × Obj)} {σ : St} {H H1 H' : Hp} {s s1 s' : Shared} {B : Heap} {a C Ch : Addr} {i : Nat} {x n : Str} {np pos hpos : Pos} {b₀ : Stmt} {suite : List Stmt} {ts : TS} {D : cM} {dH : List ExceptHandler}
structure xZ (K:PySem.W.Frag) (Ch:Addr):Prop where
 c1:(PySem.W.clsIn K Ch).isSome=true
 c2:PySem.W.typeIn K (.ref Ch)=some (.type "type")
 c3:PySem.W.subIn K (.ref Ch) (.type "BaseException")=some true
theorem aM3 (I:a8 X pins σ H1 s1) (fl:mV X.prog X.w X.stack H1 s1 H' B a C s') (hstk:X.stack=X.env :: X.outer/\X.env.frame=some X.env.locals) (hg:Gl X x) (hm:X.mg x=some (.ref Ch)) (ct:xZ X.K Ch) (sub:PySem.W.subIn X.K (.ref C) (.ref Ch)=some true)
  (hN:X.N.Nodup) (hi:X.N[i]? = some n) (hl:X.env.scope.names.lookup n=some .local) (hs:eO (X.suite a) (b₀ :: suite) ts) (q:∀ oe:Obj,oe.cls = .ref C->ts (xY D i) (σ.set i (some (.ref a))) (upd H' a (.frz oe (.own a)))) (hd:(x == ("__debug__" : Str))=false) :
  wpAny (model X.prog X.w) X.A (noteFrame (.ref a) X.env) (fun _ s₂=>wpAny (model X.prog X.w) X.A (setFlight (.ref a) none) (fun _ s₃=>wpAny (model X.prog X.w) X.A (handleBy (.ref a) X.env (.ExceptHandler (some (.Name x np)) (some n) (b₀ :: suite) hpos :: dH)) (SP X pins D) X.xe s₃) X.xe s₂) X.xe s':=by
 obtain ⟨a0,fly⟩:=fl.fly
 rw [hstk.1] at fly
 refine wpAny_looks_onW (outer:=X.outer) (L:=X.env.locals) (by rw [I.ok.frames,hstk.1]) hstk.2 fly fun h4 held up4=>wpAny_landsW held fun h5 fly5 up5=>?_
 obtain ⟨o5,v5,e5,c5,_⟩:=fly5.first
 have I5:=V8 I fl fly5.1 (up4.trans up5) e5
 refine wpAny_handleBy_cons (codeAny_handlers_test (oV (I5.suite a) hg hm ?_ hd)) (by intro z; cases z)
 refine aM2 I5.kIn e5 c5 ct.c1 ct.c2 ct.c3 sub ?_
 show codeAny (model X.prog X.w) (X.A.mark (some (.ref a))) (.handlers (.ref a) [.ExceptHandler none (some n) (b₀ :: suite) hpos] X.env) _ _
 refine codeAny_handlers_suite_as (lands_againW fly5 fun h6 fly6 up6=>?_)
 obtain ⟨o6,v6,e6,c6,_⟩:=fly6.first
 have I6:=V8 I fl fly6.1 ((up4.trans up5).trans up6) e6
 refine rE I6 hN hi (.inl hl) (v:=.ref a) rfl (fun s7 I7=>?_) (.inr hl)
 refine bw9 (hs pins s7 _ _ (xY D i) (I7.suite a) (q o6 c6)) (fun f s8 h8=>?_) fun _ _ z=>z.elim
 show wpAny (model X.prog X.w) X.A (do bindName X.env n .none; unbindBehindTheSuite X.env n hpos) (fun _ s9=>SP X pins D f s9) X.xe s8
 cases f with
 | next=>obtain ⟨σ',H',J,q⟩:=h8; exact sZ (J.unsuite I.ok) hN hi hl fun s9 J9=>⟨_,_,J9,q⟩
 | brk=>obtain ⟨σ',H',J,q⟩:=h8; exact sZ (J.unsuite I.ok) hN hi hl fun s9 J9=>⟨_,_,J9,q⟩
 | cont=>obtain ⟨σ',H',J,q⟩:=h8; exact sZ (J.unsuite I.ok) hN hi hl fun s9 J9=>⟨_,_,J9,q⟩
 | ret u=>obtain ⟨v,σ',H',J,r,q⟩:=h8; exact sZ (J.unsuite I.ok) hN hi hl fun s9 J9=>⟨v,_,_,J9,r,q⟩
end
noncomputable abbrev TB:=cM->XK->St->Hp->Prop
noncomputable def XB (X:Cx) (pins:List (Addr × Obj)) (σ:St) (Ex:XK):Value->Shared->Prop:=fun e s'=>∃ H1 s1,a8 X pins σ H1 s1/\fG X.prog X.w X.stack H1 s1 Ex e s'
noncomputable def PB (X:Cx) (sts:List Stmt) (t:TB):Prop:=
 ∀ (pins:List (Addr × Obj)) (s:Shared) (σ:St) (H:Hp) (D:cM) (Ex:XK),a8 X pins σ H s->t D Ex σ H->wpAny (model X.prog X.w) X.A (execs sts X.env) (SP X pins D) (XB X pins σ Ex) s
section
variable {X : Cx} {k : Nat} {f Ch : Addr} {fd : FuncData} {ps : List Str} {sp : Sp} {x n : Str} {p cp pos np hpos : Pos} {e c : Expr} {es : List Expr} {t : TA} {tb ub : TB} {tc : TT} {sa sb body : List Stmt} {i : Nat} {b₀ : Stmt} {suite : List Stmt} {ts : TS}
noncomputable def V9 (K:PySem.W.Frag) (Ch:Addr) (i:Nat) (tb:TB) (ts:TS):TS:=fun D σ H=>
 tb D (fun c _ H'=>∀ (a C:Addr) (oe:Obj),c = .ref C->H' a=none->oe.cls = .ref C->PySem.W.subIn K (.ref C) (.ref Ch)=some true/\ts (xY D i) (σ.set i (some (.ref a))) (upd H' a (.frz oe (.own a)))) σ H
theorem aM4 (hstk:X.stack=X.env :: X.outer/\X.env.frame=some X.env.locals) (hb:PB X body tb) (hg:Gl X x) (hm:X.mg x=some (.ref Ch)) (ct:xZ X.K Ch) (hN:X.N.Nodup) (hi:X.N[i]? = some n) (hl:X.env.scope.names.lookup n=some .local) (hs:∀ a,eO (X.suite a) (b₀ :: suite) ts)
  (hd:(x == ("__debug__" : Str))=false:=by decide):PS X (.Try body [.ExceptHandler (some (.Name x np)) (some n) (b₀ :: suite) hpos] [] [] pos) (V9 X.K Ch i tb ts):=by
 intro pins s σ H D I h
 refine wpAny_Try_except (bw9 (hb pins s σ H D _ I h) (fun fl s1 q=>?_) (fun ev s1 q=>?_))
 ·cases fl with
  | next=>exact wpAny_execs_nil q
  | _=>exact q
 ·obtain ⟨H1,s2,I1,H',B,a,C,e1,fl,q⟩:=q
  subst e1
  obtain ⟨a0,fly⟩:=fl.fly
  obtain ⟨o5,_,_,c5,_⟩:=fly.first
  exact aM3 I1 fl hstk hg hm ct (q a C o5 rfl fl.fresh c5).1 hN hi hl (hs a) (fun oe hc=>(q a C oe rfl fl.fresh hc).2) hd
end
end L2
namespace L2
open PySem PySem.Spec PyProof.Rows PySem.Calls Builtin Builtin.ObjectAttr Builtin.Getset_descriptor
structure kA (K:PySem.W.Frag) (D:Addr):Prop where
 cls:(PySem.W.clsIn K D).isSome=true
 ga:PySem.W.findIn K (.ref D) "__getattribute__" = some (some (.builtin "BaseException.__getattribute__"))
 gt:PySem.W.findIn K (.ref D) "__getattr__" = some none
 fc:PySem.W.findIn K (.ref D) "__class__" = some (some (.builtin "object.__class__"))
 fg:PySem.W.specialIn K (.builtin "object.__class__") "__get__" = some (some (.builtin "getset_descriptor.__get__"))
 ft:PySem.W.takesIn K (.builtin "object.__class__")=some true
 ob:PySem.W.mroIn K D (.type "object")=some true
 be:PySem.W.mroIn K D (.type "BaseException")=some true
noncomputable def lU (h:Heap) (x D:Addr):Prop:=∃ ox:Obj,h.get? x=some ox/\ox.cls = .ref D
theorem lU.type {h:Heap}{x D:Addr}{M:Model} (I:lU h x D):PySem.W.Looks M h (typeOf (.ref x)) (.ref D):=by
 obtain ⟨ox,e,c⟩:=I
 exact c ▸ (PySem.W.Looks.ld e).andThen .now
section
variable {prog : Program} {w : World} {A : Around} {E : Value → Shared → Prop} {K : PySem.W.Frag} {x D : Addr} {h : Heap} {g : Array GenState} {d : Drawn} {t : Nat} {os : OsState}
theorem aM5 {M:Model} (F:kA K D) (k:K.In h):PySem.W.Looks M h (find (.ref x) (.ref D) "__class__") (.bind (.builtin "getset_descriptor.__get__") (.builtin "object.__class__")):=by
 have L1:=PySem.W.looks_findIn (M:=M) k F.fc
 have L2:=PySem.W.looks_specialIn (M:=M) k F.fg
 have L3:=PySem.W.looks_takesIn (M:=M) k F.ft
 unfold find
 refine L1.andThen (PySem.W.Looks.andThen (a:=some (Value.builtin "getset_descriptor.__get__")) L2 ?_)
 refine PySem.W.Looks.andThen (a:=some (Value.builtin "getset_descriptor.__get__",Value.builtin "object.__class__")) ?_ (PySem.W.Looks.tag .now)
 unfold dataDescriptor?
 exact L3.andThen .now
theorem aM6 {tp:Value}{R:Result->Shared->Prop} (F:kA K D) (k:K.In h) (I:lU h x D) (hq:R (.ok (.ret (.ref D))) ⟨h,g,d,t,os⟩):codeAny (model prog w) A (.call (.builtin "getset_descriptor.__get__") ⟨[.builtin "object.__class__",.ref x,tp],[]⟩) R ⟨h,g,d,t,os⟩:=by
 have L0:=I.type (M:=model prog w)
 have L1:=PySem.W.looks_mroIn (M:=model prog w) k F.ob
 refine codeAny_call_builtin PySem.W.KF.slot_gs.plain PySem.W.KF.entry_gs (PySem.W.KF.slot_gs.check _ _ _ _ _ _ _ _ PySem.W.KF.type_class (PySem.W.KF.args_gs _ _ _) ?_)
 unfold Builtin.«getset_descriptor.__get__» descrGet; rw [PySem.W.dga_obj]
 refine bn3 (bo9 ?_); unfold descrGetter descrCheckInstance descrNameAndClass isInstance
 simp only [PySem.W.KF.owner_class]
 repeat lk
 refine⟨Code.quiet_builtin _ (by decide +kernel),codeAny_builtin PySem.W.KF.entry_class ?_⟩; unfold Builtin.«object.__class__» shownTypeOf
 repeat lk
 exact hq
theorem aM7 {M:Model}{nameV:Value}{Q:Unit->Shared->Prop} (F:kA K D) (k:K.In h) (I:lU h x D) (hq:Q () ⟨h,g,d,t,os⟩):wpAny M A (checkBuiltinCall "BaseException.__getattribute__" ⟨[.ref x,nameV],[]⟩) Q E ⟨h,g,d,t,os⟩:=by
 have kd:builtinKind "BaseException.__getattribute__" = some .slot:=by decide +kernel
 have sp:splitId "BaseException.__getattribute__" = some ("BaseException","__getattribute__"):=by decide +kernel
 have L:PySem.W.Looks M h (isInstance (.ref x) (.type "BaseException")) true:=(I.type (M:=M)).andThen (PySem.W.looks_mroIn k F.be)
 have ha:=PySem.F.args_bexc_ga (.ref x) nameV
 simp only [checkBuiltinCall,kd,sp]
 refine bn3 (L.at ?_)
 repeat (any_goals (first | assumption | wp_step))
theorem aM8 {tk:Tok}{Q:Fin->Shared->Prop} (F:kA K D) (k:K.In h) (I:lU h x D) (hq:Q (.done (.ret (.ref D))) ⟨h,g,d,t,os⟩):wpAny (model prog w) A (Builtin.«object.__getattribute__» ⟨[.ref x,.str "__class__" tk],[]⟩) Q E ⟨h,g,d,t,os⟩:=by
 have L0:=I.type (M:=model prog w)
 have L1:=aM5 (M:=model prog w) F k (x:=x)
 refine bn3 (bo9 (bn3 (bo9 (bn3 (L0.at (bn3 (L1.at ?_)))))))
 show wpAny _ _ (holding [_] (call _ _) >>= ret) _ _ _
 exact bn3 (bx4 (wpAny_call (aM6 F k I (bo9 hq))))
theorem aM9 {tk:Tok}{R:Result->Shared->Prop} (F:kA K D) (k:K.In h) (I:lU h x D) (hq:R (.ok (.ret (.ref D))) ⟨h,g,d,t,os⟩):codeAny (model prog w) A (.call (.builtin "BaseException.__getattribute__") ⟨[.ref x,.str "__class__" tk],[]⟩) R ⟨h,g,d,t,os⟩:=
 codeAny_call_builtin PySem.F.excAttr_ValueError.ga.plain PySem.F.entry_bexc_ga (aM7 F k I (aM8 F k I hq))
theorem aN0 {Q:Option Value->Shared->Prop} (F:kA K D) (k:K.In h) (I:lU h x D) (hq:Q (some (.ref D)) ⟨h,g,d,t+1,os⟩):wpAny (model prog w) A (getAttr? (.ref x) "__class__") Q E ⟨h,g,d,t,os⟩:=by
 have L0:=I.type (M:=model prog w)
 have L1:=PySem.W.looks_findIn (M:=model prog w) k F.ga
 have L2:=PySem.W.looks_findIn (M:=model prog w) k F.gt
 have f3:=PySem.F.excAttr_ValueError.ga.bind (.ref x)
 unfold getAttr? getAttrBy? getAttrBy
 refine bn3 (wpAny_mkText (bn3 (wpAny_attempt (bx4 (bn3 (L0.at (bn3 (L1.at ?_))))))))
 have nx:(onTheHeap (Value.ref D) && Value.builtin "BaseException.__getattribute__" == Value.builtin "object.__getattribute__")=false:=by
  rw [show (Value.builtin "BaseException.__getattribute__" == Value.builtin "object.__getattribute__")=false by decide +kernel,by9]
 dsimp only
 rw [if_neg (by rw [nx]; decide)]
 unfold getAttrByItsOwn hookBefore
 repeat (any_goals (first | assumption | (with_reducible refine L2.at ?_) | wp_step))
 exact aM9 F k I (PySem.W.handed_on rfl (bo9 hq))
end
theorem aN1 {K:PySem.W.Frag}{x D:Addr} (F:kA K D):PySem.W.KitX K (.ref x) (.ref D) (fun h=>lU h x D) where
 ty:=fun _ _ _ I=>I.type
 it:=fun M h k _=>by
  have z:=F.cls
  unfold PySem.W.clsIn at z
  split at z
  ·rename_i c' d' cd' sl' ho
   intro A' Q' E' s' kk q
   unfold isType loadHead
   exact bn3 (wpAny_loadPart (kk _ _ (k _ _ ho)) (bo9 q))
  ·cases z
 ne:=fun h tp dd its n sl k htp=>by
  have z:=F.cls
  refine bz0.mpr fun q=>?_
  obtain rfl:D=tp:=Value.ref.inj (beq_iff_eq.mp q)
  unfold PySem.W.clsIn at z
  split at z
  ·rename_i ho
   have y:=(k _ _ ho).symm.trans htp
   cases y
  ·cases z
 ca:=fun {_ _ _ _ _ s} k I q=>by
  obtain ⟨h,g,d,t,os⟩:=s
  exact aN0 F k I q
end L2
namespace L2
open PySem PySem.Spec PyProof.Rows
section
variable {X : Cx}
noncomputable def W0:V->List V->Hp->VK->Prop:=fun x vs H Q=>∃ l xs y,∃ k:Nat,x = .ref l/\vs = [.int k,y]/\H l=some (.lst xs)/\k<=xs.length/\xs.length < sizeLine/\Q .non (upd H l (.lst (xs.take k ++ y :: xs.drop k)))
theorem aN2:nG X "list.insert" W0:=by
 intro pins s σ H x vs v us Q I rx rv h
 obtain ⟨l,xs,y,k,rfl,rfl,hH,hk,hz,q⟩:=h
 obtain ⟨u1,u2,rfl,⟨t,rfl⟩,r2⟩:=rv.two
 obtain rfl:v=Value.ref l:=rx
 obtain ⟨z,its,n,r,hl,e⟩:=I.lstM hH
 have hs:sizeLine=16777216:=sizeLine_eq
 obtain ⟨x,hx⟩:∃ x:Int,x=(k:Int):=⟨_,rfl⟩
 rw [<- hx]
 have hf : ¬(!Builtin.List.listFitsIndex x)=true:=by
  have h1:Builtin.List.listFitsIndex x=true:=by
   unfold Builtin.List.listFitsIndex
   rw [br3]
   exact⟨bn4 (by omega),bn4 (by omega)⟩
  rw [h1]; exact bp9
 have hz2:its.toArray.size<=sizeLine:=by rw [bn5]; omega
 refine call_meets PySem.F.slot_list_insert ⟨_,e,rfl⟩ PySem.F.entry_list_insert (PySem.F.args_list_insert_3 _ _ _) (AutoSeq1.list_insert_list_int_val_1 l its.toArray n x t u2 hf hz2) ⟨e,.non,_,?_,rfl,q⟩
 refine I.lset (its':=its.take k ++ u2 :: its.drop k) hH e ?_ ((r.take k).append (.cons r2 (r.drop k))) ?_
 ·have e1:(if x < 0 then (x+(its.toArray.size:Int)).toNat else min x.toNat its.toArray.size)=k:=by
   rw [if_neg (by omega),bn5]
   omega
  dsimp only
  rw [e1]
  apply Array.toList_inj.mp
  simp only [Array.toList_append,Array.toList_push,Array.toList_extract,List.extract_eq_drop_take]
  simp
  rw [br5 (by rw [bx5]; omega)]
 ·rw [bo0,bp8,bt8,bx5]
  omega
end
end L2
namespace Core
open PySem L2 PP
noncomputable def jM (ns:List Int):Bool:=((ns.zip (ns.drop 1)).map fun p=>decide (p.1 < p.2)).all id
theorem qO {α β:Type}{l:List α}{f:α->β}{i:Nat}{x:α} (h:l[i]? = some x):(l.take (i+1)).map f=(l.take i).map f ++ [f x]:=by
 rw [bs1,h]; simp
theorem fH:∀ {ns:List Int},jM ns=true->ns.Pairwise (· < ·)
 | [],_=>.nil
 | [x],_=>bq2 _ _
 | x :: y :: r,h=>by
  have e:jM (x :: y :: r)=(decide (x < y) && jM (y :: r)):=rfl
  rw [e,br3] at h
  have ih:=fH h.2
  refine bC5.mpr ⟨fun z hz=>?_,ih⟩
  rcases bo3.mp hz with rfl | hz
  ·exact bs3 h.1
  ·exact Int.lt_trans (bs3 h.1) (List.rel_of_pairwise_cons ih hz)
theorem t4:∀ {ns:List Int},ns.Pairwise (· < ·)->jM ns=true
 | [],_=>rfl
 | [x],_=>rfl
 | x :: y :: r,h=>by
  have e:jM (x :: y :: r)=(decide (x < y) && jM (y :: r)):=rfl
  have h':=bC5.mp h
  rw [e,t4 h'.2,bB9]
  exact bn4 (h'.1 y bo4)
noncomputable def kin (ws:List Int) (ls:List (Int × Int)) (S:List Int) (h:Int):Bool:=!decide (h ∈ S) && decide (ws.getD h.toNat 0<=(((aO ls h).filter fun x=>decide (x ∈ S)).length:Int))
noncomputable def nextOf (ws:List Int) (ls:List (Int × Int)) (S:List Int):List Int:=((List.range ws.length).map fun (i:Nat)=>(i:Int)).filter (kin ws ls S)
noncomputable def bI (ws:List Int) (ls:List (Int × Int)) (S:List Int):Nat->List Int
 | 0=>S
 | k+1=>bI ws ls S k ++ nextOf ws ls (bI ws ls S k)
noncomputable def cold (ws:List Int) (S:List Int):Nat:=(((List.range ws.length).map fun (i:Nat)=>(i:Int)).filter fun x=>!decide (x ∈ S)).length
theorem yA {α:Type} (p q:α->Bool) (h:∀ x,q x=true->p x=false):∀ L:List α,(L.filter fun x=>!p x && !q x).length+(L.filter q).length=(L.filter fun x=>!p x).length
 | []=>rfl
 | x :: r=>by
  have ih:=yA p q h r
  cases e1:p x with
  | true=>
   have e2:q x=false:=by
    cases e:q x with
    | false=>rfl
    | true=>have:=h x e; rw [e1] at this; cases this
   simp only [bx6,e1,e2,Bool.not_true,Bool.false_and,bq4,bv1]
   exact ih
  | false=>
   cases e2:q x with
   | true=>
    simp only [bx6,e1,e2,Bool.not_true,Bool.not_false,by9,bq4,bv1,if_true,bp8]
    omega
   | false=>
    simp only [bx6,e1,e2,Bool.not_false,bB9,bq4,bv1,if_true,bp8]
    omega
theorem yB {ws:List Int}{ls:List (Int × Int)}{S:List Int}{x:Int} (h:kin ws ls S x=true):decide (x ∈ S)=false:=by
 unfold kin at h
 cases e:decide (x ∈ S) with
 | false=>rfl
 | true=>rw [e] at h; cases h
theorem yC (ws:List Int) (ls:List (Int × Int)) (S:List Int):cold ws (S ++ nextOf ws ls S)+(nextOf ws ls S).length=cold ws S:=by
 have e:=yA (fun x=>decide (x ∈ S)) (kin ws ls S) (fun x h=>yB h) ((List.range ws.length).map fun (i:Nat)=>(i:Int))
 unfold cold
 rw [<- e]
 congr 2
 refine bA9 fun x hx=>?_
 have:decide (x ∈ S ++ nextOf ws ls S)=(decide (x ∈ S) || kin ws ls S x):=by
  rw [bt3]
  unfold nextOf
  simp only [bv3,bo6,bp3,Bool.or_eq_true]
  exact⟨fun z=>z.elim .inl fun z=>.inr z.2,fun z=>z.elim .inl fun z=>.inr ⟨hx,z⟩⟩
 rw [this]
 cases decide (x ∈ S) <;> cases kin ws ls S x <;> rfl
theorem aN3 (ws:List Int) (S:List Int):cold ws S<=ws.length:=by
 unfold cold
 refine bs2 (bt1 _ _) ?_
 rw [bn7,bz2]; exact bo7 _
theorem aN4 (ws:List Int) (ls:List (Int × Int)) (S:List Int):(nextOf ws ls S).length<=ws.length:=by
 unfold nextOf
 refine bs2 (bt1 _ _) ?_
 rw [bn7,bz2]; exact bo7 _
noncomputable def after (ws:List Int) (ls:List (Int × Int)) (S:List Int) (m:Nat):List (List Int):=(List.range m).map fun k=>nextOf ws ls (bI ws ls S k)
theorem W5 (ws:List Int) (ls:List (Int × Int)) (S:List Int) (m:Nat):after ws ls S (m+1)=after ws ls S m ++ [nextOf ws ls (bI ws ls S m)]:=by
 unfold after
 rw [List.range_succ,bp1]; rfl
theorem W6 (ws:List Int) (ls:List (Int × Int)) (ns:List Int):∀ k,(bI ws ls ns k).length+cold ws (bI ws ls ns k)=ns.length+cold ws ns
 | 0=>rfl
 | k+1=>by
  have ih:=W6 ws ls ns k
  have cs:=yC ws ls (bI ws ls ns k)
  show (bI ws ls ns k ++ nextOf ws ls (bI ws ls ns k)).length+cold ws (bI ws ls ns k ++ nextOf ws ls (bI ws ls ns k))=_
  rw [bo0]; omega
theorem W7 {ws ns:List Int} (hu:ns.Pairwise (· < ·)) (hin:∀ x ∈ ns,0<=x/\x < (ws.length:Int)):ns.length+cold ws ns<=ws.length:=by
 have nd:ns.Nodup:=hu.imp fun h=>bx1 h
 have sub:ns ⊆ ((List.range ws.length).map fun (i:Nat)=>(i:Int)).filter fun x=>decide (x ∈ ns):=fun x hx=>by
  refine bp3.mpr ⟨bp6.mpr ⟨x.toNat,by0.mpr ?_,?_⟩,bn4 hx⟩
  ·have:=hin x hx; omega
  ·have:=hin x hx; omega
 have h1:=nd.length_le_of_subset sub
 have h2:=yA (fun _=>false) (fun x=>decide (x ∈ ns)) (fun _ _=>rfl) ((List.range ws.length).map fun (i:Nat)=>(i:Int))
 have h3:(((List.range ws.length).map fun (i:Nat)=>(i:Int)).filter fun x=>!false && !decide (x ∈ ns)).length=cold ws ns:=rfl
 have h4:(((List.range ws.length).map fun (i:Nat)=>(i:Int)).filter fun x=>!false).length<=ws.length:=by
  refine bs2 (bt1 _ _) ?_
  rw [bn7,bz2]; exact bo7 _
 rw [h3] at h2
 omega
theorem yD (ws:List Int) (ls:List (Int × Int)) (ns:List Int):∀ m,(ns :: after ws ls ns m).flatten=bI ws ls ns m
 | 0=>by simp [after,bI]
 | m+1=>by
  rw [W5,<- List.cons_append,List.flatten_append,yD ws ls ns m]
  simp [bI]
noncomputable def cM (ws:List Int) (ls:List (Int × Int)) (ns:List Int) (m:Nat):Prop:=(∀ k < m,nextOf ws ls (bI ws ls ns k) ≠ [])/\nextOf ws ls (bI ws ls ns m) = []
theorem W8 {ws:List Int}{ls:List (Int × Int)}{ns:List Int}:∀ (m:Nat),(∀ k < m,nextOf ws ls (bI ws ls ns k) ≠ [])->m+cold ws (bI ws ls ns m)<=ws.length
 | 0,_=>by have:=aN3 ws ns; show 0+cold ws ns<=_; omega
 | m+1,h=>by
  have ih:=W8 m fun k hk=>h k (by omega)
  have cs:=yC ws ls (bI ws ls ns m)
  have:1<=(nextOf ws ls (bI ws ls ns m)).length:=by
   cases e:nextOf ws ls (bI ws ls ns m) with
   | nil=>exact absurd e (h m (by omega))
   | cons _ _=>exact Nat.succ_le_succ (br9 _)
  show m+1+cold ws (bI ws ls ns m ++ nextOf ws ls (bI ws ls ns m))<=_
  omega
theorem fP {ns:List Int}{i:Nat}{x:PV} (h:(intz ns)[i]? = some x):∃ n,x = .int n/\ns[i]? = some n:=by
 rw [bo8] at h
 cases e:ns[i]? with
 | none=>rw [e] at h; cases h
 | some n=>rw [e] at h; exact⟨n,(bq3 h).symm,rfl⟩
theorem iG {lo:Int}{n i:Nat}{x:PV} (h:(gC lo n)[i]? = some x):x = .int (lo+i)/\i < n:=by
 have hi:i < n:=by
  have:=(bn8.mp h).1
  rwa [dQ] at this
 rw [xB hi] at h
 exact⟨(bq3 h).symm,hi⟩
noncomputable def rng (n:Nat):List Int:=(List.range n).map fun (i:Nat)=>(i:Int)
theorem dM (n:Nat):(rng n).length=n:=by unfold rng; rw [bn7,bz2]
theorem o7 {n i:Nat} (h:i < n):(rng n)[i]? = some (i:Int):=by unfold rng; rw [bo8,List.getElem?_range h]; rfl
theorem eG {n:Nat}{x:Int}:x ∈ rng n ↔ 0<=x/\x < (n:Int):=by
 unfold rng
 rw [bp6]
 constructor
 ·rintro ⟨i,hi,rfl⟩
  have:=by0.mp hi
  omega
 ·intro h
  exact⟨x.toNat,by0.mpr (by omega),by omega⟩
theorem kX {α:Type}{l:List α}{p:α->Bool}{i:Nat}{x:α} (h:l[i]? = some x):(l.take (i+1)).filter p=(l.take i).filter p ++ (if p x=true then [x] else []):=by
 rw [bs1,h,List.filter_append]
 congr 1
 cases e:p x <;> simp [e]
theorem dW (a b:List Int):intz (a ++ b)=intz a ++ intz b:=bp1
theorem aZ (a:List Int):(intz a).length=a.length:=bn7 _
noncomputable def b7 (ws:List Int) (ls:List (Int × Int)):PV:=.tup [.tup (intz ws),.tup (ls.map fun l=>.tup [.int l.1,.int l.2])]
structure Wb (ws:List Int) (ls:List (Int × Int)):Prop where
 few:ws.length<=40
 most:ls.length<=1700
 links:∀ l ∈ ls,(0<=l.1/\l.1 < ws.length)/\0<=l.2/\l.2 < ws.length
noncomputable def dO (x:PV) (ns:List Int):Prop:=x = .tup (intz ns) ∨ x = .lst (intz ns)
theorem dO.seq {x:PV}{ns:List Int} (h:dO x ns):lP x=some (intz ns):=by rcases h with rfl | rfl <;> rfl
theorem dO.seqT {x:PV}{ns:List Int} (h:dO x ns):seqT x=some (intz ns):=by rcases h with rfl | rfl <;> rfl
theorem t5:∀ (ls:List (Int × Int)),flats (ls.map fun l=>PV.tup [.int l.1,.int l.2])=true
 | []=>rfl
 | l :: r=>by
  show (flat (.tup [.int l.1,.int l.2]) && flats (r.map fun l=>PV.tup [.int l.1,.int l.2]))=true
  rw [t5 r]; rfl
theorem t6 (ws:List Int) (ls:List (Int × Int)):flat (b7 ws ls)=true:=by
 show flats [.tup (intz ws),.tup (ls.map fun l=>PV.tup [.int l.1,.int l.2])]=true
 show (flat (.tup (intz ws)) && (flat (.tup (ls.map fun l=>PV.tup [.int l.1,.int l.2])) && true))=true
 show (flats (intz ws) && (flats (ls.map fun l=>PV.tup [.int l.1,.int l.2]) && true))=true
 rw [bJ,t5]; rfl
theorem qP (ns:List Int):flat (.tup (intz ns))=true:=bJ ns
noncomputable def j5:bK:=fun xs Q=>∃ ws ls,xs = [b7 ws ls]/\Q (.int ws.length)
noncomputable def W9:aI:=(bF (aB bT (a6 (bE (a5 0) (qC (.int 0))) a9)))
noncomputable abbrev bY (t:aI) (N:List Str) (p:bK):Prop:=∀ xs Q,p xs Q->t { nx:=fun _=>Q .non,rt:=Q } (hV N xs)
theorem aN5:bY W9 ["web"] j5:=by
 rintro xs Q ⟨ws,ls,rfl,q⟩
 refine⟨_,rfl,_,_,_,rfl,rfl,rfl,_,_,rfl,rfl,trivial,?_⟩
 rw [aZ]; exact q
noncomputable def yE:bK:=fun xs Q=>∃ x ns,xs = [x]/\dO x ns/\ns.length<=1000/\Q (.bl (jM ns))
noncomputable def inB (n:Nat) (x:Int):Bool:=decide (0<=x) && decide (x < (n:Int))
noncomputable def t7:bK:=fun xs Q=>∃ ws ls n,xs = [b7 ws ls,.int n]/\Q (.bl (inB ws.length n))
noncomputable def X0:aI:=(bF (nQ (qE (a5 1) (qC (.int 0))) (qD (a5 1) (aB j5 (a6 (a5 0) a9)))))
theorem aN6:bY X0 ["web","number"] t7:=by
 rintro xs Q ⟨ws,ls,n,rfl,q⟩
 refine⟨_,rfl,_,_,rfl,rfl,_,rfl,?_⟩
 unfold inB at q
 by_cases h:(0:Int)<=n
 ·rw [bn4 h] at q ⊢
  refine b9 ⟨_,rfl,_,rfl,ws,ls,rfl,_,_,rfl,rfl,trivial,?_⟩
  simpa using q
 ·rw [bn9 h] at q ⊢
  exact b8 ⟨trivial,by simpa using q⟩
noncomputable def b4 (n:Nat) (ns:List Int):Bool:=jM ns && (ns.map (inB n)).all id
noncomputable def lV:bK:=fun xs Q=>∃ ws ls x ns,xs = [b7 ws ls,x]/\dO x ns/\ns.length<=1000/\Q (.bl (b4 ws.length ns))
noncomputable def X1:aI:=(bF (nQ (aB yE (a6 (a5 1) a9)) (aB x6 (a6 (cS (cR (a5 1)) [none,some 0] (bO 0) e9 (aB t7 (a6 (a5 1) (a6 (a5 0) a9)))) a9))))
theorem o8 {x:PV}{ns:List Int} (h:dO x ns):(Slot.sh (flat x) x).tag = .rd->flat x=true:=by
 cases flat x <;> intro z <;> cases z
theorem aN7:bY X1 ["web","numbers"] lV:=by
 rintro xs Q ⟨ws,ls,x,ns,rfl,hx,hl,q⟩
 refine⟨_,rfl,x,ns,rfl,hx,hl,_,rfl,?_⟩
 unfold b4 at q
 cases h:jM ns with
 | false=>rw [h] at q; exact b8 ⟨trivial,q⟩
 | true=>
  rw [h] at q
  refine b9 ⟨_,rfl,_,hx.seq,o8 hx,by rw [aZ]; omega,fun i acc=>acc=(((ns.take i).map (inB ws.length)).map PV.bl),rfl,?_,?_⟩
  ·rintro i y acc hy rfl
   obtain ⟨n,rfl,hn⟩:=fP hy
   have tk:((ns.take (i+1)).map (inB ws.length)).map PV.bl=((ns.take i).map (inB ws.length)).map PV.bl ++ [PV.bl (inB ws.length n)]:=by rw [qO hn,bp1]; rfl
   exact⟨_,rfl,_,rfl,ws,ls,n,rfl,trivial,tk.symm⟩
  ·rintro acc rfl
   rw [aZ,bs5]
   exact⟨_,rfl,trivial,by simpa using q⟩
theorem dO.noscr {x:PV}{ns:List Int} (h:dO x ns):∀ ms,([x]:List PV) ≠ [.scr ms]:=by
 rcases h with rfl | rfl <;> intro ms z <;> cases z
structure DS (ps:List (aE × PV)) (S:List Int):Prop where
 has:∀ i:Int,(bV ps (Sum.inl i:aE)).isSome=decide (i ∈ S)
 len:ps.length<=S.length
 fl:flats (ps.map (·.2))=true
theorem DS.nil:DS [] []:=⟨fun i=>rfl,bo7 _,rfl⟩
section
variable {κ : Type} [DecidableEq κ]
theorem aN8 {k:κ}:bV ([]:List (κ × PV)) k=none:=rfl
theorem jN {p:κ × PV}{r:List (κ × PV)}{k:κ} (e:p.1=k):bV (p :: r) k=some p.2:=by simp [bV,by3,e]
theorem j6 {p:κ × PV}{r:List (κ × PV)}{k:κ} (e : ¬ p.1=k):bV (p :: r) k=bV r k:=by simp [bV,by3,e]
theorem t8 (k:κ):∀ kvs:List (κ × PV),(kvs.any fun kv=>decide (kv.1=k))=(bV kvs k).isSome
 | []=>rfl
 | p :: r=>by
  rw [List.any_cons]
  by_cases e:p.1=k
  ·simp only [jN e,bn4 e,Bool.true_or,Option.isSome_some]
  ·rw [j6 e,bn9 e,Bool.false_or]; exact t8 k r
theorem X2 (k j:κ) (y:PV):∀ kvs:List (κ × PV),bV (kvs.map fun kv=>if kv.1=k then (kv.1,y) else kv) j=(bV kvs j).map fun x=>if j=k then y else x
 | []=>rfl
 | p :: r=>by
  have ih:=X2 k j y r
  rw [bs8]
  by_cases h:p.1=k
  ·rw [if_pos h]
   by_cases e:p.1=j
   ·rw [jN (p:=(p.1,y)) e,jN e,Option.map_some,if_pos (e.symm.trans h)]
   ·rw [j6 (p:=(p.1,y)) e,j6 e,ih]
  ·rw [if_neg h]
   by_cases e:p.1=j
   ·rw [jN (p:=p) e,jN e,Option.map_some,if_neg (fun z=>h (e.trans z))]
   ·rw [j6 (p:=p) e,j6 e,ih]
theorem X3 (k j:κ) (y:PV):∀ kvs:List (κ × PV),bV kvs k=none->bV (kvs ++ [(k,y)]) j=if j=k then some y else bV kvs j
 | [],_=>by
  by_cases e:k=j
  ·rw [if_pos e.symm]; exact jN (p:=(k,y)) e
  ·rw [if_neg (fun z=>e z.symm)]; exact j6 (p:=(k,y)) e
 | p :: r,hn=>by
  rw [List.cons_append]
  have hk : ¬ p.1=k:=fun z=>by rw [jN z] at hn; cases hn
  rw [j6 hk] at hn
  have ih:=X3 k j y r hn
  by_cases e:p.1=j
  ·rw [jN e,jN e,if_neg (fun z=>hk (e.trans z))]
  ·rw [j6 e,j6 e,ih]
theorem X4 (kvs:List (κ × PV)) (k j:κ) (y:PV):bV (dR kvs k y) j=if j=k then some y else bV kvs j:=by
 unfold dR
 by_cases a:(kvs.any fun kv=>decide (kv.1=k))=true
 ·rw [if_pos a,X2]
  rw [t8] at a
  by_cases e:j=k
  ·obtain ⟨x,hx⟩:=Option.isSome_iff_exists.mp a
   rw [if_pos e,e,hx,Option.map_some,if_pos rfl]
  ·rw [if_neg e]
   cases bV kvs j with
   | none=>rfl
   | some x=>rw [Option.map_some,if_neg e]
 ·rw [if_neg a]
  refine X3 k j y kvs ?_
  rw [t8] at a
  cases q:bV kvs k with
  | none=>rfl
  | some x=>rw [q] at a; exact (a rfl).elim
theorem X5 (kvs:List (κ × PV)) (k:κ) (v:PV):(dR kvs k v).length<=kvs.length+1:=by
 unfold dR
 split
 ·rw [bn7]; omega
 ·rw [bo0,bp8,List.length_nil]; omega
end
theorem yF:∀ (xs:List PV),flats xs=true ↔ ∀ x ∈ xs,flat x=true
 | []=>by simp [flats]
 | x :: r=>by
  unfold flats
  rw [br3,yF r]; simp
theorem aN9 {κ:Type} [DecidableEq κ] {ps:List (κ × PV)}{k:κ}{v:PV}{p:κ × PV} (h:p ∈ dR ps k v):p.2=v ∨ p ∈ ps:=by
 unfold dR at h
 split at h
 ·obtain ⟨q,hq,e⟩:=bp6.mp h
  split at e
  ·subst e; exact .inl rfl
  ·subst e; exact .inr hq
 ·rcases bo6.mp h with h | h
  ·exact .inr h
  ·rw [bo2.mp h]; exact .inl rfl
theorem X6 {κ:Type} [DecidableEq κ] {ps:List (κ × PV)}{k:κ}{v:PV} (h:flats (ps.map (·.2))=true) (hv:flat v=true):flats ((dR ps k v).map (·.2))=true:=by
 rw [yF] at h ⊢
 intro x hx
 obtain ⟨p,hp,rfl⟩:=bp6.mp hx
 rcases aN9 hp with e | e
 ·rw [e]; exact hv
 ·exact h _ (bp6.mpr ⟨p,e,rfl⟩)
theorem DS.put {ps:List (aE × PV)}{S:List Int} (h:DS ps S) (x:Int) (v:PV) (hv:flat v=true):DS (dR ps (Sum.inl x:aE) v) (S ++ [x]):=by
 refine⟨fun i=>?_,?_,X6 h.fl hv⟩
 ·rw [X4]
  by_cases e:i=x
  ·subst e; rw [if_pos rfl]; simp
  ·rw [if_neg (fun z=>e (Sum.inl.inj z)),h.has]
   simp [e]
 ·have:=X5 ps (Sum.inl x:aE) v
  have:=h.len
  rw [bo0,br1]; omega
theorem DS.merge {S:List Int}:∀ {mp ps:List (aE × PV)}{T:List Int},DS ps S->DS mp T->DS (j4 ps mp) (S ++ T):=by
 have key:∀ (mp:List (aE × PV)) {ps:List (aE × PV)} (i:Int),(bV (j4 ps mp) (Sum.inl i:aE)).isSome=((bV ps (Sum.inl i:aE)).isSome || (bV mp (Sum.inl i:aE)).isSome):=fun mp=>by
  induction mp with
  | nil=>intro ps i; show (bV ps (Sum.inl i:aE)).isSome=_; rw [aN8]; simp
  | cons p r ih=>
   intro ps i
   show (bV (j4 (dR ps p.1 p.2) r) (Sum.inl i:aE)).isSome=_
   rw [ih,X4]
   by_cases e:(Sum.inl i:aE)=p.1
   ·rw [if_pos e,jN e.symm]; simp
   ·rw [if_neg e,j6 (Ne.symm e)]
 have keyl:∀ (mp:List (aE × PV)) {ps:List (aE × PV)},(j4 ps mp).length<=ps.length+mp.length:=fun mp=>by
  induction mp with
  | nil=>intro ps; exact bo7 _
  | cons p r ih=>
   intro ps
   have h1:=ih (ps:=dR ps p.1 p.2)
   have h2:=X5 ps p.1 p.2
   show (j4 (dR ps p.1 p.2) r).length<=_
   rw [bp8]; omega
 have keyf:∀ (mp:List (aE × PV)) {ps:List (aE × PV)},flats (ps.map (·.2))=true->flats (mp.map (·.2))=true->flats ((j4 ps mp).map (·.2))=true:=fun mp=>by
  induction mp with
  | nil=>intro ps h _; exact h
  | cons p r ih=>
   intro ps h g
   have g:(flat p.2 && flats (r.map (·.2)))=true:=g
   rw [br3] at g
   exact ih (ps:=dR ps p.1 p.2) (X6 h g.1) g.2
 intro mp ps T h g
 refine⟨fun i=>?_,?_,keyf mp h.fl g.fl⟩
 ·rw [key,h.has,g.has,bt3]; simp
 ·have:=keyl mp (ps:=ps)
  have:=h.len
  have:=g.len
  rw [bo0]; omega
noncomputable def iH:bK:=fun xs Q=>∃ x ns,xs = [x]/\dO x ns/\ns.length<=1000/\∀ ps,DS ps ns->Q (.dK ps)
noncomputable def X7:aI:=(aD (cZ 1 (qC (.dK [])))
 (aD (dJ (cR (a5 0)) (bO 2)
  (mQ 1 (a5 2) (qC (.bl true))))
 (kS 1)))
theorem aO0:bY X7 ["hearths","inside","hearth"] iH:=by
 rintro xs Q ⟨x,ns,rfl,hx,hl,q⟩
 refine⟨rfl,rfl,_,rfl,_,hx.seq,o8 hx,fun i ρ=>∃ y ps,ρ = [some (.sh (flat x) x),some (.own (.dK ps)),y]/\DS ps (ns.take i),⟨none,[],rfl,DS.nil⟩,?_,?_⟩
 ·rintro i y ρ hy ⟨y0,ps,rfl,d⟩
  obtain ⟨n,rfl,hn⟩:=fP hy
  have hlen:=d.len
  rw [bt8] at hlen
  refine⟨_,rfl,_,rfl,Sum.inl n,rfl,trivial,by omega,_,_,rfl,?_⟩
  rw [bs1,hn]
  exact d.put n _ rfl
 ·rintro ρ ⟨y,ps,rfl,d⟩
  rw [aZ,bs5] at d
  exact⟨_,rfl,trivial,q ps d⟩
noncomputable def lW:bK:=fun xs Q=>∃ x ns ps S,xs = [x,.dK ps]/\dO x ns/\DS ps S/\ns.length<=10000/\Q (.int ((ns.filter fun x=>decide (x ∈ S)).length:Nat))
noncomputable def X8:aI:=(bF (aB bT (a6 (cS (cR (a5 0)) [none,some 1] (bO 0) (aT (j3 false (a5 0) (a5 1))) (a5 0)) a9)))
theorem aO1:bY X8 ["hearths","inside"] lW:=by
 rintro xs Q ⟨x,ns,ps,S,rfl,hx,d,hl,q⟩
 refine⟨_,rfl,_,hx.seq,o8 hx,by rw [aZ]; omega,fun i acc=>acc=intz ((ns.take i).filter fun x=>decide (x ∈ S)),rfl,?_,?_⟩
 ·rintro i y acc hy rfl
  obtain ⟨n,rfl,hn⟩:=fP hy
  have tk:=kX (p:=fun x=>decide (x ∈ S)) hn
  refine⟨_,rfl,_,rfl,_,.inl ⟨ps,Sum.inl n,rfl,rfl,rfl⟩,_,rfl,?_⟩
  show if (bV ps (Sum.inl n:aE)).isSome=true then _ else _
  rw [d.has n]
  by_cases h:n ∈ S
  ·rw [bn4 h] at tk ⊢
   refine b9 ⟨_,rfl,trivial,?_⟩
   rw [if_pos rfl] at tk
   show _=intz (List.filter _ (List.take (i+1) ns))
   rw [tk,dW]; rfl
  ·rw [bn9 h] at tk ⊢
   refine b8 ?_
   rw [if_neg (by decide),br6] at tk
   show _=intz (List.filter _ (List.take (i+1) ns))
   rw [tk]
 ·rintro acc rfl
  rw [aZ,bs5]
  refine⟨_,_,rfl,rfl,trivial,?_⟩
  rw [aZ]; exact q
noncomputable def dC (n:Nat) (ls:List (Int × Int)):List PV:=(List.range n).map fun (k:Nat)=>PV.lst (intz (aO ls k))
noncomputable def iI:bK:=fun xs Q=>∃ ws ls,xs = [b7 ws ls]/\Wb ws ls/\Q (.lst (dC ws.length ls))
theorem o9 {n:Nat}{ls:List (Int × Int)}{h:Int} (h0:0<=h) (h1:h < (n:Int)):atI (dC n ls) h=some (.lst (intz (aO ls h))):=by
 refine mK h0 ?_
 unfold dC
 rw [bo8,List.getElem?_range (by omega)]
 show some (PV.lst (intz (aO ls ((h.toNat:Nat):Int))))=_
 rw [show ((h.toNat:Nat):Int)=h by omega]
noncomputable def t9:bK:=fun xs Q=>∃ ws ls ps S h,xs = [b7 ws ls,.lst (dC ws.length ls),.dK ps,.int h]/\Wb ws ls/\DS ps S/\0<=h/\h < (ws.length:Int)/\Q (.bl (kin ws ls S h))
noncomputable def X9:aI:=(bF (nQ (j3 true (a5 3) (a5 2)) (qE (aB lW (a6 (bE (a5 1) (a5 3)) (a6 (a5 2) a9))) (bE (bE (a5 0) (qC (.int 0))) (a5 3)))))
theorem tE {ws:List Int}{h:Int} (h0:0<=h) (h1:h < (ws.length:Int)):atI (intz ws) h=some (.int (ws.getD h.toNat 0)):=by
 refine mK h0 ?_
 have:h.toNat < ws.length:=by omega
 rw [bo8,bq0,bo1 this]; rfl
theorem aO2:bY X9 ["web","around","burning","hearth"] t9:=by
 rintro xs Q ⟨ws,ls,ps,S,h,rfl,wb,d,h0,h1,q⟩
 refine⟨_,rfl,_,rfl,_,.inl ⟨ps,Sum.inl h,rfl,rfl,rfl⟩,_,rfl,?_⟩
 show if (!(bV ps (Sum.inl h:aE)).isSome)=true then _ else _
 rw [d.has h]
 unfold kin at q
 by_cases hm:h ∈ S
 ·rw [bn4 hm] at q ⊢
  exact b8 ⟨trivial,by simpa using q⟩
 ·rw [bn9 hm] at q ⊢
  have nl:=lM ls h
  have:=wb.most
  refine b9 ⟨_,rfl,_,rfl,_,_,_,rfl,rfl,o9 h0 h1,_,rfl,_,aO ls h,ps,S,rfl,.inr rfl,d,by omega,_,rfl,_,_,_,rfl,rfl,rfl,_,rfl,_,_,_,rfl,rfl,tE h0 h1,_,_,rfl,rfl,trivial,?_⟩
  simpa using q
noncomputable def qQ:bK:=fun xs Q=>∃ ws ls ps S,xs = [b7 ws ls,.lst (dC ws.length ls),.dK ps]/\Wb ws ls/\DS ps S/\Q (.tup (intz (nextOf ws ls S)))
noncomputable def Y0:aI:=(bF (aB eS (a6 (cS (iY (aB j5 (a6 (a5 0) a9))) [none,some 0,some 1,some 2] (bO 0) (aT (aB t9 (a6 (a5 1) (a6 (a5 2) (a6 (a5 3) (a6 (a5 0) a9)))))) (a5 0)) a9)))
theorem aO3:bY Y0 ["web","around","burning"] qQ:=by
 rintro xs Q ⟨ws,ls,ps,S,rfl,wb,d,q⟩
 have few:=wb.few
 refine⟨_,rfl,ws,ls,rfl,_,rfl,by omega,by omega,by rw [dQ]; omega,fun i acc=>acc=intz (((rng ws.length).take i).filter (kin ws ls S)),rfl,?_,?_⟩
 ·rintro i y acc hy rfl
  obtain ⟨rfl,hi⟩:=iG hy
  have hi':i < ws.length:=by omega
  have tk:=kX (p:=kin ws ls S) (o7 hi')
  have e0:(0:Int)+(i:Int)=(i:Int):=by omega
  refine⟨_,rfl,_,rfl,_,rfl,_,rfl,ws,ls,ps,S,_,rfl,wb,d,by omega,by omega,_,rfl,?_⟩
  show if kin ws ls S ((0:Int)+(i:Int))=true then _ else _
  rw [e0]
  cases h:kin ws ls S (i:Int) with
  | true=>
   refine b9 ⟨_,rfl,trivial,?_⟩
   rw [h,if_pos rfl] at tk
   show _=intz (List.filter _ (List.take (i+1) _))
   rw [tk,dW]
   show _ ++ [PV.int _]=_
   rfl
  | false=>
   refine b8 ?_
   rw [h,if_neg (by decide),br6] at tk
   show _=intz (List.filter _ (List.take (i+1) _))
   rw [tk]
 ·rintro acc rfl
  rw [dQ,br5 (by rw [dM]; omega)]
  exact⟨⟨_,_,rfl,rfl,bJ _,trivial,q⟩,fun ns z=>by cases z⟩
noncomputable def tups (rs:List (List Int)):List PV:=rs.map fun r=>PV.tup (intz r)
theorem aO4 {rs:List (List Int)}{i:Nat}{x:PV} (h:(tups rs)[i]? = some x):∃ r,x = .tup (intz r)/\rs[i]? = some r:=by
 unfold tups at h
 rw [bo8] at h
 cases e:rs[i]? with
 | none=>rw [e] at h; cases h
 | some n=>rw [e] at h; exact⟨n,(bq3 h).symm,rfl⟩
theorem eU (rs:List (List Int)):(tups rs).length=rs.length:=bn7 _
theorem eI:∀ (rs:List (List Int)),flats (tups rs)=true
 | []=>rfl
 | r :: t=>by
  show (flat (.tup (intz r)) && flats (tups t))=true
  rw [qP,eI t]; rfl
theorem cU {n:Nat}{ns:List Int} (h:b4 n ns=true):jM ns=true/\∀ x ∈ ns,0<=x/\x < (n:Int):=by
 unfold b4 at h
 rw [br3,bw4] at h
 refine⟨h.1,fun x hx=>?_⟩
 have:=h.2 _ (bp6.mpr ⟨x,hx,rfl⟩)
 unfold inB at this
 simpa using this
theorem jO {n:Nat}{ns:List Int} (h:b4 n ns=true):ns.length<=n:=by
 obtain ⟨h1,h2⟩:=cU h
 have:=W7 (ws:=List.replicate n (0:Int)) (fH h1) (by rw [bz6]; exact h2)
 rw [bz6] at this
 omega
theorem yG {ws:List Int}{ls:List (Int × Int)}{ns:List Int} (h:b4 ws.length ns=true) (k:Nat):(bI ws ls ns k).length<=ws.length:=by
 have h1:=W6 ws ls ns k
 have h2:=W7 (fH (cU h).1) (cU h).2
 omega
end Core
namespace PP
open PySem L2
noncomputable def yH (te:aH):aH:=fun ρ Q=>te ρ fun x _=>∃ n:Int,x = .int n/\0<=n/\n<=1000000/\Q (.lst (gC 0 n.toNat)) .fr
noncomputable def oA:List PV->(PV->Prop)->Prop:=fun xs Q=>∃ ys:List (List Int),xs = [.lst (ys.map fun r=>PV.tup (intz r))]/\ys.length < 64/\(∀ y ∈ ys,y ≠ [])/\∀ zs:List (List Int),zs.Perm ys->zs.Pairwise (fun u v=>HT.fX v u=false)->Q (.lst (zs.map fun r=>PV.tup (intz r)))
end PP
namespace Core
open PySem L2 PP
theorem aO5 (g:Tg) (n:Int):Nw g (.int n):=by cases g <;> first | exact trivial | rfl
noncomputable def qR (x:PV) (ns:List Int):Prop:=x = .scr ns ∨ x = .lst (intz ns)
theorem qR.seq {x:PV}{ns:List Int} (h:qR x ns):lP x=some (intz ns):=by rcases h with rfl | rfl <;> rfl
theorem qR.len {x:PV}{ns:List Int} (h:qR x ns):x5 x=some ns.length:=by
 rcases h with rfl | rfl
 ·rfl
 ·show some (intz ns).length=_
  rw [aZ]
noncomputable def dX:bK:=fun xs Q=>∃ x ns k,xs = [x,.int k]/\qR x ns/\0<=k/\Q (.int (ns.getD k.toNat 0))
noncomputable def Y1:aI:=(aD (bL (aT (qD (a5 1) (aB bT (a6 (a5 0) a9)))) (bF (bE (a5 0) (a5 1))) bR)
 (bF (qC (.int 0))))
theorem aO6:bY Y1 ["script","k"] dX:=by
 rintro xs Q ⟨x,ns,k,rfl,hx,h0,q⟩
 refine⟨_,rfl,_,rfl,_,_,rfl,hx.len,_,_,rfl,rfl,_,rfl,?_⟩
 by_cases h:k < (ns.length:Int)
 ·rw [bn4 h]
  exact b9 ⟨_,rfl,_,rfl,_,_,_,hx.seq,rfl,tE h0 h,aO5 _ _,q⟩
 ·rw [bn9 h]
  rw [bq0,bC7 (by omega)] at q
  exact b8 ⟨trivial,q⟩
noncomputable def bX (ls:List (Int × Int)):List PV:=ls.map fun l=>PV.tup [.int l.1,.int l.2]
noncomputable def kY (l m:Int × Int):Prop:=l.1 < m.1 ∨ (l.1=m.1/\l.2 < m.2)
noncomputable abbrev si (n:Int):Option Slot:=some (.sh true (.int n))
noncomputable def oB:bK:=fun xs Q=>∃ i,xs = [.int i]/\Q (.bl true)
noncomputable def Y2 (K:PySem.W.Frag):aI:=(bF (nQ (mR K "int" (a5 0)) (wU (mR K "bool" (a5 0)))))
theorem dO.len {x:PV}{ns:List Int} (h:dO x ns):x5 x=some ns.length:=by
 rcases h with rfl | rfl <;> (show some (intz ns).length=_; rw [aZ])
theorem aO7 {K:PySem.W.Frag} (k1:PySem.W.kitOne K (.type "int") (.type "int")=some true) (k2:PySem.W.kitOne K (.type "int") (.type "bool")=some false):bY (Y2 K) ["found"] oB:=by
 rintro xs Q ⟨i,rfl,q⟩
 exact⟨_,rfl,_,_,rfl,k1,_,rfl,b9 ⟨_,rfl,_,_,rfl,k2,_,rfl,trivial,q⟩⟩
end Core
namespace PP
open PySem L2 PyProof.Rows
theorem Reps.rep {K:PySem.W.Frag}{M:Addr->Prop}{H:Hp}{us:List V}{xs:List PV} (r:Reps K M H us xs):∀ k:Nat,Reps K M H (List.replicate k us).flatten (List.replicate k xs).flatten
 | 0=>.nil
 | k+1=>by rw [bw6,bw6,bx9,bx9]; exact r.append (Reps.rep r k)
section
variable {X : Cx} {a b e : Expr} {ta tb te : aH} {tr : dI} {pos p2 p3 pos2 : Pos}
theorem aO8 {tA:TA} (hg:Gl X "range") (hm:X.mg "range" = none) (ha:PA X [a] tA) (hs:starEach [a] X.env = [(false,eval a X.env)]:=by rfl) :
  PE X (.Call (.Name "range" p2) [a] [] pos) (fun σ H Q=>tA σ H fun vs H1=>∃ j:Int,vs = [.int j]/\∀ r,H1 r=none->Q (.ref r) (upd H1 r (.rng 0 j))):=by
 intro pins s σ H Q I h
 refine Call_ (jU I hg hm boot_range (bt6 (aQ (ha pos pins s σ H _ I h) fun us s1 ⟨vs,H1,I1,r1,q1⟩=>?_) hs rfl))
 obtain ⟨j,e,q⟩:=q1
 subst e
 cases r1 with
 | cons r rr=>
  cases rr
  obtain ⟨t,rfl⟩:=r
  refine call_range_1 ?_
  exact⟨.ref s1.heap.objs.size,_,I1.laid (o:=.rng 0 j) (fun b ob q=>bn6 _ q) (bo7 _) ⟨_,_,_,bp7 _ rfl⟩,rfl,q _ (I1.hok.fresh (bo7 _))⟩
theorem Y3:∀ {xs:List V}{us:List Value},xs.length=us.length->(∀ (i:Nat) x u,xs[i]? = some x->us[i]? = some u->b5 x u)->aR xs us
 | [],[],_,_=>.nil
 | x :: xs,u :: us,hl,h=>.cons (h 0 x u rfl rfl) (Y3 (by simpa using hl) fun i y w h1 h2=>h (i+1) y w (by rw [bx2]; exact h1) (by rw [bx2]; exact h2))
theorem aO9 {n:Nat}{acc:Array Value} (h:ItemsOf (fun i v=>∃ t,v = .int (0+(i:Int) * 1) t) acc n):aR (kO 0 n) acc.toList:=by
 obtain ⟨h1,h2⟩:=h
 refine Y3 (by rw [wC]; simp [h1]) fun i x u hx hu=>?_
 have hi:i < n:=by
  have:=(bn8.mp hx).1
  rwa [wC] at this
 unfold kO at hx
 rw [bo8,List.getElem?_range hi] at hx
 cases hx
 obtain ⟨t,rfl⟩:=h2 i u (by rw [<- Array.getElem?_toList]; exact hu)
 exact⟨t,by congr 1; omega⟩
theorem aP0 (hc:X.calm=true):dN X (.type "list") (fun xs H Q=>∃ r j,xs = [.ref r]/\H r=some (.rng 0 j)/\0<=j/\j<=1000000/\∀ l,H l=none->Q (.ref l) (upd H l (.lst (kO 0 j.toNat)))):=by
 intro pins s σ H xs us Q I r h
 obtain ⟨p,j,rfl,hq,h0,h1,q⟩:=h
 obtain ⟨u,rfl,rx⟩:=jV r
 cases rx
 obtain ⟨t,u,v,ho⟩:=(show cD X.prog X.w H s.heap p (.rng 0 j) from I.hok p _ hq)
 refine PySem.call_list_range (a:=0) (b:=j) (c:=1) (n:=j.toNat) (I.ok.hd hc) ho (small_one (by decide) (by decide) (by omega) (by omega)) (by rw [rangeSize_one]; split <;> omega) (by omega) fun h' tk acc' c' kp e it=>?_
 have vv:=aO9 it
 have eq:acc'.toList.toArray=acc':=by simp
 exact⟨.ref s.heap.objs.size,_,I.laid (t':=tk) (o:=.lst (kO 0 j.toNat)) kp (bo7 _) ⟨by rw [wC]; exact lim (by omega),acc'.toList,c',vv,by rw [eq]; exact e⟩,rfl,q _ (I.hok.fresh (bo7 _))⟩
theorem aP1 {K:PySem.W.Frag}{M:Addr->Prop}{H:Hp} (lo:Int) (n:Nat):Reps K M H (kO lo n) (gC lo n):=by
 unfold kO gC
 generalize List.range n=l
 induction l with
 | nil=>exact .nil
 | cons a r ih=>exact .cons (.int _) ih
theorem Y4 (B:Bt X.mg) (ha:QE X a ta) (hc:X.calm=true:=by rfl) (hg:Gl X "list":=by rfl) (hgr:Gl X "range":=by rfl) (hs:starEach [a] X.env = [(false,eval a X.env)]:=by rfl)
  (he:starEach [.Call (.Name "range" p3) [a] [] pos2] X.env=(false,eval (.Call (.Name "range" p3) [a] [] pos2) X.env) :: starEach [] X.env:=by rfl) (hpl:(backTo pos (starEach [] X.env)).any (·.1)=false:=by rfl) :
  QE X (.Call (.Name "list" p2) [.Call (.Name "range" p3) [a] [] pos2] [] pos) (yH ta):=
 cN (G8 (aP0 hc) hg B.list PyProof.Rows.boot_list (cW (aO8 hgr B.range (cW ha dP hs) hs) dP he) (he:=he) (hpl:=hpl)) fun σ H Q' h=>by
  obtain ⟨W,ρ,Q,px,q,k⟩:=h
  refine⟨W,ρ,_,px,q,?_⟩
  rintro v H1 x g s r ⟨n,rfl,h0,h1,q⟩
  cases r
  refine⟨n,rfl,fun r hr=>⟨r,n,rfl,bN,h0,h1,fun l hl=>?_⟩⟩
  have S:aG H (upd (upd H1 r (.rng 0 n)) l (.lst (kO 0 n.toNat))):=(s.trans (bP hr _)).trans (bP hl _)
  exact k _ _ _ .fr S (.lst (((s.trans (bP hr _))).free hl) bN (aP1 0 n.toNat)) q
noncomputable def yI:V->Int
 | .int i=>i
 | _=>0
noncomputable def mW (H:Hp):V->List Int
 | .ref a=>match H a with
  | some (.tup us)=>us.map yI
  | _=>[]
 | _=>[]
theorem aP2 {H:Hp}{a:Addr}{ns:List Int} (h:H a=some (.tup (ns.map V.int))):mW H (.ref a)=ns:=by
 show (match H a with | some (.tup us)=>us.map yI | _=>[])=ns
 rw [h]
 show (ns.map V.int).map yI=ns
 rw [bv5]
 exact List.map_id _
theorem Y5 {K:PySem.W.Frag}{M:Addr->Prop}{H:Hp}:∀ {us:List V}{ys:List (List Int)},Reps K M H us (ys.map fun r=>PV.tup (intz r))->us.map (mW H)=ys/\∀ u ∈ us,∃ b,u = .ref b/\H b=some (.tup ((mW H u).map V.int))
 | _,[],.nil=>⟨rfl,fun u h=>nomatch h⟩
 | _,y :: ys,.cons r t=>by
  obtain ⟨a,us,rfl,h,r1⟩:=r.sqT
  obtain rfl:=r1.ofInts
  obtain ⟨h1,h2⟩:=Y5 t
  have hk:=aP2 h
  refine⟨by rw [bs8,h1,hk],fun u hu=>?_⟩
  rcases bo3.mp hu with rfl | hu
  ·exact⟨a,rfl,by rw [hk]; exact h⟩
  ·exact h2 u hu
theorem Y6 {K:PySem.W.Frag}{M:Addr->Prop}{H:Hp}:∀ {us:List V},(∀ u ∈ us,∃ b,u = .ref b/\H b=some (.tup ((mW H u).map V.int)))->Reps K M H us ((us.map (mW H)).map fun r=>PV.tup (intz r))
 | [],_=>.nil
 | u :: us,h=>by
  obtain ⟨b,rfl,hb⟩:=h u bo4
  exact .cons (.tup hb (Reps.intz _)) (Y6 fun v hv=>h v (bo5 _ hv))
theorem aP3:iD X oA (P6 X.K):=by
 rintro H vs xs Q Q' r ⟨ys,rfl,hl,hne,q⟩ k
 obtain ⟨v,rfl,r1⟩:=r.one
 obtain ⟨a,us,rfl,_,h,r2⟩:=r1.sqL
 obtain ⟨h1,h2⟩:=Y5 r2
 have lr:=r2.length
 rw [bn7] at lr
 refine⟨a,us,mW H,rfl,aN.of h,by omega,fun y hy=>?_,fun l zs hl' pm so=>?_⟩
 ·obtain ⟨b,rfl,hb⟩:=h2 y hy
  refine⟨b,rfl,aM.of hb,hne _ ?_⟩
  rw [<- h1]; exact bp6.mpr ⟨_,hy,rfl⟩
 ·have hz:∀ u ∈ zs,∃ b,u = .ref b/\H b=some (.tup ((mW H u).map V.int)):=fun u hu=>h2 u (pm.mem_iff.mp hu)
  refine k _ _ _ (bP hl' _) (.lst hl' bN ((Y6 hz).same (bP hl' _) fun _ z=>z)) (q _ ?_ ?_)
  ·rw [<- h1]; exact pm.map _
  ·rw [bx0]; exact so
theorem Y7 (B:Bt X.mg) (ha:QA X [e] tr) (hg:Gl X "sorted":=by rfl) (he:starEach [e] X.env=(false,eval e X.env) :: starEach [] X.env:=by rfl) (hpl:(backTo pos (starEach [] X.env)).any (·.1)=false:=by rfl):QE X (.Call (.Name "sorted" p2) [e] [] pos) (aB oA tr):=
 kU aB2 aP3 hg B.sorted bA3 ha (he:=he) (hpl:=hpl)
end
noncomputable def Y8 (K:PySem.W.Frag):Sp:=fun vs H Q _=>∃ (a:Addr) (ns:List Int),vs = [.ref a]/\(aM K H a (ns.map V.int) ∨ aN K H a (ns.map V.int))/\ns.length<=1000/\∀ H',aG H H'->Q (.bl (Core.jM ns)) H'
noncomputable def tF:Sp:=fun vs H Q _=>∃ v ws ls,vs = [v]/\Q0 H v ws ls/\ws.length<=1000/\ls.length<=2000/\(∀ l ∈ ls,(0<=l.1/\l.1 < ws.length)/\0<=l.2/\l.2 < ws.length)/\
 ∀ (r:Addr) (bs:List Addr) (H':Hp),bs.length=ws.length->jE H H' r bs (fun k=>aO ls k)->Q (.ref r) H'
section
variable {P : Program} {w : World} {K : PySem.W.Frag} {mg : Str → Option Value} {base : Heap} {f : Addr} {fd : FuncData} {k : Nat}
theorem aP4 (F:dD P w K mg base eB k f fd ["things"] (Y8 K)) (b:jC K fd ["things"] []) (kp:PySem.W.keepIn K (.ref f)=true) (m:mg "rises" = some (.ref f)):Df P w K mg base k "rises" ["things"] Core.yE:=by
 refine⟨f,fd,F.imp fun vs H Q E h=>?_,b,kp,m⟩
 obtain ⟨xs,Qp,r,⟨x,ns,rfl,hx,hl,q⟩,k⟩:=h
 obtain ⟨v,rfl,r1⟩:=r.one
 rcases hx with rfl | rfl
 ·obtain ⟨a,us,rfl,h,r2⟩:=r1.sqT
  obtain rfl:=r2.ofInts
  exact⟨a,ns,rfl,.inl (aM.of h),hl,fun H' s=>k _ H' _ s (.bl _) q⟩
 ·obtain ⟨a,us,rfl,_,h,r2⟩:=r1.sqL
  obtain rfl:=r2.ofInts
  exact⟨a,ns,rfl,.inr (aN.of h),hl,fun H' s=>k _ H' _ s (.bl _) q⟩
theorem Y9 {M:Addr->Prop}{H:Hp}:∀ {us:List V}{ls:List (Int × Int)},Reps K M H us (ls.map fun l=>PV.tup [.int l.1,.int l.2])->pQ H us ls
 | _,[],.nil=>.nil
 | _,l :: ls,.cons r t=>by
  obtain ⟨a,us,rfl,h,r1⟩:=r.sqT
  obtain ⟨u1,u2,rfl,q1,q2⟩:=r1.two
  cases q1; cases q2
  exact .cons ⟨a,rfl,h⟩ (Y9 t)
theorem Z0 {M:Addr->Prop}{H:Hp}{v:V}{ws:List Int}{ls:List (Int × Int)} (r:aK K M H v (Core.b7 ws ls)):Q0 H v ws ls:=by
 obtain ⟨a,us,rfl,h,r1⟩:=aK.sqT r
 obtain ⟨u1,u2,rfl,q1,q2⟩:=r1.two
 obtain ⟨p,up,rfl,hp,rp⟩:=q1.sqT
 obtain ⟨q,uq,rfl,hq,rq⟩:=q2.sqT
 obtain rfl:=rp.ofInts
 exact⟨a,p,q,uq,rfl,h,hp,hq,Y9 rq⟩
theorem yJ {M:Addr->Prop}{H:Hp}:∀ {bs:List Addr}{ls:List (Int × Int)} (off:Nat),(∀ b ∈ bs,M b)->(∀ (k:Nat) b,bs[k]? = some b->H b=some (.lst ((aO ls ((off+k:Nat):Int)).map V.int)))->Reps K M H (bs.map V.ref) ((List.range' off bs.length).map fun (k:Nat)=>PV.lst (intz (aO ls k)))
 | [],_,_,_,_=>.nil
 | b :: bs,ls,off,hm,h=>by
  refine .cons (.lst (hm b bo4) (h 0 b rfl) (Reps.intz _)) (yJ (off+1) (fun c hc=>hm c (bo5 _ hc)) fun k c hk=>?_)
  have:=h (k+1) c (by rw [bx2]; exact hk)
  rw [show off+1+k=off+(k+1) by omega]; exact this
theorem aP5 (F:dD P w K mg base eB k f fd ["web"] tF) (b:jC K fd ["web"] []) (kp:PySem.W.keepIn K (.ref f)=true) (m:mg "near_lists" = some (.ref f)):Df P w K mg base k "near_lists" ["web"] Core.iI:=by
 refine⟨f,fd,F.imp fun vs H Q E h=>?_,b,kp,m⟩
 obtain ⟨xs,Qp,r,⟨ws,ls,rfl,wb,q⟩,k⟩:=h
 obtain ⟨v,rfl,r1⟩:=r.one
 have:=wb.few
 have:=wb.most
 refine⟨v,ws,ls,rfl,Z0 r1,by omega,by omega,wb.links,fun t bs H' hb R=>k _ H' _ R.same (.lst R.new R.row ?_) q⟩
 have:=yJ (K:=K) (M:=fun a=>H a=none) (H:=H') (bs:=bs) (ls:=ls) 0 (fun b hb=>(R.news b hb).1) fun k b hk=>by rw [Nat.zero_add]; exact R.rows k b hk
 rw [hb,<- List.range_eq_range'] at this
 exact this
end
end PP
namespace Core
open PySem L2 PP
theorem aP6 (n:Nat):gC 0 n=intz (rng n):=by
 unfold gC rng
 show _=List.map PV.int (List.map (fun (i:Nat)=>(i:Int)) (List.range n))
 rw [bv5]
 refine List.map_congr_left fun i _=>?_
 show PV.int (0+(i:Int))=PV.int (i:Int)
 rw [bB5]
theorem Z1 (n:Nat):(rng n).Nodup:=by
 unfold rng
 rw [List.nodup_iff_pairwise_ne,bx0]
 exact (List.nodup_range (n:=n)).imp fun h e=>h (by omega)
noncomputable def two (l:Int × Int):List Int:=[l.1,l.2]
noncomputable def qS (r:List Int):Int × Int:=(r.getD 0 0,r.getD 1 0)
theorem Z2 (ls:List (Int × Int)):bX ls=(ls.map two).map fun r=>PV.tup (intz r):=by
 unfold bX
 rw [bv5]; rfl
theorem aP7 {zs:List (List Int)}{ls:List (Int × Int)} (h:zs.Perm (ls.map two)):∃ ls':List (Int × Int),zs=ls'.map two/\ls'.Perm ls:=by
 refine⟨zs.map qS,?_,?_⟩
 ·rw [bv5]
  have:∀ z ∈ zs,(two ∘ qS) z=z:=fun z hz=>by
   obtain ⟨l,_,rfl⟩:=bp6.mp (h.mem_iff.mp hz)
   rfl
  rw [List.map_congr_left this,List.map_id']
 ·have:=h.map qS
  rw [bv5] at this
  have e:ls.map (qS ∘ two)=ls:=by
   have:∀ l ∈ ls,(qS ∘ two) l=id l:=fun l _=>rfl
   rw [List.map_congr_left this,List.map_id]
  rw [e] at this
  exact this
theorem aP8 {ls:List (Int × Int)} (so:(ls.map two).Pairwise fun u v=>HT.fX v u=false) (nd:ls.Nodup):ls.Pairwise kY:=by
 rw [bx0] at so
 refine (List.pairwise_and_iff.mpr ⟨so,nd⟩).imp fun {a b} h=>?_
 obtain ⟨h1,h2⟩:=h
 unfold two at h1
 rw [HT.pC] at h1
 unfold kY
 by_cases e:b.1=a.1
 ·rw [if_pos e,HT.pC] at h1
  by_cases e2:b.2=a.2
  ·exact absurd (Prod.ext e.symm e2.symm) h2
  ·rw [if_neg e2] at h1
   have:=bx3 h1
   omega
 ·rw [if_neg e] at h1
  have:=bx3 h1
  omega
structure fI (i:Int) (ms:List Int):Prop where
 up:ms.Pairwise (· < ·)
 inn:∀ x ∈ ms,0<=x/\x < i
 len:(ms.length:Int)<=i
theorem fI.nil:fI 0 []:=⟨.nil,(fun _ h=>nomatch h),bD6 _⟩
theorem fI.skip {i:Nat}{ms:List Int} (h:fI (i:Int) ms):fI ((i+1:Nat):Int) ms:=⟨h.up,fun x hx=>by have:=h.inn x hx; omega,by have:=h.len; omega⟩
theorem fI.set {n:Nat}{ms:List Int} (h:fI (n:Int) ms):b4 n ms=true:=by
 unfold b4
 rw [t4 h.up,Bool.true_and,bw4]
 intro b hb
 obtain ⟨x,hx,rfl⟩:=bp6.mp hb
 have:=h.inn x hx
 unfold inB
 simp [this]
noncomputable def fQ (n:Nat) (S:List Int):List PV:=(rng n).map fun i=>PV.bl (decide (i ∈ S))
theorem oC (n:Nat) (S:List Int):(fQ n S).length=n:=by unfold fQ; rw [bn7,dM]
theorem Z3 {n:Nat}{S:List Int}{x:Int} (h0:0<=x) (h1:x < (n:Int)):atI (fQ n S) x=some (.bl (decide (x ∈ S))):=by
 refine mK h0 ?_
 unfold fQ
 rw [bo8,o7 (by omega)]
 show some (PV.bl (decide (((x.toNat:Nat):Int) ∈ S)))=_
 rw [show ((x.toNat:Nat):Int)=x by omega]
theorem aP9 {n:Nat}{S:List Int}{x:Int} (h0:0<=x) (h1:x < (n:Int)):(fQ n S).set x.toNat (.bl true)=fQ n (S ++ [x]):=by
 refine List.ext_getElem? fun i=>?_
 by_cases hi:i < n
 ·have e1:(fQ n (S ++ [x]))[i]? = some (.bl (decide ((i:Int) ∈ S ++ [x]))):=by unfold fQ; rw [bo8,o7 hi]; rfl
  rw [e1]
  by_cases e:i=x.toNat
  ·subst e
   rw [bv0 (by rw [oC]; exact hi)]
   have:(((x.toNat:Nat):Int) ∈ S ++ [x]):=by rw [show ((x.toNat:Nat):Int)=x by omega]; simp
   rw [bn4 this]
  ·rw [bq8 (Ne.symm e)]
   unfold fQ
   rw [bo8,o7 hi]
   have:decide ((i:Int) ∈ S ++ [x])=decide ((i:Int) ∈ S):=by
    rw [bt3]; simp; omega
   rw [this]; rfl
 ·rw [bC7 (by rw [bs0,oC]; omega),bC7 (by rw [oC]; omega)]
theorem Z4:∀ {a b:List Int},a.Perm b->a.Pairwise (· <= ·)->b.Pairwise (· <= ·)->a=b:=by
 intro a b h ha hb
 exact h.eq_of_pairwise (fun x y _ _ h1 h2=>Int.le_antisymm h1 h2) ha hb
noncomputable def Z5:bK:=fun xs Q=>∃ ns:List Int,xs = [.scr ns]/\ns.length<=63/\Q (.bl true)
structure aQ0 (K:PySem.W.Frag):Prop where
 ii:PySem.W.kitOne K (.type "int") (.type "int")=some true
 ib:PySem.W.kitOne K (.type "int") (.type "bool")=some false
 tt:PySem.W.kitOne K (.type "tuple") (.type "tuple")=some true
 ll:PySem.W.kitOne K (.type "list") (.type "list")=some true
 bb:PySem.W.kitOne K (.type "bool") (.type "bool")=some true
theorem yK (K:PySem.W.Frag):aQ0 K:=by
 have same:∀ n:String,PySem.W.kitMeta n=true->True:=fun _ _=>trivial
 refine⟨?_,?_,?_,?_,?_⟩
 ·unfold PySem.W.kitOne; rw [if_pos (by decide)]
 ·have e:(if PySem.W.kitMeta "bool" = true then (fastBuiltinMro "int").map (·.contains (Value.type "bool")) else none)=some false:=by decide +kernel
  unfold PySem.W.kitOne
  rw [if_neg (by decide)]
  exact e
 ·unfold PySem.W.kitOne; rw [if_pos (by decide)]
 ·unfold PySem.W.kitOne; rw [if_pos (by decide)]
 ·unfold PySem.W.kitOne; rw [if_pos (by decide)]
end Core
namespace PP
open PySem L2 PyProof.Rows
theorem aQ1 {P:Program}{w:World}{K:PySem.W.Frag}{mg:Str->Option Value}{base:Heap}{k:Nat}{x:Str}{ps N:List Str}{p:bK}{st:Stmt}{f:Addr}{fd:FuncData} (F:fZ K x x st f fd) (S:FnScope N ps (aY st))
  (len:∀ xs Q,p xs Q->xs.length=ps.length)
  (body:∀ (cdv:Value) (A:Around) (outer:List Env) (s:Shared) (H:Hp) (E:XK),cL k (A.deeper (envOfC x (aY st) s.heap.objs.size f cdv))->
   ∃ t,gF (e8 eB P w K mg base N x (aY st) f cdv A outer s H E).nox (fY st) t/\∀ xs Q,p xs Q->t { nx:=fun _=>Q .non,rt:=Q } (hV N xs)):dD P w K mg base eB (k+1) f fd ps (pW K p):=by
 refine F.ok S (fun vs H Q E h=>?_) (fun cdv A outer s H vs Q E hr h=>?_)
 ·obtain ⟨xs,Qp,r,q,_⟩:=h
  rw [r.length]; exact len xs Qp q
 ·obtain ⟨xs,Qp,r,q,k⟩:=h
  obtain ⟨t,ht,hq⟩:=body cdv A outer s H E hr
  refine⟨_,ht,fun _=>False,hV N xs,_,xX r,hq xs Qp q,?_,?_,?_,?_⟩
  ·exact fun W' σ' H' ρ' e px q=>k _ _ _ px.same .non q
  ·exact fun v H' x s r q=>k _ _ _ s r q
  ·exact fun W' σ' H' ρ' e px q=>q
  ·exact fun W' σ' H' ρ' e px q=>q
noncomputable def tG (K:PySem.W.Frag):Sp:=fun vs H Q _=>∃ (a:Addr) (ns:List Int),vs = [.ref a]/\kQ K H a ns/\ns.length<=63/\∀ H',Q (.bl true) H'
theorem aQ2 {P:Program}{w:World}{K:PySem.W.Frag}{mg:Str->Option Value}{base:Heap}{k:Nat}{f:Addr}{fd:FuncData} (F:dD P w K mg base eB k f fd ["script"] (pW K Core.Z5)):dD P w K mg base eB k f fd ["script"] (tG K):=
 F.imp fun vs H Q E h=>by
  obtain ⟨a,ns,rfl,hs,hl,q⟩:=h
  refine⟨[.scr ns],fun z=>z = .bl true,.cons (.scr hs) .nil,⟨ns,rfl,hl,rfl⟩,?_⟩
  rintro v H' x _ r rfl
  cases r
  exact q H'
theorem aQ3 {K:PySem.W.Frag}{H:Hp}{a:Addr}{ns:List Int} (hO:rR H) (h:aN K H a (ns.map V.int)):kQ K H a ns:=by
 rcases h with (h | ⟨o,h⟩) | h
 ·rcases hO a with e | ⟨o,xs,e⟩ <;> (rw [h] at e; cases e)
 ·exact .inl ⟨o,h⟩
 ·exact .inr h
end PP
namespace PyProof.Rows
open PySem
section
variable {prog : Program} {w : World} {A : Around} {E : Value → Shared → Prop} {s : Shared}
theorem aQ4 {l:Addr}{vs:List Value}{Q:List Value->Shared->Prop} (hl:s.heap.IsTuple l vs.toArray)
  (h:Q vs { s with heap:=(s.heap.push (seqObj "list" #[] 0)).update s.heap.objs.size (Obj.mapSeq (· ++ vs.toArray)) }) (hsz:vs.length<=sizeLine) :
  wpAny (model prog w) A (collect (.ref l)) Q E s:=by
 obtain ⟨o,ho,hc,n,hd⟩:=id hl
 unfold collect
 refine bn3 (wpAny_runValue (codeAny_builtin entry_proto_collect' ?_))
 show wpAny _ _ (do again (.builtin "list.__iadd__" ⟨[<- newList [],.ref l],[]⟩)) _ _ s
 refine bn3 (wpAny_newList (bo9 ⟨Code.quiet_builtin _ (by decide +kernel),codeAny_builtin entry_list_iadd' ?_⟩))
 show wpAny _ _ (Builtin.List.listExtendWith (.ref s.heap.objs.size) (.ref l) (.ref s.heap.objs.size)) _ _ { s with heap:=s.heap.push (seqObj "list" #[] 0) }
 unfold Builtin.List.listExtendWith
 have ho':(s.heap.push (seqObj "list" #[] 0)).get? l=some o:=bn6 _ ho
 refine bn3 (wpAny_typeOf (T:="tuple") ⟨o,ho',hc⟩ ?_)
 have ht:(Value.type "tuple" == Value.type "tuple")=true:=by rfl
 rw [if_pos (by rw [ht]; simp)]
 refine bn3 (listItems_at ho' hd ?_)
 refine bn3 (listItems_at (xs:=#[]) (n:=0) (bp7 _ rfl) rfl ?_)
 rw [if_neg (by simp)]
 refine bn3 (listUpdate_at (xs:=#[]) (n:=0) (bp7 _ rfl) rfl ?_ (br9 _) (by show (#[] ++ vs.toArray).size<=sizeLine+1; simp only [Array.size_append,bn5,List.length_nil]; omega))
 refine bo9 ?_
 show wpAny (model prog w) A (do
   let o <- load s.heap.objs.size
   match o.data with
   | .seq xs _=>pure xs.toList
   | _=>unsupported "internal:collect") Q E { s with heap:=(s.heap.push (seqObj "list" #[] 0)).update s.heap.objs.size (Obj.mapSeq (· ++ vs.toArray)) }
 refine bn3 (wpAny_load (get?_update_seq (bp7 _ rfl) _) ?_)
 show wpAny _ _ (pure ((#[]:Array Value) ++ vs.toArray).toList) Q E _
 rw [show ((#[]:Array Value) ++ vs.toArray).toList=vs by simp]
 exact bo9 h
theorem aQ5 {l:Addr}{vs:List Value}{ns:List Int}{Q:Value->Shared->Prop} (hl:s.heap.IsTuple l vs.toArray) (hI:IntsAre vs ns) (h64:vs.length < 64)
  (h:∀ (out:Array Value) (ns':List Int),IntsAre out.toList ns'->ns'.Perm ns->ns'.Pairwise (· <= ·)->Q (.ref (s.heap.objs.size+1)) { s with heap:=sortedAll s.heap vs out }) :
  wpAny (model prog w) A (call (.builtin "sorted") [.ref l]) Q E s:=by
 have hsl:vs.length<=sizeLine:=bs2 (bt5 h64) (by decide)
 refine Calls.call_function_entry kind_sorted plain_sorted entry_sorted (args_sorted1 _) ?_
 unfold Builtin.«sorted»
 refine bn3 (m:=checkCount "sorted" 1 1 _) (bo9 ?_)
 refine bn3 (aQ4 hl ?_ hsl)
 refine bn3 (wpAny_newList ?_)
 have hsz:((s.heap.push (seqObj "list" #[] 0)).update s.heap.objs.size (Obj.mapSeq (· ++ vs.toArray))).objs.size=s.heap.objs.size+1:=by
  rw [Heap.size_update,size_push']
 have hoL:(((s.heap.push (seqObj "list" #[] 0)).update s.heap.objs.size (Obj.mapSeq (· ++ vs.toArray))).push (seqObj "list" vs.toArray 0)).get? (s.heap.objs.size+1)=some (seqObj "list" vs.toArray 0):=by
  rw [<- hsz]; exact bp7 _ rfl
 show wpAny _ _ _ _ _ { s with heap:=((s.heap.push (seqObj "list" #[] 0)).update s.heap.objs.size (Obj.mapSeq (· ++ vs.toArray))).push (seqObj "list" vs.toArray 0) }
 rw [hsz]
 refine bn3 (bx4 (bu8 slot_list_sort ⟨_,hoL,rfl⟩ entry_list_sort (list_sort_tree hoL hI h64 fun out ns' a1 a2 a3=>⟨_,rfl,?_⟩) (args_list_sort _)))
 exact bo9 ⟨_,rfl,h out ns' a1 a2 a3⟩
end
end PyProof.Rows
namespace PP
open PySem L2 PyProof.Rows
section
variable {X : Cx} {a b e : Expr} {ta tb te : aH} {tr : dI} {pos p2 : Pos}
theorem aQ6:dN X (.builtin "sorted") (fun xs H Q=>∃ a ns,xs = [.ref a]/\(aN X.K H a (ns.map V.int) ∨ aM X.K H a (ns.map V.int))/\ns.length < 64/\∀ l (ms:List Int),H l=none->ms.Perm ns->ms.Pairwise (· <= ·)->Q (.ref l) (upd H l (.lst (ms.map V.int)))):=by
 intro pins s σ H xs us Q I r h
 obtain ⟨a,ns,rfl,hs,h64,q⟩:=h
 rcases hs with hs | hs
 ·exact P0 pins s σ H _ us Q I r ⟨a,ns,rfl,hs,h64,q⟩
 obtain ⟨u,rfl,ru⟩:=jV r
 cases ru
 obtain ⟨its,rv,p,hz⟩:=I.tuple hs
 have hl:=rv.length
 rw [bn7] at hl
 refine aQ5 p (pD rv) (by omega) fun out ns' a1 a2 a3=>?_
 obtain ⟨e,he⟩:=sortedAll_at s.heap its out
 have hn:s.heap.objs.size<=s.heap.objs.size+1:=Nat.le_succ _
 have hlen:ns'.length=ns.length:=a2.length_eq
 refine⟨.ref (s.heap.objs.size+1),upd H (s.heap.objs.size+1) (.lst (ns'.map V.int)),I.laid (t':=s.toks) (fun _ _=>sortedAll_old) hn ⟨?_,out.toList,e,pM a1,by simpa using he⟩,rfl,q _ ns' (I.hok.fresh hn) a2 a3⟩
 rw [bn7,hlen]
 exact bt5 (nK (by omega))
noncomputable def yM:List PV->(PV->Prop)->Prop:=fun xs Q=>∃ x ns,xs = [x]/\lP x=some (intz ns)/\ns.length < 64/\∀ ms:List Int,ms.Perm ns->ms.Pairwise (· <= ·)->Q (.lst (intz ms))
theorem aQ7:iD X yM (fun xs H Q=>∃ a ns,xs = [.ref a]/\(aN X.K H a (ns.map V.int) ∨ aM X.K H a (ns.map V.int))/\ns.length < 64/\∀ l (ms:List Int),H l=none->ms.Perm ns->ms.Pairwise (· <= ·)->Q (.ref l) (upd H l (.lst (ms.map V.int)))):=by
 rintro H vs xs Q Q' r ⟨x,ns,rfl,e,hl,q⟩ k
 obtain ⟨v,rfl,r1⟩:=r.one
 obtain ⟨a,us,rfl,hs,r2⟩:=r1.seq e
 obtain rfl:=r2.ofInts
 exact⟨a,ns,rfl,hs,hl,fun l ms hl' p o=>k _ _ _ (bP hl' _) (.lst hl' bN (Reps.intz ms)) (q ms p o)⟩
theorem aQ8 (B:Bt X.mg) (ha:QA X [e] tr) (hg:Gl X "sorted":=by rfl) (he:starEach [e] X.env=(false,eval e X.env) :: starEach [] X.env:=by rfl) (hpl:(backTo pos (starEach [] X.env)).any (·.1)=false:=by rfl):QE X (.Call (.Name "sorted" p2) [e] [] pos) (aB yM tr):=
 kU aQ6 aQ7 hg B.sorted bA3 ha (he:=he) (hpl:=hpl)
end
end PP
namespace L2
open PySem PySem.Spec PyProof.Rows
noncomputable def yN (K:PySem.W.Frag) (a:Addr):It:=
  ⟨fun i H=>∃ xs x,aN K H a xs/\xs[i]? = some x,
   fun i H v H'=>∃ T x,H T=none/\v = .ref T/\H'=upd H T (.tup [.int i,x])/\∀ xs,aN K H a xs->xs[i]? = some x,
   fun i H=>∃ xs,aN K H a xs/\xs.length<=i⟩
structure aQ9 (e it a:Addr) (i:Nat) (h:Heap):Prop where
 ee:∃ old,IsEnum h e it i old
 s1:h.IsListIter it a i
theorem aR0 {P:Program}{w:World}{K:PySem.W.Frag}{elts:List Expr}{k:Nat}{pos:Pos} (a e it:Addr) (d:e ≠ it) :
  j9 P w K (.Tuple elts k pos) (yN K a) [e,it] e (aQ9 e it a):=by
 refine⟨by simp,fun i h st c hc=>?_,fun i h h' st kp=>?_,?_,?_,fun A i s Q E st q=>?_⟩
 ·simp only [bo3,bp2,bs6] at hc
  obtain ⟨old,ee⟩:=st.ee
  obtain ⟨o1,f1,g1,d1⟩:=st.s1
  rcases hc with rfl | rfl
  ·exact⟨_,ee,fun v q=>by cases q⟩
  ·exact⟨_,f1,fun v q=>by rw [d1] at q; cases q⟩
 ·obtain ⟨old,ee⟩:=st.ee
  exact⟨⟨old,kp e (by simp) _ ee⟩,st.s1.at fun o z=>kp it (by simp) o z⟩
 ·intro X hP hw hK hc i pins s σ H E I hf st hg
  subst hP hw hK
  obtain ⟨xs,x,ha,hx⟩:=hg
  obtain ⟨us,ru,pu,lu⟩:=I.list ha
  obtain ⟨ux,eux,rux⟩:=ru.get hx
  obtain ⟨old,ee⟩:=st.ee
  refine wpAny_pyNext_enum_item ee st.s1 pu.isList (by simpa using eux) d fun h' eo it' pr sz kp=>⟨_,rfl,?_⟩
  refine wpAny_letOwnedTupleGo_enum (s:={ s with heap:=h',toks:=s.toks+1 }) eo fun g zz sb=>?_
  have hzl:e < s.heap.objs.size:=bp5 ee
  have up:∀ c o,c ≠ e->c ≠ it->s.heap.get? c=some o->g.get? c=some o:=fun c o c1 c2 z=>sb.extBut c o c1 (kp c o c1 c2 z)
  have hT:H s.heap.objs.size=none:=I.hok.fresh (bo7 _)
  have prG:g.get? s.heap.objs.size=some { cls:=.type "tuple",data:=.seq #[.int i s.toks,ux] }:=sb.extBut _ _ (bw1 hzl) pr
  have fpn:∀ c u,H c=some u->c ∉ [e,it]:=fun c u z hm=>by rw [(hf c hm).1] at z; cases z
  have upH:∀ c o u,H c=some u->s.heap.get? c=some o->g.get? c=some o:=fun c o u q z=>by
   have:=fpn c u q
   simp only [bo3,bp2,bs6,not_or] at this
   exact up c o this.1 this.2 z
  have ns:∀ m,s.heap.Ns X.env.locals m->g.Ns X.env.locals m:=fun m hm=>by
   obtain ⟨o,es,ep,e1,e2⟩:=hm
   exact⟨o,es,ep,up _ o (Ne.symm (hf e (by simp)).2.1) (Ne.symm (hf it (by simp)).2.1) e1,e2⟩
  have I2:a8 X pins σ (upd H s.heap.objs.size (.tup [.int i,x])) { s with heap:=g,toks:=s.toks+1 }:=by
   refine I.step (g':=s.gens) (d':=s.drawn) (ch:=[e,it]) (fun c hc'=>?_) (fun c o _ _ hc' z _=>?_) (fun c o _ _ hc' z _=>⟨o.slots,?_⟩) (fun c o _ z n=>?_) (fun c o hc' z=>⟨o,?_⟩)
    (fun c zs z=>by rw [aX (cK z hT)]; exact z) (fun c u zs z=>by rw [aX (cK z hT)]; exact z) (fun c ps z=>⟨#[],by rw [aX (cK z hT),z]; simp⟩) ns (fun c u z=>?_) I.bare
   ·exact⟨(hf c hc').2.2.2.1,(hf c hc').2.1,(hf c hc').2.2.2.2.1,(hf c hc').2.2.2.2.2⟩
   ·simp only [bo3,bp2,bs6,not_or] at hc'
    exact up c o hc'.1 hc'.2 z
   ·simp only [bo3,bp2,bs6,not_or] at hc'
    exact up c o hc'.1 hc'.2 z
   ·rw [aX (br7 (bp5 z))]; exact n
   ·simp only [bo3,bp2,bs6,not_or] at hc'
    exact up c o hc'.1 hc'.2 z
   ·by_cases hcT:c=s.heap.objs.size
    ·subst hcT
     rw [bN] at z; cases z
     exact⟨by show 2<=sizeLine; decide,[.int i s.toks,ux],.cons ⟨_,rfl⟩ (.cons rux .nil),⟨_,prG,rfl,_,rfl⟩,fun u e=>by rw [prG] at e; cases e; rfl⟩
    ·rw [aX hcT] at z
     refine (I.hok c u z).stay (fun c' o' hc2 q'=>?_) (fun c' q'=>by rw [aX (cK q' hT)]; exact q') fun c' zs q'=>by rw [aX (cK q' hT)]; exact q'
     rcases hc2 with rfl | hc2
     ·exact upH _ _ _ z q'
     ·exact upH _ _ _ hc2 q'
  refine⟨.ref s.heap.objs.size,_,I2,rfl,⟨_,x,hT,rfl,rfl,fun xs' ha'=>?_⟩,⟨⟨ux,by push_cast; exact zz⟩,it'.at fun o z=>sb.extBut _ o (Ne.symm d) z⟩,fun c hc'=>?_⟩
  ·rw [I.list_inj ha' ha]; exact hx
  ·obtain ⟨o,z⟩:∃ o,s.heap.get? c=some o:=by
    simp only [bo3,bp2,bs6] at hc'
    obtain ⟨o1,f1,_⟩:=st.s1
    rcases hc' with rfl | rfl
    ·exact⟨_,ee⟩
    ·exact⟨_,f1⟩
   rw [aX (br7 (bp5 z))]; exact (hf c hc').1
 ·intro X hP hw hK hc i pins s σ H E I hf st hg
  subst hP hw hK
  obtain ⟨xs,ha,hi⟩:=hg
  obtain ⟨us,ru,pu,lu⟩:=I.list ha
  obtain ⟨old,ee⟩:=st.ee
  have hh:X.A.handled=none:=I.ok.hd hc
  have e1:=ru.length
  refine wpAny_pyNext_enum_end hh ee st.s1 pu.isList (by rw [Array.getElem?_eq_none]; simp only [bn5]; omega) fun g kp=>⟨rfl,?_⟩
  have fpn:∀ c u,H c=some u->c ∉ [e,it]:=fun c u z hm=>by rw [(hf c hm).1] at z; cases z
  have upH:∀ c o u,H c=some u->s.heap.get? c=some o->g.get? c=some o:=fun c o u q z=>by
   have:=fpn c u q
   simp only [bo3,bp2,bs6,not_or] at this
   exact kp c o this.2 z
  have ns:∀ m,s.heap.Ns X.env.locals m->g.Ns X.env.locals m:=fun m hm=>by
   obtain ⟨o,es,ep,e1,e2⟩:=hm
   exact⟨o,es,ep,kp _ o (Ne.symm (hf it (by simp)).2.1) e1,e2⟩
  refine I.step (g':=s.gens) (d':=s.drawn) (ch:=[it]) (fun c hc'=>?_) (fun c o _ _ hc' z _=>?_) (fun c o _ _ hc' z _=>⟨o.slots,?_⟩) (fun c o _ z n=>n) (fun c o hc' z=>⟨o,?_⟩)
   (fun c zs z=>z) (fun c u zs z=>z) (fun c ps z=>⟨#[],by rw [z]; simp⟩) ns (fun c u z=>?_) I.bare
  ·have hm:c ∈ [e,it]:=bo5 _ hc'
   exact⟨(hf c hm).2.2.2.1,(hf c hm).2.1,(hf c hm).2.2.2.2.1,(hf c hm).2.2.2.2.2⟩
  ·exact kp c o (fun y=>hc' (by rw [y]; simp)) z
  ·exact kp c o (fun y=>hc' (by rw [y]; simp)) z
  ·exact kp c o (fun y=>hc' (by rw [y]; simp)) z
  ·refine (I.hok c u z).stay (fun c' o' hc2 q'=>?_) (fun _ q'=>q') fun _ _ q'=>q'
   rcases hc2 with rfl | hc2
   ·exact upH _ _ _ z q'
   ·exact upH _ _ _ hc2 q'
 ·obtain ⟨old,ee⟩:=st.ee
  exact wpAny_pyIter_enum ee q
end L2
namespace Zp
open PySem PyProof.Rows
section
variable {prog : Program} {w : World} {A : Around} {E : Value → Shared → Prop} {s : Shared}
theorem aR1 {e it t:Addr}{i:Nat}{items:Array Value}{x old:Value}{Q:Option Value->Shared->Prop} (he:IsEnum s.heap e it i old) (hi:s.heap.IsTupleIter it t i) (ht:s.heap.IsTuple t items) (hx:items[i]? = some x) (ne:e ≠ it)
  (q:∀ h',IsEnumOut h' e it ((i:Int)+1) x s.heap.objs.size->h'.IsTupleIter it t (i+1)->h'.get? s.heap.objs.size=some { cls:=.type "tuple",data:=.seq #[.int i s.toks,x] }->h'.objs.size=s.heap.objs.size+1->
   (∀ b o,b ≠ e->b ≠ it->s.heap.get? b=some o->h'.get? b=some o)->Q (some (.ref s.heap.objs.size)) { s with heap:=h',toks:=s.toks+1 }):wpAny (model prog w) A (pyNext (.ref e)) Q E s:=by
 have T:s.TypeIs (.ref e) "enumerate":=⟨_,he,rfl⟩
 have slot:=PySem.F.slot_enumerate_next
 unfold pyNext
 apply bn3
 apply wpAny_attempt
 apply bu3 (name:=Str.ofString "__next__") T slot
 apply bu8 slot T PySem.F.entry_enumerate_next _ (PySem.F.args_enumerate_next_1 _)
 change wpAny _ _ (field (.ref e) 2 >>= _) _ _ _
 apply bn3
 refine bu2 he rfl (x:=.ref it) rfl ?_
 apply bn3
 refine Q3 hi ht hx fun g1 it1 sb1=>?_
 have e1:IsEnum g1 e it i old:=sb1.extBut _ _ ne he
 change wpAny _ _ (field (.ref e) 3 >>= _) _ _ _
 apply bn3
 refine bu2 e1 rfl (x:=rawInt i) rfl ?_
 change wpAny _ _ (field (.ref e) 4 >>= _) _ _ _
 apply bn3
 refine bu2 e1 rfl (x:=.none) rfl ?_
 change wpAny _ _ (mkInt i >>= _) _ _ _
 apply bn3
 refine wpAny_mkInt ?_
 change wpAny _ _ (setField (.ref e) 3 (rawInt ((i:Int)+1)) >>= _) _ _ _
 apply bn3
 refine bv4 e1 (by simp) fun g2 e2 sb2=>?_
 apply bn3
 refine bv4 e2 (by simp) fun g3 e3 sb3=>?_
 have e3:IsEnum g3 e it ((i:Int)+1) old:=e3
 apply bn3
 refine wpAny_newTuple ?_ (by show 2<=sizeLine; decide)
 have e4:IsEnum (g3.push { cls:=.type "tuple",data:=.seq #[.int i s.toks,x] }) e it ((i:Int)+1) old:=bn6 _ e3
 have size:g3.objs.size=s.heap.objs.size:=by rw [sb3.1,sb2.1,sb1.1]
 change wpAny _ _ (Builtin.SmallTypes.ownedTupleIsFree (.ref e) >>= _) _ _ _
 apply bn3
 unfold Builtin.SmallTypes.ownedTupleIsFree
 apply bn3
 refine bu2 e4 rfl (x:=.none) rfl (bo9 ?_)
 simp only [if_true]
 apply bn3
 apply wpAny_rule
 apply bn3
 refine bu2 e4 rfl (x:=old) rfl ?_
 apply bn3
 refine bv4 e4 (by simp) fun g5 e5 sb5=>?_
 apply bn3
 unfold Builtin.SmallTypes.ownedTupleHandOut
 apply bn3
 refine bv4 e5 (by simp) fun g6 e6 sb6=>?_
 refine bv4 e6 (by simp) fun g7 e7 sb7=>?_
 have e7:IsEnumOut g7 e it ((i:Int)+1) x g3.objs.size:=e7
 have elt:e < g3.objs.size:=bp5 e3
 have up:∀ c o,c ≠ e->(g3.push { cls:=.type "tuple",data:=.seq #[.int i s.toks,x] }).get? c=some o->g7.get? c=some o:=fun c o c1 z=>sb7.extBut c o c1 (sb6.extBut c o c1 (sb5.extBut c o c1 z))
 have up3:∀ c o,c ≠ e->g1.get? c=some o->g7.get? c=some o:=fun c o c1 z=>up c o c1 (bn6 _ (sb3.extBut c o c1 (sb2.extBut c o c1 z)))
 have p7:g7.get? g3.objs.size=some { cls:=.type "tuple",data:=.seq #[.int i s.toks,x] }:=up _ _ (bw1 elt) (bp7 _ rfl)
 have s7:g7.objs.size=g3.objs.size+1:=by rw [sb7.1,sb6.1,sb5.1,bz1]
 apply bn3
 apply wpAny_letGo
 apply bo9
 rw [size] at e7 p7 s7
 refine⟨_,rfl,bo9 ?_⟩
 change Q (some (.ref g3.objs.size)) _
 rw [size]
 exact q g7 e7 (it1.at fun o z=>up3 it o (Ne.symm ne) z) p7 s7 fun b o b1 b2 z=>up3 b o b1 (sb1.extBut b o b2 z)
theorem aR2 {e it t:Addr}{i:Nat}{items:Array Value}{old:Value}{Q:Option Value->Shared->Prop} (hh:A.handled=none) (he:IsEnum s.heap e it i old) (hi:s.heap.IsTupleIter it t i) (ht:s.heap.IsTuple t items) (hx:items[i]? = none)
  (q:∀ h',Heap.ExtBut it s.heap h'->Q none { s with heap:=h' }):wpAny (model prog w) A (pyNext (.ref e)) Q E s:=by
 have T:s.TypeIs (.ref e) "enumerate":=⟨_,he,rfl⟩
 have slot:=PySem.F.slot_enumerate_next
 unfold pyNext
 apply bn3
 apply wpAny_attempt
 apply bu3 (name:=Str.ofString "__next__") T slot
 apply bu8 slot T PySem.F.entry_enumerate_next _ (PySem.F.args_enumerate_next_1 _)
 change wpAny _ _ (field (.ref e) 2 >>= _) _ _ _
 apply bn3
 refine bu2 he rfl (x:=.ref it) rfl ?_
 apply bn3
 refine Q4 hh hi ht hx fun g2 ex eb exo=>?_
 obtain ⟨oe,eo,co⟩:=exo
 apply bn3
 refine wpAny_isInstance (T:="StopIteration") (b:=true) ⟨oe,eo,co⟩ isSubtype_stop ?_
 exact bo9 (q g2 eb)
theorem aR3 {M:Model}{A:Around}{E:Value->Shared->Prop}{s:Shared}{α:Type}{c:Prop} [Decidable c] {m n:Sem α}{Q:α->Shared->Prop} (h1:wpAny M A m Q E s) (h2:wpAny M A n Q E s):wpAny M A (if c then m else n) Q E s:=by
 split
 ·exact h1
 ·exact h2
theorem aR4 (t:Addr) (xs:Array Value):Meets (Builtin.«enumerate.__new__» ⟨[.type "enumerate",.ref t],[]⟩) (fun _ R s=>s.heap.IsTuple t xs/\R (.ok (.ret (.ref (s.heap.objs.size+1)))) { s with heap:=(s.heap.push { cls:=.type "tuple_iterator",data:=.fields #[.ref t,.int 0 0] }).push { cls:=.type "enumerate",data:=.fields #[.none,.bool false,.ref s.heap.objs.size,rawInt 0,.none,.none] } }):=
 .of_wp fun prog w A R s h=>by
  obtain ⟨hp,g,d,tk,os⟩:=s
  obtain ⟨ht,h⟩:=h
  have sub:=sub_enumerate
  have a1:Heap.IsTuple (Shared.heap ⟨hp,g,d,tk,os⟩) t xs:=ht
  wp_walk using bC1 a1
  refine wpAny_stack_any fun st=>bo9 ?_
  refine aR3 ?_ ?_
  all_goals
   apply bn3
   refine wpAny_of_eq (a:=(Value.ref t,none)) rfl ?_
   wp_walk using bC1 a1
   have e:∀ (o:Obj) (k:Heap),(k.push o).objs.size=k.objs.size+1:=fun o k=>bz1 ..
   refine⟨_,rfl,?_⟩
   simp only [e] at h ⊢
   exact h
theorem aR5 {t:Addr}{xs:Array Value}{Q:Value->Shared->Prop} (ht:s.heap.IsTuple t xs)
  (q:∀ h',IsEnum h' (s.heap.objs.size+1) s.heap.objs.size 0 .none->h'.IsTupleIter s.heap.objs.size t 0->h'.objs.size=s.heap.objs.size+2->(∀ c o,s.heap.get? c=some o->h'.get? c=some o)->Q (.ref (s.heap.objs.size+1)) { s with heap:=h' }) :
  wpAny (model prog w) A (call (.type "enumerate") [.ref t]) Q E s:=by
 refine callType_new PySem.F.called_enumerate (by decide) (PySem.F.typeCall_enumerate_1 _) (PySem.F.newCall_enumerate_1 _) (fun obj=>PySem.F.args_object_init_2 obj _) PySem.F.entry_enumerate_new (aR4 t xs) ⟨ht,?_⟩
 have e:∀ (o:Obj) (k:Heap),(k.push o).objs.size=k.objs.size+1:=fun o k=>bz1 ..
 have g0:((s.heap.push { cls:=.type "tuple_iterator",data:=.fields #[.ref t,.int 0 0] }).push { cls:=.type "enumerate",data:=.fields #[.none,.bool false,.ref s.heap.objs.size,rawInt 0,.none,.none] }).get? s.heap.objs.size=some { cls:=.type "tuple_iterator",data:=.fields #[.ref t,.int 0 0] }:=bn6 _ (bp7 _ rfl)
 have g1:((s.heap.push { cls:=.type "tuple_iterator",data:=.fields #[.ref t,.int 0 0] }).push { cls:=.type "enumerate",data:=.fields #[.none,.bool false,.ref s.heap.objs.size,rawInt 0,.none,.none] }).get? (s.heap.objs.size+1)=some { cls:=.type "enumerate",data:=.fields #[.none,.bool false,.ref s.heap.objs.size,rawInt 0,.none,.none] }:=by
  have:=bp7 (h:=s.heap.push { cls:=.type "tuple_iterator",data:=.fields #[.ref t,.int 0 0] }) (o:={ cls:=.type "enumerate",data:=.fields #[.none,.bool false,.ref s.heap.objs.size,rawInt 0,.none,.none] }) rfl
  rw [e] at this; exact this
 exact⟨⟨_,g1,rfl⟩,q _ g1 ⟨_,g0,rfl,rfl⟩ (by rw [e,e]) fun c o z=>bn6 _ (bn6 _ z)⟩
end
end Zp
namespace L2
open PySem PySem.Spec PyProof.Rows
noncomputable def yO (K:PySem.W.Frag) (a:Addr):It:=
  ⟨fun i H=>∃ xs x,aM K H a xs/\xs[i]? = some x,
   fun i H v H'=>∃ T x,H T=none/\v = .ref T/\H'=upd H T (.tup [.int i,x])/\∀ xs,aM K H a xs->xs[i]? = some x,
   fun i H=>∃ xs,aM K H a xs/\xs.length<=i⟩
structure aR6 (e it a:Addr) (i:Nat) (h:Heap):Prop where
 ee:∃ old,IsEnum h e it i old
 s1:h.IsTupleIter it a i
theorem aR7 {P:Program}{w:World}{K:PySem.W.Frag}{elts:List Expr}{k:Nat}{pos:Pos} (a e it:Addr) (d:e ≠ it) :
  j9 P w K (.Tuple elts k pos) (yO K a) [e,it] e (aR6 e it a):=by
 refine⟨by simp,fun i h st c hc=>?_,fun i h h' st kp=>?_,?_,?_,fun A i s Q E st q=>?_⟩
 ·simp only [bo3,bp2,bs6] at hc
  obtain ⟨old,ee⟩:=st.ee
  obtain ⟨o1,f1,g1,d1⟩:=st.s1
  rcases hc with rfl | rfl
  ·exact⟨_,ee,fun v q=>by cases q⟩
  ·exact⟨_,f1,fun v q=>by rw [d1] at q; cases q⟩
 ·obtain ⟨old,ee⟩:=st.ee
  exact⟨⟨old,kp e (by simp) _ ee⟩,st.s1.at fun o z=>kp it (by simp) o z⟩
 ·intro X hP hw hK hc i pins s σ H E I hf st hg
  subst hP hw hK
  obtain ⟨xs,x,ha,hx⟩:=hg
  obtain ⟨us,ru,pu,lu⟩:=I.tuple ha
  obtain ⟨ux,eux,rux⟩:=ru.get hx
  obtain ⟨old,ee⟩:=st.ee
  refine Zp.aR1 ee st.s1 pu (by simpa using eux) d fun h' eo it' pr sz kp=>⟨_,rfl,?_⟩
  refine wpAny_letOwnedTupleGo_enum (s:={ s with heap:=h',toks:=s.toks+1 }) eo fun g zz sb=>?_
  have hzl:e < s.heap.objs.size:=bp5 ee
  have up:∀ c o,c ≠ e->c ≠ it->s.heap.get? c=some o->g.get? c=some o:=fun c o c1 c2 z=>sb.extBut c o c1 (kp c o c1 c2 z)
  have hT:H s.heap.objs.size=none:=I.hok.fresh (bo7 _)
  have prG:g.get? s.heap.objs.size=some { cls:=.type "tuple",data:=.seq #[.int i s.toks,ux] }:=sb.extBut _ _ (bw1 hzl) pr
  have fpn:∀ c u,H c=some u->c ∉ [e,it]:=fun c u z hm=>by rw [(hf c hm).1] at z; cases z
  have upH:∀ c o u,H c=some u->s.heap.get? c=some o->g.get? c=some o:=fun c o u q z=>by
   have:=fpn c u q
   simp only [bo3,bp2,bs6,not_or] at this
   exact up c o this.1 this.2 z
  have ns:∀ m,s.heap.Ns X.env.locals m->g.Ns X.env.locals m:=fun m hm=>by
   obtain ⟨o,es,ep,e1,e2⟩:=hm
   exact⟨o,es,ep,up _ o (Ne.symm (hf e (by simp)).2.1) (Ne.symm (hf it (by simp)).2.1) e1,e2⟩
  have I2:a8 X pins σ (upd H s.heap.objs.size (.tup [.int i,x])) { s with heap:=g,toks:=s.toks+1 }:=by
   refine I.step (g':=s.gens) (d':=s.drawn) (ch:=[e,it]) (fun c hc'=>?_) (fun c o _ _ hc' z _=>?_) (fun c o _ _ hc' z _=>⟨o.slots,?_⟩) (fun c o _ z n=>?_) (fun c o hc' z=>⟨o,?_⟩)
    (fun c zs z=>by rw [aX (cK z hT)]; exact z) (fun c u zs z=>by rw [aX (cK z hT)]; exact z) (fun c ps z=>⟨#[],by rw [aX (cK z hT),z]; simp⟩) ns (fun c u z=>?_) I.bare
   ·exact⟨(hf c hc').2.2.2.1,(hf c hc').2.1,(hf c hc').2.2.2.2.1,(hf c hc').2.2.2.2.2⟩
   ·simp only [bo3,bp2,bs6,not_or] at hc'
    exact up c o hc'.1 hc'.2 z
   ·simp only [bo3,bp2,bs6,not_or] at hc'
    exact up c o hc'.1 hc'.2 z
   ·rw [aX (br7 (bp5 z))]; exact n
   ·simp only [bo3,bp2,bs6,not_or] at hc'
    exact up c o hc'.1 hc'.2 z
   ·by_cases hcT:c=s.heap.objs.size
    ·subst hcT
     rw [bN] at z; cases z
     exact⟨by show 2<=sizeLine; decide,[.int i s.toks,ux],.cons ⟨_,rfl⟩ (.cons rux .nil),⟨_,prG,rfl,_,rfl⟩,fun u e=>by rw [prG] at e; cases e; rfl⟩
    ·rw [aX hcT] at z
     refine (I.hok c u z).stay (fun c' o' hc2 q'=>?_) (fun c' q'=>by rw [aX (cK q' hT)]; exact q') fun c' zs q'=>by rw [aX (cK q' hT)]; exact q'
     rcases hc2 with rfl | hc2
     ·exact upH _ _ _ z q'
     ·exact upH _ _ _ hc2 q'
  refine⟨.ref s.heap.objs.size,_,I2,rfl,⟨_,x,hT,rfl,rfl,fun xs' ha'=>?_⟩,⟨⟨ux,by push_cast; exact zz⟩,it'.at fun o z=>sb.extBut _ o (Ne.symm d) z⟩,fun c hc'=>?_⟩
  ·rw [I.tuple_inj ha' ha]; exact hx
  ·obtain ⟨o,z⟩:∃ o,s.heap.get? c=some o:=by
    simp only [bo3,bp2,bs6] at hc'
    obtain ⟨o1,f1,_⟩:=st.s1
    rcases hc' with rfl | rfl
    ·exact⟨_,ee⟩
    ·exact⟨_,f1⟩
   rw [aX (br7 (bp5 z))]; exact (hf c hc').1
 ·intro X hP hw hK hc i pins s σ H E I hf st hg
  subst hP hw hK
  obtain ⟨xs,ha,hi⟩:=hg
  obtain ⟨us,ru,pu,lu⟩:=I.tuple ha
  obtain ⟨old,ee⟩:=st.ee
  have hh:X.A.handled=none:=I.ok.hd hc
  have e1:=ru.length
  refine Zp.aR2 hh ee st.s1 pu (by rw [Array.getElem?_eq_none]; simp only [bn5]; omega) fun g kp=>⟨rfl,?_⟩
  have fpn:∀ c u,H c=some u->c ∉ [e,it]:=fun c u z hm=>by rw [(hf c hm).1] at z; cases z
  have upH:∀ c o u,H c=some u->s.heap.get? c=some o->g.get? c=some o:=fun c o u q z=>by
   have:=fpn c u q
   simp only [bo3,bp2,bs6,not_or] at this
   exact kp c o this.2 z
  have ns:∀ m,s.heap.Ns X.env.locals m->g.Ns X.env.locals m:=fun m hm=>by
   obtain ⟨o,es,ep,e1,e2⟩:=hm
   exact⟨o,es,ep,kp _ o (Ne.symm (hf it (by simp)).2.1) e1,e2⟩
  refine I.step (g':=s.gens) (d':=s.drawn) (ch:=[it]) (fun c hc'=>?_) (fun c o _ _ hc' z _=>?_) (fun c o _ _ hc' z _=>⟨o.slots,?_⟩) (fun c o _ z n=>n) (fun c o hc' z=>⟨o,?_⟩)
   (fun c zs z=>z) (fun c u zs z=>z) (fun c ps z=>⟨#[],by rw [z]; simp⟩) ns (fun c u z=>?_) I.bare
  ·have hm:c ∈ [e,it]:=bo5 _ hc'
   exact⟨(hf c hm).2.2.2.1,(hf c hm).2.1,(hf c hm).2.2.2.2.1,(hf c hm).2.2.2.2.2⟩
  ·exact kp c o (fun y=>hc' (by rw [y]; simp)) z
  ·exact kp c o (fun y=>hc' (by rw [y]; simp)) z
  ·exact kp c o (fun y=>hc' (by rw [y]; simp)) z
  ·refine (I.hok c u z).stay (fun c' o' hc2 q'=>?_) (fun _ q'=>q') fun _ _ q'=>q'
   rcases hc2 with rfl | hc2
   ·exact upH _ _ _ z q'
   ·exact upH _ _ _ hc2 q'
 ·obtain ⟨old,ee⟩:=st.ee
  exact wpAny_pyIter_enum ee q
section
variable {X : Cx}
noncomputable def Z6 (K:PySem.W.Frag) (ta:TA):TI:=fun σ H R=>ta σ H fun vs H1=>∃ a,vs = [.ref a]/\((∃ xs,aN K H1 a xs/\R (yN K a) H1) ∨ (∃ xs,aM K H1 a xs/\R (yO K a) H1))
theorem aR8 {elts:List Expr}{kt:Nat}{pt:Pos}{a:Expr}{ta:TA}{p pos:Pos} (hg:Gl X "enumerate") (hm:X.mg "enumerate" = none) (ha:PA X [a] ta) (hs:starEach [a] X.env = [(false,eval a X.env)]:=by rfl) :
  PI X (.Tuple elts kt pt) (.Call (.Name "enumerate" p) [a] [] pos) (Z6 X.K ta):=by
 intro pins s σ H R I h
 refine Call_ (jU I hg hm PyProof.Rows.boot_enumerate (bt6 (aQ (ha pos pins s σ H _ I h) fun us s1 ⟨vs,H1,I1,r1,q1⟩=>?_) (by rw [hs]; rfl) (by rfl)))
 obtain ⟨a',e,q⟩:=q1
 subst e
 have fresh:∀ k,H1 (s1.heap.objs.size+k)=none:=fun k=>I1.hok.fresh (bt9 _ _)
 cases r1 with
 | cons r rr=>
  cases rr
  cases r
  rcases q with ⟨xs,h1,q⟩ | ⟨xs,h1,q⟩
  ·obtain ⟨us,_,p1,_⟩:=I1.list h1
   refine call_enumerate_list p1.isList fun h' z s1' sz kp=>wpAny_pyIter_enum z ?_
   refine⟨s1.heap.objs.size+1,[s1.heap.objs.size+1,s1.heap.objs.size],_,_,H1,rfl,I1.kept (t':=s1.toks) kp,
    aR0 a' _ _ (Nat.succ_ne_self _),⟨⟨_,z⟩,s1'⟩,fun c hc=>?_,q⟩
   simp only [bo3,bp2,bs6] at hc
   rcases hc with rfl | rfl
   ·exact I1.fpOk (bt9 _ _) (fresh 1)
   ·exact I1.fpOk (bo7 _) (fresh 0)
  ·obtain ⟨us,_,p1,_⟩:=I1.tuple h1
   refine Zp.aR5 p1 fun h' z s1' sz kp=>wpAny_pyIter_enum z ?_
   refine⟨s1.heap.objs.size+1,[s1.heap.objs.size+1,s1.heap.objs.size],_,_,H1,rfl,I1.kept (t':=s1.toks) kp,
    aR7 a' _ _ (Nat.succ_ne_self _),⟨⟨_,z⟩,s1'⟩,fun c hc=>?_,q⟩
   simp only [bo3,bp2,bs6] at hc
   rcases hc with rfl | rfl
   ·exact I1.fpOk (bt9 _ _) (fresh 1)
   ·exact I1.fpOk (bo7 _) (fresh 0)
end
end L2
namespace Zp
open PySem PyProof.Rows
theorem aR9 (t b:Addr) (xs ys:Array Value) (n n2:Nat) (dd dd2:Option Addr) (sl sl2:Array (Option Value)) (hx:xs.isEmpty=true):Meets (Builtin.«tuple.__add__» ⟨[.ref t,.ref b],[]⟩)
  (fun _ R s=>s.heap.get? t=some { cls:=.type "tuple",dict:=dd,data:=.seq xs n,slots:=sl }/\s.heap.get? b=some { cls:=.type "tuple",dict:=dd2,data:=.seq ys n2,slots:=sl2 }/\R (.ok (.ret (.ref b))) s):=
 .of_wp fun prog w A R s h=>by
  obtain ⟨h1,h2,h⟩:=h
  have sub:isSubtype (Value.type "tuple") (Value.type "tuple")=pure true:=rfl
  wp_walk
  exact⟨_,rfl,h⟩
end Zp
namespace L2
open PySem PySem.Spec PyProof.Rows
section
variable {X : Cx}
noncomputable def Z7 (K:PySem.W.Frag):R2:=fun x y H Q=>∃ a b xs ys,x = .ref a/\y = .ref b/\aM K H a xs/\aM K H b ys/\xs.length+ys.length<=sizeLine/\
 (xs = []->Q (.ref b) H)/\(xs ≠ []->ys = []->Q (.ref a) H)/\(xs ≠ []->ys ≠ []->∀ p,H p=none->Q (.ref p) (upd H p (.tup (xs ++ ys))))
theorem aS0:cF X (binaryOp .Add) (Z7 X.K):=by
 intro pins s σ H x y v u Q I rx ry h
 obtain ⟨a,b,xs,ys,ex,ey,ha,hb,hz,q0,q1,q2⟩:=h
 by_cases hx:xs = []
 ·subst ex ey
  cases rx
  cases ry
  obtain ⟨its,r1,p1,_⟩:=I.tuple ha
  obtain ⟨its2,r2,p2,_⟩:=I.tuple hb
  have hi:its = []:=r1.nil_iff.mpr hx
  obtain ⟨⟨cls,dd,data,sl⟩,ho,hc,n,hd⟩:=id p1
  obtain ⟨⟨cls2,dd2,data2,sl2⟩,ho2,hc2,n2,hd2⟩:=id p2
  simp only at hc hd hc2 hd2
  subst hc hd hc2 hd2
  exact concat_meets ⟨_,ho,rfl⟩ ⟨_,ho2,rfl⟩ noFill_tuple_add seq_tuple_add PySem.F.slot_tuple_add PySem.F.entry_tuple_add (PySem.F.args_tuple_add_2 _ _)
   (Zp.aR9 a b its.toArray its2.toArray n n2 dd dd2 sl sl2 (by simp [hi])) ⟨ho,ho2,⟨.ref b,H,I,rfl,q0 hx⟩⟩
 ·exact aw3 pins s σ H x y v u Q I rx ry ⟨a,b,xs,ys,ex,ey,ha,hb,hx,hz,q1 hx,q2 hx⟩
end
end L2
namespace PP
open PySem L2 PyProof.Rows
noncomputable def kZ (xs:List PV):List PV:=xs.mapIdx fun i x=>PV.tup [.int (i:Int),x]
theorem yQ (xs:List PV):(kZ xs).length=xs.length:=by unfold kZ; rw [List.length_mapIdx]
theorem Z8 {xs:List PV}{i:Nat}{x:PV} (h:xs[i]? = some x):(kZ xs)[i]? = some (.tup [.int (i:Int),x]):=by
 unfold kZ; rw [List.getElem?_mapIdx,h]; rfl
theorem aS1 {xs:List PV}{i:Nat}{z:PV} (h:(kZ xs)[i]? = some z):∃ x,xs[i]? = some x/\z = .tup [.int (i:Int),x]:=by
 unfold kZ at h
 rw [List.getElem?_mapIdx] at h
 cases e:xs[i]? with
 | none=>rw [e] at h; cases h
 | some x=>rw [e] at h; exact⟨x,rfl,(bq3 h).symm⟩
noncomputable def yR (te:aH):gB:=fun ρ Q=>te ρ fun x g=>∃ xs,(x = .lst xs ∨ x = .tup xs)/\(g = .rd->flat x=true)/\Q (kZ xs) (sN g xs)
theorem aS2 {K:PySem.W.Frag}{H0:Hp}{W:Addr->Prop}{g:Bool}{H1:Hp}{a:Addr}{us:List V}{xs:List PV} (tw:∀ a,W a->∃ o,H1 a=some o/\iW o=true) (ha:∀ W' H',Ev W H1 W' H'->aN K H' a us) (r:Reps K (Ms H0 W g) H1 us xs):nS K H0 W g H1 (yN K a) (kZ xs):=by
 have lr:=r.length
 have ll:=yQ xs
 refine⟨fun W' H' i e hi=>⟨us,us[i]'(by omega),ha W' H' e,by simp⟩,fun W' H' i v H2 e y hi=>?_,fun W' H' e=>⟨us,ha W' H' e,by omega⟩⟩
 obtain ⟨T,x,hT,rfl,rfl,y⟩:=y
 obtain ⟨z,hz,rz⟩:=r.get (y us (ha W' _ e))
 have sm:=bP hT (HO.tup [.int (i:Int),x])
 exact⟨sm,_,Z8 hz,.tup bN (.cons (.int _) (.cons ((rz.keep (e.keep tw)).same sm fun _ q=>q) .nil))⟩
theorem aS3 {K:PySem.W.Frag}{H0:Hp}{W:Addr->Prop}{g:Bool}{H1:Hp}{a:Addr}{us:List V}{xs:List PV} (tw:∀ a,W a->∃ o,H1 a=some o/\iW o=true) (ha:∀ W' H',Ev W H1 W' H'->aM K H' a us) (r:Reps K (Ms H0 W g) H1 us xs):nS K H0 W g H1 (yO K a) (kZ xs):=by
 have lr:=r.length
 have ll:=yQ xs
 refine⟨fun W' H' i e hi=>⟨us,us[i]'(by omega),ha W' H' e,by simp⟩,fun W' H' i v H2 e y hi=>?_,fun W' H' e=>⟨us,ha W' H' e,by omega⟩⟩
 obtain ⟨T,x,hT,rfl,rfl,y⟩:=y
 obtain ⟨z,hz,rz⟩:=r.get (y us (ha W' _ e))
 have sm:=bP hT (HO.tup [.int (i:Int),x])
 exact⟨sm,_,Z8 hz,.tup bN (.cons (.int _) (.cons ((rz.keep (e.keep tw)).same sm fun _ q=>q) .nil))⟩
section
variable {X : Cx} {σ : L2.St} {H : Hp} {te : aH} {R : It → Hp → Prop}
theorem aS4 (h:LI X (yR te) σ H R):Z6 X.K (jB (LE X te) kI) σ H R:=by
 obtain ⟨W,ρ,Q,px,q,k⟩:=h
 refine⟨W,ρ,_,px,q,?_⟩
 rintro v H1 x g s r ⟨xs,hx,hg,q⟩
 have px1:=px.mono s
 have tw:∀ a,W a->∃ o,H1 a=some o/\iW o=true:=fun a z=>(px1.wm a z).2
 rcases hx with rfl | rfl
 ·obtain ⟨a,us,rfl,m,h,r⟩:=r.sqL
  have wa : ¬ W a:=by
   cases g with
   | fr=>exact (px.new m).1
   | nw=>exact m.1
   | sh=>exact m
   | rd=>have:=hg rfl; unfold flat at this; cases this
  exact⟨a,rfl,.inl ⟨us,aN.of h,k _ _ _ _ s (aS2 tw (fun W' H' e=>aN.of (e _ _ h wa).1) (mO px (fun z=>by have:=hg z; unfold flat at this; cases this) r)) q⟩⟩
 ·obtain ⟨a,us,rfl,h,r⟩:=r.sqT
  refine⟨a,rfl,.inr ⟨us,aM.of h,k _ _ _ _ s (aS3 tw (fun W' H' e=>aM.of (e _ _ h fun z=>?_).1) (mO px (fun z=>by have:=hg z; unfold flat at this; exact this) r)) q⟩⟩
  obtain ⟨o,h',mu⟩:=tw _ z; rw [h] at h'; cases h'; cases mu
theorem aS5 {elts:List Expr}{kt:Nat}{pt p2 pos:Pos}{a:Expr}{ta:aH} (hg:Gl X "enumerate") (hm:X.mg "enumerate" = none) (ha:QE X a ta) (hs:starEach [a] X.env = [(false,eval a X.env)]:=by rfl):QI X (.Tuple elts kt pt) (.Call (.Name "enumerate" p2) [a] [] pos) (yR ta):=
 qF (aR8 hg hm (cW ha dP hs) hs) fun _ _ _=>aS4
end
section
variable {X : Cx} {e : Expr} {te : aH} {pos p2 : Pos} {scope : Scope} {N : List Str} {fr : List (Option Nat)} {x y : Str} {tp xp yp : Pos} {kt : Nat} {iter elt : Expr} {ti : gB}
noncomputable abbrev oD (x y:Str) (xp yp:Pos) (kt:Nat) (tp:Pos):Expr:=.Tuple [.Name x xp,.Name y yp] kt tp
theorem Z9 {ifs:List Expr}{tcs:cY} (hc:X.calm=true) (he:∀ (s:Shared) (H:Hp) (C:Addr) (fp:List Addr),QE (bZ X scope N s H C fp dB) elt te) (hi:∀ (s:Shared) (H:Hp) (C:Addr) (fp:List Addr),lJ (bZ X scope N s H C fp dB) ifs (LT (bZ X scope N s H C fp dB) tcs))
  (hN:N.Nodup) (h0:N[0]? = some x) (h1:N[1]? = some y) (hl:∀ (s:Shared) (H:Hp) (C:Addr) (fp:List Addr),(bZ X scope N s H C fp dB).env.scope.names.lookup x=some .local) (hl2:∀ (s:Shared) (H:Hp) (C:Addr) (fp:List Addr),(bZ X scope N s H C fp dB).env.scope.names.lookup y=some .local) (s:Shared) (H:Hp) :
  nL X scope N (oD x y xp yp kt tp) ifs elt s H (lE X.K 2 (gK (cQ 0) (gK (cQ 1) lD))) (LT (X.frm H) tcs) (LE (X.frm H) te):=
 ⟨fun C fp=>mG (X:=bZ X scope N s H C fp dB) hc (gW (eZ hN h0 (.inl (hl s H C fp)) (.inr (hl s H C fp))) (gW (eZ hN h1 (.inl (hl2 s H C fp)) (.inr (hl2 s H C fp))) mF)),fun C fp=>hi s H C fp,fun C fp=>he s H C fp⟩
theorem aa0 (hi:QI X (oD x y xp yp kt tp) iter ti) (he:∀ (s:Shared) (H:Hp) (C:Addr) (fp:List Addr),QE (bZ X scope N s H C fp dB) elt te)
  (hc:X.calm=true:=by rfl) (S:cX X scope N fr:=by exact cX.of rfl rfl) (hN:N.Nodup:=by decide +kernel) (h0:N[0]? = some x:=by rfl) (h1:N[1]? = some y:=by rfl) (hl:∀ (s:Shared) (H:Hp) (C:Addr) (fp:List Addr),(bZ X scope N s H C fp dB).env.scope.names.lookup x=some .local:=by intro _ _ _ _; rfl) (hl2:∀ (s:Shared) (H:Hp) (C:Addr) (fp:List Addr),(bZ X scope N s H C fp dB).env.scope.names.lookup y=some .local:=by intro _ _ _ _; rfl) (hf:fr[0]? = some none:=by rfl) (hf2:fr[1]? = some none:=by rfl)
  (hs:∀ x,foldedSetIterable iter X.env x=pure x:=by intro _; rfl):QE X (.ListComp elt [⟨oD x y xp yp kt tp,iter,[],0⟩] scope pos) (cS ti fr (iZ 0 1) e9 te):=
 cN (wA (gh:=fun _=>lE X.K 2 (gK (cQ 0) (gK (cQ 1) lD))) (tch:=fun H=>LT (X.frm H) e9) (teh:=fun H=>LE (X.frm H) te) hc S hi (Z9 hc he (fun _ _ _ _=>qN) hN h0 h1 hl hl2) hs) fun _ _ _=>nV (sP _ 0 1) (fun i e=>by rcases e with e | e <;> (subst e; assumption))
theorem aS6 {i:Nat}{z:Str}{zp:Pos} (nd:X.N.Nodup) (hi:QI X (oD x y xp yp kt tp) iter ti) (he:∀ (s:Shared) (H:Hp) (C:Addr) (fp:List Addr),QE (bZ X scope N s H C fp dB) elt te)
  (hz:X.N[i]? = some z:=by rfl) (hzl:X.env.scope.names.lookup z=some .local:=by rfl) (hsw:swapsWith (.ListComp elt [⟨oD x y xp yp kt tp,iter,[],0⟩] scope p2) (some (.Name z zp)) pos.line X.env=pure true:=by rfl)
  (hc:X.calm=true:=by rfl) (S:cX X scope N fr:=by exact cX.of rfl rfl) (hN:N.Nodup:=by decide +kernel) (h0:N[0]? = some x:=by rfl) (h1:N[1]? = some y:=by rfl) (hl:∀ (s:Shared) (H:Hp) (C:Addr) (fp:List Addr),(bZ X scope N s H C fp dB).env.scope.names.lookup x=some .local:=by intro _ _ _ _; rfl) (hl2:∀ (s:Shared) (H:Hp) (C:Addr) (fp:List Addr),(bZ X scope N s H C fp dB).env.scope.names.lookup y=some .local:=by intro _ _ _ _; rfl) (hf:fr[0]? = some none:=by rfl) (hf2:fr[1]? = some none:=by rfl)
  (hs:∀ x,foldedSetIterable iter X.env x=pure x:=by intro _; rfl):QS X (.Assign [.Name z zp] (.ListComp elt [⟨oD x y xp yp kt tp,iter,[],0⟩] scope p2) pos) (b6 i (cS ti fr (iZ 0 1) e9 te)):=
 dS (wB (gh:=fun _=>lE X.K 2 (gK (cQ 0) (gK (cQ 1) lD))) (tch:=fun H=>LT (X.frm H) e9) (teh:=fun H=>LE (X.frm H) te) hc S hi (Z9 hc he (fun _ _ _ _=>qN) hN h0 h1 hl hl2) nd hz hzl hsw hs) fun D σ H h=>nV (sP _ 0 1) (fun i e=>by rcases e with e | e <;> (subst e; assumption)) (x0 h)
end
section
variable {X : Cx} {a b e o f : Expr} {ta tb te td tk tx : aH} {pos p2 apos cpos : Pos} {σ : L2.St} {H : Hp} {Q' : VK}
noncomputable def aa1:PV->Tg->PV->Tg->PK->Prop:=fun x _ y _ Q=>∃ xs n,x = .lst xs/\y = .int n/\flats xs=true/\-1000000<=n/\n<=1000000/\xs.length<=10/\Q (.lst (List.replicate n.toNat xs).flatten) .fr
noncomputable abbrev tH (ta tb:aH):aH:=q2 aa1 ta tb
theorem aS7:g9 X aa1 K9:=by
 rintro W Hs H u v x y g g' Q Q' s n r1 r2 ⟨xs,m,rfl,rfl,f,h1,h2,hl,q⟩ k
 cases r2
 obtain ⟨a,us,rfl,mm,h,r⟩:=r1.sqL
 have lr:=r.length
 refine⟨a,m,us,rfl,rfl,h,by omega,by omega,lim ?_,fun p hp=>k _ _ _ .fr (bP hp _) (.lst (s.free hp) bN (((r.flat f).rep m.toNat).same (bP hp _) fun _ z=>z)) q⟩
 have h3:us.length<=10:=by omega
 have h4:m.toNat<=1000000:=by omega
 calc us.length * m.toNat<=10 * 1000000:=Nat.mul_le_mul h3 h4
  _<=16000000:=by decide
theorem yT (ha:QE X a ta) (hb:QE X b tb):QE X (.BinOp a .Mult b pos) (tH ta tb):=k7 ay1 aS7 ha hb
end
section
variable {X : Cx} {a b : Expr} {ta tb : aH} {pos : Pos}
noncomputable def aa2:PV->Tg->PV->Tg->PK->Prop:=fun x _ y _ Q=>∃ xs ys,x = .tup xs/\y = .tup ys/\flats xs=true/\flats ys=true/\xs.length+ys.length<=16000000/\Q (.tup (xs ++ ys)) .fr
noncomputable abbrev fR (ta tb:aH):aH:=q2 aa2 ta tb
theorem aS8:g9 X aa2 (Z7 X.K):=by
 rintro W Hs H u v x y g g' Q Q' s n r1 r2 ⟨xs,ys,rfl,rfl,f1,f2,hl,q⟩ k
 obtain ⟨a,us,rfl,h1,q1⟩:=r1.sqT
 obtain ⟨b,ws,rfl,h2,q2⟩:=r2.sqT
 have l1:=q1.length
 have l2:=q2.length
 refine⟨a,b,us,ws,rfl,rfl,aM.of h1,aM.of h2,lim (by omega),fun z=>?_,fun _ z=>?_,fun _ _ p hp=>k _ _ _ .fr (bP hp _) (.tup bN (((q1.flat f1).append (q2.flat f2)).same (bP hp _) fun _ z=>z)) q⟩
 ·obtain rfl:xs = []:=by cases xs with
   | nil=>rfl
   | cons _ _=>rw [z] at l1; cases l1
  exact k _ _ _ .fr (aG.refl _) (.tup h2 (q2.flat f2)) q
 ·obtain rfl:ys = []:=by cases ys with
   | nil=>rfl
   | cons _ _=>rw [z] at l2; cases l2
  rw [br6] at q
  exact k _ _ _ .fr (aG.refl _) (.tup h1 (q1.flat f1)) q
theorem iJ (ha:QE X a ta) (hb:QE X b tb):QE X (.BinOp a .Add b pos) (fR ta tb):=k7 aS0 aS8 ha hb
end
end PP
namespace Core
open PySem L2 PP
section
variable (ws : List Int) (ls : List (Int × Int)) (os ns : List Int)
noncomputable def iK:Nat->List Int
 | 0=>[]
 | k+1=>iK k ++ (os.find? (kin ws ls (ns ++ iK k))).toList
noncomputable def qT (k:Nat):Option Int:=os.find? (kin ws ls (ns ++ iK ws ls os ns k))
end
section
variable {ws : List Int} {ls : List (Int × Int)} {os ns : List Int}
theorem aS9 {k:Nat}{h:Int} (e:qT ws ls os ns k=some h):iK ws ls os ns (k+1)=iK ws ls os ns k ++ [h]:=by
 show iK ws ls os ns k ++ (qT ws ls os ns k).toList=_
 rw [e]; rfl
theorem aa3 {S T:List Int}{h:Int} (hk:kin ws ls S h=true) (st:∀ x ∈ S,x ∈ T) (hn:h ∉ T):kin ws ls T h=true:=by
 unfold kin at hk ⊢
 rw [br3] at hk ⊢
 refine⟨by rw [bn9 hn]; rfl,bn4 ?_⟩
 have h1:=bs3 hk.2
 have h2:((aO ls h).filter fun x=>decide (x ∈ S)).length<=((aO ls h).filter fun x=>decide (x ∈ T)).length:=by
  rw [<- List.countP_eq_length_filter,<- List.countP_eq_length_filter]
  exact List.countP_mono_left fun x _ hx=>bn4 (st x (bs3 hx))
 omega
noncomputable def hZ (ws:List Int) (ls:List (Int × Int)) (T:List Int):Prop:=∀ h ∈ rng ws.length,kin ws ls T h=false
theorem aa4 {T:List Int} (sh:hZ ws ls T) (st:∀ x ∈ ns,x ∈ T):∀ k,∀ x ∈ bI ws ls ns k,x ∈ T
 | 0,x,hx=>st x hx
 | k+1,x,hx=>by
  have ih:=aa4 sh st k
  rcases bo6.mp (show x ∈ bI ws ls ns k ++ nextOf ws ls (bI ws ls ns k) from hx) with hx | hx
  ·exact ih x hx
  ·have hx:=bp3.mp hx
   by_cases e:x ∈ T
   ·exact e
   ·have:=aa3 hx.2 ih e
    rw [sh x hx.1] at this; cases this
theorem aa5 (n:Nat):(rng n).Nodup:=Z1 n
theorem aT0 {k:Nat}{h:Int} (e:qT ws ls os ns k=some h):h ∈ os/\h ∉ ns ++ iK ws ls os ns k:=
 ⟨List.mem_of_find?_eq_some e,bx3 (yB (List.find?_some e))⟩
theorem aT1 (po:os.Perm (rng ws.length)) (hs:b4 ws.length ns=true):∀ k,(ns ++ iK ws ls os ns k).Nodup/\∀ x ∈ ns ++ iK ws ls os ns k,x ∈ rng ws.length
 | 0=>by
  rw [show iK ws ls os ns 0 = [] from rfl,br6]
  exact⟨(fH (cU hs).1).imp fun h=>bx1 h,fun x hx=>eG.mpr ((cU hs).2 x hx)⟩
 | k+1=>by
  obtain ⟨i1,i2⟩:=aT1 po hs k
  cases e:qT ws ls os ns k with
  | none=>
   have:iK ws ls os ns (k+1)=iK ws ls os ns k:=by
    show iK ws ls os ns k ++ (qT ws ls os ns k).toList=_
    rw [e]; exact br6 _
   rw [this]; exact⟨i1,i2⟩
  | some h=>
   obtain ⟨n1,n2⟩:=aT0 e
   rw [aS9 e,<- List.append_assoc]
   refine⟨bu1.mpr ⟨i1,bq2 _ _,fun x hx y hy=>?_⟩,fun x hx=>?_⟩
   ·rw [bo2.mp hy]; intro z; subst z; exact n2 hx
   ·rcases bo6.mp hx with hx | hx
    ·exact i2 x hx
    ·rw [bo2.mp hx]; exact po.mem_iff.mp n1
theorem yU (hs:b4 ws.length ns=true):∀ k,(bI ws ls ns k).Nodup
 | 0=>(fH (cU hs).1).imp fun h=>bx1 h
 | k+1=>by
  show (bI ws ls ns k ++ nextOf ws ls (bI ws ls ns k)).Nodup
  refine bu1.mpr ⟨yU hs k,(Z1 ws.length).filter _,fun x hx y hy=>?_⟩
  intro z; subst z
  exact bx3 (yB (bp3.mp hy).2) hx
end
noncomputable def kB:Option Int->PV
 | none=>.non
 | some h=>.int h
theorem i3 {i:Nat}{h:Int}{g:Bool}{ρ:bQ}{Q:bQ->Prop} (q:Q (ρ.set i (some (.sh true (.int h))))):bO i (.int h) g ρ Q:=by
 show Q (ρ.set i (some (.sh (g || true) (.int h))))
 rw [Bool.or_true]; exact q
noncomputable def lX (ns S:List Int):Int:=(ns.length:Int) - (((ns.filter fun x=>decide (x ∈ S)).length:Nat):Int)
noncomputable def tI:bK:=fun xs Q=>∃ x ns ps S,xs = [x,.dK ps]/\dO x ns/\DS ps S/\ns.length<=10000/\Q (.int (lX ns S))
noncomputable def aa6:aI:=(bF (lQ (aB bT (a6 (a5 0) a9)) (aB lW (a6 (a5 0) (a6 (a5 1) a9)))))
theorem aT2:bY aa6 ["hearths","inside"] tI:=by
 rintro xs Q ⟨x,ns,ps,S,rfl,hx,d,hl,q⟩
 exact⟨_,rfl,_,_,rfl,hx.len,_,rfl,_,rfl,x,ns,ps,S,rfl,hx,d,hl,_,_,rfl,rfl,trivial,q⟩
noncomputable def oE:bK:=fun xs Q=>∃ x ns y ms,xs = [x,y]/\dO x ns/\dO y ms/\ns.length<=10000/\ms.length<=1000/\Q (.tup (intz (ns.filter fun z=>!decide (z ∈ ms))))
noncomputable def aa7:aI:=(aD (b6 2 (aB iH (a6 (a5 1) a9)))
 (bF (aB eS (a6 (cS (cR (a5 0)) [none,some 2] (bO 0) (aT (j3 true (a5 0) (a5 1))) (a5 0)) a9))))
theorem aT3:bY aa7 ["hearths","some","gone"] oE:=by
 rintro xs Q ⟨x,ns,y,ms,rfl,hx,hy,hl,hm,q⟩
 refine⟨_,rfl,y,ms,rfl,hy,hm,fun ps d=>⟨trivial,?_⟩⟩
 refine⟨_,rfl,_,hx.seq,o8 hx,by rw [aZ]; omega,fun i acc=>acc=intz ((ns.take i).filter fun z=>!decide (z ∈ ms)),rfl,?_,?_⟩
 ·rintro i z acc hz rfl
  obtain ⟨n,rfl,hn⟩:=fP hz
  have tk:=kX (p:=fun z=>!decide (z ∈ ms)) hn
  refine⟨_,rfl,_,rfl,_,.inl ⟨ps,Sum.inl n,rfl,rfl,rfl⟩,_,rfl,?_⟩
  show if (!(bV ps (Sum.inl n:aE)).isSome)=true then _ else _
  rw [d.has n]
  by_cases h:n ∈ ms
  ·rw [bn4 h] at tk ⊢
   refine b8 ?_
   show _=intz (List.filter _ (List.take (i+1) ns))
   rw [tk]; exact congrArg intz (br6 _).symm
  ·rw [bn9 h] at tk ⊢
   refine b9 ⟨_,rfl,trivial,?_⟩
   show _=intz (List.filter _ (List.take (i+1) ns))
   rw [tk,dW]; rfl
 ·rintro acc rfl
  rw [aZ,bs5]
  exact⟨⟨_,_,rfl,rfl,bJ _,trivial,q⟩,fun ns z=>by cases z⟩
noncomputable def lY (ws:List Int) (ls:List (Int × Int)) (S:List Int) (h:Int):Bool:=decide (lX (aO ls h) S < ws.getD h.toNat 0)
noncomputable def stay (ws:List Int) (ls:List (Int × Int)) (S:List Int):List Int:=S.filter (lY ws ls S)
theorem tJ {n:Nat}{S:List Int} (h:b4 n S=true) (p:Int->Bool):b4 n (S.filter p)=true:=by
 obtain ⟨h1,h2⟩:=cU h
 have u:fI (n:Int) (S.filter p):=⟨(fH h1).filter p,fun x hx=>h2 x (bp3.mp hx).1,by
  have:=jO h
  have:=bt1 p S
  omega⟩
 exact u.set
noncomputable def tK:bK:=fun xs Q=>∃ ws ls x S,xs = [b7 ws ls,.lst (dC ws.length ls),x]/\Wb ws ls/\dO x S/\b4 ws.length S=true/\Q (.tup (intz (stay ws ls S)))
noncomputable def aa8:aI:=(aD (b6 3 (aB iH (a6 (a5 2) a9)))
 (bF (aB eS (a6 (cS (cR (a5 2)) [none,some 3,some 1,some 0] (bO 0) (aT (qD (aB tI (a6 (bE (a5 2) (a5 0)) (a6 (a5 1) a9))) (bE (bE (a5 3) (qC (.int 0))) (a5 0)))) (a5 0)) a9))))
theorem aT4:bY aa8 ["web","around","block","inside"] tK:=by
 rintro xs Q ⟨ws,ls,x,S,rfl,wb,hx,hs,q⟩
 have few:=wb.few
 have ln:=jO hs
 have most:=wb.most
 refine⟨_,rfl,x,S,rfl,hx,by omega,fun ps d=>⟨trivial,?_⟩⟩
 refine⟨_,rfl,_,hx.seq,o8 hx,by rw [aZ]; omega,fun i acc=>acc=intz ((S.take i).filter (lY ws ls S)),rfl,?_,?_⟩
 ·rintro i z acc hz rfl
  obtain ⟨h,rfl,hh⟩:=fP hz
  have hm:=(cU hs).2 h (bp0 hh)
  have nl:=lM ls h
  have tk:=kX (p:=lY ws ls S) hh
  refine⟨_,rfl,_,rfl,_,_,_,rfl,rfl,o9 hm.1 hm.2,_,rfl,_,aO ls h,ps,S,rfl,.inr rfl,d,by omega,_,rfl,_,_,_,rfl,rfl,rfl,_,rfl,_,_,_,rfl,rfl,tE hm.1 hm.2,_,_,rfl,rfl,_,rfl,?_⟩
  show if lY ws ls S h=true then _ else _
  cases hk:lY ws ls S h with
  | true=>
   rw [hk,if_pos rfl] at tk
   refine b9 ⟨_,rfl,trivial,?_⟩
   show _=intz (List.filter _ (List.take (i+1) S))
   rw [tk,dW]; rfl
  | false=>
   rw [hk,if_neg (by decide),br6] at tk
   refine b8 ?_
   show _=intz (List.filter _ (List.take (i+1) S))
   rw [tk]
 ·rintro acc rfl
  rw [aZ,bs5]
  exact⟨⟨_,_,rfl,rfl,bJ _,trivial,q⟩,fun ns z=>by cases z⟩
section
variable {ws : List Int} {ls : List (Int × Int)} {S T : List Int}
theorem aa9 {n:Nat}{A B:List Int} (ha:b4 n A=true) (hb:b4 n B=true) (h:∀ x,x ∈ A ↔ x ∈ B):A=B:=by
 have ua:=fH (cU ha).1
 have ub:=fH (cU hb).1
 have p:A.Perm B:=(List.perm_ext_iff_of_nodup (ua.imp fun z=>bx1 z) (ub.imp fun z=>bx1 z)).mpr h
 exact Z4 p (ua.imp fun z=>Int.le_of_lt z) (ub.imp fun z=>Int.le_of_lt z)
end
section
variable {ws : List Int} {ls : List (Int × Int)} {ns : List Int}
theorem aT5 (wb:Wb ws ls) {h x:Int} (hx:x ∈ aO ls h):x ∈ rng ws.length:=by
 unfold aO at hx
 obtain ⟨l,hl,hx⟩:=List.mem_flatMap.mp hx
 have:=wb.links l hl
 rcases bo6.mp hx with hx | hx
 ·split at hx
  ·rw [bo2.mp hx]; exact eG.mpr this.2
  ·cases hx
 ·split at hx
  ·rw [bo2.mp hx]; exact eG.mpr this.1
  ·cases hx
noncomputable def yV (n:Nat) (S:List Int):List Int:=(rng n).filter fun x=>!decide (x ∈ S)
end
end Core
namespace Raw
open PySem PySem.W PyProof.Rows
section
variable {prog : Program} {w : World} {A : Around} {E : Value → Shared → Prop} {s : Shared} {T : String} {r d : Addr} {n : Nat} {P : Nat → Value → Prop} {OK : Heap → Prop}
theorem aT6 {R:Result->Shared->Prop} (K:KdlSrc prog w T r d n P OK) (hh:A.handled=none) (hok:OK s.heap) (hn:n<=sizeLine)
  (hR:∀ h' tk acc c,(∀ b o,b ≠ s.heap.objs.size->(s.heap.push { cls:=.type "list",data:=.seq ([]:List Value).toArray }).get? b=some o->h'.get? b=some o)->h'.get? s.heap.objs.size=some { cls:=.type "list",dict:=none,data:=.seq acc c,slots:=#[] }->ItemsOf P acc n->R (.ok (.ret (.ref s.heap.objs.size))) { s with heap:=h',toks:=tk }) :
  codeAny (model prog w) A (.builtin "proto.collect" ⟨[.ref r],[]⟩) R s:=by
 have lt:=K.there _ hok
 refine codeAny_builtin PySem.F.entry_proto_collect ?_
 rw [Around.under_plainId PySem.F.plain_proto_collect _]
 show wpAny _ A.in1 (newList [] >>= fun l=>again (.builtin "list.__iadd__" ⟨[l,.ref r],[]⟩)) _ _ s
 refine bn3 (bv7 ?_)
 refine bo9 ⟨plainId_quiet PySem.F.plain_list_iadd _,codeAny_builtin PySem.F.entry_list_iadd ?_⟩
 rw [Around.under_plainId PySem.F.plain_list_iadd _]
 show wpAny _ A.in1 (Builtin.List.listExtendWith (.ref s.heap.objs.size) (.ref r) (.ref s.heap.objs.size)) _ _ _
 exact kdl_extend (s:={ s with heap:=s.heap.push { cls:=.type "list",data:=.seq ([]:List Value).toArray } }) (R:=R) K hh (K.keep _ _ hok fun b _ o e=>bn6 _ e) s.heap.objs.size (bw1 lt.1) (bw1 lt.2) _ 0 (bp7 _ rfl) hR hn
theorem aT7 {Q:List Value->Shared->Prop} (K:KdlSrc prog w T r d n P OK) (hh:A.handled=none) (hok:OK s.heap) (hn:n<=sizeLine)
  (hQ:∀ h' tk acc,(∀ b o,s.heap.get? b=some o->h'.get? b=some o)->s.heap.objs.size<=h'.objs.size->ItemsOf P acc n->Q acc.toList { s with heap:=h',toks:=tk }) :
  wpAny (model prog w) A (collect (.ref r)) Q E s:=by
 unfold collect
 refine bn3 (wpAny_runValue (aT6 (s:=s) K hh hok hn fun h' tk acc c kp at1 it=>?_))
 show wpAny _ A (load s.heap.objs.size >>= _) _ _ _
 refine bn3 (wpAny_load at1 ?_)
 exact bo9 (hQ h' tk acc (fun b o e=>kp b o (br7 (bp5 e)) (bn6 _ e)) (bt5 (bp5 at1)) it)
theorem aT8 {Q:Value->Shared->Prop}{G:List Int->Prop} (K:KdlSrc prog w T r d n P OK) (hh:A.handled=none) (hok:OK s.heap) (hn:n < 64)
  (hI:∀ acc,ItemsOf P acc n->∃ ns,IntsAre acc.toList ns/\G ns)
  (h:∀ h' tk a (out:Array Value) (ns ns':List Int) e,(∀ b o,s.heap.get? b=some o->h'.get? b=some o)->s.heap.objs.size<=a->h'.get? a=some (seqObj "list" out e)->IntsAre out.toList ns'->G ns->ns'.Perm ns->ns'.Pairwise (· <= ·)->Q (.ref a) { s with heap:=h',toks:=tk }) :
  wpAny (model prog w) A (call (.builtin "sorted") [.ref r]) Q E s:=by
 have hsl:n<=sizeLine:=bs2 (bt5 hn) (by decide)
 refine Calls.call_function_entry kind_sorted plain_sorted entry_sorted (args_sorted1 _) ?_
 unfold Builtin.«sorted»
 refine bn3 (m:=checkCount "sorted" 1 1 _) (bo9 ?_)
 refine bn3 (aT7 (s:=s) K hh hok hsl fun h' tk acc kp hs it=>?_)
 obtain ⟨ns,hi,g⟩:=hI acc it
 have hz:acc.toList.length < 64:=by rw [Array.length_toList,it.1]; exact hn
 refine bn3 (wpAny_newList ?_ (bs2 (bt5 hz) (by decide)))
 have hoL:(h'.push (seqObj "list" acc.toList.toArray 0)).get? h'.objs.size=some (seqObj "list" acc.toList.toArray 0):=bp7 _ rfl
 show wpAny _ _ _ _ _ { s with heap:=h'.push (seqObj "list" acc.toList.toArray 0),toks:=tk }
 refine bn3 (bx4 (bu8 slot_list_sort ⟨_,hoL,rfl⟩ entry_list_sort (list_sort_tree hoL hi hz fun out ns' a1 a2 a3=>⟨_,rfl,?_⟩) (args_list_sort _)))
 obtain ⟨e,he⟩:=sortedHeap_at (vs:=acc.toList) (out:=out) hoL
 refine bo9 ⟨_,rfl,h _ tk h'.objs.size out ns ns' e (fun b o hb=>?_) hs he a1 g a2 a3⟩
 have lt:=bp5 (kp b o hb)
 rw [sortedHeap_old (br7 lt) (by rw [size_push']; exact Nat.lt_succ_of_lt lt)]
 exact bn6 _ (kp b o hb)
end
end Raw
namespace L2
open PySem PySem.Spec PyProof.Rows
section
variable {X : Cx}
theorem aT9 (hc:X.calm=true):dN X (.builtin "sorted") (fun xs H Q=>∃ a kvs ns,xs = [.ref a]/\H a=some (.dK kvs)/\kvs.map (·.1)=ns.map Sum.inl/\ns.length < 64/\∀ l (ms:List Int),H l=none->ms.Perm ns->ms.Pairwise (· <= ·)->Q (.ref l) (upd H l (.lst (ms.map V.int)))):=by
 intro pins s σ H xs us Q I r h
 obtain ⟨a,kvs,ns,rfl,ha,hk,h64,q⟩:=h
 obtain ⟨u,rfl,ru⟩:=jV r
 cases ru
 obtain ⟨es,ep,rd,far,vk,z⟩:=aB5 I ha
 have hl:=vk.length
 have hl2:=congrArg List.length hk
 rw [bn7,bn7] at hl hl2
 have hsz:es.toList.length=es.size:=Array.length_toList
 have e1:(kvs.map fun p=>kV p.1)=ns.map V.int:=by
  have:(kvs.map fun p=>kV p.1)=(kvs.map (·.1)).map kV:=by rw [bv5]; rfl
  rw [this,hk,bv5]; rfl
 rw [e1] at vk
 refine Raw.aT8 (G:=fun ms=>ms=ns) (Raw.aB4 far) (I.ok.hd hc) rd (by omega) (fun acc it=>⟨ns,by rw [aB6 it]; exact pD vk,rfl⟩) fun h' tk l out ns1 ns' e kp hn he a1 g a2 a3=>?_
 subst g
 have hlen:ns'.length=ns1.length:=a2.length_eq
 refine⟨.ref l,upd H l (.lst (ns'.map V.int)),I.laid (t':=tk) kp hn ⟨?_,out.toList,e,pM a1,by simpa using he⟩,rfl,q _ ns' (I.hok.fresh hn) a2 a3⟩
 rw [bn7,hlen]
 exact bt5 (nK (by omega))
end
end L2
namespace PP
open PySem L2 PyProof.Rows
section
variable {X : Cx} {a b e : Expr} {ta tb te : aH} {tr : dI} {pos p2 : Pos}
noncomputable def tL:List PV->(PV->Prop)->Prop:=fun xs Q=>∃ (ps:List (aE × PV)) (ns:List Int),xs = [.dK ps]/\ps.map (·.1)=ns.map Sum.inl/\ns.length < 64/\∀ ms:List Int,ms.Perm ns->ms.Pairwise (· <= ·)->Q (.lst (intz ms))
theorem aU0:iD X tL (fun xs H Q=>∃ a kvs ns,xs = [.ref a]/\H a=some (.dK kvs)/\kvs.map (·.1)=ns.map Sum.inl/\ns.length < 64/\∀ l (ms:List Int),H l=none->ms.Perm ns->ms.Pairwise (· <= ·)->Q (.ref l) (upd H l (.lst (ms.map V.int)))):=by
 rintro H vs xs Q Q' r ⟨ps,ns,rfl,e,hl,q⟩ k
 obtain ⟨v,rfl,r1⟩:=r.one
 cases r1 with
 | @dK a kvs _ m h e2 r2=>
  exact⟨a,kvs,ns,rfl,h,e2.trans e,hl,fun l ms hl' p o=>k _ _ _ (bP hl' _) (.lst hl' bN (Reps.intz ms)) (q ms p o)⟩
theorem ab0 (B:Bt X.mg) (hc:X.calm=true) (ha:QA X [e] tr) (hg:Gl X "sorted":=by rfl) (he:starEach [e] X.env=(false,eval e X.env) :: starEach [] X.env:=by rfl) (hpl:(backTo pos (starEach [] X.env)).any (·.1)=false:=by rfl):QE X (.Call (.Name "sorted" p2) [e] [] pos) (aB tL tr):=
 kU (aT9 hc) aU0 hg B.sorted bA3 ha (he:=he) (hpl:=hpl)
end
end PP
namespace Core
open PySem L2 PP
noncomputable def j7 (k:Nat) (r:List Int):List (aE × PV):=r.map fun h=>((Sum.inl h:aE),PV.int (k:Int))
noncomputable def l8 (rs:List (List Int)):List (aE × PV):=(rs.mapIdx j7).flatten
theorem aU1 (rs:List (List Int)) (r:List Int):l8 (rs ++ [r])=l8 rs ++ j7 rs.length r:=by
 unfold l8
 rw [List.mapIdx_append,List.flatten_append]
 simp
theorem ab1 (k:Nat) (r:List Int):(j7 k r).map (·.1)=r.map Sum.inl:=by
 unfold j7; rw [bv5]; rfl
theorem ab2:∀ (rs:List (List Int)) (g:Nat->Nat),((rs.mapIdx fun i r=>j7 (g i) r).flatten).map (·.1)=rs.flatten.map (Sum.inl:Int->aE)
 | [],_=>rfl
 | r :: t,g=>by
  rw [List.mapIdx_cons,bx9,bx9,bp1,bp1,ab1,ab2 t fun i=>g (i+1)]
theorem ab3 (rs:List (List Int)):(l8 rs).map (·.1)=rs.flatten.map (Sum.inl:Int->aE):=ab2 rs fun i=>i
theorem yW {ps:List (aE × PV)}{h:Int}{v:PV}{S:List Int} (e:ps.map (·.1)=S.map Sum.inl) (hn:h ∉ S):dR ps (Sum.inl h:aE) v=ps ++ [(Sum.inl h,v)]:=by
 unfold dR
 rw [if_neg]
 intro z
 rw [List.any_eq_true] at z
 obtain ⟨p,hp,hq⟩:=z
 have:p.1 ∈ ps.map (·.1):=bp6.mpr ⟨p,hp,rfl⟩
 rw [e,bs3 hq] at this
 obtain ⟨y,hy,e2⟩:=bp6.mp this
 exact hn (Sum.inl.inj e2 ▸ hy)
theorem aU2 {k:Nat}{r:List Int}{i:Nat}{n:Int} (h:r[i]? = some n):j7 k (r.take (i+1))=j7 k (r.take i) ++ [(Sum.inl n,PV.int (k:Int))]:=by
 unfold j7
 rw [bs1,h,bp1]; rfl
theorem eD {ls:List (Int × Int)}{h x:Int}:x ∈ aO ls h ↔ ∃ l ∈ ls,(l.1=h/\l.2=x) ∨ (l.2=h/\l.1=x):=by
 unfold aO
 rw [List.mem_flatMap]
 constructor
 ·rintro ⟨l,hl,hx⟩
  refine⟨l,hl,?_⟩
  rcases bo6.mp hx with hx | hx
  ·split at hx
   ·rename_i e; exact .inl ⟨e,(bo2.mp hx).symm⟩
   ·cases hx
  ·split at hx
   ·rename_i e; exact .inr ⟨e,(bo2.mp hx).symm⟩
   ·cases hx
 ·rintro ⟨l,hl,⟨e1,e2⟩ | ⟨e1,e2⟩⟩
  ·exact⟨l,hl,br8 _ (by rw [if_pos e1,e2]; exact List.mem_singleton_self _)⟩
  ·exact⟨l,hl,br0 _ (by rw [if_pos e1,e2]; exact List.mem_singleton_self _)⟩
theorem ab4 {h:Int}:∀ {ls:List (Int × Int)},(∀ l ∈ ls,l.1 < l.2)->ls.Pairwise kY->(aO ls h).Nodup
 | [],_,_=>.nil
 | l :: r,hl,hp=>by
  have ih:=ab4 (h:=h) (ls:=r) (fun m hm=>hl m (bo5 _ hm)) (bC5.mp hp).2
  have h0:=hl l bo4
  have e:aO (l :: r) h=((if l.1=h then [l.2] else []) ++ (if l.2=h then [l.1] else [])) ++ aO r h:=rfl
  rw [e]
  refine bu1.mpr ⟨?_,ih,fun x hx y hy q=>?_⟩
  ·by_cases e1:l.1=h
   ·rw [if_pos e1,if_neg (by omega),br6]; exact bq2 _ _
   ·rw [if_neg e1]
    split
    ·exact bq2 _ _
    ·exact .nil
  ·subst q
   obtain ⟨m,hm,c⟩:=eD.mp hy
   have h1:=hl m (bo5 _ hm)
   have h2:=(bC5.mp hp).1 m hm
   have c':(l.1=h/\l.2=x) ∨ (l.2=h/\l.1=x):=by
    rcases bo6.mp hx with hx | hx
    ·split at hx
     ·rename_i e; exact .inl ⟨e,(bo2.mp hx).symm⟩
     ·cases hx
    ·split at hx
     ·rename_i e; exact .inr ⟨e,(bo2.mp hx).symm⟩
     ·cases hx
   unfold kY at h2
   omega
theorem ab5 (n:Nat):(rng n).Pairwise (· < ·):=by
 unfold rng
 rw [bx0]
 exact (List.pairwise_lt_range (n:=n)).imp fun h=>by omega
theorem aU3 (n:Nat) (p:Int->Bool):b4 n ((rng n).filter p)=true:=by
 refine fI.set ⟨(ab5 n).sublist List.filter_sublist,fun x hx=>?_,?_⟩
 ·have:=eG.mp (bp3.mp hx).1
  exact this
 ·have:=bt1 p (rng n)
  rw [dM] at this
  omega
section
variable {ws : List Int} {ls : List (Int × Int)} {ns wts : List Int} {m : Nat}
noncomputable def loose (ls:List (Int × Int)) (wts ns:List Int):List ((Int × Int) × Int):=(ls.zip wts).filter fun z=>!(decide (z.1.1 ∈ ns) && decide (z.1.2 ∈ ns))
end
theorem ab6 (a b:List (List Int)):tups (a ++ b)=tups a ++ tups b:=bp1
end Core
namespace PP
open PySem L2 PyProof.Rows
section
variable {X : Cx} {a b e : Expr} {ta tb te : aH} {D : cM} {σ : L2.St} {H : Hp} {pos p2 : Pos}
noncomputable def tM (p:k6) (te:aH):aI:=fun D ρ=>te ρ fun x g=>wZ g x/\p x (wY g x) ρ fun ρ2=>D.nx ρ2
theorem aU4 {p:k6}{g:TG}{own:Nat->Prop} (hg:nT X.K own p g) (h:LS X (tM p te) D σ H):kH (LE X te) g D σ H:=by
 obtain ⟨W,ρ,D',px,q,k⟩:=h
 refine⟨W,ρ,_,px,q,?_⟩
 rintro v H1 x gt s r ⟨st,q⟩
 refine hg X.H₀ W σ ρ H1 v x _ _ _ (px.mono s) (S0 px st r) q fun σ' ρ' px' _ _ q'=>?_
 exact k.nx W σ' H1 ρ' (Ev.same s) px' q'
theorem ab7 (i j:Nat) {x y:Str}{tp xp yp:Pos}{kt:Nat} (hN:X.N.Nodup) (he:QE X e te) (hx:X.N[i]? = some x:=by rfl) (hy:X.N[j]? = some y:=by rfl) (hlx:iP X.env.scope x:=by first | exact Or.inl rfl | exact Or.inr rfl) (hly:iP X.env.scope y:=by first | exact Or.inl rfl | exact Or.inr rfl)
  (hfx:X.fn x=true ∨ X.env.scope.names.lookup x=some .local:=by first | exact .inl rfl | exact .inr rfl) (hfy:X.fn y=true ∨ X.env.scope.names.lookup y=some .local:=by first | exact .inl rfl | exact .inr rfl) (hc:X.calm=true:=by rfl)
  (hs:swapsWithSole [.Tuple [.Name x xp,.Name y yp] kt tp] e pos.line X.env=pure false:=by rfl) (hw:swappedStores [.Tuple [.Name x xp,.Name y yp] kt tp] e X.env=pure none:=by rfl):QS X (.Assign [.Tuple [.Name x xp,.Name y yp] kt tp] e pos) (tM (iZ i j) te):=by
 have g:PG X (.Tuple [.Name x xp,.Name y yp] kt tp) (lE X.K 2 (gK (cQ i) (gK (cQ j) lD))):=mG hc (gW (eZ hN hx hlx hfx) (gW (eZ hN hy hly hfy) mF))
 exact dS (C9 he g hs hw) fun _ _ _=>aU4 (sP _ i j)
end
end PP
set_option maxHeartbeats 1000000
set_option maxHeartbeats 1000000
set_option maxHeartbeats 1000000
set_option maxHeartbeats 1000000
namespace PP
open PySem L2 PyProof.Rows
noncomputable abbrev eJ:=(Str->Prop)->bK
noncomputable def EX (K:PySem.W.Frag) (H0:Hp) (Ep:Str->Prop):XK:=fun c d H'=>d=none/\aG H0 H'/\∃ n C,c = .ref C/\PySem.W.nsIn K mainGlobals n=some (some (.ref C))/\Ep n
noncomputable def spX (K:PySem.W.Frag) (p:eJ):Sp:=fun vs H Q E=>∃ xs Qp Ep,Reps K (fun _=>True) H vs xs/\p Ep xs Qp/\(∀ v H' x,aG H H'->aK K (fun a=>H a=none) H' v x->Qp x->Q v H')/\
 ∀ n C H',aG H H'->PySem.W.nsIn K mainGlobals n=some (some (.ref C))->Ep n->E (.ref C) none H'
structure cC (P:Program) (w:World) (K:PySem.W.Frag) (mg:Str->Option Value) (base:Heap) (k:Nat) (x:Str) (ps:List Str) (p:eJ):Prop where
 ex:∃ f fd,dD P w K mg base (fG P w) k f fd ps (spX K p)/\jC K fd ps []/\PySem.W.keepIn K (.ref f)=true/\mg x=some (.ref f)
section
variable {X : Cx} {σ : L2.St} {H : Hp} {D : cM} {tr : dI} {Q' : VK} {a b c e : Expr} {es : List Expr} {pos p2 cp np hp : Pos} {t : aI} {te : aH} {tc : cY}
noncomputable def l9 (Ep:Str->Prop) (p:eJ) (t:dI):aH:=aB (p Ep) t
theorem ab8 {p:eJ}{Ep:Str->Prop} (h:LE X (l9 Ep p tr) σ H Q'):vG (spX X.K p) [] (EX X.K X.H₀ Ep) (LA X tr) σ H Q':=by
 obtain ⟨W,ρ,Q,px,q,k⟩:=h
 refine⟨W,ρ,_,px,q,fun vs H1 xs s1 r1 q1=>⟨_,_,Ep,by rw [br6]; exact r1.any,q1,fun v H' x s2 r2 q2=>k v H' x .fr (s1.trans s2) (r2.same (aG.refl _) fun _ z=>s1.free z) q2,fun n C H' s2 z1 z2=>⟨rfl,(px.same.trans s1).trans s2,n,C,rfl,z1,z2⟩⟩⟩
theorem mX {Ep:Str->Prop}{k j:Nat}{x:Str}{ps:List Str}{p:eJ} (hX:o4 X (EX X.K X.H₀ Ep)) (d:cC X.prog X.w X.K X.mg X.base k x ps p) (hr:cL j X.A) (ha:QA X (e :: es) tr) (hkj:k<=j:=by decide) (hg:Gl X x:=by rfl) (hdb:(x == ("__debug__" : Str))=false:=by decide)
  (he:starEach (e :: es) X.env=(false,eval e X.env) :: starEach es X.env:=by rfl) (hpl:(backTo pos (starEach es X.env)).any (·.1)=false:=by rfl):QE X (.Call (.Name x p2) (e :: es) [] pos) (l9 Ep p tr):=by
 obtain ⟨f,fd,F,b,kp,m⟩:=d.ex
 exact cN (vH F (hr.mono hkj) hg m kp b .nil hX.pass ha hdb he hpl) fun _ _ _=>ab8
theorem ab9 {k j:Nat}{x:Str}{ps:List Str}{p:eJ} (d:cC X.prog X.w X.K X.mg X.base k x ps p) (hr:cL j X.A) (ha:QA X (e :: es) tr) (hkj:k<=j:=by decide) (hg:Gl X x:=by rfl) (hdb:(x == ("__debug__" : Str))=false:=by decide)
  (he:starEach (e :: es) X.env=(false,eval e X.env) :: starEach es X.env:=by rfl) (hpl:(backTo pos (starEach es X.env)).any (·.1)=false:=by rfl):QE X (.Call (.Name x p2) (e :: es) [] pos) (aB (p fun _=>False) tr):=by
 obtain ⟨f,fd,F,b,kp,m⟩:=d.ex
 refine cN (vH F (E:=EX X.K X.H₀ fun _=>False) (hr.mono hkj) hg m kp b .nil (fun _ _ _ _ _ _ _ h=>?_) ha hdb he hpl) fun _ _ _ h=>ab8 (Ep:=fun _=>False) h
 obtain ⟨_,_,_,_,_,_,_,_,_,_,_,_,z⟩:=h
 exact z.elim
noncomputable def qU (Ep:Str->Prop) (n:Str) (t:dI):aI:=fun _ ρ=>t ρ fun xs=>xs.length<=1000/\Ep n
theorem aU5 {Ep:Str->Prop}{n:Str}{C:Addr} (hn:PySem.W.nsIn X.K mainGlobals n=some (some (.ref C))) (h:LS X (qU Ep n tr) D σ H):V7 (EX X.K X.H₀ Ep) C (LA X tr) D σ H:=by
 obtain ⟨W,ρ,D',px,q,k⟩:=h
 exact⟨W,ρ,_,px,q,fun vs H1 xs s1 r z=>⟨by rw [r.length]; exact wV z.1,rfl,px.same.trans s1,n,C,rfl,hn,z.2⟩⟩
structure Xc (K:PySem.W.Frag) (mg:Str->Option Value) (base:Heap) (n:Str):Prop where
 ex:∃ C B newId initId bm,OwnCls n C bm newId mg base/\ExcBaseFacts B newId initId bm/\PySem.W.nsIn K mainGlobals n=some (some (.ref C))
theorem yX {Ep:Str->Prop}{n:Str} (hX:o4 X (EX X.K X.H₀ Ep)) (x:Xc X.K X.mg X.base n) (ha:QA X (e :: es) tr) (hc:X.calm=true:=by rfl) (hg:Gl X n:=by rfl) (hd:(n == ("__debug__" : Str))=false:=by decide)
  (he:starEach (e :: es) X.env=(false,eval e X.env) :: starEach es X.env:=by rfl) (hpl:(backTo cp (starEach es X.env)).any (·.1)=false:=by rfl):QS X (.Raise (some (.Call (.Name n np) (e :: es) [] cp)) none pos) (qU Ep n tr):=by
 obtain ⟨C,B,newId,initId,bm,O,FB,hn⟩:=x.ex
 exact dS (aM1 hX hc O FB ha hg hd he hpl) fun _ _ _=>aU5 hn
noncomputable abbrev oF:=hG->(Str->Prop)->bQ->Prop
noncomputable def LB (X:Cx) (t:oF):TB:=fun D Ex σ H=>∃ (W:Addr->Prop) (ρ:bQ) (D':hG) (Ep:Str->Prop),PX X.K X.H₀ W σ ρ H/\t D' Ep ρ/\pT X W H D' D/\∀ n C H',aG H H'->PySem.W.nsIn X.K mainGlobals n=some (some (.ref C))->Ep n->Ex (.ref C) none H'
noncomputable def QB (X:Cx) (sts:List Stmt) (t:oF):Prop:=PB X sts (LB X t)
theorem pbI {sts:List Stmt}{t t':TB} (h:PB X sts t) (m:∀ D Ex σ H,t' D Ex σ H->t D Ex σ H):PB X sts t':=fun pins s σ H D Ex I q=>h pins s σ H D Ex I (m D Ex σ H q)
noncomputable def ac0 (D:hG) (i:Nat):hG:={ nx:=fun ρ=>D.nx (ρ.set i none),rt:=D.rt,bk:=fun ρ=>D.bk (ρ.set i none),ct:=fun ρ=>D.ct (ρ.set i none) }
noncomputable def oG:List Str:=["BadWeb","BadSet","BadOrder","BadPrices","BadBoard","BadDeed","NotWood","NoPaper","NoSuch","TooMany","NoText","OddRound"]
noncomputable def mY (n m:Str):Option Bool:=if oG.contains n then some (n == m || m == "HearthError" || m == "ValueError") else none
noncomputable def yY (m:Str) (i:Nat) (tb:oF) (ts:aI):aI:=fun D ρ=>tb D (fun n=>mY n m=some true/\ts (ac0 D i) (ρ.set i (some (.sh true (.exc n))))) ρ
theorem aU6 {m:Str}{Ch:Addr}{i:Nat}{tb:oF}{ts:aI} (hs:∀ n C,mY n m=some true->PySem.W.nsIn X.K mainGlobals n=some (some (.ref C))->PySem.W.subIn X.K (.ref C) (.ref Ch)=some true) (h:LS X (yY m i tb ts) D σ H):V9 X.K Ch i (LB X tb) (LS X ts) D σ H:=by
 obtain ⟨W,ρ,D',px,q,k⟩:=h
 refine⟨W,ρ,D',_,px,q,k,fun n C H' s z1 z2 a C' oe hc na hcl=>?_⟩
 cases hc
 refine⟨hs n C z2.1 z1,W,_,ac0 D' i,(px.mono (s.trans (bP na _))).setSh (g:=true) (.exc bN z1 hcl),z2.2,?_⟩
 have k':=k.step (Ev.same (W:=W) (s.trans (bP na (.frz oe (.own a)))))
 exact⟨fun W' σ' H2 ρ' ev px' q'=>k'.nx W' _ H2 _ ev px'.setNone q',k'.rt,fun W' σ' H2 ρ' ev px' q'=>k'.bk W' _ H2 _ ev px'.setNone q',fun W' σ' H2 ρ' ev px' q'=>k'.ct W' _ H2 _ ev px'.setNone q'⟩
structure yZ (K:PySem.W.Frag) (mg:Str->Option Value) (m:Str):Prop where
 ex:∃ Ch,mg m=some (.ref Ch)/\xZ K Ch/\∀ n C,mY n m=some true->PySem.W.nsIn K mainGlobals n=some (some (.ref C))->PySem.W.subIn K (.ref C) (.ref Ch)=some true
theorem aU7 (i:Nat) {m n:Str}{b₀:Stmt}{suite body:List Stmt}{tb:oF}{ts:aI} (ct:yZ X.K X.mg m) (hN:X.N.Nodup) (hb:QB X body tb) (hs:∀ a,gF (X.suite a) (b₀ :: suite) ts) (hstk:X.stack=X.env :: X.outer/\X.env.frame=some X.env.locals:=by exact⟨rfl,rfl⟩) (hi:X.N[i]? = some n:=by rfl) (hl:X.env.scope.names.lookup n=some .local:=by rfl) (hg:Gl X m:=by rfl)
  (hd:(m == ("__debug__" : Str))=false:=by decide):QS X (.Try body [.ExceptHandler (some (.Name m np)) (some n) (b₀ :: suite) hp] [] [] pos) (yY m i tb ts):=by
 obtain ⟨Ch,hm,c,sub⟩:=ct.ex
 exact dS (aM4 (ts:=LS X ts) hstk hb hg hm c hN hi hl (fun a=>xH (hs a) fun _ _ _ ⟨W,ρ,D',px,q,k⟩=>⟨W,ρ,D',px,q,⟨k.nx,k.rt,k.bk,k.ct⟩⟩) hd) fun _ _ _=>aU6 sub
noncomputable def iS:V->Value
 | .ref a=>.ref a
 | .ty n=>.type n
 | _=>.none
noncomputable def aU8 (K:PySem.W.Frag):List V->Hp->VK->Prop:=fun xs H Q=>∃ v v2 b,xs = [v,v2]/\iS v2 ≠ .none/\((∃ a o C,v = .ref a/\H a=some (.frz o (.own a))/\o.cls = .ref C/\kA K C/\PySem.W.kitOne K (.ref C) (iS v2)=some b) ∨ (v = .non/\PySem.W.kitOne K (.type "NoneType") (iS v2)=some b))/\Q (.bl b) H
theorem aU9:dN X (.builtin "isinstance") (aU8 X.K):=by
 intro pins s σ H xs us Q I r h
 obtain ⟨v,v2,b,rfl,hv,hk,q⟩:=h
 obtain ⟨u,u',rfl,ru,ru'⟩:=p9 r
 obtain rfl:u'=iS v2:=by
  cases v2 <;> first | exact ru' | exact absurd rfl hv
 rcases hk with ⟨a,o,C,rfl,hH,hc,F,e⟩ | ⟨rfl,e⟩
 ·obtain ⟨h1,_⟩:=I.hok a _ hH
  cases (show u=Value.ref a from ru)
  exact bu7 (aN1 F) I.kIn ⟨o,h1,hc⟩ e (fun z=>nomatch z) fun tk=>⟨.bl b,H,I.tok tk,rfl,q⟩
 ·cases (show u=Value.none from ru)
  exact bu7 PySem.W.kitx_none I.kIn trivial e (fun z=>nomatch z) fun tk=>⟨.bl b,H,I.tok tk,rfl,q⟩
noncomputable def aV0 (m:Str):PV->Option Bool
 | .exc n=>mY n m
 | .non=>some false
 | _=>none
noncomputable def oH (m:Str) (te:aH):aH:=fun ρ Q=>te ρ fun x _=>∃ b,aV0 m x=some b/\Q (.bl b) .fr
structure z9 (K:PySem.W.Frag) (m:Str) (v2:V):Prop where
 nn:iS v2 ≠ .none
 ex:∀ n C b,PySem.W.nsIn K mainGlobals n=some (some (.ref C))->mY n m=some b->kA K C/\PySem.W.kitOne K (.ref C) (iS v2)=some b
 no:PySem.W.kitOne K (.type "NoneType") (iS v2)=some false
theorem ac1 {x:Str}{v2:V}{px:Pos} (B:Bt X.mg) (A:z9 X.K x v2) (hx:PE X (.Name x px) (tC v2)) (ha:QE X a te) (hg:Gl X "isinstance":=by rfl)
  (he:starEach [a,.Name x px] X.env=(false,eval a X.env) :: starEach [.Name x px] X.env:=by rfl) (he2:starEach [.Name x px] X.env=(false,eval (.Name x px) X.env) :: starEach [] X.env:=by rfl) (hpl:(backTo pos (starEach [.Name x px] X.env)).any (·.1)=false:=by rfl):QE X (.Call (.Name "isinstance" p2) [a,.Name x px] [] pos) (oH x te):=
 cN (pB aU9 hg B.isinst PyProof.Rows.boot_isinstance (cW ha (cW hx dP he2) he) (he:=he) (hpl:=hpl)) fun σ H Q' h=>by
  obtain ⟨W,ρ,Q,px,q,k⟩:=h
  refine⟨W,ρ,_,px,q,?_⟩
  rintro v H1 y g s r ⟨b,e,q⟩
  refine⟨v,v2,b,rfl,A.nn,?_,k _ _ _ .fr s (.bl _) q⟩
  cases r with
  | exc h z c=>
   obtain ⟨F,kt⟩:=A.ex _ _ _ z e
   exact .inl ⟨_,_,_,rfl,h,c,F,kt⟩
  | non=>cases e; exact .inr ⟨rfl,A.no⟩
  | _=>cases e
end
section
variable {X : Cx} {a : Expr} {pos p2 px : Pos} {te : aH}
structure qV (K:PySem.W.Frag) (mg:Str->Option Value) (m:Str):Prop where
 ex:∃ C,mg m=some (.ref C)/\z9 K m (.ref C)
structure zA (K:PySem.W.Frag) (mg:Str->Option Value):Prop where
 mg:mg "ValueError" = none
 is:z9 K "ValueError" (.ty "ValueError")
theorem ac2 {x:Str} (B:Bt X.mg) (A:qV X.K X.mg x) (ha:QE X a te) (hgx:Gl X x:=by rfl) (hdx:(x == ("__debug__" : Str))=false:=by decide) (hg:Gl X "isinstance":=by rfl)
  (he:starEach [a,.Name x px] X.env=(false,eval a X.env) :: starEach [.Name x px] X.env:=by rfl) (he2:starEach [.Name x px] X.env=(false,eval (.Name x px) X.env) :: starEach [] X.env:=by rfl) (hpl:(backTo pos (starEach [.Name x px] X.env)).any (·.1)=false:=by rfl):QE X (.Call (.Name "isinstance" p2) [a,.Name x px] [] pos) (oH x te):=by
 obtain ⟨C,m,i⟩:=A.ex
 exact ac1 B i (ap6 hgx m rfl hdx) ha hg he he2 hpl
theorem aV1 (B:Bt X.mg) (A:zA X.K X.mg) (ha:QE X a te) (hgx:Gl X "ValueError":=by rfl) (hg:Gl X "isinstance":=by rfl)
  (he:starEach [a,.Name "ValueError" px] X.env=(false,eval a X.env) :: starEach [.Name "ValueError" px] X.env:=by rfl) (he2:starEach [.Name "ValueError" px] X.env=(false,eval (.Name "ValueError" px) X.env) :: starEach [] X.env:=by rfl) (hpl:(backTo pos (starEach [.Name "ValueError" px] X.env)).any (·.1)=false:=by rfl):QE X (.Call (.Name "isinstance" p2) [a,.Name "ValueError" px] [] pos) (oH "ValueError" te):=
 ac1 B A.is (B8 (v:=.ty "ValueError") hgx A.mg PyProof.Rows.Boot.«ValueError» rfl (by decide) (by decide)) ha hg he he2 hpl
end
structure lZ (K:PySem.W.Frag) (C:Addr):Prop where
 cls:PySem.W.isClsIn K C=true
 ty:PySem.W.typeIn K (.ref C)=some (.type "type")
 ga:PySem.W.findIn K (.ref C) "__getattribute__" = some (some (.builtin "BaseException.__getattribute__"))
 gt:PySem.W.findIn K (.ref C) "__getattr__" = some none
 fc:PySem.W.findIn K (.ref C) "__class__" = some (some (.builtin "object.__class__"))
 fg:PySem.W.specialIn K (.builtin "object.__class__") "__get__" = some (some (.builtin "getset_descriptor.__get__"))
 ft:PySem.W.takesIn K (.builtin "object.__class__")=some true
 ob:PySem.W.mroIn K C (.type "object")=some true
 be:PySem.W.mroIn K C (.type "BaseException")=some true
theorem lZ.exc {K:PySem.W.Frag}{C:Addr} (h:lZ K C):kA K C:=⟨h.cls,h.ga,h.gt,h.fc,h.fg,h.ft,h.ob,h.be⟩
theorem ac3 {K:PySem.W.Frag}{h₀:Heap}{mg:Str->Option Value}{x:Str}{C:Addr}{bmB:List Value}{newId:String} (X:K.In h₀) (m:mg x=some (.ref C)) (q:PySem.W.excIn K C bmB newId=true):OwnCls x C bmB newId mg h₀:=by
 refine⟨m,?_⟩
 unfold PySem.W.excIn at q
 split at q
 case h_2=>cases q
 rename_i dd cd sl ho
 split at q
 case h_2=>cases q
 rename_i C' bm k0 k1 k2 k3 n k5 hm hs
 simp only [br3,beq_iff_eq,Bool.not_eq_true'] at q
 obtain ⟨⟨⟨⟨⟨rfl,rfl⟩,dl⟩,ht⟩,hok⟩,hni⟩:=q
 obtain ⟨nm,bs,mro,ns,qn,hd,sn,sub,ab,col,del⟩:=cd
 dsimp only at hm dl hok hni
 subst hm dl
 obtain rfl:sl = #[k0,k1,k2,k3,some (.builtin n),k5]:=by
  obtain ⟨l⟩:=sl
  exact congrArg Array.mk hs
 exact⟨bm,ns,nm,qn,bs,hd,sn,sub,ab,col,dd,k0,k1,k2,k3,k5,_,X _ _ ho,.of_isNs (PySem.W.isNs_of_in X hok),PySem.W.nsMap_none_of_in X hok hni,PySem.W.tail_of_in X ht⟩
theorem tN {n m:Str}{b:Bool} (h:mY n m=some b):n ∈ oG/\b=(n == m || m == "HearthError" || m == "ValueError"):=by
 unfold mY at h
 split at h
 ·rename_i z
  exact⟨by simpa using z,by cases h; rfl⟩
 ·cases h
theorem tO {K:PySem.W.Frag}{C D:Addr}{b:Bool} (hd:lZ K D) (ne:(C == D)=false) (s:PySem.W.subIn K (.ref C) (.ref D)=some b):PySem.W.kitOne K (.ref C) (.ref D)=some b:=by
 have ne':(Value.ref C == Value.ref D)=false:=by
  rw [beq_eq_false_iff_ne] at ne ⊢
  exact fun z=>ne (Value.ref.inj z)
 have c:=hd.cls
 unfold PySem.W.isClsIn at c
 unfold PySem.W.kitOne PySem.W.kitCls
 rw [if_neg (by rw [ne']; decide)]
 dsimp only
 rw [if_pos (by rw [c,hd.ty]; decide)]
 exact s
theorem ac4 {K:PySem.W.Frag}{C:Addr}:PySem.W.kitOne K (.ref C) (.ref C)=some true:=by
 unfold PySem.W.kitOne
 rw [if_pos (bw3 _)]
theorem zB {K:PySem.W.Frag}{C:Addr} (s:PySem.W.subIn K (.ref C) (.type "ValueError")=some true):PySem.W.kitOne K (.ref C) (.type "ValueError")=some true:=by
 unfold PySem.W.kitOne PySem.W.kitCls
 rw [if_neg (fun z=>by cases beq_iff_eq.mp z)]
 dsimp only
 rw [if_pos (by decide +kernel)]
 exact s
theorem ac5 {K:PySem.W.Frag}{D:Addr} (hd:lZ K D) (s:PySem.W.subIn K (.type "NoneType") (.ref D)=some false):PySem.W.kitOne K (.type "NoneType") (.ref D)=some false:=by
 have c:=hd.cls
 unfold PySem.W.isClsIn at c
 unfold PySem.W.kitOne PySem.W.kitCls
 rw [if_neg (fun z=>by cases beq_iff_eq.mp z)]
 dsimp only
 rw [if_pos (by rw [c,hd.ty]; decide)]
 exact s
theorem aV2 {K:PySem.W.Frag}:PySem.W.kitOne K (.type "NoneType") (.type "ValueError")=some false:=by
 have e:(if PySem.W.kitMeta "ValueError" = true then (fastBuiltinMro "NoneType").map (·.contains (Value.type "ValueError")) else none)=some false:=by decide +kernel
 unfold PySem.W.kitOne
 rw [if_neg (by decide)]
 exact e
theorem cC.of {P:Program}{w:World}{K:PySem.W.Frag}{mg:Str->Option Value}{base:Heap}{k:Nat}{x:Str}{ps N:List Str}{p:eJ}{st:Stmt}{f:Addr}{fd:FuncData} (F:fZ K x x st f fd) (m:mg x=some (.ref f)) (S:FnScope N ps (aY st))
  (hb:∀ (kV doc pm:Value) (an:Option Addr) (cdv ct:Value) (us:List Value),us.length=ps.length->bindArgs (PySem.W.fnOf x x (kM st) (fY st) (aY st) .none kV doc pm an cdv ct) ⟨us,[]⟩=pure (ps.zip us))
  (t:(Str->Prop)->aI) (len:∀ Ep xs Q,p Ep xs Q->xs.length=ps.length) (rd:∀ Ep xs Q,p Ep xs Q->t Ep { nx:=fun _=>Q .non,rt:=Q } (hV N xs))
  (body:∀ (cdv:Value) (A:Around) (outer:List Env) (s:Shared) (H:Hp) (E:XK) (Ep:Str->Prop),cL k (A.deeper (envOfC x (aY st) s.heap.objs.size f cdv))->o4 (e8 (fG P w) P w K mg base N x (aY st) f cdv A outer s H E) (EX K H Ep)->
   gF (e8 (fG P w) P w K mg base N x (aY st) f cdv A outer s H E) (fY st) (t Ep)):cC P w K mg base (k+1) x ps p:=by
 refine⟨f,fd,F.okX S (fun vs H Q E h=>?_) (fun cdv A outer s H vs Q E hr h=>?_),F.binds hb,F.kp,m⟩
 ·obtain ⟨xs,Qp,Ep,r,q,_⟩:=h
  rw [r.length]; exact len Ep xs Qp q
 ·obtain ⟨xs,Qp,Ep,r,q,k,ke⟩:=h
  have ht:=body cdv A outer s H E Ep hr (aM0 fun c d H' z=>?_)
  ·refine⟨_,ht,fun _=>False,hV N xs,_,xX r,rd Ep xs Qp q,?_,?_,?_,?_⟩
   ·exact fun W' σ' H' ρ' e px q=>k _ _ _ px.same .non q
   ·exact fun v H' x s r q=>k _ _ _ s r q
   ·exact fun W' σ' H' ρ' e px q=>q
   ·exact fun W' σ' H' ρ' e px q=>q
  ·obtain ⟨rfl,s1,n,C,rfl,z1,z2⟩:=z
   exact ke n C H' s1 z1 z2
end PP
namespace Core
open PySem L2 PP
noncomputable abbrev m3 (t:(Str->Prop)->aI) (N:List Str) (p:eJ):Prop:=∀ Ep xs Q,p Ep xs Q->t Ep { nx:=fun _=>Q .non,rt:=Q } (hV N xs)
noncomputable def m5:eJ:=fun Ep xs Q=>∃ ws ls x ns,xs = [b7 ws ls,x]/\dO x ns/\ns.length<=1000/\(b4 ws.length ns=true->Q (.tup (intz ns)))/\(b4 ws.length ns=false->Ep "BadSet")
noncomputable def ac6 (Ep:Str->Prop):aI:=(aD (bL (eQ (aT (aB lV (a6 (a5 0) (a6 (a5 1) a9))))) (qU Ep "BadSet" (a6 (qC (.str "a set is of rising hearths of the web")) a9)) bR)
 (bF (aB eS (a6 (a5 1) a9))))
theorem aV3:m3 ac6 ["web","hearths"] m5:=by
 rintro Ep xs Q ⟨ws,ls,x,ns,rfl,hx,hl,q1,q2⟩
 refine⟨_,rfl,_,rfl,ws,ls,x,ns,rfl,hx,hl,_,rfl,?_⟩
 cases h:b4 ws.length ns with
 | true=>exact b8 ⟨_,rfl,⟨_,_,rfl,hx.seqT,bJ _,trivial,q1 h⟩,hx.noscr⟩
 | false=>exact b9 ⟨by decide,q2 h⟩
end Core
namespace PP
open PySem L2
theorem oI {us:List Value} (h:us.length=1):∃ a,us = [a]:=List.length_eq_one_iff.mp h
theorem zC {us:List Value} (h:us.length=2):∃ a b,us = [a,b]:=by
 cases us with
 | nil=>cases h
 | cons a r=>
  obtain ⟨b,rfl⟩:=oI (us:=r) (by simpa using h)
  exact⟨a,b,rfl⟩
theorem zD {us:List Value} (h:us.length=3):∃ a b c,us = [a,b,c]:=by
 cases us with
 | nil=>cases h
 | cons a r=>
  obtain ⟨b,c,rfl⟩:=zC (us:=r) (by simpa using h)
  exact⟨a,b,c,rfl⟩
theorem us4 {us:List Value} (h:us.length=4):∃ a b c d,us = [a,b,c,d]:=by
 cases us with
 | nil=>cases h
 | cons a r=>
  obtain ⟨b,c,d,rfl⟩:=zD (us:=r) (by simpa using h)
  exact⟨a,b,c,d,rfl⟩
end PP
namespace Core
open PySem L2 PP
noncomputable def NN (zs:List Int):Prop:=∀ z ∈ zs,(0:Int)<=z
theorem NN.app {zs:List Int}{z:Int} (h:NN zs) (hz:0<=z):NN (zs ++ [z]):=fun y hy=>by
 rcases bo6.mp hy with hy | hy
 ·exact h y hy
 ·rw [bo2.mp hy]; exact hz
theorem NN.set {zs:List Int}{z:Int} (h:NN zs) (hz:0<=z) (j:Nat):NN (zs.set j z):=fun y hy=>by
 rcases List.mem_or_eq_of_mem_set hy with hy | rfl
 ·exact h y hy
 ·exact hz
noncomputable def tP (i:Nat) (S:List Int):Prop:=S.Pairwise (· < ·)/\∀ x ∈ S,0<=x/\x < (i:Int)
theorem tP.set {i:Nat}{S:List Int} (h:tP i S):b4 i S=true:=by
 unfold b4
 rw [t4 h.1,Bool.true_and,bw4]
 intro b hb
 obtain ⟨x,hx,rfl⟩:=bp6.mp hb
 have:=h.2 x hx
 unfold inB
 simp only [id,br3,bv3]
 exact this
theorem aV4 (S:List Int):∀ ns:List Int,(((ns.filter fun x=>!decide (x ∈ S)).length:Nat):Int)=lX ns S:=by
 intro ns
 unfold lX
 induction ns with
 | nil=>rfl
 | cons x r ih=>
  by_cases h:x ∈ S
  ·simp only [bx6,h,decide_true,Bool.not_true,bq4,bv1,if_true,bp8]
   omega
  ·simp only [bx6,h,decide_false,Bool.not_false,bq4,bv1,if_true,bp8]
   omega
end Core
namespace PP
open PySem L2
section
variable {X : Cx} {a b e : Expr} {ta tb : aH} {tr : dI} {D : cM} {σ : St} {H : Hp} {pos p2 p3 p4 : Pos}
noncomputable def m6 (i:Nat) (ta tb:aH):aI:=fun D ρ=>∃ xs,ρ[i]? = some (some (.own (.lst xs)))/\ta ρ fun x _=>∃ k:Nat,x = .int k/\k<=xs.length/\xs.length < 16000000/\tb ρ fun y g=>Nw g y/\D.nx (ρ.set i (some (.own (.lst (xs.take k ++ y :: xs.drop k)))))
theorem aV5 {i:Nat} (h:LS X (m6 i ta tb) D σ H):oW (rN X.K "list" W0 (j8 i) (jB (LE X ta) (jB (LE X tb) kI))) D σ H:=by
 obtain ⟨W,ρ,D',px,⟨xs,hi,q⟩,k⟩:=h
 obtain ⟨v,ev,a,rfl,wa,us,ea,r⟩:=px.sl i _ hi
 refine⟨_,ev,lN (aN.of ea),W,ρ,_,px,q,?_⟩
 rintro w H1 x g s rx ⟨j,rfl,hj,hl,q⟩
 cases rx
 refine⟨W,ρ,_,px.mono s,q,?_⟩
 rintro w H2 y g s2 ry ⟨n,q⟩
 have ea2:=s2 _ _ (s _ _ ea)
 have s3:=s.trans s2
 refine⟨a,us,w,j,rfl,rfl,ea2,by rw [r.length]; exact hj,iV (by rw [r.length]; omega),?_⟩
 refine k.nx W σ _ _ ((Ev.same s3).trans (Ev.upd wa)) ((px.mono s3).updL hi ev wa ?_) q
 have r2:=r.same s3 fun _ z=>z
 exact ((r2.take j).append (.cons (Nw.rep (px.mono s) n ry) (r2.drop j))).keep (.upd ea2 rfl fun b m=>⟨lO wa m,m⟩)
theorem aV6 (i:Nat) {x:Str}{apos cpos xpos:Pos} (ha:QE X a ta) (hb:QE X b tb) (hN:X.N[i]? = some x:=by rfl) (hv:i9 X.env.scope x:=by first | exact Or.inl rfl | exact Or.inr (Or.inl rfl) | exact Or.inr (Or.inr rfl)) (hd:(x == ("__debug__" : Str))=false:=by decide) (hcd:(x == ("__classdict__" : Str))=false:=by decide)
  (hbase:attributeBase (.Name x xpos) "insert" X.env (eval (.Name x xpos) X.env)=eval (.Name x xpos) X.env:=by rfl)
  (hfew:((backTo cpos (starEach [a,b] X.env)).all (fun x=>!x.1) && (backToKw cpos (keywordEach [] X.env)).all (fun x=>x.1.isSome) && decide (([a,b]:List Expr).length+([]:List Keyword).length+(if ([]:List Keyword).isEmpty then 0 else 1) < 30))=true:=by rfl)
  (hline:(apos.endLine == cpos.line)=true:=by rfl) (hs:starEach [a,b] X.env=(false,eval a X.env) :: starEach [b] X.env:=by rfl) (hs2:starEach [b] X.env=(false,eval b X.env) :: starEach [] X.env:=by rfl) (hplain:(backTo cpos (starEach [b] X.env)).any (·.1)=false:=by rfl)
  (hsw:swapsWith (.Call (.Attribute (.Name x xpos) "insert" apos) [a,b] [] cpos) none pos.line X.env=pure false:=by rfl) :
  QS X (.Expr (.Call (.Attribute (.Name x xpos) "insert" apos) [a,b] [] cpos) pos) (m6 i ta tb):=
 dS (lC (mH bv6 PySem.F.slot_list_insert PySem.F.type_list_insert aN2 (jT hN hv hd hcd) (cW ha (cW hb dP hs2) hs) hbase hfew hline hs hplain) hsw) fun _ _ _=>aV5
end
end PP
namespace Core
open PySem L2 PP
structure WL (n:Int) (ws:List Int) (ls:List (Int × Int)):Prop where
 many:(ws.length:Int)=n
 inn:∀ l ∈ ls,0<=l.1/\l.1 < l.2/\l.2 < n
 most:ls.length<=1700
 ord:ls.Pairwise kY
 pos:∀ w ∈ ws,0<=w
theorem WL.perm {n:Int}{ws:List Int}{ls ls':List (Int × Int)} (h1:(ws.length:Int)=n) (h2:∀ l ∈ ls,0<=l.1/\l.1 < l.2/\l.2 < n) (h3:ls.length<=1700) (nd:ls.Nodup) (h4:∀ w ∈ ws,0<=w) (p:ls'.Perm ls) (so:(ls'.map two).Pairwise fun u v=>HT.fX v u=false):WL n ws ls':=
 ⟨h1,fun l hl=>h2 l (p.mem_iff.mp hl),by rw [p.length_eq]; exact h3,aP8 so (p.nodup_iff.mpr nd),h4⟩
theorem WL.wb {n:Int}{ws:List Int}{ls:List (Int × Int)} (h:WL n ws ls) (hn:n<=40):Wb ws ls:=
 ⟨by have:=h.many; omega,h.most,fun l hl=>by have:=h.inn l hl; have:=h.many; omega⟩
noncomputable def tQ:eJ:=fun Ep xs Q=>∃ ws ls x S,xs = [b7 ws ls,x]/\Wb ws ls/\dO x S/\S.length<=1000/\(b4 ws.length S=true->Q (.bl (decide (stay ws ls S=S))))/\(b4 ws.length S=false->Ep "BadSet")
noncomputable def ac7 (Ep:Str->Prop):aI:=(aD (b6 2 (l9 Ep m5 (a6 (a5 0) (a6 (a5 1) a9))))
 (bF (q2 (qA 2 false) (aB tK (a6 (a5 0) (a6 (aB iI (a6 (a5 0) a9)) (a6 (a5 2) a9)))) (a5 2))))
theorem aV7:m3 ac7 ["web","block","chosen"] tQ:=by
 rintro Ep xs Q ⟨ws,ls,x,S,rfl,wb,hx,hl,q,qe⟩
 refine⟨_,rfl,_,rfl,ws,ls,x,S,rfl,hx,hl,fun hs=>⟨trivial,?_⟩,qe⟩
 have q:=q hs
 refine⟨_,rfl,_,rfl,ws,ls,rfl,wb,_,rfl,ws,ls,_,S,rfl,wb,.inl rfl,hs,_,rfl,.inl ⟨_,_,rfl,rfl⟩,aI6 2 _ _,trivial,?_⟩
 show Q (.bl (dE 3 (.tup (intz (stay ws ls S))) (.tup (intz S))))
 rw [aI5]; exact q
noncomputable def qW (f:List Int->List (Int × Int)->List Int->(PV->Prop)->Prop):eJ:=fun Ep xs Q=>∃ ws ls x ns,xs = [b7 ws ls,x]/\Wb ws ls/\dO x ns/\ns.length<=1000/\(b4 ws.length ns=true->f ws ls ns Q)/\(b4 ws.length ns=false->Ep "BadSet")
noncomputable def tR:eJ:=qW fun ws ls ns Q=>∀ m,cM ws ls ns m->Q (.lst (tups (ns :: after ws ls ns m)))
noncomputable def tS:eJ:=qW fun ws ls ns Q=>∀ m,cM ws ls ns m->Q (.dK (l8 (ns :: after ws ls ns m)))
noncomputable def tT:eJ:=qW fun ws ls ns Q=>∀ ms m,cM ws ls ns m->ms.Perm (bI ws ls ns m)->ms.Pairwise (· <= ·)->Q (.tup (intz ms))
noncomputable def tU:eJ:=qW fun ws ls ns Q=>∀ m,cM ws ls ns m->Q (.bl (decide (((bI ws ls ns m).length:Int)=(ws.length:Int))))
noncomputable def ac8 (Ep:Str->Prop):aI:=(aD (cZ 2 (eR (a6 (l9 Ep m5 (a6 (a5 0) (a6 (a5 1) a9))) a9)))
 (aD (cZ 3 (aB iH (a6 (bE (a5 2) (qC (.int 0))) a9)))
 (aD (b6 4 (aB iI (a6 (a5 0) a9)))
 (aD (b6 5 (aB qQ (a6 (a5 0) (a6 (a5 4) (a6 (a5 3) a9)))))
 (aD (mM (jZ (a5 5))
  (aD (iX 2 (a5 5))
  (aD (sQ 3 (aB iH (a6 (a5 5) a9)))
  (b6 5 (aB qQ (a6 (a5 0) (a6 (a5 4) (a6 (a5 3) a9))))))))
 (kS 2))))))
theorem aV8:m3 ac8 ["web","seeds","told","burning","around","lit"] tR:=by
 rintro Ep xs Q ⟨ws,ls,x,ns,rfl,wb,hx,hl,q,qe⟩
 have few:=wb.few
 refine⟨_,rfl,_,rfl,ws,ls,x,ns,rfl,hx,hl,fun hs=>?_,qe⟩
 have q:=q hs
 have ln:=jO hs
 refine⟨by show 1<=1000; decide,?_,rfl,?_,?_⟩
 ·show (flat (.tup (intz ns)) && true)=true
  rw [qP]; rfl
 ·show (flat (.tup (intz ns)) && true)=true
  rw [qP]; rfl
 refine⟨_,rfl,_,_,_,rfl,rfl,rfl,_,ns,rfl,.inl rfl,by omega,fun ps d=>⟨rfl,d.fl,?_⟩⟩
 refine⟨_,rfl,ws,ls,rfl,wb,trivial,?_⟩
 refine⟨_,rfl,_,rfl,_,rfl,ws,ls,ps,ns,rfl,wb,d,trivial,?_⟩
 refine⟨fun n ρ=>∃ k ps,ρ = [some (.sh (flat (b7 ws ls)) (b7 ws ls)),some (.sh (flat x) x),some (.own (.lst (tups (ns :: after ws ls ns k)))),some (.own (.dK ps)),some (.sh true (.lst (dC ws.length ls))),some (.sh true (.tup (intz (nextOf ws ls (bI ws ls ns k)))))]/\
   n=cold ws (bI ws ls ns k)/\DS ps (bI ws ls ns k)/\∀ j < k,nextOf ws ls (bI ws ls ns j) ≠ [],⟨_,0,ps,rfl,rfl,d,fun _ z=>absurd z (Nat.not_lt_zero _)⟩,?_⟩
 rintro n ρ ⟨k,ps,rfl,rfl,d,ne⟩
 refine⟨_,rfl,_,rfl,?_⟩
 cases hn:nextOf ws ls (bI ws ls ns k) with
 | nil=>exact b8 ⟨_,rfl,trivial,q k ⟨ne,hn⟩⟩
 | cons y yr=>
  refine b9 ?_
  rw [<- hn]
  have cs:=yC ws ls (bI ws ls ns k)
  have nl:1<=(nextOf ws ls (bI ws ls ns k)).length:=by rw [hn]; exact Nat.succ_le_succ (br9 _)
  have nle:=aN4 ws ls (bI ws ls ns k)
  have sl:=yG (ls:=ls) hs k
  have dl:=d.len
  have ke:=W8 k ne
  refine⟨_,rfl,_,rfl,trivial,?_,?_⟩
  ·rw [eU,bp8]
   unfold after
   rw [bn7,bz2]; omega
  refine⟨_,rfl,_,rfl,_,_,rfl,.inl rfl,by omega,fun mp dm=>⟨mp,rfl,.inl rfl,?_,?_⟩⟩
  ·have:=dm.len; omega
  have D7:DS (j4 ps mp) (bI ws ls ns (k+1)):=d.merge dm
  refine⟨_,rfl,_,rfl,_,rfl,ws,ls,_,_,rfl,wb,D7,trivial,?_⟩
  refine⟨_,?_,k+1,j4 ps mp,?_,rfl,D7,fun j hj=>?_⟩
  ·show cold ws (bI ws ls ns k ++ nextOf ws ls (bI ws ls ns k)) < _
   omega
  ·rw [W5,<- List.cons_append]
   unfold tups
   rw [bp1]; rfl
  ·by_cases e:j=k
   ·rw [e,hn]; exact fun z=>nomatch z
   ·exact ne j (by omega)
noncomputable def ac9 (Ep:Str->Prop):aI:=(aD (cZ 2 (qC (.dK [])))
 (aD (dJ (yR (l9 Ep tR (a6 (a5 0) (a6 (a5 1) a9)))) (iZ 3 4)
  (dJ (cR (a5 4)) (bO 5)
   (mQ 2 (a5 5) (a5 3))))
 (kS 2)))
theorem aV9:m3 ac9 ["web","seeds","ranks","rank","lit","hearth"] tS:=by
 rintro Ep xs Q ⟨ws,ls,x,ns,rfl,wb,hx,hl,q,qe⟩
 have few:=wb.few
 refine⟨rfl,rfl,_,rfl,_,rfl,ws,ls,x,ns,rfl,wb,hx,hl,fun hs m en=>⟨_,.inl rfl,fun z=>(by cases z),?_⟩,qe⟩
 have q:=q hs
 have fl:=yD ws ls ns m
 have sl:=yG (ls:=ls) hs m
 have nd:=yU (ls:=ls) hs m
 generalize hrs:ns :: after ws ls ns m=rs at fl
 rw [<- fl] at sl nd
 refine⟨fun i ρ=>∃ y z u,ρ = [some (.sh (flat (b7 ws ls)) (b7 ws ls)),some (.sh (flat x) x),some (.own (.dK (l8 (rs.take i)))),y,z,u],⟨none,none,none,rfl⟩,?_,?_⟩
 ·rintro i y ρ hy ⟨y0,z0,u0,rfl⟩
  obtain ⟨y,hy2,rfl⟩:=aS1 hy
  obtain ⟨r,rfl,hr⟩:=aO4 hy2
  have tk:rs.take (i+1)=rs.take i ++ [r]:=by rw [bs1,hr]; rfl
  have il:(rs.take i).length=i:=by
   have:=(bn8.mp hr).1
   rw [bt8]; omega
  have nd2:((rs.take i).flatten ++ r).Nodup/\((rs.take i).flatten ++ r).length<=rs.flatten.length:=by
   have e:rs.flatten=((rs.take i).flatten ++ r) ++ (rs.drop (i+1)).flatten:=by
    rw [<- List.flatten_singleton (l:=r),<- List.flatten_append,<- tk,<- List.flatten_append,bC6]
   rw [e] at nd ⊢
   exact⟨(bu1.mp nd).1,by rw [bo0 (as:=(rs.take i).flatten ++ r)]; omega⟩
  refine⟨_,_,rfl,_,rfl,_,rfl,fun z=>(by cases z),fun j ρ=>∃ u,ρ = [some (.sh (flat (b7 ws ls)) (b7 ws ls)),some (.sh (flat x) x),some (.own (.dK (l8 (rs.take i) ++ j7 i (r.take j)))),some (.sh true (.int (i:Int))),some (.sh true (.tup (intz r))),u],⟨u0,?_⟩,?_,?_⟩
  ·rw [show j7 i (r.take 0) = [] from rfl,br6]
   rfl
  ·rintro j y ρ hy ⟨u1,rfl⟩
   obtain ⟨n,rfl,hn⟩:=fP hy
   have ke:(l8 (rs.take i) ++ j7 i (r.take j)).map (·.1)=((rs.take i).flatten ++ r.take j).map (Sum.inl:Int->aE):=by
    rw [bp1,bp1,ab3,ab1]
   have nn:n ∉ (rs.take i).flatten ++ r.take j:=by
    have:=nd2.1
    rw [<- bC6 j r,List.drop_eq_getElem_cons (bn8.mp hn).1,(bn8.mp hn).2,<- List.append_assoc] at this
    exact fun z=>(bu1.mp this).2.2 n z n bo4 rfl
   have le:(l8 (rs.take i) ++ j7 i (r.take j)).length<=40:=by
    have e1:=congrArg List.length ke
    have e2:=nd2.2
    rw [bn7,bn7,bo0,bo0,bt8] at e1
    rw [bo0] at e2
    rw [bo0]
    omega
   refine⟨_,rfl,_,rfl,_,rfl,Sum.inl n,rfl,trivial,by omega,si n,?_⟩
   rw [yW ke nn,aU2 hn,List.append_assoc]
   rfl
  ·rintro ρ ⟨u,rfl⟩
   refine⟨some (.sh true (.int i)),some (.sh true (.tup (intz r))),u,?_⟩
   rw [aZ,bs5,tk,aU1,il]
 ·rintro ρ ⟨y,z,u,rfl⟩
  rw [yQ,eU,bs5,<- hrs]
  exact⟨_,rfl,trivial,q m en⟩
noncomputable def ad0 (Ep:Str->Prop):aI:=(bF (aB eS (a6 (aB tL (a6 (l9 Ep tS (a6 (a5 0) (a6 (a5 1) a9))) a9)) a9)))
theorem aW0:m3 ad0 ["web","seeds"] tT:=by
 rintro Ep xs Q ⟨ws,ls,x,ns,rfl,wb,hx,hl,q,qe⟩
 have few:=wb.few
 refine⟨_,rfl,_,rfl,ws,ls,x,ns,rfl,wb,hx,hl,fun hs m en=>?_,qe⟩
 have sl:=yG (ls:=ls) hs m
 refine⟨_,bI ws ls ns m,rfl,?_,by omega,fun ms hp ho=>⟨⟨_,_,rfl,rfl,bJ _,trivial,q hs ms m en hp ho⟩,fun ns z=>by cases z⟩⟩
 rw [ab3,yD]
noncomputable def ad1 (Ep:Str->Prop):aI:=(bF (dA (aB bT (a6 (l9 Ep tT (a6 (a5 0) (a6 (a5 1) a9))) a9)) (aB j5 (a6 (a5 0) a9))))
theorem aW1:m3 ad1 ["web","seeds"] tU:=by
 rintro Ep xs Q ⟨ws,ls,x,ns,rfl,wb,hx,hl,q,qe⟩
 refine⟨_,rfl,_,rfl,ws,ls,x,ns,rfl,wb,hx,hl,fun hs ms m en hp ho=>⟨_,_,rfl,rfl,_,rfl,ws,ls,rfl,.inl ⟨_,_,rfl,rfl,trivial,?_⟩⟩,qe⟩
 rw [aZ,hp.length_eq]
 exact q hs m en
noncomputable def tV:bK:=fun xs Q=>∃ ws ls y ms,xs = [b7 ws ls,y]/\dO y ms/\ms.length<=1000/\ws.length<=1000/\Q (.tup (intz (yV ws.length ms)))
noncomputable def ad2:aI:=(bF (aB oE (a6 (yH (aB j5 (a6 (a5 0) a9))) (a6 (a5 1) a9))))
theorem aW2:bY ad2 ["web","some"] tV:=by
 rintro xs Q ⟨ws,ls,y,ms,rfl,hy,hm,hw,q⟩
 refine⟨_,rfl,ws,ls,rfl,_,rfl,by omega,by omega,?_⟩
 rw [aP6]
 refine⟨_,rfl,_,rng ws.length,y,ms,rfl,.inr rfl,hy,by rw [dM]; omega,hm,trivial,q⟩
end Core
namespace PP
open PySem L2
section
variable {X : Cx} {a : Expr} {tk : aH} {σ : St} {H : Hp} {Q' : VK} {pos p2 : Pos}
noncomputable def zE (tk:aH):aH:=fun ρ Q=>tk ρ fun x _=>∃ n:Int,x = .int n/\Q (.dK [(Sum.inl n,.bl true)]) .fr
theorem aW3 (h:LE X (zE tk) σ H Q'):M6 [(LE X tk,tC (.bl true))] σ H Q':=by
 obtain ⟨W,ρ,Q,px,q,k⟩:=h
 intro p hp
 refine⟨W,ρ,_,px.mono (bP hp _),q,?_⟩
 rintro v H1 x g s r ⟨n,rfl,q1⟩
 cases r
 have hp1:H1 p=some (.dK []):=s p _ bN
 refine⟨hp1,[((Sum.inl n:aE),V.bl true)],rfl,by show 1<=15; decide,?_⟩
 have sm:aG H (upd H1 p (.dK (jW [] [((Sum.inl n:aE),V.bl true)]))):=fun b o e=>by
  have nb:b ≠ p:=fun z=>by rw [z,hp] at e; cases e
  rw [aX nb]
  exact s b o (by rw [aX nb]; exact e)
 exact k _ _ _ .fr sm (.dK hp bN rfl (.cons (.bl true) .nil)) q1
theorem aW4 {j:Nat} (ha:QE X a tk):QE X (.Dict [some a] [.Constant (.bool true) j p2] pos) (zE tk):=
 cN (az2 (az1 ha B7 az0) rfl rfl (by simp) (by show 1<=15; decide)) fun _ _ _=>aW3
theorem aW5 (hN:X.N.Nodup) (i j:Nat) {x y:Str}{apos cpos xpos:Pos} (hi:X.N[i]? = some x:=by rfl) (hj:X.N[j]? = some y:=by rfl) (hv:i9 X.env.scope x:=by first | exact Or.inl rfl | exact Or.inr (Or.inl rfl) | exact Or.inr (Or.inr rfl)) (hd:(x == ("__debug__" : Str))=false:=by decide) (hcd:(x == ("__classdict__" : Str))=false:=by decide)
  (hbase:attributeBase (.Name x xpos) "pop" X.env (eval (.Name x xpos) X.env)=eval (.Name x xpos) X.env:=by rfl) (hline:(apos.endLine == cpos.line)=true:=by rfl)
  (hx:iP X.env.scope y:=by first | exact Or.inl rfl | exact Or.inr rfl) (hs:swapsWith (.Call (.Attribute (.Name x xpos) "pop" apos) [] [] cpos) (some (.Name y p2)) pos.line X.env=pure false:=by rfl) (hf:X.fn y=true ∨ X.env.scope.names.lookup y=some .local:=by first | exact .inl rfl | exact .inr rfl) :
  QS X (.Assign [.Name y p2] (.Call (.Attribute (.Name x xpos) "pop" apos) [] [] cpos) pos) (x3 i j):=
 dS (uZ hN hj hx (ax6 bv6 PySem.F.slot_list_pop PySem.F.type_list_pop ax9 (jT hi hv hd hcd) hbase hline) hs hf) fun _ _ _=>aG0
end
end PP
namespace Core
open PySem L2 PP
noncomputable def iL (R:List Int):List (aE × PV):=R.map fun x=>((Sum.inl x:aE),PV.bl true)
theorem ad3 (R:List Int):(iL R).map (·.1)=R.map (Sum.inl:Int->aE):=by unfold iL; rw [bv5]; rfl
theorem aW6 (R:List Int):(iL R).length=R.length:=by unfold iL; rw [bn7]
theorem aW7 (R:List Int) (n:Int):(bV (iL R) (Sum.inl n:aE)).isSome=decide (n ∈ R):=by
 rw [<- t8,bt3,List.any_eq_true,bv3]
 unfold iL
 refine⟨fun ⟨p,hp,e⟩=>?_,fun h=>⟨_,bp6.mpr ⟨n,h,rfl⟩,bn4 rfl⟩⟩
 obtain ⟨x,hx,rfl⟩:=bp6.mp hp
 have e:(Sum.inl x:aE)=Sum.inl n:=bs3 e
 rw [<- Sum.inl.inj e]; exact hx
theorem aW8 {R:List Int}{y:Int} (h:y ∉ R):dR (iL R) (Sum.inl y:aE) (.bl true)=iL (R ++ [y]):=by
 rw [yW (ad3 R) h]
 unfold iL
 rw [bp1]; rfl
structure zF (n:Nat) (ls:List (Int × Int)) (S P:List Int):Prop where
 set:b4 n P=true
 ne:P ≠ []
 sub:∀ x ∈ P,x ∈ S
 shut:∀ x ∈ P,∀ y ∈ aO ls x,y ∈ S->y ∈ P
 got:∀ h ∈ S.head?,h ∈ P
 least:∀ U:List Int,(∀ x ∈ U,∀ y ∈ aO ls x,y ∈ S->y ∈ U)->(∀ h ∈ S.head?,h ∈ U)->∀ x ∈ P,x ∈ U
noncomputable def tW:bK:=fun xs Q=>∃ ws ls S,xs = [.lst (dC ws.length ls),.tup (intz S)]/\Wb ws ls/\b4 ws.length S=true/\S ≠ []/\∀ P,zF ws.length ls S P->Q (.tup (intz P))
noncomputable def ad4:aI:=(aD (b6 2 (aB iH (a6 (a5 1) a9)))
 (aD (cZ 3 (zE (bE (a5 1) (qC (.int 0)))))
 (aD (cZ 4 (eR (a6 (bE (a5 1) (qC (.int 0))) a9)))
 (aD (mM (jZ (a5 4))
  (aD (x3 4 5)
  (dJ (cR (bE (a5 0) (a5 5))) (bO 6)
   (bL (kR (aT (j3 false (a5 6) (a5 2))) (aT (j3 true (a5 6) (a5 3)))) (aD (mQ 3 (a5 6) (qC (.bl true)))
    (iX 4 (a5 6))) bR))))
 (bF (aB eS (a6 (aB tL (a6 (a5 3) a9)) a9)))))))
structure Way (ls:List (Int × Int)) (S R W:List Int) (E:Int->Prop):Prop where
 nd:R.Nodup
 ne:R ≠ []
 sub:∀ x ∈ R,x ∈ S
 wait:∀ x ∈ W,x ∈ R
 shut:∀ x ∈ R,x ∉ W->¬ E x->∀ y ∈ aO ls x,y ∈ S->y ∈ R
 got:∀ h ∈ S.head?,h ∈ R
 least:∀ U:List Int,(∀ x ∈ U,∀ y ∈ aO ls x,y ∈ S->y ∈ U)->(∀ h ∈ S.head?,h ∈ U)->∀ x ∈ R,x ∈ U
theorem aW9:bY ad4 ["around","hearths","inside","reached","waiting","hearth","other"] tW:=by
 rintro xs Q ⟨ws,ls,S,rfl,wb,hS,hne,q⟩
 have few:=wb.few
 have most:=wb.most
 have sl:=jO hS
 have snd:S.Nodup:=(fH (cU hS).1).imp fun h=>bx1 h
 obtain ⟨s0,sr,rfl⟩:∃ s0 sr,S=s0 :: sr:=by
  cases S with
  | nil=>exact absurd rfl hne
  | cons a r=>exact⟨a,r,rfl⟩
 have i0:L2.atI (intz (s0 :: sr)) (0:Int)=some (.int s0):=lH (xs:=intz (s0 :: sr)) (j:=0) rfl
 generalize hSS:s0 :: sr=S at *
 have m0:s0 ∈ S:=by rw [<- hSS]; exact bo4
 have hd:∀ h,h ∈ S.head? ↔ h=s0:=fun h=>by rw [<- hSS]; exact⟨fun z=>by cases z; rfl,fun z=>by rw [z]; rfl⟩
 refine⟨_,rfl,_,S,rfl,.inl rfl,by omega,fun pm dm=>⟨trivial,?_⟩⟩
 refine⟨_,rfl,_,_,_,rfl,rfl,i0,s0,rfl,rfl,rfl,?_⟩
 refine⟨_,rfl,_,_,_,rfl,rfl,i0,by show 1<=1000; decide,rfl,rfl,rfl,?_⟩
 refine⟨fun n ρ=>∃ (R W:List Int) (y5 y6:Option Slot),ρ = [some (.sh (flat (.lst (dC ws.length ls))) (.lst (dC ws.length ls))),some (.sh (flat (.tup (intz S))) (.tup (intz S))),some (.sh true (.dK pm)),some (.own (.dK (iL R))),some (.own (.lst (intz W))),y5,y6]/\
   n=2 * (S.length - R.length)+W.length/\n<=2 * S.length/\Way ls S R W fun _=>False,⟨_,[s0],[s0],none,none,rfl,rfl,by rw [<- hSS]; simp; omega,bq2 _ _,(fun z=>nomatch z),(fun x hx=>by rw [bo2.mp hx]; exact m0),fun _ h=>h,fun x hx hw=>absurd hx hw,fun h hh=>bo2.mpr ((hd h).mp hh),fun U _ hU x hx=>by rw [bo2.mp hx]; exact hU s0 ((hd s0).mpr rfl)⟩,?_⟩
 rintro n ρ ⟨R,W,y5,y6,rfl,rfl,bd,wy⟩
 refine⟨_,rfl,_,rfl,?_⟩
 have rl:R.length<=S.length:=wy.nd.length_le_of_subset wy.sub
 rcases List.eq_nil_or_concat W with hW | ⟨W',h,hW⟩
 ·subst hW
  refine b8 ⟨_,rfl,_,R,rfl,ad3 R,by omega,fun ms pm so=>⟨⟨_,_,rfl,rfl,bJ _,trivial,q ms ⟨?_,?_,?_,?_,fun h hh=>pm.mem_iff.mpr (wy.got h hh),fun U hU hh x hx=>wy.least U hU hh x (pm.mem_iff.mp hx)⟩⟩,fun ns z=>by cases z⟩⟩
  ·have nd:ms.Nodup:=pm.nodup_iff.mpr wy.nd
   have up:ms.Pairwise (· < ·):=(List.Pairwise.and so nd).imp fun z=>Int.lt_iff_le_and_ne.mpr ⟨z.1,z.2⟩
   have u:fI (ws.length:Int) ms:=⟨up,fun x hx=>(cU hS).2 x (wy.sub x (pm.mem_iff.mp hx)),by rw [pm.length_eq]; omega⟩
   exact u.set
  ·intro z; rw [z] at pm; exact wy.ne (List.nil_perm.mp pm)
  ·exact fun x hx=>wy.sub x (pm.mem_iff.mp hx)
  ·exact fun x hx y hy hyS=>pm.mem_iff.mpr (wy.shut x (pm.mem_iff.mp hx) (fun z=>nomatch z) (fun z=>z) y hy hyS)
 ·have hW:W=W' ++ [h]:=by rw [hW]; simp
  subst hW
  have hR:h ∈ R:=wy.wait h (by simp)
  have hb:=(cU hS).2 h (wy.sub h hR)
  have nz:(!(intz (W' ++ [h])).isEmpty)=true:=by rw [dW]; cases W' <;> rfl
  show if (!(intz (W' ++ [h])).isEmpty)=true then _ else _
  rw [nz]
  refine b9 ⟨intz W',.int h,by rw [dW]; rfl,?_⟩
  refine⟨_,rfl,_,rfl,_,_,_,rfl,rfl,o9 hb.1 hb.2,_,rfl,(fun z=>by cases z),fun j ρ=>∃ (R2 W2:List Int) (y6:Option Slot),ρ = [some (.sh (flat (.lst (dC ws.length ls))) (.lst (dC ws.length ls))),some (.sh (flat (.tup (intz S))) (.tup (intz S))),some (.sh true (.dK pm)),some (.own (.dK (iL R2))),some (.own (.lst (intz W2))),si h,y6]/\
    2 * (S.length - R2.length)+W2.length < 2 * (S.length - R.length)+(W' ++ [h]).length/\Way ls S R2 W2 (fun x=>x=h)/\h ∈ R2/\∀ y ∈ (aO ls h).take j,y ∈ S->y ∈ R2,
    ⟨R,W',y6,rfl,by rw [bo0,br1]; omega,⟨wy.nd,wy.ne,wy.sub,fun x hx=>wy.wait x (br8 _ hx),fun x hx hw he=>wy.shut x hx (fun z=>(bo6.mp z).elim hw fun z=>he (bo2.mp z)) fun z=>z,wy.got,wy.least⟩,hR,fun y hy=>by rw [List.take_zero] at hy; cases hy⟩,?_,?_⟩
  ·rintro j y ρ hy ⟨R2,W2,y6,rfl,lt,wy2,hR2,seen⟩
   obtain ⟨o,rfl,ho⟩:=fP hy
   have rl2:R2.length<=S.length:=wy2.nd.length_le_of_subset wy2.sub
   have tk:∀ y,y ∈ (aO ls h).take (j+1)->y ∈ (aO ls h).take j ∨ y=o:=fun y z=>by
    rw [bs1,ho] at z
    rcases bo6.mp z with z | z
    ·exact .inl z
    ·exact .inr (by simpa using z)
   refine i3 ?_
   refine⟨_,rfl,_,rfl,_,.inl ⟨pm,Sum.inl o,rfl,rfl,rfl⟩,_,rfl,?_⟩
   show if (bV pm (Sum.inl o:aE)).isSome=true then _ else _
   rw [dm.has o]
   by_cases h1:o ∈ S
   ·rw [bn4 h1]
    refine b9 ⟨_,rfl,_,rfl,_,.inl ⟨iL R2,Sum.inl o,rfl,rfl,rfl⟩,_,rfl,?_⟩
    show if (!(bV (iL R2) (Sum.inl o:aE)).isSome)=true then _ else _
    rw [aW7]
    by_cases h2:o ∈ R2
    ·rw [bn4 h2]
     exact b8 ⟨R2,W2,si o,rfl,lt,wy2,hR2,fun y z zS=>(tk y z).elim (fun z=>seen y z zS) fun e=>by rw [e]; exact h2⟩
    ·rw [bn9 h2]
     have nd3:(R2 ++ [o]).Nodup:=bu1.mpr ⟨wy2.nd,bq2 _ _,fun a ha b hb e=>h2 (by rw [bo2.mp hb] at e; rw [<- e]; exact ha)⟩
     have sub3:∀ x ∈ R2 ++ [o],x ∈ S:=fun x hx=>(bo6.mp hx).elim (wy2.sub x) fun z=>by rw [bo2.mp z]; exact h1
     have l3:(R2 ++ [o]).length<=S.length:=nd3.length_le_of_subset sub3
     rw [bo0,br1] at l3
     refine b9 ⟨_,rfl,_,rfl,Sum.inl o,rfl,trivial,by rw [aW6]; omega,?_⟩
     rw [aW8 h2]
     refine⟨_,rfl,_,rfl,trivial,by rw [aZ]; omega,R2 ++ [o],W2 ++ [o],si o,?_,?_,⟨nd3,(fun z=>by simp at z),sub3,fun x hx=>?_,fun x hx hw he y hy yS=>?_,fun h hh=>br8 _ (wy2.got h hh),fun U hU hh x hx=>(bo6.mp hx).elim (wy2.least U hU hh x) fun z=>by rw [bo2.mp z]; exact hU h (wy2.least U hU hh h hR2) o (bp0 ho) h1⟩,br8 _ hR2,fun y z zS=>?_⟩
     ·rw [dW]; rfl
     ·simp only [bo0,br1] at lt ⊢; omega
     ·rcases bo6.mp hx with z | z
      ·exact br8 _ (wy2.wait x z)
      ·exact br0 _ z
     ·rcases bo6.mp hx with z | z
      ·exact br8 _ (wy2.shut x z (fun z=>hw (br8 _ z)) he y hy yS)
      ·exact absurd (br0 _ z) hw
     ·rcases tk y z with z | e
      ·exact br8 _ (seen y z zS)
      ·rw [e]; exact br0 _ (bo2.mpr rfl)
   ·rw [bn9 h1]
    exact b8 (b8 ⟨R2,W2,si o,rfl,lt,wy2,hR2,fun y z zS=>(tk y z).elim (fun z=>seen y z zS) fun e=>absurd (e ▸ zS) h1⟩)
  ·rintro ρ ⟨R2,W2,y6,rfl,lt,wy2,hR2,seen⟩
   rw [aZ,bs5] at seen
   refine⟨_,lt,R2,W2,si h,y6,rfl,rfl,by omega,wy2.nd,wy2.ne,wy2.sub,wy2.wait,fun x hx hw _ y hy yS=>?_,wy2.got,wy2.least⟩
   by_cases e:x=h
   ·subst e; exact seen y hy yS
   ·exact wy2.shut x hx hw e y hy yS
noncomputable def ad5 (Ep:Str->Prop):aI:=(aD (b6 2 (aB iI (a6 (a5 0) a9)))
 (aD (b6 3 (l9 Ep m5 (a6 (a5 0) (a6 (a5 1) a9))))
 (aD (cZ 4 (eR a9))
 (aD (mM (jZ (a5 3))
  (aD (b6 5 (aB tW (a6 (a5 2) (a6 (a5 3) a9))))
  (aD (iX 4 (a5 5))
  (b6 3 (aB oE (a6 (a5 3) (a6 (a5 5) a9)))))))
 (kS 4)))))
theorem aX0 (n:Nat):rng (n+1)=rng n ++ [(n:Int)]:=by
 unfold rng; rw [List.range_succ,bp1]; rfl
theorem oJ (n:Nat) (a:Int):(List.replicate n [PV.int a]).flatten=intz (List.replicate n a):=by
 induction n with
 | zero=>rfl
 | succ n ih=>rw [bw6,bw6,bx9,ih]; rfl
section
variable {ws : List Int} {ls : List (Int × Int)}
noncomputable def cne (ws:List Int) (ls:List (Int × Int)) (S:List Int):Bool:=!decide (S = []) && decide (stay ws ls S=S)
end
theorem kC {b:Bool}{A B:Prop} (a:A) (c:B):if b=true then A else B:=by
 cases b with
 | true=>exact b9 a
 | false=>exact b8 c
noncomputable def far (ns S:List Int):Bool:=decide (((S.filter fun x=>decide (x ∈ ns)).length:Int)=0)
noncomputable def fS (ls:List (Int × Int)) (S U:List Int):Prop:=∀ x ∈ U,∀ y ∈ aO ls x,y ∈ S->y ∈ U
noncomputable def comp (ls:List (Int × Int)) (S:List Int) (h:Int):List Int:=S.filter fun x=>@decide (∀ U:List Int,fS ls S U->h ∈ U->x ∈ U) (Classical.propDecidable _)
section
variable {ws : List Int} {ls : List (Int × Int)} {S : List Int} {n : Nat} {h x : Int}
theorem i4:x ∈ comp ls S h ↔ x ∈ S/\∀ U,fS ls S U->h ∈ U->x ∈ U:=by
 unfold comp
 rw [bp3]
 exact⟨fun z=>⟨z.1,@bs3 _ (Classical.propDecidable _) z.2⟩,fun z=>⟨z.1,@bn4 _ (Classical.propDecidable _) z.2⟩⟩
theorem qX:∀ x ∈ comp ls S h,x ∈ S:=fun x hx=>(i4.mp hx).1
theorem i5 (hh:h ∈ S):h ∈ comp ls S h:=i4.mpr ⟨hh,fun _ _ z=>z⟩
theorem jP:fS ls S (comp ls S h):=fun x hx y hy yS=>i4.mpr ⟨yS,fun U hU z=>hU x ((i4.mp hx).2 U hU z) y hy yS⟩
theorem i6 (hS:b4 n S=true):b4 n (comp ls S h)=true:=tJ hS _
theorem aX1 {P:List Int} (hS:b4 n S=true) (hP:b4 n P=true) (hs:∀ x ∈ P,x ∈ S) (hh:h ∈ P) (sh:fS ls S P) (le:∀ U,fS ls S U->h ∈ U->∀ x ∈ P,x ∈ U):P=comp ls S h:=
 aa9 hP (i6 hS) fun x=>⟨fun hx=>i4.mpr ⟨hs x hx,fun U hU z=>le U hU z x hx⟩,fun hx=>(i4.mp hx).2 P sh hh⟩
theorem lA (hS:b4 n S=true) (hx:x ∈ comp ls S h) (hh:h ∈ S):comp ls S x=comp ls S h:=by
 have back:h ∈ comp ls S x:=by
  refine i4.mpr ⟨hh,fun U hU xU=>?_⟩
  refine bu6 fun hn=>?_
  have sv:fS ls S (S.filter fun z=>!decide (z ∈ U)):=fun a ha b hb bS=>by
   rw [bp3] at ha ⊢
   refine⟨bS,?_⟩
   by_cases bU:b ∈ U
   ·have:=hU b bU a (nM hb) ha.1
    rw [bn4 this] at ha; exact absurd ha.2 (by decide)
   ·rw [bn9 bU]; rfl
  have:=(i4.mp hx).2 _ sv (bp3.mpr ⟨hh,by rw [bn9 hn]; rfl⟩)
  rw [bp3,bn4 xU] at this
  exact absurd this.2 (by decide)
 exact aa9 (i6 hS) (i6 hS) fun y=>⟨fun hy=>(i4.mp hy).2 _ jP hx,fun hy=>(i4.mp hy).2 _ jP back⟩
theorem kD {L:List Int}{a:Int} (hL:b4 n L=true) (ha:L.head? = some a):a ∈ L/\∀ x ∈ L,a=x ∨ a < x:=by
 cases L with
 | nil=>cases ha
 | cons b r=>
  cases ha
  refine⟨bo4,fun x hx=>?_⟩
  rcases bo3.mp hx with e | hx
  ·exact .inl e.symm
  ·exact .inr ((bC5.mp (fH (cU hL).1)).1 x hx)
theorem zG {L:List Int}{a:Int} (hL:b4 n L=true) (ha:a ∈ L) (hl:∀ x ∈ L,a<=x):L.head? = some a:=by
 cases L with
 | nil=>cases ha
 | cons b r=>
  rcases bo3.mp ha with e | e
  ·rw [e]; rfl
  ·have h1:=(bC5.mp (fH (cU hL).1)).1 a e
   have h2:=hl b bo4
   omega
noncomputable def qY (ls:List (Int × Int)) (S:List Int) (h:Int):Bool:=decide ((comp ls S h).head? = some h)
noncomputable def bD (ls:List (Int × Int)) (S:List Int):List Int:=S.filter (qY ls S)
theorem aX2 {A B:List Int} (ua:A.Pairwise (· < ·)) (ub:B.Pairwise (· < ·)) (h:∀ x,x ∈ A ↔ x ∈ B):A=B:=
 Z4 ((List.perm_ext_iff_of_nodup (ua.imp fun z=>bx1 z) (ub.imp fun z=>bx1 z)).mpr h) (ua.imp fun z=>Int.le_of_lt z) (ub.imp fun z=>Int.le_of_lt z)
theorem aX3 {L:List Int}{a:Int} (hS:b4 n S=true) (hL:b4 n L=true) (sub:∀ x ∈ L,x ∈ S) (ha:L.head? = some a) (pl:∀ x ∈ comp ls S a,x ∈ L)
  (lt:∀ h ∈ (bD ls S).filter (fun z=>!decide (z ∈ L)),∀ x ∈ L,h < x) :
  (bD ls S).filter (fun z=>!decide (z ∈ L.filter fun z=>!decide (z ∈ comp ls S a)))=(bD ls S).filter (fun z=>!decide (z ∈ L)) ++ [a]:=by
 obtain ⟨aL,al⟩:=kD hL ha
 have aS:=sub a aL
 have hu:(bD ls S).Pairwise (· < ·):=fH (cU (tJ hS (qY ls S))).1
 have hd:(comp ls S a).head? = some a:=zG (i6 hS) (i5 aS) fun x hx=>by rcases al x (pl x hx) with e | e <;> omega
 refine aX2 (hu.sublist List.filter_sublist) (List.pairwise_append.mpr ⟨hu.sublist List.filter_sublist,bq2 _ _,fun x hx y hy=>by rw [bo2.mp hy]; exact lt x hx a aL⟩) fun x=>?_
 simp only [bo6,bo2,bp3,Bool.not_eq_true',bB0,not_and,Decidable.not_not]
 constructor
 ·rintro ⟨hx,hn⟩
  by_cases xL:x ∈ L
  ·refine .inr ?_
   have xc:=hn xL
   have h1:(comp ls S x).head? = some x:=bs3 (bp3.mp hx).2
   rw [lA hS xc aS,hd] at h1
   cases h1; rfl
  ·exact .inl ⟨hx,xL⟩
 ·rintro (⟨hx,xL⟩ | rfl)
  ·exact⟨hx,fun z=>absurd z xL⟩
  ·exact⟨bp3.mpr ⟨aS,bn4 hd⟩,fun _=>i5 aS⟩
theorem zF.comp {L P:List Int}{a:Int} (hS:b4 n S=true) (sub:∀ x ∈ L,x ∈ S) (sh:fS ls S L) (ha:L.head? = some a) (pc:zF n ls L P):P=comp ls S a:=by
 have ea:∀ z,z ∈ L.head?->z=a:=fun z hz=>by rw [ha] at hz; cases hz; rfl
 exact aX1 hS pc.set (fun x hx=>sub x (pc.sub x hx)) (pc.got a ha) (fun x hx y hy yS=>pc.shut x hx y hy (sh x (pc.sub x hx) y hy yS))
  fun U hU aU=>pc.least U (fun x hx y hy yL=>hU x hx y hy (sub y yL)) fun z hz=>by rw [ea z hz]; exact aU
end
noncomputable abbrev aX4:=ad5
noncomputable def jQ (ls:List (Int × Int)) (S:List Int):List (List Int):=(bD ls S).map (comp ls S)
noncomputable def tX:eJ:=qW fun ws ls S Q=>Q (.lst (tups (jQ ls S)))
theorem aX5:m3 ad5 ["web","block","around","left","pieces","piece"] tX:=by
 rintro Ep xs Q ⟨ws,ls,x,S,rfl,wb,hx,hl,q,qe⟩
 have few:=wb.few
 refine⟨_,rfl,ws,ls,rfl,wb,trivial,?_⟩
 refine⟨_,rfl,_,rfl,ws,ls,x,S,rfl,hx,hl,fun hs=>⟨trivial,?_⟩,qe⟩
 have q:Q (.lst (tups (jQ ls S))):=q hs
 have sl:=jO hs
 refine⟨by decide,rfl,rfl,rfl,?_⟩
 refine⟨fun n ρ=>∃ (L:List Int) (Ps:List (List Int)) (y5:Option Slot),ρ = [some (.sh (flat (b7 ws ls)) (b7 ws ls)),some (.sh (flat x) x),some (.sh true (.lst (dC ws.length ls))),some (.sh true (.tup (intz L))),some (.own (.lst (tups Ps))),y5]/\
   n=L.length/\b4 ws.length L=true/\Ps.length+L.length<=S.length/\(∀ x ∈ L,x ∈ S)/\fS ls S L/\Ps=((bD ls S).filter fun z=>!decide (z ∈ L)).map (comp ls S)/\∀ h ∈ (bD ls S).filter (fun z=>!decide (z ∈ L)),∀ x ∈ L,h < x,⟨_,S,[],none,rfl,rfl,hs,by simp,fun _ h=>h,fun _ _ _ _ h=>h,?_,?_⟩,?_⟩
 ·rw [bx7.mpr fun z hz=>?_]; rfl
  rw [bn4 (bp3.mp hz).1]; decide
 ·intro h hh
  have:=bp3.mp hh
  rw [bn4 (bp3.mp this.1).1] at this
  exact absurd this.2 (by decide)
 rintro n ρ ⟨L,Ps,y5,rfl,rfl,lset,bd,sub,sh,eP,lt⟩
 refine⟨_,rfl,_,rfl,?_⟩
 cases hL:L with
 | nil=>
  refine b8 ⟨_,rfl,trivial,?_⟩
  have e:(bD ls S).filter (fun z=>!decide (z ∈ L))=bD ls S:=bw7.mpr fun z _=>by rw [hL]; rfl
  rw [e] at eP
  rw [eP]; exact q
 | cons a r=>
  rw [<- hL]
  have ne:(!(intz L).isEmpty)=true:=by rw [hL]; rfl
  have nl:L ≠ []:=by rw [hL]; exact fun z=>nomatch z
  have hd:L.head? = some a:=by rw [hL]; rfl
  show if (!(intz L).isEmpty)=true then _ else _
  rw [ne]
  refine b9 ?_
  have ll:=jO lset
  refine⟨_,rfl,_,rfl,ws,ls,L,rfl,wb,lset,nl,fun P pc=>⟨trivial,?_⟩⟩
  have pn:P.Nodup:=(fH (cU pc.set).1).imp fun h=>bx1 h
  have pl:P.length<=L.length:=pn.length_le_of_subset pc.sub
  refine⟨_,rfl,_,rfl,trivial,by rw [eU]; omega,?_⟩
  refine⟨_,rfl,_,rfl,_,L,_,P,rfl,.inl rfl,.inl rfl,by omega,by omega,trivial,?_⟩
  have aP:=pc.got a hd
  obtain ⟨aL,al⟩:=kD lset hd
  have lt2:(L.filter fun z=>!decide (z ∈ P)).length < L.length:=by
   rcases Nat.lt_or_ge (L.filter fun z=>!decide (z ∈ P)).length L.length with z | z
   ·exact z
   ·have:=bw7.mp (List.filter_sublist.eq_of_length_le z) a aL
    rw [bn4 aP] at this; cases this
  have ec:=pc.comp hs sub sh hd
  have hn:=aX3 hs lset sub hd (fun x hx=>pc.sub x (by rw [ec]; exact hx)) lt
  rw [<- ec] at hn
  refine⟨_,lt2,L.filter (fun z=>!decide (z ∈ P)),Ps ++ [P],some (.sh true (.tup (intz P))),?_,rfl,tJ lset _,by rw [bo0,br1]; omega,fun x hx=>sub x (bp3.mp hx).1,?_,?_,?_⟩
  ·unfold tups
   rw [bp1]; rfl
  ·intro x hx y hy yS
   rw [bp3] at hx ⊢
   refine⟨sh x hx.1 y hy yS,?_⟩
   by_cases yP:y ∈ P
   ·have:=pc.shut y yP x (nM hy) hx.1
    rw [bn4 this] at hx; exact absurd hx.2 (by decide)
   ·rw [bn9 yP]; rfl
  ·rw [hn,bp1,<- eP,ec]; rfl
  ·rw [hn]
   intro h hh x hx
   rw [bp3] at hx
   rcases bo6.mp hh with hh | hh
   ·exact lt h hh x hx.1
   ·rw [bo2.mp hh]
    rcases al x hx.1 with e | e
    ·rw [<- e,bn4 aP] at hx; exact absurd hx.2 (by decide)
    ·exact e
end Core
namespace PP
open PySem L2
section
variable {X : Cx} {σ : St} {H : Hp} {D : cM} {te : aH} {e : Expr} {pos : Pos}
noncomputable def aX6 (i:Nat) (tk:aH):aI:=fun D ρ=>∃ xs,ρ[i]? = some (some (.own (.lst xs)))/\tk ρ fun n _=>∃ m:Nat,n = .int m/\xs.length<=16000000/\m < xs.length/\D.nx (ρ.set i (some (.own (.lst (xs.eraseIdx m)))))
end
section
variable {X : Cx} {a b : Expr} {ta tb : aH} {pos : Pos}
noncomputable def zH:PV->Tg->PV->Tg->PK->Prop:=fun x _ y _ Q=>∃ (i:Int) (o:Option Int),x = .int i/\y=Core.kB o/\Q (.bl (!decide (o=some i))) .fr
theorem aX7:g9 X zH vA:=by
 rintro W Hs H u v x y g g' Q Q' s n r1 r2 ⟨i,o,rfl,rfl,q⟩ k
 cases r1
 cases o with
 | none=>
  cases r2
  exact⟨rfl,k _ _ _ .fr (aG.refl _) (.bl true) q⟩
 | some j=>
  cases r2
  have e:decide (V.int i=V.int j)=decide (some j=some i):=decide_eq_decide.mpr ⟨fun z=>by cases z; rfl,fun z=>by cases z; rfl⟩
  refine⟨rfl,?_⟩
  rw [e]
  exact k _ _ _ .fr (aG.refl _) (.bl _) q
theorem aX8 (ha:QE X a ta) (hb:QE X b tb):QT X (.Compare a [.NotEq] [b] pos) (aT (q2 zH ta tb)):=k8 F7 aX7 ha hb (gL _)
end
end PP
namespace Core
open PySem L2 PP
noncomputable def ad6 (ws:List Int) (ls:List (Int × Int)):List Int->List Int->Bool
 | _,[]=>true
 | B,h :: R=>inB ws.length h && (kin ws ls B h && ad6 ws ls (B ++ [h]) R)
noncomputable def sp6:aI:=(bL (aT (jI (a5 7) (qC (.int 5)))) (m6 4 (a5 6) (bE (eR (a6 (nW (qC (.int 1))) (a6 (a5 2) (a6 (lQ (nW (qC (.int 1))) (a5 5)) (a6 (cA (a5 2) (a5 5)) a9))))) (bW (eF (a5 3) (qC (.int 97))) (qC (.int 4))))) bR)
noncomputable def sp5:aI:=(bL (kR (aT (dA (a5 7) (qC (.int 5)))) (aT (jI (a5 2) (qC (.int 0))))) (m6 4 (a5 6) (bW (eF (a5 3) (qC (.int 97))) (a5 2))) sp6)
noncomputable def sp4:aI:=(bL (kR (aT (dA (a5 7) (qC (.int 4)))) (aT (jI (aB bT (a6 (a5 1) a9)) (qC (.int 0))))) (m6 4 (a5 6) (bE (a5 1) (bW (eF (a5 3) (qC (.int 97))) (aB bT (a6 (a5 1) a9))))) sp5)
noncomputable def sp3:aI:=(bL (kR (aT (dA (a5 7) (qC (.int 3)))) (aT (jI (aB bT (a6 (a5 4) a9)) (qC (.int 0))))) (m6 4 (a5 6) (bE (a5 4) (bW (eF (a5 3) (qC (.int 97))) (aB bT (a6 (a5 4) a9))))) sp4)
noncomputable def zI:aI:=(bL (kR (aT (dA (a5 7) (qC (.int 2)))) (aT (jI (aB bT (a6 (a5 4) a9)) (qC (.int 0))))) (aX6 4 (bW (a5 6) (aB bT (a6 (a5 4) a9)))) sp3)
end Core
namespace PP
open PySem L2
section
variable {X : Cx} {a b : Expr} {ta tb : aH} {pos pos2 p2 p3 : Pos}
noncomputable abbrev aX9 (ta tb:aH):aH:=q2 (fB fun i j=>.int (Builtin.bitAnd i j)) ta tb
theorem aY0 (ha:QE X a ta) (hb:QE X b tb):QE X (.BinOp a .BitAnd b pos) (q2 (fB fun i j=>.int (Builtin.bitAnd i j)) ta tb):=k7 at3 wT ha hb
end
end PP
namespace Core
open PySem L2 PP
section
variable {ws : List Int} {ls : List (Int × Int)} {A T : List Int} {m : Nat}
theorem aY1:∀ m,∀ y ∈ A,y ∈ bI ws ls A m:=fun m y hy=>by
 induction m with
 | zero=>exact hy
 | succ m ih=>exact br8 _ ih
theorem aY2 (en:cM ws ls A m):hZ ws ls (bI ws ls A m):=fun h hh=>by
 have:=bx7.mp (show (rng ws.length).filter (kin ws ls (bI ws ls A m)) = [] from en.2) h hh
 simpa using this
end
noncomputable def i7:bK:=fun xs Q=>∃ a k:Int,xs = [.int a,.int k]/\0<=k/\k<=1000/\∀ z,0<=z->Q (.int z)
noncomputable def ad7:aI:=(aD (b6 2 (bW (cA (cA (cA (bW (a5 0) (qC (.int 2147483647))) (qB (qB (qC (.int 69621)) (a5 1)) (a5 1))) (qB (qC (.int 40692)) (a5 1))) (qC (.int 1))) (qC (.int 2147483647))))
 (aD (b6 2 (bW (qB (a5 2) (qC (.int 48271))) (qC (.int 2147483647))))
 (bF (bW (qB (a5 2) (a5 2)) (qC (.int 2147483647))))))
theorem aY3:bY ad7 ["number","k","turn"] i7:=by
 rintro xs Q ⟨a,k,rfl,k0,k1,q⟩
 have big:(0:Int) < 2147483647:=by decide
 refine⟨_,rfl,_,_,rfl,rfl,big,_,rfl,_,_,rfl,rfl,.inl ⟨by decide,by decide⟩,_,rfl,_,_,rfl,rfl,.inr ⟨by show -(2 ^ 64) < k; omega,by show k < 2 ^ 64; omega⟩,_,_,rfl,rfl,_,rfl,_,_,rfl,rfl,.inl ⟨by decide,by decide⟩,_,_,rfl,rfl,_,_,rfl,rfl,_,_,rfl,rfl,big,trivial,?_⟩
 refine⟨_,rfl,_,_,rfl,rfl,.inr ⟨by decide,by decide⟩,_,_,rfl,rfl,big,trivial,?_⟩
 dsimp only
 have t0:0<=(a % 2147483647+69621 * k * k+40692 * k+1) % 2147483647 * 48271 % 2147483647:=bw2 _ (by decide)
 have t1:(a % 2147483647+69621 * k * k+40692 * k+1) % 2147483647 * 48271 % 2147483647 < 2147483647:=by5 _ (by decide)
 generalize (a % 2147483647+69621 * k * k+40692 * k+1) % 2147483647 * 48271 % 2147483647=t at t0 t1
 exact⟨_,rfl,_,rfl,_,_,rfl,rfl,.inl ⟨by show -(2 ^ 64) < t; omega,by show t < 2 ^ 64; omega⟩,_,_,rfl,rfl,big,trivial,q _ (bw2 _ (by decide))⟩
noncomputable def oK:bK:=fun xs Q=>∃ (ns:List Int) (most:Int),xs = [.scr ns,.int most]/\0<=most/\∀ z,0<=z->z<=most->Q (.int z)
noncomputable def ad8:aI:=(aD (b6 2 (aB dX (a6 (a5 0) (a6 (qC (.int 0)) a9))))
 (aD (bL (aT (dA (bW (a5 2) (qC (.int 3))) (qC (.int 0)))) (bF (aB pV (a6 (a5 1) (a6 (aB jY (a6 (qC (.int 0)) (a6 (lQ (aB bT (a6 (a5 0) a9)) (qC (.int 4))) a9))) a9)))) bR)
 (aD (bL (aT (dA (bW (a5 2) (qC (.int 8))) (qC (.int 1)))) (bF (bW (cA (eF (a5 2) (qC (.int 24))) (qC (.int 5))) (cA (a5 1) (qC (.int 1))))) bR)
 (bF (bW (cA (eF (a5 2) (qC (.int 3))) (qC (.int 2))) (cA (aB pV (a6 (qC (.int 6)) (a6 (a5 1) a9))) (qC (.int 1))))))))
theorem aY4:bY ad8 ["script","most","number"] oK:=by
 rintro xs Q ⟨ns,most,rfl,hm,q⟩
 refine⟨_,rfl,_,ns,0,rfl,.inl rfl,by decide,trivial,?_⟩
 generalize ns.getD (0:Int).toNat 0=c
 refine⟨_,rfl,_,_,rfl,rfl,(by show (0:Int) < 3; decide),.inl ⟨_,_,rfl,rfl,_,rfl,kC ?_ ?_⟩⟩
 ·refine⟨_,rfl,_,rfl,_,_,rfl,rfl,_,_,rfl,rfl,_,_,rfl,_,_,rfl,trivial,q _ ?_ ?_⟩ <;> split <;> split <;> omega
 refine⟨_,rfl,_,_,rfl,rfl,(by show (0:Int) < 8; decide),.inl ⟨_,_,rfl,rfl,_,rfl,kC ?_ ?_⟩⟩
 ·have hp:0 < most+1:=by omega
  refine⟨_,rfl,_,_,rfl,rfl,⟨by decide,by decide⟩,_,_,rfl,rfl,_,rfl,_,_,rfl,rfl,_,_,rfl,rfl,hp,trivial,q _ (bw2 _ (by omega)) ?_⟩
  have:=by5 (c / 24+5) hp
  omega
 ·have hp:0 < (if most < 6 then most else 6)+1:=by split <;> omega
  refine⟨_,rfl,_,_,rfl,rfl,⟨by decide,by decide⟩,_,_,rfl,rfl,_,rfl,_,_,rfl,_,_,rfl,rfl,_,_,rfl,rfl,hp,trivial,q _ (bw2 _ (by omega)) ?_⟩
  have:=by5 (c / 3+2) hp
  have hm:(if most < 6 then most else 6)<=most:=by split <;> omega
  omega
noncomputable def ad9 (mx:Int):bK:=fun xs Q=>∃ (ns:List Int) (most:Int),xs = [.scr ns,.int most]/\ns.length<=63/\0<=most/\most<=mx/\∀ n ws ls,0<=n->n<=most->WL n ws ls->Q (b7 ws ls)
noncomputable def ae0 (R:List PV->(PV->Prop)->Prop):aI:=(aD (b6 13 (cS (iY (a5 2)) [none,some 5,some 8] (bO 0) e9 (bW (bE (a5 1) (a5 0)) (cA (bE (a5 2) (a5 0)) (qC (.int 2))))))
 (bF (c7 (a6 (aB eS (a6 (a5 13) a9)) (a6 (aB eS (a6 (aB R (a6 (a5 7) a9)) a9)) a9)))))
noncomputable def ae1:aI:=(aD (b6 12 (a5 10))
   (aD (b6 10 (eF (a5 10) (a5 3)))
   (aD (bL (eQ (aT (a5 4))) (b6 12 (aB i7 (a6 (bE (a5 5) (a5 9)) (a6 (cA (a5 11) (qC (.int 60))) a9)))) bR)
   (bL (aT (dA (bW (a5 12) (a5 3)) (qC (.int 1)))) (aD (iX 7 (c7 (a6 (a5 11) (a6 (a5 9) a9))))
    (aD (jX 8 (a5 11) (cA (bE (a5 8) (a5 11)) (qC (.int 1))))
    (jX 8 (a5 9) (cA (bE (a5 8) (a5 9)) (qC (.int 1)))))) bR))))
noncomputable def zJ (R:List PV->(PV->Prop)->Prop):aI:=(aD (dJ (iY (a5 2)) (bO 9)
  (aD (b6 10 (eF (bE (a5 5) (a5 9)) (qC (.int 64))))
  (dJ (iY (a5 9)) (bO 11) ae1)))
 (ae0 R))
noncomputable def ae2 (R:List PV->(PV->Prop)->Prop):aI:=(aD (b6 2 (aB oK (a6 (a5 0) (a6 (a5 1) a9))))
 (aD (b6 3 (cA (qC (.int 2)) (bW (aB dX (a6 (a5 0) (a6 (qC (.int 1)) a9))) (qC (.int 4)))))
 (aD (b6 4 (dA (bW (eF (aB dX (a6 (a5 0) (a6 (qC (.int 1)) a9))) (qC (.int 8))) (qC (.int 2))) (qC (.int 1))))
 (aD (cZ 5 (gE (a5 0) (fD (qC (.int 4))) (fD (cA (qC (.int 4)) (a5 2)))))
 (aD (dJ (pX (aB bT (a6 (a5 5) a9)) (a5 2)) (bO 6)
  (iX 5 (aB i7 (a6 (aB dX (a6 (a5 0) (a6 (qC (.int 1)) a9))) (a6 (a5 6) a9)))))
 (aD (cZ 7 (eR a9))
 (aD (cZ 8 (tH (eR (a6 (qC (.int 0)) a9)) (a5 2)))
 (zJ R))))))))
structure LK (i j:Nat) (ls:List (Int × Int)):Prop where
 inn:∀ l ∈ ls,0<=l.1/\l.1 < l.2/\(l.2 < (i:Int) ∨ (l.2=(i:Int)/\l.1 < (j:Int)))
 nd:ls.Nodup
 few:ls.length<=40 * i+j
theorem LK.same {i j:Nat}{ls:List (Int × Int)} (h:LK i j ls):LK i (j+1) ls:=
 ⟨fun l hl=>by have:=h.inn l hl; omega,h.nd,by have:=h.few; omega⟩
theorem LK.app {i j:Nat}{ls:List (Int × Int)} (h:LK i j ls) (hj:j < i):LK i (j+1) (ls ++ [((j:Int),(i:Int))]):=by
 refine⟨fun l hl=>?_,bu1.mpr ⟨h.nd,bq2 _ _,fun a ha b hb e=>?_⟩,by rw [bo0,br1]; have:=h.few; omega⟩
 ·rcases bo6.mp hl with z | z
  ·have:=h.inn l z; omega
  ·rw [bo2.mp z]; dsimp only; omega
 ·rw [bo2.mp hb] at e
  subst e
  have:=h.inn _ ha
  dsimp only at this
  omega
theorem LK.next {i:Nat}{ls:List (Int × Int)} (h:LK i i ls) (hi:i<=40):LK (i+1) 0 ls:=
 ⟨fun l hl=>by have:=h.inn l hl; omega,h.nd,by have:=h.few; omega⟩
theorem gR {ws:List Int}{j:Nat} (h:j < ws.length):L2.atI (intz ws) (j:Int)=some (.int (ws.getD j 0)):=by
 have gw:ws[j]? = some (ws.getD j 0):=by rw [bq0,bo1 h]; rfl
 exact lH (by rw [bo8,gw]; rfl)
theorem oM {ws:List Int} (h:NN ws) (j:Nat):0<=ws.getD j 0:=by
 rw [bq0]
 cases hj:ws[j]? with
 | none=>exact bD6 0
 | some w=>exact h w (bp0 hj)
theorem qZ (ns:List Int) (lo hi:Option Int):∃ zs:List Int,fC (intz ns) lo hi=intz zs/\zs.length<=ns.length:=by
 refine⟨(ns.drop (HT.bB (intz ns).length 0 lo)).take (HT.bB (intz ns).length (intz ns).length hi - HT.bB (intz ns).length 0 lo),?_,?_⟩
 ·unfold fC intz; rw [List.map_take,List.map_drop]
 ·rw [bt8,bx5]; omega
noncomputable def tY (R:List PV->(PV->Prop)->Prop) (m:Nat):Prop:=∀ (ls:List (Int × Int)) (Q:PV->Prop),ls.length<=40 * m->(∀ ls':List (Int × Int),ls'.Perm ls->(ls'.map two).Pairwise (fun u v=>HT.fX v u=false)->Q (.lst (bX ls')))->(∀ l ∈ ls,0<=l.1/\l.1 < l.2/\l.2 < (m:Int))->ls.Nodup->R [.lst (bX ls)] Q
theorem aY5 {m:Nat}{sp:Int}{dg:Bool}{cs cts:List Int}{lks:List (Int × Int)}{i j:Nat}{nb:Int}{s0 s1 y6 y12 y13:Option Slot}{D:bQ->Prop}{Q:PV->Prop}{ct bk:bQ->Prop} (zI:2<=sp/\sp<=5) (hc:m<=cs.length) (hi:i < m) (hj:j < i) (m40:m<=40) (lk:LK i j lks) (cl:cts.length=m) (nn:NN cts)
  (k:∀ (nb dr:Int) (lks':List (Int × Int)) (cts':List Int),LK i (j+1) lks'->cts'.length=m->NN cts'->D [s0,s1,si m,si sp,some (.sh true (.bl dg)),some (.own (.lst (intz cs))),y6,some (.own (.lst (bX lks'))),some (.own (.lst (intz cts'))),si i,si nb,si j,si dr,y13]) :
  ae1 { nx:=D,rt:=Q,ct:=ct,bk:=bk } [s0,s1,si m,si sp,some (.sh true (.bl dg)),some (.own (.lst (intz cs))),y6,some (.own (.lst (bX lks))),some (.own (.lst (intz cts))),si i,si nb,si j,y12,y13]:=by
 refine⟨_,rfl,trivial,?_⟩
 refine⟨_,rfl,_,rfl,_,_,rfl,rfl,⟨by omega,by omega⟩,trivial,?_⟩
 dsimp only
 generalize nb / sp=nb2
 have fin:∀ dr:Int,(bL (aT (dA (bW (a5 12) (a5 3)) (qC (.int 1)))) (aD (iX 7 (c7 (a6 (a5 11) (a6 (a5 9) a9))))
    (aD (jX 8 (a5 11) (cA (bE (a5 8) (a5 11)) (qC (.int 1))))
    (jX 8 (a5 9) (cA (bE (a5 8) (a5 9)) (qC (.int 1)))))) bR) { nx:=D,rt:=Q,ct:=ct,bk:=bk } [s0,s1,si m,si sp,some (.sh true (.bl dg)),some (.own (.lst (intz cs))),y6,some (.own (.lst (bX lks))),some (.own (.lst (intz cts))),si i,si nb2,si j,si dr,y13]:=fun dr=>by
  refine⟨_,rfl,_,rfl,_,_,rfl,rfl,by show 0 < sp; omega,.inl ⟨_,_,rfl,rfl,_,rfl,kC ?_ (k nb2 dr lks cts lk.same cl nn)⟩⟩
  have pl:(bX lks).length=lks.length:=bn7 _
  have fw:=lk.few
  refine⟨_,rfl,_,rfl,_,rfl,by show 2<=1000; decide,rfl,trivial,by rw [pl]; omega,?_⟩
  have a1:=gR (ws:=cts) (j:=j) (by omega)
  refine⟨_,rfl,_,rfl,_,_,_,rfl,rfl,a1,_,_,rfl,rfl,_,rfl,_,rfl,j,j,rfl,?_,trivial,?_⟩
  ·rw [aZ]; unfold gM; rw [if_pos (by omega),if_pos (by omega)]; rfl
  have e1:(intz cts).set j (.int (cts.getD j 0+1))=intz (cts.set j (cts.getD j 0+1)):=(List.map_set ..).symm
  have n1:NN (cts.set j (cts.getD j 0+1)):=nn.set (by have:=oM nn j; omega) _
  dsimp only
  rw [e1]
  have l1:(cts.set j (cts.getD j 0+1)).length=m:=by rw [bs0]; exact cl
  generalize cts.set j (cts.getD j 0+1)=ct2 at n1 l1
  have a2:=gR (ws:=ct2) (j:=i) (by omega)
  refine⟨_,rfl,_,rfl,_,_,_,rfl,rfl,a2,_,_,rfl,rfl,_,rfl,_,rfl,i,i,rfl,?_,trivial,?_⟩
  ·rw [aZ]; unfold gM; rw [if_pos (by omega),if_pos (by omega)]; rfl
  have e2:(intz ct2).set i (.int (ct2.getD i 0+1))=intz (ct2.set i (ct2.getD i 0+1)):=(List.map_set ..).symm
  have n2:NN (ct2.set i (ct2.getD i 0+1)):=n1.set (by have:=oM n1 i; omega) _
  dsimp only
  rw [e2]
  have:=k nb2 dr (lks ++ [((j:Int),(i:Int))]) (ct2.set i (ct2.getD i 0+1)) (lk.app hj) (by rw [bs0]; exact l1) n2
  unfold bX at this ⊢
  rw [bp1] at this
  exact this
 refine⟨_,rfl,_,rfl,?_⟩
 cases dg with
 | true=>exact b8 (fin nb)
 | false=>
  have a0:=gR (ws:=cs) (j:=i) (by omega)
  exact b9 ⟨_,rfl,_,rfl,_,_,_,rfl,rfl,a0,_,rfl,_,_,rfl,rfl,_,_,rfl,by omega,by omega,fun z _=>⟨trivial,fin z⟩⟩
theorem aY6 {R:List PV->(PV->Prop)->Prop}{m:Nat}{cs cts:List Int}{lks:List (Int × Int)}{s0 s1 y3 y4 y6 y9 y10 y11 y12:Option Slot}{Q:PV->Prop} (hR:tY R m) (hc:m<=cs.length) (m40:m<=40) (lk:LK m 0 lks) (cl:cts.length=m) (nn:NN cts) (q:∀ ws ls,WL m ws ls->Q (b7 ws ls)) :
  ae0 R { nx:=fun _=>Q .non,rt:=Q } [s0,s1,si m,y3,y4,some (.own (.lst (intz cs))),y6,some (.own (.lst (bX lks))),some (.own (.lst (intz cts))),y9,y10,y11,y12,none]:=by
 refine⟨_,rfl,m,rfl,by omega,by omega,by rw [dQ]; omega,fun i acc=>∃ zs:List Int,acc=intz zs/\zs.length=i/\NN zs,⟨[],rfl,rfl,fun z hz=>by cases hz⟩,?_,?_⟩
 ·rintro i y acc hy ⟨zs,rfl,zl,zn⟩
  obtain ⟨rfl,hi⟩:=iG hy
  have hi:i < m:=by omega
  refine i3 ?_
  rw [bB5]
  have a1:=gR (ws:=cs) (j:=i) (by omega)
  have a2:=gR (ws:=cts) (j:=i) (by omega)
  have p1:=oM nn i
  refine⟨_,rfl,_,rfl,_,_,_,rfl,rfl,a1,_,rfl,_,rfl,_,_,_,rfl,rfl,a2,_,_,rfl,rfl,_,_,rfl,rfl,by show 0 < cts.getD i 0+2; omega,trivial,zs ++ [cs.getD i 0 % (cts.getD i 0+2)],by rw [dW]; rfl,by rw [bo0,zl]; rfl,zn.app (bw2 _ (by omega))⟩
 rintro acc ⟨ws,rfl,wl,wn⟩
 rw [dQ,bq7] at wl
 refine⟨trivial,?_⟩
 have fp:∀ ls:List (Int × Int),flats (bX ls)=true:=t5
 have inn:∀ l ∈ lks,0<=l.1/\l.1 < l.2/\l.2 < (m:Int):=fun l hl=>by have:=lk.inn l hl; omega
 refine⟨_,rfl,⟨_,_,rfl,rfl,bJ _,?_⟩,(fun ns e=>by cases e)⟩
 refine⟨_,rfl,hR lks _ (by have:=lk.few; omega) (fun ls' pl so=>?_) inn lk.nd⟩
 refine⟨⟨_,_,rfl,rfl,fp _,by show 2<=1000; decide,?_,trivial,?_⟩,(fun ns e=>by cases e)⟩
 ·show (flats (intz ws) && (flats (bX ls') && true))=true
  rw [bJ,fp]; rfl
 ·exact q ws ls' (WL.perm (by omega) inn (by have:=lk.few; omega) lk.nd wn pl so)
theorem aY7 {R:List PV->(PV->Prop)->Prop}{m:Nat}{sp:Int}{dg:Bool}{cs cts:List Int}{s0 s1 y6:Option Slot}{Q:PV->Prop} (hR:tY R m) (zI:2<=sp/\sp<=5) (hc:m<=cs.length) (m40:m<=40) (cl:cts.length=m) (nn:NN cts) (q:∀ ws ls,WL m ws ls->Q (b7 ws ls)) :
  zJ R { nx:=fun _=>Q .non,rt:=Q } [s0,s1,si m,si sp,some (.sh true (.bl dg)),some (.own (.lst (intz cs))),y6,some (.own (.lst [])),some (.own (.lst (intz cts))),none,none,none,none,none]:=by
 refine⟨_,rfl,m,rfl,by omega,by omega,fun i ρ=>∃ (lks:List (Int × Int)) (cts:List Int) (y9 y10 y11 y12:Option Slot),ρ = [s0,s1,si m,si sp,some (.sh true (.bl dg)),some (.own (.lst (intz cs))),y6,some (.own (.lst (bX lks))),some (.own (.lst (intz cts))),y9,y10,y11,y12,none]/\LK i 0 lks/\cts.length=m/\NN cts,⟨[],cts,none,none,none,none,rfl,⟨(fun l hl=>by cases hl),bv2,br9 _⟩,cl,nn⟩,?_,?_⟩
 ·rintro i y ρ hy ⟨lks,cts,y9,y10,y11,y12,rfl,lk,cl,nn⟩
  obtain ⟨rfl,hi⟩:=iG hy
  have hi:i < m:=by omega
  refine i3 ?_
  rw [bB5]
  have a1:=gR (ws:=cs) (j:=i) (by omega)
  refine⟨_,rfl,_,rfl,_,_,_,rfl,rfl,a1,_,_,rfl,rfl,⟨by decide,by decide⟩,trivial,?_⟩
  dsimp only
  generalize cs.getD i 0 / 64=nb
  refine⟨_,rfl,i,rfl,by omega,by omega,fun j ρ=>∃ (nb:Int) (lks:List (Int × Int)) (cts:List Int) (y11 y12:Option Slot),ρ = [s0,s1,si m,si sp,some (.sh true (.bl dg)),some (.own (.lst (intz cs))),y6,some (.own (.lst (bX lks))),some (.own (.lst (intz cts))),si i,si nb,y11,y12,none]/\LK i j lks/\cts.length=m/\NN cts,⟨nb,lks,cts,y11,y12,rfl,lk,cl,nn⟩,?_,?_⟩
  ·rintro j y ρ hy ⟨nb,lks,cts,y11,y12,rfl,lk,cl,nn⟩
   obtain ⟨rfl,hj⟩:=iG hy
   have hj:j < i:=by omega
   refine i3 ?_
   rw [bB5]
   exact aY5 zI hc hi hj m40 lk cl nn fun nb dr lks' cts' h1 h2 h3=>⟨nb,lks',cts',si j,si dr,rfl,h1,h2,h3⟩
  ·rintro ρ ⟨nb,lks,cts,y11,y12,rfl,lk,cl,nn⟩
   rw [dQ,bq7] at lk
   exact⟨lks,cts,si i,si nb,y11,y12,rfl,lk.next (by omega),cl,nn⟩
 ·rintro ρ ⟨lks,cts,y9,y10,y11,y12,rfl,lk,cl,nn⟩
  rw [dQ,bq7] at lk
  exact aY6 hR hc m40 lk cl nn q
theorem aY8 {R:List PV->(PV->Prop)->Prop}{mx:Int} (mx40:mx<=40) (hR:∀ m:Nat,(m:Int)<=mx->tY R m):bY (ae2 R) ["script","most","many","sparse","digits","cells","k","links","counts","other","number","one","draw","wants"] (ad9 mx):=by
 rintro xs Q ⟨ns,most,rfl,hl,h0,h1,q⟩
 refine⟨_,rfl,_,rfl,ns,most,rfl,h0,fun z z0 z1=>⟨trivial,?_⟩⟩
 obtain ⟨m,rfl⟩:∃ m:Nat,z=m:=⟨z.toNat,by omega⟩
 refine⟨_,rfl,_,ns,1,rfl,.inl rfl,by decide,_,_,rfl,rfl,(by show (0:Int) < 4; decide),_,_,rfl,rfl,trivial,?_⟩
 dsimp only
 have s2:2<=2+ns.getD (1:Int).toNat 0 % 4/\2+ns.getD (1:Int).toNat 0 % 4<=5:=by
  have:=bw2 (ns.getD (1:Int).toNat 0) (show (4:Int) ≠ 0 by decide)
  have:=by5 (ns.getD (1:Int).toNat 0) (show (0:Int) < 4 by decide)
  omega
 generalize 2+ns.getD (1:Int).toNat 0 % 4=sp at s2
 refine⟨_,rfl,_,ns,1,rfl,.inl rfl,by decide,_,_,rfl,rfl,⟨by decide,by decide⟩,_,_,rfl,rfl,(by show (0:Int) < 2; decide),.inl ⟨_,_,rfl,rfl,trivial,?_⟩⟩
 generalize (if false=true then !decide (ns.getD (1:Int).toNat 0 / 8 % 2=1) else decide (ns.getD (1:Int).toNat 0 / 8 % 2=1))=dg
 obtain ⟨zs,ez,zl⟩:=qZ ns (some 4) (some (4+(m:Int)))
 refine⟨_,rfl,_,rfl,_,rfl,_,_,rfl,rfl,_,rfl,_,rfl,bJ _,rfl,?_,?_⟩
 ·show flats (fC (intz ns) (some 4) (some (4+(m:Int))))=true
  rw [ez]; exact bJ _
 show (aD _ _) _ [_,_,_,_,_,some (Slot.own (.lst (fC (intz ns) (some 4) (some (4+(m:Int)))))),_,_,_,_,_,_,_,_]
 rw [ez]
 refine⟨_,rfl,_,_,rfl,rfl,_,rfl,(zs.length:Int),(m:Int),by rw [aZ],rfl,⟨by omega,by omega,by omega,by omega⟩,fun i ρ=>∃ (cs:List Int) (y6:Option Slot),ρ = [some (.sh (flat (.scr ns)) (.scr ns)),si most,si m,si sp,some (.sh true (.bl dg)),some (.own (.lst (intz cs))),y6,none,none,none,none,none,none,none]/\cs.length=zs.length+i,⟨zs,none,rfl,rfl⟩,?_,?_⟩
 ·rintro i y ρ hy ⟨cs,y6,rfl,cl⟩
  obtain ⟨rfl,hi⟩:=iG hy
  refine i3 ?_
  refine⟨_,rfl,_,rfl,_,ns,1,rfl,.inl rfl,by decide,_,rfl,_,_,rfl,by omega,by omega,fun z _=>⟨trivial,by rw [aZ]; omega,cs ++ [z],_,by rw [dW]; rfl,by rw [bo0,cl]; rfl⟩⟩
 rintro ρ ⟨cs,y6,rfl,cl⟩
 rw [dQ] at cl
 have hc:m<=cs.length:=by omega
 refine⟨by decide,rfl,rfl,rfl,?_⟩
 refine⟨by show 1<=1000; decide,rfl,_,rfl,_,_,rfl,rfl,rfl,by omega,by omega,by show 1<=10; decide,rfl,?_,?_⟩
 ·show flats (List.replicate (m:Int).toNat [PV.int 0]).flatten=true
  rw [oJ]; exact bJ _
 show zJ R _ [_,_,_,_,_,_,_,_,some (Slot.own (.lst (List.replicate (m:Int).toNat [PV.int 0]).flatten)),_,_,_,_,_]
 rw [oJ,bq7]
 exact aY7 (hR m (by omega)) s2 hc (by omega) bz6 (fun z hz=>by rw [List.eq_of_mem_replicate hz]; exact bD6 0) fun ws ls w=>q m ws ls z0 z1 w
end Core
namespace PP
open PySem L2
section
variable {P : Program} {w : World} {K : PySem.W.Frag} {mg : Str → Option Value} {base : Heap} {k : Nat} {f : Addr} {fd : FuncData}
theorem aY9 (F:dD P w K mg base eB k f fd ["web"] tF) (b:jC K fd ["web"] []) (kp:PySem.W.keepIn K (.ref f)=true) (m:mg "_law_beside" = some (.ref f)):Df P w K mg base k "_law_beside" ["web"] Core.iI:=by
 refine⟨f,fd,F.imp fun vs H Q E h=>?_,b,kp,m⟩
 obtain ⟨xs,Qp,r,⟨ws,ls,rfl,wb,q⟩,k⟩:=h
 obtain ⟨v,rfl,r1⟩:=r.one
 have:=wb.few
 have:=wb.most
 refine⟨v,ws,ls,rfl,Z0 r1,by omega,by omega,wb.links,fun t bs H' hb R=>k _ H' _ R.same (.lst R.new R.row ?_) q⟩
 have:=yJ (K:=K) (M:=fun a=>H a=none) (H:=H') (bs:=bs) (ls:=ls) 0 (fun b hb=>(R.news b hb).1) fun k b hk=>by rw [Nat.zero_add]; exact R.rows k b hk
 rw [hb,<- List.range_eq_range'] at this
 exact this
end
end PP
namespace Core
open PySem L2 PP
noncomputable def kE (ws:List Int) (ls:List (Int × Int)) (C:List Int):Bool:=@decide (∀ U:List Int,hZ ws ls U->(∀ x ∈ C,x ∈ U)->∀ h ∈ rng ws.length,h ∈ U) (Classical.propDecidable _)
section
variable {ws : List Int} {ls : List (Int × Int)} {C D : List Int}
theorem tZ:kE ws ls C=true ↔ ∀ U:List Int,hZ ws ls U->(∀ x ∈ C,x ∈ U)->∀ h ∈ rng ws.length,h ∈ U:=
 ⟨fun z=>@bs3 _ (Classical.propDecidable _) z,fun z=>@bn4 _ (Classical.propDecidable _) z⟩
theorem ae3 {T:List Int} (sh:hZ ws ls T) (sub:∀ x ∈ C,x ∈ T) (le:∀ U,hZ ws ls U->(∀ x ∈ C,x ∈ U)->∀ x ∈ T,x ∈ U):kE ws ls C=true ↔ ∀ h ∈ rng ws.length,h ∈ T:=
 ⟨fun f=>tZ.mp f T sh sub,fun a=>tZ.mpr fun U sU hU h hh=>le U sU hU h (a h hh)⟩
theorem aZ0 {m:Nat} (hs:b4 ws.length C=true) (en:cM ws ls C m):kE ws ls C=decide (((bI ws ls C m).length:Int)=(ws.length:Int)):=by
 have st:∀ m,∀ x ∈ bI ws ls C m,x ∈ rng ws.length:=fun m=>by
  induction m with
  | zero=>exact fun x hx=>eG.mpr ((cU hs).2 x hx)
  | succ m ih=>
   intro x hx
   rcases bo6.mp (show x ∈ bI ws ls C m ++ nextOf ws ls (bI ws ls C m) from hx) with hx | hx
   ·exact ih x hx
   ·exact (bp3.mp hx).1
 have nd:=yU (ls:=ls) hs m
 have le:=nd.length_le_of_subset (st m)
 rw [dM] at le
 rw [bt3,bv3,ae3 (aY2 en) (aY1 m) fun U sU hU x hx=>aa4 sU hU m x hx]
 constructor
 ·intro a
  have:=(aa5 ws.length).length_le_of_subset a
  rw [dM] at this
  omega
 ·intro e
  refine fun h hh=>bu6 fun hn=>?_
  have:=(bu0.mpr ⟨hn,nd⟩).length_le_of_subset fun x hx=>(bo3.mp hx).elim (fun e=>by rw [e]; exact hh) (st m x)
  rw [dM,bp8] at this
  omega
end
noncomputable abbrev u3:bK:=iI
noncomputable def u4:bK:=fun xs Q=>∃ ws ls x ns,xs = [b7 ws ls,x]/\Wb ws ls/\dO x ns/\(∀ x ∈ ns,x ∈ rng ws.length)/\∀ T,hZ ws ls T->(∀ x ∈ ns,x ∈ T)->(∀ U,hZ ws ls U->(∀ x ∈ ns,x ∈ U)->∀ x ∈ T,x ∈ U)->Q (.lst (fQ ws.length T))
noncomputable def ae4:aI:=(aD (b6 2 (aB u3 (a6 (a5 0) a9)))
 (aD (cZ 3 (cS (iY (aB bT (a6 (bE (a5 0) (qC (.int 0))) a9))) [none,some 1] (bO 0) e9 (q2 (pZ false) (a5 0) (a5 1))))
 (aD (b6 4 (qC (.bl true)))
 (aD (mM (aT (a5 4))
  (aD (b6 4 (qC (.bl false)))
  (dJ (iY (aB bT (a6 (bE (a5 0) (qC (.int 0))) a9))) (bO 5)
   (aD (b6 6 (aB bT (a6 (cS (cR (bE (a5 2) (a5 5))) [none,some 3] (bO 0) (jZ (bE (a5 1) (a5 0))) (a5 0)) a9)))
   (bL (kR (eQ (jZ (bE (a5 3) (a5 5)))) (aT (qE (a5 6) (bE (bE (a5 0) (qC (.int 0))) (a5 5))))) (aD (jX 3 (a5 5) (qC (.bl true)))
    (b6 4 (qC (.bl true)))) bR)))))
 (kS 3)))))
theorem aZ1:bY ae4 ["web","seeds","beside","burning","left","hearth","count"] u4:=by
 rintro xs Q ⟨ws,ls,x,ns,rfl,wb,hx,inn,q⟩
 have few:=wb.few
 refine⟨_,rfl,ws,ls,rfl,wb,trivial,?_⟩
 refine⟨_,rfl,_,_,_,rfl,rfl,rfl,_,_,rfl,rfl,_,rfl,by rw [aZ]; omega,by rw [aZ]; omega,by rw [dQ,aZ]; omega,fun i acc=>acc=((rng ws.length).take i).map fun i=>PV.bl (decide (i ∈ ns)),rfl,?_,?_⟩
 ·rintro i y acc hy rfl
  obtain ⟨rfl,hi⟩:=iG hy
  rw [aZ] at hi
  have hi:i < ws.length:=by omega
  refine⟨_,rfl,_,rfl,_,ns,rfl,hx.seq,trivial,?_⟩
  have tk:=qO (f:=fun (i:Int)=>PV.bl (decide (i ∈ ns))) (o7 hi)
  show _=List.map _ (List.take (i+1) _)
  rw [tk,bB5]; rfl
 rintro bu rfl
 rw [dQ,aZ,br5 (by rw [dM]; omega)]
 have flb:∀ S,flats (fQ ws.length S)=true:=fun S=>by
  rw [yF]
  intro x hx
  unfold fQ at hx
  obtain ⟨i,_,rfl⟩:=bp6.mp hx
  rfl
 refine⟨rfl,flb ns,?_⟩
 refine⟨trivial,?_⟩
 refine⟨fun n ρ=>∃ (T:List Int) (g:Bool) (y5 y6:Option Slot),ρ = [some (.sh (flat (b7 ws ls)) (b7 ws ls)),some (.sh (flat x) x),some (.sh true (.lst (dC ws.length ls))),some (.own (.lst (fQ ws.length T))),some (.sh true (.bl g)),y5,y6]/\
   (∀ x ∈ ns,x ∈ T)/\(∀ U,hZ ws ls U->(∀ x ∈ ns,x ∈ U)->∀ x ∈ T,x ∈ U)/\(g=false->hZ ws ls T)/\n=2 * ((rng ws.length).filter fun z=>!decide (z ∈ T)).length+(if g=true then 1 else 0),⟨_,ns,true,none,none,rfl,fun _ h=>h,fun _ _ h=>h,(fun z=>by cases z),rfl⟩,?_⟩
 rintro n ρ ⟨T,g,y5,y6,rfl,sub,le,sh,rfl⟩
 refine⟨_,rfl,_,rfl,?_⟩
 cases g with
 | false=>exact b8 ⟨_,rfl,trivial,q T (sh rfl) sub le⟩
 | true=>
  refine b9 ⟨trivial,?_⟩
  refine⟨_,rfl,_,_,_,rfl,rfl,rfl,_,_,rfl,rfl,_,rfl,by rw [aZ]; omega,by rw [aZ]; omega,fun i ρ=>∃ (T2:List Int) (g2:Bool) (y5 y6:Option Slot),ρ = [some (.sh (flat (b7 ws ls)) (b7 ws ls)),some (.sh (flat x) x),some (.sh true (.lst (dC ws.length ls))),some (.own (.lst (fQ ws.length T2))),some (.sh true (.bl g2)),y5,y6]/\
   (∀ x ∈ ns,x ∈ T2)/\(∀ U,hZ ws ls U->(∀ x ∈ ns,x ∈ U)->∀ x ∈ T2,x ∈ U)/\(g2=false->T2=T/\∀ j:Nat,j < i->kin ws ls T j=false)/\(g2=true->((rng ws.length).filter fun z=>!decide (z ∈ T2)).length < ((rng ws.length).filter fun z=>!decide (z ∈ T)).length),⟨T,false,y5,y6,rfl,sub,le,(fun _=>⟨rfl,fun j hj=>absurd hj (Nat.not_lt_zero _)⟩),fun z=>by cases z⟩,?_,?_⟩
  ·rintro i y ρ hy ⟨T2,g2,y5,y6,rfl,sub2,le2,h0,h1⟩
   obtain ⟨rfl,hi⟩:=iG hy
   have hi:i < ws.length:=by rw [aZ,bq7] at hi; exact hi
   refine i3 ?_
   rw [bB5]
   have hr:(i:Int) ∈ rng ws.length:=eG.mpr ⟨by omega,by omega⟩
   refine⟨_,rfl,_,rfl,_,_,_,rfl,rfl,o9 (by omega) (by omega),_,rfl,(fun z=>by cases z),?_,fun j acc=>acc=intz (((aO ls (i:Int)).take j).filter fun z=>decide (z ∈ T2)),rfl,?_,?_⟩
   ·rw [aZ]; have:=lM ls (i:Int); have:=wb.most; omega
   ·rintro j z acc hz rfl
    obtain ⟨o,rfl,ho⟩:=fP hz
    have tk:=kX (p:=fun z=>decide (z ∈ T2)) ho
    have om:=eG.mp (aT5 wb (bp0 ho))
    refine⟨_,rfl,_,rfl,_,_,_,rfl,rfl,Z3 om.1 om.2,_,rfl,?_⟩
    show if decide (o ∈ T2)=true then _ else _
    cases hm:decide (o ∈ T2) with
    | true=>
     rw [hm] at tk
     refine b9 ⟨_,rfl,trivial,?_⟩
     dsimp only
     rw [tk,dW]; rfl
    | false=>
     rw [hm] at tk
     refine b8 ?_
     dsimp only
     rw [tk]; exact congrArg intz (br6 _).symm
   rintro acc rfl
   rw [aZ,bs5]
   have ix:L2.atI (intz ws) (i:Int)=some (.int (ws.getD (i:Int).toNat 0)):=tE (by omega) (by omega)
   refine⟨_,_,rfl,rfl,trivial,?_⟩
   refine⟨_,rfl,_,rfl,_,_,_,rfl,rfl,Z3 (by omega) (by omega),_,rfl,?_⟩
   show if (!decide ((i:Int) ∈ T2))=true then _ else _
   have stay:kin ws ls T2 (i:Int)=false->∃ (T3:List Int) (g3:Bool) (y5 y6':Option Slot),[some (Slot.sh (flat (b7 ws ls)) (b7 ws ls)),some (.sh (flat x) x),some (.sh true (.lst (dC ws.length ls))),some (.own (.lst (fQ ws.length T2))),some (.sh true (.bl g2)),si (i:Int),some (.sh true (.int (((aO ls (i:Int)).filter fun z=>decide (z ∈ T2)).length:Nat)))] = [some (.sh (flat (b7 ws ls)) (b7 ws ls)),some (.sh (flat x) x),some (.sh true (.lst (dC ws.length ls))),some (.own (.lst (fQ ws.length T3))),some (.sh true (.bl g3)),y5,y6']/\
     (∀ x ∈ ns,x ∈ T3)/\(∀ U,hZ ws ls U->(∀ x ∈ ns,x ∈ U)->∀ x ∈ T3,x ∈ U)/\(g3=false->T3=T/\∀ j:Nat,j < i+1->kin ws ls T j=false)/\(g3=true->((rng ws.length).filter fun z=>!decide (z ∈ T3)).length < ((rng ws.length).filter fun z=>!decide (z ∈ T)).length):=fun hk=>by
    refine⟨T2,g2,_,_,rfl,sub2,le2,fun z=>?_,h1⟩
    obtain ⟨e,a⟩:=h0 z
    refine⟨e,fun j hj=>?_⟩
    by_cases je:j=i
    ·rw [je,<- e]; exact hk
    ·exact a j (by omega)
   by_cases hm:(i:Int) ∈ T2
   ·have hk:kin ws ls T2 (i:Int)=false:=by unfold kin; rw [bn4 hm]; rfl
    rw [bn4 hm]
    have:=stay hk
    refine b8 (b8 ?_)
    dsimp only
    rw [aZ]
    exact this
   ·rw [bn9 hm]
    refine b9 ⟨_,rfl,_,rfl,_,_,_,rfl,rfl,rfl,_,rfl,_,_,_,rfl,rfl,ix,_,_,rfl,rfl,_,rfl,?_⟩
    have ek:kin ws ls T2 (i:Int)=decide ((((aO ls (i:Int)).filter fun z=>decide (z ∈ T2)).length:Int) >= ws.getD (i:Int).toNat 0):=by unfold kin; rw [bn9 hm]; rfl
    dsimp only
    rw [aZ]
    rw [<- ek]
    cases hk:kin ws ls T2 (i:Int) with
    | false=>exact b8 (stay hk)
    | true=>
     refine b9 ⟨_,rfl,_,rfl,_,i,rfl,?_,trivial,?_⟩
     ·unfold gM
      rw [oC,if_pos (by omega),if_pos (by omega),bq7]
     have bs:=aP9 (n:=ws.length) (S:=T2) (x:=(i:Int)) (by omega) (by omega)
     rw [bq7] at bs
     rw [bs]
     refine⟨trivial,T2 ++ [(i:Int)],true,_,_,rfl,fun x hx=>br8 _ (sub2 x hx),fun U sU hU x hx=>?_,(fun z=>by cases z),fun _=>?_⟩
     ·rcases bo6.mp hx with hx | hx
      ·exact le2 U sU hU x hx
      ·rw [bo2.mp hx]
       refine bu6 fun hn=>?_
       have:=aa3 hk (le2 U sU hU) hn
       rw [sU (i:Int) hr] at this; cases this
     ·have lt:((rng ws.length).filter fun z=>!decide (z ∈ T2 ++ [(i:Int)])).length < ((rng ws.length).filter fun z=>!decide (z ∈ T2)).length:=by
       have n1:((rng ws.length).filter fun z=>!decide (z ∈ T2 ++ [(i:Int)])).Nodup:=(aa5 _).filter _
       have n2:(i:Int) ∉ (rng ws.length).filter fun z=>!decide (z ∈ T2 ++ [(i:Int)]):=fun z=>by
        have:=(bp3.mp z).2
        rw [bn4 (br0 _ (List.mem_singleton_self _))] at this; cases this
       have:=(bu0.mpr ⟨n2,n1⟩).length_le_of_subset (l₂:=(rng ws.length).filter fun z=>!decide (z ∈ T2)) fun z hz=>by
        rcases bo3.mp hz with e | hz
        ·rw [e]; exact bp3.mpr ⟨hr,by rw [bn9 hm]; rfl⟩
        ·have h2:=bp3.mp hz
         refine bp3.mpr ⟨h2.1,?_⟩
         rw [bn9 fun w=>?_]; rfl
         rw [bn4 (br8 _ w)] at h2; exact absurd h2.2 (by decide)
       rw [bp8] at this
       omega
      cases g2 with
      | true=>have:=h1 rfl; omega
      | false=>have e:=(h0 rfl).1; rw [e] at lt ⊢; exact lt
  ·rintro ρ ⟨T2,g2,y5,y6,rfl,sub2,le2,h0,h1⟩
   rw [dQ,aZ,bq7] at h0
   cases g2 with
   | true=>exact⟨_,by have:=h1 rfl; rw [if_pos rfl]; omega,T2,true,y5,y6,rfl,sub2,le2,(fun z=>by cases z),rfl⟩
   | false=>
    obtain ⟨e,sh2⟩:=h0 rfl
    subst e
    refine⟨_,by rw [if_pos rfl,if_neg (by decide)]; omega,T2,false,y5,y6,rfl,sub2,le2,(fun _ h hh=>?_),rfl⟩
    have hm:=eG.mp hh
    have:=sh2 h.toNat (by omega)
    rwa [show ((h.toNat:Nat):Int)=h by omega] at this
noncomputable def u5:bK:=fun xs Q=>∃ ws ls x ns,xs = [b7 ws ls,x]/\Wb ws ls/\dO x ns/\(∀ x ∈ ns,x ∈ rng ws.length)/\Q (.bl (kE ws ls ns))
noncomputable def ae5:aI:=(bF (dA (aB bT (a6 (cS (cR (aB u4 (a6 (a5 0) (a6 (a5 1) a9)))) [none] (bO 0) (eQ (jZ (a5 0))) (a5 0)) a9)) (qC (.int 0))))
theorem aZ2:bY ae5 ["web","seeds"] u5:=by
 rintro xs Q ⟨ws,ls,x,ns,rfl,wb,hx,inn,q⟩
 have few:=wb.few
 refine⟨_,rfl,_,rfl,ws,ls,x,ns,rfl,wb,hx,inn,fun T sh sub le=>?_⟩
 refine⟨_,rfl,(fun z=>by cases z),by rw [oC]; omega,fun i acc=>acc.length=(((rng ws.length).take i).filter fun z=>!decide (z ∈ T)).length,rfl,?_,?_⟩
 ·rintro i y acc hy e
  unfold fQ at hy
  rw [bo8] at hy
  cases hz:(rng ws.length)[i]? with
  | none=>rw [hz] at hy; cases hy
  | some z=>
   rw [hz] at hy
   cases hy
   have tk:=kX (p:=fun z=>!decide (z ∈ T)) hz
   refine⟨_,rfl,_,rfl,?_⟩
   show if (!decide (z ∈ T))=true then _ else _
   cases hm:decide (z ∈ T) with
   | true=>
    rw [hm] at tk
    refine b8 ?_
    dsimp only
    rw [tk,e]; exact congrArg List.length (br6 _).symm
   | false=>
    rw [hm] at tk
    refine b9 ⟨_,rfl,trivial,?_⟩
    dsimp only
    rw [tk,bo0,bo0,e]; rfl
 ·intro acc e
  rw [oC,br5 (by rw [dM]; exact bo7 _)] at e
  refine⟨_,_,rfl,rfl,.inl ⟨_,_,rfl,rfl,trivial,?_⟩⟩
  have ef:kE ws ls ns=decide ((acc.length:Int)=0):=by
   rw [bt3,bv3,ae3 sh sub le,e]
   constructor
   ·intro a
    rw [bx7.mpr fun z hz=>by rw [bn4 (a z hz)]; decide]; rfl
   ·intro z h hh
    have nl:(rng ws.length).filter (fun z=>!decide (z ∈ T)) = []:=List.eq_nil_of_length_eq_zero (by omega)
    have:=bx7.mp nl h hh
    simpa using this
  rw [ef] at q
  exact q
noncomputable def aZ3 (K:PySem.W.Frag):aI:=(aD (bL (eQ (aT (mR K "tuple" (a5 0)))) (bF (qC (.bl false))) bR)
 (aD (b6 2 (nW (qC (.int 1))))
 (aD (dJ (cR (a5 0)) (bO 3)
  (aD (bL (gP (eQ (aT (aB oB (a6 (a5 3) a9)))) (gP (aT (qLe (a5 3) (a5 2))) (aT (qE (a5 3) (a5 1))))) (bF (qC (.bl false))) bR)
  (b6 2 (a5 3))))
 (bF (qC (.bl true))))))
noncomputable def u6:bK:=fun xs Q=>∃ (c:Int) (n:Nat),xs = [.int c,.int n]/\n<=40/\∀ S,b4 n S=true->Q (.tup (intz S))
noncomputable def ae6:aI:=(aD (bL (aT (dA (bW (a5 0) (qC (.int 2))) (qC (.int 1)))) (bF (aB eS (a6 (cS (iY (a5 1)) [none,some 0] (bO 0) (aT (dA (aX9 (aI9 (a5 1) (cA (a5 0) (qC (.int 1)))) (qC (.int 1))) (qC (.int 1)))) (a5 0)) a9))) bR)
 (bF (aB eS (a6 (cS (iY (a5 1)) [none,some 0] (bO 0) (aT (jI (bW (aB i7 (a6 (a5 1) (a6 (cA (a5 0) (qC (.int 90))) a9))) (qC (.int 3))) (qC (.int 0)))) (a5 0)) a9))))
theorem zK {b:Bool}{A B:Prop} (a:A) (c:B):if b=true then A else B:=by
 cases b
 ·exact c
 ·exact a
theorem aZ4:bY ae6 ["number","many"] u6:=by
 rintro xs Q ⟨c,n,rfl,hn,q⟩
 have st:∀ (i:Nat) (acc:List PV) (A:List Int),acc=intz A->fI (i:Int) A->∃ A2,acc ++ [PV.int (0+(i:Int))]=intz A2/\fI ((i+1:Nat):Int) A2:=fun i acc A e u=>by
  refine⟨A ++ [(i:Int)],by rw [e,dW,bB5]; rfl,List.pairwise_append.mpr ⟨u.up,bq2 _ _,fun x hx y hy=>?_⟩,fun x hx=>?_,?_⟩
  ·rw [bo2.mp hy]; exact (u.inn x hx).2
  ·rcases bo6.mp hx with hx | hx
   ·have:=u.inn x hx; omega
   ·rw [bo2.mp hx]; omega
  ·rw [bo0,br1]; have:=u.len; omega
 refine⟨_,rfl,_,_,rfl,rfl,(by show (0:Int) < 2; decide),.inl ⟨_,_,rfl,rfl,_,rfl,zK ?_ ?_⟩⟩
 ·refine⟨_,rfl,_,rfl,by omega,by omega,by rw [dQ]; omega,fun i acc=>∃ A,acc=intz A/\fI (i:Int) A,⟨[],rfl,fI.nil⟩,?_,?_⟩
  ·rintro i y acc hy ⟨A,e,u⟩
   obtain ⟨rfl,hi⟩:=iG hy
   refine⟨_,rfl,_,rfl,_,_,rfl,rfl,_,_,rfl,rfl,?_,_,_,rfl,rfl,.inl ⟨_,_,rfl,rfl,_,rfl,zK ⟨_,rfl,trivial,st i acc A e u⟩ ⟨A,e,u.skip⟩⟩⟩
   show (0:Int)<=0+(i:Int)+1
   omega
  ·rintro acc ⟨A,rfl,u⟩
   rw [dQ] at u
   have u:fI (n:Int) A:=by rw [bq7] at u; exact u
   exact⟨⟨_,_,rfl,rfl,bJ _,trivial,q A u.set⟩,fun ns z=>by cases z⟩
 ·refine⟨_,rfl,_,rfl,by omega,by omega,by rw [dQ]; omega,fun i acc=>∃ A,acc=intz A/\fI (i:Int) A,⟨[],rfl,fI.nil⟩,?_,?_⟩
  ·rintro i y acc hy ⟨A,e,u⟩
   obtain ⟨rfl,hi⟩:=iG hy
   have hi:i < n:=by rw [bq7] at hi; exact hi
   refine⟨_,rfl,_,rfl,_,_,rfl,rfl,_,_,rfl,?_,?_,fun z z0=>⟨_,_,rfl,rfl,(by show (0:Int) < 3; decide),_,_,rfl,rfl,_,rfl,zK ⟨_,rfl,trivial,st i acc A e u⟩ ⟨A,e,u.skip⟩⟩⟩
   ·show (0:Int)<=0+(i:Int)+90; omega
   ·show 0+(i:Int)+90<=1000; omega
  ·rintro acc ⟨A,rfl,u⟩
   rw [dQ] at u
   have u:fI (n:Int) A:=by rw [bq7] at u; exact u
   exact⟨⟨_,_,rfl,rfl,bJ _,trivial,q A u.set⟩,fun ns z=>by cases z⟩
section
variable {ws : List Int} {ls : List (Int × Int)} {ns S : List Int}
noncomputable def eL (S:List Int) (h:Int):List Int:=S.filter fun z=>!decide (z ∈ [h])
theorem mZ {h x:Int}:x ∈ eL S h ↔ x ∈ S/\x ≠ h:=by unfold eL; rw [bp3]; simp
theorem u7 {n:Nat}{h:Int} (hs:b4 n S=true):b4 n (eL S h)=true:=tJ hs _
end
noncomputable def aZ5:aI:=(aD (b6 2 (aB u3 (a6 (a5 0) a9)))
 (aD (dJ (cR (a5 1)) (bO 3)
  (bL (aT (qE (aB bT (a6 (cS (cR (bE (a5 2) (a5 3))) [none,some 1] (bO 0) (aT (q2 (pZ true) (a5 0) (a5 1))) (a5 0)) a9)) (bE (bE (a5 0) (qC (.int 0))) (a5 3)))) (bF (qC (.bl false))) bR))
 (bF (qC (.bl true)))))
theorem aZ6 (n:Nat):b4 n (rng n)=true:=tP.set ⟨ab5 n,fun x hx=>eG.mp hx⟩
end Core
namespace L2
open PySem PySem.Spec PyProof.Rows
noncomputable def ae7 (K:PySem.W.Frag) (a:Addr) (n:Nat):It:=
 ⟨fun i H=>(∃ xs,aN K H a xs/\xs.length=n)/\i < n,fun i H x H'=>H'=H/\∀ xs,aN K H a xs->xs[n - 1 - i]? = some x,fun i H=>i=n⟩
theorem aZ7 {P:Program}{w:World}{K:PySem.W.Frag}{tg:Expr} (a it:Addr) (n:Nat):j9 P w K tg (ae7 K a n) [it] it (fun i h=>h.IsRevIter it a ((n:Int) - 1 - (i:Int))):=by
 refine⟨by simp,fun i h st b hb=>?_,fun i h h' st k=>st.at fun o e=>k it (by simp) o e,?_,?_,fun _ _ _ _ _ st q=>wpAny_pyIter_revIter st q⟩
 ·obtain rfl:b=it:=by simpa using hb
  obtain ⟨o,e,c,d⟩:=st
  exact⟨o,e,fun v z=>by rw [d] at z; cases z⟩
 ·intro X hP hw hK hc i pins s σ H E I hf st hg
  subst hP hw hK
  obtain ⟨⟨xs,hq,hl⟩,hi⟩:=hg
  obtain ⟨its,rv,p,hz⟩:=I.list hq
  have lv:=rv.length
  have hx:xs[n - 1 - i]? = some (xs[n - 1 - i]'(by omega)):=bo1 (by omega)
  obtain ⟨u,hu,ru⟩:=rv.get hx
  obtain ⟨f0,f1,f2,f3,f4,f5⟩:=hf it (by simp)
  have e0:(n:Int) - 1 - (i:Int)=((n - 1 - i:Nat):Int):=by omega
  rw [e0] at st
  refine wpAny_pyNext_rev_item st p.isList (x:=u) (by simpa using hu) fun h' st' sb=>?_
  have I1:a8 X pins σ H { s with heap:=h' }:=I.turned (t':=s.toks) (fun b o hb e=>(sb.2 b hb).trans e) f0 f1 f3 f4 f5
  have e1:((n - 1 - i:Nat):Int) - 1=(n:Int) - 1 - ((i+1:Nat):Int):=by omega
  rw [e1] at st'
  obtain ⟨o,e,c,d⟩:=id st'
  exact⟨u,rfl,rG (s:={ s with heap:=h' }) e c d (by decide) ⟨_,H,I1,ru,⟨rfl,fun ys hy=>by rw [I.list_inj hy hq]; exact hx⟩,st',fun b hb=>(hf b hb).1⟩⟩
 ·intro X hP hw hK hc i pins s σ H E I hf st hg
  subst hP hw hK
  have hg:i=n:=hg
  subst hg
  obtain ⟨f0,f1,f2,f3,f4,f5⟩:=hf it (by simp)
  rw [show (i:Int) - 1 - (i:Int) = -1 by omega] at st
  exact wpAny_pyNext_rev_end (I.ok.hd hc) st fun h' eb=>⟨rfl,I.turned (t':=s.toks) (fun b o hb e=>eb b o hb e) f0 f1 f3 f4 f5⟩
section
variable {X : Cx}
noncomputable def ae8 (K:PySem.W.Frag) (ta:TA):TI:=fun σ H R=>ta σ H fun vs H1=>∃ a xs,vs = [.ref a]/\aN K H1 a xs/\R (ae7 K a xs.length) H1
theorem aZ8 {tg:Expr}{a:Expr}{ta:TA}{p pos:Pos} (hg:Gl X "reversed") (hm:X.mg "reversed" = none) (ha:PA X [a] ta) (hs:starEach [a] X.env = [(false,eval a X.env)]:=by rfl) :
  PI X tg (.Call (.Name "reversed" p) [a] [] pos) (ae8 X.K ta):=by
 intro pins s σ H R I h
 refine Call_ (jU I hg hm PyProof.Rows.boot_reversed (bt6 (aQ (ha pos pins s σ H _ I h) fun us s1 ⟨vs,H1,I1,r1,q1⟩=>?_) (by rw [hs]; rfl) (by rfl)))
 obtain ⟨a',xs,e,h1,q⟩:=q1
 subst e
 cases r1 with
 | cons r rr=>
  cases rr
  cases r
  obtain ⟨us,rv,p1,_⟩:=I1.list h1
  have lv:=rv.length
  refine call_reversed_list p1.isList ?_
  have st:∀ t:Nat,(s1.heap.push (revObj a' ((us.toArray.size:Int) - 1))).IsRevIter s1.heap.objs.size a' ((xs.length:Int) - 1 - (0:Nat)):=fun _=>by
   rw [bn5,<- lv]
   exact⟨_,bp7 _ rfl,rfl,by rw [show (xs.length:Int) - 1 - (0:Nat)=(xs.length:Int) - 1 by omega]; rfl⟩
  refine wpAny_pyIter_revIter (st 0) ?_
  refine⟨s1.heap.objs.size,[s1.heap.objs.size],_,_,H1,rfl,I1.kept (t':=s1.toks) fun b o e=>bn6 _ e,aZ7 a' _ xs.length,st 0,fun c hc=>?_,q⟩
  obtain rfl:c=s1.heap.objs.size:=by simpa using hc
  exact I1.fpOk (bo7 _) (I1.hok.fresh (bo7 _))
end
end L2
namespace PP
open PySem L2
section
variable {X : Cx} {σ : St} {H : Hp} {te : aH} {R : It → Hp → Prop} {a : Expr} {p2 pos : Pos}
noncomputable def zL (te:aH):gB:=fun ρ Q=>te ρ fun x g=>∃ xs,x = .lst xs/\g ≠ .rd/\Q xs.reverse (sN g xs)
theorem aZ9 (h:LI X (zL te) σ H R):ae8 X.K (jB (LE X te) kI) σ H R:=by
 obtain ⟨W,ρ,Q,px,q,k⟩:=h
 refine⟨W,ρ,_,px,q,?_⟩
 rintro v H1 x g s r ⟨xs,rfl,hg,q⟩
 have px1:=px.mono s
 have tw:∀ a,W a->∃ o,H1 a=some o/\iW o=true:=fun a z=>(px1.wm a z).2
 obtain ⟨a,us,rfl,m,ea,r⟩:=r.sqL
 have wa : ¬ W a:=by
  cases g with
  | fr=>exact (px.new m).1
  | nw=>exact m.1
  | sh=>exact m
  | rd=>exact absurd rfl hg
 have lr:=r.length
 have ha:∀ W' H',Ev W H1 W' H'->aN X.K H' a us:=fun W' H' e=>aN.of (e _ _ ea wa).1
 have rr:=mO px (fun z=>absurd z hg) r
 refine⟨a,us,rfl,aN.of ea,k _ _ _ _ s ⟨fun W' H' i e hi=>⟨⟨us,ha W' H' e,rfl⟩,?_⟩,fun W' H' i v H2 e y hi=>?_,fun W' H' e=>?_⟩ q⟩
 ·rw [List.length_reverse] at hi; omega
 ·rw [List.length_reverse] at hi
  obtain ⟨rfl,y⟩:=y
  obtain ⟨x,hx,rx⟩:=rr.get (y us (ha W' _ e))
  refine⟨aG.refl _,x,?_,rx.keep (e.keep tw)⟩
  rw [List.getElem?_reverse hi,<- lr]
  exact hx
 ·show xs.reverse.length=us.length
  rw [List.length_reverse]; omega
theorem ba0 {tg:Expr} (hm:X.mg "reversed" = none) (ha:QE X a te) (hg:Gl X "reversed":=by rfl) (hs:starEach [a] X.env = [(false,eval a X.env)]:=by rfl):QI X tg (.Call (.Name "reversed" p2) [a] [] pos) (zL te):=qF (aZ8 hg hm (cW ha dP hs) hs) fun _ _ _=>aZ9
end
end PP
namespace Core
open PySem L2 PP
noncomputable def sA (ws:List Int) (ls:List (Int × Int)) (ns R:List Int):Prop:=ad6 ws ls ns R=true/\hZ ws ls (ns ++ R)
end Core
namespace L2
open PySem PySem.Spec PyProof.Rows PP
section
variable {prog : Program} {w : World} {A : Around} {R : Result → Shared → Prop} {I S : Addr} {n : Nat} {l : Addr} {its : Array Value} {s0 : Shared} {bt : Nat → Nat → Bool}
noncomputable abbrev at_ (s:Shared) (h:Heap) (k:Nat):Shared:={ s with heap:=h,toks:=k }
end
end L2
namespace Core
open PySem L2 PP
noncomputable def FB (L:List (List Int)) (f:List Int->Int) (r:List Int):Prop:=∃ i,L[i]? = some r/\(∀ (j:Nat) (s:List Int),j < i->L[j]? = some s->f s < f r)/\∀ s ∈ L,f s<=f r
noncomputable def fU (n:Nat) (ls:List (Int × Int)):Prop:=(∀ l ∈ ls,0<=l.1/\l.1 < l.2/\l.2 < (n:Int))/\ls.length<=1700/\ls.Pairwise kY
noncomputable def gS (S:List Int) (l:Int × Int):Bool:=decide (l.1 ∈ S) && decide (l.2 ∈ S)
theorem ba1 {ls:List (Int × Int)} (h:ls.Pairwise kY):ls.Nodup:=h.imp fun {a b} z e=>by subst e; unfold kY at z; omega
noncomputable def zM (r c:Int) (l:Int × Int):Bool:=decide (0<=l.1) && (decide (l.1 < r) && (decide (0<=l.2) && decide (l.2 < c)))
noncomputable def ba2 (l:Int × Int):List (Int × Int):=[(l.1 - 1,l.2),(l.1,l.2 - 1),(l.1,l.2+1),(l.1+1,l.2)]
noncomputable def zN (r c:Int) (l:Int × Int):List (Int × Int):=(ba2 l).filter (zM r c)
theorem iM:∀ {l m:List Int},l.Nodup->(∀ x ∈ l,x ∈ m)->l.length<=m.length
 | [],_,_,_=>br9 _
 | a :: r,m,nd,h=>by
  have hm:=h a bo4
  have:=iM (l:=r) (m:=m.erase a) (bu0.mp nd).2 fun x hx=>(List.mem_erase_of_ne (show x ≠ a from fun e=>(bu0.mp nd).1 (by rw [<- e]; exact hx))).mpr (h x (bo5 _ hx))
  rw [List.length_erase_of_mem hm] at this
  have:=List.length_pos_of_mem hm
  rw [bp8]; omega
section
variable {ls : List (Int × Int)} {n : Nat} {B : List Int}
noncomputable def ins (ls:List (Int × Int)) (S:List Int) (h:Int):Nat:=((aO ls h).filter fun x=>decide (x ∈ S)).length
noncomputable def Two (ls:List (Int × Int)) (S:List Int):Prop:=∀ h ∈ S,2<=ins ls S h
theorem ba3 {S:List Int}{h:Int} (nd:(aO ls h).Nodup) (t:2<=ins ls S h):∃ a b,a ∈ aO ls h/\b ∈ aO ls h/\a ∈ S/\b ∈ S/\a ≠ b:=by
 unfold ins at t
 have n2:=nd.filter (fun x=>decide (x ∈ S))
 have mem:∀ x ∈ (aO ls h).filter fun x=>decide (x ∈ S),x ∈ aO ls h/\x ∈ S:=fun x hx=>⟨(bp3.mp hx).1,bs3 (bp3.mp hx).2⟩
 cases e:(aO ls h).filter fun x=>decide (x ∈ S) with
 | nil=>rw [e] at t; simp at t
 | cons x r=>
  cases r with
  | nil=>rw [e] at t; simp at t
  | cons y z=>
   rw [e] at n2 mem
   have h1:=mem x bo4
   have h2:=mem y (bo5 _ bo4)
   exact⟨x,y,h1.1,h2.1,h1.2,h2.2,fun z=>(bu0.mp n2).1 (by rw [z]; exact bo4)⟩
end
section
variable {ls : List (Int × Int)} {B : List Int}
structure eV (ls:List (Int × Int)):Prop where
 lt:∀ l ∈ ls,l.1 < l.2
 ord:ls.Pairwise kY
theorem eV.nnd (f:eV ls) (h:Int):(aO ls h).Nodup:=ab4 f.lt f.ord
theorem eV.irr (f:eV ls) (h:Int):h ∉ aO ls h:=fun z=>by
 rcases L2.eD.mp z with z | z <;> exact absurd (f.lt _ z) (Int.lt_irrefl _)
end
noncomputable def u8 (d:Int):Int:=if d - 1 > 0 then d - 1 else 0
noncomputable def zO (ls:List (Int × Int)) (S:List Int):Prop:=∀ U,Two ls U->(∀ x ∈ U,x ∈ S)->U = []
theorem fU.fit {n:Nat}{ls:List (Int × Int)} (lk:fU n ls):eV ls:=⟨fun l hl=>(lk.1 l hl).2.1,lk.2.2⟩
noncomputable def oN (L:List Int) (h:Int) (l:Int × Int):Bool:=decide (h ∈ [l.1,l.2]) && (decide (l.1 ∈ L) && decide (l.2 ∈ L))
theorem ae9 {L:List Int}{h:Int} (hh:h ∈ L):∀ {ls:List (Int × Int)},(∀ l ∈ ls,l.1 ≠ l.2)->(ls.filter (oN L h)).length=ins ls L h
 | [],_=>rfl
 | l :: r,ne=>by
  have ih:=ae9 hh (ls:=r) fun m hm=>ne m (bo5 _ hm)
  have e:aO (l :: r) h=((if l.1=h then [l.2] else []) ++ (if l.2=h then [l.1] else [])) ++ aO r h:=rfl
  have n0:=ne l bo4
  unfold ins at ih ⊢
  rw [e,List.filter_append,bo0,<- ih]
  by_cases a:l.1=h
  ·have b : ¬ l.2=h:=fun z=>n0 (a.trans z.symm)
   have a1:l.1 ∈ L:=by rw [a]; exact hh
   have a2:h ∈ [l.1,l.2]:=by rw [a]; exact bo4
   rw [if_pos a,if_neg b,br6]
   by_cases c:l.2 ∈ L
   ·rw [List.filter_cons_of_pos (by unfold oN; rw [bn4 a2,bn4 a1,bn4 c]; rfl),List.filter_cons_of_pos (by simpa using c),bp8]
    show _=1+_
    omega
   ·rw [bB1 (by unfold oN; rw [bn9 c,by9,by9]; decide),bB1 (by simpa using c)]
    show _=0+_
    omega
  ·by_cases b:l.2=h
   ·have a1:l.2 ∈ L:=by rw [b]; exact hh
    have a2:h ∈ [l.1,l.2]:=by rw [b]; exact bo5 _ bo4
    rw [if_neg a,if_pos b,List.nil_append]
    by_cases c:l.1 ∈ L
    ·rw [List.filter_cons_of_pos (by unfold oN; rw [bn4 a2,bn4 a1,bn4 c]; rfl),List.filter_cons_of_pos (by simpa using c),bp8]
     show _=1+_
     omega
    ·rw [bB1 (by unfold oN; rw [bn9 c,Bool.false_and,by9]; decide),bB1 (by simpa using c)]
     show _=0+_
     omega
   ·have a2:h ∉ [l.1,l.2]:=fun z=>by
     simp only [bo3,bp2,bs6] at z
     rcases z with z | z
     ·exact a z.symm
     ·exact b z.symm
    rw [if_neg a,if_neg b,bB1 (by unfold oN; rw [bn9 a2,Bool.false_and]; decide)]
    show _=0+_
    omega
noncomputable def keep2 (ls:List (Int × Int)) (L:List Int):List Int:=L.filter fun h=>decide (2<=ins ls L h)
end Core
namespace L2
open PySem PySem.Spec PyProof.Rows SO
noncomputable abbrev kk (l:Int × Int):List aE:=[Sum.inl l.1,Sum.inl l.2]
theorem ba4 {α β:Type}{R:α->β->Prop}{xs ys:List α} (h:xs.Perm ys):∀ {ks:List β},Paired R xs ks->∃ ks',ks'.Perm ks/\Paired R ys ks':=by
 induction h with
 | nil=>intro ks r; exact⟨ks,List.Perm.refl _,r⟩
 | cons v _ ih=>
  intro ks r
  cases r with
  | cons r t=>
   obtain ⟨xs',p,r'⟩:=ih t
   exact⟨_ :: xs',p.cons _,.cons r r'⟩
 | swap u v l=>
  intro xs r
  cases r with
  | cons r t=>cases t with
   | cons r2 t2=>exact⟨_,List.Perm.swap _ _ _,.cons r2 (.cons r t2)⟩
 | trans _ _ ih1 ih2=>
  intro xs r
  obtain ⟨x1,p1,r1⟩:=ih1 r
  obtain ⟨x2,p2,r2⟩:=ih2 r1
  exact⟨x2,p2.trans p1,r2⟩
theorem ba5 {α β:Type}{R:α->β->Prop}:∀ {xs:List α}{ys:List β},Paired R xs ys->∀ y ∈ ys,∃ x ∈ xs,R x y
 | _,_,.nil,y,h=>nomatch h
 | _,_,.cons r p,y,h=>by
  rcases bo3.mp h with rfl | h
  ·exact⟨_,bo4,r⟩
  ·obtain ⟨x,hx,rx⟩:=ba5 p y h
   exact⟨x,bo5 _ hx,rx⟩
theorem af0 {α β:Type}{R:α->β->Prop}:∀ {xs:List α}{ys:List β},Paired R xs ys->∀ x ∈ xs,∃ y ∈ ys,R x y
 | _,_,.nil,y,h=>nomatch h
 | _,_,.cons r p,y,h=>by
  rcases bo3.mp h with rfl | h
  ·exact⟨_,bo4,r⟩
  ·obtain ⟨x,hx,rx⟩:=af0 p y h
   exact⟨x,bo5 _ hx,rx⟩
end L2
namespace Core
open PySem L2 PP
inductive r6 (r c:Int) (S:List (Int × Int)):Int × Int->Prop
 | seed {x:Int × Int}:x ∈ S->r6 r c S x
 | kin {x a b:Int × Int}:zM r c x=true->a ∈ zN r c x->b ∈ zN r c x->a ≠ b->r6 r c S a->r6 r c S b->r6 r c S x
noncomputable def nbC (r c:Int) (P:List (Int × Int)) (x:Int × Int):Nat:=(P.filter fun p=>decide (x ∈ zN r c p)).length
structure Wk (r c:Int) (S K P:List (Int × Int)):Prop where
 nd:K.Nodup
 ndP:P.Nodup
 sub:∀ x ∈ P,x ∈ K
 brn:∀ x ∈ K,r6 r c S x
 sd:∀ x ∈ S,x ∈ K
 bd:∀ x ∈ K,zM r c x=true
 low:∀ x,x ∉ K->nbC r c P x < 2
end Core
namespace L2
open PySem PySem.Spec PyProof.Rows SO
noncomputable abbrev kn (ns:List Int):List aE:=ns.map Sum.inl
end L2
namespace Core
open PySem L2 PP
structure Bx where
 t:Int
 l:Int
 b:Int
 r:Int
deriving DecidableEq
noncomputable def Bx.k (x:Bx):List Int:=[x.t,x.l,x.b,x.r]
noncomputable def okX (x:Bx):Prop:=x.t<=x.b/\x.l<=x.r
noncomputable def inX (x:Bx) (p:Int × Int):Prop:=x.t<=p.1/\p.1<=x.b/\x.l<=p.2/\p.2<=x.r
noncomputable def af1 (x a:Int × Int):Prop:=(a.1=x.1/\(a.2=x.2 - 1 ∨ a.2=x.2+1)) ∨ (a.2=x.2/\(a.1=x.1 - 1 ∨ a.1=x.1+1))
noncomputable def Clo (B:Bx) (U:Int × Int->Prop):Prop:=∀ x a b,inX B x->af1 x a->af1 x b->a ≠ b->U a->U b->U x
section
variable {B : Bx} {U : Int × Int → Prop}
variable {t l b r : Int}
section
variable (cl : Clo B U) {p1 p2 : Int} (u : U (p1, p2)) (ip : inX B (p1, p2))
include cl u ip
end
end
noncomputable abbrev bn1:=Int × Int
noncomputable abbrev bxP (x:Bx):PV:=.tup (intz x.k)
section
variable {ns : List Int} {a r c z t l : Int} {Q : PV → Prop} (q : ∀ x : Bx, Q (bxP x))
include q
end
end Core
namespace L2
open PySem PySem.Spec PyProof.Rows
noncomputable def ba6 (sp:Sp) (t:TA) (i:Nat):TB:=fun D Ex σ H=>t σ H fun vs H1=>sp vs H1 (fun v H2=>D.nx (σ.set i (some v)) H2) Ex
section
variable {X : Cx} {k : Nat} {f : Addr} {fd : FuncData} {ps : List Str} {sp : Sp} {x z : Str} {p cp pos zp : Pos} {e : Expr} {es : List Expr} {t : TA} {i : Nat}
theorem ba7 (F:dD X.prog X.w X.K X.mg X.base (fG X.prog X.w) k f fd ps sp) (hr:cL k X.A) (hg:Gl X x) (hm:X.mg x=some (.ref f)) (hk:PySem.W.keepIn X.K (.ref f)=true) (hb:jC X.K fd ps []) (ha:∀ E,PA (X.wish E) (e :: es) t)
  (hN:X.N.Nodup) (hi:X.N[i]? = some z) (hz:X.env.scope.names.lookup z=some .local)
  (hdb:(x == ("__debug__" : Str))=false:=by decide) (he:starEach (e :: es) X.env=(false,eval e X.env) :: starEach es X.env:=by rfl) (hpl:(backTo cp (starEach es X.env)).any (·.1)=false:=by rfl) (hsw:swapsWith (.Call (.Name x p) (e :: es) [] cp) (some (.Name z zp)) pos.line X.env=pure false:=by rfl) :
  PB X [.Assign [.Name z zp] (.Call (.Name x p) (e :: es) [] cp) pos] (ba6 sp t i):=by
 intro pins s σ H D Ex I h
 refine wpAny_execs_cons (wpAny_Assign_Name ?_ hsw)
 refine wpAny_Call_Name_kw (oV I hg hm ?_ hdb)
 refine PySem.W.callWith_K (h₀:=X.base) I.ok.mod.kin hk (aQ (ha (XB X pins σ Ex) cp pins s σ H _ (I.wish _) h) fun us s1 h1=>⟨?_,?_⟩) he hpl
 ·obtain ⟨_,_,I1,_⟩:=h1
  exact I1.kIn
 ·obtain ⟨vs,H1,I1,r,q⟩:=h1
  have I1:=I1.unwish
  have hl:us.length=ps.length:=by rw [<- r.length]; exact F.len _ _ _ _ q
  have bd:=hb s1 us I1.kIn (by rw [br6]; exact hl)
  rw [br6] at bd
  refine wpAny_call (codeAny_mono (F.run X.A X.stack s1 H1 ⟨us,[]⟩ us vs _ Ex hr I1.env0 bd r q) fun rs s' hq=>?_)
  cases rs with
  | error ev=>exact⟨H1,s1,I1,hq⟩
  | ok fl=>
   cases fl with
   | ret u=>
    obtain ⟨v,H2,I2,rv,q2⟩:=I1.after hq
    exact rE I2 hN hi (.inl hz) rv (fun s3 I3=>wpAny_execs_nil ⟨_,H2,I3,q2⟩) (.inr hz)
   | next=>exact False.elim hq
   | brk=>exact False.elim hq
   | cont=>exact False.elim hq
end
end L2
namespace PP
open PySem L2
section
variable {X : Cx} {e : Expr} {es : List Expr} {tr : dI} {p2 cp pos zp : Pos}
noncomputable def af2 (i:Nat) (p:eJ) (t:dI):oF:=fun D Ep ρ=>t ρ fun xs=>p Ep (xs.map (·.1)) fun z=>D.nx (ρ.set i (some (.sh true z)))
theorem ba8 (i:Nat) {k j:Nat}{x z:Str}{ps:List Str}{p:eJ} (d:cC X.prog X.w X.K X.mg X.base k x ps p) (hr:cL j X.A) (hN:X.N.Nodup) (ha:∀ E,QA (X.wish E) (e :: es) tr) (hkj:k<=j:=by decide) (hg:Gl X x:=by rfl) (hi:X.N[i]? = some z:=by rfl) (hz:X.env.scope.names.lookup z=some .local:=by rfl) (hdb:(x == ("__debug__" : Str))=false:=by decide)
  (he:starEach (e :: es) X.env=(false,eval e X.env) :: starEach es X.env:=by rfl) (hpl:(backTo cp (starEach es X.env)).any (·.1)=false:=by rfl) (hsw:swapsWith (.Call (.Name x p2) (e :: es) [] cp) (some (.Name z zp)) pos.line X.env=pure false:=by rfl):QB X [.Assign [.Name z zp] (.Call (.Name x p2) (e :: es) [] cp) pos] (af2 i p tr):=by
 obtain ⟨f,fd,F,b,kp,m⟩:=d.ex
 refine pbI (ba7 (t:=LA X tr) F (hr.mono hkj) hg m kp b (fun E=>ha E) hN hi hz hdb he hpl hsw) fun D Ex σ H h=>?_
 obtain ⟨W,ρ,D',Ep,px,q,k,ke⟩:=h
 refine⟨W,ρ,_,px,q,fun vs H1 xs s1 r q1=>⟨_,_,Ep,r.any,q1,fun v H' x s2 r2 q2=>?_,fun n C H' s2 z1 z2=>ke n C H' (s1.trans s2) z1 z2⟩⟩
 have s3:=s1.trans s2
 exact k.nx W _ H' _ (Ev.same s3) ((px.mono s3).setSh (g:=true) (r2.same (aG.refl _) fun a za=>px.new (s1.free za))) q2
end
end PP
namespace Core
open PySem L2 PP
noncomputable def r9:bK:=fun xs Q=>∃ (ms:List Int) (n:Nat),xs = [.tup (intz ms),.int n]/\Q (.bl (b4 n ms))
noncomputable abbrev af3 (K:PySem.W.Frag):aI:=aZ3 K
theorem ba9 {K:PySem.W.Frag} (kt:PySem.W.kitOne K (.type "tuple") (.type "tuple")=some true):bY (af3 K) ["found","many","last","hearth"] r9:=by
 rintro xs Q ⟨ms,n,rfl,q⟩
 refine⟨_,rfl,_,_,rfl,kt,_,rfl,b8 ?_⟩
 refine⟨_,rfl,trivial,?_⟩
 refine⟨_,rfl,_,rfl,o8 (.inl rfl),fun i ρ=>∃ (l:Int) (y3:Option Slot),ρ = [some (.sh (flat (.tup (intz ms))) (.tup (intz ms))),si n,si l,y3]/\(ms.take i).Pairwise (· < ·)/\(∀ x ∈ ms.take i,0<=x/\x < (n:Int)/\x<=l)/\-1<=l/\(l = -1 ∨ ∃ j,j < i/\ms[j]? = some l),⟨-1,none,rfl,(by rw [List.take_zero]; exact bv2),(fun x hx=>by rw [List.take_zero] at hx; cases hx),bD6 _,.inl rfl⟩,?_,?_⟩
 ·rintro i y ρ hy ⟨l,y3,rfl,pw,inn,l1,lo⟩
  obtain ⟨h,rfl,hh⟩:=fP hy
  refine i3 ?_
  refine⟨_,rfl,h,rfl,_,rfl,b8 ⟨_,rfl,_,rfl,_,_,rfl,rfl,_,rfl,?_⟩⟩
  show if decide (h<=l)=true then _ else _
  by_cases c1:h<=l
  ·rw [bn4 c1]
   have:b4 n ms=false:=by
    cases hs:b4 n ms with
    | false=>rfl
    | true=>
     exfalso
     have b:=(cU hs).2 h (bp0 hh)
     rcases lo with lo | ⟨j,hj,ej⟩
     ·omega
     ·obtain ⟨i1,e1⟩:=bn8.mp ej
      obtain ⟨i2,e2⟩:=bn8.mp hh
      have:=List.pairwise_iff_getElem.mp (fH (cU hs).1) j i i1 i2 hj
      rw [e1,e2] at this; omega
   rw [this] at q
   exact b9 ⟨trivial,q⟩
  rw [bn9 c1]
  refine b8 ⟨_,rfl,_,rfl,_,_,rfl,rfl,_,rfl,?_⟩
  show if decide (h >= (n:Int))=true then _ else _
  by_cases c2:h >= (n:Int)
  ·rw [bn4 c2]
   have:b4 n ms=false:=by
    cases hs:b4 n ms with
    | false=>rfl
    | true=>exfalso; have b:=(cU hs).2 h (bp0 hh); omega
   rw [this] at q
   exact b9 ⟨trivial,q⟩
  rw [bn9 c2]
  have e:ms.take (i+1)=ms.take i ++ [h]:=by rw [bs1,hh]; rfl
  refine b8 ⟨_,rfl,trivial,h,_,rfl,?_,?_,by omega,.inr ⟨i,by omega,hh⟩⟩
  ·rw [e]
   exact List.pairwise_append.mpr ⟨pw,bq2 _ _,fun x hx y hy=>by rw [bo2.mp hy]; have:=inn x hx; omega⟩
  ·intro x hx
   rw [e] at hx
   rcases bo6.mp hx with hx | hx
   ·have:=inn x hx; omega
   ·rw [bo2.mp hx]; omega
 ·rintro ρ ⟨l,y3,rfl,pw,inn,l1,lo⟩
  rw [aZ,bs5] at pw inn
  have:b4 n ms=true:=tP.set ⟨pw,fun x hx=>⟨(inn x hx).1,(inn x hx).2.1⟩⟩
  rw [this] at q
  exact⟨trivial,q⟩
noncomputable def u9:bK:=fun xs Q=>∃ ws ls S,xs = [b7 ws ls,.tup (intz S)]/\Wb ws ls/\(∀ x ∈ S,x ∈ rng ws.length)/\Q (.bl (decide (stay ws ls S=S)))
noncomputable abbrev af4:aI:=aZ5
theorem bb0:bY af4 ["web","block","beside","hearth"] u9:=by
 rintro xs Q ⟨ws,ls,S,rfl,wb,inn,q⟩
 refine⟨_,rfl,ws,ls,rfl,wb,trivial,?_⟩
 refine⟨_,rfl,_,rfl,(fun _=>qP S),fun i ρ=>(∀ x ∈ S.take i,lY ws ls S x=true)/\∃ y,ρ = [some (.sh (flat (b7 ws ls)) (b7 ws ls)),some (.sh (flat (.tup (intz S))) (.tup (intz S))),some (.sh true (.lst (dC ws.length ls))),y],⟨fun x hx=>(by rw [List.take_zero] at hx; cases hx),none,rfl⟩,?_,?_⟩
 ·rintro i y ρ hy ⟨inv,y0,rfl⟩
  obtain ⟨h,rfl,hi⟩:=fP hy
  have hb:=eG.mp (inn h (bp0 hi))
  have gw:ws[h.toNat]? = some (ws.getD h.toNat 0):=by
   rw [bq0,bo1 (by omega)]; rfl
  have ix:L2.atI (intz ws) h=some (.int (ws.getD h.toNat 0)):=by
   have:=lH (xs:=intz ws) (j:=h.toNat) (by rw [bo8,gw]; rfl)
   rwa [show ((h.toNat:Nat):Int)=h by omega] at this
  refine i3 ?_
  refine⟨_,rfl,_,rfl,_,_,_,rfl,rfl,o9 hb.1 hb.2,_,rfl,(fun z=>by cases z),?_,fun j acc=>acc=intz (((aO ls h).take j).filter fun x=>!decide (x ∈ S)),rfl,?_,?_⟩
  ·rw [aZ]; have:=lM ls h; have:=wb.most; omega
  ·rintro j z acc hz rfl
   obtain ⟨n,rfl,hn⟩:=fP hz
   have tk:=kX (p:=fun z=>!decide (z ∈ S)) hn
   refine⟨_,rfl,_,rfl,n,S,rfl,rfl,_,rfl,?_⟩
   show if (!decide (n ∈ S))=true then _ else _
   by_cases hm:n ∈ S
   ·rw [bn4 hm] at tk ⊢
    refine b8 ?_
    dsimp only
    rw [tk]; exact congrArg intz (br6 _).symm
   ·rw [bn9 hm] at tk ⊢
    refine b9 ⟨_,rfl,trivial,?_⟩
    dsimp only
    rw [tk,dW]; rfl
  ·rintro acc rfl
   rw [aZ,bs5]
   refine⟨_,_,rfl,rfl,_,rfl,_,_,_,rfl,rfl,rfl,_,rfl,_,_,_,rfl,rfl,ix,_,_,rfl,rfl,_,rfl,?_⟩
   rw [aZ,aV4]
   dsimp only
   have st:lY ws ls S h=decide (lX (aO ls h) S < ws.getD h.toNat 0):=rfl
   by_cases c:lX (aO ls h) S < ws.getD h.toNat 0
   ·rw [bn9 (by omega)]
    refine b8 ⟨fun x hx=>?_,_,rfl⟩
    rw [bs1,hi] at hx
    rcases bo6.mp hx with hx | hx
    ·exact inv x hx
    ·rw [bo2.mp hx,st]; exact bn4 c
   ·rw [bn4 (by omega)]
    have:decide (stay ws ls S=S)=false:=bn9 fun e=>by
     have:=bw7.mp e h (bp0 hi)
     rw [st,bv3] at this; exact c this
    rw [this] at q
    exact b9 ⟨trivial,q⟩
 ·rintro ρ ⟨inv,y,rfl⟩
  rw [aZ,bs5] at inv
  have:decide (stay ws ls S=S)=true:=bn4 (bw7.mpr inv)
  rw [this] at q
  exact⟨trivial,q⟩
theorem zP {α:Type} (p q:α->Bool):∀ l:List α,(l.filter p).length=(l.filter fun x=>p x && !q x).length+(l.filter fun x=>q x && p x).length
 | []=>rfl
 | a :: r=>by
  have ih:=zP p q r
  rw [bx6,bx6,bx6]
  cases p a <;> cases q a <;> simp <;> omega
section
variable {ls : List (Int × Int)} {n : Nat} {U : List Int} {v : Int}
theorem bb1 (hv:v ∈ U) (ne:∀ l ∈ ls,l.1 ≠ l.2):(ls.filter (gS U)).length=(ls.filter (gS (eL U v))).length+ins ls U v:=by
 rw [<- ae9 hv ne,zP (gS U) (fun l=>decide (v ∈ [l.1,l.2])) ls]
 congr 2
 refine bA9 fun l _=>?_
 unfold gS
 rw [bt3]
 simp only [br3,Bool.not_eq_true',bv3,bB0,mZ,bo3,bp2,bs6,not_or]
 constructor
 ·rintro ⟨⟨a,b⟩,c,d⟩; exact⟨⟨a,fun z=>c z.symm⟩,b,fun z=>d z.symm⟩
 ·rintro ⟨⟨a,c⟩,b,d⟩; exact⟨⟨a,b⟩,fun z=>c z.symm,fun z=>d z.symm⟩
theorem af5 {h:Int} (x:Int) (hx:x ∈ comp ls (eL U v) h):x ∈ comp ls U h:=by
 obtain ⟨h1,h2⟩:=i4.mp hx
 exact i4.mpr ⟨(mZ.mp h1).1,fun W hW hh=>h2 W (fun a ha b hb bS=>hW a ha b hb (mZ.mp bS).1) hh⟩
theorem fV {S:List Int}{h:Int}:h ∈ bD ls S ↔ h ∈ S/\(comp ls S h).head? = some h:=by
 unfold bD qY
 rw [bp3]
 exact⟨fun z=>⟨z.1,@bs3 _ _ z.2⟩,fun z=>⟨z.1,@bn4 _ _ z.2⟩⟩
theorem zQ (hU:b4 n U=true) {h:Int} (hh:h ∈ bD ls U) (ne:h ≠ v):h ∈ bD ls (eL U v):=by
 obtain ⟨h1,h2⟩:=fV.mp hh
 have hb:h ∈ eL U v:=mZ.mpr ⟨h1,ne⟩
 refine fV.mpr ⟨hb,zG (i6 (u7 hU)) (i5 hb) fun x hx=>?_⟩
 have:=(kD (i6 hU) h2).2 x (af5 x hx)
 omega
theorem zR (hU:b4 n U=true):(bD ls U).Nodup:=by
 have:U.Nodup:=(fH (cU hU).1).imp fun h=>bx1 h
 exact this.filter _
theorem bb2 (f:eV ls) (hU:b4 n U=true) (hv:v ∈ U):(bD ls U).length<=(bD ls (eL U v)).length+(if ins ls U v=0 then 1 else 0):=by
 have nd:=zR (ls:=ls) hU
 by_cases hh:v ∈ bD ls U
 ·by_cases i0:ins ls U v=0
  ·rw [if_pos i0]
   have:=iM nd (m:=v :: bD ls (eL U v)) fun x hx=>by
    by_cases e:x=v
    ·rw [e]; exact bo4
    ·exact bo5 _ (zQ hU hx e)
   rw [bp8] at this
   exact this
  ·rw [if_neg i0]
   obtain ⟨w,hw⟩:∃ w,w ∈ (aO ls v).filter fun x=>decide (x ∈ U):=by
    cases e:(aO ls v).filter fun x=>decide (x ∈ U) with
    | nil=>exact absurd (show ins ls U v=0 by unfold ins; rw [e]; rfl) i0
    | cons a r=>exact⟨a,bo4⟩
   obtain ⟨w1,w2⟩:=bp3.mp hw
   have w2:w ∈ U:=bs3 w2
   have wv:w ≠ v:=fun e=>f.irr v (e ▸ w1)
   have wb:w ∈ eL U v:=mZ.mpr ⟨w2,wv⟩
   have cs:=i6 (ls:=ls) (h:=w) (u7 (h:=v) hU)
   obtain ⟨a,ha⟩:∃ a,(comp ls (eL U v) w).head? = some a:=by
    cases e:comp ls (eL U v) w with
    | nil=>have:=i5 (ls:=ls) wb; rw [e] at this; cases this
    | cons a r=>exact⟨a,rfl⟩
   have am:=(kD cs ha).1
   have ab:=qX a am
   have ahd:a ∈ bD ls (eL U v):=fV.mpr ⟨ab,by rw [lA (u7 hU) am wb]; exact ha⟩
   have wc:w ∈ comp ls U v:=jP v (i5 hv) w w1 w2
   have ac:a ∈ comp ls U v:=by rw [<- lA hU wc hv]; exact af5 a am
   have an:a ∉ bD ls U:=fun z=>by
    have h1:=(fV.mp z).2
    rw [lA hU ac hv,(fV.mp hh).2] at h1
    exact (mZ.mp ab).2 (bq3 h1).symm
   have nd2:(a :: (bD ls U).erase v).Nodup:=bu0.mpr ⟨fun z=>an (List.mem_of_mem_erase z),nd.erase v⟩
   have:=iM nd2 (m:=bD ls (eL U v)) fun x hx=>by
    rcases bo3.mp hx with rfl | hx
    ·exact ahd
    ·have h2:=(nd.mem_erase_iff).mp hx
     exact zQ hU h2.2 h2.1
   rw [bp8,List.length_erase_of_mem hh] at this
   have:=List.length_pos_of_mem hh
   omega
 ·have:=iM nd (m:=bD ls (eL U v)) fun x hx=>zQ hU hx fun e=>hh (e ▸ hx)
  omega
noncomputable def mu (ls:List (Int × Int)) (U:List Int):Int:=((ls.filter (gS U)).length:Int) - (U.length:Int)+((bD ls U).length:Int)
theorem af6 (nd:U.Nodup) (hv:v ∈ U):(eL U v).length+1=U.length:=by
 have e:eL U v=U.erase v:=by
  unfold eL
  rw [nd.erase_eq_filter]
  refine bA9 fun x _=>?_
  by_cases h:x=v <;> simp [h]
 rw [e,List.length_erase_of_mem hv]
 have:=List.length_pos_of_mem hv
 omega
theorem bb3 (f:eV ls) (hU:b4 n U=true) (hv:v ∈ U):mu ls U<=mu ls (eL U v)+u8 (ins ls U v:Int):=by
 have a:=bb1 hv (fun l hl=>bx1 (f.lt l hl))
 have b:=bb2 f hU hv
 have c:=af6 ((fH (cU hU).1).imp fun h=>bx1 h) hv
 unfold mu u8
 by_cases i0:ins ls U v=0
 ·rw [if_pos i0] at b
  rw [if_neg (by omega)]; omega
 ·rw [if_neg i0] at b
  by_cases i1:(ins ls U v:Int) - 1 > 0
  ·rw [if_pos i1]; omega
  ·rw [if_neg i1]; omega
theorem zT (f:eV ls):∀ (k:Nat) (T:List Int),T.length<=k->b4 n T=true->zO ls T->mu ls T<=0
 | 0,T,hl,_,_=>by
  have:T = []:=bB2.mp (by omega)
  subst this
  have:ls.filter (gS []) = []:=bx7.mpr fun l _=>by simp [gS]
  unfold mu
  rw [this]
  show (0:Int) - 0+((([]:List Int).filter _).length:Int)<=0
  simp
 | k+1,T,hl,hT,no=>by
  by_cases e:T = []
  ·exact zT f k T (by rw [e]; simp) hT no
  ·obtain ⟨v,hv,hi⟩:∃ v,v ∈ T/\ins ls T v < 2:=bu6 fun z=>e (no T (fun h hh=>bC0 fun q=>z ⟨h,hh,q⟩) fun _ h=>h)
   have nd:T.Nodup:=(fH (cU hT).1).imp fun h=>bx1 h
   have bl:=af6 nd hv
   have ih:=zT f k (eL T v) (by omega) (u7 hT) fun U hU sub=>no U hU fun x hx=>(mZ.mp (sub x hx)).1
   have st:=bb3 f hT hv
   have:u8 (ins ls T v:Int)=0:=by unfold u8; rw [if_neg (by omega)]
   omega
end
noncomputable def oO:bK:=fun xs Q=>∃ ws ls,xs = [b7 ws ls]/\Wb ws ls/\Q (.lst (tups (jQ ls (rng ws.length))))
noncomputable def af7:aI:=(bF (aB (tX fun _=>False) (a6 (a5 0) (a6 (aB tV (a6 (a5 0) (a6 (c7 a9) a9))) a9))))
theorem bb4:bY af7 ["web"] oO:=by
 rintro xs Q ⟨ws,ls,rfl,wb,q⟩
 have few:=wb.few
 have e:yV ws.length []=rng ws.length:=bw7.mpr fun x _=>by simp
 have rs:=aZ6 ws.length
 refine⟨_,rfl,_,rfl,by show 0<=1000; decide,rfl,ws,ls,_,[],rfl,.inl rfl,by decide,by omega,ws,ls,_,yV ws.length [],rfl,wb,.inl rfl,?_,fun _=>⟨trivial,?_⟩,fun z=>?_⟩
 ·rw [e,dM]; omega
 ·rw [e]; exact q
 ·rw [e,rs] at z; cases z
noncomputable abbrev Wys:=List (Int × List Int)
section
variable {ls : List (Int × Int)} {l : Int × Int} {n : Nat} {S U : List Int} {h x y : Int}
theorem zU:y ∈ aO (l :: ls) x ↔ y ∈ aO ls x ∨ l=(x,y) ∨ l=(y,x):=by
 rw [L2.eD,L2.eD,bo3,bo3]
 constructor
 ·rintro ((e | e) | (e | e))
  ·exact .inr (.inl e.symm)
  ·exact .inl (.inl e)
  ·exact .inr (.inr e.symm)
  ·exact .inl (.inr e)
 ·rintro ((e | e) | (e | e))
  ·exact .inl (.inr e)
  ·exact .inr (.inr e)
  ·exact .inl (.inl e.symm)
  ·exact .inr (.inl e.symm)
theorem uA (hS:b4 n S=true) (hh:h ∈ S) (hU:fS ls S U) (hu:h ∈ U) (le:∀ x ∈ U,x ∈ S->h<=x):h ∈ bD ls S:=
 fV.mpr ⟨hh,zG (i6 hS) (i5 hh) fun x hx=>le x ((i4.mp hx).2 U hU hu) (qX x hx)⟩
theorem zV (hS:b4 n S=true) (hh:h ∈ bD ls S) (no:h ∉ bD (l :: ls) S):gS S l=true/\(l.1 ∈ comp ls S h ∨ l.2 ∈ comp ls S h):=by
 obtain ⟨h1,h2⟩:=fV.mp hh
 have le:=(kD (i6 hS) h2).2
 refine bu6 fun hn=>no (uA hS h1 (U:=comp ls S h) (fun x hx y hy yS=>?_) (i5 h1) fun x hx _=>by have:=le x hx; omega)
 rcases zU.mp hy with e | e | e
 ·exact jP x hx y e yS
 ·refine absurd ⟨?_,.inl (by rw [e]; exact hx)⟩ hn
  unfold gS; rw [e,br3]; exact⟨bn4 (qX x hx),bn4 yS⟩
 ·refine absurd ⟨?_,.inr (by rw [e]; exact hx)⟩ hn
  unfold gS; rw [e,br3]; exact⟨bn4 yS,bn4 (qX x hx)⟩
theorem zW (hS:b4 n S=true) {a b z:Int} (ha:a ∈ bD ls S) (hb:b ∈ bD ls S) (za:z ∈ comp ls S a) (zb:z ∈ comp ls S b):a=b:=by
 obtain ⟨a1,a2⟩:=fV.mp ha
 obtain ⟨b1,b2⟩:=fV.mp hb
 rw [<- lA hS za a1] at a2
 rw [<- lA hS zb b1,a2] at b2
 exact bq3 b2
theorem af8 (hS:b4 n S=true) {a b:Int} (ha:a ∈ bD ls S) (hb:b ∈ bD ls S) (la:l.1 ∈ comp ls S a) (lb:l.2 ∈ comp ls S b) (lt:a<=b):a ∈ bD (l :: ls) S:=by
 obtain ⟨a1,a2⟩:=fV.mp ha
 obtain ⟨b1,b2⟩:=fV.mp hb
 have lea:=(kD (i6 hS) a2).2
 have leb:=(kD (i6 hS) b2).2
 refine uA hS a1 (U:=comp ls S a ++ comp ls S b) (fun x hx y hy yS=>?_) (bo6.mpr (.inl (i5 a1))) fun x hx _=>?_
 ·rcases zU.mp hy with e | e | e
  ·rcases bo6.mp hx with z | z
   ·exact bo6.mpr (.inl (jP x z y e yS))
   ·exact bo6.mpr (.inr (jP x z y e yS))
  ·rw [e] at lb; exact bo6.mpr (.inr lb)
  ·rw [e] at la; exact bo6.mpr (.inl la)
 ·rcases bo6.mp hx with z | z
  ·have:=lea x z; omega
  ·have:=leb x z; omega
theorem af9 (hS:b4 n S=true) {a b:Int} (ha:a ∈ bD ls S) (hb:b ∈ bD ls S) (la:l.1 ∈ comp ls S a) (lb:l.2 ∈ comp ls S b) (lt:b<=a):b ∈ bD (l :: ls) S:=by
 obtain ⟨a1,a2⟩:=fV.mp ha
 obtain ⟨b1,b2⟩:=fV.mp hb
 have lea:=(kD (i6 hS) a2).2
 have leb:=(kD (i6 hS) b2).2
 refine uA hS b1 (U:=comp ls S a ++ comp ls S b) (fun x hx y hy yS=>?_) (bo6.mpr (.inr (i5 b1))) fun x hx _=>?_
 ·rcases zU.mp hy with e | e | e
  ·rcases bo6.mp hx with z | z
   ·exact bo6.mpr (.inl (jP x z y e yS))
   ·exact bo6.mpr (.inr (jP x z y e yS))
  ·rw [e] at lb; exact bo6.mpr (.inr lb)
  ·rw [e] at la; exact bo6.mpr (.inl la)
 ·rcases bo6.mp hx with z | z
  ·have:=lea x z; omega
  ·have:=leb x z; omega
theorem bb5 (hS:b4 n S=true) {a b:Int} (ha:a ∈ bD ls S) (na:a ∉ bD (l :: ls) S) (hb:b ∈ bD ls S) (nb:b ∉ bD (l :: ls) S):a=b:=by
 rcases (zV hS ha na).2 with la | la <;> rcases (zV hS hb nb).2 with lb | lb
 ·exact zW hS ha hb la lb
 ·rcases Int.le_total a b with z | z
  ·exact absurd (af8 hS ha hb la lb z) na
  ·exact absurd (af9 hS ha hb la lb z) nb
 ·rcases Int.le_total a b with z | z
  ·exact absurd (af9 hS hb ha lb la z) na
  ·exact absurd (af8 hS hb ha lb la z) nb
 ·exact zW hS ha hb la lb
theorem bb6 (hS:b4 n S=true):(bD ls S).length<=(bD (l :: ls) S).length+(if gS S l=true then 1 else 0):=by
 have nd:=zR (ls:=ls) hS
 by_cases ex:∃ a,a ∈ bD ls S/\a ∉ bD (l :: ls) S
 ·obtain ⟨a,ha,na⟩:=ex
  rw [if_pos (zV hS ha na).1]
  have:=iM nd (m:=a :: bD (l :: ls) S) fun x hx=>by
   by_cases nx:x ∈ bD (l :: ls) S
   ·exact bo5 _ nx
   ·rw [bb5 hS hx nx ha na]; exact bo4
  rwa [bp8] at this
 ·have:=iM nd (m:=bD (l :: ls) S) fun x hx=>bu6 fun z=>ex ⟨x,hx,z⟩
  omega
theorem zX (hS:b4 n S=true):S.Nodup:=(fH (cU hS).1).imp fun h=>bx1 h
theorem zY (hS:b4 n S=true):∀ ls:List (Int × Int),S.length<=(bD ls S).length+(ls.filter (gS S)).length
 | []=>by
  refine bs2 (iM (zX hS) (m:=bD [] S) fun x hx=>uA hS hx (U:=[x]) (fun a _ b hb _=>?_) bo4 fun y hy _=>?_) (bt9 _ _)
  ·rcases L2.eD.mp hb with e | e <;> cases e
  ·rw [bo2.mp hy]; exact bD6 _
 | l :: ls=>by
  have ih:=zY hS ls
  have:=bb6 (ls:=ls) (l:=l) hS
  rw [bx6]
  split <;> rename_i e
  ·rw [if_pos e] at this; rw [bp8]; omega
  ·rw [if_neg e] at this; omega
noncomputable def gT (ls:List (Int × Int)) (l:Int × Int):List (Int × Int):=ls.filter fun m=>!decide (m=l)
theorem oP {m:Int × Int}:m ∈ gT ls l ↔ m ∈ ls/\m ≠ l:=by
 unfold gT; rw [bp3,Bool.not_eq_true',bB0]
theorem ag0:∀ {ls:List (Int × Int)},l ∈ ls->ls.Nodup->(gT ls l).length+1<=ls.length
 | m :: r,hl,nd=>by
  unfold gT
  rw [bx6]
  rcases bo3.mp hl with e | e
  ·subst e
   rw [bn4 rfl]
   have:=bt1 (fun m=>!decide (m=l)) r
   simp only [bp8,Bool.not_true,bq4,bv1]
   omega
  ·have ih:=ag0 e (bu0.mp nd).2
   unfold gT at ih
   split
   ·rw [bp8,bp8]; omega
   ·rw [bp8]; omega
theorem bb7 (t:l.1 ∈ U ↔ l.2 ∈ U) (c:fS (gT ls l) S U):fS ls S U:=fun x hx y hy yS=>by
 by_cases e:l=(x,y)
 ·rw [e] at t; exact t.mp hx
 ·by_cases e2:l=(y,x)
  ·rw [e2] at t; exact t.mpr hx
  ·refine c x hx y ?_ yS
   rcases L2.eD.mp hy with z | z
   ·exact L2.eD.mpr (.inl (oP.mpr ⟨z,fun q=>e q.symm⟩))
   ·exact L2.eD.mpr (.inr (oP.mpr ⟨z,fun q=>e2 q.symm⟩))
theorem zZ (c:fS ls S U):fS (gT ls l) S U:=fun x hx y hy yS=>by
 refine c x hx y ?_ yS
 rcases L2.eD.mp hy with z | z
 ·exact L2.eD.mpr (.inl (oP.mp z).1)
 ·exact L2.eD.mpr (.inr (oP.mp z).1)
theorem bb8 (t:∀ U,fS (gT ls l) S U->(l.1 ∈ U ↔ l.2 ∈ U)):bD (gT ls l) S=bD ls S:=by
 have e:∀ h,comp (gT ls l) S h=comp ls S h:=fun h=>by
  refine bA9 fun x _=>?_
  rw [bt3]
  constructor
  ·intro z; exact @bn4 _ (Classical.propDecidable _) fun U hU hh=>(@bs3 _ (Classical.propDecidable _) z) U (zZ hU) hh
  ·intro z; exact @bn4 _ (Classical.propDecidable _) fun U hU hh=>(@bs3 _ (Classical.propDecidable _) z) U (bb7 (t U hU) hU) hh
 unfold bD qY
 refine bA9 fun x _=>?_
 rw [e]
noncomputable def eW (n:Nat) (ls:List (Int × Int)):Prop:=ls.length+(bD ls (rng n)).length=n
theorem m7 (n:Nat):b4 n (rng n)=true:=by
 have:=aU3 n fun _=>true
 rwa [bw7.mpr fun _ _=>rfl] at this
theorem bb9 (w:eW n ls) (nd:ls.Nodup) (hl:l ∈ ls) : ¬ ∀ U,fS (gT ls l) (rng n) U->(l.1 ∈ U ↔ l.2 ∈ U):=fun t=>by
 have h1:=zY (m7 n) (gT ls l)
 rw [bb8 t,dM] at h1
 have h2:=bt1 (gS (rng n)) (gT ls l)
 have h3:=ag0 hl nd
 unfold eW at w
 omega
end
noncomputable abbrev gU:=List (Int × Option Int)
noncomputable def bM (ls:List (Int × Int)) (h:Int) (e:Option Int):List Int:=(aO ls h).filter fun x=>!decide (some x=e)
theorem iN {ls:List (Int × Int)}{h x:Int}{e:Option Int}:x ∈ bM ls h e ↔ x ∈ aO ls h/\some x ≠ e:=by
 unfold bM; rw [bp3,Bool.not_eq_true',bB0]
structure gV (n:Nat) (ls:List (Int × Int)) (P:gU) (t:Nat):Prop where
 nd:(P.map (·.1)).Nodup
 inn:∀ p ∈ P,p.1 ∈ rng n
 par:∀ (i:Nat) (h e:Int),P[i]? = some (h,some e)->∃ (j:Nat) (q:Option Int),j < i/\j < t/\P[j]? = some (e,q)/\e ∈ aO ls h
 done:∀ (i:Nat) (h:Int) (e:Option Int),i < t->P[i]? = some (h,e)->∀ x ∈ aO ls h,e=some x ∨ (x,some h) ∈ P
 root:∀ h,(h,none) ∈ P ↔ h ∈ bD ls (rng n)
structure Rt (n:Nat) (ls:List (Int × Int)) (P:gU):Prop where
 nd:(P.map (·.1)).Nodup
 mem:∀ h,h ∈ P.map (·.1) ↔ h ∈ rng n
 par:∀ (i:Nat) (h e:Int),P[i]? = some (h,some e)->∃ (j:Nat) (q:Option Int),j < i/\P[j]? = some (e,q)/\e ∈ aO ls h
 done:∀ h e,(h,e) ∈ P->∀ x ∈ aO ls h,e=some x ∨ (x,some h) ∈ P
 root:∀ h,(h,none) ∈ P ↔ h ∈ bD ls (rng n)
theorem lB {P:gU} (nd:(P.map (·.1)).Nodup) {i j:Nat}{h:Int}{e e':Option Int} (hi:P[i]? = some (h,e)) (hj:P[j]? = some (h,e')):i=j/\e=e':=by
 have h1:(P.map (·.1))[i]? = some h:=by rw [bo8,hi]; rfl
 have h2:(P.map (·.1))[j]? = some h:=by rw [bo8,hj]; rfl
 have hl:i < (P.map (·.1)).length:=(bn8.mp h1).1
 have e0:i=j:=(bD4 hl nd).mp (h1.trans h2.symm)
 subst e0
 rw [hi] at hj
 exact⟨rfl,by cases hj; rfl⟩
theorem i8 {P:gU}{p:Int × Option Int} (h:p ∈ P):∃ i:Nat,P[i]? = some p:=bz7.mp h
theorem nA {P:gU} (nd:(P.map (·.1)).Nodup) {h:Int}{e e':Option Int} (hi:(h,e) ∈ P) (hj:(h,e') ∈ P):e=e':=by
 obtain ⟨i,hi⟩:=i8 hi
 obtain ⟨j,hj⟩:=i8 hj
 exact (lB nd hi hj).2
section
variable {n : Nat} {ls : List (Int × Int)} {P : gU} {t : Nat}
theorem gV.root_of (B:gV n ls P t) {l:Int × Int} (lm:∀ (i:Nat) (h e:Int),P[i]? = some (h,some e)->l ≠ (h,e)/\l ≠ (e,h)):∀ (i:Nat) (x:Int) (q:Option Int),P[i]? = some (x,q)->∃ r,r ∈ bD ls (rng n)/\∀ U,fS (gT ls l) (rng n) U->(x ∈ U ↔ r ∈ U):=by
 intro i
 induction i using Nat.strongRecOn with
 | ind i ih=>
  intro x q hi
  cases q with
  | none=>exact⟨x,(B.root x).mp (bp0 hi),fun _ _=>Iff.rfl⟩
  | some e=>
   obtain ⟨j,q,ji,_,hj,ee⟩:=B.par i x e hi
   obtain ⟨r,hr,hu⟩:=ih j ji e q hj
   obtain ⟨l1,l2⟩:=lm i x e hi
   have en:e ∈ aO (gT ls l) x:=by
    rcases L2.eD.mp ee with z | z
    ·exact L2.eD.mpr (.inl (oP.mpr ⟨z,fun q=>l1 q.symm⟩))
    ·exact L2.eD.mpr (.inr (oP.mpr ⟨z,fun q=>l2 q.symm⟩))
   refine⟨r,hr,fun U hU=>(Iff.intro (fun z=>hU x z e en (B.inn _ (bp0 hj))) fun z=>hU e z x (nM en) (B.inn _ (bp0 hi))).trans (hu U hU)⟩
theorem gV.fresh (B:gV n ls P t) (w:eW n ls) (f:eV ls) {h:Int}{e:Option Int} (ht:P[t]? = some (h,e)) {c:Int} (hc:c ∈ bM ls h e):c ∉ P.map (·.1):=by
 intro hin
 obtain ⟨cn,ce⟩:=iN.mp hc
 obtain ⟨⟨c',q⟩,hm,rfl⟩:=bp6.mp hin
 obtain ⟨i,hi⟩:=i8 hm
 have hc':h ∈ aO ls c':=nM cn
 have no1:∀ (i:Nat) (g:Int),P[i]? = some (g,some c')->g ≠ h:=fun i g hg z=>by
  subst z
  exact ce (lB B.nd hg ht).2
 have no2:∀ (i:Nat) (g:Int),P[i]? = some (g,some h)->g ≠ c':=fun i g hg z=>by
  obtain ⟨j,q,_,jt,hj,_⟩:=B.par i g h hg
  have:=(lB B.nd hj ht).1
  omega
 obtain ⟨l,hl,hlc⟩:∃ l,l ∈ ls/\(l=(h,c') ∨ l=(c',h)):=by
  rcases L2.eD.mp cn with z | z
  ·exact⟨_,z,.inl rfl⟩
  ·exact⟨_,z,.inr rfl⟩
 have lm:∀ (i:Nat) (g e:Int),P[i]? = some (g,some e)->l ≠ (g,e)/\l ≠ (e,g):=fun i g e hg=>by
  constructor <;> intro z <;> rcases hlc with y | y <;> rw [z] at y <;> cases y
  ·exact no1 i _ hg rfl
  ·exact no2 i _ hg rfl
  ·exact no2 i _ hg rfl
  ·exact no1 i _ hg rfl
 obtain ⟨r1,hr1,u1⟩:=B.root_of lm i c' q hi
 obtain ⟨r2,hr2,u2⟩:=B.root_of lm t h e ht
 have hS:=m7 n
 have hh:h ∈ rng n:=B.inn _ (bp0 ht)
 have cc:c' ∈ comp ls (rng n) h:=jP h (i5 hh) c' cn (B.inn _ hm)
 have k1:=(u1 _ (zZ jP)).mp cc
 have k2:=(u2 _ (zZ (jP (ls:=ls) (S:=rng n) (h:=h)))).mp (i5 hh)
 have e1:r1=r2:=by
  have c1:=lA hS k1 hh
  have c2:=lA hS k2 hh
  refine zW hS hr1 hr2 (z:=r1) (i5 (fV.mp hr1).1) ?_
  rw [c2]; exact k1
 refine bb9 w (ba1 f.ord) hl fun U hU=>?_
 have:=(u1 U hU).trans ((by rw [e1]:r1 ∈ U ↔ r2 ∈ U).trans (u2 U hU).symm)
 rcases hlc with y | y <;> rw [y]
 ·exact this.symm
 ·exact this
theorem gV.step (B:gV n ls P t) (w:eW n ls) (f:eV ls) (ir:∀ h x,x ∈ aO ls h->x ∈ rng n) {h:Int}{e:Option Int} (ht:P[t]? = some (h,e)):gV n ls (P ++ (bM ls h e).map fun c=>(c,some h)) (t+1):=by
 have tl:t < P.length:=(bn8.mp ht).1
 have km:∀ p ∈ (bM ls h e).map (fun c=>(c,some h)),∃ c ∈ bM ls h e,p=(c,some h):=fun p hp=>let ⟨c,h1,h2⟩:=bp6.mp hp; ⟨c,h1,h2.symm⟩
 refine⟨?_,fun p hp=>?_,fun i g e' hi=>?_,fun i g e' it hi x hx=>?_,fun g=>?_⟩
 ·rw [bp1,bv5,bu1]
  have e0:(bM ls h e).map ((fun p:Int × Option Int=>p.1) ∘ fun c=>(c,some h))=bM ls h e:=List.map_id'' (fun _=>rfl) _
  rw [e0]
  exact⟨B.nd,(f.nnd h).filter _,fun a ha b hb z=>B.fresh w f ht hb (by rw [<- z]; exact ha)⟩
 ·rcases bo6.mp hp with z | z
  ·exact B.inn p z
  ·obtain ⟨c,hc,rfl⟩:=km p z
   exact ir h c (iN.mp hc).1
 ·by_cases il:i < P.length
  ·rw [bv9 il] at hi
   obtain ⟨j,q,ji,jt,hj,en⟩:=B.par i g e' hi
   exact⟨j,q,ji,by omega,by rw [bv9 (by omega)]; exact hj,en⟩
  ·rw [List.getElem?_append_right (by omega)] at hi
   obtain ⟨c,hc,z⟩:=km _ (bp0 hi)
   cases z
   exact⟨t,e,by omega,by omega,by rw [bv9 tl]; exact ht,nM (iN.mp hc).1⟩
 ·rw [bv9 (by omega)] at hi
  by_cases e1:i=t
  ·subst e1
   rw [ht] at hi
   cases hi
   by_cases z:some x=e
   ·exact .inl z.symm
   ·exact .inr (bo6.mpr (.inr (bp6.mpr ⟨x,iN.mpr ⟨hx,z⟩,rfl⟩)))
  ·exact (B.done i g e' (by omega) hi x hx).imp id fun z=>bo6.mpr (.inl z)
 ·rw [<- B.root g]
  refine⟨fun z=>?_,fun z=>bo6.mpr (.inl z)⟩
  rcases bo6.mp z with z | z
  ·exact z
  ·obtain ⟨c,_,z⟩:=km _ z
   cases z
theorem gV.start:gV n ls ((bD ls (rng n)).map fun h=>(h,none)) 0:=by
 have hS:=m7 n
 refine⟨?_,fun p hp=>?_,fun i g e hi=>?_,fun i g e it=>absurd it (by omega),fun g=>?_⟩
 ·rw [bv5,show (bD ls (rng n)).map ((fun p:Int × Option Int=>p.1) ∘ fun h=>(h,none))=bD ls (rng n) from List.map_id'' (fun _=>rfl) _]
  exact zR hS
 ·obtain ⟨h,hh,rfl⟩:=bp6.mp hp
  exact (fV.mp hh).1
 ·obtain ⟨h,_,z⟩:=bp6.mp (bp0 hi)
  cases z
 ·refine⟨fun z=>?_,fun z=>bp6.mpr ⟨g,z,rfl⟩⟩
  obtain ⟨h,hh,z⟩:=bp6.mp z
  cases z
  exact hh
theorem gV.len (B:gV n ls P t):P.length<=n:=by
 have:=iM B.nd (m:=rng n) fun x hx=>by
  obtain ⟨p,hp,rfl⟩:=bp6.mp hx
  exact B.inn p hp
 rwa [bn7,dM] at this
theorem gV.all (B:gV n ls P P.length):Rt n ls P:=by
 have hS:=m7 n
 have par:∀ (i:Nat) (h e:Int),P[i]? = some (h,some e)->∃ (j:Nat) (q:Option Int),j < i/\P[j]? = some (e,q)/\e ∈ aO ls h:=fun i h e hi=>let ⟨j,q,a,_,b,c⟩:=B.par i h e hi; ⟨j,q,a,b,c⟩
 have done:∀ (h:Int) (e:Option Int),(h,e) ∈ P->∀ x ∈ aO ls h,e=some x ∨ (x,some h) ∈ P:=fun h e hm=>by
  obtain ⟨i,hi⟩:=i8 hm
  exact B.done i h e (bn8.mp hi).1 hi
 refine⟨B.nd,fun h=>⟨fun z=>?_,fun z=>?_⟩,par,done,B.root⟩
 ·obtain ⟨p,hp,rfl⟩:=bp6.mp z
  exact B.inn p hp
 ·have sh:fS ls (rng n) (P.map (·.1)):=fun x hx y hy _=>by
   obtain ⟨⟨x',e⟩,hp,rfl⟩:=bp6.mp hx
   rcases done x' e hp y hy with z | z
   ·subst z
    obtain ⟨i,hi⟩:=i8 hp
    obtain ⟨j,q,_,hj,_⟩:=par i x' y hi
    exact bp6.mpr ⟨_,bp0 hj,rfl⟩
   ·exact bp6.mpr ⟨_,z,rfl⟩
  obtain ⟨r,hr⟩:∃ r,(comp ls (rng n) h).head? = some r:=by
   cases e:comp ls (rng n) h with
   | nil=>have:=i5 (ls:=ls) z; rw [e] at this; cases this
   | cons a r=>exact⟨a,rfl⟩
  have rm:=(kD (i6 hS) hr).1
  have rs:=lA hS rm z
  have hd:r ∈ bD ls (rng n):=fV.mpr ⟨qX _ rm,by rw [rs]; exact hr⟩
  have hc:h ∈ comp ls (rng n) r:=by rw [rs]; exact i5 z
  exact (i4.mp hc).2 _ sh (bp6.mpr ⟨_,(B.root r).mpr hd,rfl⟩)
end
end Core
namespace L2
open PySem PySem.Spec PyProof.Rows SO
theorem bc0 {prog:Program}{w:World}{A:Around}{E:Value->Shared->Prop}{s:Shared}{r:Addr}{Q:Bool->Shared->Prop} (h:Q true s):wpAny (model prog w) A (eqBool (.ref r) (.ref r)) Q E s:=by
 unfold eqBool
 refine bx4 ?_
 rw [if_pos (by simp)]
 exact bn3 (wpAny_rule (bo9 h))
noncomputable def ag1 (K:PySem.W.Frag):List V->Hp->VK->Prop:=fun xs H Q=>∃ (a:Addr) (ys:List V) (key:V->Int),xs = [.ref a]/\aN K H a ys/\ys.length < 64/\(∀ y ∈ ys,∃ b c,y = .ref b/\aM K H b [.int (key y),.ref c])/\(ys.map key).Nodup/\
 ∀ l (zs:List V),H l=none->zs.Perm ys->zs.Pairwise (fun u v=>key u<=key v)->Q (.ref l) (upd H l (.lst zs))
theorem bc1 {X:Cx}:dN X (.builtin "sorted") (ag1 X.K):=by
 intro pins s σ H xs us Q I r h
 obtain ⟨a,ys,key,rfl,hs,h64,hk,nd,q⟩:=h
 obtain ⟨u,rfl,ru⟩:=jV r
 cases ru
 obtain ⟨its,rv,p,hz⟩:=I.list hs
 have hl:=rv.length
 by_cases h2:its.length < 2
 ·refine O8 p.isList h2 ?_
  obtain ⟨e,he⟩:=sortedAll_at s.heap its its.toArray
  have hn:s.heap.objs.size<=s.heap.objs.size+1:=Nat.le_succ _
  refine⟨.ref (s.heap.objs.size+1),upd H (s.heap.objs.size+1) (.lst ys),I.laid (t':=s.toks) (fun _ _=>sortedAll_old) hn ⟨hz,its,e,rv,he⟩,rfl,q _ ys (I.hok.fresh hn) (List.Perm.refl _) ?_⟩
  match ys,hl with
  | [],_=>exact bv2
  | [_],_=>exact bq2 _ _
  | _ :: _ :: _,hl=>simp at hl; omega
 ·obtain ⟨m,F⟩:=I.fr
  have hL:∀ {b:Addr}{k:List V},aM X.K H b k->b ≠ X.env.locals:=fun {b k} z e=>by
   obtain ⟨its',_,⟨ob,e1,c1,_⟩,_⟩:=I.tuple z
   obtain ⟨m',⟨o',es',ep',e2,d2,_⟩,_⟩:=I.loc
   rcases z with (z | ⟨_,z⟩) | ⟨o3,its3,n3,z3,zc,zd,_⟩
   ·rw [e,I.free] at z; cases z
   ·rw [e,I.free] at z; cases z
   ·have:=I.kIn b o3 z3
    rw [e,e2] at this
    cases this
    rw [d2] at zd; cases zd
  refine PySem.W.kat_sorted F (B6 (g:=X.base) (h:=s.heap) (L:=X.env.locals)) p.isList (by omega) (by omega) fun D e1 h' F' N' hD=>?_
  have keep:=I.newsAll (fun p hp=>bo5 _ hp) F' N'
  have one:∀ {b c:Addr}{k:Int},aM X.K H b [.int k,.ref c]->∃ (ob:Obj) (t n:Nat),h'.get? b=some ob/\ob.cls = .type "tuple"/\ob.data = .seq (List.toArray [Value.int k t,.ref c]) n:=fun {b c k} sq=>by
   obtain ⟨us,ru,⟨ob,e1,c1,n1,d1⟩,_⟩:=I.tuple sq
   cases ru with
   | cons r1 t1=>
    cases t1 with
    | cons r2 t2=>
     cases t2
     cases r2
     obtain ⟨tk,rfl⟩:=r1
     exact⟨ob,tk,n1,keep b ob (hL sq) e1,c1,d1⟩
  have look:∀ i,i < ys.length->∃ (b c:Addr) (ob:Obj) (t n:Nat),ys.getD i .non = .ref b/\its.getD i Value.none = .ref b/\h'.get? b=some ob/\ob.data = .seq (List.toArray [Value.int (key (ys.getD i .non)) t,.ref c]) n:=fun i hi=>by
   have hy:ys.getD i .non ∈ ys:=by
    rw [bq0,bo1 hi]; exact List.getElem_mem hi
   obtain ⟨b,c,eb,sq⟩:=hk _ hy
   have rr:=sE i hi rv
   rw [eb] at rr
   have rr:its.getD i Value.none = .ref b:=rr
   obtain ⟨ob,t,n,g1,_,g3⟩:=one sq
   exact⟨b,c,ob,t,n,eb,rr,g1,g3⟩
  have keyU:∀ i j,i < ys.length->j < ys.length->key (ys.getD i .non)=key (ys.getD j .non)->i=j:=fun i j hi hj e=>by
   rw [bq0,bq0,bo1 hi,bo1 hj] at e
   refine (bD4 (by rw [bn7]; exact hi) nd).mp ?_
   rw [bo8,bo8,bo1 hi,bo1 hj]
   exact congrArg some e
  have firsts:∀ {xs:List V}{vs:List Value},aR xs vs->(∀ y ∈ xs,∃ b c,y = .ref b/\aM X.K H b [.int (key y),.ref c])->∃ fs:List Value,PySem.W.KatTups h' vs fs/\fs.length=vs.length/\∀ v ∈ fs,∃ i t,v=Value.int i t:=by
   intro xs vs r
   induction r with
   | nil=>intro _; exact⟨[],PySem.W.KatTups.nil,rfl,fun _ z=>nomatch z⟩
   | @cons x v xs vs rx rt ih=>
    intro hh
    obtain ⟨fs,t1,t2,t3⟩:=ih fun y hy=>hh y (bo5 _ hy)
    obtain ⟨b,c,eb,sq⟩:=hh x bo4
    obtain ⟨ob,t,n,g1,g2,g3⟩:=one sq
    rw [eb] at rx
    cases rx
    exact⟨Value.int (key x) t :: fs,PySem.W.KatTups.cons g1 g2 g3 (by simp) t1,by simp [t2],fun v hv=>(bo3.mp hv).elim (fun z=>⟨_,t,z⟩) (t3 v)⟩
  obtain ⟨fs,t1,t2,t3⟩:=firsts rv hk
  refine PySem.W.kat_kind (T:=.type "int") t1 (by omega) (fun v hv=>?_) (by decide) ?_
  ·obtain ⟨i,t,rfl⟩:=t3 v hv
   exact PySem.W.Looks.now
  let c:Nat->Nat->Bool:=fun i j=>decide (key (ys.getD i .non) < key (ys.getD j .non))
  have O:Srt.sA c:=⟨fun {i j} h=>bn9 (by have:=bs3 h; omega),fun {i j k} h1 h2=>bn9 (by have:=bx3 h1; have:=bx3 h2; omega)⟩
  have ok:=Srt.O5 (n:=its.length) O (by omega)
  refine Srt.cH.run (I:=fun s'=>s'={ s with heap:=h' }) (fun i j C s' hi hj hI hC=>?_) (fun pa s' hR hI=>?_) _ _ rfl ok
  ·subst hI
   obtain ⟨b1,r1,o1,u1,n1,_,g1,g2,g4⟩:=look i (by omega)
   obtain ⟨b2,r2,o2,u2,n2,_,k1,k2,k4⟩:=look j (by omega)
   show wpAny _ _ (keyLt' (tuples' (Value.type "int" != Value.type "tuple")) (its.getD i Value.none) (its.getD j Value.none)) _ _ _
   rw [g1,k1]
   have eT:(Value.type "int" != Value.type "tuple")=true:=by decide
   rw [eT]
   refine PySem.W.kat_lt g2 g4 k2 k4 ?_
   have hC':=hC _ rfl
   have key':PySem.W.KatLex X.prog X.w X.A.in1.in1 true (decide ([Value.int (key (ys.getD i .non)) u1,.ref r1].length < [Value.int (key (ys.getD j .non)) u2,.ref r2].length)) C ([Value.int (key (ys.getD i .non)) u1,.ref r1].zip [Value.int (key (ys.getD j .non)) u2,.ref r2]) 0 { s with heap:=h' }:=by
    refine PySem.W.kat_cons (wpAny_eqBool_int ?_)
    by_cases e:key (ys.getD i .non)=key (ys.getD j .non)
    ·have eb:(key (ys.getD i .non) == key (ys.getD j .non))=true:=by simpa using e
     rw [eb]
     refine PySem.W.kat_yes ?_
     have ij:=keyU i j (by omega) (by omega) e
     subst ij
     rw [g1] at k1
     cases k1
     rw [g2] at k2
     cases k2
     rw [g4] at k4
     cases k4
     refine PySem.W.kat_cons (bc0 ?_)
     refine PySem.W.kat_yes ?_
     have:c i i=false:=bn9 (by omega)
     rw [this] at hC'
     exact hC'
    ·have eb:(key (ys.getD i .non) == key (ys.getD j .non))=false:=by simpa using e
     rw [eb]
     exact PySem.W.kat_no (PySem.W.kat_lt_int hC')
   simpa using key'
  ·subst hI
   obtain ⟨hp,hasc⟩:=hR
   refine PySem.W.KasFin.intro F' N' (PySem.W.UpdF.head fun p hp=>br7 (hD p hp)) fun h2 cc F2 N2=>?_
   have keep2:=I.newsAll (fun p hp=>bo5 _ hp) F2 N2
   have hDn:s.heap.get? D=none:=by
    cases z:s.heap.get? D with
    | none=>rfl
    | some o=>
     obtain ⟨_,n1,n2⟩:=N2 (D,_) bo4
     exact absurd (hD _ (uT n1 n2 z)) (bt0 _)
   have hpl:∀ i ∈ pa.toList,i < ys.length:=fun i hi=>by
    have:=by0.mp (hp.mem_iff.mp hi); omega
   have hp':pa.toList.Perm (List.range ys.length):=by rw [hl]; exact hp
   have pm:=O6 (d:=V.non) ys hp'
   obtain ⟨hDo,hDL,hDb⟩:=N2 (D,_) bo4
   obtain ⟨hHD,I2⟩:=I.laidF (t':=s.toks) (a:=D) (o:=.lst (pa.toList.map fun i=>ys.getD i .non)) hDn keep2 (fun m' hm'=>by
     have e:m'=m:=funext fun nm=>Heap.Ns.agree hm' F.ns nm
     rw [e]; exact F2.ns) ⟨by rw [pm.length_eq]; exact hz,_,cc,wJ rv hpl,hDo⟩
   exact⟨.ref D,_,I2,rfl,q D _ hHD pm (P7 hp hasc fun i j hle=>Int.not_lt.mp (bx3 hle))⟩
end L2
namespace PP
open PySem L2
section
variable {X : Cx} {σ : St} {H : Hp} {Q' : VK} {td tk tx : aH} {e o f : Expr} {tr : dI} {pos p2 apos cpos : Pos}
noncomputable def dY (r:Int × List Int):PV:=.tup [.int r.1,.tup (intz r.2)]
noncomputable def A0:List PV->(PV->Prop)->Prop:=fun xs Q=>∃ rs:List (Int × List Int),xs = [.lst (rs.map dY)]/\rs.length < 64/\(rs.map (·.1)).Nodup/\∀ qs:List (Int × List Int),qs.Perm rs->qs.Pairwise (fun u v=>u.1 < v.1)->Q (.lst (qs.map dY))
noncomputable def oQ (H:Hp):V->Int
 | .ref a=>match H a with
  | some (.tup (.int p :: _))=>p
  | _=>0
 | _=>0
theorem ag2 {K:PySem.W.Frag}{M:Addr->Prop}{H:Hp}:∀ {us:List V}{rs:List (Int × List Int)},Reps K M H us (rs.map dY)->Paired (fun u r=>aK K M H u (dY r)) us rs
 | _,[],.nil=>.nil
 | _,r :: rs,.cons h t=>.cons h (ag2 t)
theorem ag3 {K:PySem.W.Frag}{M:Addr->Prop}{H:Hp}:∀ {us:List V}{rs:List (Int × List Int)},Paired (fun u r=>aK K M H u (dY r)) us rs->Reps K M H us (rs.map dY)
 | _,_,.nil=>.nil
 | _,_,.cons h t=>.cons h (ag3 t)
theorem ag4 {K:PySem.W.Frag}{M:Addr->Prop}{H:Hp}{u:V}{r:Int × List Int} (h:aK K M H u (dY r)):oQ H u=r.1/\∃ b c,u = .ref b/\H b=some (.tup [.int (oQ H u),.ref c]):=by
 obtain ⟨a,us,rfl,e,r1⟩:=h.sqT
 cases r1 with
 | cons h1 t1=>
  cases t1 with
  | cons h2 t2=>
   cases t2
   cases h1
   obtain ⟨b,ws,rfl,_,_⟩:=h2.sqT
   have:oQ H (.ref a)=r.1:=by unfold oQ; dsimp only; rw [e]
   exact⟨this,a,b,rfl,by rw [this]; exact e⟩
theorem A1 {K:PySem.W.Frag}{M:Addr->Prop}{H:Hp}:∀ {us:List V}{rs:List (Int × List Int)},Paired (fun u r=>aK K M H u (dY r)) us rs->us.map (oQ H)=rs.map (·.1)
 | _,_,.nil=>rfl
 | _,_,.cons h t=>by rw [bs8,bs8,A1 t,(ag4 h).1]
theorem bc2 (rs:List (Int × List Int)):flats (rs.map dY)=true:=by
 induction rs with
 | nil=>rfl
 | cons r rs ih=>
  show (flat (dY r) && flats (rs.map dY))=true
  rw [ih,bB9]
  show flats [.int r.1,.tup (intz r.2)]=true
  show (true && (flats (intz r.2) && true))=true
  rw [bJ]; rfl
theorem bc3:iD X A0 (ag1 X.K):=by
 rintro H vs xs Q Q' r ⟨rs,rfl,hl,nd,q⟩ k
 obtain ⟨v,rfl,r1⟩:=r.one
 obtain ⟨a,us,rfl,_,h,r2⟩:=r1.sqL
 have lr:=r2.length
 rw [bn7] at lr
 have pd:=ag2 r2
 have hk:=A1 pd
 refine⟨a,us,oQ H,rfl,aN.of h,by omega,fun y hy=>?_,by rw [hk]; exact nd,fun l zs hl' pm so=>?_⟩
 ·obtain ⟨r,_,hr⟩:=af0 pd y hy
  obtain ⟨_,b,c,rfl,e⟩:=ag4 hr
  exact⟨b,c,rfl,aM.of e⟩
 ·obtain ⟨qs,pq,pz⟩:=ba4 pm.symm pd
  refine k _ _ _ (bP hl' _) (.lst hl' bN (((ag3 pz).flat (bc2 qs)).same (bP hl' _) fun _ z=>z)) (q qs pq ?_)
  have ndq:(qs.map (·.1)).Nodup:=(pq.map _).nodup_iff.mpr nd
  have le:(qs.map (·.1)).Pairwise (· <= ·):=by rw [<- A1 pz,bx0]; exact so
  have:=List.Pairwise.and le ndq
  rw [bx0] at this
  exact this.imp fun z=>Int.lt_iff_le_and_ne.mpr ⟨z.1,z.2⟩
theorem bc4 (B:Bt X.mg) (ha:QA X [e] tr) (hg:Gl X "sorted":=by rfl) (he:starEach [e] X.env=(false,eval e X.env) :: starEach [] X.env:=by rfl) (hpl:(backTo pos (starEach [] X.env)).any (·.1)=false:=by rfl):QE X (.Call (.Name "sorted" p2) [e] [] pos) (aB A0 tr):=
 kU bc1 bc3 hg B.sorted bA3 ha (he:=he) (hpl:=hpl)
noncomputable def A3 (td tk tx:aH):aH:=fun ρ Q=>td ρ fun x _=>∃ ps,x = .dK ps/\tk ρ fun y _=>tx ρ fun z _=>∃ k,y=kP k/\Q ((bV ps k).getD z) .rd
theorem bc5 (h:LE X (A3 td tk tx) σ H Q'):M8 (LE X td) (LE X tk) (LE X tx) σ H Q':=by
 obtain ⟨W,ρ,Q,px,q,k⟩:=h
 refine⟨W,ρ,_,px,q,?_⟩
 rintro v H1 x g s r ⟨ps,rfl,q⟩
 have r0:=r
 cases r with
 | @dK a kvs _ m h e rr=>
  refine⟨a,rfl,.inl ⟨kvs,.inl h⟩,W,ρ,_,px.mono s,q,fun w H2 y g' s2 r2 q2=>⟨W,ρ,_,(px.mono s).mono s2,q2,?_⟩⟩
  rintro w3 H3 z gz s3 r3 ⟨kk,rfl,q⟩
  obtain ⟨a',o',ea,dg,h1,h2⟩:=xE (.inl ⟨ps,kk,rfl,rfl,rfl⟩) (r0.same (s2.trans s3) fun _ z=>z) (r2.same s3 fun _ z=>z)
  cases ea
  refine⟨o',dg,?_⟩
  cases hv:bV ps kk with
  | none=>
   rw [hv] at q
   rw [h1 hv]
   exact k _ _ _ .rd ((s.trans s2).trans s3) (r3.same (aG.refl _) fun _ _=>trivial) q
  | some z'=>
   rw [hv] at q
   obtain ⟨u,rfl,ru⟩:=h2 z' hv
   exact k _ _ _ .rd ((s.trans s2).trans s3) (ru.same (aG.refl _) fun _ _=>trivial) q
theorem bc6 (hu:X.A.units+1 < cLine) (ho:QE X o td) (he:QE X e tk) (hf:QE X f tx) (m:M2 X o "get" apos e f cpos:=by exact⟨rfl,rfl,rfl,rfl⟩):QE X (.Call (.Attribute o "get" apos) [e,f] [] cpos) (A3 td tk tx):=cN (az4 hu ho he hf m) fun _ _ _=>bc5
end
end PP
namespace Core
open PySem L2 PP
theorem fU.inr {n:Nat}{ls:List (Int × Int)} (lk:fU n ls) (x y:Int) (hy:y ∈ aO ls x):y ∈ rng n:=by
 rcases L2.eD.mp hy with z | z
 ·have:=lk.1 _ z; exact eG.mpr ⟨by dsimp only at this; omega,by dsimp only at this; omega⟩
 ·have:=lk.1 _ z; exact eG.mpr ⟨by dsimp only at this; omega,by dsimp only at this; omega⟩
theorem fU.nlen {n:Nat}{ls:List (Int × Int)} (lk:fU n ls) (x:Int):(aO ls x).length<=n:=by
 have:=iM (lk.fit.nnd x) (m:=rng n) fun y hy=>lk.inr x y hy
 rwa [dM] at this
noncomputable def uB:bK:=fun xs Q=>∃ ws ls,xs = [b7 ws ls]/\Wb ws ls/\(eW ws.length ls->Q (.bl true))/\(¬ eW ws.length ls->Q (.bl false))
noncomputable def ag5:aI:=(bF (dA (aB bT (a6 (bE (a5 0) (qC (.int 1))) a9)) (lQ (aB j5 (a6 (a5 0) a9)) (aB bT (a6 (aB oO (a6 (a5 0) a9)) a9)))))
theorem bc7:bY ag5 ["web"] uB:=by
 rintro xs Q ⟨ws,ls,rfl,wb,q1,q2⟩
 refine⟨_,rfl,_,_,_,rfl,rfl,rfl,_,_,rfl,rfl,_,rfl,ws,ls,rfl,_,rfl,ws,ls,rfl,wb,_,_,rfl,rfl,_,_,rfl,rfl,.inl ⟨_,_,rfl,rfl,trivial,?_⟩⟩
 have a:(bX ls).length=ls.length:=bn7 _
 have b:(tups (jQ ls (rng ws.length))).length=(bD ls (rng ws.length)).length:=by rw [eU]; unfold jQ; rw [bn7]
 show Q (.bl (decide (((bX ls).length:Int)=(ws.length:Int) - ((tups (jQ ls (rng ws.length))).length:Int))))
 rw [a,b]
 by_cases w:eW ws.length ls
 ·have:=q1 w
  unfold eW at w
  rw [bn4 (by omega)]; exact this
 ·have:=q2 w
  unfold eW at w
  rw [bn9 (by omega)]; exact this
noncomputable def oR:bK:=fun xs Q=>∃ (n:Nat) (ls:List (Int × Int)) (h:Int) (e:Option Int),xs = [.lst (dC n ls),.int h,kB e]/\0<=h/\h < (n:Int)/\(aO ls h).length<=1000/\Q (.lst (intz (bM ls h e)))
noncomputable def ag6:aI:=(bF (cS (cR (bE (a5 0) (a5 1))) [none,some 2] (bO 0) (aT (q2 zH (a5 0) (a5 1))) (a5 0)))
theorem bc8:bY ag6 ["around","hearth","elder"] oR:=by
 rintro xs Q ⟨n,ls,h,e,rfl,h0,h1,hl,q⟩
 refine⟨_,rfl,_,rfl,_,_,_,rfl,rfl,o9 h0 h1,intz (aO ls h),rfl,(fun z=>by cases z),by rw [aZ]; omega,fun i acc=>acc=intz (((aO ls h).take i).filter fun x=>!decide (some x=e)),rfl,?_,?_⟩
 ·rintro i y acc hy rfl
  obtain ⟨x,rfl,hx⟩:=fP hy
  have tk:=kX (p:=fun x=>!decide (some x=e)) hx
  refine⟨_,rfl,_,rfl,x,e,rfl,rfl,_,rfl,?_⟩
  by_cases z:some x=e
  ·rw [bn4 z.symm]
   refine b8 ?_
   dsimp only
   rw [tk,bn4 z]; exact (br6 _).symm ▸ rfl
  ·rw [bn9 fun y=>z y.symm]
   refine b9 ⟨_,rfl,trivial,?_⟩
   dsimp only
   rw [tk,bn9 z,dW]; rfl
 ·rintro acc rfl
  rw [aZ,br5 (bo7 _)]
  exact⟨trivial,q⟩
noncomputable def A4 (p:Int × Option Int):PV:=.tup [.int p.1,kB p.2]
noncomputable def fW (P:gU):List PV:=P.map A4
theorem nB (P:gU):(fW P).length=P.length:=bn7 _
theorem ag7 {P:gU}{i:Nat}{p:Int × Option Int} (h:P[i]? = some p):L2.atI (fW P) (i:Int)=some (A4 p):=lH (by unfold fW; rw [bo8,h]; rfl)
noncomputable def uC:bK:=fun xs Q=>∃ ws ls,xs = [b7 ws ls]/\Wb ws ls/\fU ws.length ls/\eW ws.length ls/\∀ P,Rt ws.length ls P->Q (.lst (fW P))
noncomputable def ag8:aI:=(mM (aT (qD (a5 3) (aB bT (a6 (a5 2) a9))))
  (aD (b6 4 (bE (bE (a5 2) (a5 3)) (qC (.int 0))))
  (aD (sL 2 (cS (cR (aB oR (a6 (a5 1) (a6 (a5 4) (a6 (bE (bE (a5 2) (a5 3)) (qC (.int 1))) a9))))) [none,some 4] (bO 0) e9 (c7 (a6 (a5 0) (a6 (a5 1) a9)))))
  (b6 3 (cA (a5 3) (qC (.int 1)))))))
noncomputable def ag9:aI:=(aD (bL (eQ (aT (aB uB (a6 (a5 0) a9)))) U3 bR)
 (aD (b6 1 (aB iI (a6 (a5 0) a9)))
 (aD (cZ 2 (cS (cR (aB oO (a6 (a5 0) a9))) [none] (bO 0) e9 (c7 (a6 (bE (a5 0) (qC (.int 0))) (a6 (qC .non) a9)))))
 (aD (b6 3 (qC (.int 0)))
 (aD ag8
 (kS 2))))))
section
variable {ws : List Int} {ls : List (Int × Int)} {E : hG} {s0 : Option Slot} {n : Nat}
theorem ah0 (P:gU):flats (fW P)=true:=by
 induction P with
 | nil=>rfl
 | cons p P ih=>
  show (flat (A4 p) && flats (fW P))=true
  rw [ih,bB9]
  obtain ⟨h,e⟩:=p
  cases e <;> rfl
theorem bc9 (n40:n<=40) (lk:fU n ls) (w:eW n ls) (k:∀ P y3 y4,Rt n ls P->E.nx [s0,some (.sh true (.lst (dC n ls))),some (.own (.lst (fW P))),y3,y4]) {y4:Option Slot} :
  ag8 E [s0,some (.sh true (.lst (dC n ls))),some (.own (.lst (fW ((bD ls (rng n)).map fun h=>(h,none))))),si 0,y4]:=by
 refine⟨fun m ρ=>∃ (P:gU) (t:Nat) (y4:Option Slot),ρ = [s0,some (.sh true (.lst (dC n ls))),some (.own (.lst (fW P))),si t,y4]/\gV n ls P t/\t<=P.length/\m=n - t,⟨_,_,0,y4,rfl,gV.start,br9 _,rfl⟩,?_⟩
 rintro m ρ ⟨P,t,y4,rfl,B,tl,rfl⟩
 have pl:=B.len
 refine⟨_,rfl,_,rfl,_,_,rfl,rfl,_,_,rfl,rfl,_,rfl,?_⟩
 rw [nB]
 by_cases lt:t < P.length
 ·rw [bn4 (by omega)]
  obtain ⟨⟨h,e⟩,ht⟩:∃ p,P[t]? = some p:=⟨_,bo1 lt⟩
  have hr:=eG.mp (B.inn _ (bp0 ht))
  dsimp only at hr
  have nl:=lk.nlen h
  refine b9 ⟨_,rfl,_,rfl,_,_,_,rfl,rfl,ag7 ht,_,_,_,rfl,rfl,rfl,rfl,?_⟩
  refine⟨fW P,rfl,_,rfl,_,rfl,_,rfl,_,rfl,_,_,_,rfl,rfl,ag7 ht,_,_,_,rfl,rfl,rfl,n,ls,h,e,rfl,hr.1,hr.2,by omega,intz (bM ls h e),rfl,(fun z=>by cases z),?_,fun i acc=>acc=fW (((bM ls h e).take i).map fun c=>(c,some h)),rfl,?_,?_⟩
  ·rw [aZ]; have:=bt1 (fun x=>!decide (some x=e)) (aO ls h); unfold bM; omega
  ·rintro i y acc hy rfl
   obtain ⟨c,rfl,hc⟩:=fP hy
   refine⟨_,rfl,_,rfl,by show 2<=1000; decide,rfl,trivial,?_⟩
   dsimp only
   rw [bs1,hc,bp1]
   unfold fW
   rw [bp1]
   rfl
  ·rintro acc rfl
   rw [aZ,br5 (bo7 _)]
   have kl:(bM ls h e).length<=n:=by have:=bt1 (fun x=>!decide (some x=e)) (aO ls h); unfold bM; omega
   refine⟨_,.inr rfl,.inr (ah0 _),by rw [nB,nB,bn7]; omega,_,rfl,_,_,rfl,rfl,trivial,n - (t+1),by omega,P ++ (bM ls h e).map (fun c=>(c,some h)),t+1,si h,?_,B.step w lk.fit (fun h x=>lk.inr h x) ht,by rw [bo0]; omega,rfl⟩
   unfold fW
   rw [<- bp1]
   rfl
 ·rw [bn9 (by omega)]
  have:t=P.length:=by omega
  subst this
  exact b8 (k P _ _ B.all)
end
theorem bd0:bY ag9 ["web","around","pairs","turn","hearth"] uC:=by
 rintro xs Q ⟨ws,ls,rfl,wb,lk,w,q⟩
 have few:=wb.few
 have hS:=m7 ws.length
 refine⟨_,rfl,ws,ls,rfl,wb,fun _=>?_,fun z=>absurd w z⟩
 refine⟨_,rfl,b8 ?_⟩
 refine⟨_,rfl,ws,ls,rfl,wb,trivial,?_⟩
 refine⟨_,rfl,ws,ls,rfl,wb,tups (jQ ls (rng ws.length)),rfl,(fun z=>by cases z),?_,fun i acc=>acc=fW (((bD ls (rng ws.length)).take i).map fun h=>(h,none)),rfl,?_,?_⟩
 ·rw [eU]; unfold jQ; rw [bn7]
  have:=bt1 (qY ls (rng ws.length)) (rng ws.length)
  rw [dM] at this
  unfold bD; omega
 ·rintro i y acc hy rfl
  unfold tups jQ at hy
  rw [bv5,bo8] at hy
  cases hz:(bD ls (rng ws.length))[i]? with
  | none=>rw [hz] at hy; cases hy
  | some h=>
   rw [hz] at hy
   cases hy
   obtain ⟨h1,h2⟩:=fV.mp (bp0 hz)
   have h3:L2.atI (intz (comp ls (rng ws.length) h)) 0=some (.int h):=by
    cases e:comp ls (rng ws.length) h with
    | nil=>rw [e] at h2; cases h2
    | cons a r=>rw [e] at h2; cases h2; exact lH (j:=0) rfl
   refine⟨_,rfl,_,_,_,rfl,rfl,h3,by show 2<=1000; decide,rfl,trivial,?_⟩
   dsimp only
   rw [bs1,hz,bp1]
   unfold fW
   rw [bp1]
   rfl
 ·rintro acc rfl
  rw [show (tups (jQ ls (rng ws.length))).length=(bD ls (rng ws.length)).length by rw [eU]; unfold jQ; rw [bn7],br5 (bo7 _)]
  refine⟨rfl,ah0 _,trivial,?_⟩
  refine bc9 few lk w fun P y3 y4 R=>?_
  exact⟨_,rfl,trivial,q P R⟩
structure TL (k:Nat) (lks:List (Int × Int)):Prop where
 inn:∀ l ∈ lks,0<=l.1/\l.1 < l.2/\l.2 < (k:Int)
 nd:(lks.map (·.2)).Nodup
 few:lks.length<=k
theorem TL.same {k:Nat}{lks:List (Int × Int)} (h:TL k lks):TL (k+1) lks:=⟨fun l hl=>by have:=h.inn l hl; omega,h.nd,by have:=h.few; omega⟩
theorem TL.app {k:Nat}{lks:List (Int × Int)} (h:TL k lks) {e:Int} (e0:0<=e) (e1:e < (k:Int)):TL (k+1) (lks ++ [(e,(k:Int))]):=by
 refine⟨fun l hl=>?_,?_,by rw [bo0,br1]; have:=h.few; omega⟩
 ·rcases bo6.mp hl with z | z
  ·have:=h.inn l z; omega
  ·rw [bo2.mp z]; dsimp only; omega
 ·rw [bp1,bu1]
  refine⟨h.nd,bq2 _ _,fun a ha b hb e=>?_⟩
  obtain ⟨l,hl,rfl⟩:=bp6.mp ha
  rw [List.map_singleton,bo2] at hb
  have:=h.inn l hl
  omega
theorem TL.snd {k:Nat}{lks:List (Int × Int)} (h:TL k lks) {a b c:Int} (ha:(a,c) ∈ lks) (hb:(b,c) ∈ lks):a=b:=by
 obtain ⟨i,hi⟩:=bz7.mp ha
 obtain ⟨j,hj⟩:=bz7.mp hb
 have h1:(lks.map (·.2))[i]? = some c:=by rw [bo8,hi]; rfl
 have h2:(lks.map (·.2))[j]? = some c:=by rw [bo8,hj]; rfl
 have:=(bD4 (bn8.mp h1).1 h.nd).mp (h1.trans h2.symm)
 subst this
 rw [hi] at hj
 exact (Prod.mk.inj (bq3 hj)).1
theorem TL.ndl {k:Nat}{lks:List (Int × Int)} (h:TL k lks):lks.Nodup:=(bx0.mp h.nd).imp fun z e=>z (by rw [e])
structure Pl (m:Nat) (p:Int->Int):Prop where
 inn:∀ i,0<=i->i < (m:Int)->0<=p i/\p i < (m:Int)
 inj:∀ i j,0<=i->i < (m:Int)->0<=j->j < (m:Int)->p i=p j->i=j
 onto:∀ x,x ∈ rng m->∃ i,0<=i/\i < (m:Int)/\p i=x
noncomputable def gJ (p:Int->Int) (l:Int × Int):Int × Int:=(min (p l.1) (p l.2),max (p l.1) (p l.2))
theorem bd1 {m:Nat}{p:Int->Int}{lks:List (Int × Int)} (P:Pl m p) (T:TL m lks):∀ l ∈ lks.map (gJ p),0<=l.1/\l.1 < l.2/\l.2 < (m:Int):=by
 intro l0 hl0
 obtain ⟨l,hl,rfl⟩:=bp6.mp hl0
 have h:=T.inn l hl
 have a:=P.inn l.1 (by omega) (by omega)
 have b:=P.inn l.2 (by omega) (by omega)
 have c:p l.1 ≠ p l.2:=fun e=>by have:=P.inj _ _ (by omega) (by omega) (by omega) (by omega) e; omega
 unfold gJ
 dsimp only
 omega
theorem A5 {p:Int->Int}{l:Int × Int}{x y:Int} (e:gJ p l=(x,y) ∨ gJ p l=(y,x)):(p l.1=x/\p l.2=y) ∨ (p l.1=y/\p l.2=x):=by
 unfold gJ at e
 rcases e with e | e <;> (have e1:=(Prod.mk.inj e).1; have e2:=(Prod.mk.inj e).2; omega)
theorem bd2 {m:Nat}{p:Int->Int}{lks:List (Int × Int)} (P:Pl m p) (T:TL m lks):(lks.map (gJ p)).Nodup:=by
 refine bx0.mpr (T.ndl.imp_of_mem fun {a b} ha hb hab e=>hab ?_)
 have h1:=T.inn a ha
 have h2:=T.inn b hb
 rcases A5 (x:=(gJ p b).1) (y:=(gJ p b).2) (.inl e) with ⟨c,d⟩ | ⟨c,d⟩ <;> rcases A5 (p:=p) (l:=b) (x:=(gJ p b).1) (y:=(gJ p b).2) (.inl rfl) with ⟨c',d'⟩ | ⟨c',d'⟩
 ·exact Prod.ext (P.inj _ _ (by omega) (by omega) (by omega) (by omega) (c.trans c'.symm)) (P.inj _ _ (by omega) (by omega) (by omega) (by omega) (d.trans d'.symm))
 ·have e1:=P.inj a.1 b.2 (by omega) (by omega) (by omega) (by omega) (c.trans d'.symm)
  have e2:=P.inj a.2 b.1 (by omega) (by omega) (by omega) (by omega) (d.trans c'.symm)
  omega
 ·have e1:=P.inj a.1 b.2 (by omega) (by omega) (by omega) (by omega) (c.trans d'.symm)
  have e2:=P.inj a.2 b.1 (by omega) (by omega) (by omega) (by omega) (d.trans c'.symm)
  omega
 ·exact Prod.ext (P.inj _ _ (by omega) (by omega) (by omega) (by omega) (c.trans c'.symm)) (P.inj _ _ (by omega) (by omega) (by omega) (by omega) (d.trans d'.symm))
theorem ah1 {f:Int->Int->Prop}:∀ {U:List Int},U ≠ []->(∀ x ∈ U,∃ i,f x i)->∃ x ∈ U,∃ i,f x i/\∀ y ∈ U,∃ j,f y j/\j<=i
 | [x],_,h=>by
  obtain ⟨i,hi⟩:=h x bo4
  exact⟨x,bo4,i,hi,fun y hy=>by rw [bo2.mp hy]; exact⟨i,hi,bD6 _⟩⟩
 | x :: z :: r,_,h=>by
  obtain ⟨i,hi⟩:=h x bo4
  obtain ⟨y,hy,j,hj,m⟩:=ah1 (U:=z :: r) (by simp) fun y hy=>h y (bo5 _ hy)
  by_cases le:i<=j
  ·refine⟨y,bo5 _ hy,j,hj,fun w hw=>?_⟩
   rcases bo3.mp hw with e | e
   ·rw [e]; exact⟨i,hi,le⟩
   ·exact m w e
  ·refine⟨x,bo4,i,hi,fun w hw=>?_⟩
   rcases bo3.mp hw with e | e
   ·rw [e]; exact⟨i,hi,bD6 _⟩
   ·obtain ⟨k,hk,kl⟩:=m w e; exact⟨k,hk,by omega⟩
theorem bd3 {m:Nat}{p:Int->Int}{lks ls:List (Int × Int)} (P:Pl m p) (T:TL m lks) (pm:ls.Perm (lks.map (gJ p))) (f:eV ls):zO ls (rng m):=by
 intro U two sub
 refine bu6 fun ne=>?_
 obtain ⟨x,hx,i,⟨i0,i1,hi⟩,mx⟩:=ah1 (f:=fun x i=>0<=i/\i < (m:Int)/\p i=x) ne fun x hx=>P.onto x (sub x hx)
 obtain ⟨a,b,na,nb,ua,ub,ab⟩:=ba3 (f.nnd x) (two x hx)
 have up:∀ y,y ∈ aO ls x->y ∈ U->∃ j,(j,i) ∈ lks/\p j=y:=fun y hy hu=>by
  obtain ⟨j,⟨j0,j1,hj⟩,ji⟩:=mx y hu
  obtain ⟨l,hl,e⟩:∃ l ∈ lks,gJ p l=(x,y) ∨ gJ p l=(y,x):=by
   rcases L2.eD.mp hy with z | z
   ·obtain ⟨l,hl,e⟩:=bp6.mp (pm.mem_iff.mp z); exact⟨l,hl,.inl e⟩
   ·obtain ⟨l,hl,e⟩:=bp6.mp (pm.mem_iff.mp z); exact⟨l,hl,.inr e⟩
  have h:=T.inn l hl
  rcases A5 e with ⟨c,d⟩ | ⟨c,d⟩
  ·have e1:=P.inj l.1 i (by omega) (by omega) i0 i1 (c.trans hi.symm)
   have e2:=P.inj l.2 j (by omega) (by omega) j0 j1 (d.trans hj.symm)
   omega
  ·have e1:=P.inj l.2 i (by omega) (by omega) i0 i1 (d.trans hi.symm)
   exact⟨l.1,by rw [<- e1]; exact hl,c⟩
 obtain ⟨j,hj,ej⟩:=up a na ua
 obtain ⟨k,hk,ek⟩:=up b nb ub
 exact ab (by rw [<- ej,<- ek,T.snd hj hk])
theorem bd4 {n:Nat}{ls:List (Int × Int)} (lk:fU n ls) (no:zO ls (rng n)):eW n ls:=by
 have h1:=zT lk.fit n (rng n) (by rw [dM]; exact bo7 _) (m7 n) no
 have h2:=zY (m7 n) ls
 have e:ls.filter (gS (rng n))=ls:=bw7.mpr fun l hl=>by
  have:=lk.1 l hl
  unfold gS
  rw [bn4 (eG.mpr ⟨by omega,by omega⟩),bn4 (eG.mpr ⟨by omega,by omega⟩)]; rfl
 unfold mu at h1
 rw [e,dM] at h1
 rw [e,dM] at h2
 unfold eW
 omega
noncomputable def uD:bK:=fun xs Q=>∃ (ns:List Int) (m:Nat) (dg:Bool),xs = [.scr ns,.int m,.bl dg]/\ns.length<=63/\m<=40/\∀ ps:List Int,ps.Perm (rng m)->Q (.lst (intz ps))
noncomputable def ah2:aI:=(aD (b6 6 (aB i7 (a6 (aB dX (a6 (a5 0) (a6 (qC (.int 3)) a9))) (a6 (cA (a5 5) (qC (.int 5))) a9))))
   (aD (bL (jZ (a5 2)) (aD (b6 6 (a5 4))
    (b6 4 (eF (a5 4) (cA (a5 5) (qC (.int 1)))))) bR)
   (m6 3 (bW (a5 6) (cA (a5 5) (qC (.int 1)))) (a5 5))))
noncomputable def ah3:aI:=(aD (cZ 3 (yH (a5 1)))
 (aD (b6 4 (aB dX (a6 (a5 0) (a6 (qC (.int 3)) a9))))
 (aD (bL (aT (dA (bW (eF (aB dX (a6 (a5 0) (a6 (qC (.int 1)) a9))) (qC (.int 3))) (qC (.int 2))) (qC (.int 1)))) (aD (cZ 3 (eR a9))
  (dJ (iY (a5 1)) (bO 5)
   ah2)) bR)
 (kS 3))))
theorem bd5 {ns:List Int}{s1 y6:Option Slot}{dg:Bool}{ps:List Int}{nb:Int}{k:Nat}{E:hG} (k40:k < 40) (hp:ps.Perm (rng k))
  (nx:∀ (ps:List Int) (nb:Int) (y6:Option Slot),ps.Perm (rng (k+1))->E.nx [some (.sh true (.scr ns)),s1,some (.sh true (.bl dg)),some (.own (.lst (intz ps))),si nb,si k,y6]) :
  ah2 E [some (.sh true (.scr ns)),s1,some (.sh true (.bl dg)),some (.own (.lst (intz ps))),si nb,si k,y6]:=by
 have pl:=hp.length_eq
 rw [dM] at pl
 have fin:∀ (sp nb:Int),(m6 3 (bW (a5 6) (cA (a5 5) (qC (.int 1)))) (a5 5)) E [some (.sh true (.scr ns)),s1,some (.sh true (.bl dg)),some (.own (.lst (intz ps))),si nb,si k,si sp]:=fun sp nb=>by
  have h0:=bw2 sp (show (k:Int)+1 ≠ 0 by omega)
  have h1:=by5 sp (show (0:Int) < (k:Int)+1 by omega)
  refine⟨intz ps,rfl,_,rfl,_,rfl,_,_,rfl,rfl,_,_,rfl,rfl,by show (0:Int) < (k:Int)+1; omega,(sp % ((k:Int)+1)).toNat,by show PV.int (sp % ((k:Int)+1))=_; rw [Int.toNat_of_nonneg h0],by rw [aZ]; omega,by rw [aZ]; omega,_,rfl,trivial,?_⟩
  have e:(intz ps).take (sp % ((k:Int)+1)).toNat ++ PV.int k :: (intz ps).drop (sp % ((k:Int)+1)).toNat=intz (ps.take (sp % ((k:Int)+1)).toNat ++ (k:Int) :: ps.drop (sp % ((k:Int)+1)).toNat):=by
   unfold intz; rw [bp1,List.map_take,bs8,List.map_drop]
  have:=nx (ps.take (sp % ((k:Int)+1)).toNat ++ (k:Int) :: ps.drop (sp % ((k:Int)+1)).toNat) nb (si sp) (by
   rw [aX0]
   refine (List.perm_middle).trans ?_
   rw [bC6]
   exact (List.Perm.cons _ hp).trans (List.perm_append_singleton _ _).symm)
  rw [<- e] at this
  exact this
 refine⟨_,rfl,_,ns,3,rfl,.inl rfl,by decide,_,rfl,_,_,rfl,rfl,_,_,rfl,by omega,by omega,fun z _=>⟨trivial,?_⟩⟩
 refine⟨_,rfl,_,rfl,?_⟩
 cases dg with
 | false=>exact b8 (fin z nb)
 | true=>exact b9 ⟨_,rfl,trivial,_,rfl,_,rfl,_,_,rfl,rfl,_,_,rfl,rfl,⟨by show (0:Int) < (k:Int)+1; omega,by omega⟩,trivial,fin nb _⟩
theorem ah4 (n:Nat):gC 0 n=intz (rng n):=by
 refine List.ext_getElem? fun i=>?_
 by_cases h:i < n
 ·rw [xB h]
  unfold intz
  rw [bo8,o7 h,bB5]; rfl
 ·rw [bC7 (by rw [dQ]; omega),bC7 (by rw [aZ,dM]; omega)]
theorem bd6:bY ah3 ["script","many","digits","places","number","k","spot"] uD:=by
 rintro xs Q ⟨ns,m,dg,rfl,hl,m40,q⟩
 refine⟨_,rfl,m,rfl,by omega,by omega,rfl,?_,?_⟩
 ·show flats (gC 0 (m:Int).toNat)=true
  rw [ah4]; exact bJ _
 rw [ah4,bq7]
 refine⟨_,rfl,_,ns,3,rfl,.inl rfl,by decide,trivial,?_⟩
 dsimp only
 generalize ns.getD (3:Int).toNat 0=nb
 refine⟨_,rfl,_,ns,1,rfl,.inl rfl,by decide,_,_,rfl,rfl,⟨by decide,by decide⟩,_,_,rfl,rfl,(by show (0:Int) < 2; decide),.inl ⟨_,_,rfl,rfl,_,rfl,?_⟩⟩
 generalize (if false=true then _ else _:Bool)=b
 cases b with
 | false=>exact b8 ⟨_,rfl,trivial,q _ (List.Perm.refl _)⟩
 | true=>
  refine b9 ⟨by decide,rfl,rfl,rfl,?_⟩
  refine⟨_,rfl,m,rfl,by omega,by omega,fun k ρ=>∃ (ps:List Int) (nb:Int) (y5 y6:Option Slot),ρ = [some (.sh true (.scr ns)),si m,some (.sh true (.bl dg)),some (.own (.lst (intz ps))),si nb,y5,y6]/\ps.Perm (rng k),⟨[],nb,none,none,rfl,List.Perm.refl _⟩,?_,?_⟩
  ·rintro k y ρ hy ⟨ps,nb,y5,y6,rfl,hp⟩
   obtain ⟨rfl,hk⟩:=iG hy
   have hk:k < m:=by omega
   refine i3 ?_
   rw [bB5]
   exact bd5 (by omega) hp fun ps nb y6 h=>⟨ps,nb,si k,y6,rfl,h⟩
  ·rintro ρ ⟨ps,nb,y5,y6,rfl,hp⟩
   rw [dQ,bq7] at hp
   exact⟨_,rfl,trivial,q ps hp⟩
noncomputable def ah5 (mx:Int):bK:=fun xs Q=>∃ (ns:List Int) (most:Int),xs = [.scr ns,.int most]/\ns.length<=63/\0<=most/\most<=mx/\∀ (n:Nat) ws ls,(n:Int)<=most->WL n ws ls->fU n ls->eW n ls->Q (b7 ws ls)
noncomputable def ah6 (R:List PV->(PV->Prop)->Prop):Prop:=∀ (ls:List (Int × Int)) (Q:PV->Prop),ls.length < 64->(∀ ls':List (Int × Int),ls'.Perm ls->(ls'.map two).Pairwise (fun u v=>HT.fX v u=false)->Q (.lst (bX ls')))->R [.lst (bX ls)] Q
theorem ah7:ah6 oA:=fun ls Q few q=>by
 refine⟨ls.map two,by rw [Z2],by rw [bn7]; exact few,fun y hy=>by obtain ⟨l,_,rfl⟩:=bp6.mp hy; exact List.cons_ne_nil _ _,fun Z pz so=>?_⟩
 obtain ⟨ls',rfl,pl⟩:=aP7 pz
 have:=q ls' pl so
 rw [Z2] at this
 exact this
noncomputable def ah8:aI:=(aD (iX 4 (c7 (a6 (a5 9) (a6 (a5 7) a9))))
   (aD (jX 5 (a5 9) (cA (bE (a5 5) (a5 9)) (qC (.int 1))))
   (jX 5 (a5 7) (cA (bE (a5 5) (a5 7)) (qC (.int 1))))))
noncomputable def ah9:aI:=(bL (aT (jI (bW (a5 8) (qC (.int 8))) (qC (.int 0)))) (aD (b6 9 (bW (eF (a5 8) (qC (.int 8))) (a5 7)))
   (aD (bL (aT (dA (bW (aB dX (a6 (a5 0) (a6 (qC (.int 1)) a9))) (qC (.int 3))) (qC (.int 1)))) (b6 9 (aB jY (a6 (qC (.int 0)) (a6 (lQ (lQ (a5 7) (qC (.int 1))) (bW (eF (a5 8) (qC (.int 8))) (qC (.int 3)))) a9)))) bR)
   ah8)) bR)
noncomputable def ai0:aI:=(aD (b6 8 (aB i7 (a6 (bE (a5 6) (a5 7)) (a6 (a5 7) a9))))
  (aD (bL (jZ (a5 3)) (b6 8 (eF (bE (a5 6) (a5 7)) (qC (.int 64)))) bR)
  ah9))
noncomputable def ai1 (R:List PV->(PV->Prop)->Prop):aI:=(aD (sK 4 (b6 12 (cS (cR (a5 4)) [none,none,some 10] (iZ 0 1) e9 (c7 (a6 (aB pV (a6 (bE (a5 2) (a5 0)) (a6 (bE (a5 2) (a5 1)) a9))) (a6 (aB jY (a6 (bE (a5 2) (a5 0)) (a6 (bE (a5 2) (a5 1)) a9))) a9))))))
 (bF (c7 (a6 (aB eS (a6 (a5 11) a9)) (a6 (aB eS (a6 (aB R (a6 (a5 12) a9)) a9)) a9)))))
noncomputable def ai2:aI:=(aD (b6 10 (aB uD (a6 (a5 0) (a6 (a5 2) (a6 (a5 3) a9)))))
 (aD (cZ 11 (tH (eR (a6 (qC (.int 0)) a9)) (a5 2)))
 (aD (dJ (iY (a5 2)) (bO 7)
  (jX 11 (bE (a5 10) (a5 7)) (bW (bE (a5 6) (a5 7)) (cA (bE (a5 5) (a5 7)) (qC (.int 2))))))
 (ai1 oA))))
noncomputable def ai3:aI:=(aD (b6 2 (aB oK (a6 (a5 0) (a6 (a5 1) a9))))
 (aD (b6 3 (dA (bW (eF (aB dX (a6 (a5 0) (a6 (qC (.int 1)) a9))) (qC (.int 8))) (qC (.int 2))) (qC (.int 1))))
 (aD (cZ 4 (eR a9))
 (aD (cZ 5 (tH (eR (a6 (qC (.int 0)) a9)) (a5 2)))
 (aD (cZ 6 (gE (a5 0) (fD (qC (.int 4))) (fD (cA (qC (.int 4)) (a5 2)))))
 (aD (dJ (pX (aB bT (a6 (a5 6) a9)) (a5 2)) (bO 7)
  (iX 6 (aB i7 (a6 (aB dX (a6 (a5 0) (a6 (qC (.int 1)) a9))) (a6 (a5 7) a9)))))
 (aD (dJ (pX (qC (.int 1)) (a5 2)) (bO 7)
  ai0)
 ai2)))))))
section
variable {ns : List Int} {m k : Nat} {dg : Bool} {cs cts : List Int} {lks : List (Int × Int)} {s1 y8 y9 y10 y11 y12 : Option Slot} {E : hG}
theorem ai4 {e nb:Int} (hc:m<=cs.length) (hk:k < m) (m40:m<=40) (T:TL k lks) (cl:cts.length=m) (nn:NN cts) (e0:0<=e) (e1:e < (k:Int)) {s0 s3 s6:Option Slot}
  (nx:∀ (lks':List (Int × Int)) (cts':List Int),TL (k+1) lks'->cts'.length=m->NN cts'->E.nx [s0,s1,si m,s3,some (.own (.lst (bX lks'))),some (.own (.lst (intz cts'))),s6,si k,si nb,si e,y10,y11,y12]) :
  ah8 E [s0,s1,si m,s3,some (.own (.lst (bX lks))),some (.own (.lst (intz cts))),s6,si k,si nb,si e,y10,y11,y12]:=by
 have pl:(bX lks).length=lks.length:=bn7 _
 have fw:=T.few
 obtain ⟨j,rfl⟩:∃ j:Nat,e=j:=⟨e.toNat,by omega⟩
 refine⟨_,rfl,_,rfl,_,rfl,by show 2<=1000; decide,rfl,trivial,by rw [pl]; omega,?_⟩
 have a1:=gR (ws:=cts) (j:=j) (by omega)
 refine⟨_,rfl,_,rfl,_,_,_,rfl,rfl,a1,_,_,rfl,rfl,_,rfl,_,rfl,j,j,rfl,?_,trivial,?_⟩
 ·rw [aZ]; unfold gM; rw [if_pos (by omega),if_pos (by omega)]; rfl
 have q1:(intz cts).set j (.int (cts.getD j 0+1))=intz (cts.set j (cts.getD j 0+1)):=(List.map_set ..).symm
 have n1:NN (cts.set j (cts.getD j 0+1)):=nn.set (by have:=oM nn j; omega) _
 dsimp only
 rw [q1]
 have l1:(cts.set j (cts.getD j 0+1)).length=m:=by rw [bs0]; exact cl
 generalize cts.set j (cts.getD j 0+1)=ct2 at n1 l1
 have a2:=gR (ws:=ct2) (j:=k) (by omega)
 refine⟨_,rfl,_,rfl,_,_,_,rfl,rfl,a2,_,_,rfl,rfl,_,rfl,_,rfl,k,k,rfl,?_,trivial,?_⟩
 ·rw [aZ]; unfold gM; rw [if_pos (by omega),if_pos (by omega)]; rfl
 have q2:(intz ct2).set k (.int (ct2.getD k 0+1))=intz (ct2.set k (ct2.getD k 0+1)):=(List.map_set ..).symm
 have n2:NN (ct2.set k (ct2.getD k 0+1)):=n1.set (by have:=oM n1 k; omega) _
 dsimp only
 rw [q2]
 have:=nx (lks ++ [((j:Int),(k:Int))]) (ct2.set k (ct2.getD k 0+1)) (T.app e0 e1) (by rw [bs0]; exact l1) n2
 unfold bX at this ⊢
 rw [bp1] at this
 exact this
theorem ai5 {nb:Int} (hc:m<=cs.length) (k1:1<=k) (hk:k < m) (m40:m<=40) (T:TL k lks) (cl:cts.length=m) (nn:NN cts) {s3 s6:Option Slot}
  (nx:∀ (y9:Option Slot) (lks':List (Int × Int)) (cts':List Int),TL (k+1) lks'->cts'.length=m->NN cts'->E.nx [some (.sh true (.scr ns)),s1,si m,s3,some (.own (.lst (bX lks'))),some (.own (.lst (intz cts'))),s6,si k,si nb,y9,y10,y11,y12]) :
  ah9 E [some (.sh true (.scr ns)),s1,si m,s3,some (.own (.lst (bX lks))),some (.own (.lst (intz cts))),s6,si k,si nb,y9,y10,y11,y12]:=by
 refine⟨_,rfl,_,_,rfl,rfl,(by show (0:Int) < 8; decide),_,_,rfl,rfl,_,rfl,kC ?_ (nx y9 lks cts T.same cl nn)⟩
 have e0:=bw2 (nb / 8) (show (k:Int) ≠ 0 by omega)
 have e1:=by5 (nb / 8) (show (0:Int) < (k:Int) by omega)
 refine⟨_,rfl,_,_,rfl,rfl,⟨by decide,by decide⟩,_,rfl,_,_,rfl,rfl,(by show (0:Int) < (k:Int); omega),trivial,?_⟩
 refine⟨_,rfl,_,ns,1,rfl,.inl rfl,by decide,_,_,rfl,rfl,(by show (0:Int) < 3; decide),.inl ⟨_,_,rfl,rfl,_,rfl,kC ?_ (ai4 hc hk m40 T cl nn e0 e1 fun l c a b d=>nx _ l c a b d)⟩⟩
 refine⟨_,rfl,_,_,rfl,rfl,_,rfl,_,_,rfl,rfl,⟨by decide,by decide⟩,_,_,rfl,rfl,(by show (0:Int) < 3; decide),_,_,rfl,rfl,_,_,rfl,trivial,?_⟩
 have h0:=bw2 (nb / 8) (show (3:Int) ≠ 0 by decide)
 dsimp only
 generalize hz:(if (k:Int) - 1 - nb / 8 % 3 > 0 then (k:Int) - 1 - nb / 8 % 3 else 0)=z
 have z0:0<=z:=by rw [<- hz]; split <;> omega
 have z1:z < (k:Int):=by rw [<- hz]; split <;> omega
 exact ai4 hc hk m40 T cl nn z0 z1 fun l c a b d=>nx _ l c a b d
theorem bd7 (hc:m<=cs.length) (k1:1<=k) (hk:k < m) (m40:m<=40) (T:TL k lks) (cl:cts.length=m) (nn:NN cts)
  (nx:∀ (y8 y9:Option Slot) (lks':List (Int × Int)) (cts':List Int),TL (k+1) lks'->cts'.length=m->NN cts'->E.nx [some (.sh true (.scr ns)),s1,si m,some (.sh true (.bl dg)),some (.own (.lst (bX lks'))),some (.own (.lst (intz cts'))),some (.own (.lst (intz cs))),si k,y8,y9,y10,y11,y12]) :
  ai0 E [some (.sh true (.scr ns)),s1,si m,some (.sh true (.bl dg)),some (.own (.lst (bX lks))),some (.own (.lst (intz cts))),some (.own (.lst (intz cs))),si k,y8,y9,y10,y11,y12]:=by
 have a0:=gR (ws:=cs) (j:=k) (by omega)
 refine⟨_,rfl,_,rfl,_,_,_,rfl,rfl,a0,_,rfl,_,_,rfl,by omega,by omega,fun z _=>⟨trivial,?_⟩⟩
 refine⟨_,rfl,_,rfl,?_⟩
 cases dg with
 | false=>exact b8 (ai5 hc k1 hk m40 T cl nn fun y9 l c a b d=>nx _ y9 l c a b d)
 | true=>exact b9 ⟨_,rfl,_,rfl,_,_,_,rfl,rfl,a0,_,_,rfl,rfl,⟨by decide,by decide⟩,trivial,ai5 hc k1 hk m40 T cl nn fun y9 l c a b d=>nx _ y9 l c a b d⟩
theorem ai6 {m:Nat}{ps:List Int} (hp:ps.Perm (rng m)):Pl m fun i=>ps.getD i.toNat 0:=by
 have pl:=hp.length_eq
 rw [dM] at pl
 have nd:ps.Nodup:=hp.nodup_iff.mpr (zX (m7 m))
 have gt:∀ i:Int,0<=i->i < (m:Int)->ps[i.toNat]? = some (ps.getD i.toNat 0):=fun i h0 h1=>by
  rw [bq0,bo1 (by omega)]; rfl
 refine⟨fun i h0 h1=>eG.mp (hp.mem_iff.mp (bp0 (gt i h0 h1))),fun i j h0 h1 g0 g1 e=>?_,fun x hx=>?_⟩
 ·have:=(bD4 (bn8.mp (gt i h0 h1)).1 nd).mp ((gt i h0 h1).trans (by rw [gt j g0 g1]; exact congrArg some e))
  omega
 ·obtain ⟨i,hi⟩:=bz7.mp (hp.mem_iff.mpr hx)
  have il:=(bn8.mp hi).1
  refine⟨i,by omega,by omega,?_⟩
  show ps.getD (i:Int).toNat 0=x
  rw [bq7,bq0,hi]; rfl
theorem bd8 {R:List PV->(PV->Prop)->Prop} (hR:ah6 R) {ps ws:List Int}{s0 s3 s5 s6 y7:Option Slot}{Q:PV->Prop} (m40:m<=40) (T:TL m lks) (hp:ps.Perm (rng m)) (wl:ws.length=m) (wn:NN ws) (q:∀ ls,WL m ws ls->fU m ls->eW m ls->Q (b7 ws ls)) :
  ai1 R { nx:=fun _=>Q .non,rt:=Q } [s0,s1,si m,s3,some (.own (.lst (bX lks))),s5,s6,y7,y8,y9,some (.sh true (.lst (intz ps))),some (.own (.lst (intz ws))),y12]:=by
 have P:=ai6 hp
 have pl:=hp.length_eq
 rw [dM] at pl
 have fw:=T.few
 have pgl:(bX lks).length=lks.length:=bn7 _
 refine⟨_,rfl,_,rfl,bX lks,rfl,(fun z=>by cases z),by rw [pgl]; omega,fun i acc=>acc=bX ((lks.take i).map (gJ fun i=>ps.getD i.toNat 0)),rfl,?_,?_⟩
 ·rintro i y acc hy rfl
  unfold bX at hy
  rw [bo8] at hy
  cases hz:lks[i]? with
  | none=>rw [hz] at hy; cases hy
  | some l=>
   rw [hz] at hy
   cases hy
   have h:=T.inn l (bp0 hz)
   obtain ⟨a,ea⟩:∃ a:Nat,l.1=a:=⟨l.1.toNat,by omega⟩
   obtain ⟨b,eb⟩:∃ b:Nat,l.2=b:=⟨l.2.toNat,by omega⟩
   have a1:L2.atI (intz ps) l.1=some (.int (ps.getD l.1.toNat 0)):=by rw [ea,bq7]; exact gR (by omega)
   have a2:L2.atI (intz ps) l.2=some (.int (ps.getD l.2.toNat 0)):=by rw [eb,bq7]; exact gR (by omega)
   refine⟨_,_,rfl,?_⟩
   refine⟨_,rfl,_,rfl,_,_,_,rfl,rfl,a1,_,rfl,_,rfl,_,_,_,rfl,rfl,a2,_,_,rfl,_,rfl,_,rfl,_,_,_,rfl,rfl,a1,_,rfl,_,rfl,_,_,_,rfl,rfl,a2,_,_,rfl,by show 2<=1000; decide,rfl,trivial,?_⟩
   dsimp only
   rw [bs1,hz,bp1]
   unfold bX
   rw [bp1]
   have e1:(if ps.getD l.2.toNat 0 < ps.getD l.1.toNat 0 then ps.getD l.2.toNat 0 else ps.getD l.1.toNat 0)=min (ps.getD l.1.toNat 0) (ps.getD l.2.toNat 0):=by split <;> omega
   have e2:(if ps.getD l.2.toNat 0 > ps.getD l.1.toNat 0 then ps.getD l.2.toNat 0 else ps.getD l.1.toNat 0)=max (ps.getD l.1.toNat 0) (ps.getD l.2.toNat 0):=by split <;> omega
   show _ ++ [PV.tup [.int (if ps.getD l.2.toNat 0 < ps.getD l.1.toNat 0 then ps.getD l.2.toNat 0 else ps.getD l.1.toNat 0),.int (if ps.getD l.2.toNat 0 > ps.getD l.1.toNat 0 then ps.getD l.2.toNat 0 else ps.getD l.1.toNat 0)]]=_
   rw [e1,e2]; rfl
 ·rintro acc rfl
  rw [pgl,br5 (bo7 _)]
  have inn:=bd1 P T
  have nd:=bd2 P T
  have ml:(lks.map (gJ fun i=>ps.getD i.toNat 0)).length=lks.length:=bn7 _
  have fp:∀ ls:List (Int × Int),flats (bX ls)=true:=t5
  refine⟨trivial,?_⟩
  refine⟨_,rfl,⟨_,_,rfl,rfl,bJ _,?_⟩,(fun ns e=>by cases e)⟩
  refine⟨_,rfl,?_⟩
  refine hR (lks.map (gJ fun i=>ps.getD i.toNat 0)) _ (by rw [ml]; omega) (fun ls' pm so=>?_)
  have W:=WL.perm (n:=m) (ws:=ws) (by omega) inn (by rw [ml]; omega) nd wn pm so
  have lk:fU m ls':=⟨fun l hl=>W.inn l hl,W.most,W.ord⟩
  refine⟨⟨_,_,rfl,rfl,fp _,by show 2<=1000; decide,?_,trivial,?_⟩,(fun ns e=>by cases e)⟩
  ·show (flats (intz ws) && (flats (bX ls') && true))=true
   rw [bJ,fp]; rfl
  ·exact q ls' W lk (bd4 lk (bd3 P T pm lk.fit))
theorem bd9 {s7:Option Slot}{Q:PV->Prop} (hn:ns.length<=63) (hc:m<=cs.length) (m40:m<=40) (T:TL m lks) (cl:cts.length=m) (nn:NN cts) (q:∀ ws ls,WL m ws ls->fU m ls->eW m ls->Q (b7 ws ls)) :
  ai2 { nx:=fun _=>Q .non,rt:=Q } [some (.sh true (.scr ns)),s1,si m,some (.sh true (.bl dg)),some (.own (.lst (bX lks))),some (.own (.lst (intz cts))),some (.own (.lst (intz cs))),s7,y8,y9,none,none,none]:=by
 refine⟨_,rfl,_,rfl,_,rfl,ns,m,dg,rfl,hn,m40,fun ps hp=>⟨trivial,?_⟩⟩
 have pl:=hp.length_eq
 rw [dM] at pl
 refine⟨by show 1<=1000; decide,rfl,_,rfl,_,_,rfl,rfl,rfl,by omega,by omega,by show 1<=10; decide,rfl,?_,?_⟩
 ·show flats (List.replicate (m:Int).toNat [PV.int 0]).flatten=true
  rw [oJ]; exact bJ _
 show (aD _ _) _ [_,_,_,_,_,_,_,_,_,_,_,some (Slot.own (.lst (List.replicate (m:Int).toNat [PV.int 0]).flatten)),_]
 rw [oJ,bq7]
 refine⟨_,rfl,m,rfl,by omega,by omega,fun i ρ=>∃ (ws:List Int) (y7:Option Slot),ρ = [some (.sh true (.scr ns)),s1,si m,some (.sh true (.bl dg)),some (.own (.lst (bX lks))),some (.own (.lst (intz cts))),some (.own (.lst (intz cs))),y7,y8,y9,some (.sh true (.lst (intz ps))),some (.own (.lst (intz ws))),none]/\ws.length=m/\NN ws,⟨_,s7,rfl,bz6,fun z hz=>by rw [List.eq_of_mem_replicate hz]; exact bD6 0⟩,?_,?_⟩
 ·rintro i y ρ hy ⟨ws,y7,rfl,wl,wn⟩
  obtain ⟨rfl,hi⟩:=iG hy
  have hi:i < m:=by omega
  refine i3 ?_
  rw [bB5]
  have a1:=gR (ws:=cs) (j:=i) (by omega)
  have a2:=gR (ws:=cts) (j:=i) (by omega)
  have a3:=gR (ws:=ps) (j:=i) (by omega)
  have p1:=oM nn i
  have pr:=(ai6 hp).inn i (by omega) (by omega)
  rw [bq7] at pr
  obtain ⟨z,ez⟩:∃ z:Nat,ps.getD i 0=z:=⟨(ps.getD i 0).toNat,by omega⟩
  refine⟨_,rfl,_,rfl,_,_,_,rfl,rfl,a1,_,rfl,_,rfl,_,_,_,rfl,rfl,a2,_,_,rfl,rfl,_,_,rfl,rfl,by show 0 < cts.getD i 0+2; omega,_,rfl,_,rfl,_,rfl,_,_,_,rfl,rfl,a3,_,z,rfl,?_,trivial,ws.set z (cs.getD i 0 % (cts.getD i 0+2)),si i,?_,by rw [bs0]; exact wl,wn.set (bw2 _ (by omega)) _⟩
  ·rw [aZ,ez]; unfold gM; rw [if_pos (by omega),if_pos (by omega)]; rfl
  ·show _ = [_,_,_,_,_,_,_,_,_,_,_,some (Slot.own (.lst (intz (ws.set z (cs.getD i 0 % (cts.getD i 0+2)))))),_]
   have:(intz ws).set z (.int (cs.getD i 0 % (cts.getD i 0+2)))=intz (ws.set z (cs.getD i 0 % (cts.getD i 0+2))):=(List.map_set ..).symm
   rw [<- this]; rfl
 ·rintro ρ ⟨ws,y7,rfl,wl,wn⟩
  exact bd8 ah7 m40 T hp wl wn fun ls a b c=>q ws ls a b c
end
theorem be0 {mx:Int} (mx40:mx<=40):bY ai3 ["script","most","many","digits","links","counts","cells","k","number","elder","places","wants","pairs"] (ah5 mx):=by
 rintro xs Q ⟨ns,most,rfl,hl,h0,h1,q⟩
 refine⟨_,rfl,_,rfl,ns,most,rfl,h0,fun z z0 z1=>⟨trivial,?_⟩⟩
 obtain ⟨m,rfl⟩:∃ m:Nat,z=m:=⟨z.toNat,by omega⟩
 refine⟨_,rfl,_,ns,1,rfl,.inl rfl,by decide,_,_,rfl,rfl,⟨by decide,by decide⟩,_,_,rfl,rfl,(by show (0:Int) < 2; decide),.inl ⟨_,_,rfl,rfl,trivial,?_⟩⟩
 generalize (if false=true then !decide (ns.getD (1:Int).toNat 0 / 8 % 2=1) else decide (ns.getD (1:Int).toNat 0 / 8 % 2=1))=dg
 refine⟨by decide,rfl,rfl,rfl,?_⟩
 refine⟨by show 1<=1000; decide,rfl,_,rfl,_,_,rfl,rfl,rfl,by omega,by omega,by show 1<=10; decide,rfl,?_,?_⟩
 ·show flats (List.replicate (m:Int).toNat [PV.int 0]).flatten=true
  rw [oJ]; exact bJ _
 show (aD _ _) _ [_,_,_,_,_,some (Slot.own (.lst (List.replicate (m:Int).toNat [PV.int 0]).flatten)),_,_,_,_,_,_,_]
 rw [oJ,bq7]
 obtain ⟨zs,ez,zl⟩:=qZ ns (some 4) (some (4+(m:Int)))
 refine⟨_,rfl,_,rfl,_,rfl,_,_,rfl,rfl,_,rfl,_,rfl,bJ _,rfl,?_,?_⟩
 ·show flats (fC (intz ns) (some 4) (some (4+(m:Int))))=true
  rw [ez]; exact bJ _
 show (aD _ _) _ [_,_,_,_,_,_,some (Slot.own (.lst (fC (intz ns) (some 4) (some (4+(m:Int)))))),_,_,_,_,_,_]
 rw [ez]
 refine⟨_,rfl,_,_,rfl,rfl,_,rfl,(zs.length:Int),(m:Int),by rw [aZ],rfl,⟨by omega,by omega,by omega,by omega⟩,fun i ρ=>∃ (cs:List Int) (y7:Option Slot),ρ = [some (.sh true (.scr ns)),si most,si m,some (.sh true (.bl dg)),some (.own (.lst (bX []))),some (.own (.lst (intz (List.replicate m 0)))),some (.own (.lst (intz cs))),y7,none,none,none,none,none]/\cs.length=zs.length+i,⟨zs,none,rfl,rfl⟩,?_,?_⟩
 ·rintro i y ρ hy ⟨cs,y7,rfl,cl⟩
  obtain ⟨rfl,hi⟩:=iG hy
  refine i3 ?_
  refine⟨_,rfl,_,rfl,_,ns,1,rfl,.inl rfl,by decide,_,rfl,_,_,rfl,by omega,by omega,fun z _=>⟨trivial,by rw [aZ]; omega,cs ++ [z],_,by rw [dW]; rfl,by rw [bo0,cl]; rfl⟩⟩
 rintro ρ ⟨cs,y7,rfl,cl⟩
 rw [dQ] at cl
 have hc:m<=cs.length:=by omega
 refine⟨_,rfl,(1:Int),(m:Int),rfl,rfl,⟨by omega,by omega,by omega,by omega⟩,fun i ρ=>∃ (lks:List (Int × Int)) (cts:List Int) (y7 y8 y9:Option Slot),ρ = [some (.sh true (.scr ns)),si most,si m,some (.sh true (.bl dg)),some (.own (.lst (bX lks))),some (.own (.lst (intz cts))),some (.own (.lst (intz cs))),y7,y8,y9,none,none,none]/\TL (i+1) lks/\cts.length=m/\NN cts,⟨[],_,y7,none,none,rfl,⟨(fun l hl=>by cases hl),bv2,br9 _⟩,bz6,fun z hz=>by rw [List.eq_of_mem_replicate hz]; exact bD6 0⟩,?_,?_⟩
 ·rintro i y ρ hy ⟨lks,cts,y7,y8,y9,rfl,T,cl,nn⟩
  obtain ⟨rfl,hi⟩:=iG hy
  refine i3 ?_
  rw [show (1:Int)+(i:Int)=((i+1:Nat):Int) by omega]
  exact bd7 hc (by omega) (by omega) (by omega) T cl nn fun y8 y9 l c a b d=>⟨l,c,si ((i+1:Nat):Int),y8,y9,rfl,a,b,d⟩
 ·rintro ρ ⟨lks,cts,y7,y8,y9,rfl,T,cl,nn⟩
  rw [dQ] at T
  have T':TL m lks:=by
   by_cases m0:m=0
   ·subst m0
    have e:lks = []:=by
     cases lks with
     | nil=>rfl
     | cons l r=>have:=T.inn l bo4; omega
    subst e
    exact⟨(fun l hl=>by cases hl),bv2,br9 _⟩
   ·rwa [show ((m:Int) - 1).toNat+1=m by omega] at T
  exact bd9 hl hc (by omega) T' cl nn fun ws ls a b c=>q m ws ls z1 a b c
noncomputable abbrev cP:=List (Int × List Int)
noncomputable def aV (W:cP):List Int:=W.map (·.1)
theorem iO {W:cP}{h:Int}:h ∈ aV W ↔ ∃ B,(h,B) ∈ W:=by
 unfold aV
 rw [bp6]
 exact⟨fun ⟨p,hp,e⟩=>⟨p.2,by rw [<- e]; exact hp⟩,fun ⟨w,hw⟩=>⟨_,hw,rfl⟩⟩
section
variable {ws : List Int} {n : Nat} {ls : List (Int × Int)} {P : gU} {W T : cP} {D B : List Int} {h x y c : Int} {e : Option Int}
theorem Rt.kid (R:Rt n ls P) (f:eV ls) (hp:(h,e) ∈ P):c ∈ bM ls h e ↔ (c,some h) ∈ P:=by
 constructor
 ·intro z
  obtain ⟨z1,z2⟩:=iN.mp z
  exact (R.done h e hp c z1).resolve_left fun q=>z2 q.symm
 ·intro z
  obtain ⟨i,hi⟩:=i8 z
  obtain ⟨j,q,ji,hj,hn⟩:=R.par i c h hi
  refine iN.mpr ⟨nM hn,fun ec=>?_⟩
  rw [<- ec] at hp
  obtain ⟨i2,hi2⟩:=i8 hp
  obtain ⟨j2,q2,ji2,hj2,_⟩:=R.par i2 h c hi2
  have e1:=(lB R.nd hj2 hi).1
  have e2:=(lB R.nd hj hi2).1
  omega
noncomputable def cV (ls:List (Int × Int)) (W:cP) (h:Int) (e:Option Int):Int:=(((bM ls h e).filter fun c=>!decide (c ∈ aV W)).length:Nat)
structure eC (P:gU) (W:cP) (D:List Int) (x:Int) (B:List Int):Prop where
 self:x ∈ B
 nd:B.Nodup
 up:∀ y ∈ B,y=x ∨ (y ∈ aV W/\∃ e,(y,some e) ∈ P/\e ∈ B)
 dn:∀ y ∈ B,∀ c,(c,some y) ∈ P->c ∈ aV W->c ∈ B
 inn:∀ y ∈ B,y ∈ D
structure dG (ws:List Int) (ls:List (Int × Int)) (P:gU) (D:List Int) (W T:cP):Prop where
 wk:∀ h B,(h,B) ∈ W->eC P W D h B/\∃ e,(h,some e) ∈ P/\ws.getD h.toNat 0 - cV ls W h (some e)=1
 tk:∀ h B,(h,B) ∈ T->eC P W D h B/\B.Pairwise (· <= ·)/\h ∉ aV W/\∃ e,(h,e) ∈ P/\0 < ws.getD h.toNat 0 - cV ls W h e/\(ws.getD h.toNat 0 - cV ls W h e=1->e=none)
 rs:∀ h e,(h,e) ∈ P->h ∈ D->h ∉ aV W->h ∉ aV T->ws.getD h.toNat 0 - cV ls W h e<=0
 ndw:(aV W).Nodup
 ndt:(aV T).Nodup
theorem dG.wD (A:dG ws ls P D W T) (hh:h ∈ aV W):h ∈ D:=by
 obtain ⟨B,hB⟩:=iO.mp hh
 have b:=(A.wk h B hB).1
 exact b.inn h b.self
theorem dG.tD (A:dG ws ls P D W T) (hh:h ∈ aV T):h ∈ D:=by
 obtain ⟨B,hB⟩:=iO.mp hh
 have b:=(A.tk h B hB).1
 exact b.inn h b.self
theorem eC.apart (R:Rt n ls P) {B':List Int}{x':Int} (b:eC P W D x B) (b':eC P W D x' B') (ne:x ≠ x') (n1:∀ e,(x,some e) ∈ P->x ∈ aV W->e ∉ B') (n2:∀ e,(x',some e) ∈ P->x' ∈ aV W->e ∉ B) :
  ∀ (i:Nat) (y:Int) (q:Option Int),P[i]? = some (y,q)->y ∈ B->y ∈ B'->False:=by
 intro i
 induction i using Nat.strongRecOn with
 | ind i ih=>
  intro y q hi hy hy'
  rcases b.up y hy with z | ⟨z1,e1,z2,z3⟩
  ·rcases b'.up y hy' with w | ⟨w1,e2,w2,w3⟩
   ·exact ne (z.symm.trans w)
   ·rw [z] at w1 w2; exact n1 e2 w2 w1 w3
  ·rcases b'.up y hy' with w | ⟨w1,e2,w2,w3⟩
   ·rw [w] at z1 z2; exact n2 e1 z2 z1 z3
   ·have ee:=nA R.nd z2 w2
    cases ee
    obtain ⟨k,hk⟩:=i8 z2
    obtain ⟨j,q',ji,hj,_⟩:=R.par k y e1 hk
    have:=(lB R.nd hk hi).1
    exact ih j (by omega) e1 q' hj z3 w3
theorem eC.more (b:eC P W D x B) {W':cP}{D':List Int} (w:∀ y,y ∈ aV W->y ∈ aV W') (d:∀ y ∈ D,y ∈ D') (nw:∀ y ∈ D,∀ c,(c,some y) ∈ P->c ∈ aV W'->c ∈ aV W):eC P W' D' x B:=
 ⟨b.self,b.nd,fun y hy=>(b.up y hy).imp id fun ⟨z1,z2⟩=>⟨w y z1,z2⟩,fun y hy c hc hw=>b.dn y hy c hc (nw y (b.inn y hy) c hc hw),fun y hy=>d y (b.inn y hy)⟩
theorem eC.perm (b:eC P W D x B) {B':List Int} (p:B'.Perm B):eC P W D x B':=
 ⟨p.mem_iff.mpr b.self,p.nodup_iff.mpr b.nd,fun y hy=>(b.up y (p.mem_iff.mp hy)).imp id fun ⟨z1,e,z2,z3⟩=>⟨z1,e,z2,p.mem_iff.mpr z3⟩,fun y hy c hc hw=>p.mem_iff.mpr (b.dn y (p.mem_iff.mp hy) c hc hw),fun y hy=>b.inn y (p.mem_iff.mp hy)⟩
noncomputable def eY (W:cP) (c:Int):List Int:=((W.find? fun p=>decide (p.1=c)).map (·.2)).getD []
theorem oS (nd:(aV W).Nodup) (hB:(c,B) ∈ W):eY W c=B:=by
 unfold eY
 cases e:W.find? fun p=>decide (p.1=c) with
 | none=>have:=List.find?_eq_none.mp e _ hB; simp at this
 | some p=>
  have h1:=List.find?_some e
  have h2:=List.mem_of_find?_eq_some e
  have h3:p.1=c:=by simpa using h1
  obtain ⟨a,b⟩:=p
  dsimp only at h3
  subst h3
  obtain ⟨i,hi⟩:=bz7.mp h2
  obtain ⟨j,hj⟩:=bz7.mp hB
  have k1:(aV W)[i]? = some a:=by unfold aV; rw [bo8,hi]; rfl
  have k2:(aV W)[j]? = some a:=by unfold aV; rw [bo8,hj]; rfl
  have:=(bD4 (bn8.mp k1).1 nd).mp (k1.trans k2.symm)
  subst this
  rw [hi] at hj
  cases hj; rfl
theorem rA (hc:c ∉ aV W):eY W c = []:=by
 unfold eY
 rw [List.find?_eq_none.mpr fun p hp=>by simp; exact fun z=>hc (iO.mpr ⟨p.2,by rw [<- z]; exact hp⟩)]; rfl
noncomputable def fJ (ls:List (Int × Int)) (W:cP) (h:Int) (e:Option Int):List Int:=h :: (bM ls h e).flatMap (eY W)
theorem uE (R:Rt n ls P) (f:eV ls) (A:dG ws ls P D W T) (hp:(h,e) ∈ P) (hD:h ∉ D) {W':cP} (w:∀ y,y ∈ aV W->y ∈ aV W') (nw:∀ y c,(c,some y) ∈ P->c ∈ aV W'->y=h ∨ y ∈ D->c ∈ aV W) :
  eC P W' (h :: D) h (fJ ls W h e):=by
 have inB:∀ y,y ∈ (bM ls h e).flatMap (eY W) ↔ ∃ c B,(c,B) ∈ W/\(c,some h) ∈ P/\y ∈ B:=fun y=>by
  rw [List.mem_flatMap]
  constructor
  ·rintro ⟨c,hc,hy⟩
   by_cases ck:c ∈ aV W
   ·obtain ⟨B,hB⟩:=iO.mp ck
    rw [oS A.ndw hB] at hy
    exact⟨c,B,hB,(R.kid f hp).mp hc,hy⟩
   ·rw [rA ck] at hy; cases hy
  ·rintro ⟨c,B,hB,hc,hy⟩
   exact⟨c,(R.kid f hp).mpr hc,by rw [oS A.ndw hB]; exact hy⟩
 have mB:∀ y,y ∈ fJ ls W h e ↔ y=h ∨ ∃ c B,(c,B) ∈ W/\(c,some h) ∈ P/\y ∈ B:=fun y=>by
  unfold fJ; rw [bo3,inB]
 refine⟨bo4,?_,fun y hy=>?_,fun y hy c hc hw=>?_,fun y hy=>?_⟩
 ·refine bu0.mpr ⟨fun z=>?_,?_⟩
  ·obtain ⟨c,B,hB,_,hy⟩:=(inB h).mp z
   exact hD ((A.wk c B hB).1.inn h hy)
  ·have kn:(bM ls h e).Nodup:=(f.nnd h).filter _
   refine List.pairwise_flatMap.mpr ⟨fun c hc=>?_,kn.imp_of_mem fun {c c'} hc hc' ne=>?_⟩
   ·by_cases ck:c ∈ aV W
    ·obtain ⟨B,hB⟩:=iO.mp ck
     rw [oS A.ndw hB]
     exact (A.wk c B hB).1.nd
    ·rw [rA ck]; exact bv2
   ·intro y hy y2 hy' ey
    subst ey
    by_cases ck:c ∈ aV W
    ·by_cases ck':c' ∈ aV W
     ·obtain ⟨B,hB⟩:=iO.mp ck
      obtain ⟨B',hB'⟩:=iO.mp ck'
      rw [oS A.ndw hB] at hy
      rw [oS A.ndw hB'] at hy'
      have b:=(A.wk c B hB).1
      have b':=(A.wk c' B' hB').1
      have kc:=(R.kid f hp).mp hc
      have kc':=(R.kid f hp).mp hc'
      have ym:y ∈ P.map (·.1):=by
       rcases b.up y hy with z | ⟨_,e',z,_⟩
       ·rw [z]; exact bp6.mpr ⟨_,kc,rfl⟩
       ·exact bp6.mpr ⟨_,z,rfl⟩
      obtain ⟨⟨y',q⟩,hq,rfl⟩:=bp6.mp ym
      obtain ⟨i,hi⟩:=i8 hq
      exact eC.apart R b b' ne (fun e1 z _ ze=>hD (b'.inn _ (by have:=nA R.nd z kc; cases this; exact ze))) (fun e1 z _ ze=>hD (b.inn _ (by have:=nA R.nd z kc'; cases this; exact ze))) i y' q hi hy hy'
     ·rw [rA ck'] at hy'; cases hy'
    ·rw [rA ck] at hy; cases hy
 ·rcases (mB y).mp hy with z | ⟨c,B,hB,hc,hb⟩
  ·exact .inl z
  ·have b:=(A.wk c B hB).1
   rcases b.up y hb with z | ⟨z1,e1,z2,z3⟩
   ·rw [z]
    exact .inr ⟨w c (iO.mpr ⟨B,hB⟩),h,hc,(mB h).mpr (.inl rfl)⟩
   ·exact .inr ⟨w y z1,e1,z2,(mB e1).mpr (.inr ⟨c,B,hB,hc,z3⟩)⟩
 ·rcases (mB y).mp hy with z | ⟨c',B,hB,hc',hb⟩
  ·subst z
   obtain ⟨B,hB⟩:=iO.mp (nw y c hc hw (.inl rfl))
   exact (mB c).mpr (.inr ⟨c,B,hB,hc,(A.wk c B hB).1.self⟩)
  ·have b:=(A.wk c' B hB).1
   exact (mB c).mpr (.inr ⟨c',B,hB,hc',b.dn y hb c hc (nw y c hc hw (.inr (b.inn y hb)))⟩)
 ·rcases (mB y).mp hy with z | ⟨c,B,hB,hc,hb⟩
  ·rw [z]; exact bo4
  ·exact bo5 _ ((A.wk c B hB).1.inn y hb)
theorem be1 {W':cP} (k:∀ c ∈ bM ls h e,(c ∈ aV W' ↔ c ∈ aV W)):cV ls W' h e=cV ls W h e:=by
 unfold cV
 congr 2
 refine bA9 fun c hc=>?_
 rw [decide_eq_decide.mpr (k c hc)]
theorem dG.wait (R:Rt n ls P) (f:eV ls) (A:dG ws ls P D W T) {g:Int} (hp:(h,some g) ∈ P) (hD:h ∉ D) (dk:∀ y ∈ D,(h,some y) ∉ P) (lack:ws.getD h.toNat 0 - cV ls W h (some g)=1):dG ws ls P (h :: D) (W ++ [(h,fJ ls W h (some g))]) T:=by
 have kw:∀ y,y ∈ aV (W ++ [(h,fJ ls W h (some g))]) ↔ y ∈ aV W ∨ y=h:=fun y=>by
  unfold aV; rw [bp1,bo6,List.map_singleton,bo2]
 have hW:h ∉ aV W:=fun z=>hD (A.wD z)
 have hh:(h,some h) ∉ P:=fun z=>by
  have:=(R.kid f hp (c:=h)).mpr z
  exact f.irr h (iN.mp this).1
 have nw:∀ y c,(c,some y) ∈ P->c ∈ aV (W ++ [(h,fJ ls W h (some g))])->y=h ∨ y ∈ D->c ∈ aV W:=fun y c hc hw hy=>by
  rcases (kw c).mp hw with z | z
  ·exact z
  ·subst z
   rcases hy with z | z
   ·subst z; exact absurd hc hh
   ·exact absurd hc (dk y z)
 have same:∀ y e,(y,e) ∈ P->y=h ∨ y ∈ D->cV ls (W ++ [(h,fJ ls W h (some g))]) y e=cV ls W y e:=fun y e hy hd=>be1 fun c hc=>⟨fun z=>nw y c ((R.kid f hy).mp hc) z hd,fun z=>(kw c).mpr (.inl z)⟩
 refine⟨fun x B hB=>?_,fun x B hB=>?_,fun x e hx hd n1 n2=>?_,?_,A.ndt⟩
 ·rcases bo6.mp hB with z | z
  ·obtain ⟨b,e,he,l⟩:=A.wk x B z
   exact⟨b.more (fun y hy=>(kw y).mpr (.inl hy)) (fun y hy=>bo5 _ hy) fun y hy c hc hw=>nw y c hc hw (.inr hy),e,he,by rw [same x _ he (.inr (b.inn x b.self))]; exact l⟩
  ·cases bo2.mp z
   exact⟨uE R f A hp hD (fun y hy=>(kw y).mpr (.inl hy)) nw,g,hp,by rw [same h _ hp (.inl rfl)]; exact lack⟩
 ·obtain ⟨b,so,nk,e,he,l⟩:=A.tk x B hB
  have xD:=b.inn x b.self
  refine⟨b.more (fun y hy=>(kw y).mpr (.inl hy)) (fun y hy=>bo5 _ hy) fun y hy c hc hw=>nw y c hc hw (.inr hy),so,fun z=>?_,e,he,by rw [same x _ he (.inr xD)]; exact l⟩
  rcases (kw x).mp z with z | z
  ·exact nk z
  ·rw [z] at xD; exact hD xD
 ·rcases bo3.mp hd with z | z
  ·exact absurd ((kw x).mpr (.inr z)) n1
  ·rw [same x e hx (.inr z)]
   exact A.rs x e hx z (fun q=>n1 ((kw x).mpr (.inl q))) n2
 ·unfold aV
  rw [bp1,bu1]
  exact⟨A.ndw,bq2 _ _,fun a ha b hb e=>by rw [List.map_singleton,bo2] at hb; exact hW (by have q:a=h:=e.trans hb; rw [<- q]; exact ha)⟩
theorem dG.take (R:Rt n ls P) (f:eV ls) (A:dG ws ls P D W T) (hp:(h,e) ∈ P) (hD:h ∉ D) (lack:0 < ws.getD h.toNat 0 - cV ls W h e) (one:ws.getD h.toNat 0 - cV ls W h e=1->e=none) (pm:B.Perm (fJ ls W h e)) (so:B.Pairwise (· <= ·)):dG ws ls P (h :: D) W (T ++ [(h,B)]):=by
 have kt:∀ y,y ∈ aV (T ++ [(h,B)]) ↔ y ∈ aV T ∨ y=h:=fun y=>by
  unfold aV; rw [bp1,bo6,List.map_singleton,bo2]
 have hW:h ∉ aV W:=fun z=>hD (A.wD z)
 have hT:h ∉ aV T:=fun z=>hD (A.tD z)
 refine⟨fun x B hB=>?_,fun x B' hB=>?_,fun x e hx hd n1 n2=>?_,A.ndw,?_⟩
 ·obtain ⟨b,e,he,l⟩:=A.wk x B hB
  exact⟨b.more (fun y hy=>hy) (fun y hy=>bo5 _ hy) fun y hy c hc hw=>hw,e,he,l⟩
 ·rcases bo6.mp hB with z | z
  ·obtain ⟨b,so,nk,e,he,l⟩:=A.tk x B' z
   exact⟨b.more (fun y hy=>hy) (fun y hy=>bo5 _ hy) fun y hy c hc hw=>hw,so,nk,e,he,l⟩
  ·cases bo2.mp z
   exact⟨(uE R f A hp hD (fun y hy=>hy) fun _ _ _ hw _=>hw).perm pm,so,hW,e,hp,lack,one⟩
 ·rcases bo3.mp hd with z | z
  ·exact absurd ((kt x).mpr (.inr z)) n2
  ·exact A.rs x e hx z n1 fun q=>n2 ((kt x).mpr (.inl q))
 ·unfold aV
  rw [bp1,bu1]
  exact⟨A.ndt,bq2 _ _,fun a ha b hb e=>by rw [List.map_singleton,bo2] at hb; exact hT (by have q:a=h:=e.trans hb; rw [<- q]; exact ha)⟩
theorem dG.lit (A:dG ws ls P D W T) (hp:(h,e) ∈ P) (nd:(P.map (·.1)).Nodup) (lack:ws.getD h.toNat 0 - cV ls W h e<=0):dG ws ls P (h :: D) W T:=by
 refine⟨fun x B hB=>?_,fun x B' hB=>?_,fun x e' hx hd n1 n2=>?_,A.ndw,A.ndt⟩
 ·obtain ⟨b,e,he,l⟩:=A.wk x B hB
  exact⟨b.more (fun y hy=>hy) (fun y hy=>bo5 _ hy) fun y hy c hc hw=>hw,e,he,l⟩
 ·obtain ⟨b,so,nk,e,he,l⟩:=A.tk x B' hB
  exact⟨b.more (fun y hy=>hy) (fun y hy=>bo5 _ hy) fun y hy c hc hw=>hw,so,nk,e,he,l⟩
 ·rcases bo3.mp hd with z | z
  ·subst z
   cases nA nd hx hp
   exact lack
  ·exact A.rs x e' hx z n1 n2
structure uF (ws:List Int) (ls:List (Int × Int)) (qs:cP):Prop where
 seeds:b4 ws.length (aV qs)=true
 lit:kE ws ls (aV qs)=true
 sets:∀ q ∈ qs,b4 ws.length q.2=true/\q.1 ∈ q.2/\stay ws ls q.2=q.2
 apart:qs.Pairwise fun a b=>∀ x ∈ a.2,x ∉ b.2
theorem A6 {S L:List Int} (nd:(aO ls y).Nodup) (sub:∀ z ∈ aO ls y,z ∉ S->z ∈ L):lX (aO ls y) S<=(L.length:Int):=by
 have e:=zP (fun _:Int=>true) (fun z=>decide (z ∈ S)) (aO ls y)
 have a:(aO ls y).filter (fun _=>true)=aO ls y:=bw7.mpr fun _ _=>rfl
 rw [a] at e
 have b:((aO ls y).filter fun x=>true && !decide (x ∈ S)).length<=L.length:=iM (nd.filter _) fun z hz=>by
  obtain ⟨h1,h2⟩:=bp3.mp hz
  refine sub z h1 ?_
  simpa using h2
 have c:((aO ls y).filter fun x=>decide (x ∈ S) && true)=(aO ls y).filter fun x=>decide (x ∈ S):=bA9 fun x _=>bB9 _
 rw [c] at e
 unfold lX
 omega
theorem dG.cold (R:Rt n ls P) (f:eV ls) (A:dG ws ls P D W T) (hB:(x,B) ∈ T):stay ws ls B=B:=by
 obtain ⟨b,_,nk,e,he,l,l1⟩:=A.tk x B hB
 unfold stay
 refine bw7.mpr fun y hy=>?_
 unfold lY
 refine bn4 ?_
 rcases b.up y hy with z | ⟨z1,g,z2,z3⟩
 ·subst z
  cases e with
  | none=>
   have:=A6 (S:=B) (L:=(bM ls y none).filter fun c=>!decide (c ∈ aV W)) (f.nnd y) fun c hc nc=>by
    have ck:c ∈ bM ls y none:=iN.mpr ⟨hc,by simp⟩
    refine bp3.mpr ⟨ck,?_⟩
    rw [bn9 fun q=>nc (b.dn y hy c ((R.kid f he).mp ck) q)]; rfl
   unfold cV at l
   omega
  | some g=>
   have:=A6 (S:=B) (L:=g :: (bM ls y (some g)).filter fun c=>!decide (c ∈ aV W)) (f.nnd y) fun c hc nc=>by
    by_cases cg:c=g
    ·rw [cg]; exact bo4
    ·have ck:c ∈ bM ls y (some g):=iN.mpr ⟨hc,fun q=>cg (bq3 q)⟩
     refine bo5 _ (bp3.mpr ⟨ck,?_⟩)
     rw [bn9 fun q=>nc (b.dn y hy c ((R.kid f he).mp ck) q)]; rfl
   have n1:ws.getD y.toNat 0 - cV ls W y (some g) ≠ 1:=fun q=>by cases l1 q
   unfold cV at l n1
   rw [bp8] at this
   omega
 ·obtain ⟨By,hBy⟩:=iO.mp z1
  obtain ⟨_,g',he',l'⟩:=A.wk y By hBy
  cases nA R.nd z2 he'
  have:=A6 (S:=B) (L:=(bM ls y (some g)).filter fun c=>!decide (c ∈ aV W)) (f.nnd y) fun c hc nc=>by
   have ck:c ∈ bM ls y (some g):=iN.mpr ⟨hc,fun q=>nc (by rw [bq3 q]; exact z3)⟩
   refine bp3.mpr ⟨ck,?_⟩
   rw [bn9 fun q=>nc (b.dn y hy c ((R.kid f z2).mp ck) q)]; rfl
  unfold cV at l'
  omega
theorem ai7 {U L:List Int} (sh:hZ ws ls U) (hy:y ∈ rng ws.length) (nd:L.Nodup) (sub:∀ z ∈ L,z ∈ aO ls y/\z ∈ U) (en:ws.getD y.toNat 0<=(L.length:Int)):y ∈ U:=by
 refine bu6 fun no=>?_
 have k:=sh y hy
 unfold kin at k
 rw [bn9 no,Bool.not_false,Bool.true_and,bB0] at k
 have:=iM nd (m:=(aO ls y).filter fun x=>decide (x ∈ U)) fun z hz=>bp3.mpr ⟨(sub z hz).1,bn4 (sub z hz).2⟩
 omega
theorem dG.lights (R:Rt ws.length ls P) (f:eV ls) (A:dG ws ls P D W T) (all:∀ h ∈ rng ws.length,h ∈ D):kE ws ls (aV T)=true:=by
 refine tZ.mpr fun U sh sub=>?_
 have inR:∀ {h e},(h,e) ∈ P->h ∈ rng ws.length:=fun {h e} hp=>(R.mem h).mp (bp6.mpr ⟨_,hp,rfl⟩)
 have one:∀ (k i:Nat) (h:Int) (e:Option Int),i+k=P.length->P[i]? = some (h,e)->h ∉ aV W->h ∈ U:=by
  intro k
  induction k using Nat.strongRecOn with
  | ind k ih=>
   intro i h e ik hi hw
   have hp:=bp0 hi
   by_cases ht:h ∈ aV T
   ·exact sub h ht
   ·have l:=A.rs h e hp (all h (inR hp)) hw ht
    refine ai7 sh (inR hp) (L:=(bM ls h e).filter fun c=>!decide (c ∈ aV W)) (((f.nnd h).filter _).filter _) (fun c hc=>?_) (by unfold cV at l; omega)
    obtain ⟨c1,c2⟩:=bp3.mp hc
    have cp:=(R.kid f hp).mp c1
    obtain ⟨j,hj⟩:=i8 cp
    obtain ⟨i',q,i'j,hi',_⟩:=R.par j c h hj
    have e1:=(lB R.nd hi' hi).1
    have jl:=(bn8.mp hj).1
    exact⟨(iN.mp c1).1,ih (P.length - j) (by omega) j c (some h) (by omega) hj (by simpa using c2)⟩
 have two:∀ (i:Nat) (h:Int) (e:Option Int),P[i]? = some (h,e)->h ∈ U:=by
  intro i
  induction i using Nat.strongRecOn with
  | ind i ih=>
   intro h e hi
   have hp:=bp0 hi
   by_cases hw:h ∈ aV W
   ·obtain ⟨B,hB⟩:=iO.mp hw
    obtain ⟨_,g,hg,l⟩:=A.wk h B hB
    cases nA R.nd hp hg
    obtain ⟨j,q,ji,hj,gn⟩:=R.par i h g hi
    refine ai7 sh (inR hp) (L:=g :: (bM ls h (some g)).filter fun c=>!decide (c ∈ aV W)) (bu0.mpr ⟨fun z=>(iN.mp (bp3.mp z).1).2 rfl,((f.nnd h).filter _).filter _⟩) (fun c hc=>?_) (by rw [bp8]; unfold cV at l; omega)
    rcases bo3.mp hc with z | z
    ·rw [z]; exact⟨gn,ih j ji g q hj⟩
    ·obtain ⟨c1,c2⟩:=bp3.mp z
     obtain ⟨j',hj'⟩:=i8 ((R.kid f hp).mp c1)
     have jl:=(bn8.mp hj').1
     exact⟨(iN.mp c1).1,one (P.length - j') j' c (some h) (by omega) hj' (by simpa using c2)⟩
   ·have il:=(bn8.mp hi).1
    exact one (P.length - i) i h e (by omega) hi hw
 intro h hh
 obtain ⟨⟨h',e⟩,hp,rfl⟩:=bp6.mp ((R.mem h).mpr hh)
 obtain ⟨i,hi⟩:=i8 hp
 exact two i h' e hi
theorem ai8 (nd:B.Nodup) (so:B.Pairwise (· <= ·)) (inn:∀ x ∈ B,x ∈ rng n):b4 n B=true:=by
 have up:B.Pairwise (· < ·):=(List.Pairwise.and so nd).imp fun z=>Int.lt_iff_le_and_ne.mpr ⟨z.1,z.2⟩
 unfold b4
 rw [br3,bw4]
 refine⟨t4 up,fun b hb=>?_⟩
 obtain ⟨x,hx,rfl⟩:=bp6.mp hb
 have:=eG.mp (inn x hx)
 show inB n x=true
 unfold inB
 simp only [br3,bv3]
 omega
theorem dG.paper (R:Rt ws.length ls P) (f:eV ls) (A:dG ws ls P D W T) (all:∀ h,h ∈ D ↔ h ∈ rng ws.length) {qs:cP} (pm:qs.Perm T) (so:qs.Pairwise fun u v=>u.1 < v.1):uF ws ls qs:=by
 have ks:∀ h,h ∈ aV qs ↔ h ∈ aV T:=fun h=>(pm.map _).mem_iff
 refine⟨?_,?_,fun q hq=>?_,?_⟩
 ·have up:(aV qs).Pairwise (· < ·):=bx0.mpr so
  exact ai8 (up.imp fun z=>bx1 z) (up.imp fun z=>Int.le_of_lt z) fun x hx=>(all x).mp (A.tD ((ks x).mp hx))
 ·have:=A.lights R f fun h hh=>(all h).mpr hh
  rw [tZ] at this ⊢
  exact fun U sh sub=>this U sh fun x hx=>sub x ((ks x).mpr hx)
 ·obtain ⟨x,B⟩:=q
  have hB:=pm.mem_iff.mp hq
  obtain ⟨b,so,_⟩:=A.tk x B hB
  exact⟨ai8 b.nd so fun y hy=>(all y).mp (b.inn y hy),b.self,A.cold R f hB⟩
 ·refine so.imp_of_mem fun {u v} hu hv lt y hy hy'=>?_
  obtain ⟨x,B⟩:=u
  obtain ⟨x',B'⟩:=v
  obtain ⟨b,_,n1,_⟩:=A.tk x B (pm.mem_iff.mp hu)
  obtain ⟨b',_,n2,_⟩:=A.tk x' B' (pm.mem_iff.mp hv)
  have ym:y ∈ P.map (·.1):=(R.mem y).mpr ((all y).mp (b.inn y hy))
  obtain ⟨⟨y',q⟩,hq,rfl⟩:=bp6.mp ym
  obtain ⟨i,hi⟩:=i8 hq
  exact eC.apart R b b' (fun z=>by dsimp only at lt; omega) (fun _ _ z=>absurd z n1) (fun _ _ z=>absurd z n2) i y' q hi hy hy'
end
noncomputable def eM (W:cP):List (aE × PV):=W.map fun p=>((Sum.inl p.1:aE),PV.lst (intz p.2))
theorem be2 (W:cP):(eM W).map (·.1)=(aV W).map (Sum.inl:Int->aE):=by unfold eM aV; rw [bv5,bv5]; rfl
theorem be3 {W:cP}{h:Int}{w:List Int} (hn:h ∉ aV W):dR (eM W) (Sum.inl h:aE) (.lst (intz w))=eM (W ++ [(h,w)]):=by
 rw [yW (be2 W) hn]; unfold eM; rw [bp1]; rfl
theorem A7:∀ {W:cP}{h:Int}{w:List Int},(aV W).Nodup->(h,w) ∈ W->bV (eM W) (Sum.inl h:aE)=some (.lst (intz w))
 | [],_,_,_,z=>by cases z
 | p :: D,h,w,nd,z=>by
  obtain ⟨n1,n2⟩:=bu0.mp (show (p.1 :: aV D).Nodup from nd)
  rcases bo3.mp z with rfl | z
  ·exact jN (p:=((Sum.inl h:aE),PV.lst (intz w))) rfl
  ·have ne:p.1 ≠ h:=fun e=>n1 (e ▸ bp6.mpr ⟨(h,w),z,rfl⟩)
   exact (j6 (p:=((Sum.inl p.1:aE),PV.lst (intz p.2))) fun e=>ne (Sum.inl.inj e)).trans (A7 n2 z)
theorem A8:∀ {W:cP}{h:Int},h ∉ aV W->bV (eM W) (Sum.inl h:aE)=none
 | [],_,_=>rfl
 | p :: D,h,z=>by
  have ne:p.1 ≠ h:=fun e=>z (by rw [<- e]; exact bo4)
  exact (j6 (p:=((Sum.inl p.1:aE),PV.lst (intz p.2))) fun e=>ne (Sum.inl.inj e)).trans (A8 fun q=>z (bo5 _ q))
theorem be4 {W:cP}{h:Int} (nd:(aV W).Nodup):(bV (eM W) (Sum.inl h:aE)).isSome=decide (h ∈ aV W):=by
 by_cases z:h ∈ aV W
 ·obtain ⟨B,hB⟩:=iO.mp z
  rw [A7 nd hB,bn4 z]; rfl
 ·rw [A8 z,bn9 z]; rfl
theorem be5 {W:cP}{h:Int} (nd:(aV W).Nodup):(bV (eM W) (Sum.inl h:aE)).getD (.lst []) = .lst (intz (eY W h)):=by
 by_cases z:h ∈ aV W
 ·obtain ⟨B,hB⟩:=iO.mp z
  rw [A7 nd hB,oS nd hB]; rfl
 ·rw [A8 z,rA z]; rfl
noncomputable def ai9 (qs:cP):PV:=.tup [.tup (intz (aV qs)),.tup (tups (qs.map (·.2)))]
noncomputable def uG:bK:=fun xs Q=>∃ ws ls,xs = [b7 ws ls]/\Wb ws ls/\fU ws.length ls/\eW ws.length ls/\∀ qs,uF ws ls qs->Q (ai9 qs)
noncomputable def aj0:aI:=(bL (kR (aT (dA (a5 7) (qC (.int 1)))) (aT (aJ0 (a5 5) (qC .non)))) (sK 8 (mQ 2 (a5 4) (a5 8))) (bL (aT (jI (a5 7) (qC (.int 0)))) (iX 3 (c7 (a6 (a5 4) (a6 (aB eS (a6 (aB sM (a6 (a5 8) a9)) a9)) a9)))) bR))
noncomputable def aj1:aI:=(aD (b6 6 (aB oR (a6 (a5 1) (a6 (a5 4) (a6 (a5 5) a9)))))
  (aD (b6 7 (lQ (bE (bE (a5 0) (qC (.int 0))) (a5 4)) (aB bT (a6 (cS (cR (a5 6)) [none,some 2] (bO 0) (aT (j3 true (a5 0) (a5 1))) (a5 0)) a9))))
  (aD (cZ 8 (eR (a6 (a5 4) a9)))
  (aD (dJ (cR (a5 6)) (bO 9)
   (sL 8 (A3 (a5 2) (a5 9) (eR a9))))
  aj0))))
noncomputable def aj2:aI:=(aD (b6 10 (aB A0 (a6 (a5 3) a9)))
 (bF (c7 (a6 (aB eS (a6 (cS (cR (a5 10)) [none,none] (iZ 0 1) e9 (a5 0)) a9)) (a6 (aB eS (a6 (cS (cR (a5 10)) [none,none] (iZ 0 1) e9 (a5 1)) a9)) a9)))))
noncomputable def aj3:aI:=(aD (b6 1 (aB iI (a6 (a5 0) a9)))
 (aD (cZ 2 (qC (.dK [])))
 (aD (cZ 3 (eR a9))
 (aD (dJ (zL (aB uC (a6 (a5 0) a9))) (iZ 4 5)
  aj1)
 aj2))))
section
variable {ws : List Int} {n : Nat} {ls : List (Int × Int)} {P : gU} {W T : cP} {D : List Int} {E : hG} {h : Int} {e : Option Int} {s0 s1 y9 y10 : Option Slot}
theorem aj4 (n40:n<=40) (b:eC P W D h (fJ ls W h e)) (inn:∀ y ∈ D,y ∈ rng n):(fJ ls W h e).length<=n:=by
 have:=iM b.nd (m:=rng n) fun y hy=>inn y (b.inn y hy)
 rwa [dM] at this
theorem be6 (R:Rt ws.length ls P) (f:eV ls) (n40:ws.length<=40) (A:dG ws ls P D W T) (hp:(h,e) ∈ P) (hD:h ∉ D) (dk:∀ y ∈ D,(h,some y) ∉ P) (inn:∀ y ∈ D,y ∈ rng ws.length) (tl:T.length<=D.length) (wl:W.length<=D.length) (dl:D.length<=40) {s6:Option Slot}
  (nx:∀ (W' T':cP) (y8:Option Slot),dG ws ls P (h :: D) W' T'->T'.length<=D.length+1->W'.length<=D.length+1->E.nx [s0,s1,some (.own (.dK (eM W'))),some (.own (.lst (T'.map dY))),si h,some (.sh true (kB e)),s6,si (ws.getD h.toNat 0 - cV ls W h e),y8,y9,y10]) :
  aj0 E [s0,s1,some (.own (.dK (eM W))),some (.own (.lst (T.map dY))),si h,some (.sh true (kB e)),s6,si (ws.getD h.toNat 0 - cV ls W h e),some (.own (.lst (intz (fJ ls W h e)))),y9,y10]:=by
 have hr:h ∈ rng ws.length:=(R.mem h).mp (bp6.mpr ⟨_,hp,rfl⟩)
 have b:=uE R f A hp hD (W':=W) (fun y hy=>hy) fun _ _ _ hw _=>hw
 have bl:=aj4 n40 b fun y hy=>(bo3.mp hy).elim (fun z=>z ▸ hr) (inn y)
 have hW:h ∉ aV W:=fun z=>hD (A.wD z)
 have dH:(ws.getD h.toNat 0 - cV ls W h e=1->e=none)->(bL (aT (jI (a5 7) (qC (.int 0)))) (iX 3 (c7 (a6 (a5 4) (a6 (aB eS (a6 (aB sM (a6 (a5 8) a9)) a9)) a9)))) bR) E [s0,s1,some (.own (.dK (eM W))),some (.own (.lst (T.map dY))),si h,some (.sh true (kB e)),s6,si (ws.getD h.toNat 0 - cV ls W h e),some (.own (.lst (intz (fJ ls W h e)))),y9,y10]:=fun one=>by
  refine⟨_,rfl,_,_,rfl,rfl,_,rfl,?_⟩
  by_cases l:0 < ws.getD h.toNat 0 - cV ls W h e
  ·rw [bn4 l]
   refine b9 ⟨_,rfl,_,rfl,_,rfl,fJ ls W h e,rfl,by omega,fun ms pm so=>?_⟩
   refine⟨⟨_,_,rfl,rfl,bJ _,by show 2<=1000; decide,?_,trivial,?_,?_⟩,fun ns z=>by cases z⟩
   ·show (true && (flats (intz ms) && true))=true
    rw [bJ]; rfl
   ·rw [bn7]; omega
   ·have:=nx W (T ++ [(h,ms)]) (some (.own (.lst (intz (fJ ls W h e))))) (A.take R f hp hD l one pm so) (by rw [bo0,br1]; omega) (by omega)
    rw [bp1] at this
    exact this
  ·rw [bn9 l]
   exact b8 (nx W T _ (A.lit hp R.nd (by omega)) (by omega) (by omega))
 refine⟨_,rfl,.inl ⟨_,_,rfl,rfl,_,rfl,?_⟩⟩
 show if decide (ws.getD h.toNat 0 - cV ls W h e=1)=true then _ else _
 by_cases l:ws.getD h.toNat 0 - cV ls W h e=1
 ·rw [bn4 l]
  refine b9 ?_
  cases e with
  | none=>exact⟨_,rfl,rfl,_,rfl,b8 (dH fun _=>rfl)⟩
  | some g=>
   refine⟨_,rfl,rfl,_,rfl,b9 ?_⟩
   refine⟨_,rfl,_,rfl,eM W,rfl,_,rfl,Sum.inl h,rfl,trivial,?_,?_⟩
   ·have:(eM W).length=W.length:=bn7 _
    omega
   ·have:=nx (W ++ [(h,fJ ls W h (some g))]) T (some (.sh true (.lst (intz (fJ ls W h (some g)))))) (A.wait R f hp hD dk l) (by omega) (by rw [bo0,br1]; omega)
    rw [<- be3 hW] at this
    exact this
 ·rw [bn9 l]
  exact b8 (b8 (dH fun z=>absurd z l))
theorem be7 (R:Rt ws.length ls P) (lk:fU ws.length ls) (n40:ws.length<=40) (A:dG ws ls P D W T) (hp:(h,e) ∈ P) (hD:h ∉ D) (dk:∀ y ∈ D,(h,some y) ∉ P) (inn:∀ y ∈ D,y ∈ rng ws.length) (tl:T.length<=D.length) (wl:W.length<=D.length) (dl:D.length<=40) {y6 y7 y8:Option Slot}
  (nx:∀ (W' T':cP) (y6 y7 y8 y9:Option Slot),dG ws ls P (h :: D) W' T'->T'.length<=D.length+1->W'.length<=D.length+1->E.nx [some (.sh true (b7 ws ls)),some (.sh true (.lst (dC ws.length ls))),some (.own (.dK (eM W'))),some (.own (.lst (T'.map dY))),si h,some (.sh true (kB e)),y6,y7,y8,y9,y10]) :
  aj1 E [some (.sh true (b7 ws ls)),some (.sh true (.lst (dC ws.length ls))),some (.own (.dK (eM W))),some (.own (.lst (T.map dY))),si h,some (.sh true (kB e)),y6,y7,y8,y9,y10]:=by
 have hr:=(R.mem h).mp (bp6.mpr ⟨_,hp,rfl⟩)
 have hm:=eG.mp hr
 have nl:=lk.nlen h
 have kl:(bM ls h e).length<=ws.length:=by have:=bt1 (fun x=>!decide (some x=e)) (aO ls h); unfold bM; omega
 refine⟨_,rfl,_,rfl,_,rfl,ws.length,ls,h,e,rfl,hm.1,hm.2,by omega,trivial,?_⟩
 have a1:L2.atI (intz ws) h=some (.int (ws.getD h.toNat 0)):=by
  obtain ⟨j,ej⟩:∃ j:Nat,h=j:=⟨h.toNat,by omega⟩
  rw [ej,bq7]; exact gR (by omega)
 refine⟨_,rfl,_,_,_,rfl,rfl,rfl,_,rfl,_,_,_,rfl,rfl,a1,_,rfl,intz (bM ls h e),rfl,(fun z=>by cases z),by rw [aZ]; omega,fun i acc=>acc=intz (((bM ls h e).take i).filter fun c=>!decide (c ∈ aV W)),rfl,?_,?_⟩
 ·rintro i y acc hy rfl
  obtain ⟨c,rfl,hc⟩:=fP hy
  have tk:=kX (p:=fun c=>!decide (c ∈ aV W)) hc
  refine⟨_,rfl,_,rfl,_,.inl ⟨eM W,Sum.inl c,rfl,rfl,rfl⟩,_,rfl,?_⟩
  rw [be4 A.ndw]
  by_cases z:c ∈ aV W
  ·rw [bn4 z]
   refine b8 ?_
   dsimp only
   rw [tk,bn4 z]; exact (br6 _).symm ▸ rfl
  ·rw [bn9 z]
   refine b9 ⟨_,rfl,trivial,?_⟩
   dsimp only
   rw [tk,bn9 z,dW]; rfl
 rintro acc rfl
 rw [aZ,br5 (bo7 _)]
 refine⟨_,_,rfl,rfl,_,_,rfl,rfl,trivial,?_⟩
 rw [aZ]
 refine⟨_,rfl,by show 1<=1000; decide,rfl,rfl,rfl,?_⟩
 refine⟨_,rfl,intz (bM ls h e),rfl,(fun z=>by cases z),fun i ρ=>∃ y9:Option Slot,ρ = [some (.sh true (b7 ws ls)),some (.sh true (.lst (dC ws.length ls))),some (.own (.dK (eM W))),some (.own (.lst (T.map dY))),si h,some (.sh true (kB e)),some (.sh true (.lst (intz (bM ls h e)))),si (ws.getD h.toNat 0 - cV ls W h e),some (.own (.lst (intz (h :: ((bM ls h e).take i).flatMap (eY W))))),y9,y10],⟨y9,rfl⟩,?_,?_⟩
 ·rintro i y ρ hy ⟨y9,rfl⟩
  obtain ⟨c,rfl,hc⟩:=fP hy
  refine i3 ?_
  have b:=uE R lk.fit A hp hD (W':=W) (fun y hy=>hy) fun _ _ _ hw _=>hw
  have bl:=aj4 n40 b fun y hy=>(bo3.mp hy).elim (fun z=>z ▸ hr) (inn y)
  have l1:((h :: ((bM ls h e).take i).flatMap (eY W)) ++ eY W c).length<=(fJ ls W h e).length:=by
   have e0:(bM ls h e)=(bM ls h e).take i ++ c :: (bM ls h e).drop (i+1):=by
    obtain ⟨il,ec⟩:=bn8.mp hc
    rw [<- ec,<- List.drop_eq_getElem_cons il,bC6]
   unfold fJ
   rw [show (bM ls h e).flatMap (eY W)=((bM ls h e).take i).flatMap (eY W) ++ (eY W c ++ ((bM ls h e).drop (i+1)).flatMap (eY W)) by conv=>lhs; rw [e0]; rw [List.flatMap_append,List.flatMap_cons]]
   simp only [bo0,bp8]
   omega
  rw [bo0] at l1
  refine⟨_,rfl,_,rfl,eM W,rfl,_,rfl,by show 0<=1000; decide,rfl,Sum.inl c,rfl,?_⟩
  rw [show ([]:List (PV × Tg)).map (·.1) = [] from rfl,be5 A.ndw]
  refine⟨intz (eY W c),.inr rfl,.inr (bJ _),by rw [aZ,aZ]; omega,si c,?_⟩
  rw [bs1,hc,List.flatMap_append]
  show _ = [_,_,_,_,_,_,_,_,some (Slot.own (.lst (intz (h :: (((bM ls h e).take i).flatMap (eY W) ++ [c].flatMap (eY W)))))),_,_]
  rw [show [c].flatMap (eY W)=eY W c from by simp,<- List.cons_append,dW]
  rfl
 ·rintro ρ ⟨y9,rfl⟩
  rw [aZ,br5 (bo7 _)]
  exact be6 R lk.fit n40 A hp hD dk inn tl wl dl fun W' T' y8 a b c=>nx W' T' _ _ y8 y9 a b c
theorem aj5 {qs:cP}{i:Nat}{y:PV} (h:(qs.map dY)[i]? = some y):∃ q,qs[i]? = some q/\y = .tup [.int q.1,.tup (intz q.2)]:=by
 rw [bo8] at h
 cases e:qs[i]? with
 | none=>rw [e] at h; cases h
 | some q=>rw [e] at h; exact⟨q,rfl,(bq3 h).symm⟩
theorem be8 {Q:PV->Prop}{s0 s1 s2 y4 y5 y6 y7 y8:Option Slot} (tl:T.length < 64) (nd:(aV T).Nodup) (q:∀ qs:cP,qs.Perm T->qs.Pairwise (fun u v=>u.1 < v.1)->Q (ai9 qs)) :
  aj2 { nx:=fun _=>Q .non,rt:=Q } [s0,s1,s2,some (.own (.lst (T.map dY))),y4,y5,y6,y7,y8,y9,none]:=by
 refine⟨_,rfl,T,rfl,by omega,nd,fun qs pm so=>⟨trivial,?_⟩⟩
 have ql:=pm.length_eq
 refine⟨_,rfl,qs.map dY,rfl,(fun z=>by cases z),by rw [bn7]; omega,fun i acc=>acc=intz (aV (qs.take i)),rfl,?_,?_⟩
 ·rintro i y acc hy rfl
  obtain ⟨p,hp,rfl⟩:=aj5 hy
  refine⟨_,_,rfl,_,rfl,trivial,?_⟩
  dsimp only
  unfold aV
  rw [bs1,hp,bp1,dW]; rfl
 rintro acc rfl
 rw [bn7,br5 (bo7 _)]
 refine⟨⟨_,_,rfl,rfl,bJ _,?_⟩,fun ns z=>by cases z⟩
 refine⟨_,rfl,qs.map dY,rfl,(fun z=>by cases z),by rw [bn7]; omega,fun i acc=>acc=tups ((qs.take i).map (·.2)),rfl,?_,?_⟩
 ·rintro i y acc hy rfl
  obtain ⟨p,hp,rfl⟩:=aj5 hy
  refine⟨_,_,rfl,_,rfl,by show Nw (Slot.sh (false || flats (intz p.2)) (.tup (intz p.2))).tag _; rw [bJ]; trivial,?_⟩
  dsimp only
  unfold tups
  rw [bs1,hp,bp1,bp1]; rfl
 rintro acc rfl
 rw [bn7,br5 (bo7 _)]
 refine⟨⟨_,_,rfl,rfl,eI _,by show 2<=1000; decide,?_,trivial,q qs pm so⟩,fun ns z=>by cases z⟩
 show (flats (intz (aV qs)) && (flats (tups (qs.map (·.2))) && true))=true
 rw [bJ,eI]; rfl
end
theorem be9:bY aj3 ["web","around","waiting","taken","hearth","elder","children","lacking","block","child","pairs"] uG:=by
 rintro xs Q ⟨ws,ls,rfl,wb,lk,w,q⟩
 have few:=wb.few
 refine⟨_,rfl,ws,ls,rfl,wb,trivial,?_⟩
 refine⟨rfl,rfl,?_⟩
 refine⟨by decide,rfl,rfl,rfl,?_⟩
 refine⟨_,rfl,ws,ls,rfl,wb,lk,w,fun P R=>?_⟩
 have pl:P.length<=ws.length:=by
  have:=iM R.nd (m:=rng ws.length) fun x hx=>(R.mem x).mp hx
  rwa [bn7,dM] at this
 have e0:(Slot.sh (flat (b7 ws ls)) (b7 ws ls)) = .sh true (b7 ws ls):=by rw [t6]
 refine⟨fW P,rfl,(fun z=>by cases z),fun i ρ=>∃ (W T:cP) (D:List Int) (y4 y5 y6 y7 y8 y9:Option Slot),ρ = [some (.sh true (b7 ws ls)),some (.sh true (.lst (dC ws.length ls))),some (.own (.dK (eM W))),some (.own (.lst (T.map dY))),y4,y5,y6,y7,y8,y9,none]/\dG ws ls P D W T/\(∀ y,y ∈ D ↔ ∃ (j:Nat) (q:Option Int),P[j]? = some (y,q)/\P.length<=j+i)/\D.length=i/\T.length<=i/\W.length<=i,?_,?_,?_⟩
 ·refine⟨[],[],[],none,none,none,none,none,none,?_,⟨(fun _ _ z=>by cases z),(fun _ _ z=>by cases z),(fun _ _ _ z=>by cases z),bv2,bv2⟩,fun y=>⟨(fun z=>by cases z),fun ⟨j,q,hj,hl⟩=>?_⟩,rfl,bo7 _,bo7 _⟩
  ·show [some (Slot.sh (flat (b7 ws ls)) (b7 ws ls)),_,_,_,_,_,_,_,_,_,_]=_
   rw [e0]; rfl
  ·have:=(bn8.mp hj).1; omega
 ·rintro i y ρ hy ⟨W,T,D,y4,y5,y6,y7,y8,y9,rfl,A,dm,dl,tl,wl⟩
  have il:i < P.length:=by have:=(bn8.mp hy).1; rwa [List.length_reverse,nB] at this
  rw [List.getElem?_reverse (by rw [nB]; exact il),nB] at hy
  unfold fW at hy
  rw [bo8] at hy
  obtain ⟨⟨h,e⟩,hk⟩:∃ p,P[P.length - 1 - i]? = some p:=⟨_,bo1 (by omega)⟩
  rw [hk] at hy
  cases hy
  have hD:h ∉ D:=fun z=>by
   obtain ⟨j,q,hj,hl⟩:=(dm h).mp z
   have:=(lB R.nd hj hk).1
   omega
  have dk:∀ y ∈ D,(h,some y) ∉ P:=fun y hy z=>by
   obtain ⟨j,q,hj,hl⟩:=(dm y).mp hy
   cases nA R.nd z (bp0 hk)
   obtain ⟨j',q',jk,hj',_⟩:=R.par _ h y hk
   have:=(lB R.nd hj hj').1
   omega
  have inn:∀ y ∈ D,y ∈ rng ws.length:=fun y hy=>by
   obtain ⟨j,q,hj,hl⟩:=(dm y).mp hy
   exact (R.mem y).mp (bp6.mpr ⟨_,bp0 hj,rfl⟩)
  refine⟨_,_,rfl,?_⟩
  refine be7 R lk few A (bp0 hk) hD dk inn (by omega) (by omega) (by omega) fun W' T' y6 y7 y8 y9 A' tl' wl'=>⟨W',T',h :: D,si h,some (.sh true (kB e)),y6,y7,y8,y9,rfl,A',fun y=>⟨fun z=>?_,fun ⟨j,q,hj,hl⟩=>?_⟩,by rw [bp8,dl],by omega,by omega⟩
  ·rcases bo3.mp z with z | z
   ·rw [z]; exact⟨_,e,hk,by omega⟩
   ·obtain ⟨j,q,hj,hl⟩:=(dm y).mp z
    exact⟨j,q,hj,by omega⟩
  ·by_cases ej:j=P.length - 1 - i
   ·subst ej
    rw [hk] at hj
    cases hj
    exact bo4
   ·exact bo5 _ ((dm y).mpr ⟨j,q,hj,by omega⟩)
 ·rintro ρ ⟨W,T,D,y4,y5,y6,y7,y8,y9,rfl,A,dm,dl,tl,wl⟩
  rw [List.length_reverse,nB] at dm dl tl wl
  refine be8 (by omega) A.ndt fun qs pm so=>q qs (A.paper R lk.fit (fun h=>?_) pm so)
  rw [dm h,<- R.mem h]
  constructor
  ·rintro ⟨j,q,hj,_⟩; exact bp6.mpr ⟨_,bp0 hj,rfl⟩
  ·intro z
   obtain ⟨⟨h',q⟩,hp,rfl⟩:=bp6.mp z
   obtain ⟨j,hj⟩:=i8 hp
   exact⟨j,q,hj,by omega⟩
noncomputable def m8 (ws:List Int) (ls:List (Int × Int)):List (List Int)->List Int->Bool
 | [],_=>true
 | b :: r,M=>!decide (b = []) && b4 ws.length b && decide (stay ws ls b=b) && decide ((b.filter fun x=>decide (x ∈ M)) = []) && m8 ws ls r (M ++ b)
noncomputable def uH:bK:=fun xs Q=>∃ (ws:List Int) (ls:List (Int × Int)) (bs:List (List Int)),xs = [b7 ws ls,.tup (tups bs)]/\Wb ws ls/\bs.length<=1000/\(∀ b ∈ bs,b.length<=1000)/\Q (.bl (m8 ws ls bs []))
noncomputable def aj6:aI:=(aD (cZ 2 (qC (.dK [])))
 (aD (dJ (cR (a5 1)) (bO 3)
  (aD (bL (gP (aT (dA (aB bT (a6 (a5 3) a9)) (qC (.int 0)))) (gP (eQ (aT (aB lV (a6 (a5 0) (a6 (a5 3) a9))))) (gP (eQ (aT (aB (tQ fun _=>False) (a6 (a5 0) (a6 (a5 3) a9))))) (aT (jI (aB lW (a6 (a5 3) (a6 (a5 2) a9))) (qC (.int 0))))))) (bF (qC (.bl false))) bR)
  (sQ 2 (aB iH (a6 (a5 3) a9)))))
 (bF (qC (.bl true)))))
theorem aj7 {bs:List (List Int)}{i:Nat}{y:PV} (h:(tups bs)[i]? = some y):∃ b,bs[i]? = some b/\y = .tup (intz b):=by
 unfold tups at h
 rw [bo8] at h
 cases e:bs[i]? with
 | none=>rw [e] at h; cases h
 | some b=>rw [e] at h; exact⟨b,rfl,(bq3 h).symm⟩
theorem aj8 {i:Nat}{b:List Int}{g:Bool}{ρ:bQ}{Q:bQ->Prop} (q:Q (ρ.set i (some (.sh true (.tup (intz b)))))):bO i (.tup (intz b)) g ρ Q:=by
 show Q (ρ.set i (some (.sh (g || flats (intz b)) (.tup (intz b)))))
 rw [bJ,Bool.or_true]; exact q
theorem bf0:bY aj6 ["web","blocks","met","block"] uH:=by
 rintro xs Q ⟨ws,ls,bs,rfl,wb,bl,bb,q⟩
 have few:=wb.few
 refine⟨rfl,rfl,?_⟩
 refine⟨_,rfl,tups bs,rfl,?_,fun i ρ=>∃ (ps:List (aE × PV)) (M:List Int) (y3:Option Slot),ρ = [some (.sh true (b7 ws ls)),some (.sh true (.tup (tups bs))),some (.own (.dK ps)),y3]/\DS ps M/\M.length<=40 * i/\Q (.bl (m8 ws ls (bs.drop i) M)),⟨[],[],none,?_,DS.nil,br9 _,q⟩,?_,?_⟩
 ·intro z
  show flats (tups bs)=true
  exact eI bs
 ·show [some (Slot.sh (flat (b7 ws ls)) (b7 ws ls)),some (Slot.sh (flats (tups bs)) (.tup (tups bs))),_,_]=_
  rw [t6,eI]
 ·rintro i y ρ hy ⟨ps,M,y3,rfl,ds,ml,q⟩
  obtain ⟨b,hb,rfl⟩:=aj7 hy
  have il:=(bn8.mp hb).1
  have hbl:=bb b (bp0 hb)
  refine aj8 ?_
  have e0:bs.drop i=b :: bs.drop (i+1):=by
   obtain ⟨il,ec⟩:=bn8.mp hb
   rw [<- ec,<- List.drop_eq_getElem_cons il]
  rw [e0] at q
  unfold m8 at q
  refine⟨_,rfl,_,_,rfl,rfl,.inl ⟨_,_,rfl,rfl,_,rfl,?_⟩⟩
  rw [aZ]
  show if decide ((b.length:Int)=0)=true then _ else _
  by_cases h1:b = []
  ·rw [bn4 h1] at q
   rw [bn4 (by rw [h1]; rfl)]
   exact b9 ⟨trivial,q⟩
  ·have hl0:b.length ≠ 0:=fun z=>h1 (bB2.mp z)
   rw [bn9 (by omega)]
   rw [bn9 h1] at q
   refine b8 ⟨_,rfl,_,rfl,ws,ls,_,b,rfl,.inl rfl,hbl,_,rfl,?_⟩
   cases h2:b4 ws.length b with
   | false=>
    rw [h2] at q
    exact b9 ⟨trivial,q⟩
   | true=>
    rw [h2] at q
    have bn:=jO h2
    refine b8 ⟨_,rfl,_,rfl,ws,ls,_,b,rfl,wb,.inl rfl,hbl,fun _=>?_,fun z=>by rw [h2] at z; cases z⟩
    refine⟨_,rfl,?_⟩
    by_cases h3:stay ws ls b=b
    ·rw [bn4 h3] at q ⊢
     refine b8 ⟨_,rfl,_,rfl,_,b,ps,M,rfl,.inl rfl,ds,by omega,_,_,rfl,rfl,_,rfl,?_⟩
     by_cases h4:(b.filter fun x=>decide (x ∈ M)) = []
     ·rw [h4]
      rw [bn4 h4] at q
      refine b8 ⟨ps,rfl,_,rfl,_,b,rfl,.inl rfl,hbl,fun mp dm=>⟨mp,rfl,.inl rfl,?_,j4 ps mp,M ++ b,_,rfl,ds.merge dm,by rw [bo0]; omega,q⟩⟩
      have:=ds.len
      have:=dm.len
      omega
     ·have:(b.filter fun x=>decide (x ∈ M)).length ≠ 0:=fun z=>h4 (bB2.mp z)
      rw [bn4 (by omega)]
      rw [bn9 h4] at q
      exact b9 ⟨trivial,by simpa using q⟩
    ·rw [bn9 h3] at q ⊢
     exact b9 (b9 ⟨trivial,q⟩)
 ·rintro ρ ⟨ps,M,y3,rfl,ds,ml,q⟩
  rw [eU,List.drop_eq_nil_of_le (bo7 _)] at q
  exact⟨trivial,q⟩
noncomputable def rB (ws:List Int) (ls:List (Int × Int)) (ss:List Int) (bs:List (List Int)):Bool:=b4 ws.length ss && kE ws ls ss && decide (bs.length=ss.length) && m8 ws ls bs []
noncomputable def uI:eJ:=fun Ep xs Q=>∃ (ws:List Int) (ls:List (Int × Int)) (ss:List Int) (bs:List (List Int)),xs = [b7 ws ls,.tup [.tup (intz ss),.tup (tups bs)]]/\Wb ws ls/\ss.length<=1000/\bs.length<=1000/\(∀ b ∈ bs,b.length<=1000)/\(rB ws ls ss bs=true->Q (.int ss.length))/\(rB ws ls ss bs=false->Ep "NoPaper")
noncomputable def A9 (Ep:Str->Prop):aI:=(aD (b6 2 (bE (a5 1) (qC (.int 0))))
 (aD (b6 3 (bE (a5 1) (qC (.int 1))))
 (aD (bL (gP (eQ (aT (aB lV (a6 (a5 0) (a6 (a5 2) a9))))) (eQ (aT (l9 Ep tU (a6 (a5 0) (a6 (a5 2) a9)))))) (qU Ep "NoPaper" (a6 (qC (.str "the seeds do not light the web")) a9)) bR)
 (aD (bL (gP (aT (xG (aB bT (a6 (a5 3) a9)) (aB bT (a6 (a5 2) a9)))) (eQ (aT (aB uH (a6 (a5 0) (a6 (a5 3) a9)))))) (qU Ep "NoPaper" (a6 (qC (.str "there are not as many cold blocks that stand apart as seeds")) a9)) bR)
 (bF (aB bT (a6 (a5 2) a9)))))))
theorem bf1:m3 A9 ["web","paper","seeds","blocks"] uI:=by
 rintro Ep xs Q ⟨ws,ls,ss,bs,rfl,wb,sl,bl,bb,q,qe⟩
 have few:=wb.few
 have ef:flat (.tup [.tup (intz ss),.tup (tups bs)])=true:=by
  show (flats (intz ss) && (flats (tups bs) && true))=true
  rw [bJ,eI]; rfl
 show A9 Ep _ [some (.sh (flat (b7 ws ls)) (b7 ws ls)),some (.sh (flat (.tup [.tup (intz ss),.tup (tups bs)])) (.tup [.tup (intz ss),.tup (tups bs)])),none,none]
 rw [t6,ef]
 refine⟨_,rfl,_,_,_,rfl,rfl,rfl,trivial,?_⟩
 refine⟨_,rfl,_,_,_,rfl,rfl,rfl,trivial,?_⟩
 unfold rB at q qe
 refine⟨_,rfl,_,rfl,ws,ls,_,ss,rfl,.inl rfl,sl,_,rfl,?_⟩
 cases h1:b4 ws.length ss with
 | false=>
  rw [h1] at qe
  exact b9 (b9 ⟨by decide,qe rfl⟩)
 | true=>
  rw [h1] at q qe
  refine b8 ⟨_,rfl,_,rfl,ws,ls,_,ss,rfl,wb,.inl rfl,sl,fun _ m en=>?_,fun z=>by rw [h1] at z; cases z⟩
  rw [<- aZ0 h1 en]
  refine⟨_,rfl,?_⟩
  cases h2:kE ws ls ss with
  | false=>
   rw [h2] at qe
   exact b9 ⟨by decide,qe rfl⟩
  | true=>
   rw [h2] at q qe
   refine b8 ?_
   refine⟨_,rfl,_,_,rfl,rfl,_,rfl,_,_,rfl,rfl,.inl ⟨_,_,rfl,rfl,_,rfl,?_⟩⟩
   rw [eU,aZ]
   show if (!decide ((bs.length:Int)=(ss.length:Int)))=true then _ else _
   by_cases h3:bs.length=ss.length
   ·rw [bn4 h3] at q qe
    rw [bn4 (by omega)]
    refine b8 ⟨_,rfl,_,rfl,ws,ls,bs,rfl,wb,bl,bb,_,rfl,?_⟩
    cases h4:m8 ws ls bs [] with
    | false=>
     rw [h4] at qe
     exact b9 ⟨by decide,qe rfl⟩
    | true=>
     rw [h4] at q
     refine b8 ⟨_,rfl,_,_,rfl,rfl,trivial,?_⟩
     rw [aZ]
     exact q rfl
   ·rw [bn9 h3] at qe
    rw [bn9 (by omega)]
    exact b9 (b9 ⟨by decide,qe rfl⟩)
theorem uF.len {ws:List Int}{ls:List (Int × Int)}{qs:cP} (A:uF ws ls qs):qs.length<=ws.length:=by
 have:=jO A.seeds
 unfold aV at this
 rwa [bn7] at this
noncomputable abbrev uJ:bK:=ah5 40
noncomputable abbrev aj9:aI:=ai3
theorem bf2:bY aj9 ["script","most","many","digits","links","counts","cells","k","number","elder","places","wants","pairs"] uJ:=be0 (by decide)
noncomputable def dZ (ss:List Int) (bs:List (List Int)):PV:=.tup [.tup (intz ss),.tup (tups bs)]
theorem uK (ss:List Int) (bs:List (List Int)):flat (dZ ss bs)=true:=by
 show (flats (intz ss) && (flats (tups bs) && true))=true
 rw [bJ,eI]; rfl
noncomputable def uL:bK:=fun xs Q=>∃ (ns:List Int) (ws:List Int) (ls:List (Int × Int)),xs = [.scr ns,b7 ws ls]/\Wb ws ls/\(ns.getD 2 0 % 3 > 0->fU ws.length ls/\eW ws.length ls)/\∀ (ss:List Int) (bs:List (List Int)),ss.length<=40->bs.length<=40->(∀ b ∈ bs,b.length<=40)->Q (dZ ss bs)
noncomputable def ak0:aI:=(aD (bL (aT (jI (bW (aB dX (a6 (a5 0) (a6 (qC (.int 2)) a9))) (qC (.int 3))) (qC (.int 0)))) (bF (aB uG (a6 (a5 1) a9))) bR)
 (aD (b6 2 (aB u6 (a6 (aB dX (a6 (a5 0) (a6 (qC (.int 3)) a9))) (a6 (aB bT (a6 (bE (a5 1) (qC (.int 0))) a9)) a9))))
 (bF (c7 (a6 (a5 2) (a6 (aB eS (a6 (cS (cR (a5 2)) [none] (bO 0) e9 (c7 (a6 (a5 0) a9))) a9)) a9))))))
theorem bf3:bY ak0 ["script","web","seeds"] uL:=by
 rintro xs Q ⟨ns,ws,ls,rfl,wb,wd,q⟩
 have few:=wb.few
 refine⟨_,rfl,_,ns,2,rfl,.inl rfl,by decide,_,_,rfl,rfl,(by show (0:Int) < 3; decide),_,_,rfl,rfl,_,rfl,?_⟩
 show if decide (ns.getD 2 0 % 3 > 0)=true then _ else _
 by_cases c:ns.getD 2 0 % 3 > 0
 ·obtain ⟨lk,w⟩:=wd c
  rw [bn4 c]
  refine b9 ⟨_,rfl,ws,ls,rfl,wb,lk,w,fun qs A=>⟨trivial,?_⟩⟩
  have al:=A.len
  refine q _ _ ?_ ?_ fun b hb=>?_
  ·unfold aV; rw [bn7]; omega
  ·rw [bn7]; omega
  ·obtain ⟨p,hp,rfl⟩:=bp6.mp hb
   have:=jO (A.sets p hp).1
   omega
 ·rw [bn9 c]
  refine b8 ?_
  refine⟨_,rfl,_,ns,3,rfl,.inl rfl,by decide,_,rfl,_,_,_,rfl,rfl,rfl,_,_,rfl,rfl,_,ws.length,by rw [aZ]; rfl,few,fun S hS=>⟨trivial,?_⟩⟩
  have sl:=jO hS
  refine⟨_,rfl,_,rfl,intz S,rfl,(fun z=>by cases z),by rw [aZ]; omega,fun i acc=>acc=tups ((S.take i).map fun x=>[x]),rfl,?_,?_⟩
  ·rintro i y acc hy rfl
   obtain ⟨x,rfl,hx⟩:=fP hy
   refine⟨_,rfl,by show 1<=1000; decide,rfl,trivial,?_⟩
   dsimp only
   unfold tups
   rw [bs1,hx,bp1,bp1]; rfl
  ·rintro acc rfl
   rw [aZ,br5 (bo7 _)]
   refine⟨⟨_,_,rfl,rfl,eI _,by show 2<=1000; decide,?_,trivial,?_⟩,fun ns z=>by cases z⟩
   ·show (flats (intz S) && (flats (tups (S.map fun x=>[x])) && true))=true
    rw [bJ,eI]; rfl
   ·refine q S (S.map fun x=>[x]) (by omega) (by rw [bn7]; omega) fun b hb=>?_
    obtain ⟨x,_,rfl⟩:=bp6.mp hb
    show 1<=40; decide
noncomputable def rC:bK:=fun xs Q=>∃ (S:List Int) (n c:Int),xs = [.tup (intz S),.int n,.int c]/\S.length<=50/\∀ T:List Int,T.length<=110->Q (.tup (intz T))
noncomputable def B0:aI:=(aD (b6 3 (bW (eF (a5 2) (qC (.int 40))) (aI8 (qC (.int 10)) (qC (.int 30)))))
 (aD (b6 4 (bW (eF (a5 2) (qC (.int 8))) (aB jY (a6 (qC (.int 1)) (a6 (a5 1) a9)))))
 (aD (b6 5 (bW (eF (a5 2) (qC (.int 8))) (aB jY (a6 (qC (.int 1)) (a6 (aB bT (a6 (a5 0) a9)) a9)))))
 (bF (bE (eR (a6 (fR (gE (a5 0) hJ (fD (a5 5))) (gE (a5 0) (fD (cA (a5 5) (qC (.int 1)))) hJ)) (a6 (aB eS (a6 (aB yM (a6 (fR (a5 0) (c7 (a6 (a5 4) a9))) a9)) a9)) (a6 (fR (a5 0) (c7 (a6 (cA (a5 1) (a5 3)) a9))) (a6 (fR (c7 (a6 (lQ (nW (qC (.int 1))) (a5 3)) a9)) (a5 0)) (a6 (fR (a5 0) (gE (a5 0) (fD (nW (qC (.int 1)))) hJ)) a9)))))) (bW (a5 2) (qC (.int 5))))))))
theorem bf4:bY B0 ["some","many","cell","far","hearth","place"] rC:=by
 rintro xs Q ⟨S,n,c,rfl,sl,q⟩
 show B0 _ [some (.sh (flat (.tup (intz S))) (.tup (intz S))),si n,si c,none,none,none]
 rw [qP]
 refine⟨_,rfl,_,_,rfl,rfl,⟨by decide,by decide⟩,_,_,rfl,rfl,⟨by decide,by decide,by decide⟩,_,_,rfl,rfl,(by show (0:Int) < 10 ^ (30:Int).toNat; decide),trivial,?_⟩
 dsimp only
 generalize c / 40 % 10 ^ (30:Int).toNat=f
 refine⟨_,rfl,_,_,rfl,rfl,⟨by decide,by decide⟩,_,rfl,_,_,rfl,_,_,rfl,rfl,(by show (0:Int) < (if n > 1 then n else 1); split <;> omega),trivial,?_⟩
 dsimp only
 generalize c / 8 % (if n > 1 then n else 1)=h
 refine⟨_,rfl,_,_,rfl,rfl,⟨by decide,by decide⟩,_,rfl,_,_,rfl,rfl,_,_,rfl,_,_,rfl,rfl,?_,trivial,?_⟩
 ·rw [aZ]; show (0:Int) < (if (S.length:Int) > 1 then (S.length:Int) else 1); split <;> omega
 rw [aZ]
 dsimp only
 generalize c / 8 % (if (S.length:Int) > 1 then (S.length:Int) else 1)=p
 obtain ⟨z1,e1,l1⟩:=qZ S none (some p)
 obtain ⟨z2,e2,l2⟩:=qZ S (some (p+1)) none
 obtain ⟨z5,e5,l5⟩:=qZ S (some (-1)) none
 have fc:∀ a b:List Int,flats (intz a ++ intz b)=true:=fun a b=>by rw [<- dW]; exact bJ _
 refine⟨_,rfl,_,rfl,_,rfl,intz S,rfl,bJ _,_,rfl,_,rfl,_,_,rfl,rfl,_,rfl,intz S,rfl,bJ _,intz z1,intz z2,by show PV.tup (fC (intz S) none (some p))=_; rw [e1],by show PV.tup (fC (intz S) (some (p+1)) none)=_; rw [e2],bJ _,bJ _,by rw [aZ,aZ]; omega,?_⟩
 refine⟨_,rfl,_,rfl,by show 1<=1000; decide,rfl,intz S,[.int h],rfl,rfl,bJ _,rfl,by rw [aZ]; show S.length+1<=16000000; omega,_,S ++ [h],rfl,by show some (intz S ++ [PV.int h])=_; rw [dW]; rfl,by rw [bo0]; show S.length+1 < 64; omega,fun ms pm so=>?_⟩
 have ml:=pm.length_eq
 rw [bo0,br1] at ml
 refine⟨⟨_,_,rfl,rfl,bJ _,?_⟩,fun ns z=>by cases z⟩
 refine⟨_,rfl,_,rfl,_,rfl,_,_,rfl,rfl,by show 1<=1000; decide,rfl,intz S,[.int (n+f)],rfl,rfl,bJ _,rfl,by rw [aZ]; show S.length+1<=16000000; omega,?_⟩
 refine⟨_,rfl,_,rfl,_,_,rfl,rfl,by show 1<=1000; decide,rfl,_,rfl,[.int (-1 - f)],intz S,rfl,rfl,rfl,bJ _,by rw [aZ]; show 1+S.length<=16000000; omega,?_⟩
 refine⟨_,rfl,_,rfl,_,rfl,_,rfl,intz S,rfl,bJ _,intz S,intz z5,rfl,by show PV.tup (fC (intz S) (some (-1)) none)=_; rw [e5],bJ _,bJ _,by rw [aZ,aZ]; omega,?_⟩
 refine⟨by show 5<=1000; decide,?_,_,rfl,_,_,rfl,rfl,(by show (0:Int) < 5; decide),?_⟩
 ·show (flats (intz z1 ++ intz z2) && (flats (intz ms) && (flats (intz S ++ [.int (n+f)]) && (flats ([.int (-1 - f)] ++ intz S) && (flats (intz S ++ intz z5) && true)))))=true
  rw [fc,bJ,show [PV.int (n+f)]=intz [n+f] from rfl,fc,show [PV.int (-1 - f)]=intz [-1 - f] from rfl,fc,fc]; rfl
 have j0:0<=c % 5:=bw2 _ (by decide)
 have j1:c % 5 < 5:=by5 _ (by decide)
 have key:∃ T:List Int,T.length<=110/\L2.atI [PV.tup (intz z1 ++ intz z2),.tup (intz ms),.tup (intz S ++ [.int (n+f)]),.tup ([.int (-1 - f)] ++ intz S),.tup (intz S ++ intz z5)] (c % 5)=some (.tup (intz T)):=by
  generalize c % 5=j at j0 j1
  rcases (show j=0 ∨ j=1 ∨ j=2 ∨ j=3 ∨ j=4 by omega) with rfl | rfl | rfl | rfl | rfl
  ·exact⟨z1 ++ z2,by rw [bo0]; omega,by rw [dW]; rfl⟩
  ·exact⟨ms,by omega,rfl⟩
  ·exact⟨S ++ [n+f],by rw [bo0]; show S.length+1<=110; omega,by rw [dW]; rfl⟩
  ·exact⟨(-1 - f) :: S,by rw [bp8]; omega,rfl⟩
  ·exact⟨S ++ z5,by rw [bo0]; omega,by rw [dW]; rfl⟩
 obtain ⟨T,tl,eT⟩:=key
 exact⟨_,_,_,rfl,rfl,eT,trivial,q T tl⟩
noncomputable def uM:bK:=fun xs Q=>∃ (ss:List Int) (bs:List (List Int)) (n c:Int),xs = [dZ ss bs,.int n,.int c]/\ss.length<=40/\bs.length<=40/\(∀ b ∈ bs,b.length<=40)/\∀ (ss':List Int) (bs':List (List Int)),ss'.length<=110->bs'.length<=110->(∀ b ∈ bs',b.length<=110)->Q (dZ ss' bs')
noncomputable def ak1:aI:=(aD (bL (aT (dA (a5 5) (qC (.int 4)))) (bF (c7 (a6 (a5 3) (a6 (fR (fR (gE (a5 4) hJ (fD (a5 7))) (c7 (a6 (bE (a5 4) (qC (.int 0))) a9))) (gE (a5 4) (fD (cA (a5 7) (qC (.int 1)))) hJ)) a9)))) bR)
 (aD (bL (aT (dA (a5 5) (qC (.int 5)))) (bF (c7 (a6 (a5 3) (a6 (fR (fR (gE (a5 4) hJ (fD (a5 7))) (c7 (a6 (c7 a9) a9))) (gE (a5 4) (fD (cA (a5 7) (qC (.int 1)))) hJ)) a9)))) bR)
 (bF (c7 (a6 (a5 3) (a6 (fR (fR (gE (a5 4) hJ (fD (a5 7))) (c7 (a6 (aB rC (a6 (bE (a5 4) (a5 7)) (a6 (a5 1) (a6 (eF (a5 6) (qC (.int 7))) a9)))) a9))) (gE (a5 4) (fD (cA (a5 7) (qC (.int 1)))) hJ)) a9))))))
noncomputable def ak2:aI:=(aD (bL (aT (qD (a5 5) (qC (.int 2)))) (bF (c7 (a6 (aB rC (a6 (a5 3) (a6 (a5 1) (a6 (a5 6) a9)))) (a6 (a5 4) a9)))) bR)
 (aD (bL (gP (aT (dA (a5 5) (qC (.int 2)))) (aT (dA (aB bT (a6 (a5 4) a9)) (qC (.int 0))))) (bF (c7 (a6 (a5 3) (a6 (fR (a5 4) (c7 (a6 (c7 (a6 (bW (a5 6) (aB jY (a6 (qC (.int 1)) (a6 (a5 1) a9)))) a9)) a9))) a9)))) bR)
 (aD (bL (aT (dA (a5 5) (qC (.int 3)))) (bF (c7 (a6 (a5 3) (a6 (fR (gE (a5 4) hJ (fD (a5 7))) (gE (a5 4) (fD (cA (a5 7) (qC (.int 1)))) hJ)) a9)))) bR)
 ak1)))
noncomputable def B1:aI:=(aD (tM (iZ 3 4) (a5 0))
 (aD (b6 5 (bW (a5 2) (qC (.int 8))))
 (aD (b6 6 (eF (a5 2) (qC (.int 8))))
 (aD (b6 7 (bW (a5 6) (aB jY (a6 (qC (.int 1)) (a6 (aB bT (a6 (a5 4) a9)) a9)))))
 ak2))))
theorem uN (bs:List (List Int)) (lo hi:Option Int):∃ zs:List (List Int),fC (tups bs) lo hi=tups zs/\zs.length<=bs.length/\∀ z ∈ zs,z ∈ bs:=by
 refine⟨(bs.drop (HT.bB (tups bs).length 0 lo)).take (HT.bB (tups bs).length (tups bs).length hi - HT.bB (tups bs).length 0 lo),?_,?_,fun z hz=>List.mem_of_mem_drop (List.mem_of_mem_take hz)⟩
 ·unfold fC tups; rw [List.map_take,List.map_drop]
 ·rw [bt8,bx5]; omega
section
variable {ss : List Int} {bs : List (List Int)} {s0 : Option Slot} {n wy rs : Int} {p : Nat} {Q : PV → Prop}
theorem uO (ss':List Int) (bs':List (List Int)) (a:ss'.length<=110) (b:bs'.length<=110) (c:∀ b ∈ bs',b.length<=110) (q:∀ (ss':List Int) (bs':List (List Int)),ss'.length<=110->bs'.length<=110->(∀ b ∈ bs',b.length<=110)->Q (dZ ss' bs')) :
  [(PV.tup (intz ss'),Tg.fr),(PV.tup (tups bs'),Tg.fr)].length<=1000/\flats [.tup (intz ss'),.tup (tups bs')]=true/\True/\Q (dZ ss' bs'):=by
 refine⟨by show 2<=1000; decide,?_,trivial,q ss' bs' a b c⟩
 show (flats (intz ss') && (flats (tups bs') && true))=true
 rw [bJ,eI]; rfl
theorem B2 {te:aH}{s1 s2 s5 s6:Option Slot} (sl:ss.length<=40) (bl:bs.length<=40) (bb:∀ b ∈ bs,b.length<=40) (q:∀ (ss':List Int) (bs':List (List Int)),ss'.length<=110->bs'.length<=110->(∀ b ∈ bs',b.length<=110)->Q (dZ ss' bs'))
  (h:∀ K:PK,(∀ (T:List Int) g,T.length<=110->K (.tup (intz T)) g)->te [s0,s1,s2,some (.sh true (.tup (intz ss))),some (.sh true (.tup (tups bs))),s5,s6,si p] K) :
  (bF (c7 (a6 (a5 3) (a6 (fR (fR (gE (a5 4) hJ (fD (a5 7))) (c7 (a6 te a9))) (gE (a5 4) (fD (cA (a5 7) (qC (.int 1)))) hJ)) a9)))) { nx:=fun _=>Q .non,rt:=Q } [s0,s1,s2,some (.sh true (.tup (intz ss))),some (.sh true (.tup (tups bs))),s5,s6,si p]:=by
 obtain ⟨z1,e1,l1,m1⟩:=uN bs none (some p)
 obtain ⟨z2,e2,l2,m2⟩:=uN bs (some ((p:Int)+1)) none
 refine⟨_,rfl,_,rfl,_,rfl,_,rfl,tups bs,rfl,eI _,h _ fun T g tl=>?_⟩
 have fT:flats [.tup (intz T)]=true:=by show (flats (intz T) && true)=true; rw [bJ]; rfl
 have e3:tups z1 ++ [.tup (intz T)]=tups (z1 ++ [T]):=by unfold tups; rw [bp1]; rfl
 have e4:tups (z1 ++ [T]) ++ tups z2=tups (z1 ++ [T] ++ z2):=(ab6 _ _).symm
 refine⟨by show 1<=1000; decide,fT,tups z1,[.tup (intz T)],by show PV.tup (fC (tups bs) none (some p))=_; rw [e1],rfl,eI _,fT,by rw [eU]; show z1.length+1<=16000000; omega,?_⟩
 refine⟨_,rfl,_,rfl,_,_,rfl,rfl,_,rfl,tups bs,rfl,eI _,tups (z1 ++ [T]),tups z2,by rw [e3],by show PV.tup (fC (tups bs) (some ((p:Int)+1)) none)=_; rw [e2],eI _,eI _,by rw [eU,eU,bo0]; show z1.length+1+z2.length<=16000000; omega,?_⟩
 rw [e4]
 refine uO ss _ (by omega) ?_ (fun b hb=>?_) q
 ·rw [bo0,bo0]; show z1.length+1+z2.length<=110; omega
 ·rcases bo6.mp hb with z | z
  ·rcases bo6.mp z with z | z
   ·have:=bb b (m1 b z); omega
   ·rw [bo2.mp z]; exact tl
  ·have:=bb b (m2 b z); omega
theorem bf5 {s2:Option Slot} (sl:ss.length<=40) (bl:bs.length<=40) (bb:∀ b ∈ bs,b.length<=40) (pb:p < bs.length) (q:∀ (ss':List Int) (bs':List (List Int)),ss'.length<=110->bs'.length<=110->(∀ b ∈ bs',b.length<=110)->Q (dZ ss' bs')) :
  ak1 { nx:=fun _=>Q .non,rt:=Q } [s0,si n,s2,some (.sh true (.tup (intz ss))),some (.sh true (.tup (tups bs))),si wy,si rs,si p]:=by
 obtain ⟨b0,hb0⟩:∃ b,bs[0]? = some b:=⟨_,bo1 (by omega)⟩
 obtain ⟨bp,hbp⟩:∃ b,bs[p]? = some b:=⟨_,bo1 pb⟩
 have at0:L2.atI (tups bs) 0=some (.tup (intz b0)):=lH (j:=0) (by unfold tups; rw [bo8,hb0]; rfl)
 have atp:L2.atI (tups bs) (p:Int)=some (.tup (intz bp)):=lH (by unfold tups; rw [bo8,hbp]; rfl)
 have l0:=bb b0 (bp0 hb0)
 have lp:=bb bp (bp0 hbp)
 refine⟨_,rfl,.inl ⟨_,_,rfl,rfl,_,rfl,kC (B2 sl bl bb q fun K k=>⟨_,rfl,_,_,_,rfl,rfl,at0,k b0 _ (by omega)⟩) ?_⟩⟩
 refine⟨_,rfl,.inl ⟨_,_,rfl,rfl,_,rfl,kC (B2 sl bl bb q fun K k=>⟨by show 0<=1000; decide,rfl,k [] _ (by decide)⟩) ?_⟩⟩
 exact B2 sl bl bb q fun K k=>⟨_,rfl,_,rfl,_,_,_,rfl,rfl,atp,_,rfl,_,rfl,_,_,rfl,rfl,⟨by decide,by decide⟩,bp,n,_,rfl,by omega,fun T tl=>k T _ tl⟩
theorem bf6 {s2:Option Slot} (sl:ss.length<=40) (bl:bs.length<=40) (bb:∀ b ∈ bs,b.length<=40) (pb:bs ≠ []->p < bs.length) (q:∀ (ss':List Int) (bs':List (List Int)),ss'.length<=110->bs'.length<=110->(∀ b ∈ bs',b.length<=110)->Q (dZ ss' bs')) :
  ak2 { nx:=fun _=>Q .non,rt:=Q } [s0,si n,s2,some (.sh true (.tup (intz ss))),some (.sh true (.tup (tups bs))),si wy,si rs,si p]:=by
 have b2:∀ b ∈ bs,b.length<=110:=fun b hb=>by have:=bb b hb; omega
 refine⟨_,rfl,_,_,rfl,rfl,_,rfl,kC ?_ ?_⟩
 ·exact⟨_,rfl,_,rfl,_,rfl,ss,n,_,rfl,by omega,fun T tl=>⟨_,rfl,uO T bs tl (by omega) b2 q⟩⟩
 have one:(bF (c7 (a6 (a5 3) (a6 (fR (a5 4) (c7 (a6 (c7 (a6 (bW (a5 6) (aB jY (a6 (qC (.int 1)) (a6 (a5 1) a9)))) a9)) a9))) a9)))) { nx:=fun _=>Q .non,rt:=Q } [s0,si n,s2,some (.sh true (.tup (intz ss))),some (.sh true (.tup (tups bs))),si wy,si rs,si p]:=by
  refine⟨_,rfl,_,rfl,_,rfl,_,rfl,_,_,rfl,_,_,rfl,rfl,(by show (0:Int) < (if n > 1 then n else 1); split <;> omega),by show 1<=1000; decide,rfl,by show 1<=1000; decide,rfl,tups bs,[.tup [.int (rs % (if n > 1 then n else 1))]],rfl,rfl,eI _,rfl,by rw [eU]; show bs.length+1<=16000000; omega,?_⟩
  have e:tups bs ++ [.tup [.int (rs % (if n > 1 then n else 1))]]=tups (bs ++ [[rs % (if n > 1 then n else 1)]]):=by unfold tups; rw [bp1]; rfl
  rw [e]
  refine uO ss _ (by omega) (by rw [bo0]; show bs.length+1<=110; omega) (fun b hb=>?_) q
  rcases bo6.mp hb with z | z
  ·exact b2 b z
  ·rw [bo2.mp z]; show 1<=110; decide
 refine⟨_,rfl,.inl ⟨_,_,rfl,rfl,_,rfl,kC (b9 one) ?_⟩⟩
 refine⟨_,rfl,_,_,rfl,rfl,.inl ⟨_,_,rfl,rfl,_,rfl,?_⟩⟩
 rw [eU]
 show if decide ((bs.length:Int)=0)=true then _ else _
 by_cases e0:bs.length=0
 ·rw [bn4 (by omega)]; exact b9 one
 rw [bn9 (by omega)]
 have pb:=pb fun z=>e0 (by rw [z]; rfl)
 refine b8 ⟨_,rfl,.inl ⟨_,_,rfl,rfl,_,rfl,kC ?_ (bf5 sl bl bb pb q)⟩⟩
 obtain ⟨z1,e1,l1,m1⟩:=uN bs none (some p)
 obtain ⟨z2,e2,l2,m2⟩:=uN bs (some ((p:Int)+1)) none
 refine⟨_,rfl,_,rfl,_,rfl,_,rfl,tups bs,rfl,eI _,_,rfl,_,rfl,_,_,rfl,rfl,_,rfl,tups bs,rfl,eI _,tups z1,tups z2,by show PV.tup (fC (tups bs) none (some p))=_; rw [e1],by show PV.tup (fC (tups bs) (some ((p:Int)+1)) none)=_; rw [e2],eI _,eI _,by rw [eU,eU]; omega,?_⟩
 rw [<- ab6]
 refine uO ss _ (by omega) (by rw [bo0]; omega) (fun b hb=>?_) q
 rcases bo6.mp hb with z | z
 ·exact b2 b (m1 b z)
 ·exact b2 b (m2 b z)
end
theorem bf7:bY B1 ["paper","many","cell","seeds","blocks","way","rest","place"] uM:=by
 rintro xs Q ⟨ss,bs,n,c,rfl,sl,bl,bb,q⟩
 show B1 _ [some (.sh (flat (dZ ss bs)) (dZ ss bs)),si n,si c,none,none,none,none,none]
 rw [uK]
 refine⟨_,rfl,trivial,_,_,rfl,?_⟩
 refine⟨_,rfl,_,_,rfl,rfl,(by show (0:Int) < 8; decide),trivial,?_⟩
 refine⟨_,rfl,_,_,rfl,rfl,⟨by decide,by decide⟩,trivial,?_⟩
 dsimp only
 generalize c % 8=wy
 generalize c / 8=rs
 refine⟨_,rfl,_,rfl,_,_,rfl,rfl,_,_,rfl,_,_,rfl,rfl,?_,trivial,?_⟩
 ·rw [eU]; show (0:Int) < (if (bs.length:Int) > 1 then (bs.length:Int) else 1); split <;> omega
 rw [eU]
 dsimp only
 have h0:0<=rs % (if (bs.length:Int) > 1 then (bs.length:Int) else 1):=bw2 _ (by split <;> omega)
 have h1:rs % (if (bs.length:Int) > 1 then (bs.length:Int) else 1) < (if (bs.length:Int) > 1 then (bs.length:Int) else 1):=by5 _ (by split <;> omega)
 obtain ⟨p,ep⟩:∃ p:Nat,rs % (if (bs.length:Int) > 1 then (bs.length:Int) else 1)=p:=⟨_,(Int.toNat_of_nonneg h0).symm⟩
 rw [ep] at h1 ⊢
 refine bf6 sl bl bb (fun ne=>?_) q
 have:bs.length ≠ 0:=fun z=>ne (bB2.mp z)
 split at h1 <;> omega
noncomputable def uP:bK:=fun xs Q=>∃ (ws:List Int) (ls:List (Int × Int)) (ss:List Int) (bs:List (List Int)),xs = [b7 ws ls,dZ ss bs]/\Wb ws ls/\ss.length<=1000/\bs.length<=1000/\(∀ b ∈ bs,b.length<=1000)/\Q (.bl (rB ws ls ss bs))
noncomputable def ak3:aI:=(dJ (cR (a5 6)) (bO 7)
   (aD (bL (aT (j3 false (a5 7) (a5 5))) (bF (qC (.bl false))) bR)
   (mQ 5 (a5 7) (qC (.bl true)))))
noncomputable def B3:aI:=(aD (tM (iZ 2 3) (a5 1))
 (aD (b6 4 (aB bT (a6 (bE (a5 0) (qC (.int 0))) a9)))
 (aD (bL (gP (eQ (aT (aB r9 (a6 (a5 2) (a6 (a5 4) a9))))) (gP (eQ (aT (aB u5 (a6 (a5 0) (a6 (a5 2) a9))))) (aT (xG (aB bT (a6 (a5 3) a9)) (aB bT (a6 (a5 2) a9)))))) (bF (qC (.bl false))) bR)
 (aD (cZ 5 (qC (.dK [])))
 (aD (dJ (cR (a5 3)) (bO 6)
  (aD (bL (gP (aT (dA (aB bT (a6 (a5 6) a9)) (qC (.int 0)))) (gP (eQ (aT (aB r9 (a6 (a5 6) (a6 (a5 4) a9))))) (eQ (aT (aB u9 (a6 (a5 0) (a6 (a5 6) a9))))))) (bF (qC (.bl false))) bR)
  ak3))
 (bF (qC (.bl true))))))))
section
variable {s0 s1 s2 s3 s4 y7 : Option Slot} {E : hG}
theorem bf8 {b:List Int}{ps:List (aE × PV)}{M:List Int} (ds:DS ps M) (ml:M.length<=100000) (nd:b.Nodup) (bl:b.length<=1000) (nx:(b.filter fun x=>decide (x ∈ M)) = []->∀ ps y7,DS ps (M ++ b)->E.nx [s0,s1,s2,s3,s4,some (.own (.dK ps)),some (.sh true (.tup (intz b))),y7]) (rt:(b.filter fun x=>decide (x ∈ M)) ≠ []->E.rt (.bl false)) :
  ak3 E [s0,s1,s2,s3,s4,some (.own (.dK ps)),some (.sh true (.tup (intz b))),y7]:=by
 refine⟨_,rfl,intz b,rfl,(fun z=>by cases z),fun i ρ=>∃ (ps:List (aE × PV)) (y7:Option Slot),ρ = [s0,s1,s2,s3,s4,some (.own (.dK ps)),some (.sh true (.tup (intz b))),y7]/\DS ps (M ++ b.take i)/\∀ x ∈ b.take i,x ∉ M,⟨ps,y7,rfl,by rw [List.take_zero,br6]; exact ds,fun x hx=>by rw [List.take_zero] at hx; cases hx⟩,?_,?_⟩
 ·rintro i y ρ hy ⟨ps,y7,rfl,ds,no⟩
  obtain ⟨x,rfl,hx⟩:=fP hy
  have xm:=bp0 hx
  obtain ⟨il,ex⟩:=bn8.mp hx
  have tk:b.take (i+1)=b.take i ++ [x]:=by rw [bs1,hx]; rfl
  have nt:x ∉ b.take i:=fun z=>by
   obtain ⟨j,hj,e⟩:=List.mem_take_iff_getElem.mp z
   have:=(bD4 (by omega) nd).mp (show b[j]? = b[i]? by rw [bo1 (by omega),bo1 il,e,ex])
   omega
  refine i3 ?_
  refine⟨_,rfl,_,rfl,_,.inl ⟨ps,Sum.inl x,rfl,rfl,rfl⟩,_,rfl,?_⟩
  rw [ds.has x]
  by_cases xM:x ∈ M
  ·rw [bn4 (br8 _ xM)]
   refine b9 ⟨trivial,rt fun z=>?_⟩
   have:=bx7.mp z x xm
   rw [bn4 xM] at this
   exact this rfl
  ·rw [bn9 fun z=>(bo6.mp z).elim xM nt]
   refine b8 ⟨ps,rfl,_,rfl,Sum.inl x,rfl,trivial,?_,dR ps (Sum.inl x) (.bl true),_,rfl,?_,fun z hz=>?_⟩
   ·have:=ds.len
    rw [bo0,bt8] at this
    omega
   ·rw [tk,<- List.append_assoc]
    exact ds.put x (.bl true) rfl
   ·rw [tk] at hz
    rcases bo6.mp hz with q | q
    ·exact no z q
    ·rw [bo2.mp q]; exact xM
 ·rintro ρ ⟨ps,y7,rfl,ds,no⟩
  rw [aZ,br5 (bo7 _)] at ds no
  exact nx (bx7.mpr fun x hx=>by rw [bn9 (no x hx)]; decide) ps y7 ds
end
theorem bf9:bY B3 ["web","paper","seeds","blocks","many","met","block","hearth"] uP:=by
 rintro xs Q ⟨ws,ls,ss,bs,rfl,wb,sl,bl,bb,q⟩
 have few:=wb.few
 show B3 _ [some (.sh (flat (b7 ws ls)) (b7 ws ls)),some (.sh (flat (dZ ss bs)) (dZ ss bs)),none,none,none,none,none,none]
 rw [t6,uK]
 unfold rB at q
 refine⟨_,rfl,trivial,_,_,rfl,?_⟩
 refine⟨_,rfl,_,_,_,rfl,rfl,rfl,_,_,rfl,rfl,trivial,?_⟩
 rw [aZ]
 refine⟨_,rfl,_,rfl,ss,ws.length,rfl,_,rfl,?_⟩
 cases h1:b4 ws.length ss with
 | false=>
  rw [h1] at q
  exact b9 (b9 ⟨trivial,q⟩)
 | true=>
  rw [h1] at q
  refine b8 ⟨_,rfl,_,rfl,ws,ls,_,ss,rfl,wb,.inl rfl,fun x hx=>eG.mpr ((cU h1).2 x hx),_,rfl,?_⟩
  cases h2:kE ws ls ss with
  | false=>
   rw [h2] at q
   exact b9 (b9 ⟨trivial,q⟩)
  | true=>
   rw [h2] at q
   refine b8 ⟨_,rfl,_,_,rfl,rfl,_,rfl,_,_,rfl,rfl,.inl ⟨_,_,rfl,rfl,_,rfl,?_⟩⟩
   rw [eU,aZ]
   show if (!decide ((bs.length:Int)=(ss.length:Int)))=true then _ else _
   by_cases h3:bs.length=ss.length
   ·rw [bn4 h3] at q
    rw [bn4 (by omega)]
    refine b8 ?_
    refine⟨rfl,rfl,?_⟩
    refine⟨_,rfl,tups bs,rfl,(fun z=>by cases z),fun i ρ=>∃ (ps:List (aE × PV)) (M:List Int) (y6 y7:Option Slot),ρ = [some (.sh true (b7 ws ls)),some (.sh true (dZ ss bs)),some (.sh true (.tup (intz ss))),some (.sh true (.tup (tups bs))),si ws.length,some (.own (.dK ps)),y6,y7]/\DS ps M/\M.length<=40 * i/\Q (.bl (m8 ws ls (bs.drop i) M)),⟨[],[],none,none,rfl,DS.nil,br9 _,q⟩,?_,?_⟩
    ·rintro i y ρ hy ⟨ps,M,y6,y7,rfl,ds,ml,q⟩
     obtain ⟨b,hb,rfl⟩:=aj7 hy
     have hbl:=bb b (bp0 hb)
     have il:=(bn8.mp hb).1
     refine aj8 ?_
     have e0:bs.drop i=b :: bs.drop (i+1):=by
      obtain ⟨il,ec⟩:=bn8.mp hb
      rw [<- ec,<- List.drop_eq_getElem_cons il]
     rw [e0] at q
     unfold m8 at q
     refine⟨_,rfl,_,_,rfl,rfl,.inl ⟨_,_,rfl,rfl,_,rfl,?_⟩⟩
     rw [aZ]
     show if decide ((b.length:Int)=0)=true then _ else _
     by_cases h1:b = []
     ·rw [bn4 h1] at q
      rw [bn4 (by rw [h1]; rfl)]
      exact b9 (b9 ⟨trivial,q⟩)
     ·have hl0:b.length ≠ 0:=fun z=>h1 (bB2.mp z)
      rw [bn9 (by omega)]
      rw [bn9 h1] at q
      refine b8 ⟨_,rfl,_,rfl,b,ws.length,rfl,_,rfl,?_⟩
      cases h2:b4 ws.length b with
      | false=>
       rw [h2] at q
       exact b9 (b9 ⟨trivial,q⟩)
      | true=>
       rw [h2] at q
       have bn:=jO h2
       refine b8 ⟨_,rfl,_,rfl,ws,ls,b,rfl,wb,fun x hx=>eG.mpr ((cU h2).2 x hx),_,rfl,?_⟩
       by_cases h3:stay ws ls b=b
       ·rw [bn4 h3] at q ⊢
        refine b8 (bf8 ds (by omega) (zX h2) hbl (fun e ps y7 ds=>?_) fun e=>?_)
        ·rw [bn4 e] at q
         exact⟨ps,M ++ b,_,y7,rfl,ds,by rw [bo0]; omega,q⟩
        ·rw [bn9 e] at q
         exact q
       ·rw [bn9 h3] at q ⊢
        exact b9 ⟨trivial,q⟩
    ·rintro ρ ⟨ps,M,y6,y7,rfl,ds,ml,q⟩
     rw [eU,List.drop_eq_nil_of_le (bo7 _)] at q
     exact⟨trivial,q⟩
   ·rw [bn9 h3] at q
    rw [bn9 (by omega)]
    exact b9 ⟨trivial,q⟩
theorem bg0 {m:Nat} (h:m<=10):tY oA m:=fun ls Q hl q inn nd=>by
 have few:ls.length < 64:=by
  have:ls.length<=(((List.range 10).flatMap fun (j:Nat)=>(List.range j).map fun (i:Nat)=>(((i:Nat):Int),((j:Nat):Int)))).length:=nd.length_le_of_subset fun l hl=>by
   have:=inn l hl
   refine List.mem_flatMap.mpr ⟨l.2.toNat,by0.mpr (by omega),bp6.mpr ⟨l.1.toNat,by0.mpr (by omega),?_⟩⟩
   exact Prod.ext (by show ((l.1.toNat:Nat):Int)=l.1; omega) (by show ((l.2.toNat:Nat):Int)=l.2; omega)
  have e:(((List.range 10).flatMap fun (j:Nat)=>(List.range j).map fun (i:Nat)=>(((i:Nat):Int),((j:Nat):Int)))).length=45:=by decide
  omega
 exact ah7 ls Q few q
noncomputable abbrev uQ:bK:=ad9 10
noncomputable abbrev ak4:aI:=ae2 oA
theorem bg1:bY ak4 ["script","most","many","sparse","digits","cells","k","links","counts","other","number","one","draw","wants"] uQ:=aY8 (by decide) fun m h=>bg0 (by omega)
noncomputable def B4:bK:=Z5
noncomputable def ak5:aI:=(aD (b6 5 (qC .non))
  (aD (b6 6 (qC .non))
  (aD (yY "HearthError" 7 (af2 5 uI (a6 (a5 1) (a6 (a5 4) a9))) (b6 6 (eR (a6 (oH "NoPaper" (a5 7)) (a6 (oH "BadSet" (a5 7)) (a6 (oH "ValueError" (a5 7)) a9))))))
  (bL (aT (aB uP (a6 (a5 1) (a6 (a5 4) a9)))) (bL (gP (eQ (aT (aB oB (a6 (a5 5) a9)))) (aT (xG (a5 5) (aB bT (a6 (bE (a5 4) (qC (.int 0))) a9))))) (bF (qC (.bl false))) bR) (bL (aT (q2 (qA 2 true) (a5 6) (eR (a6 (qC (.bl true)) (a6 (qC (.bl false)) (a6 (qC (.bl true)) a9)))))) (bF (qC (.bl false))) bR)))))
noncomputable def ak6:aI:=(aD (b6 2 (aB uL (a6 (a5 0) (a6 (a5 1) a9))))
 (aD (b6 3 (aB i7 (a6 (aB dX (a6 (a5 0) (a6 (qC (.int 2)) a9))) (a6 (qC (.int 77)) a9))))
 (aD (dJ (cR (eR (a6 (a5 2) (a6 (aB uM (a6 (a5 2) (a6 (aB bT (a6 (bE (a5 1) (qC (.int 0))) a9)) (a6 (a5 3) a9)))) a9)))) (bO 4)
  ak5)
 (bF (qC (.bl true))))))
noncomputable def ak7:aI:=(aD (b6 1 (aB uJ (a6 (a5 0) (a6 (qC (.int 10)) a9))))
 (aD (bL (aT (dA (bW (aB dX (a6 (a5 0) (a6 (qC (.int 2)) a9))) (qC (.int 3))) (qC (.int 0)))) (b6 1 (aB uQ (a6 (a5 0) (a6 (qC (.int 10)) a9)))) bR)
 ak6))
section
variable {ws : List Int} {ls : List (Int × Int)} {ss : List Int} {bs : List (List Int)} {E : hG} {s0 s2 s3 y5 y6 y7 : Option Slot}
theorem ak8 (wb:Wb ws ls) (sl:ss.length<=1000) (bl:bs.length<=1000) (bb:∀ b ∈ bs,b.length<=1000) (nx:∀ y5 y6 y7,E.nx [s0,some (.sh true (b7 ws ls)),s2,s3,some (.sh true (dZ ss bs)),y5,y6,y7]) :
  ak5 E [s0,some (.sh true (b7 ws ls)),s2,s3,some (.sh true (dZ ss bs)),y5,y6,y7]:=by
 refine⟨trivial,trivial,?_⟩
 refine⟨_,rfl,_,rfl,ws,ls,ss,bs,rfl,wb,sl,bl,bb,fun ok=>?_,fun no=>?_⟩
 ·refine⟨_,rfl,_,rfl,ws,ls,ss,bs,rfl,wb,sl,bl,bb,_,rfl,?_⟩
  rw [ok]
  refine b9 ⟨_,rfl,_,rfl,_,rfl,b8 ?_⟩
  refine⟨_,rfl,_,rfl,_,_,_,rfl,rfl,rfl,_,_,rfl,rfl,.inl ⟨_,_,rfl,rfl,_,rfl,?_⟩⟩
  show if (!decide ((ss.length:Int)=((intz ss).length:Int)))=true then _ else _
  rw [aZ,bn4 rfl]
  exact b8 (nx _ _ _)
 ·refine⟨by decide,_,rfl,true,(by decide),_,rfl,false,(by decide),_,rfl,true,(by decide),by show 3<=1000; decide,rfl,trivial,?_⟩
  refine⟨_,rfl,_,rfl,ws,ls,ss,bs,rfl,wb,sl,bl,bb,_,rfl,?_⟩
  rw [no]
  exact b8 ⟨_,rfl,by show 3<=1000; decide,rfl,.inr ⟨_,_,rfl,rfl⟩,rfl,_,rfl,b8 (nx _ _ _)⟩
theorem ak9 {ns:List Int}{Q:PV->Prop} (wb:Wb ws ls) (wd:ns.getD 2 0 % 3 > 0->fU ws.length ls/\eW ws.length ls) (q:Q (.bl true)) :
  ak6 { nx:=fun _=>Q .non,rt:=Q } [some (.sh true (.scr ns)),some (.sh true (b7 ws ls)),none,none,none,none,none,none]:=by
 refine⟨_,rfl,_,rfl,ns,ws,ls,rfl,wb,wd,fun ss bs sl bl bb=>⟨trivial,?_⟩⟩
 refine⟨_,rfl,_,ns,2,rfl,.inl rfl,by decide,_,_,rfl,by decide,by decide,fun c _=>⟨trivial,?_⟩⟩
 refine⟨_,rfl,_,rfl,_,rfl,_,_,_,rfl,rfl,rfl,_,_,rfl,rfl,_,rfl,ss,bs,_,c,rfl,sl,bl,bb,fun ss' bs' sl' bl' bb'=>?_⟩
 refine⟨by show 2<=1000; decide,?_,[dZ ss bs,dZ ss' bs'],rfl,(fun z=>by cases z),fun i ρ=>∃ (y4 y5 y6 y7:Option Slot),ρ = [some (.sh true (.scr ns)),some (.sh true (b7 ws ls)),some (.sh true (dZ ss bs)),si c,y4,y5,y6,y7],⟨none,none,none,none,rfl⟩,?_,?_⟩
 ·show (flat (dZ ss bs) && (flat (dZ ss' bs') && true))=true
  rw [uK,uK]; rfl
 ·rintro i y ρ hy ⟨y4,y5,y6,y7,rfl⟩
  match i,hy with
  | 0,hy=>
   cases hy
   exact ak8 wb (by omega) (by omega) (fun b hb=>by have:=bb b hb; omega) fun y5 y6 y7=>⟨_,y5,y6,y7,rfl⟩
  | 1,hy=>
   cases hy
   exact ak8 wb (by omega) (by omega) (fun b hb=>by have:=bb' b hb; omega) fun y5 y6 y7=>⟨_,y5,y6,y7,rfl⟩
  | i+2,hy=>simp at hy
 ·rintro ρ ⟨y4,y5,y6,y7,rfl⟩
  exact⟨trivial,q⟩
end
theorem bg2:bY ak7 ["script","web","paper","cell","told_paper","found","kinds","e"] B4:=by
 rintro xs Q ⟨ns,rfl,hl,q⟩
 refine⟨_,rfl,ns,10,rfl,hl,by decide,by decide,fun n ws ls n1 w lk wd=>⟨trivial,?_⟩⟩
 have wl:=w.many
 have wb:Wb ws ls:=w.wb (by omega)
 have en:ws.length=n:=by omega
 subst en
 refine⟨_,rfl,_,ns,2,rfl,.inl rfl,by decide,_,_,rfl,rfl,(by show (0:Int) < 3; decide),.inl ⟨_,_,rfl,rfl,_,rfl,?_⟩⟩
 show if decide (ns.getD 2 0 % 3=0)=true then _ else _
 by_cases c:ns.getD 2 0 % 3=0
 ·rw [bn4 c]
  refine b9 ⟨_,rfl,ns,10,rfl,hl,by decide,by decide,fun n ws ls n0 n1 w=>⟨trivial,?_⟩⟩
  exact ak9 (w.wb (by omega)) (fun z=>by omega) q
 ·rw [bn9 c]
  exact b8 (ak9 wb (fun _=>⟨lk,wd⟩) q)
end Core
namespace K_k50
open PySem PySem.W L2 PP Core
theorem _root_.L2.FnScope.au {N P:List Str}{s:Scope} (a:s.kind=.function:=by rfl) (b:s.isCoroutine=false:=by rfl) (c:s.isGenerator=false:=by rfl) (d:N.Nodup:=by decide +kernel) (e:N.take P.length=P:=by rfl) (f:∀ x∈P,s.names.lookup x=some .local∨s.names.lookup x=some .cell:=by decide +kernel) (g:∀ y∈s.names,y.2≠.free:=by decide +kernel):FnScope N P s:=⟨a,b,c,d,e,f,g⟩
noncomputable def bA (i:Nat):Stmt:=PySem.Challenge.pw_kindleweb_k50_apart_papers_judged.main.body.getD i (.Pass ⟨0,0,0,0⟩)
structure FK (K:Frag) (n:Str) (i:Nat) (f:Addr) (d:FuncData):Prop where
 a:nsIn K mainGlobals n=some (some (.ref f))
 F:fZ K n n (bA i) f d
structure FM (K:Frag) (mg:Str->Option Value) (n:Str) (i:Nat) (f:Addr) (d:FuncData):Prop where
 F:fZ K n n (bA i) f d
 m:mg n=some (.ref f)
theorem FK.M {K:Frag}{mg:Str->Option Value}{n:Str}{i:Nat}{f:Addr}{d:FuncData}{h:Heap} (z:FK K n i f d) (X:K.In h) (G:h.Ns mainGlobals mg):FM K mg n i f d:=⟨z.F,mg_of X G z.a⟩
noncomputable abbrev Hb (x:Str) (ps:List Str) (i:Nat):Prop:=∀ (kV doc pm:Value) (an:Option Addr) (cdv ct:Value) (us:List Value),us.length=ps.length->bindArgs (fnOf x x (kM (bA i)) (fY (bA i)) (aY (bA i)) .none kV doc pm an cdv ct) ⟨us,[]⟩=pure (ps.zip us)
theorem al0 {A:Around}{k:Nat} (hr:cL k A):A.units+3 < cLine:=by have:=hr.units; omega
section
variable {P : Program} {w : World} {K : Frag} {mg : Str → Option Value} {base : Heap} {f : Addr} {fd : FuncData} {k i : Nat} {x : Str} {ps N : List Str}
theorem Df.au {p:bK} (F:FM K mg x i f fd) (S:FnScope N ps (aY (bA i))) (body:∀ (cdv:Value) (A:Around) (outer:List Env) (s:Shared) (H:Hp) (E:XK),cL k (A.deeper (PyProof.Rows.envOfC x (aY (bA i)) s.heap.objs.size f cdv))->∃ t,gF (e8 eB P w K mg base N x (aY (bA i)) f cdv A outer s H E).nox (fY (bA i)) t/\∀ xs Q,p xs Q->t { nx:=fun _=>Q .non,rt:=Q } (hV N xs)) (hb:Hb x ps i:=by intro _ _ _ _ _ _ us hl; first | (obtain ⟨_,rfl⟩:=oI hl; rfl) | (obtain ⟨_,_,rfl⟩:=zC hl; rfl) | (obtain ⟨_,_,_,rfl⟩:=zD hl; rfl) | (obtain ⟨_,_,_,_,rfl⟩:=us4 hl; rfl) | (obtain ⟨_,_,_,_,_,rfl⟩:=us5 hl; rfl)) (len:∀ xs Q,p xs Q->xs.length=ps.length:=by intro xs Q h; repeat (first | (obtain ⟨rfl,_⟩:=h; rfl) | (obtain ⟨_,h⟩:=h))):Df P w K mg base (k+1) x ps p:=
 Df.of F.F F.m S hb len body
theorem cC.au {p:eJ} (F:FM K mg x i f fd) (S:FnScope N ps (aY (bA i))) (t:(Str->Prop)->aI) (rd:∀ Ep xs Q,p Ep xs Q->t Ep { nx:=fun _=>Q .non,rt:=Q } (hV N xs)) (body:∀ (cdv:Value) (A:Around) (outer:List Env) (s:Shared) (H:Hp) (E:XK) (Ep:Str->Prop),cL k (A.deeper (PyProof.Rows.envOfC x (aY (bA i)) s.heap.objs.size f cdv))->o4 (e8 (fG P w) P w K mg base N x (aY (bA i)) f cdv A outer s H E) (EX K H Ep)->gF (e8 (fG P w) P w K mg base N x (aY (bA i)) f cdv A outer s H E) (fY (bA i)) (t Ep)) (hb:Hb x ps i:=by intro _ _ _ _ _ _ us hl; first | (obtain ⟨_,rfl⟩:=oI hl; rfl) | (obtain ⟨_,_,rfl⟩:=zC hl; rfl) | (obtain ⟨_,_,_,rfl⟩:=zD hl; rfl) | (obtain ⟨_,_,_,_,rfl⟩:=us4 hl; rfl) | (obtain ⟨_,_,_,_,_,rfl⟩:=us5 hl; rfl)) (len:∀ Ep xs Q,p Ep xs Q->xs.length=ps.length:=by intro Ep xs Q h; repeat (first | (obtain ⟨rfl,_⟩:=h; rfl) | (obtain ⟨_,h⟩:=h))):cC P w K mg base (k+1) x ps p:=
 cC.of F.F F.m S hb t len rd body
end
section
variable {P : Program} {w : World} {K : Frag} {mg : Str → Option Value} {base : Heap} {f : Addr} {fd : FuncData}
theorem nd2:(["ahead","behind"]:List Str).Nodup:=by decide +kernel
noncomputable abbrev al1:Stmt:=bA 6
theorem scR:FnScope ["things"] ["things"] (aY al1):=.au
theorem B5 {ns:List Int}{i:Nat}{x y:V} (h1:(ns.map V.int)[i]? = some x) (h2:((ns.map V.int).drop 1)[i]? = some y):∃ p q:Int,x = .int p/\y = .int q/\(ns.zip (ns.drop 1))[i]? = some (p,q):=by
 rw [bo8] at h1
 rw [<- List.map_drop,bo8] at h2
 cases e1:ns[i]? with
 | none=>rw [e1] at h1; cases h1
 | some p=>
  cases e2:(ns.drop 1)[i]? with
  | none=>rw [e2] at h2; cases h2
  | some q=>
   rw [e1] at h1; rw [e2] at h2
   exact⟨p,q,(bq3 h1).symm,(bq3 h2).symm,List.getElem?_zip_eq_some.mpr ⟨e1,e2⟩⟩
theorem bg3 (B:Bt mg) (F:fZ K "rises" "rises" al1 f fd):dD P w K mg base eB 1 f fd ["things"] (Y8 K):=by
 refine F.ok scR (fun vs H Q E h=>?_) (fun cdv A outer s H vs Q E hr h=>?_)
 ·obtain ⟨a,ns,rfl,_⟩:=h
  rfl
 obtain ⟨a,ns,rfl,hS,hn,q⟩:=h
 have lz:((ns.map V.int).drop 1).length<=sizeLine:=bt5 (iV (by rw [bx5,bn7]; omega))
 have lz2:((ns.map V.int).drop 1).length<=(ns.map V.int).length:=by rw [bx5]; omega
 have lz3:(ns.zip (ns.drop 1)).length=((ns.map V.int).drop 1).length:=by rw [List.length_zip,bx5,bx5,bn7]; omega
 rcases hS with hS | hS
 ·refine⟨_,mD (nD (pB (wO rfl) rfl B.all PyProof.Rows.boot_all (cW (N4 (N:=["ahead","behind"]) (fr:=[none,none]) rfl (cX.of rfl rfl) (aC6 rfl B.zip (cW (pv 0) (cW (vL Q8 (pv 0) (vK m9) vJ) dP)))
   ⟨fun _ _ _ _=>show PG _ _ (lE K 2 (gK (cQ 0) (gK (cQ 1) lD))) from mG rfl (gW (eZ (i:=0) nd2 rfl (Or.inl rfl) (.inr rfl)) (gW (eZ (i:=1) nd2 rfl (Or.inl rfl) (.inr rfl)) mF)),fun _ _ _ _=>pN,fun _ _ _ _=>vB rL (pv 0) (pv 1) (gL _)⟩) dP))),?_⟩
  refine⟨_,rfl,_,rfl,1,rfl,a,_,rfl,hS,fun p hp=>?_,fun e=>?_⟩
  ·have s1:=bP hp (.tup (fL (ns.map V.int) (some 1) none))
   have hb:aM K (upd H p (.tup (fL (ns.map V.int) (some 1) none))) p ((ns.map V.int).drop 1):=aM.of (by rw [bN,wR])
   refine⟨a,p,_,_,rfl,s1.tup hS,hb,wQ (Q7 (s1.tup hS) hb lz2) (fun i acc _=>acc=((ns.zip (ns.drop 1)).take i).map fun (p:Int × Int)=>V.bl (decide (p.1 < p.2))) lz (fun _ _=>rfl) (fun _ _ _ _ _ h=>h) (fun i x acc D H' hi hR c hP=>?_) (fun D acc H' hD sm hDa hlen hP=>?_)⟩
   ·obtain ⟨T,x1,y1,rfl,hT,h1,h2⟩:=hR
    obtain ⟨m,k,rfl,rfl,hz⟩:=B5 h1 h2
    refine⟨T,_,rfl,aM.of hT,rfl,_,_,rfl,_,_,rfl,rfl,((Wk.refl _).set (i:=0) rfl).set (i:=1) rfl,pR ⟨_,rfl,_,rfl,_,_,rfl,rfl,c.yes (aG.refl _) ?_⟩⟩
    rw [qO hz,hP]
   ·refine⟨D,(ns.zip (ns.drop 1)).map fun (p:Int × Int)=>decide (p.1 < p.2),rfl,aN.of ?_,q _ (s1.trans sm)⟩
    rw [hDa,hP,<- lz3,bs5,bv5]; rfl
  ·have hb:aM K H a ((ns.map V.int).drop 1):=by
    have:(ns.map V.int).drop 1=ns.map V.int:=by rw [<- wR]; exact e
    rw [this]; exact hS
   refine⟨a,a,_,_,rfl,hS,hb,wQ (Q7 hS hb lz2) (fun i acc _=>acc=((ns.zip (ns.drop 1)).take i).map fun (p:Int × Int)=>V.bl (decide (p.1 < p.2))) lz (fun _ _=>rfl) (fun _ _ _ _ _ h=>h) (fun i x acc D H' hi hR c hP=>?_) (fun D acc H' hD sm hDa hlen hP=>?_)⟩
   ·obtain ⟨T,x1,y1,rfl,hT,h1,h2⟩:=hR
    obtain ⟨m,k,rfl,rfl,hz⟩:=B5 h1 h2
    refine⟨T,_,rfl,aM.of hT,rfl,_,_,rfl,_,_,rfl,rfl,((Wk.refl _).set (i:=0) rfl).set (i:=1) rfl,pR ⟨_,rfl,_,rfl,_,_,rfl,rfl,c.yes (aG.refl _) ?_⟩⟩
    rw [qO hz,hP]
   ·refine⟨D,(ns.zip (ns.drop 1)).map fun (p:Int × Int)=>decide (p.1 < p.2),rfl,aN.of ?_,q _ sm⟩
    rw [hDa,hP,<- lz3,bs5,bv5]; rfl
 ·refine⟨_,mD (nD (pB (wO rfl) rfl B.all PyProof.Rows.boot_all (cW (N4 (N:=["ahead","behind"]) (fr:=[none,none]) rfl (cX.of rfl rfl) (aD2 rfl B.zip (cW (pv 0) (cW (vL K1 (pv 0) (vK m9) vJ) dP)))
   ⟨fun _ _ _ _=>show PG _ _ (lE K 2 (gK (cQ 0) (gK (cQ 1) lD))) from mG rfl (gW (eZ (i:=0) nd2 rfl (Or.inl rfl) (.inr rfl)) (gW (eZ (i:=1) nd2 rfl (Or.inl rfl) (.inr rfl)) mF)),fun _ _ _ _=>pN,fun _ _ _ _=>vB rL (pv 0) (pv 1) (gL _)⟩) dP))),?_⟩
  refine⟨_,rfl,_,rfl,1,rfl,a,_,rfl,hS,fun p hp=>?_⟩
  have s1:=bP hp (.lst (fL (ns.map V.int) (some 1) none))
  have hb:aN K (upd H p (.lst (fL (ns.map V.int) (some 1) none))) p ((ns.map V.int).drop 1):=aN.of (by rw [bN,wR])
  refine⟨a,p,_,_,rfl,s1.seq hS,hb,wQ (aD3 (s1.seq hS) hb lz2) (fun i acc _=>acc=((ns.zip (ns.drop 1)).take i).map fun (p:Int × Int)=>V.bl (decide (p.1 < p.2))) lz (fun _ _=>rfl) (fun _ _ _ _ _ h=>h) (fun i x acc D H' hi hR c hP=>?_) (fun D acc H' hD sm hDa hlen hP=>?_)⟩
  ·obtain ⟨T,x1,y1,rfl,hT,h1,h2⟩:=hR
   obtain ⟨m,k,rfl,rfl,hz⟩:=B5 h1 h2
   refine⟨T,_,rfl,aM.of hT,rfl,_,_,rfl,_,_,rfl,rfl,((Wk.refl _).set (i:=0) rfl).set (i:=1) rfl,pR ⟨_,rfl,_,rfl,_,_,rfl,rfl,c.yes (aG.refl _) ?_⟩⟩
   rw [qO hz,hP]
  ·refine⟨D,(ns.zip (ns.drop 1)).map fun (p:Int × Int)=>decide (p.1 < p.2),rfl,aN.of ?_,q _ (s1.trans sm)⟩
   rw [hDa,hP,<- lz3,bs5,bv5]; rfl
noncomputable abbrev al2:Stmt:=bA 8
theorem uR:FnScope ["web","around","one","other"] ["web"] (aY al2):=.au
theorem bg4 (F:fZ K "near_lists" "near_lists" al2 f fd):dD P w K mg base eB 1 f fd ["web"] tF:=by
 refine F.ok uR (fun vs H Q E h=>?_) (fun cdv A outer s H vs Q E hr h=>?_)
 ·obtain ⟨v,ws,ls,rfl,_⟩:=h
  rfl
 obtain ⟨v,ws,ls,rfl,W,hn,hm,hin,q⟩:=h
 refine⟨_,mC (N5 (i:=1) (N:=["want"]) (fr:=[none]) rfl (cX.of rfl rfl) (rH (kK pF (pv 0) m9 (fun _ _=>rfl)))
   ⟨fun _ _ _ _=>eZ (i:=0) (bq2 _ _) rfl (Or.inl rfl) (.inr rfl),fun _ _ _ _=>pN,fun _ _ _ _=>vF dP⟩ uR.nd rfl rfl rfl)
  (mC (v0 bD0 rfl (rH (kK pF (pv 0) m9 (fun _ _=>rfl))) (mG (n:=2) rfl (gW (eZ (i:=2) uR.nd rfl (Or.inl rfl) (.inr rfl)) (gW (eZ (i:=3) uR.nd rfl (Or.inl rfl) (.inr rfl)) mF)) )
   (mC (lC (mH bv6 bA1 bA2 nH (kK pE (pv 1) (pv 2) (fun _ _=>rfl)) (cW (pv 3) dP)))
   (mD (lC (mH bv6 bA1 bA2 nH (kK pE (pv 1) (pv 3) (fun _ _=>rfl)) (cW (pv 2) dP))))))
  (mD (nD (pv 1)))),?_⟩
 obtain ⟨a,p,q',ys,rfl,ha,hp,hq,hL⟩:=W.at_
 have lw:(ws.map V.int).length=ws.length:=bn7 _
 refine⟨_,rfl,a,_,_,_,rfl,rfl,aM.of ha,rfl,p,rfl,⟨_,aM.of hp⟩,N9 (N7 (aM.of hp)) (fun i acc H'=>∃ bs:List Addr,acc=bs.map V.ref/\bs.length=i/\bs.Nodup/\∀ b ∈ bs,H b=none/\H' b=some (.lst [])) (by rw [lw]; exact bt5 (nK hn))
  (fun D hD=>⟨[],rfl,rfl,List.nodup_nil,fun _ z=>nomatch z⟩) (fun i x acc D H' hx c hPv=>?_) (fun D acc H' hD sm hDa hlen hPv=>?_)⟩
 ·obtain ⟨bs,rfl,hbl,nd,hb⟩:=hPv
  refine⟨P9 (n:=none),pR ⟨br9 _,fun r hr'=>?_⟩⟩
  have hrD:r ≠ D:=fun z=>by rw [z,c.acc] at hr'; cases hr'
  have hrH:H r=none:=c.same.free hr'
  refine c.yes (bP hr' _) ⟨bs ++ [r],by simp,by simp [hbl],?_,fun b hm=>?_⟩
  ·refine bu1.mpr ⟨nd,bq2 _ _,fun b hb1 b' hb2 e=>?_⟩
   rw [bo2.mp hb2] at e
   rw [e] at hb1
   rw [(hb r hb1).2] at hr'; cases hr'
  ·rcases bo6.mp hm with hm | hm
   ·have hbD:b ≠ D:=fun z=>by
     rw [z] at hm
     have:=(hb D hm).2
     rw [c.acc] at this
     have:bs.map V.ref = []:=by injection this with e1; injection e1
     have:bs = []:=List.map_eq_nil_iff.mp this
     rw [this] at hm; simp at hm
    refine⟨(hb b hm).1,?_⟩
    rw [aX hbD,aX (cK (hb b hm).2 hr')]
    exact (hb b hm).2
   ·rw [bo2.mp hm]
    exact⟨hrH,by rw [aX hrD,bN]⟩
 ·obtain ⟨bs,rfl,hbl,nd,hb⟩:=hPv
  rw [lw] at hbl
  have R0:jE H H' D bs (fun k=>aO (ls.take 0) k):=by
   refine⟨hD,fun b hm=>⟨(hb b hm).1,fun z=>?_⟩,nd,hDa,fun k b hk=>(hb b (bp0 hk)).2,sm⟩
   rw [z] at hm
   have:=(hb D hm).2
   rw [hDa] at this
   have:bs.map V.ref = []:=by injection this with e1; injection e1
   have:bs = []:=List.map_eq_nil_iff.mp this
   rw [this] at hm; simp at hm
  have lL:=hL.length
  refine⟨_,rfl,a,_,_,_,rfl,rfl,aM.of (sm _ _ ha),rfl,q',rfl,⟨_,aM.of (sm _ _ hq)⟩,E8 (K:=K) (a:=q') (xs:=ys) (fun i σ H2=>∃ x y:Option V,σ = [some (.ref a),some (.ref D),x,y]/\jE H H2 D bs (fun k=>aO (ls.take i) k))
   ⟨none,none,rfl,R0⟩ (fun i σ H2 _ ⟨_,_,_,R⟩=>aM.of (R.same _ _ hq)) ?_ ?_⟩
  ·rintro i y σ H2 hi ⟨x1,x2,rfl,R⟩
   obtain ⟨l,b,hl,rfl,hbt⟩:=hL.get hi
   have hlm:l ∈ ls:=bp0 hl
   obtain ⟨⟨h1,h2⟩,h3,h4⟩:=hin l hlm
   have k1:l.1.toNat < bs.length:=by omega
   have k2:l.2.toNat < bs.length:=by omega
   have e1:bs[l.1.toNat]? = some (bs[l.1.toNat]):=bo1 k1
   have e2:bs[l.2.toNat]? = some (bs[l.2.toNat]):=bo1 k2
   refine⟨b,_,rfl,aM.of (R.same _ _ hbt),rfl,_,_,rfl,_,_,rfl,rfl,?_⟩
   refine⟨_,rfl,_,rfl,D,_,_,.ref bs[l.1.toNat],rfl,rfl,aN.of R.row,mK h1 (by rw [bo8,e1]; rfl),lN (aN.of (R.rows _ _ e1)),_,rfl,_,_,_,rfl,rfl,R.rows _ _ e1,?_,?_⟩
   ·rw [bn7]
    have:=lM (ls.take i) (l.1.toNat:Nat)
    rw [bt8] at this
    exact iV (by omega)
   ·have R1:=R.app e1 l.2
    refine⟨_,rfl,_,rfl,D,_,_,.ref bs[l.2.toNat],rfl,rfl,aN.of R1.row,mK h3 (by rw [bo8,e2]; rfl),lN (aN.of (R1.rows _ _ e2)),_,rfl,_,_,_,rfl,rfl,R1.rows _ _ e2,?_,?_⟩
    ·rw [bn7]
     have:=lM (ls.take i) (l.2.toNat:Nat)
     rw [bt8] at this
     split
     ·rw [bo0,br1]; exact iV (by omega)
     ·exact iV (by omega)
    ·have R2:=R1.app e2 l.1
     refine⟨_,_,rfl,R2.congr fun k hk=>?_⟩
     rw [Q2 hl]
     have c1:(k=l.1.toNat) ↔ l.1=(k:Int):=by omega
     have c2:(k=l.2.toNat) ↔ l.2=(k:Int):=by omega
     by_cases d1:k=l.1.toNat
     ·by_cases d2:k=l.2.toNat
      ·rw [if_pos d2,if_pos d1,if_pos (c1.mp d1),if_pos (c2.mp d2)]; simp
      ·rw [if_neg d2,if_pos d1,if_pos (c1.mp d1),if_neg (fun z=>d2 (c2.mpr z))]; simp
     ·by_cases d2:k=l.2.toNat
      ·rw [if_pos d2,if_neg d1,if_neg (fun z=>d1 (c1.mpr z)),if_pos (c2.mp d2)]; simp
      ·rw [if_neg d2,if_neg d1,if_neg (fun z=>d1 (c1.mpr z)),if_neg (fun z=>d2 (c2.mpr z))]; simp
  ·
   rintro σ H2 ⟨x1,x2,rfl,R⟩
   refine⟨_,rfl,q D bs H2 hbl ?_⟩
   rw [lL,bs5] at R
   exact R
noncomputable abbrev al3:Stmt:=bA 44
theorem uS:FnScope ["web","beside","one","other"] ["web"] (aY al3):=.au
theorem bg5 (F:fZ K "_law_beside" "_law_beside" al3 f fd):dD P w K mg base eB 1 f fd ["web"] tF:=by
 refine F.ok uS (fun vs H Q E h=>?_) (fun cdv A outer s H vs Q E hr h=>?_)
 ·obtain ⟨v,ws,ls,rfl,_⟩:=h
  rfl
 obtain ⟨v,ws,ls,rfl,W,hn,hm,hin,q⟩:=h
 refine⟨_,mC (N5 (i:=1) (N:=["hearth"]) (fr:=[none]) rfl (cX.of rfl rfl) (rH (kK pF (pv 0) m9 (fun _ _=>rfl)))
   ⟨fun _ _ _ _=>eZ (i:=0) (bq2 _ _) rfl (Or.inl rfl) (.inr rfl),fun _ _ _ _=>pN,fun _ _ _ _=>vF dP⟩ uS.nd rfl rfl rfl)
  (mC (v0 bD0 rfl (rH (kK pF (pv 0) m9 (fun _ _=>rfl))) (mG (n:=2) rfl (gW (eZ (i:=2) uS.nd rfl (Or.inl rfl) (.inr rfl)) (gW (eZ (i:=3) uS.nd rfl (Or.inl rfl) (.inr rfl)) mF)) )
   (mC (lC (mH bv6 bA1 bA2 nH (kK pE (pv 1) (pv 2) (fun _ _=>rfl)) (cW (pv 3) dP)))
   (mD (lC (mH bv6 bA1 bA2 nH (kK pE (pv 1) (pv 3) (fun _ _=>rfl)) (cW (pv 2) dP))))))
  (mD (nD (pv 1)))),?_⟩
 obtain ⟨a,p,q',ys,rfl,ha,hp,hq,hL⟩:=W.at_
 have lw:(ws.map V.int).length=ws.length:=bn7 _
 refine⟨_,rfl,a,_,_,_,rfl,rfl,aM.of ha,rfl,p,rfl,⟨_,aM.of hp⟩,N9 (N7 (aM.of hp)) (fun i acc H'=>∃ bs:List Addr,acc=bs.map V.ref/\bs.length=i/\bs.Nodup/\∀ b ∈ bs,H b=none/\H' b=some (.lst [])) (by rw [lw]; exact bt5 (nK hn))
  (fun D hD=>⟨[],rfl,rfl,List.nodup_nil,fun _ z=>nomatch z⟩) (fun i x acc D H' hx c hPv=>?_) (fun D acc H' hD sm hDa hlen hPv=>?_)⟩
 ·obtain ⟨bs,rfl,hbl,nd,hb⟩:=hPv
  refine⟨P9 (n:=none),pR ⟨br9 _,fun r hr'=>?_⟩⟩
  have hrD:r ≠ D:=fun z=>by rw [z,c.acc] at hr'; cases hr'
  have hrH:H r=none:=c.same.free hr'
  refine c.yes (bP hr' _) ⟨bs ++ [r],by simp,by simp [hbl],?_,fun b hm=>?_⟩
  ·refine bu1.mpr ⟨nd,bq2 _ _,fun b hb1 b' hb2 e=>?_⟩
   rw [bo2.mp hb2] at e
   rw [e] at hb1
   rw [(hb r hb1).2] at hr'; cases hr'
  ·rcases bo6.mp hm with hm | hm
   ·have hbD:b ≠ D:=fun z=>by
     rw [z] at hm
     have:=(hb D hm).2
     rw [c.acc] at this
     have:bs.map V.ref = []:=by injection this with e1; injection e1
     have:bs = []:=List.map_eq_nil_iff.mp this
     rw [this] at hm; simp at hm
    refine⟨(hb b hm).1,?_⟩
    rw [aX hbD,aX (cK (hb b hm).2 hr')]
    exact (hb b hm).2
   ·rw [bo2.mp hm]
    exact⟨hrH,by rw [aX hrD,bN]⟩
 ·obtain ⟨bs,rfl,hbl,nd,hb⟩:=hPv
  rw [lw] at hbl
  have R0:jE H H' D bs (fun k=>aO (ls.take 0) k):=by
   refine⟨hD,fun b hm=>⟨(hb b hm).1,fun z=>?_⟩,nd,hDa,fun k b hk=>(hb b (bp0 hk)).2,sm⟩
   rw [z] at hm
   have:=(hb D hm).2
   rw [hDa] at this
   have:bs.map V.ref = []:=by injection this with e1; injection e1
   have:bs = []:=List.map_eq_nil_iff.mp this
   rw [this] at hm; simp at hm
  have lL:=hL.length
  refine⟨_,rfl,a,_,_,_,rfl,rfl,aM.of (sm _ _ ha),rfl,q',rfl,⟨_,aM.of (sm _ _ hq)⟩,E8 (K:=K) (a:=q') (xs:=ys) (fun i σ H2=>∃ x y:Option V,σ = [some (.ref a),some (.ref D),x,y]/\jE H H2 D bs (fun k=>aO (ls.take i) k))
   ⟨none,none,rfl,R0⟩ (fun i σ H2 _ ⟨_,_,_,R⟩=>aM.of (R.same _ _ hq)) ?_ ?_⟩
  ·rintro i y σ H2 hi ⟨x1,x2,rfl,R⟩
   obtain ⟨l,b,hl,rfl,hbt⟩:=hL.get hi
   have hlm:l ∈ ls:=bp0 hl
   obtain ⟨⟨h1,h2⟩,h3,h4⟩:=hin l hlm
   have k1:l.1.toNat < bs.length:=by omega
   have k2:l.2.toNat < bs.length:=by omega
   have e1:bs[l.1.toNat]? = some (bs[l.1.toNat]):=bo1 k1
   have e2:bs[l.2.toNat]? = some (bs[l.2.toNat]):=bo1 k2
   refine⟨b,_,rfl,aM.of (R.same _ _ hbt),rfl,_,_,rfl,_,_,rfl,rfl,?_⟩
   refine⟨_,rfl,_,rfl,D,_,_,.ref bs[l.1.toNat],rfl,rfl,aN.of R.row,mK h1 (by rw [bo8,e1]; rfl),lN (aN.of (R.rows _ _ e1)),_,rfl,_,_,_,rfl,rfl,R.rows _ _ e1,?_,?_⟩
   ·rw [bn7]
    have:=lM (ls.take i) (l.1.toNat:Nat)
    rw [bt8] at this
    exact iV (by omega)
   ·have R1:=R.app e1 l.2
    refine⟨_,rfl,_,rfl,D,_,_,.ref bs[l.2.toNat],rfl,rfl,aN.of R1.row,mK h3 (by rw [bo8,e2]; rfl),lN (aN.of (R1.rows _ _ e2)),_,rfl,_,_,_,rfl,rfl,R1.rows _ _ e2,?_,?_⟩
    ·rw [bn7]
     have:=lM (ls.take i) (l.2.toNat:Nat)
     rw [bt8] at this
     split
     ·rw [bo0,br1]; exact iV (by omega)
     ·exact iV (by omega)
    ·have R2:=R1.app e2 l.1
     refine⟨_,_,rfl,R2.congr fun k hk=>?_⟩
     rw [Q2 hl]
     have c1:(k=l.1.toNat) ↔ l.1=(k:Int):=by omega
     have c2:(k=l.2.toNat) ↔ l.2=(k:Int):=by omega
     by_cases d1:k=l.1.toNat
     ·by_cases d2:k=l.2.toNat
      ·rw [if_pos d2,if_pos d1,if_pos (c1.mp d1),if_pos (c2.mp d2)]; simp
      ·rw [if_neg d2,if_pos d1,if_pos (c1.mp d1),if_neg (fun z=>d2 (c2.mpr z))]; simp
     ·by_cases d2:k=l.2.toNat
      ·rw [if_pos d2,if_neg d1,if_neg (fun z=>d1 (c1.mpr z)),if_pos (c2.mp d2)]; simp
      ·rw [if_neg d2,if_neg d1,if_neg (fun z=>d1 (c1.mpr z)),if_neg (fun z=>d2 (c2.mpr z))]; simp
  ·
   rintro σ H2 ⟨x1,x2,rfl,R⟩
   refine⟨_,rfl,q D bs H2 hbl ?_⟩
   rw [lL,bs5] at R
   exact R
theorem bg6:FnScope ["web"] ["web"] (aY (bA 7)):=.au
theorem bg7 (B:Bt mg) (F:FM K mg "hearths_in" 7 f fd)  : Df P w K mg base 1 "hearths_in" ["web"] j5:=
 Df.au F bg6 (fun cdv A outer s H E hr=>by
  exact⟨(W9),(aJ (bH (cJ B (a7 (bG (qv 0) aC) aA)))),aN5⟩)
theorem al4:FnScope ["hearths","inside","hearth"] ["hearths"] (aY (bA 12)):=.au
theorem bg8 (B:Bt mg) (F:FM K mg "marked" 12 f fd)  : Df P w K mg base 1 "marked" ["hearths"] iH:=
 Df.au F al4 (fun cdv A outer s H E hr=>by
  have nd:=al4.nd
  have hu:=lI hr
  exact⟨(X7),(aF (dU (i:=1) nd qK)
   (aF (fF 2 nd (dF (qv 0))
    (aJ (qM hu (i:=1) (qv 2) dL)))
   (aJ (mT 1)))),aO0⟩)
theorem bg9:FnScope ["hearths","inside"] ["hearths","inside"] (aY (bA 13)):=.au
theorem bh0 (B:Bt mg) (F:FM K mg "count_inside" 13 f fd)  : Df P w K mg base 1 "count_inside" ["hearths","inside"] lW:=
 Df.au F bg9 (fun cdv A outer s H E hr=>by
  have hu:=lI hr
  exact⟨(X8),(aJ (bH (cJ B (a7 (jL (N:=["hearth","inside"]) (fr:=[none,some 1]) (dF (qv 0)) (fun _ _ _ _=>(xN hu (qv 0) (qv 1))) (fun _ _ _ _=>(qv 0))) aA)))),aO1⟩)
theorem bh1:FnScope ["around","hearth","elder"] ["around","hearth","elder"] (aY (bA 33)):=.au
theorem bh2 (B:Bt mg) (F:FM K mg "children_of" 33 f fd)  : Df P w K mg base 1 "children_of" ["around","hearth","elder"] oR:=
 Df.au F bh1 (fun cdv A outer s H E hr=>by
  exact⟨(ag6),(aJ (bH (jL (N:=["other","elder"]) (fr:=[none,some 2]) (dF (bG (qv 0) (qv 1))) (fun _ _ _ _=>(aX8 (qv 0) (qv 1))) (fun _ _ _ _=>(qv 0))))),bc8⟩)
theorem bh3:FnScope ["script","k"] ["script","k"] (aY (bA 38)):=.au
theorem bh4 (B:Bt mg) (F:FM K mg "_law_cell_at" 38 f fd)  : Df P w K mg base 1 "_law_cell_at" ["script","k"] dX:=
 Df.au F bh3 (fun cdv A outer s H E hr=>by
  exact⟨(Y1),(aF (c8 (sS (qv 1) (cJ B (a7 (qv 0) aA))) (aJ (bH (bG (qv 0) (qv 1)))) cB)
   (aJ (bH aC))),aO6⟩)
theorem al5:FnScope ["number","k","turn"] ["number","k"] (aY (bA 39)):=.au
theorem bh5 (B:Bt mg) (F:FM K mg "_law_mixed" 39 f fd)  : Df P w K mg base 1 "_law_mixed" ["number","k"] i7:=
 Df.au F al5 (fun cdv A outer s H E hr=>by
  have nd:=al5.nd
  exact⟨(ad7),(aF (bC (i:=2) nd (cI (cO (cO (cO (cI (qv 0) aC) (qG (qG aC (qv 1)) (qv 1))) (qG aC (qv 1))) aC) aC))
   (aF (bC (i:=2) nd (cI (qG (qv 2) aC) aC))
   (aJ (bH (cI (qG (qv 2) (qv 2)) aC))))),aY3⟩)
theorem bh6:FnScope ["found"] ["found"] (aY (bA 40)):=.au
theorem bh7 (B:Bt mg) (F:FM K mg "_law_whole" 40 f fd)  : Df P w K mg base 1 "_law_whole" ["found"] oB:=
 Df.au F bh6 (fun cdv A outer s H E hr=>by
  exact⟨(Y2 K),(aJ (bH (sV (aK8 B (qv 0)) (sT (aJ7 (aK9 B (qv 0))))))),aO7 (yK K).ii (yK K).ib⟩)
theorem al6:FnScope ["some","many","cell","far","hearth","place"] ["some","many","cell"] (aY (bA 52)):=.au
theorem bh8 (B:Bt mg) (F:FM K mg "_law_other_set" 52 f fd)  : Df P w K mg base 1 "_law_other_set" ["some","many","cell"] rC:=
 Df.au F al6 (fun cdv A outer s H E hr=>by
  have nd:=al6.nd
  exact⟨(B0),(aF (bC (i:=3) nd (cI (gG (qv 2) aC) (aJ1 aC aC)))
   (aF (bC (i:=4) nd (cI (gG (qv 2) aC) (mU B rfl (a7 aC (a7 (qv 1) aA)))))
   (aF (bC (i:=5) nd (cI (gG (qv 2) aC) (mU B rfl (a7 aC (a7 (cJ B (a7 (qv 0) aA)) aA)))))
   (aJ (bH (bG (gI (a7 (iJ (iF (qv 0) jK (gQ (qv 5))) (iF (qv 0) (gQ (cO (qv 5) aC)) jK)) (a7 (fO B (a7 (aQ8 B (a7 (iJ (qv 0) (cT (a7 (qv 4) aA))) aA)) aA)) (a7 (iJ (qv 0) (cT (a7 (cO (qv 1) (qv 3)) aA))) (a7 (iJ (cT (a7 (mS (xT aC) (qv 3)) aA)) (qv 0)) (a7 (iJ (qv 0) (iF (qv 0) (gQ (xT aC)) jK)) aA)))))) (cI (qv 2) aC))))))),bf4⟩)
theorem bh9:FnScope ["web","number"] ["web","number"] (aY (bA 9)):=.au
theorem bi0 (B:Bt mg) (F:FM K mg "is_hearth" 9 f fd) (d_hearths_in:Df P w K mg base 1 "hearths_in" ["web"] j5):Df P w K mg base 2 "is_hearth" ["web","number"] t7:=
 Df.au F bh9 (fun cdv A outer s H E hr=>by
  exact⟨(X0),(aJ (bH (sV (U6 (qv 1) aC) (sT (aJ3 (qv 1) (aW d_hearths_in hr (a7 (qv 0) aA))))))),aN6⟩)
theorem bi1:FnScope ["hearths","inside"] ["hearths","inside"] (aY (bA 14)):=.au
theorem bi2 (B:Bt mg) (F:FM K mg "count_outside" 14 f fd) (d_count_inside:Df P w K mg base 1 "count_inside" ["hearths","inside"] lW):Df P w K mg base 2 "count_outside" ["hearths","inside"] tI:=
 Df.au F bi1 (fun cdv A outer s H E hr=>by
  exact⟨(aa6),(aJ (bH (mS (cJ B (a7 (qv 0) aA)) (aW d_count_inside hr (a7 (qv 0) (a7 (qv 1) aA)))))),aT2⟩)
theorem al7:FnScope ["hearths","some","gone"] ["hearths","some"] (aY (bA 15)):=.au
theorem bi3 (B:Bt mg) (F:FM K mg "without" 15 f fd) (d_marked:Df P w K mg base 1 "marked" ["hearths"] iH):Df P w K mg base 2 "without" ["hearths","some"] oE:=
 Df.au F al7 (fun cdv A outer s H E hr=>by
  have nd:=al7.nd
  have hu:=lI hr
  exact⟨(aa7),(aF (bC (i:=2) nd (aW d_marked hr (a7 (qv 1) aA)))
   (aJ (bH (fO B (a7 (jL (N:=["hearth","gone"]) (fr:=[none,some 2]) (dF (qv 0)) (fun _ _ _ _=>(xO hu (qv 0) (qv 1))) (fun _ _ _ _=>(qv 0))) aA))))),aT3⟩)
theorem bi4:FnScope ["web","around","burning","hearth"] ["web","around","burning","hearth"] (aY (bA 20)):=.au
theorem bi5 (B:Bt mg) (F:FM K mg "can_kindle" 20 f fd) (d_count_inside:Df P w K mg base 1 "count_inside" ["hearths","inside"] lW):Df P w K mg base 2 "can_kindle" ["web","around","burning","hearth"] t9:=
 Df.au F bi4 (fun cdv A outer s H E hr=>by
  have hu:=lI hr
  exact⟨(X9),(aJ (bH (sV (aJ6 hu (qv 3) (qv 2)) (sT (U6 (aW d_count_inside hr (a7 (bG (qv 1) (qv 3)) (a7 (qv 2) aA))) (bG (bG (qv 0) aC) (qv 3))))))),aO2⟩)
theorem al8:FnScope ["around","hearths","inside","reached","waiting","hearth","other"] ["around","hearths"] (aY (bA 28)):=.au
theorem bi6 (B:Bt mg) (F:FM K mg "first_piece" 28 f fd) (d_marked:Df P w K mg base 1 "marked" ["hearths"] iH):Df P w K mg base 2 "first_piece" ["around","hearths"] tW:=
 Df.au F al8 (fun cdv A outer s H E hr=>by
  have nd:=al8.nd
  have hu:=lI hr
  exact⟨(ad4),(aF (bC (i:=2) nd (aW d_marked hr (a7 (qv 1) aA)))
   (aF (dU (i:=3) nd (aW4 (bG (qv 1) aC)))
   (aF (dU (i:=4) nd (gI (a7 (bG (qv 1) aC) aA)))
   (aF (qL bD0 (lR (qv 4))
    (aF (aW5 nd 4 5)
    (aJ (fF 6 nd (dF (bG (qv 0) (qv 5)))
     (aJ (c8 (jJ (xQ (xN hu (qv 6) (qv 2)) (xP (xO hu (qv 6) (qv 3))))) (aF (qM hu (i:=3) (qv 6) dL)
      (aJ (lT 4 (qv 6)))) cB))))))
   (aJ (bH (fO B (a7 (ab0 B rfl (a7 (qv 3) aA)) aA)))))))),aW9⟩)
theorem al9:FnScope ["script","most","number"] ["script","most"] (aY (bA 41)):=.au
theorem bi7 (B:Bt mg) (F:FM K mg "_law_hearths" 41 f fd) (d__law_cell_at:Df P w K mg base 1 "_law_cell_at" ["script","k"] dX):Df P w K mg base 2 "_law_hearths" ["script","most"] oK:=
 Df.au F al9 (fun cdv A outer s H E hr=>by
  have nd:=al9.nd
  exact⟨(ad8),(aF (bC (i:=2) nd (aW d__law_cell_at hr (a7 (qv 0) (a7 aC aA))))
   (aF (c8 (gH (cI (qv 2) aC) aC) (aJ (bH (xS B rfl (a7 (qv 1) (a7 (mU B rfl (a7 aC (a7 (mS (cJ B (a7 (qv 0) aA)) aC) aA))) aA))))) cB)
   (aF (c8 (gH (cI (qv 2) aC) aC) (aJ (bH (cI (cO (gG (qv 2) aC) aC) (cO (qv 1) aC)))) cB)
   (aJ (bH (cI (cO (gG (qv 2) aC) aC) (cO (xS B rfl (a7 aC (a7 (qv 1) aA))) aC))))))),aY4⟩)
theorem am0:FnScope ["script","many","digits","places","number","k","spot"] ["script","many","digits"] (aY (bA 42)):=.au
theorem bi8 (B:Bt mg) (F:FM K mg "_law_places" 42 f fd) (d__law_cell_at:Df P w K mg base 1 "_law_cell_at" ["script","k"] dX) (d__law_mixed:Df P w K mg base 1 "_law_mixed" ["number","k"] i7):Df P w K mg base 2 "_law_places" ["script","many","digits"] uD:=
 Df.au F am0 (fun cdv A outer s H E hr=>by
  have nd:=am0.nd
  exact⟨(ah3),(aF (dU (i:=3) nd (Y4 B (qv 1)))
   (aF (bC (i:=4) nd (aW d__law_cell_at hr (a7 (qv 0) (a7 aC aA))))
   (aF (c8 (gH (cI (gG (aW d__law_cell_at hr (a7 (qv 0) (a7 aC aA))) aC) aC) aC) (aF (dU (i:=3) nd (gI aA))
    (aJ (fF 5 nd (k9 rfl B.range (qv 1))
     (aF (bC (i:=6) nd (aW d__law_mixed hr (a7 (aW d__law_cell_at hr (a7 (qv 0) (a7 aC aA))) (a7 (cO (qv 5) aC) aA))))
     (aF (c8 (lR (qv 2)) (aF (bC (i:=6) nd (qv 4))
      (aJ (bC (i:=4) nd (gG (qv 4) (cO (qv 5) aC))))) cB)
     (aJ (aV6 3 (cI (qv 6) (cO (qv 5) aC)) (qv 5)))))))) cB)
   (aJ (mT 3))))),bd6⟩)
theorem am1:FnScope ["web","seeds","beside","burning","left","hearth","count"] ["web","seeds"] (aY (bA 46)):=.au
theorem bi9 (B:Bt mg) (F:FM K mg "_law_burning" 46 f fd) (d__law_beside:Df P w K mg base 1 "_law_beside" ["web"] u3):Df P w K mg base 2 "_law_burning" ["web","seeds"] u4:=
 Df.au F am1 (fun cdv A outer s H E hr=>by
  have nd:=am1.nd
  exact⟨(ae4),(aF (bC (i:=2) nd (aW d__law_beside hr (a7 (qv 0) aA)))
   (aF (dU (i:=3) nd (sX (N:=["hearth","seeds"]) (fr:=[none,some 1]) (k9 rfl B.range (cJ B (a7 (bG (qv 0) aC) aA))) (fun _ _ _ _=>(aK4 (qv 0) (qv 1)))))
   (aF (bC (i:=4) nd dL)
   (aF (qL bD0 (fE (qv 4))
    (aF (bC (i:=4) nd dL)
    (aJ (fF 5 nd (k9 rfl B.range (cJ B (a7 (bG (qv 0) aC) aA)))
     (aF (bC (i:=6) nd (cJ B (a7 (jL (N:=["other","burning"]) (fr:=[none,some 3]) (dF (bG (qv 2) (qv 5))) (fun _ _ _ _=>(lR (bG (qv 1) (qv 0)))) (fun _ _ _ _=>(qv 0))) aA)))
     (aJ (c8 (jJ (xQ (fN (lR (bG (qv 3) (qv 5)))) (xP (xJ (qv 6) (bG (bG (qv 0) aC) (qv 5)))))) (aF (o0 (i:=3) (qv 5) dL)
      (aJ (bC (i:=4) nd dL))) cB)))))))
   (aJ (mT 3)))))),aZ1⟩)
theorem am2:FnScope ["web","block","beside","hearth"] ["web","block"] (aY (bA 48)):=.au
theorem bj0 (B:Bt mg) (F:FM K mg "_law_is_cold" 48 f fd) (d__law_beside:Df P w K mg base 1 "_law_beside" ["web"] u3):Df P w K mg base 2 "_law_is_cold" ["web","block"] u9:=
 Df.au F am2 (fun cdv A outer s H E hr=>by
  have nd:=am2.nd
  exact⟨(af4),(aF (bC (i:=2) nd (aW d__law_beside hr (a7 (qv 0) aA)))
   (aF (fF 3 nd (dF (qv 1))
    (aJ (c8 (xJ (cJ B (a7 (jL (N:=["other","block"]) (fr:=[none,some 1]) (dF (bG (qv 2) (qv 3))) (fun _ _ _ _=>(aK5 (qv 0) (qv 1))) (fun _ _ _ _=>(qv 0))) aA)) (bG (bG (qv 0) aC) (qv 3))) (aJ (bH dL)) cB)))
   (aJ (bH dL)))),bb0⟩)
theorem am3:FnScope ["found","many","last","hearth"] ["found","many"] (aY (bA 49)):=.au
theorem bj1 (B:Bt mg) (F:FM K mg "_law_is_set" 49 f fd) (d__law_whole:Df P w K mg base 1 "_law_whole" ["found"] oB):Df P w K mg base 2 "_law_is_set" ["found","many"] r9:=
 Df.au F am3 (fun cdv A outer s H E hr=>by
  have nd:=am3.nd
  exact⟨(af3 K),(aF (c8 (fN (fE (aL0 B (qv 0)))) (aJ (bH dL)) cB)
   (aF (bC (i:=2) nd (xT aC))
   (aF (fF 3 nd (dF (qv 0))
    (aF (c8 (jJ (iE (fN (fE (aW d__law_whole hr (a7 (qv 3) aA)))) (iE (aJ4 (qv 3) (qv 2)) (lS (xJ (qv 3) (qv 1)))))) (aJ (bH dL)) cB)
    (aJ (bC (i:=2) nd (qv 3)))))
   (aJ (bH dL))))),ba9 (yK K).tt⟩)
theorem bj2:FnScope ["number","many"] ["number","many"] (aY (bA 50)):=.au
theorem bj3 (B:Bt mg) (F:FM K mg "_law_seeds" 50 f fd) (d__law_mixed:Df P w K mg base 1 "_law_mixed" ["number","k"] i7):Df P w K mg base 2 "_law_seeds" ["number","many"] u6:=
 Df.au F bj2 (fun cdv A outer s H E hr=>by
  exact⟨(ae6),(aF (c8 (gH (cI (qv 0) aC) aC) (aJ (bH (fO B (a7 (jL (N:=["hearth","number"]) (fr:=[none,some 0]) (k9 rfl B.range (qv 1)) (fun _ _ _ _=>(gH (aY0 (aJ2 (qv 1) (cO (qv 0) aC)) aC) aC)) (fun _ _ _ _=>(qv 0))) aA)))) cB)
   (aJ (bH (fO B (a7 (jL (N:=["hearth","number"]) (fr:=[none,some 0]) (k9 rfl B.range (qv 1)) (fun _ _ _ _=>(qJ (cI (aW d__law_mixed hr (a7 (qv 1) (a7 (cO (qv 0) aC) aA))) aC) aC)) (fun _ _ _ _=>(qv 0))) aA))))),aZ4⟩)
theorem am4:FnScope ["paper","many","cell","seeds","blocks","way","rest","place"] ["paper","many","cell"] (aY (bA 53)):=.au
theorem bj4 (B:Bt mg) (F:FM K mg "_law_spoiled" 53 f fd) (d__law_other_set:Df P w K mg base 1 "_law_other_set" ["some","many","cell"] rC):Df P w K mg base 2 "_law_spoiled" ["paper","many","cell"] uM:=
 Df.au F am4 (fun cdv A outer s H E hr=>by
  have nd:=am4.nd
  exact⟨(B1),(aF (ab7 3 4 nd (qv 0))
   (aF (bC (i:=5) nd (cI (qv 2) aC))
   (aF (bC (i:=6) nd (gG (qv 2) aC))
   (aF (bC (i:=7) nd (cI (qv 6) (mU B rfl (a7 aC (a7 (cJ B (a7 (qv 4) aA)) aA)))))
   (aF (c8 (sS (qv 5) aC) (aJ (bH (cT (a7 (aW d__law_other_set hr (a7 (qv 3) (a7 (qv 1) (a7 (qv 6) aA)))) (a7 (qv 4) aA))))) cB)
   (aF (c8 (jJ (iE (gH (qv 5) aC) (lS (gH (cJ B (a7 (qv 4) aA)) aC)))) (aJ (bH (cT (a7 (qv 3) (a7 (iJ (qv 4) (cT (a7 (cT (a7 (cI (qv 6) (mU B rfl (a7 aC (a7 (qv 1) aA)))) aA)) aA))) aA))))) cB)
   (aF (c8 (gH (qv 5) aC) (aJ (bH (cT (a7 (qv 3) (a7 (iJ (iF (qv 4) jK (gQ (qv 7))) (iF (qv 4) (gQ (cO (qv 7) aC)) jK)) aA))))) cB)
   (aF (c8 (gH (qv 5) aC) (aJ (bH (cT (a7 (qv 3) (a7 (iJ (iJ (iF (qv 4) jK (gQ (qv 7))) (cT (a7 (bG (qv 4) aC) aA))) (iF (qv 4) (gQ (cO (qv 7) aC)) jK)) aA))))) cB)
   (aF (c8 (gH (qv 5) aC) (aJ (bH (cT (a7 (qv 3) (a7 (iJ (iJ (iF (qv 4) jK (gQ (qv 7))) (cT (a7 (cT aA) aA))) (iF (qv 4) (gQ (cO (qv 7) aC)) jK)) aA))))) cB)
   (aJ (bH (cT (a7 (qv 3) (a7 (iJ (iJ (iF (qv 4) jK (gQ (qv 7))) (cT (a7 (aW d__law_other_set hr (a7 (bG (qv 4) (qv 7)) (a7 (qv 1) (a7 (gG (qv 6) aC) aA)))) aA))) (iF (qv 4) (gQ (cO (qv 7) aC)) jK)) aA)))))))))))))),bf7⟩)
theorem bj5:FnScope ["web","numbers"] ["web","numbers"] (aY (bA 10)):=.au
theorem bj6 (B:Bt mg) (F:FM K mg "is_set" 10 f fd) (d_rises:Df P w K mg base 1 "rises" ["things"] yE) (d_is_hearth:Df P w K mg base 2 "is_hearth" ["web","number"] t7):Df P w K mg base 3 "is_set" ["web","numbers"] lV:=
 Df.au F bj5 (fun cdv A outer s H E hr=>by
  exact⟨(X1),(aJ (bH (sV (aW d_rises hr (a7 (qv 1) aA)) (sT (aK3 B rfl (a7 (sX (N:=["number","web"]) (fr:=[none,some 0]) (dF (qv 1)) (fun _ _ _ _=>(aW d_is_hearth hr (a7 (qv 1) (a7 (qv 0) aA))))) aA)))))),aN7⟩)
theorem bj7:FnScope ["web","some"] ["web","some"] (aY (bA 16)):=.au
theorem bj8 (B:Bt mg) (F:FM K mg "all_but" 16 f fd) (d_without:Df P w K mg base 2 "without" ["hearths","some"] oE) (d_hearths_in:Df P w K mg base 1 "hearths_in" ["web"] j5):Df P w K mg base 3 "all_but" ["web","some"] tV:=
 Df.au F bj7 (fun cdv A outer s H E hr=>by
  exact⟨(ad2),(aJ (bH (aW d_without hr (a7 (Y4 B (aW d_hearths_in hr (a7 (qv 0) aA))) (a7 (qv 1) aA))))),aW2⟩)
theorem bj9:FnScope ["web","around","burning"] ["web","around","burning"] (aY (bA 19)):=.au
theorem bk0 (B:Bt mg) (F:FM K mg "kindling" 19 f fd) (d_hearths_in:Df P w K mg base 1 "hearths_in" ["web"] j5) (d_can_kindle:Df P w K mg base 2 "can_kindle" ["web","around","burning","hearth"] t9):Df P w K mg base 3 "kindling" ["web","around","burning"] qQ:=
 Df.au F bj9 (fun cdv A outer s H E hr=>by
  exact⟨(Y0),(aJ (bH (fO B (a7 (jL (N:=["hearth","web","around","burning"]) (fr:=[none,some 0,some 1,some 2]) (k9 rfl B.range (aW d_hearths_in hr (a7 (qv 0) aA))) (fun _ _ _ _=>(fE (aW d_can_kindle hr (a7 (qv 1) (a7 (qv 2) (a7 (qv 3) (a7 (qv 0) aA))))))) (fun _ _ _ _=>(qv 0))) aA)))),aO3⟩)
theorem am5:FnScope ["web","around","block","inside"] ["web","around","block"] (aY (bA 26)):=.au
theorem bk1 (B:Bt mg) (F:FM K mg "staying" 26 f fd) (d_marked:Df P w K mg base 1 "marked" ["hearths"] iH) (d_count_outside:Df P w K mg base 2 "count_outside" ["hearths","inside"] tI):Df P w K mg base 3 "staying" ["web","around","block"] tK:=
 Df.au F am5 (fun cdv A outer s H E hr=>by
  have nd:=am5.nd
  exact⟨(aa8),(aF (bC (i:=3) nd (aW d_marked hr (a7 (qv 2) aA)))
   (aJ (bH (fO B (a7 (jL (N:=["hearth","inside","around","web"]) (fr:=[none,some 3,some 1,some 0]) (dF (qv 2)) (fun _ _ _ _=>(sS (aW d_count_outside hr (a7 (bG (qv 2) (qv 0)) (a7 (qv 1) aA))) (bG (bG (qv 3) aC) (qv 0)))) (fun _ _ _ _=>(qv 0))) aA))))),aT4⟩)
theorem am6:FnScope ["script","most","many","digits","links","counts","cells","k","number","elder","places","wants","pairs"] ["script","most"] (aY (bA 43)):=.au
theorem bk2 (B:Bt mg) (F:FM K mg "_law_wood" 43 f fd) (d__law_hearths:Df P w K mg base 2 "_law_hearths" ["script","most"] oK) (d__law_cell_at:Df P w K mg base 1 "_law_cell_at" ["script","k"] dX) (d__law_mixed:Df P w K mg base 1 "_law_mixed" ["number","k"] i7) (d__law_places:Df P w K mg base 2 "_law_places" ["script","many","digits"] uD):Df P w K mg base 3 "_law_wood" ["script","most"] uJ:=
 Df.au F am6 (fun cdv A outer s H E hr=>by
  have nd:=am6.nd
  exact⟨(aj9),(aF (bC (i:=2) nd (aW d__law_hearths hr (a7 (qv 0) (a7 (qv 1) aA))))
   (aF (bC (i:=3) nd (qI (cI (gG (aW d__law_cell_at hr (a7 (qv 0) (a7 aC aA))) aC) aC) aC))
   (aF (dU (i:=4) nd (gI aA))
   (aF (dU (i:=5) nd (yT (gI (a7 aC aA)) (qv 2)))
   (aF (dU (i:=6) nd (iF (qv 0) (gQ aC) (gQ (cO aC (qv 2)))))
   (aF (fF 7 nd (xR rfl B.range (cJ B (a7 (qv 6) aA)) (qv 2))
    (aJ (lT 6 (aW d__law_mixed hr (a7 (aW d__law_cell_at hr (a7 (qv 0) (a7 aC aA))) (a7 (qv 7) aA))))))
   (aF (fF 7 nd (xR rfl B.range aC (qv 2))
    (aF (bC (i:=8) nd (aW d__law_mixed hr (a7 (bG (qv 6) (qv 7)) (a7 (qv 7) aA))))
    (aF (c8 (lR (qv 3)) (aJ (bC (i:=8) nd (gG (bG (qv 6) (qv 7)) aC))) cB)
    (aJ (c8 (qJ (cI (qv 8) aC) aC) (aF (bC (i:=9) nd (cI (gG (qv 8) aC) (qv 7)))
     (aF (c8 (gH (cI (aW d__law_cell_at hr (a7 (qv 0) (a7 aC aA))) aC) aC) (aJ (bC (i:=9) nd (mU B rfl (a7 aC (a7 (mS (mS (qv 7) aC) (cI (gG (qv 8) aC) aC)) aA))))) cB)
     (aF (lT 4 (cT (a7 (qv 9) (a7 (qv 7) aA))))
     (aF (o0 (i:=5) (qv 9) (cO (bG (qv 5) (qv 9)) aC))
     (aJ (o0 (i:=5) (qv 7) (cO (bG (qv 5) (qv 7)) aC))))))) cB)))))
   (aF (bC (i:=10) nd (aW d__law_places hr (a7 (qv 0) (a7 (qv 2) (a7 (qv 3) aA)))))
   (aF (dU (i:=11) nd (yT (gI (a7 aC aA)) (qv 2)))
   (aF (fF 7 nd (k9 rfl B.range (qv 2))
    (aJ (o0 (i:=11) (bG (qv 10) (qv 7)) (cI (bG (qv 6) (qv 7)) (cO (bG (qv 5) (qv 7)) aC)))))
   (aF (U7 4 (aS6 (i:=12) nd (N:=["one","other","places"]) (fr:=[none,none,some 10]) (dF (qv 4)) (fun _ _ _ _=>(cT (a7 (xS B rfl (a7 (bG (qv 2) (qv 0)) (a7 (bG (qv 2) (qv 1)) aA))) (a7 (mU B rfl (a7 (bG (qv 2) (qv 0)) (a7 (bG (qv 2) (qv 1)) aA))) aA))))))
   (aJ (bH (cT (a7 (fO B (a7 (qv 11) aA)) (a7 (fO B (a7 (Y7 B (a7 (qv 12) aA)) aA)) aA)))))))))))))))),bf2⟩)
theorem am7:FnScope ["script","most","many","sparse","digits","cells","k","links","counts","other","number","one","draw","wants"] ["script","most"] (aY (bA 45)):=.au
theorem bk3 (B:Bt mg) (F:FM K mg "_law_web" 45 f fd) (d__law_hearths:Df P w K mg base 2 "_law_hearths" ["script","most"] oK) (d__law_cell_at:Df P w K mg base 1 "_law_cell_at" ["script","k"] dX) (d__law_mixed:Df P w K mg base 1 "_law_mixed" ["number","k"] i7):Df P w K mg base 3 "_law_web" ["script","most"] uQ:=
 Df.au F am7 (fun cdv A outer s H E hr=>by
  have nd:=am7.nd
  exact⟨(ak4),(aF (bC (i:=2) nd (aW d__law_hearths hr (a7 (qv 0) (a7 (qv 1) aA))))
   (aF (bC (i:=3) nd (cO aC (cI (aW d__law_cell_at hr (a7 (qv 0) (a7 aC aA))) aC)))
   (aF (bC (i:=4) nd (qI (cI (gG (aW d__law_cell_at hr (a7 (qv 0) (a7 aC aA))) aC) aC) aC))
   (aF (dU (i:=5) nd (iF (qv 0) (gQ aC) (gQ (cO aC (qv 2)))))
   (aF (fF 6 nd (xR rfl B.range (cJ B (a7 (qv 5) aA)) (qv 2))
    (aJ (lT 5 (aW d__law_mixed hr (a7 (aW d__law_cell_at hr (a7 (qv 0) (a7 aC aA))) (a7 (qv 6) aA))))))
   (aF (dU (i:=7) nd (gI aA))
   (aF (dU (i:=8) nd (yT (gI (a7 aC aA)) (qv 2)))
   (aF (fF 9 nd (k9 rfl B.range (qv 2))
    (aF (bC (i:=10) nd (gG (bG (qv 5) (qv 9)) aC))
    (aJ (fF 11 nd (k9 rfl B.range (qv 9))
     (aF (bC (i:=12) nd (qv 10))
     (aF (bC (i:=10) nd (gG (qv 10) (qv 3)))
     (aF (c8 (fN (fE (qv 4))) (aJ (bC (i:=12) nd (aW d__law_mixed hr (a7 (bG (qv 5) (qv 9)) (a7 (cO (qv 11) aC) aA))))) cB)
     (aJ (c8 (gH (cI (qv 12) (qv 3)) aC) (aF (lT 7 (cT (a7 (qv 11) (a7 (qv 9) aA))))
      (aF (o0 (i:=8) (qv 11) (cO (bG (qv 8) (qv 11)) aC))
      (aJ (o0 (i:=8) (qv 9) (cO (bG (qv 8) (qv 9)) aC))))) cB)))))))))
   (aF (aL5 (i:=13) nd (N:=["k","cells","counts"]) (fr:=[none,some 5,some 8]) (k9 rfl B.range (qv 2)) (fun _ _ _ _=>(cI (bG (qv 1) (qv 0)) (cO (bG (qv 2) (qv 0)) aC))))
   (aJ (bH (cT (a7 (fO B (a7 (qv 13) aA)) (a7 (fO B (a7 (Y7 B (a7 (qv 7) aA)) aA)) aA)))))))))))))),bg1⟩)
theorem bk4:FnScope ["web","seeds"] ["web","seeds"] (aY (bA 47)):=.au
theorem bk5 (B:Bt mg) (F:FM K mg "_law_lights" 47 f fd) (d__law_burning:Df P w K mg base 2 "_law_burning" ["web","seeds"] u4):Df P w K mg base 3 "_law_lights" ["web","seeds"] u5:=
 Df.au F bk4 (fun cdv A outer s H E hr=>by
  exact⟨(ae5),(aJ (bH (qI (cJ B (a7 (jL (N:=["fire"]) (fr:=[none]) (dF (aW d__law_burning hr (a7 (qv 0) (a7 (qv 1) aA)))) (fun _ _ _ _=>(fN (lR (qv 0)))) (fun _ _ _ _=>(qv 0))) aA)) aC))),aZ2⟩)
theorem bk6:FnScope ["web","hearths"] ["web","hearths"] (aY (bA 11)):=.au
theorem bk7 (B:Bt mg) (F:FM K mg "made_set" 11 f fd) (d_is_set:Df P w K mg base 3 "is_set" ["web","numbers"] lV) (x_BadSet:Xc K mg base "BadSet"):cC P w K mg base 4 "made_set" ["web","hearths"] m5:=
 cC.au F bk6 ac6 aV3 (fun cdv A outer s H E Ep hr hX=>by
  exact (aF (c8 (fN (fE (aW d_is_set hr (a7 (qv 0) (a7 (qv 1) aA))))) (aJ (yX hX x_BadSet (a7 xI aA))) cB)
   (aJ (bH (fO B (a7 (qv 1) aA))))))
theorem am8:FnScope ["web","paper","seeds","blocks","many","met","block","hearth"] ["web","paper"] (aY (bA 54)):=.au
theorem bk8 (B:Bt mg) (F:FM K mg "_law_right" 54 f fd) (d__law_is_set:Df P w K mg base 2 "_law_is_set" ["found","many"] r9) (d__law_lights:Df P w K mg base 3 "_law_lights" ["web","seeds"] u5) (d__law_is_cold:Df P w K mg base 2 "_law_is_cold" ["web","block"] u9):Df P w K mg base 4 "_law_right" ["web","paper"] uP:=
 Df.au F am8 (fun cdv A outer s H E hr=>by
  have nd:=am8.nd
  have hu:=lI hr
  exact⟨(B3),(aF (ab7 2 3 nd (qv 1))
   (aF (bC (i:=4) nd (cJ B (a7 (bG (qv 0) aC) aA)))
   (aF (c8 (jJ (iE (fN (fE (aW d__law_is_set hr (a7 (qv 2) (a7 (qv 4) aA))))) (iE (fN (fE (aW d__law_lights hr (a7 (qv 0) (a7 (qv 2) aA))))) (lS (xK (cJ B (a7 (qv 3) aA)) (cJ B (a7 (qv 2) aA))))))) (aJ (bH dL)) cB)
   (aF (dU (i:=5) nd qK)
   (aF (fF 6 nd (dF (qv 3))
    (aF (c8 (jJ (iE (gH (cJ B (a7 (qv 6) aA)) aC) (iE (fN (fE (aW d__law_is_set hr (a7 (qv 6) (a7 (qv 4) aA))))) (lS (fN (fE (aW d__law_is_cold hr (a7 (qv 0) (a7 (qv 6) aA))))))))) (aJ (bH dL)) cB)
    (aJ (fF 7 nd (dF (qv 6))
     (aF (c8 (xN hu (qv 7) (qv 5)) (aJ (bH dL)) cB)
     (aJ (qM hu (i:=5) (qv 7) dL)))))))
   (aJ (bH dL))))))),bf9⟩)
theorem am9:FnScope ["web","seeds","told","burning","around","lit"] ["web","seeds"] (aY (bA 18)):=.au
theorem bk9 (B:Bt mg) (F:FM K mg "rounds" 18 f fd) (d_made_set:cC P w K mg base 4 "made_set" ["web","hearths"] m5) (d_marked:Df P w K mg base 1 "marked" ["hearths"] iH) (d_near_lists:Df P w K mg base 1 "near_lists" ["web"] iI) (d_kindling:Df P w K mg base 3 "kindling" ["web","around","burning"] qQ):cC P w K mg base 5 "rounds" ["web","seeds"] tR:=
 cC.au F am9 ac8 aV8 (fun cdv A outer s H E Ep hr hX=>by
  have nd:=am9.nd
  exact (aF (dU (i:=2) nd (gI (a7 (mX hX d_made_set hr (a7 (qv 0) (a7 (qv 1) aA))) aA)))
   (aF (dU (i:=3) nd (aW d_marked hr (a7 (bG (qv 2) aC) aA)))
   (aF (bC (i:=4) nd (aW d_near_lists hr (a7 (qv 0) aA)))
   (aF (bC (i:=5) nd (aW d_kindling hr (a7 (qv 0) (a7 (qv 4) (a7 (qv 3) aA)))))
   (aF (qL hX.own (lR (qv 5))
    (aF (lT 2 (qv 5))
    (aF (V6 3 (aW d_marked hr (a7 (qv 5) aA)))
    (aJ (bC (i:=5) nd (aW d_kindling hr (a7 (qv 0) (a7 (qv 4) (a7 (qv 3) aA)))))))))
   (aJ (mT 2))))))))
theorem an0:FnScope ["web","block","chosen"] ["web","block"] (aY (bA 25)):=.au
theorem bl0 (B:Bt mg) (F:FM K mg "is_cold" 25 f fd) (d_made_set:cC P w K mg base 4 "made_set" ["web","hearths"] m5) (d_staying:Df P w K mg base 3 "staying" ["web","around","block"] tK) (d_near_lists:Df P w K mg base 1 "near_lists" ["web"] iI):cC P w K mg base 5 "is_cold" ["web","block"] tQ:=
 cC.au F an0 ac7 aV7 (fun cdv A outer s H E Ep hr hX=>by
  have nd:=an0.nd
  have hu3:=al0 hr
  exact (aF (bC (i:=2) nd (mX hX d_made_set hr (a7 (qv 0) (a7 (qv 1) aA))))
   (aJ (bH (aL4 hu3 (aW d_staying hr (a7 (qv 0) (a7 (aW d_near_lists hr (a7 (qv 0) aA)) (a7 (qv 2) aA)))) (qv 2))))))
theorem an1:FnScope ["web","block","around","left","pieces","piece"] ["web","block"] (aY (bA 27)):=.au
theorem bl1 (B:Bt mg) (F:FM K mg "cold_pieces" 27 f fd) (d_near_lists:Df P w K mg base 1 "near_lists" ["web"] iI) (d_made_set:cC P w K mg base 4 "made_set" ["web","hearths"] m5) (d_first_piece:Df P w K mg base 2 "first_piece" ["around","hearths"] tW) (d_without:Df P w K mg base 2 "without" ["hearths","some"] oE):cC P w K mg base 5 "cold_pieces" ["web","block"] tX:=
 cC.au F an1 aX4 aX5 (fun cdv A outer s H E Ep hr hX=>by
  have nd:=an1.nd
  exact (aF (bC (i:=2) nd (aW d_near_lists hr (a7 (qv 0) aA)))
   (aF (bC (i:=3) nd (mX hX d_made_set hr (a7 (qv 0) (a7 (qv 1) aA))))
   (aF (dU (i:=4) nd (gI aA))
   (aF (qL hX.own (lR (qv 3))
    (aF (bC (i:=5) nd (aW d_first_piece hr (a7 (qv 2) (a7 (qv 3) aA))))
    (aF (lT 4 (qv 5))
    (aJ (bC (i:=3) nd (aW d_without hr (a7 (qv 3) (a7 (qv 5) aA))))))))
   (aJ (mT 4)))))))
theorem an2:FnScope ["web","seeds","ranks","rank","lit","hearth"] ["web","seeds"] (aY (bA 21)):=.au
theorem bl2 (B:Bt mg) (F:FM K mg "ranks_of" 21 f fd) (d_rounds:cC P w K mg base 5 "rounds" ["web","seeds"] tR):cC P w K mg base 6 "ranks_of" ["web","seeds"] tS:=
 cC.au F an2 ac9 aV9 (fun cdv A outer s H E Ep hr hX=>by
  have nd:=an2.nd
  have hu:=lI hr
  exact (aF (dU (i:=2) nd qK)
   (aF (V4 3 4 (hp:=hX.own) nd (aS5 rfl B.enum (mX hX d_rounds hr (a7 (qv 0) (a7 (qv 1) aA))))
    (aJ (fF 5 (hp:=hX.own) nd (dF (qv 4))
     (aJ (qM hu (i:=2) (qv 5) (qv 3))))))
   (aJ (mT 2)))))
theorem bl3:FnScope ["web"] ["web"] (aY (bA 31)):=.au
theorem bl4 (B:Bt mg) (F:FM K mg "all_pieces" 31 f fd) (d_cold_pieces:cC P w K mg base 5 "cold_pieces" ["web","block"] tX) (d_all_but:Df P w K mg base 3 "all_but" ["web","some"] tV):Df P w K mg base 6 "all_pieces" ["web"] oO:=
 Df.au F bl3 (fun cdv A outer s H E hr=>by
  exact⟨(af7),(aJ (bH (ab9 d_cold_pieces hr (a7 (qv 0) (a7 (aW d_all_but hr (a7 (qv 0) (a7 (cT aA) aA))) aA))))),bb4⟩)
theorem an3:FnScope ["web","blocks","met","block"] ["web","blocks"] (aY (bA 36)):=.au
theorem bl5 (B:Bt mg) (F:FM K mg "stand_apart" 36 f fd) (d_is_set:Df P w K mg base 3 "is_set" ["web","numbers"] lV) (d_is_cold:cC P w K mg base 5 "is_cold" ["web","block"] tQ) (d_count_inside:Df P w K mg base 1 "count_inside" ["hearths","inside"] lW) (d_marked:Df P w K mg base 1 "marked" ["hearths"] iH):Df P w K mg base 6 "stand_apart" ["web","blocks"] uH:=
 Df.au F an3 (fun cdv A outer s H E hr=>by
  have nd:=an3.nd
  exact⟨(aj6),(aF (dU (i:=2) nd qK)
   (aF (fF 3 nd (dF (qv 1))
    (aF (c8 (jJ (iE (gH (cJ B (a7 (qv 3) aA)) aC) (iE (fN (fE (aW d_is_set hr (a7 (qv 0) (a7 (qv 3) aA))))) (iE (fN (fE (ab9 d_is_cold hr (a7 (qv 0) (a7 (qv 3) aA))))) (lS (qJ (aW d_count_inside hr (a7 (qv 3) (a7 (qv 2) aA))) aC)))))) (aJ (bH dL)) cB)
    (aJ (V6 2 (aW d_marked hr (a7 (qv 3) aA))))))
   (aJ (bH dL)))),bf0⟩)
theorem bl6:FnScope ["web","seeds"] ["web","seeds"] (aY (bA 22)):=.au
theorem bl7 (B:Bt mg) (F:FM K mg "burnt" 22 f fd) (d_ranks_of:cC P w K mg base 6 "ranks_of" ["web","seeds"] tS):cC P w K mg base 7 "burnt" ["web","seeds"] tT:=
 cC.au F bl6 ad0 aW0 (fun cdv A outer s H E Ep hr hX=>by
  exact (aJ (bH (fO B (a7 (ab0 B rfl (a7 (mX hX d_ranks_of hr (a7 (qv 0) (a7 (qv 1) aA))) aA)) aA)))))
theorem bl8:FnScope ["web"] ["web"] (aY (bA 30)):=.au
theorem bl9 (B:Bt mg) (F:FM K mg "is_wood" 30 f fd) (d_hearths_in:Df P w K mg base 1 "hearths_in" ["web"] j5) (d_all_pieces:Df P w K mg base 6 "all_pieces" ["web"] oO):Df P w K mg base 7 "is_wood" ["web"] uB:=
 Df.au F bl8 (fun cdv A outer s H E hr=>by
  exact⟨(ag5),(aJ (bH (qI (cJ B (a7 (bG (qv 0) aC) aA)) (mS (aW d_hearths_in hr (a7 (qv 0) aA)) (cJ B (a7 (aW d_all_pieces hr (a7 (qv 0) aA)) aA)))))),bc7⟩)
theorem bm0:FnScope ["web","seeds"] ["web","seeds"] (aY (bA 23)):=.au
theorem bm1 (B:Bt mg) (F:FM K mg "lights_all" 23 f fd) (d_burnt:cC P w K mg base 7 "burnt" ["web","seeds"] tT) (d_hearths_in:Df P w K mg base 1 "hearths_in" ["web"] j5):cC P w K mg base 8 "lights_all" ["web","seeds"] tU:=
 cC.au F bm0 ad1 aW1 (fun cdv A outer s H E Ep hr hX=>by
  exact (aJ (bH (qI (cJ B (a7 (mX hX d_burnt hr (a7 (qv 0) (a7 (qv 1) aA))) aA)) (aW d_hearths_in hr (a7 (qv 0) aA))))))
theorem an4:FnScope ["web","around","pairs","turn","hearth"] ["web"] (aY (bA 32)):=.au
theorem bm2 (B:Bt mg) (F:FM K mg "from_roots" 32 f fd) (d_is_wood:Df P w K mg base 7 "is_wood" ["web"] uB) (d_near_lists:Df P w K mg base 1 "near_lists" ["web"] iI) (d_all_pieces:Df P w K mg base 6 "all_pieces" ["web"] oO) (d_children_of:Df P w K mg base 1 "children_of" ["around","hearth","elder"] oR):Df P w K mg base 8 "from_roots" ["web"] uC:=
 Df.au F an4 (fun cdv A outer s H E hr=>by
  have nd:=an4.nd
  exact⟨(ag9),(aF (c8 (fN (fE (aW d_is_wood hr (a7 (qv 0) aA)))) (aJ aJ9) cB)
   (aF (bC (i:=1) nd (aW d_near_lists hr (a7 (qv 0) aA)))
   (aF (aL6 (i:=2) nd (N:=["piece"]) (fr:=[none]) (dF (aW d_all_pieces hr (a7 (qv 0) aA))) (fun _ _ _ _=>(cT (a7 (bG (qv 0) aC) (a7 sR aA)))))
   (aF (bC (i:=3) nd aC)
   (aF (qL bD0 (sS (qv 3) (cJ B (a7 (qv 2) aA)))
    (aF (bC (i:=4) nd (bG (bG (qv 2) (qv 3)) aC))
    (aF (V5 2 (sX (N:=["child","hearth"]) (fr:=[none,some 4]) (dF (aW d_children_of hr (a7 (qv 1) (a7 (qv 4) (a7 (bG (bG (qv 2) (qv 3)) aC) aA))))) (fun _ _ _ _=>(cT (a7 (qv 0) (a7 (qv 1) aA))))))
    (aJ (bC (i:=3) nd (cO (qv 3) aC))))))
   (aJ (mT 2))))))),bd0⟩)
theorem an5:FnScope ["web","around","waiting","taken","hearth","elder","children","lacking","block","child","pairs"] ["web"] (aY (bA 34)):=.au
theorem bm3 (B:Bt mg) (F:FM K mg "apart_paper" 34 f fd) (d_near_lists:Df P w K mg base 1 "near_lists" ["web"] iI) (d_from_roots:Df P w K mg base 8 "from_roots" ["web"] uC) (d_children_of:Df P w K mg base 1 "children_of" ["around","hearth","elder"] oR) (rv:mg "reversed" = none):Df P w K mg base 9 "apart_paper" ["web"] uG:=
 Df.au F an5 (fun cdv A outer s H E hr=>by
  have nd:=an5.nd
  have hu:=lI hr
  exact⟨(aj3),(aF (bC (i:=1) nd (aW d_near_lists hr (a7 (qv 0) aA)))
   (aF (dU (i:=2) nd qK)
   (aF (dU (i:=3) nd (gI aA))
   (aF (V4 4 5 nd (ba0 rv (aW d_from_roots hr (a7 (qv 0) aA)))
    (aF (bC (i:=6) nd (aW d_children_of hr (a7 (qv 1) (a7 (qv 4) (a7 (qv 5) aA)))))
    (aF (bC (i:=7) nd (mS (bG (bG (qv 0) aC) (qv 4)) (cJ B (a7 (jL (N:=["child","waiting"]) (fr:=[none,some 2]) (dF (qv 6)) (fun _ _ _ _=>(xO hu (qv 0) (qv 1))) (fun _ _ _ _=>(qv 0))) aA))))
    (aF (dU (i:=8) nd (gI (a7 (qv 4) aA)))
    (aF (fF 9 nd (dF (qv 6))
     (aJ (V5 8 (bc6 hu (qv 2) (qv 9) (gI aA)))))
    (aJ (c8 (jJ (xQ (gH (qv 7) aC) (xP (aJ5 (qv 5) sR)))) (aJ (U7 8 (qM hu (i:=2) (qv 4) (qv 8)))) (aJ (c8 (qJ (qv 7) aC) (aJ (lT 3 (cT (a7 (qv 4) (a7 (fO B (a7 (aK2 B (a7 (qv 8) aA)) aA)) aA))))) cB)))))))))
   (aF (bC (i:=10) nd (bc4 B (a7 (qv 3) aA)))
   (aJ (bH (cT (a7 (fO B (a7 (aa0 (N:=["seed","block"]) (fr:=[none,none]) (dF (qv 10)) (fun _ _ _ _=>(qv 0))) aA)) (a7 (fO B (a7 (aa0 (N:=["seed","block"]) (fr:=[none,none]) (dF (qv 10)) (fun _ _ _ _=>(qv 1))) aA)) aA)))))))))),be9⟩)
theorem an6:FnScope ["web","paper","seeds","blocks"] ["web","paper"] (aY (bA 35)):=.au
theorem bm4 (B:Bt mg) (F:FM K mg "judged_apart" 35 f fd) (d_is_set:Df P w K mg base 3 "is_set" ["web","numbers"] lV) (d_lights_all:cC P w K mg base 8 "lights_all" ["web","seeds"] tU) (d_stand_apart:Df P w K mg base 6 "stand_apart" ["web","blocks"] uH) (x_NoPaper:Xc K mg base "NoPaper"):cC P w K mg base 9 "judged_apart" ["web","paper"] uI:=
 cC.au F an6 A9 bf1 (fun cdv A outer s H E Ep hr hX=>by
  have nd:=an6.nd
  exact (aF (bC (i:=2) nd (bG (qv 1) aC))
   (aF (bC (i:=3) nd (bG (qv 1) aC))
   (aF (c8 (jJ (iE (fN (fE (aW d_is_set hr (a7 (qv 0) (a7 (qv 2) aA))))) (lS (fN (fE (mX hX d_lights_all hr (a7 (qv 0) (a7 (qv 2) aA)))))))) (aJ (yX hX x_NoPaper (a7 xI aA))) cB)
   (aF (c8 (jJ (iE (xK (cJ B (a7 (qv 3) aA)) (cJ B (a7 (qv 2) aA))) (lS (fN (fE (aW d_stand_apart hr (a7 (qv 0) (a7 (qv 3) aA)))))))) (aJ (yX hX x_NoPaper (a7 xI aA))) cB)
   (aJ (bH (cJ B (a7 (qv 2) aA)))))))))
theorem an7:FnScope ["script","web","seeds"] ["script","web"] (aY (bA 51)):=.au
theorem bm5 (B:Bt mg) (F:FM K mg "_law_paper" 51 f fd) (d__law_cell_at:Df P w K mg base 1 "_law_cell_at" ["script","k"] dX) (d_apart_paper:Df P w K mg base 9 "apart_paper" ["web"] uG) (d__law_seeds:Df P w K mg base 2 "_law_seeds" ["number","many"] u6):Df P w K mg base 10 "_law_paper" ["script","web"] uL:=
 Df.au F an7 (fun cdv A outer s H E hr=>by
  have nd:=an7.nd
  exact⟨(ak0),(aF (c8 (qJ (cI (aW d__law_cell_at hr (a7 (qv 0) (a7 aC aA))) aC) aC) (aJ (bH (aW d_apart_paper hr (a7 (qv 1) aA)))) cB)
   (aF (bC (i:=2) nd (aW d__law_seeds hr (a7 (aW d__law_cell_at hr (a7 (qv 0) (a7 aC aA))) (a7 (cJ B (a7 (bG (qv 1) aC) aA)) aA))))
   (aJ (bH (cT (a7 (qv 2) (a7 (fO B (a7 (sX (N:=["seed"]) (fr:=[none]) (dF (qv 2)) (fun _ _ _ _=>(cT (a7 (qv 0) aA)))) aA)) aA))))))),bf3⟩)
theorem an8:FnScope ["script","web","paper","cell","told_paper","found","kinds","e"] ["script"] (aY (bA 55)):=.au
theorem bm6 (B:Bt mg) (F:fZ K "law" "law" (bA 55) f fd) (d__law_wood:Df P w K mg base 3 "_law_wood" ["script","most"] uJ) (d__law_cell_at:Df P w K mg base 1 "_law_cell_at" ["script","k"] dX) (d__law_web:Df P w K mg base 3 "_law_web" ["script","most"] uQ) (d__law_paper:Df P w K mg base 10 "_law_paper" ["script","web"] uL) (d__law_mixed:Df P w K mg base 1 "_law_mixed" ["number","k"] i7) (d__law_spoiled:Df P w K mg base 2 "_law_spoiled" ["paper","many","cell"] uM) (d_judged_apart:cC P w K mg base 9 "judged_apart" ["web","paper"] uI) (d__law_right:Df P w K mg base 4 "_law_right" ["web","paper"] uP) (d__law_whole:Df P w K mg base 1 "_law_whole" ["found"] oB) (cat_HearthError:yZ K mg "HearthError") (is_BadSet:qV K mg "BadSet") (is_NoPaper:qV K mg "NoPaper") (is_ValueError:zA K mg):dD P w K mg base eB 11 f fd ["script"] (pW K B4):=
 aQ1 F an8 (fun xs Q h=>by unfold B4 at h; repeat (first | (obtain ⟨rfl,_⟩:=h; rfl) | (obtain ⟨_,h⟩:=h))) (fun cdv A outer s H E hr=>by
  have nd:=an8.nd
  have hu3:=al0 hr
  exact⟨(ak7),(aF (bC (i:=1) nd (aW d__law_wood hr (a7 (qv 0) (a7 aC aA))))
   (aF (c8 (gH (cI (aW d__law_cell_at hr (a7 (qv 0) (a7 aC aA))) aC) aC) (aJ (bC (i:=1) nd (aW d__law_web hr (a7 (qv 0) (a7 aC aA))))) cB)
   (aF (bC (i:=2) nd (aW d__law_paper hr (a7 (qv 0) (a7 (qv 1) aA))))
   (aF (bC (i:=3) nd (aW d__law_mixed hr (a7 (aW d__law_cell_at hr (a7 (qv 0) (a7 aC aA))) (a7 aC aA))))
   (aF (fF 4 nd (dF (gI (a7 (qv 2) (a7 (aW d__law_spoiled hr (a7 (qv 2) (a7 (cJ B (a7 (bG (qv 1) aC) aA)) (a7 (qv 3) aA)))) aA))))
    (aF (bC (i:=5) nd sR)
    (aF (bC (i:=6) nd sR)
    (aF (aU7 7 cat_HearthError nd (ba8 5 d_judged_apart hr nd (fun _=>(a7 (qv 1) (a7 (qv 4) aA)))) (fun _=>(aJ (bC (i:=6) nd (gI (a7 (ac2 B is_NoPaper (qv 7)) (a7 (ac2 B is_BadSet (qv 7)) (a7 (aV1 B is_ValueError (qv 7)) aA))))))))
    (aJ (c8 (fE (aW d__law_right hr (a7 (qv 1) (a7 (qv 4) aA)))) (aJ (c8 (jJ (iE (fN (fE (aW d__law_whole hr (a7 (qv 5) aA)))) (lS (xK (qv 5) (cJ B (a7 (bG (qv 4) aC) aA)))))) (aJ (bH dL)) cB)) (aJ (c8 (aL3 hu3 (qv 6) (gI (a7 dL (a7 dL (a7 dL aA))))) (aJ (bH dL)) cB))))))))
   (aJ (bH dL))))))),bg2⟩)
end
set_option autoImplicit true in
theorem bm7 {l:OpenLaw}{w:World}{K:Frag}{h:Heap}{mg:Str->Option Value} (X:K.In h) (G:h.Ns mainGlobals mg) (hfa:mg "law" = some (.ref fa))
  (h0:FK K "rises" 6 f0 d0)
  (h1:FK K "hearths_in" 7 f1 d1)
  (h2:FK K "near_lists" 8 f2 d2)
  (h3:FK K "marked" 12 f3 d3)
  (h4:FK K "count_inside" 13 f4 d4)
  (h5:FK K "children_of" 33 f5 d5)
  (h6:FK K "_law_cell_at" 38 f6 d6)
  (h7:FK K "_law_mixed" 39 f7 d7)
  (h8:FK K "_law_whole" 40 f8 d8)
  (h9:FK K "_law_beside" 44 f9 d9)
  (h10:FK K "_law_other_set" 52 f10 d10)
  (h11:FK K "is_hearth" 9 f11 d11)
  (h12:FK K "count_outside" 14 f12 d12)
  (h13:FK K "without" 15 f13 d13)
  (h14:FK K "can_kindle" 20 f14 d14)
  (h15:FK K "first_piece" 28 f15 d15)
  (h16:FK K "_law_hearths" 41 f16 d16)
  (h17:FK K "_law_places" 42 f17 d17)
  (h18:FK K "_law_burning" 46 f18 d18)
  (h19:FK K "_law_is_cold" 48 f19 d19)
  (h20:FK K "_law_is_set" 49 f20 d20)
  (h21:FK K "_law_seeds" 50 f21 d21)
  (h22:FK K "_law_spoiled" 53 f22 d22)
  (h23:FK K "is_set" 10 f23 d23)
  (h24:FK K "all_but" 16 f24 d24)
  (h25:FK K "kindling" 19 f25 d25)
  (h26:FK K "staying" 26 f26 d26)
  (h27:FK K "_law_wood" 43 f27 d27)
  (h28:FK K "_law_web" 45 f28 d28)
  (h29:FK K "_law_lights" 47 f29 d29)
  (h30:FK K "made_set" 11 f30 d30)
  (h31:FK K "_law_right" 54 f31 d31)
  (h32:FK K "rounds" 18 f32 d32)
  (h33:FK K "is_cold" 25 f33 d33)
  (h34:FK K "cold_pieces" 27 f34 d34)
  (h35:FK K "ranks_of" 21 f35 d35)
  (h36:FK K "all_pieces" 31 f36 d36)
  (h37:FK K "stand_apart" 36 f37 d37)
  (h38:FK K "burnt" 22 f38 d38)
  (h39:FK K "is_wood" 30 f39 d39)
  (h40:FK K "lights_all" 23 f40 d40)
  (h41:FK K "from_roots" 32 f41 d41)
  (h42:FK K "apart_paper" 34 f42 d42)
  (h43:FK K "judged_apart" 35 f43 d43)
  (h44:FK K "_law_paper" 51 f44 d44)
  (a45:nsIn K mainGlobals "law" = some (some (.ref f45))) (l45:K.lookup f45=some ⟨oc45,od45,.func (fnOf "law" "law" (kM (bA 55)) (fY (bA 55)) (aY (bA 55)) .none kV45 dc45 pm45 an45 cd45 ct45),sl45⟩) (c45:codeIn K cd45 "law" = true) (k45:keepIn K (.ref f45)=true)
  (z_len:nsIn K mainGlobals "len" = some none)
  (z_range:nsIn K mainGlobals "range" = some none)
  (z_tuple:nsIn K mainGlobals "tuple" = some none)
  (z_list:nsIn K mainGlobals "list" = some none)
  (z_sorted:nsIn K mainGlobals "sorted" = some none)
  (z_all:nsIn K mainGlobals "all" = some none)
  (z_any:nsIn K mainGlobals "any" = some none)
  (z_zip:nsIn K mainGlobals "zip" = some none)
  (z_min:nsIn K mainGlobals "min" = some none)
  (z_max:nsIn K mainGlobals "max" = some none)
  (z_sum:nsIn K mainGlobals "sum" = some none)
  (z_isinstance:nsIn K mainGlobals "isinstance" = some none)
  (z_int:nsIn K mainGlobals "int" = some none)
  (z_bool:nsIn K mainGlobals "bool" = some none)
  (z_enumerate:nsIn K mainGlobals "enumerate" = some none)
  (z_reversed:nsIn K mainGlobals "reversed" = some none)
  {C_HearthError C_BadSet C_NotWood C_NoPaper:Addr}
  (aX_HE:nsIn K mainGlobals "HearthError" = some (some (.ref C_HearthError)))
  (aX_BS:nsIn K mainGlobals "BadSet" = some (some (.ref C_BadSet)))
  (aX_NW:nsIn K mainGlobals "NotWood" = some (some (.ref C_NotWood)))
  (aX_NP:nsIn K mainGlobals "NoPaper" = some (some (.ref C_NoPaper)))
  (zX_BW:nsIn K mainGlobals "BadWeb" = some none)
  (zX_BO:nsIn K mainGlobals "BadOrder" = some none)
  (zX_BP:nsIn K mainGlobals "BadPrices" = some none)
  (zX_BB:nsIn K mainGlobals "BadBoard" = some none)
  (zX_BD:nsIn K mainGlobals "BadDeed" = some none)
  (zX_NS:nsIn K mainGlobals "NoSuch" = some none)
  (zX_TM:nsIn K mainGlobals "TooMany" = some none)
  (zX_NT:nsIn K mainGlobals "NoText" = some none)
  (zX_OR:nsIn K mainGlobals "OddRound" = some none)
  (y_fg:specialIn K (.builtin "object.__class__") "__get__" = some (some (.builtin "getset_descriptor.__get__")))
  (y_ft:takesIn K (.builtin "object.__class__")=some true)
  (z_VE:nsIn K mainGlobals "ValueError" = some none)
  (y1_HE:isClsIn K C_HearthError=true)
  (y2_HE:typeIn K (.ref C_HearthError)=some (.type "type"))
  (y3_HE:findIn K (.ref C_HearthError) "__getattribute__" = some (some (.builtin "BaseException.__getattribute__")))
  (y4_HE:findIn K (.ref C_HearthError) "__getattr__" = some none)
  (y5_HE:findIn K (.ref C_HearthError) "__class__" = some (some (.builtin "object.__class__")))
  (y6_HE:mroIn K C_HearthError (.type "object")=some true)
  (y7_HE:mroIn K C_HearthError (.type "BaseException")=some true)
  (y1_BS:isClsIn K C_BadSet=true)
  (y2_BS:typeIn K (.ref C_BadSet)=some (.type "type"))
  (y3_BS:findIn K (.ref C_BadSet) "__getattribute__" = some (some (.builtin "BaseException.__getattribute__")))
  (y4_BS:findIn K (.ref C_BadSet) "__getattr__" = some none)
  (y5_BS:findIn K (.ref C_BadSet) "__class__" = some (some (.builtin "object.__class__")))
  (y6_BS:mroIn K C_BadSet (.type "object")=some true)
  (y7_BS:mroIn K C_BadSet (.type "BaseException")=some true)
  (y1_NW:isClsIn K C_NotWood=true)
  (y2_NW:typeIn K (.ref C_NotWood)=some (.type "type"))
  (y3_NW:findIn K (.ref C_NotWood) "__getattribute__" = some (some (.builtin "BaseException.__getattribute__")))
  (y4_NW:findIn K (.ref C_NotWood) "__getattr__" = some none)
  (y5_NW:findIn K (.ref C_NotWood) "__class__" = some (some (.builtin "object.__class__")))
  (y6_NW:mroIn K C_NotWood (.type "object")=some true)
  (y7_NW:mroIn K C_NotWood (.type "BaseException")=some true)
  (y1_NP:isClsIn K C_NoPaper=true)
  (y2_NP:typeIn K (.ref C_NoPaper)=some (.type "type"))
  (y3_NP:findIn K (.ref C_NoPaper) "__getattribute__" = some (some (.builtin "BaseException.__getattribute__")))
  (y4_NP:findIn K (.ref C_NoPaper) "__getattr__" = some none)
  (y5_NP:findIn K (.ref C_NoPaper) "__class__" = some (some (.builtin "object.__class__")))
  (y6_NP:mroIn K C_NoPaper (.type "object")=some true)
  (y7_NP:mroIn K C_NoPaper (.type "BaseException")=some true)
  (sB_HE:subIn K (.ref C_HearthError) (.type "BaseException")=some true)
  (s_BS_HE:subIn K (.ref C_BadSet) (.ref C_HearthError)=some true)
  (s_NW_HE:subIn K (.ref C_NotWood) (.ref C_HearthError)=some true)
  (s_NP_HE:subIn K (.ref C_NoPaper) (.ref C_HearthError)=some true)
  (sN_BS:subIn K (.type "NoneType") (.ref C_BadSet)=some false)
  (s_NW_BS:subIn K (.ref C_NotWood) (.ref C_BadSet)=some false)
  (n_NW_BS:(C_NotWood == C_BadSet)=false)
  (s_NP_BS:subIn K (.ref C_NoPaper) (.ref C_BadSet)=some false)
  (n_NP_BS:(C_NoPaper == C_BadSet)=false)
  (sN_NP:subIn K (.type "NoneType") (.ref C_NoPaper)=some false)
  (s_BS_NP:subIn K (.ref C_BadSet) (.ref C_NoPaper)=some false)
  (n_BS_NP:(C_BadSet == C_NoPaper)=false)
  (s_NW_NP:subIn K (.ref C_NotWood) (.ref C_NoPaper)=some false)
  (n_NW_NP:(C_NotWood == C_NoPaper)=false)
  (sV_BS:subIn K (.ref C_BadSet) (.type "ValueError")=some true)
  (sV_NW:subIn K (.ref C_NotWood) (.type "ValueError")=some true)
  (sV_NP:subIn K (.ref C_NoPaper) (.type "ValueError")=some true)
  (q_BS:excIn K C_BadSet [.type "ValueError",.type "Exception",.type "BaseException",.type "object"] "ValueError.__new__" = true)
  (q_NP:excIn K C_NoPaper [.type "ValueError",.type "Exception",.type "BaseException",.type "object"] "ValueError.__new__" = true)
  : ∃ fd:FuncData,(∀ (s:Shared) (v:Value),BindsTo s fd ⟨[v],[]⟩ [("script",v)])/\∀ base:Heap,K.In base->base.Ns mainGlobals mg->dD l.prog w K mg base eB 11 fa fd ["script"] (tG K):=by
 have e:=hfa.symm.trans (mg_of X G a45)
 cases e
 have F45:=aA0 (st:=bA 55) l45 c45 k45
 have m45:=mg_of X G a45
 have B:Bt mg:=⟨mg_none_of X G z_len,mg_none_of X G z_range,mg_none_of X G z_tuple,mg_none_of X G z_list,mg_none_of X G z_sorted,mg_none_of X G z_all,mg_none_of X G z_any,mg_none_of X G z_zip,mg_none_of X G z_min,mg_none_of X G z_max,mg_none_of X G z_sum,mg_none_of X G z_isinstance,mg_none_of X G z_int,mg_none_of X G z_bool,mg_none_of X G z_enumerate⟩
 have rv:=mg_none_of X G z_reversed
 refine⟨fnOf "law" "law" (kM (bA 55)) (fY (bA 55)) (aY (bA 55)) .none kV45 dc45 pm45 an45 cd45 ct45,fun s v=>.of_eq rfl,fun base KB _=>?_⟩
 have XK_HearthError:lZ K C_HearthError:=⟨y1_HE,y2_HE,y3_HE,y4_HE,y5_HE,y_fg,y_ft,y6_HE,y7_HE⟩
 have XK_BadSet:lZ K C_BadSet:=⟨y1_BS,y2_BS,y3_BS,y4_BS,y5_BS,y_fg,y_ft,y6_BS,y7_BS⟩
 have XK_NotWood:lZ K C_NotWood:=⟨y1_NW,y2_NW,y3_NW,y4_NW,y5_NW,y_fg,y_ft,y6_NW,y7_NW⟩
 have XK_NoPaper:lZ K C_NoPaper:=⟨y1_NP,y2_NP,y3_NP,y4_NP,y5_NP,y_fg,y_ft,y6_NP,y7_NP⟩
 have cat_HearthError:yZ K mg "HearthError":=⟨C_HearthError,mg_of X G aX_HE,⟨y1_HE,y2_HE,sB_HE⟩,fun n C h2 h1=>by
  obtain ⟨hm,hb⟩:=tN h2
  simp only [oG,bo3,bp2,bs6] at hm
  rcases hm with rfl | rfl | rfl | rfl | rfl | rfl | rfl | rfl | rfl | rfl | rfl | rfl
  ·rw [zX_BW] at h1; cases h1
  ·rw [aX_BS] at h1; cases h1; exact s_BS_HE
  ·rw [zX_BO] at h1; cases h1
  ·rw [zX_BP] at h1; cases h1
  ·rw [zX_BB] at h1; cases h1
  ·rw [zX_BD] at h1; cases h1
  ·rw [aX_NW] at h1; cases h1; exact s_NW_HE
  ·rw [aX_NP] at h1; cases h1; exact s_NP_HE
  ·rw [zX_NS] at h1; cases h1
  ·rw [zX_TM] at h1; cases h1
  ·rw [zX_NT] at h1; cases h1
  ·rw [zX_OR] at h1; cases h1⟩
 have is_BadSet:qV K mg "BadSet":=⟨C_BadSet,mg_of X G aX_BS,fun z=>(by cases z),(fun n C b h1 h2=>by
  obtain ⟨hm,hb⟩:=tN h2
  simp only [oG,bo3,bp2,bs6] at hm
  rcases hm with rfl | rfl | rfl | rfl | rfl | rfl | rfl | rfl | rfl | rfl | rfl | rfl
  ·rw [zX_BW] at h1; cases h1
  ·rw [aX_BS] at h1; cases h1; rw [hb,show (("BadSet" : Str) == "BadSet" || ("BadSet" : Str) == "HearthError" || ("BadSet" : Str) == "ValueError")=true by decide]; exact⟨XK_BadSet.exc,ac4⟩
  ·rw [zX_BO] at h1; cases h1
  ·rw [zX_BP] at h1; cases h1
  ·rw [zX_BB] at h1; cases h1
  ·rw [zX_BD] at h1; cases h1
  ·rw [aX_NW] at h1; cases h1; rw [hb,show (("NotWood" : Str) == "BadSet" || ("BadSet" : Str) == "HearthError" || ("BadSet" : Str) == "ValueError")=false by decide]; exact⟨XK_NotWood.exc,tO XK_BadSet n_NW_BS s_NW_BS⟩
  ·rw [aX_NP] at h1; cases h1; rw [hb,show (("NoPaper" : Str) == "BadSet" || ("BadSet" : Str) == "HearthError" || ("BadSet" : Str) == "ValueError")=false by decide]; exact⟨XK_NoPaper.exc,tO XK_BadSet n_NP_BS s_NP_BS⟩
  ·rw [zX_NS] at h1; cases h1
  ·rw [zX_TM] at h1; cases h1
  ·rw [zX_NT] at h1; cases h1
  ·rw [zX_OR] at h1; cases h1),ac5 XK_BadSet sN_BS⟩
 have is_NoPaper:qV K mg "NoPaper":=⟨C_NoPaper,mg_of X G aX_NP,fun z=>(by cases z),(fun n C b h1 h2=>by
  obtain ⟨hm,hb⟩:=tN h2
  simp only [oG,bo3,bp2,bs6] at hm
  rcases hm with rfl | rfl | rfl | rfl | rfl | rfl | rfl | rfl | rfl | rfl | rfl | rfl
  ·rw [zX_BW] at h1; cases h1
  ·rw [aX_BS] at h1; cases h1; rw [hb,show (("BadSet" : Str) == "NoPaper" || ("NoPaper" : Str) == "HearthError" || ("NoPaper" : Str) == "ValueError")=false by decide]; exact⟨XK_BadSet.exc,tO XK_NoPaper n_BS_NP s_BS_NP⟩
  ·rw [zX_BO] at h1; cases h1
  ·rw [zX_BP] at h1; cases h1
  ·rw [zX_BB] at h1; cases h1
  ·rw [zX_BD] at h1; cases h1
  ·rw [aX_NW] at h1; cases h1; rw [hb,show (("NotWood" : Str) == "NoPaper" || ("NoPaper" : Str) == "HearthError" || ("NoPaper" : Str) == "ValueError")=false by decide]; exact⟨XK_NotWood.exc,tO XK_NoPaper n_NW_NP s_NW_NP⟩
  ·rw [aX_NP] at h1; cases h1; rw [hb,show (("NoPaper" : Str) == "NoPaper" || ("NoPaper" : Str) == "HearthError" || ("NoPaper" : Str) == "ValueError")=true by decide]; exact⟨XK_NoPaper.exc,ac4⟩
  ·rw [zX_NS] at h1; cases h1
  ·rw [zX_TM] at h1; cases h1
  ·rw [zX_NT] at h1; cases h1
  ·rw [zX_OR] at h1; cases h1),ac5 XK_NoPaper sN_NP⟩
 have is_ValueError:zA K mg:=⟨mg_none_of X G z_VE,fun z=>(by cases z),(fun n C b h1 h2=>by
  obtain ⟨hm,hb⟩:=tN h2
  simp only [oG,bo3,bp2,bs6] at hm
  rcases hm with rfl | rfl | rfl | rfl | rfl | rfl | rfl | rfl | rfl | rfl | rfl | rfl
  ·rw [zX_BW] at h1; cases h1
  ·rw [aX_BS] at h1; cases h1; rw [hb,show (("BadSet" : Str) == "ValueError" || ("ValueError" : Str) == "HearthError" || ("ValueError" : Str) == "ValueError")=true by decide]; exact⟨XK_BadSet.exc,zB sV_BS⟩
  ·rw [zX_BO] at h1; cases h1
  ·rw [zX_BP] at h1; cases h1
  ·rw [zX_BB] at h1; cases h1
  ·rw [zX_BD] at h1; cases h1
  ·rw [aX_NW] at h1; cases h1; rw [hb,show (("NotWood" : Str) == "ValueError" || ("ValueError" : Str) == "HearthError" || ("ValueError" : Str) == "ValueError")=true by decide]; exact⟨XK_NotWood.exc,zB sV_NW⟩
  ·rw [aX_NP] at h1; cases h1; rw [hb,show (("NoPaper" : Str) == "ValueError" || ("ValueError" : Str) == "HearthError" || ("ValueError" : Str) == "ValueError")=true by decide]; exact⟨XK_NoPaper.exc,zB sV_NP⟩
  ·rw [zX_NS] at h1; cases h1
  ·rw [zX_TM] at h1; cases h1
  ·rw [zX_NT] at h1; cases h1
  ·rw [zX_OR] at h1; cases h1),aV2⟩
 have x_BadSet:Xc K mg base "BadSet":=⟨C_BadSet,_,_,_,_,ac3 KB (mg_of X G aX_BS) q_BS,PySem.F.excBase_ValueError,aX_BS⟩
 have x_NoPaper:Xc K mg base "NoPaper":=⟨C_NoPaper,_,_,_,_,ac3 KB (mg_of X G aX_NP) q_NP,PySem.F.excBase_ValueError,aX_NP⟩
 have D0:=aP4 (bg3 (P:=l.prog) (w:=w) (base:=base) B h0.F) (h0.F.binds (ps:=["things"]) fun _ _ _ _ _ _ us hl=>by obtain ⟨_,rfl⟩:=oI hl; rfl) h0.F.kp (mg_of X G h0.a)
 have D1:=bg7 (P:=l.prog) (w:=w) (base:=base) B (h1.M X G)
 have D2:=aP5 (bg4 (P:=l.prog) (w:=w) (mg:=mg) (base:=base) h2.F) (h2.F.binds (ps:=["web"]) fun _ _ _ _ _ _ us hl=>by obtain ⟨_,rfl⟩:=oI hl; rfl) h2.F.kp (mg_of X G h2.a)
 have D3:=bg8 (P:=l.prog) (w:=w) (base:=base) B (h3.M X G)
 have D4:=bh0 (P:=l.prog) (w:=w) (base:=base) B (h4.M X G)
 have D5:=bh2 (P:=l.prog) (w:=w) (base:=base) B (h5.M X G)
 have D6:=bh4 (P:=l.prog) (w:=w) (base:=base) B (h6.M X G)
 have D7:=bh5 (P:=l.prog) (w:=w) (base:=base) B (h7.M X G)
 have D8:=bh7 (P:=l.prog) (w:=w) (base:=base) B (h8.M X G)
 have D9:=aY9 (bg5 (P:=l.prog) (w:=w) (mg:=mg) (base:=base) h9.F) (h9.F.binds (ps:=["web"]) fun _ _ _ _ _ _ us hl=>by obtain ⟨_,rfl⟩:=oI hl; rfl) h9.F.kp (mg_of X G h9.a)
 have D10:=bh8 (P:=l.prog) (w:=w) (base:=base) B (h10.M X G)
 have D11:=bi0 (P:=l.prog) (w:=w) (base:=base) B (h11.M X G) D1
 have D12:=bi2 (P:=l.prog) (w:=w) (base:=base) B (h12.M X G) D4
 have D13:=bi3 (P:=l.prog) (w:=w) (base:=base) B (h13.M X G) D3
 have D14:=bi5 (P:=l.prog) (w:=w) (base:=base) B (h14.M X G) D4
 have D15:=bi6 (P:=l.prog) (w:=w) (base:=base) B (h15.M X G) D3
 have D16:=bi7 (P:=l.prog) (w:=w) (base:=base) B (h16.M X G) D6
 have D17:=bi8 (P:=l.prog) (w:=w) (base:=base) B (h17.M X G) D6 D7
 have D18:=bi9 (P:=l.prog) (w:=w) (base:=base) B (h18.M X G) D9
 have D19:=bj0 (P:=l.prog) (w:=w) (base:=base) B (h19.M X G) D9
 have D20:=bj1 (P:=l.prog) (w:=w) (base:=base) B (h20.M X G) D8
 have D21:=bj3 (P:=l.prog) (w:=w) (base:=base) B (h21.M X G) D7
 have D22:=bj4 (P:=l.prog) (w:=w) (base:=base) B (h22.M X G) D10
 have D23:=bj6 (P:=l.prog) (w:=w) (base:=base) B (h23.M X G) D0 D11
 have D24:=bj8 (P:=l.prog) (w:=w) (base:=base) B (h24.M X G) D13 D1
 have D25:=bk0 (P:=l.prog) (w:=w) (base:=base) B (h25.M X G) D1 D14
 have D26:=bk1 (P:=l.prog) (w:=w) (base:=base) B (h26.M X G) D3 D12
 have D27:=bk2 (P:=l.prog) (w:=w) (base:=base) B (h27.M X G) D16 D6 D7 D17
 have D28:=bk3 (P:=l.prog) (w:=w) (base:=base) B (h28.M X G) D16 D6 D7
 have D29:=bk5 (P:=l.prog) (w:=w) (base:=base) B (h29.M X G) D18
 have D30:=bk7 (P:=l.prog) (w:=w) (base:=base) B (h30.M X G) D23 x_BadSet
 have D31:=bk8 (P:=l.prog) (w:=w) (base:=base) B (h31.M X G) D20 D29 D19
 have D32:=bk9 (P:=l.prog) (w:=w) (base:=base) B (h32.M X G) D30 D3 D2 D25
 have D33:=bl0 (P:=l.prog) (w:=w) (base:=base) B (h33.M X G) D30 D26 D2
 have D34:=bl1 (P:=l.prog) (w:=w) (base:=base) B (h34.M X G) D2 D30 D15 D13
 have D35:=bl2 (P:=l.prog) (w:=w) (base:=base) B (h35.M X G) D32
 have D36:=bl4 (P:=l.prog) (w:=w) (base:=base) B (h36.M X G) D34 D24
 have D37:=bl5 (P:=l.prog) (w:=w) (base:=base) B (h37.M X G) D23 D33 D4 D3
 have D38:=bl7 (P:=l.prog) (w:=w) (base:=base) B (h38.M X G) D35
 have D39:=bl9 (P:=l.prog) (w:=w) (base:=base) B (h39.M X G) D1 D36
 have D40:=bm1 (P:=l.prog) (w:=w) (base:=base) B (h40.M X G) D38 D1
 have D41:=bm2 (P:=l.prog) (w:=w) (base:=base) B (h41.M X G) D39 D2 D36 D5
 have D42:=bm3 (P:=l.prog) (w:=w) (base:=base) B (h42.M X G) D2 D41 D5 rv
 have D43:=bm4 (P:=l.prog) (w:=w) (base:=base) B (h43.M X G) D23 D40 D37 x_NoPaper
 have D44:=bm5 (P:=l.prog) (w:=w) (base:=base) B (h44.M X G) D6 D42 D21
 exact aQ2 (bm6 B F45 D27 D6 D28 D44 D7 D22 D43 D31 D8 cat_HearthError is_BadSet is_NoPaper is_ValueError)
theorem bm8 {l:OpenLaw}{q:Program}{loose:List Str}{XP:(Str->Option Value)->Heap->Prop}{YP:World->Heap->Prop}{d:DefRec}{K:Params->Frag} (hn:l.most=some 63) (hdf:d.params.defaults = [])
  (hY:∀ (w:World) (h:Heap),YP w h->(K w.params).In h)
  (F:∀ (w:World) (mg:Str->Option Value) (fa:Addr) (h:Heap),(K w.params).In h->h.Ns mainGlobals mg->mg d.name=some (.ref fa)->
   ∃ fd:FuncData,(∀ (s:Shared) (u:Value),BindsTo s fd ⟨[u],[]⟩ [("script",u)])/\∀ base:Heap,(K w.params).In base->base.Ns mainGlobals mg->dD l.prog w (K w.params) mg base eB 11 fa fd ["script"] (tG (K w.params))) :
  WalkO q loose XP YP l.row.toRowW d [] (fun f vs=>PySem.call f vs):=
 L2.az8 (n:=63) (k:=11) (x:="script") (CX:=fun _=>eB) (sp:=fun w=>tG (K w.params)) hn (by decide) hdf ⟨rfl,by decide,by decide⟩ hY F (fun _ _ a ns hl hO hS=>⟨a,ns,rfl,aQ3 hO hS,hl,fun _=>rfl⟩) fun _ _ _ _ _ z=>z
end K_k50
open PySem PySem.W PyProof.Rows
theorem PySem.W.Fast.te13052408679150730464 : True := trivial
theorem PySem.W.Fast.te16555476440528808052 : True := trivial
theorem PySem.W.Fast.te5369427470323729400 : True := trivial
set_option maxRecDepth 100000 in
set_option maxHeartbeats 0 in
theorem PySem.Challenge.cw_kindleweb_k50_apart_papers_judged_holds : PySem.Challenge.rw_kindleweb_k50_apart_papers_judged.Holds := by
 w_on; o_law; k_head; (case hw => w_witness2)
 k_fill
 refine K_k50.bm8 (l := PySem.Challenge.rw_kindleweb_k50_apart_papers_judged) rfl rfl (fun w h Y => PySem.W.kIn_of Y) ?F
 case F =>
  intro w mg fa h KX G hmg
  refine' K_k50.bm7 KX G hmg ?h0 ?h1 ?h2 ?h3 ?h4 ?h5 ?h6 ?h7 ?h8 ?h9 ?h10 ?h11 ?h12 ?h13 ?h14 ?h15 ?h16 ?h17 ?h18 ?h19 ?h20 ?h21 ?h22 ?h23 ?h24 ?h25 ?h26 ?h27 ?h28 ?h29 ?h30 ?h31 ?h32 ?h33 ?h34 ?h35 ?h36 ?h37 ?h38 ?h39 ?h40 ?h41 ?h42 ?h43 ?h44 ?a45 ?l45 ?c45 ?k45 ?z_len ?z_range ?z_tuple ?z_list ?z_sorted ?z_all ?z_any ?z_zip ?z_min ?z_max ?z_sum ?z_isinstance ?z_int ?z_bool ?z_enumerate ?z_reversed ?aX_HE ?aX_BS ?aX_NW ?aX_NP ?zX_BW ?zX_BO ?zX_BP ?zX_BB ?zX_BD ?zX_NS ?zX_TM ?zX_NT ?zX_OR ?y_fg ?y_ft ?z_VE ?y1_HE ?y2_HE ?y3_HE ?y4_HE ?y5_HE ?y6_HE ?y7_HE ?y1_BS ?y2_BS ?y3_BS ?y4_BS ?y5_BS ?y6_BS ?y7_BS ?y1_NW ?y2_NW ?y3_NW ?y4_NW ?y5_NW ?y6_NW ?y7_NW ?y1_NP ?y2_NP ?y3_NP ?y4_NP ?y5_NP ?y6_NP ?y7_NP ?sB_HE ?s_BS_HE ?s_NW_HE ?s_NP_HE ?sN_BS ?s_NW_BS ?n_NW_BS ?s_NP_BS ?n_NP_BS ?sN_NP ?s_BS_NP ?n_BS_NP ?s_NW_NP ?n_NW_NP ?sV_BS ?sV_NW ?sV_NP ?q_BS ?q_NP
  (case h0 | h1 | h2 | h3 | h4 | h5 | h6 | h7 | h8 | h9 | h10 | h11 | h12 | h13 | h14 | h15 | h16 | h17 | h18 | h19 | h20 | h21 | h22 | h23 | h24 | h25 | h26 | h27 | h28 | h29 | h30 | h31 | h32 | h33 | h34 | h35 | h36 | h37 | h38 | h39 | h40 | h41 | h42 | h43 | h44 => exact ⟨by k_is, ⟨⟨_, _, _, _, _, _, _, _, _, rfl, by k_is, by k_is⟩, by k_is⟩⟩)
  (case a45|l45|c45|k45|z_len|z_range|z_tuple|z_list|z_sorted|z_all|z_any|z_zip|z_min|z_max|z_sum|z_isinstance|z_int|z_bool|z_enumerate|z_reversed|aX_HE|aX_BS|aX_NW|aX_NP|zX_BW|zX_BO|zX_BP|zX_BB|zX_BD|zX_NS|zX_TM|zX_NT|zX_OR|y_fg|y_ft|z_VE|y1_HE|y2_HE|y3_HE|y4_HE|y5_HE|y6_HE|y7_HE|y1_BS|y2_BS|y3_BS|y4_BS|y5_BS|y6_BS|y7_BS|y1_NW|y2_NW|y3_NW|y4_NW|y5_NW|y6_NW|y7_NW|y1_NP|y2_NP|y3_NP|y4_NP|y5_NP|y6_NP|y7_NP|sB_HE|s_BS_HE|s_NW_HE|s_NP_HE|sN_BS|s_NW_BS => k_is)
  (case n_NW_BS => decide)
  (case s_NP_BS => k_is)
  (case n_NP_BS => decide)
  (case sN_NP|s_BS_NP => k_is)
  (case n_BS_NP => decide)
  (case s_NW_NP => k_is)
  (case n_NW_NP => decide)
  (case sV_BS|sV_NW|sV_NP => k_is)
  (case q_BS|q_NP => k_exc)


